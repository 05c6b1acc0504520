import Derived.Test.YthppgbjejomdiaaGreatDoorj36
set_option linter.all false
set_option maxHeartbeats 4000000
set_option maxRecDepth 100000
open Go renaming World->ay,Value->aE,Addr->aI,Calls->a4,heap_alloc_new->a9,cell_of_row->bb,TypeId->be,bodyPost_ret->bi,setRow_heap->bm,Ending->bp,bytes->bs,below_setRow->bt,callsIn_wide->bv,heap_setCell_same->bE,setRow_size->bH
open Go.Ending renaming returned->aL
open Go.RowKit renaming Below->ac
open Go.Value renaming slice->aa,int->aj,agg->aP,pointer->bn,bool->br,tuple->bB
open Go.World renaming size_alloc->a7,size_drew->a8
open List renaming nil_append->a6
open Nat renaming zero_add->a5
namespace Go.Proofs.YthppgbjejomdiaaGreatDoor
open RowKit Shelf
variable {name:ByteArray}{now shift x0 x1:Int}{O xs:List aE}{q:Mv}{B N R Y b c k lo n J p size:Nat}{T t:Nat->Int}{f:Nat->Mv}{ao bo:Option aI}{e:be}{u v r y:aE}{W W' w w':ay}
def Ct (r:Option (Nat->Int))(e:bp):Prop:=∃(x0 x1:Int) (g:Option aI) (h i:Nat) (m:Option aI) (o z:Nat),e=aL (bB #[aP #[x0,x1,aa g h i,aa m o z],r.isSome])
def rj (f:Nat->Mv)(n:Nat)(t:Nat->Int)(p:Nat)(shift:Int)(r:Option (Nat->Int))(w:ay)(e:bp)(w':ay):Prop:=
 match r with
 |none=>e=aL (bB #[aP #[(0:Int),(0:Int),(),()],false])
 |some T=>∃U Z BT cT,e=aL (bB #[aP #[aj .i64<|t p,shift,aa (some ⟨U,0,none⟩) (aw f t p n).length Z,aa (some ⟨BT,0,none⟩) (aw f t p n).length cT],true])/\U<w'/\aM w' U 0 (aw f t p n).length (jT<|aw f t p n)/\aC w' BT (aw f t p n).length T
def rj.says {r e}(h:rj f n t p shift r w e w'):Ct r e:=by rcases r with _|T;exact⟨0,0,none,0,0,none,0,0,h⟩;let⟨U,Z,BT,cT,h,_⟩:=h;exact⟨_,_,_,_,_,_,_,_,h⟩
def ia {g}(h:aC w b n g)(e:w'.heap[b]?=w.heap[b]?):aC w' b n g:=by let⟨⟨m,o,z⟩,E⟩:=h;exact⟨⟨m,e.trans o,z⟩,λi F=>(agt e).trans<|E i F⟩
def lK (w:ay)(B:Nat)(x0 x1:Int)(g i m o z E)(h:w.heap[B]?=some (.cells #[x0,x1,aa g i m,aa o z E] 42 (0,0))):w.cell? B=some (aj .i64 x0)/\w.cell? ⟨B,1,none⟩=some (aj .i64 x1)/\w.cell? ⟨B,2,none⟩=some (aa g i m)/\w.cell? ⟨B,3,none⟩=some (aa o z E):=by grind [World.cell?]
def Sq {p:Prop}(x9:p:=by simp[results,Tryz.f63,go_sem,q0,q1,q2,q3]):p:=x9
def uJ (b n cap b' cap' p:Nat)(f t)(now shift:Int)(w:ay)(hm:aH f n)(hf:ga f t n)(hp:p<n)(bN:b<w)(az:aM w b 0 n f)(bz:b'<w)(aV:aD w b' 0 n t): a4 Tz.prog 63 #[aP #[now,shift,aa b n cap,aa b' n cap'],aj .i64 p] w λe w'=>rj f n t p shift (dI f n t p) w e w'/\ac w w w':=by
 have h6:=bY hm;have bj:=Mv.gp<|bf hm p hp;have LD:=iE<|hf.1 p hp;obtain⟨wB,Nl⟩:∃W,W=(w.alloc<|.cells #[aj .i64 now,aj .i64 shift,aa (some ⟨b,0,none⟩) n cap,aa (some ⟨b',0,none⟩) n cap'] 42).alloc (.cells #[(0:Int),(0:Int),aa none 0 0,aa none 0 0] 42):=⟨_,rfl⟩;have zG:ac w w wB:=by rw[Nl];exact((agn _ w).alloc (agw _) _).alloc aN _
 have Ga:aR wB ((w:Nat)+1) 0 0 (aa none 0 0) (aa none 0 0):=by rw[Nl];exact d8 _ _ _
 have H1:=JS b n cap b' cap' p f t now shift wB hm hf hp (agx bN zG.size) (az.below zG bN) (agx bz zG.size)<|aV.below zG bz;rw[Nl]at H1;go_enter Tz.func63,Tryz.ntmps63;by_cases ad:t p+6<=(f p).late
 .have hR:dI f n t p=gG (jT<|aw f t p n) (aw f t p n).length (t p) 6:=by unfold dI;grind
  have gZ:=rQ (f:=f) (t:=t) (p:=p) hp;have a3:=jc f t p n;have HP:=λ(U cN:Nat) (W:ay) (aG:U<W) (hr:aM W U 0 (aw f t p n).length (jT<|aw f t p n))=>tu U (aw f t p n).length cN (jT<|aw f t p n) (t p) 6 W ab (λi hi=>tL hm hf hp ad hi) ab ab ab ab (λhr=>Hj hm hf hp ad hr) aG hr;rw[hR];clear hR;cases hP:gG (jT<|aw f t p n) (aw f t p n).length (t p) 6 with
  |none=>
   rw[hP]at HP;go_wp2_with(first
    |(go_at_call 87;refine H1.mono ?_;clear H1;rintro e Z ⟨l1,b1⟩;rw[<-Nl]at b1 l1;unfold nO at l1;rw[if_pos ad]at l1;obtain⟨U,cN,rfl,SY,XK,rN⟩:=l1;have r1:=Ga.same<|b1.block _ Ga.lt;have yy:=r1.cells;have au:=r1.lt;have bK:=zG.trans<|b1.mono zG.size)
    |(go_at_call 60;refine(HP _ _ _ cY<|rN.below ((agn _ _).alloc (agw _) _) XK).mono ?_;clear HP;rintro e w2 ⟨⟨a2,c2,rfl⟩,b2⟩;have dh:=((agn _ Z).alloc (agw _) _).trans<|b2.mono aN;have r2:=r1.same<|dh.block _ r1.lt;have zz:=r2.cells;have aZ:=r2.lt))
   rw[va r2];have xf:=bm w2 ((w:Nat)+1) _ #[(0:Int),(0:Int),aa none 0 0,aa none 0 0] _ _ r2;have jd:=bt (bK.trans<|dh.mono bK.size) (by omega:(w:Nat)<=(w:Nat)+1) #[(0:Int),(0:Int),aa none 0 0,aa none 0 0];revert xf jd;generalize w2.setRow ((w:Nat)+1) #[(0:Int),(0:Int),aa none 0 0,aa none 0 0]=W5;intro xf jd;let⟨q0,q1,q2,q3⟩:=lK W5 _ 0 0 none 0 0 none 0 0 xf;refine bi ?_ rfl ⟨rfl,jd⟩;exact Sq
  |some T=>
   rw[hP]at HP;go_wp2_with(first
    |(go_at_call 87;refine H1.mono ?_;clear H1;rintro e Z ⟨l1,b1⟩;rw[<-Nl]at b1 l1;unfold nO at l1;rw[if_pos ad]at l1;obtain⟨U,cN,rfl,SY,XK,rN⟩:=l1;have r1:=Ga.same<|b1.block _ Ga.lt;have yy:=r1.cells;have au:=r1.lt;have bK:=zG.trans<|b1.mono zG.size)
    |(go_at_call 60;refine(HP _ _ _ cY<|rN.below ((agn _ _).alloc (agw _) _) XK).mono ?_;clear HP;rintro e w2 ⟨⟨BT,c2,SZ,rfl,oT,_⟩,b2⟩;have dh:=((agn _ Z).alloc (agw _) _).trans<|b2.mono aN;have r2:=r1.same<|dh.block _ r1.lt;have zz:=r2.cells;have aZ:=r2.lt;have x2:aR w2 Z (t p) shift (aa (some ⟨U,0,none⟩) (aw f t p n).length cN) (aa none 0 0):=(b2.block _ aN).trans<|heap_alloc_new _ _;have vv:=x2.cells;have bk:=x2.lt;have ax:(w:Nat)+1≠(Z:Nat):=agN au;have bl:=ax.symm))
   have hs:∀k,k≠(Z:Nat)->(w2.setCell ⟨Z,3,none⟩<|aa (some ⟨BT,0,none⟩) (aw f t p n).length c2).heap[k]?=w2.heap[k]?:=λk hk=>agp _ _ _ k hk;have av:=(bK.trans<|dh.mono bK.size).setCell (p:=⟨Z,3,none⟩) bK.size<|aa (some ⟨BT,0,none⟩) (aw f t p n).length c2;have C':(w2.setCell ⟨Z,3,none⟩<|aa (some ⟨BT,0,none⟩) (aw f t p n).length c2).heap.size=(w2:Nat):=aN;revert hs av C';generalize w2.setCell ⟨Z,3,none⟩ (aa (some ⟨BT,0,none⟩) (aw f t p n).length c2)=w3;intro hs av C';have r3:=r2.same<|hs _ ax;have ED:(w3:Nat)=(w2:Nat):=C';have a0:=dh.block U XK;(have BI:(w:Nat)+2<=U:=by rw[Nl]at SY;simpa using SY);have bq:=agx XK dh.size;have bx:(Z:Nat)+1<=BT:=cQ;have bA:=oT.lt;rw[va r3];have xf:=bm w3 ((w:Nat)+1) _ #[aj .i64<|t p,aj .i64 shift,aa (some ⟨U,0,none⟩) (aw f t p n).length cN,aa (some ⟨BT,0,none⟩) (aw f t p n).length c2] _ _ r3;have jd:=bt av (by omega:(w:Nat)<=(w:Nat)+1) #[aj .i64<|t p,aj .i64 shift,aa (some ⟨U,0,none⟩) (aw f t p n).length cN,aa (some ⟨BT,0,none⟩) (aw f t p n).length c2];have tY:(w3.setRow ((w:Nat)+1) #[aj .i64<|t p,aj .i64 shift,aa (some ⟨U,0,none⟩) (aw f t p n).length cN,aa (some ⟨BT,0,none⟩) (aw f t p n).length c2]).heap.size=(w3:Nat):=bH _ _ _;have oB:∀k,k≠(w:Nat)+1->(w3.setRow ((w:Nat)+1) #[aj .i64<|t p,aj .i64 shift,aa (some ⟨U,0,none⟩) (aw f t p n).length cN,aa (some ⟨BT,0,none⟩) (aw f t p n).length c2]).heap[k]?=w3.heap[k]?:=λk hk=>setRow_other _ _ _ _ hk;revert xf jd tY oB;generalize w3.setRow ((w:Nat)+1) #[aj .i64<|t p,aj .i64 shift,aa (some ⟨U,0,none⟩) (aw f t p n).length cN,aa (some ⟨BT,0,none⟩) (aw f t p n).length c2]=W5;intro xf jd tY oB;let⟨q0,q1,q2,q3⟩:=lK W5 _ _ _ _ _ _ _ _ _ xf;refine bi ?_ rfl ⟨⟨U,cN,BT,c2,rfl,ab,dL rN<|(oB U ab).trans<|(hs U ab).trans a0,ia oT<|(oB BT ab).trans<|hs BT ab⟩,jd⟩;exact Sq
 have hR:dI f n t p=none:=by unfold dI;grind
 rw[hR];clear hR;go_wp2_with(go_at_call 87;refine H1.mono ?_;clear H1;rintro e Z ⟨l1,b1⟩;rw[<-Nl]at b1 l1;unfold nO at l1;rw[if_neg ad]at l1;subst l1;have r1:=Ga.same<|b1.block _ Ga.lt;have yy:=r1.cells;have au:=r1.lt;have bK:=zG.trans<|b1.mono zG.size)
 rw[va r1];have xf:=bm Z ((w:Nat)+1) _ #[(0:Int),(0:Int),aa none 0 0,aa none 0 0] _ _ r1;have jd:=bt bK (by omega:(w:Nat)<=(w:Nat)+1) #[(0:Int),(0:Int),aa none 0 0,aa none 0 0];have tY:(Z.setRow ((w:Nat)+1) #[(0:Int),(0:Int),aa none 0 0,aa none 0 0]).heap.size=(Z:Nat):=bH _ _ _;revert xf jd tY;generalize Z.setRow ((w:Nat)+1) #[(0:Int),(0:Int),aa none 0 0,aa none 0 0]=W5;intro xf jd tY;have LA:=λo=>(ago W5 o ((w:Nat)+1) ab).trans xf;have a1:=λo=>jd.alloc (o:=o) jd.size;have q0:=λo=>(lK (W5.alloc o) _ 0 0 none 0 0 none 0 0<|LA o).1;have q1:=λo=>(lK (W5.alloc o) _ 0 0 none 0 0 none 0 0<|LA o).2.1;have q2:=λo=>(lK (W5.alloc o) _ 0 0 none 0 0 none 0 0<|LA o).2.2.1;have q3:=λo=>(lK (W5.alloc o) _ 0 0 none 0 0 none 0 0<|LA o).2.2.2;refine bi ?_ rfl ⟨rfl,a1 _⟩;exact Sq
def Gw (b n cap U cap' p:Nat)(f t)(now shift:Int)(w:ay)(Z:aH f n)(hf:ga f t n)(hp:p<n)(bN:b<w)(az:aM w b 0 n f)(bz:U<w)(aV:aD w U 0 n t):
  a4 Tz.prog 63 #[aP #[now,shift,aa b n cap,aa U n cap'],aj .i64 p] w λe w'=>Ct (dI f n t p) e/\ac w w w':=
 (uJ b n cap U cap' p f t now shift w Z hf hp bN az bz aV).mono λe w' h=>⟨h.1.says,h.2⟩
def acU {p:Prop}(x9:p:=by
 go_wp2_with(go_at_call 63;refine H2.mono ?_;clear H2;rintro e w2 ⟨⟨x0,x1,x2,l2,c2,x3,l3,c3,rfl⟩,b2⟩;let⟨bk2,d1,aca⟩:=FACTS w2 b2;rw[Lv]at d1;have zz:=bk2.cells;have lk2:=bk2.lt;rw[hr])
 all_goals try omega
 go_roundw
 case rel=>exact⟨k+1,by go_num,ab,(iK.trans<|b2.mono iK.size).alloc ab _,bk2.same<|ago _ _ _ lk2,λp hp hl=>by by_cases e:p=k;subst e;rw[hr];rfl;exact dq p ab hl⟩
 exact cD):p:=x9
def pE (now shift:Int)(b n cap:Nat)(f:Nat->Mv)(U m cap':Nat)(t:Nat->Int)(w:ay)(hn:n<=1048576)(jQ:m<=maxLen)(bN:b<w)(az:aM w b 0 n f)(jC:∀i,i<n->(f i).Fits)(bz:U<w)(aV:aD w U 0 m t):
  a4 Tz.prog 39 #[aP #[now,shift,aa b n cap,aa U m cap']] w λe w'=>e=aL (fG now shift f n t m)/\ac w w w':=by
 obtain⟨wB,Nl⟩:∃W,W=w.alloc (.cells #[aj .i64 now,aj .i64 shift,aa (some ⟨b,0,none⟩) n cap,aa (some ⟨U,0,none⟩) m cap'] 42):=⟨_,rfl⟩;have Z:ac w w wB:=by rw[Nl];exact(agn _ w).alloc ab _
 have qd:aR wB w now shift (aa (some ⟨b,0,none⟩) n cap) (aa (some ⟨U,0,none⟩) m cap'):=by rw[Nl];exact a9 _ _
 have H1:=vj now shift b 0 n cap f U 0 m cap' t wB hn jQ (agx bN Z.size) (az.below Z bN) jC (agx bz Z.size)<|aV.below Z bz;rw[Nl]at H1;go_enter Tz.func39,Tryz.ntmps39
 cases hb:aY now shift f n t m with
 |false=>
  rw[hb]at H1;rw[Ig hb];go_wp2_with(go_at_call 55;refine H1.mono ?_;clear H1;rintro e w1 ⟨rfl,b1⟩;rw[<-Nl]at b1)
  go_ret;exact⟨rfl,Z.trans<|b1.mono Z.size⟩
 |true=>
  let⟨hm,BJ,hf⟩:=bL hb;replace BJ:=BJ.symm;subst BJ;have h6:=bY hm;rw[hb]at H1;have HB:Hid (aY now shift f n t n=true):=hb;go_wp2_with(go_at_call 55;refine H1.mono ?_;clear H1;rintro e w1 ⟨rfl,b1⟩;rw[<-Nl]at b1)
  have bK:=Z.trans<|b1.mono Z.size;have av:=qd.same<|b1.block _ qd.lt;go_loopw [3,4,5] (λx _ _ W=>∃k:Nat,x=aj .i64 k/\k<=n/\ac w w W/\aR W w now shift (aa (some ⟨b,0,none⟩) n cap) (aa (some ⟨U,0,none⟩) n cap')/\∀p,p<k->(f p).ax=true->(dI f n t p).isSome=true) (λx _ _ _=>n-(intOf x).toNat)
  case atStart=>grind
  obtain⟨k,rfl,hk,iK,ad,dq⟩:=hrel;have yy:=ad.cells;by_cases aG:k<n
  .have dQ:(k:Int)<n:=by omega
   have au:=agx bN iK.size;have H2:=Gw b n cap U cap' k f t now shift wr hm hf aG au (az.below iK bN) (agx bz iK.size)<|aV.below iK bz;have FACTS:∀w2,ac wr wr w2->aR w2 w now shift (aa (some ⟨b,0,none⟩) n cap) (aa (some ⟨U,0,none⟩) n cap')/\w2.cell? ⟨b,k*6+1,none⟩=some (br (f k).ax)/\b<w2:=λw2 hb=>by
    have h:=((az.below iK bN).below hb au k aG).c1;rw[a5]at h;exact⟨ad.same<|hb.block _ ad.lt,h,agx au hb.size⟩
   cases hr:dI f n t k with
   |none=>
    cases Lv:(f k).ax with
    |false=>
     go_wp2_with(go_at_call 63;refine H2.mono ?_;clear H2;rintro e w2 ⟨⟨x0,x1,x2,l2,c2,x3,l3,c3,rfl⟩,b2⟩;let⟨bk2,d1,aca⟩:=FACTS w2 b2;rw[Lv]at d1;have zz:=bk2.cells;have lk2:=bk2.lt;rw[hr])
     all_goals try omega
     go_roundw
     case rel=>exact⟨k+1,by go_num,ab,(iK.trans<|b2.mono iK.size).alloc ab _,bk2.same<|ago _ _ _ lk2,λp hp hl=>by
      by_cases e:p=k
      .subst e;rw[Lv]at hl;cases hl
      .exact dq p ab hl⟩
     exact cD
    |true=>
     have lw:fG now shift f n t n=false:=DI (λh=>by have:=h k aG Lv;rw[hr]at this;cases this);go_wp2_with(go_at_call 63;refine H2.mono ?_;clear H2;rintro e w2 ⟨⟨x0,x1,x2,l2,c2,x3,l3,c3,rfl⟩,b2⟩;let⟨bk2,d1,aca⟩:=FACTS w2 b2;rw[Lv]at d1;have zz:=bk2.cells;have lk2:=bk2.lt;rw[hr])
     all_goals try omega
     go_ret;exact⟨by first|rfl|(rw[lw];rfl)|rw[lw],(iK.trans<|b2.mono iK.size).alloc ab _⟩
   |some T=>
    cases Lv:(f k).ax with
    |false=>
     exact acU
    |true=>
     exact acU
  have dQ:¬(k:Int)<n:=by omega
  have ye:fG now shift f n t n=true:=wF HB.out λp hp=>dq p ab;go_wp2;all_goals try omega
  go_ret;simp_all
def iL:Tz.prog.underlying 40=some (.slice 3):=aO
def uH:∃i,Tz.prog.info? 3=some i/\i.zero=some (aj .i64 0)/\i.size=1/\i.bytes=8:=by have h:(Tz.prog.info? 3).map (λi=>(i.zero,i.size,i.bytes))=some (some<|aj .i64 0,1,8):=aO;simp_all
section
variable {base a:Nat}
def aA (h:w.ownsRow base e size v n xs)(z:∀B,v.ownBlock=some B->w'.heap[B]?=w.heap[B]?):w'.ownsRow base e size v n xs:=by obtain⟨o,⟨rfl,rfl⟩|⟨g,i,m,rfl,E,F,G⟩⟩:=h;exact⟨o,.inl ⟨rfl,rfl⟩⟩;exact⟨o,.inr ⟨g,i,m,rfl,E,(z g rfl).trans F,G⟩⟩
def cm (h:w.ownsRow base e size v n xs)(E:a<=base):w.ownsRow a e size v n xs:=by obtain⟨z,i|⟨g,m,o,i,F,G⟩⟩:=h;exact⟨z,.inl i⟩;exact⟨z,.inr ⟨g,m,o,i,agz E F,G⟩⟩
def mz (h:w.ownsRow base e size v n xs)(hn:v≠.slice none 0 0):∃B c,v=aa (some ⟨B,0,none⟩) n c:=by obtain⟨h1,z|⟨g,U,Z,z,h3,h4⟩⟩:=h;all_goals grind
def yC (h:w.ownsRow base e size v n xs)(U:v.ownBlock=some B):∃cs,w.heap[B]?=some (.cells cs e (0,0)):=by obtain⟨Z,⟨rfl,rfl⟩|⟨g,c,z,rfl,h3,h4,h5⟩⟩:=h;all_goals grind [Value.ownBlock]
def ja {g o z}(h:w.ownsRow base e size v n xs)(E:w.ownsRow a o z r J g)(i:e≠o)(F:v.ownBlock=some B):r.ownBlock≠some B:=λx=>by
 let⟨K,G⟩:=yC h F;let⟨L,m⟩:=yC E x;rw[G]at m;simp at m;exact i m.2
def ve (h:base<=(w:Nat)):(w.alloc<|.cells #[] e).ownsRow base e size (aa (some ⟨w,0,none⟩) 0 0) 0 []:=⟨aN,.inr ⟨w,0,#[],rfl,h,a9 w _,agw _,agB _,aN,aN⟩⟩
end
def bu {P ops o a K Q E} (hg:o.guard=none)(s x t)(bF:o.op=Op.call {callee:=Callee.builtin Builtin.append,args:=#[s,x],argTypes:=#[t,t]}) (e i z size bs)(h1:P.underlying t=some (.slice e))(h2:P.info? e=some i)(h3:i.zero=some z)(h4:i.size=size)(h5:i.bytes=bs)(h6:z.cells.size=size)(h7:0<size) (base v n Z)(hs:a.eval s=v)(bj:w.ownsRow base e size v n Z)(hv:v≠.slice none 0 0) (ao m c U)(hx:a.eval x=.slice ao m c)(hn:U.length=m*size)(au:ao=none->m=0/\c=0)(hc:∀ad,ao=some ad->∀j u,U[j]?=some u->w.cell? (ad.add j)=some u)(av:∀u∈U,u.oneCell'=true) (b1:n+m<=maxLen)(b2:(n+m)*bs<=140737488355328)(hb:base<=(w:Nat)) (hK:∀r w',w'.ownsRow base e size r (n+m) (Z++U)->r≠.slice none 0 0->w.grownBy w' v.ownBlock->K (a.put o.dst r) w'): if Region.wanted o (yielded ops a.tmps)=true then Oper.wp P o a w K Q else E:=by have hw:Region.wanted o (yielded ops a.tmps)=true:=ma;rw[if_pos hw];rcases ao with _|ad;obtain⟨rfl,rfl⟩:=au rfl;have gM:U=[]:=List.eq_nil_of_length_eq_zero ab;subst gM;unfold Oper.wp;simp[execOp,bF,resolve,invoke,builtin,hs,hx,(run_append_owned_none w base t o.type e i size h1 h2 _ n Z bj)];exact hK _ _ cQ hv<|World.grownBy.refl _ _;let⟨r,w',fT,r1,r2,r3⟩:=run_append_own w base t o.type e i z size bs h1 h2 h3 h4 h5 h6 h7 v n Z bj ad m c U hn (hc ad rfl) av b1 b2 hb;unfold Oper.wp;simp[execOp,bF,resolve,invoke,builtin,hs,hx,fT];exact hK r w' r1 (λx=>hv (r3.1 x).1) r2
def ql (w:ay)(ao:Option aI)(n c:Nat)(f:Nat->Mv):Prop:=(ao=none->n=0/\c=0)/\∀U,ao=some U->∃b,U=⟨b,0,none⟩/\b<w/\aM w b 0 n f
def pX (w:ay)(ao:Option aI)(n c:Nat)(t:Nat->Int):Prop:=(ao=none->n=0/\c=0)/\∀z,ao=some z->∃b,z=⟨b,0,none⟩/\b<w/\aD w b 0 n t
def tQ (h:∀ad,ao=some ad->∃b,ad=⟨b,0,none⟩/\b<w/\aM w b 0 n f)(hb:ac w w w'):∀ad,ao=some ad->∀j u,(bd f n)[j]?=some u->w'.cell? (ad.add j)=some u:=λad U=>by
 obtain⟨b,rfl,Z,hr⟩:=h ad U;exact ey<|hr.below hb Z
def tP (h:∀ad,ao=some ad->∃b,ad=⟨b,0,none⟩/\b<w/\aD w b 0 n t)(i:ac w w w'):∀ad,ao=some ad->∀j u,(eL t n)[j]?=some u->w'.cell? (ad.add j)=some u:=λad g=>by
 obtain⟨b,rfl,m,o⟩:=h ad g;exact xl<|o.below i m
structure Bx (N now shift v u)(W:ay):Prop where
 c0:W.cell? ⟨N,0,none⟩=some (aj .i64 now)
 c1:W.cell? ⟨N,1,none⟩=some (aj .i64 shift)
 c2:W.cell? ⟨N,2,none⟩=some v
 c3:W.cell? ⟨N,3,none⟩=some u
def Bx.same (h:Bx N now shift v u W)(e:W'.heap[N]?=W.heap[N]?):Bx N now shift v u W':=
 ⟨(agt e).trans h.c0,(agt e).trans h.c1,(agt e).trans h.c2,(agt e).trans h.c3⟩
structure Cp (w:ay)(now shift v u vm nm l j s x W):Prop where
 below:ac w w W
 size:(w:Nat)+2<=(W:Nat)
 box:W.heap[(w:Nat)]?=some (.cells #[aj .i64 now,aj .i64 shift,v,u] 42 (0,0))
 out:W.heap[(w:Nat)+1]?=some (.cells #[(0:Int),(0:Int),aa none 0 0,aa none 0 0] 42 (0,0))
 om:W.ownsRow ((w:Nat)+2) 30 6 vm nm l
 oi:W.ownsRow ((w:Nat)+2) 3 1 j s x
section
variable {vm:aE}{nm:Nat}{l:List aE}{j:aE}{s:Nat}{x:List aE}
def Cp.bx (h:Cp w now shift v u vm nm l j s x W):Bx w now shift v u W:=by constructor<;>(rw[bb _ _ _ _ _ _ h.box];rfl)
def Cp.grow (h:Cp w now shift v u vm nm l j s x W)(b:ac W W W'):Cp w now shift v u vm nm l j s x W':=
 ⟨h.below.trans<|b.mono h.below.size,agz h.size b.size,(b.block _ (by have:=h.size;omega)).trans h.box,(b.block _ (by have:=h.size;omega)).trans h.out,aA h.om λB g=>b.block B (h.om.lt B g).2,aA h.oi λB g=>b.block B (h.oi.lt B g).2⟩
def Cp.acm (h:Cp w now shift v u vm nm l j s x W):Cp w now shift v u (aa (some ⟨W,0,none⟩) 0 0) 0 [] j s x (W.alloc<|.cells #[] 30):=by have g:=h.grow (W':=W.alloc<|.cells #[] 30)<|(agn _ _).alloc ab _;exact⟨g.below,g.size,g.box,g.out,ve h.size,g.oi⟩
def Cp.J_ (h:Cp w now shift v u vm nm l j s x W):Cp w now shift v u vm nm l (aa (some ⟨W,0,none⟩) 0 0) 0 [] (W.alloc<|.cells #[] 3):=by have g:=h.grow (W':=W.alloc<|.cells #[] 3)<|(agn _ _).alloc ab _;exact⟨g.below,g.size,g.box,g.out,g.om,ve h.size⟩
def Cp.Pf (h:Cp w now shift v u vm nm l j s x W)(o:W'.ownsRow ((w:Nat)+2) 30 6 r J O)(g:W.grownBy W' vm.ownBlock):Cp w now shift v u r J O j s x W':=by have F:=h.size;exact⟨h.below.grown g h.below.size (λq E=>by have:=(h.om.lt q E).1;omega),agz h.size g.size,(g.block _ ab (λe=>by have:=(h.om.lt _ e.symm).1;omega)).trans h.box,(g.block _ ab (λe=>by have:=(h.om.lt _ e.symm).1;omega)).trans h.out,o,aA h.oi λB z=>g.block B (h.oi.lt B z).2 λe=>ja h.om h.oi bc e.symm z⟩
def Cp.Zh (h:Cp w now shift v u vm nm l j s x W)(o:W'.ownsRow ((w:Nat)+2) 3 1 r J O)(g:W.grownBy W' j.ownBlock):Cp w now shift v u vm nm l r J O W':=by have F:=h.size;exact⟨h.below.grown g h.below.size (λq E=>by have:=(h.oi.lt q E).1;omega),agz h.size g.size,(g.block _ ab (λe=>by have:=(h.oi.lt _ e.symm).1;omega)).trans h.box,(g.block _ ab (λe=>by have:=(h.oi.lt _ e.symm).1;omega)).trans h.out,aA h.om λB z=>g.block B (h.om.lt B z).2 λe=>ja h.om h.oi bc z e.symm,o⟩
end
def Cp.start (w now shift v u):Cp w now shift v u (aa none 0 0) 0 [] (aa none 0 0) 0 [] ((w.alloc<|.cells #[aj .i64 now,aj .i64 shift,v,u] 42).alloc<|.cells #[(0:Int),(0:Int),aa none 0 0,aa none 0 0] 42):=
 ⟨((agn _ w).alloc (agw _) _).alloc aN _,aN,(ago _ _ _ aN).trans<|heap_alloc_new w _,d8 _ _ _,⟨rfl,.inl ⟨rfl,rfl⟩⟩,⟨rfl,.inl ⟨rfl,rfl⟩⟩⟩
def gO (now shift ao n c f bo m d t w)(hn:n<=1048576)(hm:m<=1048576)(hv:ql w ao n c f)(hu:pX w bo m d t): a4 Tz.prog 56 #[aP #[aj .i64 now,aj .i64 shift,aa ao n c,aa bo m d]] w λe w'=>(∃B c B' c',e=aL (aP #[aj .i64 now,aj .i64 shift,aa (some ⟨B,0,none⟩) n c,aa (some ⟨B',0,none⟩) m c'])/\w'.ownsRow w 30 6 (aa (some ⟨B,0,none⟩) n c) n (bd f n)/\w'.ownsRow w 3 1 (aa (some ⟨B',0,none⟩) m c') m (eL t m))/\ac w w w':=by
 let⟨iM,hI,gE,eI,f8⟩:=fh;let⟨i0,Ln,Nm,IE,JH⟩:=uH;let⟨ad,ax⟩:=hv;let⟨az,aG⟩:=hu;have Z:=Cp.start w now shift (aa ao n c)<|aa bo m d;go_enter Tz.func56,Tryz.ntmps56;go_wp2;have Z:=Z.grow (agn _ _).drew;refine wp_region_held_drew aO Z.bx λU=>ai 0 (bn<|some ⟨w,0,none⟩) 3 rfl Wu U<|ai 1 (aj .i64 now) 4 rfl Wu U<|ai 2 (bn<|some ⟨w,1,none⟩) 5 rfl Wu U (ai 3 (aj .i64 shift) 6 rfl Wu U<|ai 5 (bn<|some ⟨w,2,none⟩) 8 rfl Wu U<|ai 6 (aa ao n c) 9 rfl Wu U<|ai 9 (bn<|some ⟨w,3,none⟩) 12 rfl Wu U<|ai 10 (aa bo m d) 13 rfl Wu U<|L9 4 8 rfl rfl (λK hK=>?_) λK hK=>?_);focus
  go_simp
  have Z:=Z.acm;try simp[a7,a8]at Z
  refine hK.out _ _ Z.bx λU=>?_;clear hK K;refine L9 7 8 rfl rfl (λK hK=>?_) λK hK=>?_;focus
   apply bu rfl (.tmp 7) (.tmp 9) 39 rfl 30 iM _ 6 56 aT hI gE eI f8 rfl bc ((w:Nat)+2) _ 0 [] bQ Z.om oK ao n c (bd f n) bQ (bI f n) ad (tQ ax Z.below) (fp f n) iR ab Z.size;intro v1 w1 Be uC nY;simp[a5,a6]at Be;have Z:=Z.Pf Be nY;clear Be nY;refine hK.out _ _ Z.bx λU=>?_;clear hK K;refine fH 8 rfl λK hK=>?_;go_simp
   have Z:=Z.J_;try simp only[a7,a8]at Z
   refine hK.out _ _ Z.bx λU=>?_;clear hK K;refine fH 11 rfl λK hK=>bu rfl (.tmp 11) (.tmp 13) 40 rfl 3 i0 _ 1 8 iL Ln Nm IE JH rfl bc ((w:Nat)+2) _ 0 [] bQ Z.oi oK bo m d (eL t m) bQ Bw az (tP aG Z.below) (jR t m) iR ab Z.size ?_;intro u1 w2 nI yq jI;simp[a5,a6]at nI;have Z:=Z.Zh nI jI;clear nI jI;refine hK.out _ _ Z.bx λU=>?_;clear hK K
  rotate_left;focus
   go_simp
   have Z:=Z.J_;try simp only[a7,a8]at Z
   refine hK.out _ _ Z.bx λU=>?_;clear hK K;refine fH 7 rfl λK hK=>bu rfl (.tmp 7) (.tmp 9) 39 rfl 30 iM _ 6 56 aT hI gE eI f8 rfl bc ((w:Nat)+2) _ 0 [] bQ Z.om oK ao n c (bd f n) bQ (bI f n) ad (tQ ax Z.below) (fp f n) iR ab Z.size ?_;intro v1 w1 Be uC nY;simp only[a5,a6]at Be;have Z:=Z.Pf Be nY;clear Be nY;refine hK.out _ _ Z.bx λU=>?_;clear hK K;refine fH 11 rfl λK hK=>?_;apply bu rfl (.tmp 11) (.tmp 13) 40 rfl 3 i0 _ 1 8 iL Ln Nm IE JH rfl bc ((w:Nat)+2) _ 0 [] bQ Z.oi oK bo m d (eL t m) bQ Bw az (tP aG Z.below) (jR t m) iR ab Z.size;intro u1 w2 nI yq jI;simp only[a5,a6]at nI;have Z:=Z.Zh nI jI;clear nI jI;refine hK.out _ _ Z.bx λU=>?_;clear hK K
 rotate_left 2;focus
  go_simp
  have Z:=Z.J_;try simp only[a7,a8]at Z
  refine hK.out _ _ Z.bx λU=>?_;clear hK K;refine fH 4 rfl λK hK=>?_;go_simp
  have Z:=Z.acm;try simp only[a7,a8]at Z
  refine hK.out _ _ Z.bx λU=>?_;clear hK K;refine fH 7 rfl λK hK=>?_;refine bu rfl (.tmp 7) (.tmp 9) 39 rfl 30 iM _ 6 56 aT hI gE eI f8 rfl bc ((w:Nat)+2) _ 0 [] bQ Z.om oK ao n c (bd f n) bQ (bI f n) ad (tQ ax Z.below) (fp f n) iR ab Z.size ?_;intro v1 w1 Be uC nY;simp only[a5,a6]at Be;have Z:=Z.Pf Be nY;clear Be nY;refine hK.out _ _ Z.bx λU=>?_;clear hK K;refine fH 11 rfl λK hK=>?_;refine bu rfl (.tmp 11) (.tmp 13) 40 rfl 3 i0 _ 1 8 iL Ln Nm IE JH rfl bc ((w:Nat)+2) _ 0 [] bQ Z.oi oK bo m d (eL t m) bQ Bw az (tP aG Z.below) (jR t m) iR ab Z.size ?_;intro u1 w2 nI yq jI;simp only[a5,a6]at nI;have Z:=Z.Zh nI jI;clear nI jI;refine hK.out _ _ Z.bx λU=>?_;clear hK K
 all_goals
  obtain⟨av,cv,rfl⟩:=mz Z.om uC;obtain⟨au,cu,rfl⟩:=mz Z.oi yq;apply ai 12 ((aP #[aj .i64 now,aj .i64 shift,aa (some ⟨av,0,none⟩) n cv,aa (some ⟨au,0,none⟩) m cu])) 15 rfl Wu U;simp[Act.put];refine fH 13 rfl λK hK=>?_;have r0:=bb w2 _ 0 _ _ _ Z.out;have r1:=bb w2 _ 1 _ _ _ Z.out;have r2:=bb w2 _ 2 _ _ _ Z.out;have r3:=bb w2 _ 3 _ _ _ Z.out;have rf:=λj=>frozen_of_row w2 _ j _ _ Z.out;simp at r0 r1 r2 r3
  go_simp
  refine hK.out _ _ (Z.bx.same<|by repeat(first|exact rfl|exact agp _ _ _ _ aN|refine(agp _ _ _ _ aN).trans ?_)) λU=>?_;clear hK K;refine wpAnyH_done aO ?_ _;clear U;go_wp2;have hm:=Z.om;have hi:=Z.oi;refine bi (by simp[results,Tryz.results56,go_sem,r0,r1,r2,r3]) rfl ⟨⟨_,_,_,_,rfl,cm (aA hm (λB hB=>by have:=(hm.lt B hB).1;rw[agp _ _ _ _ cY,agp _ _ _ _ cY,agp _ _ _ _ cY,agp _ _ _ _ cY])) ab,cm (aA hi (λB hB=>by have:=(hi.lt B hB).1;rw[agp _ _ _ _ cY,agp _ _ _ _ cY,agp _ _ _ _ cY,agp _ _ _ _ cY])) ab⟩,(((Z.below.setCell aN _).setCell aN _).setCell aN _).setCell aN _⟩
def ql.pos (h:ql w ao n c f)(Z:0<n):∃b,ao=some ⟨b,0,none⟩/\b<w/\aM w b 0 n f:=by rcases ao with _|U;have:=(h.1 rfl).1;omega;let⟨b,e,h1,h2⟩:=h.2 U rfl;grind
def pX.pos (h:pX w ao n c t)(U:0<n):∃b,ao=some ⟨b,0,none⟩/\b<w/\aD w b 0 n t:=by rcases ao with _|z;have:=(h.1 rfl).1;omega;let⟨b,e,Z,h2⟩:=h.2 z rfl;grind
def pX.below (h:pX w ao n c t)(hb:ac w w w'):pX w' ao n c t:=
 ⟨h.1,λZ z=>by let⟨b,e,U,h2⟩:=h.2 Z z;exact⟨b,e,agx U hb.size,h2.below hb U⟩⟩
def io (f:Nat->Mv)(n:Nat)(name:ByteArray)(k:Int):Prop:=k=-1/\(∀i,i<n->di (f i).name name=false)\/∃j:Nat,k=(j:Int)/\j<n/\di (f j).name name=true/\∀i,i<j->di (f i).name name=false
def Ag (now shift:Int)(ao n c f bo m d)(name:ByteArray)(w)(hn:n<=6)(hv:ql w ao n c f): a4 Tz.prog 58 #[aP #[now,shift,aa ao n c,aa bo m d],name] w λe w'=>(∃k:Int,e=aL (aj .i64 k)/\io f n name k)/\ac w w w':=by
 have zG:ac w w (w.alloc<|.cells #[now,shift,aa ao n c,aa bo m d] 42):=(agn _ w).alloc ab _;have qd:aR (w.alloc<|.cells #[now,shift,aa ao n c,aa bo m d] 42) w now shift (aa ao n c) (aa bo m d):=a9 _ _;go_enter Tz.func58,Tryz.ntmps58;go_wp2;go_loopw [5] (λx W=>∃k:Nat,x=aj .i64 k/\k<=n/\ac w w W/\aR W w now shift (aa ao n c) (aa bo m d)/\∀i,i<k->di (f i).name name=false) (λx _=>n-(intOf x).toNat)
 grind;obtain⟨k,rfl,hk,U,bk,Z⟩:=hrel;have yy:=bk.cells;by_cases aG:k<n
 .obtain⟨b,rfl,bN,az⟩:=hv.pos ab;have lb:=agx bN U.size;have dQ:(k:Int)<n:=ab;have c0:=(az.below U bN k aG).c0;simp[a5]at c0;cases he:di (f k).name name with|true=>have Qm:((f k).name.toList==name.toList)=true:=he;(go_wp2<;>try omega);go_ret;exact⟨⟨k,rfl,.inr ⟨k,rfl,aG,he,Z⟩⟩,U⟩|false=>have Qm:((f k).name.toList==name.toList)=false:=he;(go_wp2<;>try omega);(go_roundw);(case rel=>exact⟨k+1,by go_num,ab,U,bk,λi hi=>by by_cases e:i=k;subst e;omega;exact Z i ab⟩);exact cD
 have dQ:¬(k:Int)<n:=by omega
 go_wp2<;>try omega
 go_ret;exact⟨⟨-1,rfl,.inl ⟨rfl,λi hi=>Z i ab⟩⟩,U⟩
def IsB (e:bp):Prop:=∃x:Bool,e=aL (br x)
def AK (f k n m)(hk:k<=n):(bd f k++m.cells.toList)++bd (λj=>f<|k+j) (n-k)=bd (er f k m) (n+1):=by
 have U:bd f k=bd (er f k m) k:=pC λj hj=>by unfold er;grind
 have h2:bd f k++m.cells.toList=bd (er f k m) (k+1):=by rw[ii,U,show er f k m k=m by unfold er;rw[if_neg ab,if_pos rfl]]
 have h3:∀r,bd (er f k m) (k+1)++bd (λj=>f<|k+j) r=bd (er f k m) (k+1+r):=by intro r;induction r with|zero=>simp[bd]|succ r Z=>rw[ii (λj=>f<|k+j) r,<-List.append_assoc,Z,show k+1+(r+1)=k+1+r+1 by omega,ii _ (k+1+r)];congr 3;unfold er;grind
 grind
def uc (w:ay)(lo b n:Nat)(t:Nat->Int):Prop:=lo<=b/\(∃g,w.heap[b]?=some (.cells g 3 (0,0)))/\aD w b 0 n t
def uc.of (h:w.ownsRow lo 3 1 (aa b n c) n (eL t n)):uc w lo b n t:=by refine⟨?_,yC h rfl,G6 h⟩;obtain⟨h1,U|⟨g,z,Z,U,h3,h4⟩⟩:=h;all_goals grind
def uc.R_ (h:aC w b n t)(g:lo<=b):uc w lo b n t:=by let⟨⟨i,m,z⟩,o⟩:=h;exact⟨g,⟨i,m⟩,o⟩
def uc.lt (h:uc w lo b n t):b<w:=by let⟨_,⟨g,i⟩,_⟩:=h;grind
def fJ {base m cap}(h:w.ownsRow base e size (aa b m cap) m xs):base<=b/\b<w/\m<=cap:=by obtain⟨E,o|⟨g,i,z,o,F,G,K⟩⟩:=h;all_goals grind
def boxed (w:ay)(x0 x1:Int)(g i m o z E):∃W,w.alloc (.cells #[x0,x1,aa g i m,aa o z E] 42)=W/\aR W w x0 x1 (aa g i m) (aa o z E)/\ac w w W/\(W:Nat)=(w:Nat)+1:=
 ⟨_,rfl,a9 w _,(agn _ w).alloc (agw _) _,aN⟩
def aJ {L M P Q i}(m:aR W R L M P Q i)(S:ac N w W)(g:N<=R)(x0 x1:Int)(o z E F G K):∃W',((((W.setCell R x0).setCell ⟨R,1,none⟩ x1).setCell ⟨R,2,none⟩<|aa o z E).setCell ⟨R,3,none⟩<|aa F G K)=W'/\aR W' R x0 x1 (aa o z E) (aa F G K) i/\ac N w W'/\(W':Nat)=(W:Nat)/\∀k,k≠R->W'.heap[k]?=W.heap[k]?:=by refine⟨_,rfl,?_,(((S.setCell g _).setCell g _).setCell g _).setCell g _,aN,λk U=>?_⟩;rw[va m];exact bm _ _ _ _ _ _ m;grind [Below.heap_setCell]
def tK (P:Nat->Bool):∀n,∃k,k<=n/\(∀j,j<k->P j=true)/\(k<n->P k=false)
 |0=>⟨0,agw _,λj i=>absurd i<|agA _,λh=>absurd h<|agA _⟩
 |n+1=>by
  let⟨k,F,g,o⟩:=tK P n;by_cases z:k<n
  .exact⟨k,ab,g,λ_=>o z⟩
  .have E:k=n:=by omega
   subst E;cases m:P k with
   |false=>exact⟨k,ab,g,λ_=>m⟩
   |true=>exact⟨k+1,ab,λj i=>by
     by_cases e:j=k
     .subst e;exact m
     .exact g j ab,λh=>absurd h<|Nat.lt_irrefl _⟩
def L8 {P:Nat->Bool}{k'}(g:k<=n)(i:∀j,j<k->P j=true)(m:k<n->P k=false)(o:k'<=n)(z:∀j,j<k'->P j=true)(E:k'<n->P k'=false):k=k':=f7
def io.no {k}(h:∀j,j<n->di (f j).name name=false)(hk:io f n name k):k=-1:=by rcases hk with⟨U,_⟩|⟨j,U,Z,h3,_⟩<;>grind
def io.yes {k J}(U:J<n)(Z:di (f J).name name=true)(h2:∀j,j<J->di (f j).name name=false)(hk:io f n name k):k=J:=by rcases hk with⟨_,h⟩|⟨j,rfl,h3,h4,h5⟩<;>grind
def Lb (f:Nat->Mv)(n name):(∃J,J<n/\di (f J).name name=true/\∀j,j<J->di (f j).name name=false)\/∀j,j<n->di (f j).name name=false:=by let⟨k,U,Z,h3⟩:=tK (λj=>!di (f j).name name) n;grind
def gP {base}(h:W.ownsRow base e size v n xs)(g:aR W Y x0 x1 y u)(i:e≠42)(m:v.ownBlock=some B):B≠Y:=λq=>by
 let⟨z,o⟩:=yC h m;subst q;unfold aR at g;rw[o]at g;simp at g;exact i g.2
def Kl (h:aR W Y x0 x1 v u)(g:ac N w W)(i:N<=Y)(r):∃W',W.setCell ⟨Y,2,none⟩ r=W'/\aR W' Y x0 x1 r u/\ac N w W'/\(W':Nat)=(W:Nat)/\∀k,k≠Y->W'.heap[k]?=W.heap[k]?:=by refine⟨_,rfl,?_,g.setCell i _,aN,λk m=>agp _ _ _ _ ab⟩;have:=bE W Y 2 _ _ r h;assumption
def yE (h:aR W Y x0 x1 v u)(g:ac N w W)(i:N<=Y)(r):∃W',W.setCell ⟨Y,3,none⟩ r=W'/\aR W' Y x0 x1 v r/\ac N w W'/\(W':Nat)=(W:Nat)/\∀k,k≠Y->W'.heap[k]?=W.heap[k]?:=by refine⟨_,rfl,?_,g.setCell i _,aN,λk m=>agp _ _ _ _ ab⟩;have:=bE W Y 3 _ _ r h;assumption
structure Ad (w:ay)(now shift ao n c bo)(d R X Bx A C D:Nat)(f t W):Prop where
 below:ac w w W
 bk:aR W w now shift (aa ao n c) (aa bo n d)
 rs:aR W R 0 0 () ()
 hR:(w:Nat)<R
 x:aR W X now shift (aa Bx n A) (aa C n D)
 hX:R<X
 om:W.ownsRow (R+1) 30 6 (aa Bx n A) n (bd f n)
 oi:W.ownsRow (R+1) 3 1 (aa C n D) n (eL t n)
section
variable {d X Bx A C D:Nat}
def Ad.grow (h:Ad w now shift ao n c bo d R X Bx A C D f t W)(b:ac W W W'):Ad w now shift ao n c bo d R X Bx A C D f t W':=
 ⟨h.below.trans<|b.mono h.below.size,h.bk.same<|b.block _ h.bk.lt,h.rs.same<|b.block _ h.rs.lt,h.hR,h.x.same<|b.block _ h.x.lt,h.hX,aA h.om λB U=>b.block B (h.om.lt B U).2,aA h.oi λB U=>b.block B (h.oi.lt B U).2⟩
def Ad.set (h:Ad w now shift ao n c bo d R X Bx A C D f t W)(Z:aR W Y x0 x1 y u)(hY:X<Y)(hb:ac w w W')(e:∀k,k≠Y->W'.heap[k]?=W.heap[k]?):Ad w now shift ao n c bo d R X Bx A C D f t W':=by have h1:=h.hR;have h2:=h.hX;exact⟨hb,h.bk.same<|e _ ab,h.rs.same<|e _ ab,h.hR,h.x.same<|e _ ab,h.hX,aA h.om λB U=>e B<|gP h.om Z bc U,aA h.oi λB U=>e B<|gP h.oi Z bc U⟩
end
section
attribute [local go_sem] Oper.semAt_some
variable {ca:Nat}{da:Nat}
def Su {p:Prop}(x9:p:=by exact⟨rfl,agn _ _⟩):p:=x9
def Cg (w):a4 Tz.prog 108 #[aa ao 0 ca] w λe w'=>e=aL true/\ac w w w':=by go_enter Tz.func108,Tryz.ntmps108;go_wp2;(go_loopw [3] (λi w'=>i=aj .i64 0/\ac w w w') (λ_ _=>0));exact⟨rfl,agn _ _⟩;obtain⟨rfl,g⟩:=hrel;go_wp2;go_ret;simp_all
def BU (w):a4 Tz.prog 102 #[aa ao 0 ca] w λe w'=>e=aL true/\ac w w w':=by go_enter Tz.func102,Tryz.ntmps102;go_wp2;(go_loopw [10] (λi w'=>i=aj .i64 0/\ac w w w') (λ_ _=>0));exact Su;obtain⟨rfl,g⟩:=hrel;go_wp2;go_ret;simp_all
def vk (w):a4 Tz.prog 83 #[aa ao 0 ca,aa bo 0 da] w λe w'=>e=aL true/\ac w w w':=by
 have g:=Cg (ao:=ao) (ca:=ca) w;go_enter Tz.func83,Tryz.ntmps83;go_wp2_with(go_at_call 108;refine g.mono ?_;clear g;rintro e h ⟨rfl,m⟩)
 go_loopw [5] (λi w'=>i=aj .i64 0/\ac w w w') (λ_ _=>0)
 grind;obtain⟨rfl,o⟩:=hrel;go_wp2;go_ret;simp_all
def uE (w):a4 Tz.prog 78 #[aa ao 0 ca,aa bo 0 da] w λe w'=>e=aL true/\ac w w w':=by
 have o0:∀o1 o2 o3,ac w w (((w.alloc o1).alloc o2).alloc o3):=λo1 o2 o3=>(((agn _ w).alloc ab _).alloc aN _).alloc cY _;refine(bv (n:=9)).1 ?_;refine callsIn_of_wp_marks Tz.func78 rfl trivial ?_ rfl;simp[Tryz.ntmps78,List.size_toArray,List.length_cons,List.length_nil,Nat.reduceAdd,Nat.reduceSub,Array.replicate_succ,Array.replicate_zero,List.push_toArray,List.append_toArray,a6,List.cons_append];gi_wp2_with (refine⟨trivial,?_⟩;gi_at_call 102;refine(bv.2<|BU _).mono ?_;rintro e U ⟨rfl,bK⟩;let⟨nA,ux⟩:=mU bK)
 have hz:=bK.size;simp at hz;have j9:ac w w U:=(o0 _ _ _).trans<|bK.mono (o0 _ _ _).size;have l0:U.cell? (w:Nat)=some (aa ao 0 ca):=by rw[nA w 0 cY];simp[go_sem]
 have l1:U.cell? ⟨(w:Nat)+1,0,none⟩=some (aa bo 0 da):=by rw[nA ((w:Nat)+1) 0 aN];simp[go_sem]
 have l2:U.cell? ⟨(w:Nat)+1+1,0,none⟩=some (br false):=by rw[nA ((w:Nat)+1+1) 0 aN];simp[go_sem]
 have l3:U.frozen? ⟨(w:Nat)+1+1,0,none⟩=false:=by rw[ux ((w:Nat)+1+1) 0 aN];simp[go_sem]
 clear nA ux bK;gi_loopw [21] (λi wr=>i=aj .i64 0/\ac U U wr) (λ_ _=>0)
 exact Su;obtain⟨rfl,hB⟩:=hrel;have iK:ac w w wr:=j9.trans<|hB.mono j9.size;have av:(U:Nat)<=wr:=hB.size;have m0:=(hB.cell cY).trans l0;have m1:=(hB.cell cY).trans l1;gi_wp2_with (refine⟨trivial,?_⟩;gi_at_call 104;refine(bv.2<|Dh _ _).mono ?_;rintro e w' ⟨rfl,rfl⟩)
 obtain⟨z,Qc⟩:∃z,wr.alloc (.cells #[(0:Int)] 3)=z:=⟨_,rfl⟩;have hL:ac wr wr z:=Qc▸(agn _ _).alloc ab _;have ax:(z:Nat)=(wr:Nat)+1:=by rw[<-Qc];simp
 have ad:z.cell? (wr:Nat)=some (aj .i64 ((0:Nat):Int)):=by rw[<-Qc];simp
 rw[Qc];clear Qc;have ZS:ac w w z:=iK.trans<|hL.mono iK.size;refine wpIn_rangeFunc_ownG rfl ab rfl trivial (enters_of Tz.func143 aO rfl)
  (xz _ wr z 0 z ab ab ab ad) belowK_t (belowK_b ab) (agn _ _) (λ_=>rfl)
  (λpre W=>ac z z W)
  (λc pre W=>False)
  (ownFrom_below ab ab)
  (λc=>ownFrom_pure _ λ_=>False)
  (agn _ _)
  ?a1 ?assign ?body ?done ?stop
 case assign=>intro l x W K hK;gi_wp2;omega
 omega
 .rintro D xs W hD hS Fq hK;have C_:=Fq.size;have au:=(Fq.cell cY).trans<|(hL.cell cY).trans<|(hB.cell cY).trans l2;have az:=(Fq.frozen cY).trans<|(hL.frozen cY).trans<|(hB.frozen cY).trans l3;gi_wp2;have Z:=(KeepsOthers.setCell W ⟨(w:Nat)+1+1,0,none⟩ true).same D _ hK rfl;refine⟨aN,.inl ⟨_,_,rfl,run_takeDeferred Z,?_⟩⟩;refine⟨br true,?_,rfl,((ZS.trans<|Fq.mono ZS.size).setCell cY _).trans<|belowK_b (agw _) _ D _ _ ab Z rfl rfl⟩;simp[results,Tryz.f78,go_sem,(cell_kept (World.cell?_setCell_same' W ⟨(w:Nat)+1+1,0,none⟩ true<|by rw[au];rfl) (grownBy_putObj' _ D<|.deferred none) (λr e=>by cases e;exact⟨_,Z,rfl⟩))]
 grind
def vh (now shift:Int)(w)(F:0<=now/\now<=10000)(G:0<=shift/\shift<=6):a4 Tz.prog 55 #[aP #[now,shift,aa ao 0 ca,aa bo 0 da]] w λe w'=>e=aL true/\ac w w w':=by
 have m:=kG w now shift ao 0 ca bo 0 da;have o:=vk (ao:=ao) (ca:=ca) (bo:=bo) (da:=da)<|FN w now shift ao 0 ca bo 0 da;have L:=eO.mpr F;have M:=eO.mpr G;go_enter Tz.func55,Tryz.ntmps55;go_wp2_with(first|(go_at_call 82;refine(gN _ _ _ _).mono ?_;rintro e w' ⟨rfl,rfl⟩)|(go_at_call 83;refine o.mono ?_;clear o;rintro e g ⟨rfl,i⟩))
 have z:=m.trans<|i.mono m.size;have K:(w:Nat)<g:=agx aN i.size;go_loopw [3] (λx wr=>x=aj .i64 0/\ac g g wr) (λ_ _=>0)
 exact Su;obtain⟨rfl,E⟩:=hrel;let⟨P,Q,S,U⟩:=((qo w now shift ao 0 ca bo 0 da).below i aN).below E K;go_wp2;go_ret;exact⟨rfl,z.trans<|E.mono z.size⟩
def EE (now shift:Int)(w)(E:0<=now/\now<=10000)(F:0<=shift/\shift<=6):a4 Tz.prog 80 #[aP #[now,shift,aa ao 0 ca,aa bo 0 da]] w λe w'=>e=aL true/\ac w w w':=by
 have m:=kG w now shift ao 0 ca bo 0 da;have o:=uE (ao:=ao) (ca:=ca) (bo:=bo) (da:=da)<|FN w now shift ao 0 ca bo 0 da;let⟨L,M⟩:=E;let⟨P,Q⟩:=F;have S:¬now<0:=ab;have U:¬10000<now:=ab;have V:¬shift<0:=ab;have Z:¬6<shift:=ab;go_enter Tz.func80,Tryz.ntmps80;go_wp2_with(go_at_call 78;refine o.mono ?_;clear o;rintro e g ⟨rfl,i⟩;have G:=(qo w now shift ao 0 ca bo 0 da).below i aN;have eI:(w:Nat)<g:=agx aN i.size;let⟨a0,a1,a2,a3⟩:=G)
 have z:=m.trans<|i.mono m.size;go_loopw [32] (λx wr=>x=aj .i64 0/\ac g g wr) (λ_ _=>0)
 exact Su;obtain⟨rfl,K⟩:=hrel;go_wp2;go_ret;exact⟨rfl,z.trans<|K.mono z.size⟩
def E7 (now shift:Int)(w)(z:0<=now/\now<=10000)(E:0<=shift/\shift<=6):a4 Tz.prog 39 #[aP #[now,shift,aa ao 0 ca,aa bo 0 da]] w λe w'=>e=aL true/\ac w w w':=by
 have h:ac w w (w.alloc<|.cells #[now,shift,aa ao 0 ca,aa bo 0 da] 42):=(agn _ w).alloc (agw _) _;have i:aR (w.alloc<|.cells #[now,shift,aa ao 0 ca,aa bo 0 da] 42) w now shift (aa ao 0 ca) (aa bo 0 da):=a9 _ _;have m:=vh (ao:=ao) (ca:=ca) (bo:=bo) (da:=da) now shift (w.alloc<|.cells #[now,shift,aa ao 0 ca,aa bo 0 da] 42) z E;go_enter Tz.func39,Tryz.ntmps39;go_wp2_with(go_at_call 55;refine m.mono ?_;clear m;rintro e G ⟨rfl,o⟩)
 have K:=h.trans<|o.mono h.size;have F:=i.same<|o.block _ i.lt;go_loopw [3,4,5] (λx _ _ W=>x=aj .i64 0/\ac w w W/\aR W w now shift (aa ao 0 ca) (aa bo 0 da)) (λ_ _ _ _=>0)
 grind;obtain⟨rfl,L,g⟩:=hrel;have M:=g.cells;exact Ik
end
section
inductive Ap
 |no (c:Int)
 |yes (p:Nat) (T:Nat->Int)
noncomputable def AC (f:Nat->Mv)(n:Nat)(q:Mv):Nat:=Classical.choose<|tK (λj=>cG (f j).name q.name) n
def yA (U:k<=n)(Z:∀j,j<k->cG (f j).name q.name=true)(h3:k<n->cG (f k).name q.name=false):AC f n q=k:=by let⟨g1,g2,g3⟩:=Classical.choose_spec<|tK (λj=>cG (f j).name q.name) n;exact L8 g1 g2 g3 U Z h3
open Classical in
noncomputable def Bt (f:Nat->Mv)(n:Nat)(now shift:Int)(q:Mv):Ap:=
 if q.ok=false\/¬q.prom<0 then .no 2 else if∃j,j<n/\di (f j).name q.name=true then .no 3 else if¬n<6 then .no 4 else
  match gG (er f (AC f n q) q) (n+1) now shift with
  |none=>.no 5
  |some T=>.yes (AC f n q) T
noncomputable def vG (f:Nat->Mv)(n:Nat)(now shift:Int)(q:Mv):Ap:=
 match Bt f n now shift q with
 |.no c=>.no c
 |.yes p T=>if fG now shift (er f p q) (n+1) T (n+1)=true then .yes p T else .no 6
def K8 (h:q.ok=false\/¬q.prom<0):Bt f n now shift q=.no 2:=by unfold Bt;rw[if_pos h]
def Xb (U:q.ok=true)(h2:q.prom<0)(Z:∃j,j<n/\di (f j).name q.name=true):Bt f n now shift q=.no 3:=by unfold Bt;rw[if_neg (by simp[U];omega),if_pos Z]
def Xc (U:q.ok=true)(h2:q.prom<0)(Z:∀j,j<n->di (f j).name q.name=false)(h4:¬n<6):Bt f n now shift q=.no 4:=by unfold Bt;rw[if_neg (by simp[U];omega),if_neg (λ⟨j,hj,e⟩=>by rw[Z j hj]at e;cases e),if_pos h4]
def Xd (U:q.ok=true)(Z:q.prom<0)(h3:∀j,j<n->di (f j).name q.name=false)(h4:n<6){K}(hK:AC f n q=K):Bt f n now shift q=match gG (er f K q) (n+1) now shift with|none=>.no 5|some T=>.yes K T:=by unfold Bt;grind
def vH {c}(h:Bt f n now shift q=.no c):vG f n now shift q=.no c:=by unfold vG;rw[h]
def Xa (h:Bt f n now shift q=.yes p T)(hs:fG now shift (er f p q) (n+1) T (n+1)=false):vG f n now shift q=.no 6:=by unfold vG;rw[h];simp[hs]
def WY (h:Bt f n now shift q=.yes p T)(hs:fG now shift (er f p q) (n+1) T (n+1)=true):vG f n now shift q=.yes p T:=by unfold vG;rw[h];simp[hs]
def TO {c}(h:Bt f n now shift q=.no c):1<c:=by unfold Bt at h;split at h;grind;split at h<;>grind
def TL {c}(h:vG f n now shift q=.no c):1<c:=by unfold vG at h;split at h;(.next e=>cases h;exact TO e);grind
