import Derived.Test.YtjoalkgmgmmedaaGreatDoorj36
set_option linter.defProp false
set_option linter.unusedVariables false
set_option maxHeartbeats 4000000
set_option maxRecDepth 100000
open Go renaming World->aE,Value->a4,heap_alloc_new->a6,cell_of_row->a7,Addr->a8,Calls->a9,bodyPost_ret->bb,setRow_heap->bi,below_setRow->bm,callsIn_wide->bn,TypeId->br,heap_setCell_same->bs,Ending->bt,setRow_size->bE,bytes->bH
open Go.Ending renaming returned->ay
open Go.RowKit renaming Below->ac
open Go.Value renaming slice->aa,int->ai,agg->be,pointer->bp,bool->bv,tuple->bB
open Go.World renaming size_alloc->aN,size_drew->a5
open List renaming nil_append->aI
open Nat renaming zero_add->aL
namespace Go.Proofs.YtjoalkgmgmmedaaGreatDoor
open Go Go.RowKit Go.Shelf RowKit
variable {name:ByteArray}{now shift x0 x1:Int}{O xs:List a4}{q:Mv}{B N R Y b c k lo n J p size:Nat}{T t:Nat->Int}{f:Nat->Mv}{ao bo:Option a8}{e:br}{u v r y:a4}{W W' w w':aE}
def BW (r:Option (Nat->Int))(e:bt):Prop:=∃(x0 x1:Int) (g:Option a8) (h i:Nat) (m:Option a8) (o z:Nat),e=ay (bB #[be #[x0,x1,aa g h i,aa m o z],r.isSome])
def qX (f:Nat->Mv)(n:Nat)(t:Nat->Int)(p:Nat)(shift:Int)(r:Option (Nat->Int))(w:aE)(e:bt)(w':aE):Prop:=
 match r with
 |none=>e=ay (bB #[be #[(0:Int),(0:Int),(),()],false])
 |some T=>∃U Z BT cT,e=ay (bB #[be #[ai .i64<|t p,shift,aa (some ⟨U,0,none⟩) (aw f t p n).length Z,aa (some ⟨BT,0,none⟩) (aw f t p n).length cT],true])/\U<w'/\aK w' U 0 (aw f t p n).length (jO<|aw f t p n)/\aC w' BT (aw f t p n).length T
def qX.says {r:Option (Nat->Int)}{e:bt}(h:qX f n t p shift r w e w'):BW r e:=by
 cases r with
 |none=>exact⟨0,0,none,0,0,none,0,0,h⟩
 |some T=>let⟨U,Z,BT,cT,h,_⟩:=h;exact⟨_,_,_,_,_,_,_,_,h⟩
def gY {g:Nat->Int}(h:aC w b n g)(e:w'.heap[b]?=w.heap[b]?):aC w' b n g:=by
 let⟨⟨m,o,z⟩,E⟩:=h;exact⟨⟨m,e.trans o,z⟩,λi F=>(afH e).trans<|E i F⟩
def lD (w:aE)(B:Nat)(x0 x1:Int)(g:Option a8)(i m:Nat)(o:Option a8)(z E:Nat)(h:w.heap[B]?=some (.cells #[x0,x1,aa g i m,aa o z E] 29 (0,0))):w.cell? B=some (ai .i64 x0)/\w.cell? ⟨B,1,none⟩=some (ai .i64 x1)/\w.cell? ⟨B,2,none⟩=some (aa g i m)/\w.cell? ⟨B,3,none⟩=some (aa o z E):=by
 grind [World.cell?]
def RG {p:Prop}(x9:p:=by
  simp[results,Tryz.f42,go_sem,q0,q1,q2,q3]):p:=x9
def ut (b n cap b' cap' p:Nat)(f:Nat->Mv)(t:Nat->Int)(now shift:Int)(w:aE)(hm:aG f n)(hf:fX f t n)(hp:p<n)(bN:b<w)(aB:aK w b 0 n f)(bz:b'<w)(aV:aD w b' 0 n t):
  a9 Tz.prog 42 #[be #[now,shift,aa b n cap,aa b' n cap'],ai .i64 p] w λe w'=>qX f n t p shift (dG f n t p) w e w'/\ac w w w':=by
 have h6:=bX hm;have bj:=Mv.gj<|bd hm p hp;have KY:=iA<|hf.1 p hp;obtain⟨wB,MC⟩:∃W,W=(w.alloc<|.cells #[ai .i64 now,ai .i64 shift,aa (some ⟨b,0,none⟩) n cap,aa (some ⟨b',0,none⟩) n cap'] 29).alloc (.cells #[(0:Int),(0:Int),aa none 0 0,aa none 0 0] 29):=⟨_,rfl⟩;have zj:ac w.heap.size w wB:=by rw[MC];exact((afB _ w).alloc (afK _) _).alloc aP _
 have FJ:aR wB (w.heap.size+1) 0 0 (aa none 0 0) (aa none 0 0):=by rw[MC];exact dY _ _ _
 have H1:=Jl b n cap b' cap' p f t now shift wB hm hf hp (afL bN zj.size) (aB.below zj bN) (afL bz zj.size)<|aV.below zj bz;rw[MC]at H1;go_enter Tz.func42,Tryz.ntmps42
 by_cases ad:t p+6<=(f p).late
 .have hR:dG f n t p=gw (jO<|aw f t p n) (aw f t p n).length (t p) 6:=by unfold dG;grind
  have iG:=rG (f:=f) (t:=t) (p:=p) hp;have a3:=iX f t p n;have HP:=λ(U cN:Nat) (W:aE) (aF:U<W.heap.size) (hr:aK W U 0 (aw f t p n).length (jO<|aw f t p n))=>sW U (aw f t p n).length cN (jO<|aw f t p n) (t p) 6 W ab (λi hi=>tx hm hf hp ad hi) ab ab ab ab (λhr=>GT hm hf hp ad hr) aF hr
  rw[hR];clear hR;cases hP:gw (jO<|aw f t p n) (aw f t p n).length (t p) 6 with
  |none=>
   rw[hP]at HP;go_wp2_with(first
    |(go_at_call 64;refine H1.mono ?_;clear H1;rintro e Z ⟨l1,b1⟩;rw[<-MC]at b1 l1;unfold nD at l1;rw[if_pos ad]at l1;obtain⟨U,cN,rfl,Sg,WM,rN⟩:=l1;have r1:=FJ.same<|b1.block _ FJ.lt;have yy:=r1.cells;have au:=r1.lt;have bL:=zj.trans<|b1.mono zj.size)
    |(go_at_call 39;refine(HP _ _ _ dj<|rN.below ((afB _ _).alloc (afK _) _) WM).mono ?_;clear HP;rintro e w2 ⟨⟨a2,c2,rfl⟩,b2⟩;have dg:=((afB _ Z).alloc (afK _) _).trans<|b2.mono aP;have r2:=r1.same<|dg.block _ r1.lt;have zz:=r2.cells;have aZ:=r2.lt))
   rw[uL r2];have wH:=bi w2 (w.heap.size+1) _ #[(0:Int),(0:Int),aa none 0 0,aa none 0 0] _ _ r2;have iZ:=bm (bL.trans<|dg.mono bL.size) (by omega:w.heap.size<=w.heap.size+1) #[(0:Int),(0:Int),aa none 0 0,aa none 0 0];revert wH iZ;generalize w2.setRow (w.heap.size+1) #[(0:Int),(0:Int),aa none 0 0,aa none 0 0]=W5;intro wH iZ;let⟨q0,q1,q2,q3⟩:=lD W5 _ 0 0 none 0 0 none 0 0 wH;refine bb ?_ rfl ⟨rfl,iZ⟩;exact RG
  |some T=>
   rw[hP]at HP;go_wp2_with(first
    |(go_at_call 64;refine H1.mono ?_;clear H1;rintro e Z ⟨l1,b1⟩;rw[<-MC]at b1 l1;unfold nD at l1;rw[if_pos ad]at l1;obtain⟨U,cN,rfl,Sg,WM,rN⟩:=l1;have r1:=FJ.same<|b1.block _ FJ.lt;have yy:=r1.cells;have au:=r1.lt;have bL:=zj.trans<|b1.mono zj.size)
    |(go_at_call 39;refine(HP _ _ _ dj<|rN.below ((afB _ _).alloc (afK _) _) WM).mono ?_;clear HP;rintro e w2 ⟨⟨BT,c2,Si,rfl,oT,_⟩,b2⟩;have dg:=((afB _ Z).alloc (afK _) _).trans<|b2.mono aP;have r2:=r1.same<|dg.block _ r1.lt;have zz:=r2.cells;have aZ:=r2.lt;have x2:aR w2 Z.heap.size (t p) shift (aa (some ⟨U,0,none⟩) (aw f t p n).length cN) (aa none 0 0):=(b2.block _ aP).trans<|heap_alloc_new _ _;have vv:=x2.cells;have bk:=x2.lt;have ax:w.heap.size+1≠Z.heap.size:=af1 au;have bl:=ax.symm))
   have hs:∀k,k≠Z.heap.size->(w2.setCell ⟨Z.heap.size,3,none⟩<|aa (some ⟨BT,0,none⟩) (aw f t p n).length c2).heap[k]?=w2.heap[k]?:=λk hk=>afD _ _ _ k hk
   have av:=(bL.trans<|dg.mono bL.size).setCell (p:=⟨Z.heap.size,3,none⟩) bL.size<|aa (some ⟨BT,0,none⟩) (aw f t p n).length c2;have ZH:(w2.setCell ⟨Z.heap.size,3,none⟩<|aa (some ⟨BT,0,none⟩) (aw f t p n).length c2).heap.size=w2.heap.size:=aP;revert hs av ZH;generalize w2.setCell ⟨Z.heap.size,3,none⟩ (aa (some ⟨BT,0,none⟩) (aw f t p n).length c2)=w3;intro hs av ZH;have r3:=r2.same<|hs _ ax;have FP:w3.heap.size=w2.heap.size:=ZH;have a0:=dg.block U WM;have A4:w.heap.size+2<=U:=by rw[MC]at Sg;simpa using Sg
   have bq:=afL WM dg.size;have bx:Z.heap.size+1<=BT:=cO;have bA:=oT.lt;rw[uL r3];have wH:=bi w3 (w.heap.size+1) _ #[ai .i64<|t p,ai .i64 shift,aa (some ⟨U,0,none⟩) (aw f t p n).length cN,aa (some ⟨BT,0,none⟩) (aw f t p n).length c2] _ _ r3;have iZ:=bm av (by omega:w.heap.size<=w.heap.size+1) #[ai .i64<|t p,ai .i64 shift,aa (some ⟨U,0,none⟩) (aw f t p n).length cN,aa (some ⟨BT,0,none⟩) (aw f t p n).length c2];have tN:(w3.setRow (w.heap.size+1) #[ai .i64<|t p,ai .i64 shift,aa (some ⟨U,0,none⟩) (aw f t p n).length cN,aa (some ⟨BT,0,none⟩) (aw f t p n).length c2]).heap.size=w3.heap.size:=bE _ _ _;have ol:∀k,k≠w.heap.size+1->(w3.setRow (w.heap.size+1) #[ai .i64<|t p,ai .i64 shift,aa (some ⟨U,0,none⟩) (aw f t p n).length cN,aa (some ⟨BT,0,none⟩) (aw f t p n).length c2]).heap[k]?=w3.heap[k]?:=λk hk=>setRow_other _ _ _ _ hk
   revert wH iZ tN ol;generalize w3.setRow (w.heap.size+1) #[ai .i64<|t p,ai .i64 shift,aa (some ⟨U,0,none⟩) (aw f t p n).length cN,aa (some ⟨BT,0,none⟩) (aw f t p n).length c2]=W5;intro wH iZ tN ol;let⟨q0,q1,q2,q3⟩:=lD W5 _ _ _ _ _ _ _ _ _ wH;refine bb ?_ rfl ⟨⟨U,cN,BT,c2,rfl,ab,dJ rN<|(ol U ab).trans<|(hs U ab).trans a0,gY oT<|(ol BT ab).trans<|hs BT ab⟩,iZ⟩;exact RG
 have hR:dG f n t p=none:=by unfold dG;grind
 rw[hR];clear hR;go_wp2_with(go_at_call 64;refine H1.mono ?_;clear H1;rintro e Z ⟨l1,b1⟩;rw[<-MC]at b1 l1;unfold nD at l1;rw[if_neg ad]at l1;subst l1;have r1:=FJ.same<|b1.block _ FJ.lt;have yy:=r1.cells;have au:=r1.lt;have bL:=zj.trans<|b1.mono zj.size)
 rw[uL r1];have wH:=bi Z (w.heap.size+1) _ #[(0:Int),(0:Int),aa none 0 0,aa none 0 0] _ _ r1;have iZ:=bm bL (by omega:w.heap.size<=w.heap.size+1) #[(0:Int),(0:Int),aa none 0 0,aa none 0 0];have tN:(Z.setRow (w.heap.size+1) #[(0:Int),(0:Int),aa none 0 0,aa none 0 0]).heap.size=Z.heap.size:=bE _ _ _;revert wH iZ tN;generalize Z.setRow (w.heap.size+1) #[(0:Int),(0:Int),aa none 0 0,aa none 0 0]=W5;intro wH iZ tN;have KW:=λo=>(afC W5 o (w.heap.size+1) ab).trans wH
 have a1:=λo=>iZ.alloc (o:=o) iZ.size
 have q0:=λo=>(lD (W5.alloc o) _ 0 0 none 0 0 none 0 0<|KW o).1
 have q1:=λo=>(lD (W5.alloc o) _ 0 0 none 0 0 none 0 0<|KW o).2.1
 have q2:=λo=>(lD (W5.alloc o) _ 0 0 none 0 0 none 0 0<|KW o).2.2.1
 have q3:=λo=>(lD (W5.alloc o) _ 0 0 none 0 0 none 0 0<|KW o).2.2.2
 refine bb ?_ rfl ⟨rfl,a1 _⟩;exact RG
def F1 (b n cap U cap' p:Nat)(f:Nat->Mv)(t:Nat->Int)(now shift:Int)(w:aE)(Z:aG f n)(hf:fX f t n)(hp:p<n)(bN:b<w)(aB:aK w b 0 n f)(bz:U<w)(aV:aD w U 0 n t):
  a9 Tz.prog 42 #[be #[now,shift,aa b n cap,aa U n cap'],ai .i64 p] w λe w'=>BW (dG f n t p) e/\ac w w w':=
 (ut b n cap U cap' p f t now shift w Z hf hp bN aB bz aV).mono λe w' h=>⟨h.1.says,h.2⟩
def ab3 {p:Prop}(x9:p:=by
  go_wp2_with(go_at_call 42;refine H2.mono ?_;clear H2;rintro e w2 ⟨⟨x0,x1,x2,l2,c2,x3,l3,c3,rfl⟩,b2⟩;let⟨bk2,d1,abn⟩:=FACTS w2 b2;rw[PJ]at d1;have zz:=bk2.cells;have lk2:=bk2.lt;rw[hr])
  all_goals try omega
  go_roundw
  case rel=>exact⟨k+1,by go_num,ab,(iY.trans<|b2.mono iY.size).alloc ab _,bk2.same<|afC _ _ _ lk2,λp hp hl=>by
   by_cases e:p=k
   .subst e;rw[hr];rfl
   .exact dw p ab hl⟩
  exact cD):p:=x9
def pv (now shift:Int)(b n cap:Nat)(f:Nat->Mv)(U m cap':Nat)(t:Nat->Int)(w:aE)(hn:n<=1048576)(lw:m<=maxLen)(bN:b<w)(aB:aK w b 0 n f)(ju:∀i,i<n->(f i).Fits)(bz:U<w)(aV:aD w U 0 m t):
  a9 Tz.prog 21 #[be #[now,shift,aa b n cap,aa U m cap']] w λe w'=>e=ay (fD now shift f n t m)/\ac w w w':=by
 obtain⟨wB,MC⟩:∃W,W=w.alloc (.cells #[ai .i64 now,ai .i64 shift,aa (some ⟨b,0,none⟩) n cap,aa (some ⟨U,0,none⟩) m cap'] 29):=⟨_,rfl⟩;have Z:ac w.heap.size w wB:=by rw[MC];exact(afB _ w).alloc ab _
 have p7:aR wB w.heap.size now shift (aa (some ⟨b,0,none⟩) n cap) (aa (some ⟨U,0,none⟩) m cap'):=by rw[MC];exact a6 _ _
 have H1:=uS now shift b 0 n cap f U 0 m cap' t wB hn lw (afL bN Z.size) (aB.below Z bN) ju (afL bz Z.size)<|aV.below Z bz;rw[MC]at H1;go_enter Tz.func21,Tryz.ntmps21
 cases hb:aY now shift f n t m with
 |false=>
  rw[hb]at H1;rw[Hk hb];go_wp2_with(go_at_call 34;refine H1.mono ?_;clear H1;rintro e w1 ⟨rfl,b1⟩;rw[<-MC]at b1)
  go_ret;exact⟨rfl,Z.trans<|b1.mono Z.size⟩
 |true=>
  let⟨hm,A5,hf⟩:=bK hb;replace A5:=A5.symm;subst A5;have h6:=bX hm;rw[hb]at H1;have HB:Hid (aY now shift f n t n=true):=hb;go_wp2_with(go_at_call 34;refine H1.mono ?_;clear H1;rintro e w1 ⟨rfl,b1⟩;rw[<-MC]at b1)
  have bL:=Z.trans<|b1.mono Z.size;have av:=p7.same<|b1.block _ p7.lt;go_loopw [3,4,5] (λx _ _ W=>∃k:Nat,x=ai .i64 k/\k<=n/\ac w.heap.size w W/\aR W w.heap.size now shift (aa (some ⟨b,0,none⟩) n cap) (aa (some ⟨U,0,none⟩) n cap')/\∀p,p<k->(f p).ax=true->(dG f n t p).isSome=true) (λx _ _ _=>n-(intOf x).toNat)
  case atStart=>grind
  obtain⟨k,rfl,hk,iY,ad,dw⟩:=hrel;have yy:=ad.cells;by_cases aF:k<n
  .have dV:(k:Int)<n:=by omega
   have au:=afL bN iY.size;have H2:=F1 b n cap U cap' k f t now shift wr hm hf aF au (aB.below iY bN) (afL bz iY.size)<|aV.below iY bz;have FACTS:∀w2,ac wr.heap.size wr w2->aR w2 w.heap.size now shift (aa (some ⟨b,0,none⟩) n cap) (aa (some ⟨U,0,none⟩) n cap')/\w2.cell? ⟨b,k*6+1,none⟩=some (bv (f k).ax)/\b<w2.heap.size:=λw2 hb=>by
    have h:=((aB.below iY bN).below hb au k aF).c1;rw[aL]at h;exact⟨ad.same<|hb.block _ ad.lt,h,afL au hb.size⟩
   cases hr:dG f n t k with
   |none=>
    cases PJ:(f k).ax with
    |false=>
     go_wp2_with(go_at_call 42;refine H2.mono ?_;clear H2;rintro e w2 ⟨⟨x0,x1,x2,l2,c2,x3,l3,c3,rfl⟩,b2⟩;let⟨bk2,d1,abn⟩:=FACTS w2 b2;rw[PJ]at d1;have zz:=bk2.cells;have lk2:=bk2.lt;rw[hr])
     all_goals try omega
     go_roundw
     case rel=>exact⟨k+1,by go_num,ab,(iY.trans<|b2.mono iY.size).alloc ab _,bk2.same<|afC _ _ _ lk2,λp hp hl=>by
      by_cases e:p=k
      .subst e;rw[PJ]at hl;cases hl
      .exact dw p ab hl⟩
     exact cD
    |true=>
     have kY:fD now shift f n t n=false:=Dh (λh=>by have:=h k aF PJ;rw[hr]at this;cases this);go_wp2_with(go_at_call 42;refine H2.mono ?_;clear H2;rintro e w2 ⟨⟨x0,x1,x2,l2,c2,x3,l3,c3,rfl⟩,b2⟩;let⟨bk2,d1,abn⟩:=FACTS w2 b2;rw[PJ]at d1;have zz:=bk2.cells;have lk2:=bk2.lt;rw[hr])
     all_goals try omega
     go_ret;exact⟨by first|rfl|(rw[kY];rfl)|rw[kY],(iY.trans<|b2.mono iY.size).alloc ab _⟩
   |some T=>
    cases PJ:(f k).ax with
    |false=>
     exact ab3
    |true=>
     exact ab3
  have dV:¬(k:Int)<n:=by omega
  have xK:fD now shift f n t n=true:=vX HB.out λp hp=>dw p ab;go_wp2;all_goals try omega
  go_ret;simp_all
def iH:Tz.prog.underlying 27=some (.slice 3):=aO
def ur:∃i,Tz.prog.info? 3=some i/\i.zero=some (ai .i64 0)/\i.size=1/\i.bytes=8:=by
 have h:(Tz.prog.info? 3).map (λi=>(i.zero,i.size,i.bytes))=some (some<|ai .i64 0,1,8):=aO;simp_all
section
variable {base a:Nat}
def az (h:w.ownsRow base e size v n xs)(z:∀B,v.ownBlock=some B->w'.heap[B]?=w.heap[B]?):w'.ownsRow base e size v n xs:=by
 obtain⟨o,⟨rfl,rfl⟩|⟨g,i,m,rfl,E,F,G⟩⟩:=h
 .exact⟨o,.inl ⟨rfl,rfl⟩⟩
 exact⟨o,.inr ⟨g,i,m,rfl,E,(z g rfl).trans F,G⟩⟩
def cg (h:w.ownsRow base e size v n xs)(E:a<=base):w.ownsRow a e size v n xs:=by
 obtain⟨z,i|⟨g,m,o,i,F,G⟩⟩:=h
 .exact⟨z,.inl i⟩
 exact⟨z,.inr ⟨g,m,o,i,afN E F,G⟩⟩
def ml (h:w.ownsRow base e size v n xs)(hn:v≠.slice none 0 0):∃B c,v=aa (some ⟨B,0,none⟩) n c:=by
 obtain⟨h1,z|⟨g,U,Z,z,h3,h4⟩⟩:=h;all_goals grind
def yi (h:w.ownsRow base e size v n xs)(U:v.ownBlock=some B):∃cs,w.heap[B]?=some (.cells cs e (0,0)):=by
 obtain⟨Z,⟨rfl,rfl⟩|⟨g,c,z,rfl,h3,h4,h5⟩⟩:=h;all_goals grind [Value.ownBlock]
def iU {g:List a4}{o:br}{z:Nat}(h:w.ownsRow base e size v n xs)(E:w.ownsRow a o z r J g)(i:e≠o)(F:v.ownBlock=some B):r.ownBlock≠some B:=λx=>by
 let⟨K,G⟩:=yi h F;let⟨L,m⟩:=yi E x;rw[G]at m;simp at m;exact i m.2
def uO (h:base<=w.heap.size):(w.alloc<|.cells #[] e).ownsRow base e size (aa (some ⟨w.heap.size,0,none⟩) 0 0) 0 []:=⟨aP,.inr ⟨w.heap.size,0,#[],rfl,h,a6 w _,afK _,afP _,aP,aP⟩⟩
end
def bu {P:Program}{ops:Array Oper}{o:Oper}{a:Act}{K:Act->aE->Prop}{Q:Exit->Act->aE->Prop}{E:Prop}
  (hg:o.guard=none)(s x:Operand)(t:br)(bF:o.op=Op.call {callee:=Callee.builtin Builtin.append,args:=#[s,x],argTypes:=#[t,t]})
  (e:br)(i:TypeInfo)(z:a4)(size bH:Nat)(h1:P.underlying t=some (.slice e))(h2:P.info? e=some i)(h3:i.zero=some z)(h4:i.size=size)(h5:i.bytes=bH)(h6:z.cells.size=size)(h7:0<size)
  (base:Nat)(v:a4)(n:Nat)(Gz:List a4)(hs:a.eval s=v)(bj:w.ownsRow base e size v n Gz)(hv:v≠.slice none 0 0)
  (ao:Option a8)(m c:Nat)(news:List a4)(hx:a.eval x=.slice ao m c)(hn:news.length=m*size)(aaY:ao=none->m=0/\c=0)(hc:∀ad,ao=some ad->∀j u,news[j]?=some u->w.cell? (ad.add j)=some u)(h1c:∀u∈news,u.oneCell'=true)
  (b1:n+m<=maxLen)(b2:(n+m)*bH<=140737488355328)(hb:base<=w.heap.size)
  (hK:∀r w',w'.ownsRow base e size r (n+m) (Gz++news)->r≠.slice none 0 0->w.grownBy w' v.ownBlock->K (a.put o.dst r) w'):
  if Region.wanted o (yielded ops a.tmps)=true then Oper.wp P o a w K Q else E:=by
 have hw:Region.wanted o (yielded ops a.tmps)=true:=lQ;rw[if_pos hw];cases ao with
 |some ad=>
  let⟨r,w',fO,r1,r2,r3⟩:=run_append_own w base t o.type e i z size bH h1 h2 h3 h4 h5 h6 h7 v n Gz bj ad m c news hn (hc ad rfl) h1c b1 b2 hb;unfold Oper.wp;simp[execOp,bF,resolve,invoke,builtin,hs,hx,fO];exact hK r w' r1 (λx=>hv (r3.1 x).1) r2
 |none=>
  obtain⟨rfl,rfl⟩:=aaY rfl;have gJ:news=[]:=List.eq_nil_of_length_eq_zero ab;subst gJ;unfold Oper.wp;simp[execOp,bF,resolve,invoke,builtin,hs,hx,(run_append_owned_none w base t o.type e i size h1 h2 _ n Gz bj)];exact hK _ _ cO hv<|World.grownBy.refl _ _
def qe (w:aE)(ao:Option a8)(n c:Nat)(f:Nat->Mv):Prop:=(ao=none->n=0/\c=0)/\∀U,ao=some U->∃b,U=⟨b,0,none⟩/\b<w.heap.size/\aK w b 0 n f
def pN (w:aE)(ao:Option a8)(n c:Nat)(t:Nat->Int):Prop:=(ao=none->n=0/\c=0)/\∀z,ao=some z->∃b,z=⟨b,0,none⟩/\b<w.heap.size/\aD w b 0 n t
def tE (h:∀ad,ao=some ad->∃b,ad=⟨b,0,none⟩/\b<w.heap.size/\aK w b 0 n f)(hb:ac w.heap.size w w'):∀ad,ao=some ad->∀j u,(bc f n)[j]?=some u->w'.cell? (ad.add j)=some u:=λad U=>by
 obtain⟨b,rfl,Z,hr⟩:=h ad U;exact ep<|hr.below hb Z
def tD (h:∀ad,ao=some ad->∃b,ad=⟨b,0,none⟩/\b<w.heap.size/\aD w b 0 n t)(i:ac w.heap.size w w'):∀ad,ao=some ad->∀j u,(eG t n)[j]?=some u->w'.cell? (ad.add j)=some u:=λad g=>by
 obtain⟨b,rfl,m,o⟩:=h ad g;exact wN<|o.below i m
structure Bx (N:Nat)(now shift:Int)(v u:a4)(W:aE):Prop where
 c0:W.cell? ⟨N,0,none⟩=some (ai .i64 now)
 c1:W.cell? ⟨N,1,none⟩=some (ai .i64 shift)
 c2:W.cell? ⟨N,2,none⟩=some v
 c3:W.cell? ⟨N,3,none⟩=some u
def Bx.same (h:Bx N now shift v u W)(e:W'.heap[N]?=W.heap[N]?):Bx N now shift v u W':=
 ⟨(afH e).trans h.c0,(afH e).trans h.c1,(afH e).trans h.c2,(afH e).trans h.c3⟩
structure Cp (w:aE)(now shift:Int)(v u:a4)(vm:a4)(nm:Nat)(l:List a4)(j:a4)(s:Nat)(x:List a4)(W:aE):Prop where
 below:ac w.heap.size w W
 size:w.heap.size+2<=W.heap.size
 box:W.heap[w.heap.size]?=some (.cells #[ai .i64 now,ai .i64 shift,v,u] 29 (0,0))
 out:W.heap[w.heap.size+1]?=some (.cells #[(0:Int),(0:Int),aa none 0 0,aa none 0 0] 29 (0,0))
 om:W.ownsRow (w.heap.size+2) 55 6 vm nm l
 oi:W.ownsRow (w.heap.size+2) 3 1 j s x
section
variable {vm:a4}{nm:Nat}{l:List a4}{j:a4}{s:Nat}{x:List a4}
def Cp.bx (h:Cp w now shift v u vm nm l j s x W):Bx w.heap.size now shift v u W:=by
 constructor<;>(rw[a7 _ _ _ _ _ _ h.box];rfl)
def Cp.grow (h:Cp w now shift v u vm nm l j s x W)(b:ac W.heap.size W W'):Cp w now shift v u vm nm l j s x W':=
 ⟨h.below.trans<|b.mono h.below.size,afN h.size b.size,(b.block _ (by have:=h.size;omega)).trans h.box,(b.block _ (by have:=h.size;omega)).trans h.out,az h.om λB g=>b.block B (h.om.lt B g).2,az h.oi λB g=>b.block B (h.oi.lt B g).2⟩
def Cp.abx (h:Cp w now shift v u vm nm l j s x W):Cp w now shift v u (aa (some ⟨W.heap.size,0,none⟩) 0 0) 0 [] j s x (W.alloc<|.cells #[] 55):=by
 have g:=h.grow (W':=W.alloc<|.cells #[] 55)<|(afB _ _).alloc ab _;exact⟨g.below,g.size,g.box,g.out,uO h.size,g.oi⟩
def Cp.ZS (h:Cp w now shift v u vm nm l j s x W):Cp w now shift v u vm nm l (aa (some ⟨W.heap.size,0,none⟩) 0 0) 0 [] (W.alloc<|.cells #[] 3):=by
 have g:=h.grow (W':=W.alloc<|.cells #[] 3)<|(afB _ _).alloc ab _;exact⟨g.below,g.size,g.box,g.out,g.om,uO h.size⟩
def Cp.OF (h:Cp w now shift v u vm nm l j s x W)(o:W'.ownsRow (w.heap.size+2) 55 6 r J O)(g:W.grownBy W' vm.ownBlock):Cp w now shift v u r J O j s x W':=by
 have F:=h.size;exact⟨h.below.grown g h.below.size (λq E=>by have:=(h.om.lt q E).1;omega),afN h.size g.size,(g.block _ ab (λe=>by have:=(h.om.lt _ e.symm).1;omega)).trans h.box,(g.block _ ab (λe=>by have:=(h.om.lt _ e.symm).1;omega)).trans h.out,o,az h.oi λB z=>g.block B (h.oi.lt B z).2 λe=>iU h.om h.oi bh e.symm z⟩
def Cp.Yo (h:Cp w now shift v u vm nm l j s x W)(o:W'.ownsRow (w.heap.size+2) 3 1 r J O)(g:W.grownBy W' j.ownBlock):Cp w now shift v u vm nm l r J O W':=by
 have F:=h.size;exact⟨h.below.grown g h.below.size (λq E=>by have:=(h.oi.lt q E).1;omega),afN h.size g.size,(g.block _ ab (λe=>by have:=(h.oi.lt _ e.symm).1;omega)).trans h.box,(g.block _ ab (λe=>by have:=(h.oi.lt _ e.symm).1;omega)).trans h.out,az h.om λB z=>g.block B (h.om.lt B z).2 λe=>iU h.om h.oi bh z e.symm,o⟩
end
def Cp.start (w:aE)(now shift:Int)(v u:a4):Cp w now shift v u (aa none 0 0) 0 [] (aa none 0 0) 0 [] ((w.alloc<|.cells #[ai .i64 now,ai .i64 shift,v,u] 29).alloc<|.cells #[(0:Int),(0:Int),aa none 0 0,aa none 0 0] 29):=
 ⟨((afB _ w).alloc (afK _) _).alloc aP _,aP,(afC _ _ _ aP).trans<|heap_alloc_new w _,dY _ _ _,⟨rfl,.inl ⟨rfl,rfl⟩⟩,⟨rfl,.inl ⟨rfl,rfl⟩⟩⟩
def gM (now shift:Int)(ao:Option a8)(n c:Nat)(f:Nat->Mv)(bo:Option a8)(m d:Nat)(t:Nat->Int)(w:aE)(hn:n<=1048576)(hm:m<=1048576)(hv:qe w ao n c f)(hu:pN w bo m d t):
  a9 Tz.prog 35 #[be #[ai .i64 now,ai .i64 shift,aa ao n c,aa bo m d]] w λe w'=>(∃B c B' c',e=ay (be #[ai .i64 now,ai .i64 shift,aa (some ⟨B,0,none⟩) n c,aa (some ⟨B',0,none⟩) m c'])/\w'.ownsRow w.heap.size 55 6 (aa (some ⟨B,0,none⟩) n c) n (bc f n)/\w'.ownsRow w.heap.size 3 1 (aa (some ⟨B',0,none⟩) m c') m (eG t m))/\ac w.heap.size w w':=by
 let⟨iM,hI,gK,eO,fZ⟩:=fe;let⟨i0,KN,MD,I8,I9⟩:=ur;let⟨ad,ax⟩:=hv;let⟨aB,aF⟩:=hu;have Z:=Cp.start w now shift (aa ao n c)<|aa bo m d;go_enter Tz.func35,Tryz.ntmps35
 go_wp2;have Z:=Z.grow (afB _ _).drew;refine wp_region_held_drew aO Z.bx λU=>aj 0 (bp<|some ⟨w.heap.size,0,none⟩) 3 rfl VA U<|aj 1 (ai .i64 now) 4 rfl VA U<|aj 2 (bp<|some ⟨w.heap.size,1,none⟩) 5 rfl VA U (aj 3 (ai .i64 shift) 6 rfl VA U<|aj 5 (bp<|some ⟨w.heap.size,2,none⟩) 8 rfl VA U<|aj 6 (aa ao n c) 9 rfl VA U<|aj 9 (bp<|some ⟨w.heap.size,3,none⟩) 12 rfl VA U<|aj 10 (aa bo m d) 13 rfl VA U<|Ls 4 8 rfl rfl (λK hK=>?_) λK hK=>?_);focus
  go_simp
  have Z:=Z.abx;try simp only[aN,a5]at Z
  refine hK.out _ _ Z.bx λU=>?_;clear hK K;refine Ls 7 8 rfl rfl (λK hK=>?_) λK hK=>?_;focus
   refine bu rfl (.tmp 7) (.tmp 9) 26 rfl 55 iM _ 6 56 aT hI gK eO fZ rfl bh (w.heap.size+2) _ 0 [] bQ Z.om oC ao n c (bc f n) bQ (bJ f n) ad (tE ax Z.below) (fh f n) iN ab Z.size ?_;intro v1 w1 AU uk nO;simp only[aL,aI]at AU;have Z:=Z.OF AU nO;clear AU nO;refine hK.out _ _ Z.bx λU=>?_;clear hK K;refine f8 8 rfl λK hK=>?_;go_simp
   have Z:=Z.ZS;try simp only[aN,a5]at Z
   refine hK.out _ _ Z.bx λU=>?_;clear hK K;refine f8 11 rfl λK hK=>?_;refine bu rfl (.tmp 11) (.tmp 13) 27 rfl 3 i0 _ 1 8 iH KN MD I8 I9 rfl bh (w.heap.size+2) _ 0 [] bQ Z.oi oC bo m d (eG t m) bQ AZ aB (tD aF Z.below) (jM t m) iN ab Z.size ?_;intro u1 w2 nP xS jC;simp only[aL,aI]at nP;have Z:=Z.Yo nP jC;clear nP jC;refine hK.out _ _ Z.bx λU=>?_;clear hK K
  rotate_left;focus
   go_simp
   have Z:=Z.ZS;try simp only[aN,a5]at Z
   refine hK.out _ _ Z.bx λU=>?_;clear hK K;refine f8 7 rfl λK hK=>?_;refine bu rfl (.tmp 7) (.tmp 9) 26 rfl 55 iM _ 6 56 aT hI gK eO fZ rfl bh (w.heap.size+2) _ 0 [] bQ Z.om oC ao n c (bc f n) bQ (bJ f n) ad (tE ax Z.below) (fh f n) iN ab Z.size ?_;intro v1 w1 AU uk nO;simp only[aL,aI]at AU;have Z:=Z.OF AU nO;clear AU nO;refine hK.out _ _ Z.bx λU=>?_;clear hK K;refine f8 11 rfl λK hK=>?_;refine bu rfl (.tmp 11) (.tmp 13) 27 rfl 3 i0 _ 1 8 iH KN MD I8 I9 rfl bh (w.heap.size+2) _ 0 [] bQ Z.oi oC bo m d (eG t m) bQ AZ aB (tD aF Z.below) (jM t m) iN ab Z.size ?_;intro u1 w2 nP xS jC;simp only[aL,aI]at nP;have Z:=Z.Yo nP jC;clear nP jC;refine hK.out _ _ Z.bx λU=>?_;clear hK K
 rotate_left 2;focus
  go_simp
  have Z:=Z.ZS;try simp only[aN,a5]at Z
  refine hK.out _ _ Z.bx λU=>?_;clear hK K;refine f8 4 rfl λK hK=>?_;go_simp
  have Z:=Z.abx;try simp only[aN,a5]at Z
  refine hK.out _ _ Z.bx λU=>?_;clear hK K;refine f8 7 rfl λK hK=>?_;refine bu rfl (.tmp 7) (.tmp 9) 26 rfl 55 iM _ 6 56 aT hI gK eO fZ rfl bh (w.heap.size+2) _ 0 [] bQ Z.om oC ao n c (bc f n) bQ (bJ f n) ad (tE ax Z.below) (fh f n) iN ab Z.size ?_;intro v1 w1 AU uk nO;simp only[aL,aI]at AU;have Z:=Z.OF AU nO;clear AU nO;refine hK.out _ _ Z.bx λU=>?_;clear hK K;refine f8 11 rfl λK hK=>?_;refine bu rfl (.tmp 11) (.tmp 13) 27 rfl 3 i0 _ 1 8 iH KN MD I8 I9 rfl bh (w.heap.size+2) _ 0 [] bQ Z.oi oC bo m d (eG t m) bQ AZ aB (tD aF Z.below) (jM t m) iN ab Z.size ?_;intro u1 w2 nP xS jC;simp only[aL,aI]at nP;have Z:=Z.Yo nP jC;clear nP jC;refine hK.out _ _ Z.bx λU=>?_;clear hK K
 all_goals
  obtain⟨av,cv,rfl⟩:=ml Z.om uk;obtain⟨au,cu,rfl⟩:=ml Z.oi xS;refine aj 12 ((be #[ai .i64 now,ai .i64 shift,aa (some ⟨av,0,none⟩) n cv,aa (some ⟨au,0,none⟩) m cu])) 15 rfl VA U ?_;simp only[Act.put];refine f8 13 rfl λK hK=>?_;have r0:=a7 w2 _ 0 _ _ _ Z.out;have r1:=a7 w2 _ 1 _ _ _ Z.out;have r2:=a7 w2 _ 2 _ _ _ Z.out;have r3:=a7 w2 _ 3 _ _ _ Z.out;have rf:=λj=>frozen_of_row w2 _ j _ _ Z.out;simp at r0 r1 r2 r3
  go_simp
  refine hK.out _ _ (Z.bx.same<|by repeat(first|exact rfl|exact afD _ _ _ _ aP|refine(afD _ _ _ _ aP).trans ?_)) λU=>?_;clear hK K;refine wpAnyH_done aO ?_ _;clear U;go_wp2;have hm:=Z.om;have hi:=Z.oi;refine bb (v:=be #[ai .i64 now,ai .i64 shift,aa (some ⟨av,0,none⟩) n cv,aa (some ⟨au,0,none⟩) m cu]) (by simp[results,Tryz.results35,go_sem,r0,r1,r2,r3]) rfl ⟨⟨_,_,_,_,rfl,cg (az hm (λB hB=>by have:=(hm.lt B hB).1;rw[afD _ _ _ _ dj,afD _ _ _ _ dj,afD _ _ _ _ dj,afD _ _ _ _ dj])) ab,cg (az hi (λB hB=>by have:=(hi.lt B hB).1;rw[afD _ _ _ _ dj,afD _ _ _ _ dj,afD _ _ _ _ dj,afD _ _ _ _ dj])) ab⟩,(((Z.below.setCell aP _).setCell aP _).setCell aP _).setCell aP _⟩
def qe.pos (h:qe w ao n c f)(Z:0<n):∃b,ao=some ⟨b,0,none⟩/\b<w.heap.size/\aK w b 0 n f:=by
 cases ao with
 |none=>have:=(h.1 rfl).1;omega
 |some U=>let⟨b,e,h1,h2⟩:=h.2 U rfl;grind
def pN.pos (h:pN w ao n c t)(U:0<n):∃b,ao=some ⟨b,0,none⟩/\b<w.heap.size/\aD w b 0 n t:=by
 cases ao with
 |none=>have:=(h.1 rfl).1;omega
 |some z=>let⟨b,e,Z,h2⟩:=h.2 z rfl;grind
def pN.below (h:pN w ao n c t)(hb:ac w w w'):pN w' ao n c t:=
 ⟨h.1,λZ z=>by let⟨b,e,U,h2⟩:=h.2 Z z;exact⟨b,e,afL U hb.size,h2.below hb U⟩⟩
def ik (f:Nat->Mv)(n:Nat)(name:ByteArray)(k:Int):Prop:=k=-1/\(∀i,i<n->de (f i).name name=false)\/∃j:Nat,k=(j:Int)/\j<n/\de (f j).name name=true/\∀i,i<j->de (f i).name name=false
def zJ (now shift:Int)(ao:Option a8)(n c:Nat)(f:Nat->Mv)(bo:Option a8)(m d:Nat)(name:ByteArray)(w:aE)(hn:n<=6)(hv:qe w ao n c f):
  a9 Tz.prog 37 #[be #[now,shift,aa ao n c,aa bo m d],name] w λe w'=>(∃k:Int,e=ay (ai .i64 k)/\ik f n name k)/\ac w w w':=by
 have zj:ac w w (w.alloc<|.cells #[now,shift,aa ao n c,aa bo m d] 29):=(afB _ w).alloc ab _;have p7:aR (w.alloc<|.cells #[now,shift,aa ao n c,aa bo m d] 29) w.heap.size now shift (aa ao n c) (aa bo m d):=a6 _ _;go_enter Tz.func37,Tryz.ntmps37
 go_wp2;go_loopw [5] (λx W=>∃k:Nat,x=ai .i64 k/\k<=n/\ac w w W/\aR W w.heap.size now shift (aa ao n c) (aa bo m d)/\∀i,i<k->de (f i).name name=false) (λx _=>n-(intOf x).toNat)
 .grind
 obtain⟨k,rfl,hk,U,bk,Z⟩:=hrel;have yy:=bk.cells;by_cases aF:k<n
 .obtain⟨b,rfl,bN,aB⟩:=hv.pos ab;have lb:=afL bN U.size;have dV:(k:Int)<n:=ab;have c0:=(aB.below U bN k aF).c0;simp[aL]at c0;cases he:de (f k).name name with
  |true=>
   have PH:((f k).name.toList==name.toList)=true:=he;go_wp2<;>try omega
   go_ret;exact⟨⟨k,rfl,.inr ⟨k,rfl,aF,he,Z⟩⟩,U⟩
  |false=>
   have PH:((f k).name.toList==name.toList)=false:=he;go_wp2<;>try omega
   go_roundw
   case rel=>exact⟨k+1,by go_num,ab,U,bk,λi hi=>by
    by_cases e:i=k
    .subst e;omega
    .exact Z i ab⟩
   exact cD
 have dV:¬(k:Int)<n:=by omega
 go_wp2<;>try omega
 go_ret;exact⟨⟨-1,rfl,.inl ⟨rfl,λi hi=>Z i ab⟩⟩,U⟩
def IsB (e:bt):Prop:=∃x:Bool,e=ay (bv x)
def At (f:Nat->Mv)(k n:Nat)(m:Mv)(hk:k<=n):(bc f k++m.cells.toList)++bc (λj=>f<|k+j) (n-k)=bc (ee f k m) (n+1):=by
 have U:bc f k=bc (ee f k m) k:=pq λj hj=>by unfold ee;grind
 have h2:bc f k++m.cells.toList=bc (ee f k m) (k+1):=by
  rw[ic,U,show ee f k m k=m by unfold ee;rw[if_neg ab,if_pos rfl]]
 have h3:∀r,bc (ee f k m) (k+1)++bc (λj=>f<|k+j) r=bc (ee f k m) (k+1+r):=by
  intro r;induction r with
  |zero=>simp[bc]
  |succ r Z=>
   rw[ic (λj=>f<|k+j) r,<-List.append_assoc,Z,show k+1+(r+1)=k+1+r+1 by omega,ic _ (k+1+r)];congr 3;unfold ee;grind
 grind
def tR (w:aE)(lo b n:Nat)(t:Nat->Int):Prop:=lo<=b/\(∃g,w.heap[b]?=some (.cells g 3 (0,0)))/\aD w b 0 n t
def tR.of (h:w.ownsRow lo 3 1 (aa b n c) n (eG t n)):tR w lo b n t:=by
 refine⟨?_,yi h rfl,GF h⟩;obtain⟨h1,U|⟨g,z,Z,U,h3,h4⟩⟩:=h;all_goals grind
def tR.Z2 (h:aC w b n t)(g:lo<=b):tR w lo b n t:=by
 let⟨⟨i,m,z⟩,o⟩:=h;exact⟨g,⟨i,m⟩,o⟩
def tR.lt (h:tR w lo b n t):b<w:=by
 let⟨_,⟨g,i⟩,_⟩:=h;grind
def fE {base:Nat}{m cap:Nat}(h:w.ownsRow base e size (aa b m cap) m xs):base<=b/\b<w/\m<=cap:=by
 obtain⟨E,o|⟨g,i,z,o,F,G,K⟩⟩:=h;all_goals grind
def boxed (w:aE)(x0 x1:Int)(g:Option a8)(i m:Nat)(o:Option a8)(z E:Nat):∃W,w.alloc (.cells #[x0,x1,aa g i m,aa o z E] 29)=W/\aR W w.heap.size x0 x1 (aa g i m) (aa o z E)/\ac w w W/\W.heap.size=w.heap.size+1:=
 ⟨_,rfl,a6 w _,(afB _ w).alloc (afK _) _,aP⟩
def aJ {L M:Int}{P Q:a4}{i:br}(m:aR W R L M P Q i)(S:ac N w W)(g:N<=R)(x0 x1:Int)(o:Option a8)(z E:Nat)(F:Option a8)(G K:Nat):∃W',((((W.setCell R x0).setCell ⟨R,1,none⟩ x1).setCell ⟨R,2,none⟩<|aa o z E).setCell ⟨R,3,none⟩<|aa F G K)=W'/\aR W' R x0 x1 (aa o z E) (aa F G K) i/\ac N w W'/\W'.heap.size=W.heap.size/\∀k,k≠R->W'.heap[k]?=W.heap[k]?:=by
 refine⟨_,rfl,?_,(((S.setCell g _).setCell g _).setCell g _).setCell g _,aP,λk U=>?_⟩
 .rw[uL m];exact bi _ _ _ _ _ _ m
 grind [Go.RowKit.Below.heap_setCell]
def tw (P:Nat->Bool):∀n,∃k,k<=n/\(∀j,j<k->P j=true)/\(k<n->P k=false)
 |0=>⟨0,afK _,λj i=>absurd i<|afO _,λh=>absurd h<|afO _⟩
 |n+1=>by
  let⟨k,F,g,o⟩:=tw P n;by_cases z:k<n
  .exact⟨k,ab,g,λ_=>o z⟩
  .have E:k=n:=by omega
   subst E;cases m:P k with
   |false=>exact⟨k,ab,g,λ_=>m⟩
   |true=>exact⟨k+1,ab,λj i=>by
     by_cases e:j=k
     .subst e;exact m
     .exact g j ab,λh=>absurd h<|Nat.lt_irrefl _⟩
def Lr {P:Nat->Bool}{k':Nat}(g:k<=n)(i:∀j,j<k->P j=true)(m:k<n->P k=false)(o:k'<=n)(z:∀j,j<k'->P j=true)(E:k'<n->P k'=false):k=k':=gC
def ik.no {k:Int}(h:∀j,j<n->de (f j).name name=false)(hk:ik f n name k):k=-1:=by
 rcases hk with⟨U,_⟩|⟨j,U,Z,h3,_⟩<;>grind
def ik.yes {k:Int}{J:Nat}(U:J<n)(Z:de (f J).name name=true)(h2:∀j,j<J->de (f j).name name=false)(hk:ik f n name k):k=J:=by
 rcases hk with⟨_,h⟩|⟨j,rfl,h3,h4,h5⟩<;>grind
def KD (f:Nat->Mv)(n:Nat)(name:ByteArray):(∃J,J<n/\de (f J).name name=true/\∀j,j<J->de (f j).name name=false)\/∀j,j<n->de (f j).name name=false:=by
 let⟨k,U,Z,h3⟩:=tw (λj=>!de (f j).name name) n;grind
def gN {base:Nat}(h:W.ownsRow base e size v n xs)(g:aR W Y x0 x1 y u)(i:e≠29)(m:v.ownBlock=some B):B≠Y:=λq=>by
 let⟨z,o⟩:=yi h m;subst q;unfold aR at g;rw[o]at g;simp at g;exact i g.2
def JM (h:aR W Y x0 x1 v u)(g:ac N w W)(i:N<=Y)(r:a4):∃W',W.setCell ⟨Y,2,none⟩ r=W'/\aR W' Y x0 x1 r u/\ac N w W'/\W'.heap.size=W.heap.size/\∀k,k≠Y->W'.heap[k]?=W.heap[k]?:=by
 refine⟨_,rfl,?_,g.setCell i _,aP,λk m=>afD _ _ _ _ ab⟩;have:=bs W Y 2 _ _ r h;assumption
def yk (h:aR W Y x0 x1 v u)(g:ac N w W)(i:N<=Y)(r:a4):∃W',W.setCell ⟨Y,3,none⟩ r=W'/\aR W' Y x0 x1 v r/\ac N w W'/\W'.heap.size=W.heap.size/\∀k,k≠Y->W'.heap[k]?=W.heap[k]?:=by
 refine⟨_,rfl,?_,g.setCell i _,aP,λk m=>afD _ _ _ _ ab⟩;have:=bs W Y 3 _ _ r h;assumption
structure Ad (w:aE)(now shift:Int)(ao:Option a8)(n c:Nat)(bo:Option a8)(d R X Bx A C D:Nat)(f:Nat->Mv)(t:Nat->Int)(W:aE):Prop where
 below:ac w w W
 bk:aR W w.heap.size now shift (aa ao n c) (aa bo n d)
 rs:aR W R 0 0 () ()
 hR:w.heap.size<R
 x:aR W X now shift (aa Bx n A) (aa C n D)
 hX:R<X
 om:W.ownsRow (R+1) 55 6 (aa Bx n A) n (bc f n)
 oi:W.ownsRow (R+1) 3 1 (aa C n D) n (eG t n)
section
variable {d X Bx A C D:Nat}
def Ad.grow (h:Ad w now shift ao n c bo d R X Bx A C D f t W)(b:ac W W W'):Ad w now shift ao n c bo d R X Bx A C D f t W':=
 ⟨h.below.trans<|b.mono h.below.size,h.bk.same<|b.block _ h.bk.lt,h.rs.same<|b.block _ h.rs.lt,h.hR,h.x.same<|b.block _ h.x.lt,h.hX,az h.om λB U=>b.block B (h.om.lt B U).2,az h.oi λB U=>b.block B (h.oi.lt B U).2⟩
def Ad.set (h:Ad w now shift ao n c bo d R X Bx A C D f t W)(Z:aR W Y x0 x1 y u)(hY:X<Y)(hb:ac w w W')(e:∀k,k≠Y->W'.heap[k]?=W.heap[k]?):Ad w now shift ao n c bo d R X Bx A C D f t W':=by
 have h1:=h.hR;have h2:=h.hX;exact⟨hb,h.bk.same<|e _ ab,h.rs.same<|e _ ab,h.hR,h.x.same<|e _ ab,h.hX,az h.om λB U=>e B<|gN h.om Z bh U,az h.oi λB U=>e B<|gN h.oi Z bh U⟩
end
section
attribute [local go_sem] Oper.semAt_some
variable {ca:Nat}{da:Nat}
def RJ {p:Prop}(x9:p:=by
  exact⟨rfl,afB _ _⟩):p:=x9
def BF (w:aE):a9 Tz.prog 82 #[aa ao 0 ca] w λe w'=>e=ay true/\ac w w w':=by
 go_enter Tz.func82,Tryz.ntmps82
 go_wp2;go_loopw [3] (λi w'=>i=ai .i64 0/\ac w w w') (λ_ _=>0)
 .exact⟨rfl,afB _ _⟩
 obtain⟨rfl,g⟩:=hrel;go_wp2;go_ret;simp_all
def Bc (w:aE):a9 Tz.prog 103 #[aa ao 0 ca] w λe w'=>e=ay true/\ac w w w':=by
 go_enter Tz.func103,Tryz.ntmps103
 go_wp2;go_loopw [10] (λi w'=>i=ai .i64 0/\ac w w w') (λ_ _=>0)
 .exact RJ
 obtain⟨rfl,g⟩:=hrel;go_wp2;go_ret;simp_all
def uT (w:aE):a9 Tz.prog 60 #[aa ao 0 ca,aa bo 0 da] w λe w'=>e=ay true/\ac w w w':=by
 have g:=BF (ao:=ao) (ca:=ca) w;go_enter Tz.func60,Tryz.ntmps60
 go_wp2_with(go_at_call 82;refine g.mono ?_;clear g;rintro e h ⟨rfl,m⟩)
 go_loopw [5] (λi w'=>i=ai .i64 0/\ac w w w') (λ_ _=>0)
 .grind
 obtain⟨rfl,o⟩:=hrel;go_wp2;go_ret;simp_all
def um (w:aE):a9 Tz.prog 78 #[aa ao 0 ca,aa bo 0 da] w λe w'=>e=ay true/\ac w w w':=by
 have oN:∀o1 o2 o3,ac w w (((w.alloc o1).alloc o2).alloc o3):=λo1 o2 o3=>(((afB _ w).alloc ab _).alloc aP _).alloc dj _
 refine(bn (n:=9)).1 ?_;refine callsIn_of_wp_marks Tz.func78 rfl trivial ?_ rfl;simp[Tryz.ntmps78,List.size_toArray,List.length_cons,List.length_nil,Nat.reduceAdd,Nat.reduceSub,Array.replicate_succ,Array.replicate_zero,List.push_toArray,List.append_toArray,aI,List.cons_append];gi_wp2_with (refine⟨trivial,?_⟩;gi_at_call 103;refine(bn.2<|Bc _).mono ?_;rintro e U ⟨rfl,bL⟩;let⟨ng,ue⟩:=mJ bL)
 have hz:=bL.size;simp at hz;have jU:ac w w U:=(oN _ _ _).trans<|bL.mono (oN _ _ _).size;have l0:U.cell? w.heap.size=some (aa ao 0 ca):=by rw[ng w.heap.size 0 dj];simp[go_sem]
 have l1:U.cell? ⟨w.heap.size+1,0,none⟩=some (aa bo 0 da):=by rw[ng (w.heap.size+1) 0 aP];simp[go_sem]
 have l2:U.cell? ⟨w.heap.size+1+1,0,none⟩=some (bv false):=by rw[ng (w.heap.size+1+1) 0 aP];simp[go_sem]
 have l3:U.frozen? ⟨w.heap.size+1+1,0,none⟩=false:=by rw[ue (w.heap.size+1+1) 0 aP];simp[go_sem]
 clear ng ue bL;gi_loopw [21] (λi wr=>i=ai .i64 0/\ac U U wr) (λ_ _=>0)
 .exact RJ
 obtain⟨rfl,hB⟩:=hrel;have iY:ac w w wr:=jU.trans<|hB.mono jU.size;have av:U.heap.size<=wr:=hB.size;have m0:=(hB.cell dj).trans l0;have m1:=(hB.cell dj).trans l1;gi_wp2_with (refine⟨trivial,?_⟩;gi_at_call 105;refine(bn.2<|CR _ _).mono ?_;rintro e w' ⟨rfl,rfl⟩)
 obtain⟨z,Pw⟩:∃z,wr.alloc (.cells #[(0:Int)] 3)=z:=⟨_,rfl⟩;have hL:ac wr wr z:=Pw▸(afB _ _).alloc ab _;have ax:z.heap.size=wr.heap.size+1:=by rw[<-Pw];simp
 have ad:z.cell? wr.heap.size=some (ai .i64 ((0:Nat):Int)):=by rw[<-Pw];simp
 rw[Pw];clear Pw;have YX:ac w w z:=iY.trans<|hL.mono iY.size;refine wpIn_rangeFunc_ownG rfl ab rfl trivial (enters_of Tz.func139 aO rfl)
  (wV _ wr.heap.size z.heap.size 0 z ab ab ab ad) belowK_t (belowK_b ab) (afB _ _) (λ_=>rfl)
  (λpre W=>ac z z W)
  (λc pre W=>False)
  (ownFrom_below ab ab)
  (λc=>ownFrom_pure _ λ_=>False)
  (afB _ _)
  ?a1 ?assign ?body ?done ?stop
 case assign=>
  intro l x W K hK;gi_wp2
  omega
 .omega
 .rintro D xs W hD hS E0 hK;have ZI:=E0.size;have au:=(E0.cell dj).trans<|(hL.cell dj).trans<|(hB.cell dj).trans l2;have aB:=(E0.frozen dj).trans<|(hL.frozen dj).trans<|(hB.frozen dj).trans l3;gi_wp2
  have Z:=(KeepsOthers.setCell W ⟨w.heap.size+1+1,0,none⟩ true).same D _ hK rfl;refine⟨aP,.inl ⟨_,_,rfl,run_takeDeferred Z,?_⟩⟩;refine⟨bv true,?_,rfl,((YX.trans<|E0.mono YX.size).setCell dj _).trans<|belowK_b (afK _) _ D _ _ ab Z rfl rfl⟩;simp[results,Tryz.f78,go_sem,(cell_kept (World.cell?_setCell_same' W ⟨w.heap.size+1+1,0,none⟩ true<|by rw[au];rfl) (grownBy_putObj' _ D<|.deferred none) (λr e=>by cases e;exact⟨_,Z,rfl⟩))]
 grind
def uR (now shift:Int)(w:aE)(F:0<=now/\now<=10000)(G:0<=shift/\shift<=6):a9 Tz.prog 34 #[be #[now,shift,aa ao 0 ca,aa bo 0 da]] w λe w'=>e=ay true/\ac w w w':=by
 have m:=kv w now shift ao 0 ca bo 0 da;have o:=uT (ao:=ao) (ca:=ca) (bo:=bo) (da:=da)<|Fm w now shift ao 0 ca bo 0 da;have L:=eJ.mpr F;have M:=eJ.mpr G;go_enter Tz.func34,Tryz.ntmps34
 go_wp2_with(first|(go_at_call 59;refine(gL _ _ _ _).mono ?_;rintro e w' ⟨rfl,rfl⟩)|(go_at_call 60;refine o.mono ?_;clear o;rintro e g ⟨rfl,i⟩))
 have z:=m.trans<|i.mono m.size;have K:w.heap.size<g:=afL aP i.size;go_loopw [3] (λx wr=>x=ai .i64 0/\ac g g wr) (λ_ _=>0)
 .exact RJ
 obtain⟨rfl,E⟩:=hrel;let⟨P,Q,S,U⟩:=((qh w now shift ao 0 ca bo 0 da).below i aP).below E K;go_wp2;go_ret;exact⟨rfl,z.trans<|E.mono z.size⟩
def Ed (now shift:Int)(w:aE)(E:0<=now/\now<=10000)(F:0<=shift/\shift<=6):a9 Tz.prog 80 #[be #[now,shift,aa ao 0 ca,aa bo 0 da]] w λe w'=>e=ay true/\ac w w w':=by
 have m:=kv w now shift ao 0 ca bo 0 da;have o:=um (ao:=ao) (ca:=ca) (bo:=bo) (da:=da)<|Fm w now shift ao 0 ca bo 0 da;let⟨L,M⟩:=E;let⟨P,Q⟩:=F;have S:¬now<0:=ab;have U:¬10000<now:=ab;have V:¬shift<0:=ab;have Z:¬6<shift:=ab;go_enter Tz.func80,Tryz.ntmps80
 go_wp2_with(go_at_call 78;refine o.mono ?_;clear o;rintro e g ⟨rfl,i⟩;have G:=(qh w now shift ao 0 ca bo 0 da).below i aP;have eO:w.heap.size<g.heap.size:=afL aP i.size;let⟨a0,a1,a2,a3⟩:=G)
 have z:=m.trans<|i.mono m.size;go_loopw [32] (λx wr=>x=ai .i64 0/\ac g g wr) (λ_ _=>0)
 .exact RJ
 obtain⟨rfl,K⟩:=hrel;go_wp2;go_ret;exact⟨rfl,z.trans<|K.mono z.size⟩
def EH (now shift:Int)(w:aE)(z:0<=now/\now<=10000)(E:0<=shift/\shift<=6):a9 Tz.prog 21 #[be #[now,shift,aa ao 0 ca,aa bo 0 da]] w λe w'=>e=ay true/\ac w w w':=by
 have h:ac w w (w.alloc<|.cells #[now,shift,aa ao 0 ca,aa bo 0 da] 29):=(afB _ w).alloc (afK _) _;have i:aR (w.alloc<|.cells #[now,shift,aa ao 0 ca,aa bo 0 da] 29) w.heap.size now shift (aa ao 0 ca) (aa bo 0 da):=a6 _ _;have m:=uR (ao:=ao) (ca:=ca) (bo:=bo) (da:=da) now shift (w.alloc<|.cells #[now,shift,aa ao 0 ca,aa bo 0 da] 29) z E;go_enter Tz.func21,Tryz.ntmps21
 go_wp2_with(go_at_call 34;refine m.mono ?_;clear m;rintro e G ⟨rfl,o⟩)
 have K:=h.trans<|o.mono h.size;have F:=i.same<|o.block _ i.lt;go_loopw [3,4,5] (λx _ _ W=>x=ai .i64 0/\ac w w W/\aR W w.heap.size now shift (aa ao 0 ca) (aa bo 0 da)) (λ_ _ _ _=>0)
 .grind
 obtain⟨rfl,L,g⟩:=hrel;have M:=g.cells;exact Ho
end
section
set_option linter.unusedVariables false
inductive Ap
 |no (c:Int)
 |yes (p:Nat) (T:Nat->Int)
noncomputable def Ai (f:Nat->Mv)(n:Nat)(q:Mv):Nat:=Classical.choose<|tw (λj=>cr (f j).name q.name) n
def ye (U:k<=n)(Z:∀j,j<k->cr (f j).name q.name=true)(h3:k<n->cr (f k).name q.name=false):Ai f n q=k:=by
 let⟨g1,g2,g3⟩:=Classical.choose_spec<|tw (λj=>cr (f j).name q.name) n;exact Lr g1 g2 g3 U Z h3
open Classical in
noncomputable def AY (f:Nat->Mv)(n:Nat)(now shift:Int)(q:Mv):Ap:=
 if q.ok=false\/¬q.prom<0 then .no 2 else if∃j,j<n/\de (f j).name q.name=true then .no 3 else if¬n<6 then .no 4 else
  match gw (ee f (Ai f n q) q) (n+1) now shift with
  |none=>.no 5
  |some T=>.yes (Ai f n q) T
noncomputable def vj (f:Nat->Mv)(n:Nat)(now shift:Int)(q:Mv):Ap:=
 match AY f n now shift q with
 |.no c=>.no c
 |.yes p T=>if fD now shift (ee f p q) (n+1) T (n+1)=true then .yes p T else .no 6
def KA (h:q.ok=false\/¬q.prom<0):AY f n now shift q=.no 2:=by unfold AY;rw[if_pos h]
def VY (U:q.ok=true)(h2:q.prom<0)(Z:∃j,j<n/\de (f j).name q.name=true):AY f n now shift q=.no 3:=by unfold AY;rw[if_neg (by simp[U];omega),if_pos Z]
def VZ (U:q.ok=true)(h2:q.prom<0)(Z:∀j,j<n->de (f j).name q.name=false)(h4:¬n<6):AY f n now shift q=.no 4:=by unfold AY;rw[if_neg (by simp[U];omega),if_neg (λ⟨j,hj,e⟩=>by rw[Z j hj]at e;cases e),if_pos h4]
def V0 (U:q.ok=true)(Z:q.prom<0)(h3:∀j,j<n->de (f j).name q.name=false)(h4:n<6){K:Nat}(hK:Ai f n q=K):AY f n now shift q=match gw (ee f K q) (n+1) now shift with|none=>.no 5|some T=>.yes K T:=by
 unfold AY;grind
def vk {c:Int}(h:AY f n now shift q=.no c):vj f n now shift q=.no c:=by unfold vj;rw[h]
def VX (h:AY f n now shift q=.yes p T)(hs:fD now shift (ee f p q) (n+1) T (n+1)=false):vj f n now shift q=.no 6:=by unfold vj;rw[h];simp[hs]
def VW (h:AY f n now shift q=.yes p T)(hs:fD now shift (ee f p q) (n+1) T (n+1)=true):vj f n now shift q=.yes p T:=by unfold vj;rw[h];simp[hs]
def S5 {c:Int}(h:AY f n now shift q=.no c):1<c:=by
 unfold AY at h;split at h
 .grind
 split at h<;>grind
def SZ {c:Int}(h:vj f n now shift q=.no c):1<c:=by
 unfold vj at h;split at h
 .next e=>cases h;exact S5 e
 grind
