import Derived.Test.YtlmcblcijndipaaGreatDoora37
set_option linter.defProp false
set_option linter.unusedVariables false
set_option maxHeartbeats 4000000
set_option maxRecDepth 100000
namespace Go.Proofs.YtlmcblcijndipaaGreatDoor
open Go Go.RowKit Go.Shelf RowKit
variable {name:ByteArray}{now shift x0 x1:Int}{x' xs:List Value}{q:Mv}{B N R Y b c k lo n n' p size:Nat}{T t:Nat->Int}{f:Nat->Mv}{ao bo:Option Addr}{e:TypeId}{u v v' y:Value}{W W' w w':World}
def zV (r:Option (Nat->Int))(e:Ending):Prop:=∃(x0 x1:Int) (x2:Option Addr) (l2 c2:Nat) (x3:Option Addr) (l3 c3:Nat),e=.returned (.tuple #[.agg #[x0,x1,.slice x2 l2 c2,.slice x3 l3 c3],r.isSome])
def qf (f:Nat->Mv)(n:Nat)(t:Nat->Int)(p:Nat)(shift:Int)(r:Option (Nat->Int))(w:World)(e:Ending)(w':World):Prop:=
 match r with
 |none=>e=.returned (.tuple #[.agg #[(0:Int),(0:Int),.slice none 0 0,.slice none 0 0],.bool false])
 |some T=>∃BN cN BT cT,e=.returned (.tuple #[.agg #[.int .i64<|t p,.int .i64 shift,.slice (some ⟨BN,0,none⟩) (al f t p n).length cN,.slice (some ⟨BT,0,none⟩) (al f t p n).length cT],.bool true])/\BN<w'.heap.size/\aI w' BN 0 (al f t p n).length (jz<|al f t p n)/\aC w' BT (al f t p n).length T
def qf.says {r:Option (Nat->Int)}{e:Ending}(h:qf f n t p shift r w e w'):zV r e:=by
 cases r with
 |none=>exact⟨0,0,none,0,0,none,0,0,h⟩
 |some T=>let⟨BN,cN,BT,cT,h,_⟩:=h;exact⟨_,_,_,_,_,_,_,_,h⟩
def gp {g:Nat->Int}(h:aC w b n g)(e:w'.heap[b]?=w.heap[b]?):aC w' b n g:=by
 let⟨⟨cs,h1,h2⟩,h3⟩:=h;exact⟨⟨cs,e.trans h1,h2⟩,λi hi=>(ac2 (a:=⟨b,0+i,none⟩) e).trans<|h3 i hi⟩
def kO (w:World)(B:Nat)(x0 x1:Int)(x2:Option Addr)(l2 c2:Nat)(x3:Option Addr)(l3 c3:Nat)(h:w.heap[B]?=some (.cells #[x0,x1,.slice x2 l2 c2,.slice x3 l3 c3] 29 (0,0))):w.cell? B=some (.int .i64 x0)/\w.cell? ⟨B,1,none⟩=some (.int .i64 x1)/\w.cell? ⟨B,2,none⟩=some (.slice x2 l2 c2)/\w.cell? ⟨B,3,none⟩=some (.slice x3 l3 c3):=by
 refine⟨?_,?_,?_,?_⟩<;>simp[World.cell?,h]
def sR (b n cap b' cap' p:Nat)(f:Nat->Mv)(t:Nat->Int)(now shift:Int)(w:World)(hm:aE f n=true)(hf:fk f t n)(hp:p<n)(bH:b<w.heap.size)(aq:aI w b 0 n f)(bI:b'<w.heap.size)(aU:aA w b' 0 n t):
  Calls Tz.prog 56 #[.agg #[.int .i64 now,.int .i64 shift,.slice (some ⟨b,0,none⟩) n cap,.slice (some ⟨b',0,none⟩) n cap'],.int .i64 p] w λe w'=>qf f n t p shift (dV f n t p) w e w'/\Below w.heap.size w w':=by
 have h6:=bZ hm;have YZ:=Mv.fX<|bg hm p hp;have FD:=iR<|hf.1 p hp;obtain⟨wB,IQ⟩:∃W,W=(w.alloc<|.cells #[.int .i64 now,.int .i64 shift,.slice (some ⟨b,0,none⟩) n cap,.slice (some ⟨b',0,none⟩) n cap'] 29).alloc (.cells #[(0:Int),(0:Int),.slice none 0 0,.slice none 0 0] 29):=⟨_,rfl⟩;have wZ:Below w.heap.size w wB:=by rw[IQ];exact((acW _ w).alloc (ac5 _) _).alloc aF _
 have xr:aH wB (w.heap.size+1) 0 0 (.slice none 0 0) (.slice none 0 0):=by rw[IQ];exact dq _ _ _
 have H1:=GV b n cap b' cap' p f t now shift wB hm hf hp (ac6 bH wZ.size) (aq.below wZ bH) (ac6 bI wZ.size)<|aU.below wZ bI;rw[IQ]at H1;go_enter Tz.func56,Tryz.ntmps56
 by_cases hle:t p+6<=(f p).late
 .have hR:dV f n t p=fQ (jz<|al f t p n) (al f t p n).length (t p) 6:=by unfold dV;rw[if_pos hle]
  have gF:=qx (f:=f) (t:=t) (p:=p) hp;have hlen:=fT f t p n;have HP:=λ(BN cN:Nat) (W:World) (aB:BN<W.heap.size) (hr:aI W BN 0 (al f t p n).length (jz<|al f t p n))=>rH BN (al f t p n).length cN (jz<|al f t p n) (t p) 6 W aa (λi hi=>rU hm hf hp hle hi) aa aa aa aa (λhr=>uY hm hf hp hle hr) aB hr
  rw[hR];clear hR;cases hP:fQ (jz<|al f t p n) (al f t p n).length (t p) 6 with
  |none=>
   rw[hP]at HP;go_wp2_with(first
    |(go_at_call 83;refine H1.mono ?_;clear H1;rintro e w1 ⟨l1,b1⟩;rw[<-IQ]at b1 l1;unfold mU at l1;rw[if_pos hle]at l1;obtain⟨BN,cN,rfl,uB,Sl,rN⟩:=l1;have r1:=xr.same<|b1.block _ xr.lt;have yy:=r1.cells;have l41:=r1.lt;have bP:=wZ.trans<|b1.mono wZ.size)
    |(go_at_call 44;refine(HP _ _ _ cU<|rN.below ((acW _ _).alloc (ac5 _) _) Sl).mono ?_;clear HP;rintro e w2 ⟨⟨a2,c2,rfl⟩,b2⟩;have cP:=((acW _ w1).alloc (ac5 _) _).trans<|b2.mono aF;have r2:=r1.same<|cP.block _ r1.lt;have zz:=r2.cells;have l42:=r2.lt))
   rw[te r2];have tE:=setRow_heap w2 (w.heap.size+1) _ #[(0:Int),(0:Int),.slice none 0 0,.slice none 0 0] _ _ r2;have ix:=below_setRow (bP.trans<|cP.mono bP.size) (by omega:w.heap.size<=w.heap.size+1) #[(0:Int),(0:Int),.slice none 0 0,.slice none 0 0];revert tE ix;generalize w2.setRow (w.heap.size+1) #[(0:Int),(0:Int),.slice none 0 0,.slice none 0 0]=W5;intro tE ix;let⟨q0,q1,q2,q3⟩:=kO W5 _ 0 0 none 0 0 none 0 0 tE;refine bodyPost_ret (v:=.tuple #[.agg #[(0:Int),(0:Int),.slice none 0 0,.slice none 0 0],.bool false]) ?_ rfl ⟨rfl,ix⟩;simp[results,Tryz.f56,go_sem,q0,q1,q2,q3]
  |some T=>
   rw[hP]at HP;go_wp2_with(first
    |(go_at_call 83;refine H1.mono ?_;clear H1;rintro e w1 ⟨l1,b1⟩;rw[<-IQ]at b1 l1;unfold mU at l1;rw[if_pos hle]at l1;obtain⟨BN,cN,rfl,uB,Sl,rN⟩:=l1;have r1:=xr.same<|b1.block _ xr.lt;have yy:=r1.cells;have l41:=r1.lt;have bP:=wZ.trans<|b1.mono wZ.size)
    |(go_at_call 44;refine(HP _ _ _ cU<|rN.below ((acW _ _).alloc (ac5 _) _) Sl).mono ?_;clear HP;rintro e w2 ⟨⟨BT,c2,JZ,rfl,oT,_⟩,b2⟩;have cP:=((acW _ w1).alloc (ac5 _) _).trans<|b2.mono aF;have r2:=r1.same<|cP.block _ r1.lt;have zz:=r2.cells;have l42:=r2.lt;have x2:aH w2 w1.heap.size (t p) shift (.slice (some ⟨BN,0,none⟩) (al f t p n).length cN) (.slice none 0 0):=(b2.block _ aF).trans<|heap_alloc_new _ _;have vv:=x2.cells;have l12:=x2.lt;have hne:w.heap.size+1≠w1.heap.size:=adn l41;have YV:=hne.symm))
   have hs:∀k,k≠w1.heap.size->(w2.setCell ⟨w1.heap.size,3,none⟩<|.slice (some ⟨BT,0,none⟩) (al f t p n).length c2).heap[k]?=w2.heap[k]?:=λk hk=>acY _ _ _ k hk
   have Up:=(bP.trans<|cP.mono bP.size).setCell (p:=⟨w1.heap.size,3,none⟩) bP.size<|.slice (some ⟨BT,0,none⟩) (al f t p n).length c2;have U0:(w2.setCell ⟨w1.heap.size,3,none⟩<|.slice (some ⟨BT,0,none⟩) (al f t p n).length c2).heap.size=w2.heap.size:=aF;revert hs Up U0;generalize w2.setCell ⟨w1.heap.size,3,none⟩ (.slice (some ⟨BT,0,none⟩) (al f t p n).length c2)=w3;intro hs Up U0;have r3:=r2.same<|hs _ hne;have Nj:w3.heap.size=w2.heap.size:=U0;have aax:=cP.block BN Sl;have xf:w.heap.size+2<=BN:=by rw[IQ]at uB;simpa using uB
   have acl:=ac6 Sl cP.size;have hT1:w1.heap.size+1<=BT:=by simpa using JZ
   have acm:=oT.lt;rw[te r3];have tE:=setRow_heap w3 (w.heap.size+1) _ #[.int .i64<|t p,.int .i64 shift,.slice (some ⟨BN,0,none⟩) (al f t p n).length cN,.slice (some ⟨BT,0,none⟩) (al f t p n).length c2] _ _ r3;have ix:=below_setRow Up (by omega:w.heap.size<=w.heap.size+1) #[.int .i64<|t p,.int .i64 shift,.slice (some ⟨BN,0,none⟩) (al f t p n).length cN,.slice (some ⟨BT,0,none⟩) (al f t p n).length c2];have rF:(w3.setRow (w.heap.size+1) #[.int .i64<|t p,.int .i64 shift,.slice (some ⟨BN,0,none⟩) (al f t p n).length cN,.slice (some ⟨BT,0,none⟩) (al f t p n).length c2]).heap.size=w3.heap.size:=setRow_size _ _ _;have mo:∀k,k≠w.heap.size+1->(w3.setRow (w.heap.size+1) #[.int .i64<|t p,.int .i64 shift,.slice (some ⟨BN,0,none⟩) (al f t p n).length cN,.slice (some ⟨BT,0,none⟩) (al f t p n).length c2]).heap[k]?=w3.heap[k]?:=λk hk=>setRow_other _ _ _ _ hk
   revert tE ix rF mo;generalize w3.setRow (w.heap.size+1) #[.int .i64<|t p,.int .i64 shift,.slice (some ⟨BN,0,none⟩) (al f t p n).length cN,.slice (some ⟨BT,0,none⟩) (al f t p n).length c2]=W5;intro tE ix rF mo;let⟨q0,q1,q2,q3⟩:=kO W5 _ _ _ _ _ _ _ _ _ tE;refine bodyPost_ret (v:=.tuple #[.agg #[.int .i64<|t p,.int .i64 shift,.slice (some ⟨BN,0,none⟩) (al f t p n).length cN,.slice (some ⟨BT,0,none⟩) (al f t p n).length c2],.bool true]) ?_ rfl ⟨⟨BN,cN,BT,c2,rfl,aa,dL rN<|(mo BN aa).trans<|(hs BN aa).trans aax,gp oT<|(mo BT aa).trans<|hs BT aa⟩,ix⟩;simp[results,Tryz.f56,go_sem,q0,q1,q2,q3]
 .have hR:dV f n t p=none:=by unfold dV;rw[if_neg hle]
  rw[hR];clear hR;go_wp2_with(go_at_call 83;refine H1.mono ?_;clear H1;rintro e w1 ⟨l1,b1⟩;rw[<-IQ]at b1 l1;unfold mU at l1;rw[if_neg hle]at l1;subst l1;have r1:=xr.same<|b1.block _ xr.lt;have yy:=r1.cells;have l41:=r1.lt;have bP:=wZ.trans<|b1.mono wZ.size)
  rw[te r1];have tE:=setRow_heap w1 (w.heap.size+1) _ #[(0:Int),(0:Int),.slice none 0 0,.slice none 0 0] _ _ r1;have ix:=below_setRow bP (by omega:w.heap.size<=w.heap.size+1) #[(0:Int),(0:Int),.slice none 0 0,.slice none 0 0];have rF:(w1.setRow (w.heap.size+1) #[(0:Int),(0:Int),.slice none 0 0,.slice none 0 0]).heap.size=w1.heap.size:=setRow_size _ _ _;revert tE ix rF;generalize w1.setRow (w.heap.size+1) #[(0:Int),(0:Int),.slice none 0 0,.slice none 0 0]=W5;intro tE ix rF;have DX:=λo=>(acX W5 o (w.heap.size+1) aa).trans tE
  have hb6:=λo=>ix.alloc (o:=o) ix.size
  have q0:=λo=>(kO (W5.alloc o) _ 0 0 none 0 0 none 0 0<|DX o).1
  have q1:=λo=>(kO (W5.alloc o) _ 0 0 none 0 0 none 0 0<|DX o).2.1
  have q2:=λo=>(kO (W5.alloc o) _ 0 0 none 0 0 none 0 0<|DX o).2.2.1
  have q3:=λo=>(kO (W5.alloc o) _ 0 0 none 0 0 none 0 0<|DX o).2.2.2
  refine bodyPost_ret (v:=.tuple #[.agg #[(0:Int),(0:Int),.slice none 0 0,.slice none 0 0],.bool false]) ?_ rfl ⟨rfl,hb6 _⟩;simp[results,Tryz.f56,go_sem,q0,q1,q2,q3]
def Ec (b n cap b' cap' p:Nat)(f:Nat->Mv)(t:Nat->Int)(now shift:Int)(w:World)(hm:aE f n=true)(hf:fk f t n)(hp:p<n)(bH:b<w)(aq:aI w b 0 n f)(bI:b'<w)(aU:aA w b' 0 n t):
  Calls Tz.prog 56 #[.agg #[.int .i64 now,.int .i64 shift,.slice (some ⟨b,0,none⟩) n cap,.slice (some ⟨b',0,none⟩) n cap'],.int .i64 p] w λe w'=>zV (dV f n t p) e/\Below w.heap.size w w':=
 (sR b n cap b' cap' p f t now shift w hm hf hp bH aq bI aU).mono λe w' h=>⟨h.1.says,h.2⟩
def tl (now shift:Int)(b n cap:Nat)(f:Nat->Mv)(b' m cap':Nat)(t:Nat->Int)(w:World)(hn:n<=1048576)(lU:m<=maxLen)(bH:b<w.heap.size)(aq:aI w b 0 n f)(gE:∀i,i<n->(f i).Fits)(bI:b'<w.heap.size)(aU:aA w b' 0 m t):
  Calls Tz.prog 26 #[.agg #[.int .i64 now,.int .i64 shift,.slice (some ⟨b,0,none⟩) n cap,.slice (some ⟨b',0,none⟩) m cap']] w λe w'=>e=.returned (.bool<|fi now shift f n t m)/\Below w.heap.size w w':=by
 obtain⟨wB,IQ⟩:∃W,W=w.alloc (.cells #[.int .i64 now,.int .i64 shift,.slice (some ⟨b,0,none⟩) n cap,.slice (some ⟨b',0,none⟩) m cap'] 29):=⟨_,rfl⟩;have wZ:Below w.heap.size w wB:=by rw[IQ];exact(acW _ w).alloc (ac5 _) _
 have mG:aH wB w.heap.size now shift (.slice (some ⟨b,0,none⟩) n cap) (.slice (some ⟨b',0,none⟩) m cap'):=by rw[IQ];exact heap_alloc_new _ _
 have H1:=tj now shift b 0 n cap f b' 0 m cap' t wB hn lU (ac6 bH wZ.size) (aq.below wZ bH) gE (ac6 bI wZ.size)<|aU.below wZ bI;rw[IQ]at H1;go_enter Tz.func26,Tryz.ntmps26
 cases hb:aX now shift f n t m with
 |false=>
  rw[hb]at H1;rw[E9 hb];go_wp2_with(go_at_call 39;refine H1.mono ?_;clear H1;rintro e w1 ⟨rfl,b1⟩;rw[<-IQ]at b1)
  go_ret;exact⟨rfl,wZ.trans<|b1.mono wZ.size⟩
 |true=>
  let⟨hm,Av,hf⟩:=cK hb;replace Av:=Av.symm;subst Av;have h6:=bZ hm;rw[hb]at H1;have HB:Hid (aX now shift f n t n=true):=hb;clear hb;go_wp2_with(go_at_call 39;refine H1.mono ?_;clear H1;rintro e w1 ⟨rfl,b1⟩;rw[<-IQ]at b1)
  have bP:=wZ.trans<|b1.mono wZ.size;have bk1:=mG.same<|b1.block _ mG.lt;clear b1 mG wZ IQ;go_loopw [3,4,5] (λx _ _ W=>∃k:Nat,x=.int .i64 k/\k<=n/\Below w.heap.size w W/\aH W w.heap.size now shift (.slice (some ⟨b,0,none⟩) n cap) (.slice (some ⟨b',0,none⟩) n cap')/\∀p,p<k->(f p).aj=true->(dV f n t p).isSome=true) (λx _ _ _=>n-(intOf x).toNat)
  case atStart=>exact⟨0,rfl,ada _,bP,bk1,λp hp=>absurd hp<|ac9 _⟩
  case round=>
   clear bP bk1;obtain⟨k,rfl,hk,gK,bkr,cE⟩:=hrel;have yy:=bkr.cells;have lb1:=bkr.lt;by_cases aB:k<n
   .have dr:(k:Int)<n:=by omega
    have Zz:=ac6 bH gK.size;have Nv:=ac6 bI gK.size;have H2:=Ec b n cap b' cap' k f t now shift wr hm hf aB Zz (aq.below gK bH) Nv<|aU.below gK bI;have FACTS:∀w2,Below wr.heap.size wr w2->aH w2 w.heap.size now shift (.slice (some ⟨b,0,none⟩) n cap) (.slice (some ⟨b',0,none⟩) n cap')/\w2.cell? ⟨b,k*6+1,none⟩=some (.bool (f k).aj)/\b<w2.heap.size:=λw2 hb=>by
     have h:=((aq.below gK bH).below hb Zz k aB).c1;rw[Nat.zero_add]at h;exact⟨bkr.same<|hb.block _ lb1,h,ac6 Zz hb.size⟩
    cases hr:dV f n t k with
    |none=>
     cases Gx:(f k).aj with
     |false=>
      go_wp2_with(go_at_call 56;refine H2.mono ?_;clear H2;rintro e w2 ⟨⟨x0,x1,x2,l2,c2,x3,l3,c3,rfl⟩,b2⟩;let⟨bk2,d1,U3⟩:=FACTS w2 b2;rw[Gx]at d1;have zz:=bk2.cells;have WU:=bk2.lt;rw[hr])
      all_goals try omega
      go_roundw
      case rel=>exact⟨k+1,by go_num,aa,(gK.trans<|b2.mono gK.size).alloc (by have:=gK.size;have:=b2.size;omega) _,bk2.same<|acX _ _ _ WU,λp hp hl=>by
       by_cases e:p=k
       .subst e;rw[Gx]at hl;cases hl
       .exact cE p aa hl⟩
      case measure=>exact cI
     |true=>
      have pg:fi now shift f n t n=false:=A5 (λh=>by have:=h k aB Gx;rw[hr]at this;cases this);go_wp2_with(go_at_call 56;refine H2.mono ?_;clear H2;rintro e w2 ⟨⟨x0,x1,x2,l2,c2,x3,l3,c3,rfl⟩,b2⟩;let⟨bk2,d1,U3⟩:=FACTS w2 b2;rw[Gx]at d1;have zz:=bk2.cells;have WU:=bk2.lt;rw[hr])
      all_goals try omega
      go_ret;exact⟨by first|rfl|(rw[pg];rfl)|rw[pg],(gK.trans<|b2.mono gK.size).alloc (by have:=gK.size;have:=b2.size;omega) _⟩
    |some T=>
     cases Gx:(f k).aj with
     |false=>
      go_wp2_with(go_at_call 56;refine H2.mono ?_;clear H2;rintro e w2 ⟨⟨x0,x1,x2,l2,c2,x3,l3,c3,rfl⟩,b2⟩;let⟨bk2,d1,U3⟩:=FACTS w2 b2;rw[Gx]at d1;have zz:=bk2.cells;have WU:=bk2.lt;rw[hr])
      all_goals try omega
      go_roundw
      case rel=>exact⟨k+1,by go_num,aa,(gK.trans<|b2.mono gK.size).alloc (by have:=gK.size;have:=b2.size;omega) _,bk2.same<|acX _ _ _ WU,λp hp hl=>by
       by_cases e:p=k
       .subst e;rw[hr];rfl
       .exact cE p aa hl⟩
      case measure=>exact cI
     |true=>
      go_wp2_with(go_at_call 56;refine H2.mono ?_;clear H2;rintro e w2 ⟨⟨x0,x1,x2,l2,c2,x3,l3,c3,rfl⟩,b2⟩;let⟨bk2,d1,U3⟩:=FACTS w2 b2;rw[Gx]at d1;have zz:=bk2.cells;have WU:=bk2.lt;rw[hr])
      all_goals try omega
      go_roundw
      case rel=>exact⟨k+1,by go_num,aa,(gK.trans<|b2.mono gK.size).alloc (by have:=gK.size;have:=b2.size;omega) _,bk2.same<|acX _ _ _ WU,λp hp hl=>by
       by_cases e:p=k
       .subst e;rw[hr];rfl
       .exact cE p aa hl⟩
      case measure=>exact cI
   .have dr:¬(k:Int)<n:=by omega
    have Zt:fi now shift f n t n=true:=uo HB.out λp hp=>cE p aa;go_wp2;all_goals try omega
    go_ret;exact⟨by first|rfl|(rw[Zt];rfl)|rw[Zt],gK⟩
def jr:Tz.prog.underlying 27=some (.slice 3):=bD
def xC:∃i,Tz.prog.info? 3=some i/\i.zero=some (.int .i64 0)/\i.size=1/\i.bytes=8:=by
 have h:(Tz.prog.info? 3).map (λi=>(i.zero,i.size,i.bytes))=some (some<|.int .i64 0,1,8):=bD;cases hI:Tz.prog.info? 3 with
 |none=>rw[hI]at h;simp at h
 |some i=>rw[hI]at h;simp only[Option.map_some,Option.some.injEq,Prod.mk.injEq]at h;exact⟨i,rfl,h.1,h.2.1,h.2.2⟩
section
variable {base Ab:Nat}
def az (h:w.ownsRow base e size v n xs)(hs:∀B,v.ownBlock=some B->w'.heap[B]?=w.heap[B]?):w'.ownsRow base e size v n xs:=by
 obtain⟨h1,⟨rfl,rfl⟩|⟨g,cap,cur,rfl,h3,h4,h5⟩⟩:=h
 .exact⟨h1,.inl ⟨rfl,rfl⟩⟩
 .exact⟨h1,.inr ⟨g,cap,cur,rfl,h3,(hs g rfl).trans h4,h5⟩⟩
def bY (h:w.ownsRow base e size v n xs)(hb:Ab<=base):w.ownsRow Ab e size v n xs:=by
 obtain⟨h1,h2|⟨g,cap,cur,h2,h3,h4⟩⟩:=h
 .exact⟨h1,.inl h2⟩
 .exact⟨h1,.inr ⟨g,cap,cur,h2,ac8 hb h3,h4⟩⟩
def lu (h:w.ownsRow base e size v n xs)(hn:v≠.slice none 0 0):∃B c,v=.slice (some ⟨B,0,none⟩) n c:=by
 obtain⟨h1,h2|⟨g,cap,cur,h2,h3,h4⟩⟩:=h
 .exact absurd h2.1 hn
 .exact⟨g,cap,h2⟩
def vU (h:w.ownsRow base e size v n xs)(hB:v.ownBlock=some B):∃cs,w.heap[B]?=some (.cells cs e (0,0)):=by
 obtain⟨h1,⟨rfl,rfl⟩|⟨g,c,cur,rfl,h3,h4,h5⟩⟩:=h
 .cases hB
 .simp[Value.ownBlock]at hB;subst hB;exact⟨_,h4⟩
def io {xs':List Value}{e':TypeId}{Z7:Nat}(h:w.ownsRow base e size v n xs)(h':w.ownsRow Ab e' Z7 v' n' xs')(hne:e≠e')(hB:v.ownBlock=some B):v'.ownBlock≠some B:=λx=>by
 let⟨c1,e1⟩:=vU h hB;let⟨c2,e2⟩:=vU h' x;rw[e1]at e2;simp at e2;exact hne e2.2
def th (h:base<=w.heap.size):(w.alloc<|.cells #[] e).ownsRow base e size (.slice (some ⟨w.heap.size,0,none⟩) 0 0) 0 []:=⟨aF,.inr ⟨w.heap.size,0,#[],rfl,h,heap_alloc_new w _,ac5 _,ada _,aF,aF⟩⟩
end
def bw {P:Program}{ops:Array Oper}{o:Oper}{a:Act}{K:Act->World->Prop}{Q:Exit->Act->World->Prop}{E:Prop}
  (hg:o.guard=none)(s x:Operand)(t:TypeId)(bz:o.op=Op.call {callee:=Callee.builtin Builtin.append,args:=#[s,x],argTypes:=#[t,t]})
  (e:TypeId)(i:TypeInfo)(z:Value)(size bytes:Nat)(h1:P.underlying t=some (.slice e))(h2:P.info? e=some i)(h3:i.zero=some z)(h4:i.size=size)(h5:i.bytes=bytes)(h6:z.cells.size=size)(h7:0<size)
  (base:Nat)(v:Value)(n:Nat)(Es:List Value)(hs:a.eval s=v)(bc:w.ownsRow base e size v n Es)(hv:v≠.slice none 0 0)
  (ao:Option Addr)(m c:Nat)(news:List Value)(hx:a.eval x=.slice ao m c)(hn:news.length=m*size)(YX:ao=none->m=0/\c=0)(hc:∀ad,ao=some ad->∀j u,news[j]?=some u->w.cell? (ad.add j)=some u)(h1c:∀u∈news,u.oneCell'=true)
  (b1:n+m<=maxLen)(b2:(n+m)*bytes<=140737488355328)(hb:base<=w.heap.size)
  (hK:∀v' w',w'.ownsRow base e size v' (n+m) (Es++news)->v'≠.slice none 0 0->w.grownBy w' v.ownBlock->K (a.put o.dst v') w'):
  if Region.wanted o (yielded ops a.tmps)=true then Oper.wp P o a w K Q else E:=by
 have hw:Region.wanted o (yielded ops a.tmps)=true:=kV;rw[if_pos hw];cases ao with
 |some ad=>
  let⟨v',w',d6,r1,r2,r3⟩:=run_append_own (P:=P) w base t o.type e i z size bytes h1 h2 h3 h4 h5 h6 h7 v n Es bc ad m c news hn (hc ad rfl) h1c b1 b2 hb;unfold Oper.wp;simp[execOp,bz,resolve,invoke,builtin,hs,hx,d6,Result.andThen];exact hK v' w' r1 (λx=>hv (r3.1 x).1) r2
 |none=>
  obtain⟨rfl,rfl⟩:=YX rfl;have gd:news=[]:=List.eq_nil_of_length_eq_zero (by simpa using hn);subst gd;have d6:=run_append_owned_none (P:=P) w base t o.type e i size h1 h2 _ n Es bc;unfold Oper.wp;simp[execOp,bz,resolve,invoke,builtin,hs,hx,d6,Result.andThen];exact hK _ _ (by simpa using bc) hv<|World.grownBy.refl _ _
def gw (w:World)(ao:Option Addr)(n c:Nat)(f:Nat->Mv):Prop:=(ao=none->n=0/\c=0)/\∀ad,ao=some ad->∃b,ad=⟨b,0,none⟩/\b<w.heap.size/\aI w b 0 n f
def ja (w:World)(ao:Option Addr)(n c:Nat)(t:Nat->Int):Prop:=(ao=none->n=0/\c=0)/\∀ad,ao=some ad->∃b,ad=⟨b,0,none⟩/\b<w.heap.size/\aA w b 0 n t
def sg (h:∀ad,ao=some ad->∃b,ad=⟨b,0,none⟩/\b<w.heap.size/\aI w b 0 n f)(hb:Below w.heap.size w w'):∀ad,ao=some ad->∀j u,(aV f n)[j]?=some u->w'.cell? (ad.add j)=some u:=λad had=>by
 obtain⟨b,rfl,aB,hr⟩:=h ad had;exact dW<|hr.below hb aB
def se (h:∀ad,ao=some ad->∃b,ad=⟨b,0,none⟩/\b<w.heap.size/\aA w b 0 n t)(hb:Below w.heap.size w w'):∀ad,ao=some ad->∀j u,(dX t n)[j]?=some u->w'.cell? (ad.add j)=some u:=λad had=>by
 obtain⟨b,rfl,aB,hr⟩:=h ad had;exact uL<|hr.below hb aB
structure Bx (N:Nat)(now shift:Int)(v u:Value)(W:World):Prop where
 c0:W.cell? ⟨N,0,none⟩=some (.int .i64 now)
 c1:W.cell? ⟨N,1,none⟩=some (.int .i64 shift)
 c2:W.cell? ⟨N,2,none⟩=some v
 c3:W.cell? ⟨N,3,none⟩=some u
def Bx.same (h:Bx N now shift v u W)(e:W'.heap[N]?=W.heap[N]?):Bx N now shift v u W':=
 ⟨(ac2 (a:=⟨N,0,none⟩) e).trans h.c0,(ac2 (a:=⟨N,1,none⟩) e).trans h.c1,(ac2 (a:=⟨N,2,none⟩) e).trans h.c2,(ac2 (a:=⟨N,3,none⟩) e).trans h.c3⟩
structure Cp (w:World)(now shift:Int)(v u:Value)(vm:Value)(nm:Nat)(xm:List Value)(vi:Value)(ni:Nat)(xi:List Value)(W:World):Prop where
 below:Below w.heap.size w W
 size:w.heap.size+2<=W.heap.size
 box:W.heap[w.heap.size]?=some (.cells #[.int .i64 now,.int .i64 shift,v,u] 29 (0,0))
 out:W.heap[w.heap.size+1]?=some (.cells #[(0:Int),(0:Int),.slice none 0 0,.slice none 0 0] 29 (0,0))
 om:W.ownsRow (w.heap.size+2) 31 6 vm nm xm
 oi:W.ownsRow (w.heap.size+2) 3 1 vi ni xi
section
variable {vm:Value}{nm:Nat}{xm:List Value}{vi:Value}{ni:Nat}{xi:List Value}
def Cp.bx (h:Cp w now shift v u vm nm xm vi ni xi W):Bx w.heap.size now shift v u W:=by
 constructor<;>(rw[cell_of_row _ _ _ _ _ _ h.box];rfl)
def Cp.grow (h:Cp w now shift v u vm nm xm vi ni xi W)(b:Below W.heap.size W W'):Cp w now shift v u vm nm xm vi ni xi W':=
 ⟨h.below.trans<|b.mono h.below.size,ac8 h.size b.size,(b.block _ (by have:=h.size;omega)).trans h.box,(b.block _ (by have:=h.size;omega)).trans h.out,az h.om λB hB=>b.block B (h.om.lt B hB).2,az h.oi λB hB=>b.block B (h.oi.lt B hB).2⟩
def Cp.ZJ (h:Cp w now shift v u vm nm xm vi ni xi W):Cp w now shift v u (.slice (some ⟨W.heap.size,0,none⟩) 0 0) 0 [] vi ni xi (W.alloc<|.cells #[] 31):=by
 have g:=h.grow (W':=W.alloc<|.cells #[] 31)<|(acW _ _).alloc (ac5 _) _;exact⟨g.below,g.size,g.box,g.out,th h.size,g.oi⟩
def Cp.U7 (h:Cp w now shift v u vm nm xm vi ni xi W):Cp w now shift v u vm nm xm (.slice (some ⟨W.heap.size,0,none⟩) 0 0) 0 [] (W.alloc<|.cells #[] 3):=by
 have g:=h.grow (W':=W.alloc<|.cells #[] 3)<|(acW _ _).alloc (ac5 _) _;exact⟨g.below,g.size,g.box,g.out,g.om,th h.size⟩
def Cp.LJ (h:Cp w now shift v u vm nm xm vi ni xi W)(o:W'.ownsRow (w.heap.size+2) 31 6 v' n' x')(g:W.grownBy W' vm.ownBlock):Cp w now shift v u v' n' x' vi ni xi W':=by
 have hs:=h.size;exact⟨h.below.grown g h.below.size (λq hq=>by have:=(h.om.lt q hq).1;omega),ac8 h.size g.size,(g.block _ aa (λe=>by have:=(h.om.lt _ e.symm).1;omega)).trans h.box,(g.block _ aa (λe=>by have:=(h.om.lt _ e.symm).1;omega)).trans h.out,o,az h.oi λB hB=>g.block B (h.oi.lt B hB).2 λe=>io h.om h.oi bF e.symm hB⟩
def Cp.Tt (h:Cp w now shift v u vm nm xm vi ni xi W)(o:W'.ownsRow (w.heap.size+2) 3 1 v' n' x')(g:W.grownBy W' vi.ownBlock):Cp w now shift v u vm nm xm v' n' x' W':=by
 have hs:=h.size;exact⟨h.below.grown g h.below.size (λq hq=>by have:=(h.oi.lt q hq).1;omega),ac8 h.size g.size,(g.block _ aa (λe=>by have:=(h.oi.lt _ e.symm).1;omega)).trans h.box,(g.block _ aa (λe=>by have:=(h.oi.lt _ e.symm).1;omega)).trans h.out,az h.om λB hB=>g.block B (h.om.lt B hB).2 λe=>io h.om h.oi bF hB e.symm,o⟩
end
def Cp.start (w:World)(now shift:Int)(v u:Value):Cp w now shift v u (.slice none 0 0) 0 [] (.slice none 0 0) 0 [] ((w.alloc<|.cells #[.int .i64 now,.int .i64 shift,v,u] 29).alloc<|.cells #[(0:Int),(0:Int),.slice none 0 0,.slice none 0 0] 29):=
 ⟨((acW _ w).alloc (ac5 _) _).alloc aF _,aF,(acX _ _ _ aF).trans<|heap_alloc_new w _,dq _ _ _,⟨rfl,.inl ⟨rfl,rfl⟩⟩,⟨rfl,.inl ⟨rfl,rfl⟩⟩⟩
def fK (now shift:Int)(ao:Option Addr)(n c:Nat)(f:Nat->Mv)(bo:Option Addr)(m d:Nat)(t:Nat->Int)(w:World)(hn:n<=1048576)(hm:m<=1048576)(hv:gw w ao n c f)(hu:ja w bo m d t):
  Calls Tz.prog 40 #[.agg #[.int .i64 now,.int .i64 shift,.slice ao n c,.slice bo m d]] w λe w'=>(∃B c B' c',e=.returned (.agg #[.int .i64 now,.int .i64 shift,.slice (some ⟨B,0,none⟩) n c,.slice (some ⟨B',0,none⟩) m c'])/\w'.ownsRow w.heap.size 31 6 (.slice (some ⟨B,0,none⟩) n c) n (aV f n)/\w'.ownsRow w.heap.size 3 1 (.slice (some ⟨B',0,none⟩) m c') m (dX t m))/\Below w.heap.size w w':=by
 let⟨iM,hI,gj,eO,gM⟩:=eJ;let⟨i0,Lb,Ng,IT,Ke⟩:=xC;let⟨hvn,hvr⟩:=hv;let⟨hun,hur⟩:=hu;have hC:=Cp.start w now shift (.slice ao n c)<|.slice bo m d;go_enter Tz.func40,Tryz.ntmps40
 go_wp2;have hC:=hC.grow (acW _ _).drew;refine wp_region_held_drew (S:=Bx w.heap.size now shift (.slice ao n c)<|.slice bo m d) bD hC.bx λhHeld=>?_;refine aO 0 (.pointer<|some ⟨w.heap.size,0,none⟩) 3 rfl Ru hHeld ?_;refine aO 1 (.int .i64 now) 4 rfl Ru hHeld ?_;refine aO 2 (.pointer<|some ⟨w.heap.size,1,none⟩) 5 rfl Ru hHeld ?_;refine aO 3 (.int .i64 shift) 6 rfl Ru hHeld ?_;refine aO 5 (.pointer<|some ⟨w.heap.size,2,none⟩) 8 rfl Ru hHeld ?_;refine aO 6 (.slice ao n c) 9 rfl Ru hHeld ?_;refine aO 9 (.pointer<|some ⟨w.heap.size,3,none⟩) 12 rfl Ru hHeld ?_;refine aO 10 (.slice bo m d) 13 rfl Ru hHeld ?_;refine NW 4 8 rfl rfl (λK hK=>?_) λK hK=>?_;focus
  go_simp
  have hC:=hC.ZJ;try simp only[World.size_alloc,World.size_drew]at hC
  refine hK.out _ _ hC.bx λhHeld=>?_;clear hK K;refine NW 7 8 rfl rfl (λK hK=>?_) λK hK=>?_;focus
   refine bw rfl (.tmp 7) (.tmp 9) 23 rfl 31 iM _ 6 56 aP hI gj eO gM rfl bF (w.heap.size+2) _ 0 [] cj hC.om nK ao n c (aV f n) cj (bp f n) hvn (sg hvr hC.below) (eM f n) jl aa hC.size ?_;intro v1 w1 yP yQ mn;simp only[Nat.zero_add,List.nil_append]at yP;have hC:=hC.LJ yP mn;clear yP mn;refine hK.out _ _ hC.bx λhHeld=>?_;clear hK K;refine iX 8 rfl λK hK=>?_;go_simp
   have hC:=hC.U7;try simp only[World.size_alloc,World.size_drew]at hC
   refine hK.out _ _ hC.bx λhHeld=>?_;clear hK K;refine iX 11 rfl λK hK=>?_;refine bw rfl (.tmp 11) (.tmp 13) 27 rfl 3 i0 _ 1 8 jr Lb Ng IT Ke rfl bF (w.heap.size+2) _ 0 [] cj hC.oi nK bo m d (dX t m) cj yU hun (se hur hC.below) (jt t m) jl aa hC.size ?_;intro u1 w2 qF mZ jW;simp only[Nat.zero_add,List.nil_append]at qF;have hC:=hC.Tt qF jW;clear qF jW;refine hK.out _ _ hC.bx λhHeld=>?_;clear hK K
  rotate_left;focus
   go_simp
   have hC:=hC.U7;try simp only[World.size_alloc,World.size_drew]at hC
   refine hK.out _ _ hC.bx λhHeld=>?_;clear hK K;refine iX 7 rfl λK hK=>?_;refine bw rfl (.tmp 7) (.tmp 9) 23 rfl 31 iM _ 6 56 aP hI gj eO gM rfl bF (w.heap.size+2) _ 0 [] cj hC.om nK ao n c (aV f n) cj (bp f n) hvn (sg hvr hC.below) (eM f n) jl aa hC.size ?_;intro v1 w1 yP yQ mn;simp only[Nat.zero_add,List.nil_append]at yP;have hC:=hC.LJ yP mn;clear yP mn;refine hK.out _ _ hC.bx λhHeld=>?_;clear hK K;refine iX 11 rfl λK hK=>?_;refine bw rfl (.tmp 11) (.tmp 13) 27 rfl 3 i0 _ 1 8 jr Lb Ng IT Ke rfl bF (w.heap.size+2) _ 0 [] cj hC.oi nK bo m d (dX t m) cj yU hun (se hur hC.below) (jt t m) jl aa hC.size ?_;intro u1 w2 qF mZ jW;simp only[Nat.zero_add,List.nil_append]at qF;have hC:=hC.Tt qF jW;clear qF jW;refine hK.out _ _ hC.bx λhHeld=>?_;clear hK K
 rotate_left 2;focus
  go_simp
  have hC:=hC.U7;try simp only[World.size_alloc,World.size_drew]at hC
  refine hK.out _ _ hC.bx λhHeld=>?_;clear hK K;refine iX 4 rfl λK hK=>?_;go_simp
  have hC:=hC.ZJ;try simp only[World.size_alloc,World.size_drew]at hC
  refine hK.out _ _ hC.bx λhHeld=>?_;clear hK K;refine iX 7 rfl λK hK=>?_;refine bw rfl (.tmp 7) (.tmp 9) 23 rfl 31 iM _ 6 56 aP hI gj eO gM rfl bF (w.heap.size+2) _ 0 [] cj hC.om nK ao n c (aV f n) cj (bp f n) hvn (sg hvr hC.below) (eM f n) jl aa hC.size ?_;intro v1 w1 yP yQ mn;simp only[Nat.zero_add,List.nil_append]at yP;have hC:=hC.LJ yP mn;clear yP mn;refine hK.out _ _ hC.bx λhHeld=>?_;clear hK K;refine iX 11 rfl λK hK=>?_;refine bw rfl (.tmp 11) (.tmp 13) 27 rfl 3 i0 _ 1 8 jr Lb Ng IT Ke rfl bF (w.heap.size+2) _ 0 [] cj hC.oi nK bo m d (dX t m) cj yU hun (se hur hC.below) (jt t m) jl aa hC.size ?_;intro u1 w2 qF mZ jW;simp only[Nat.zero_add,List.nil_append]at qF;have hC:=hC.Tt qF jW;clear qF jW;refine hK.out _ _ hC.bx λhHeld=>?_;clear hK K
 all_goals
  obtain⟨av,cv,rfl⟩:=lu hC.om yQ;obtain⟨au,cu,rfl⟩:=lu hC.oi mZ;refine aO 12 ((.agg #[.int .i64 now,.int .i64 shift,.slice (some ⟨av,0,none⟩) n cv,.slice (some ⟨au,0,none⟩) m cu])) 15 rfl Ru hHeld ?_;simp only[Act.put];refine iX 13 rfl λK hK=>?_;have r0:=cell_of_row w2 _ 0 _ _ _ hC.out;have r1:=cell_of_row w2 _ 1 _ _ _ hC.out;have r2:=cell_of_row w2 _ 2 _ _ _ hC.out;have r3:=cell_of_row w2 _ 3 _ _ _ hC.out;have rf:=λj=>frozen_of_row w2 _ j _ _ hC.out;simp at r0 r1 r2 r3
  go_simp
  refine hK.out _ _ (hC.bx.same<|by repeat(first|exact rfl|exact acY _ _ _ _ aF|refine(acY _ _ _ _ aF).trans ?_)) λhHeld=>?_;clear hK K;refine wpAnyH_done bD ?_ _;clear hHeld;go_wp2;have hm:=hC.om;have hi:=hC.oi;refine bodyPost_ret (v:=.agg #[.int .i64 now,.int .i64 shift,.slice (some ⟨av,0,none⟩) n cv,.slice (some ⟨au,0,none⟩) m cu]) (by simp[results,Tryz.results40,go_sem,r0,r1,r2,r3]) rfl ⟨⟨_,_,_,_,rfl,bY (az hm (λB hB=>by have:=(hm.lt B hB).1;rw[acY _ _ _ _ cU,acY _ _ _ _ cU,acY _ _ _ _ cU,acY _ _ _ _ cU])) aa,bY (az hi (λB hB=>by have:=(hi.lt B hB).1;rw[acY _ _ _ _ cU,acY _ _ _ _ cU,acY _ _ _ _ cU,acY _ _ _ _ cU])) aa⟩,(((hC.below.setCell aF _).setCell aF _).setCell aF _).setCell aF _⟩
def gw.pos (h:gw w ao n c f)(hn:0<n):∃b,ao=some ⟨b,0,none⟩/\b<w.heap.size/\aI w b 0 n f:=by
 cases ao with
 |none=>have:=(h.1 rfl).1;omega
 |some ad=>let⟨b,e,h1,h2⟩:=h.2 ad rfl;exact⟨b,by rw[e],h1,h2⟩
def ja.pos (h:ja w ao n c t)(hn:0<n):∃b,ao=some ⟨b,0,none⟩/\b<w.heap.size/\aA w b 0 n t:=by
 cases ao with
 |none=>have:=(h.1 rfl).1;omega
 |some ad=>let⟨b,e,h1,h2⟩:=h.2 ad rfl;exact⟨b,by rw[e],h1,h2⟩
def gw.below (h:gw w ao n c f)(hb:Below w w w'):gw w' ao n c f:=
 ⟨h.1,λad had=>by let⟨b,e,h1,h2⟩:=h.2 ad had;exact⟨b,e,ac6 h1 hb.size,h2.below hb h1⟩⟩
def ja.below (h:ja w ao n c t)(hb:Below w w w'):ja w' ao n c t:=
 ⟨h.1,λad had=>by let⟨b,e,h1,h2⟩:=h.2 ad had;exact⟨b,e,ac6 h1 hb.size,h2.below hb h1⟩⟩
def gu (f:Nat->Mv)(n:Nat)(name:ByteArray)(k:Int):Prop:=k=-1/\(∀i,i<n->bX (f i).name name=false)\/∃j:Nat,k=(j:Int)/\j<n/\bX (f j).name name=true/\∀i,i<j->bX (f i).name name=false
def xG (now shift:Int)(ao:Option Addr)(n c:Nat)(f:Nat->Mv)(bo:Option Addr)(m d:Nat)(name:ByteArray)(w:World)(hn:n<=6)(hv:gw w ao n c f):
  Calls Tz.prog 42 #[.agg #[now,shift,.slice ao n c,.slice bo m d],name] w λe w'=>(∃k:Int,e=.returned (.int .i64 k)/\gu f n name k)/\Below w w w':=by
 have wZ:Below w w (w.alloc<|.cells #[now,shift,.slice ao n c,.slice bo m d] 29):=(acW _ w).alloc (ac5 _) _;have mG:aH (w.alloc<|.cells #[now,shift,.slice ao n c,.slice bo m d] 29) w.heap.size now shift (.slice ao n c) (.slice bo m d):=heap_alloc_new _ _;go_enter Tz.func42,Tryz.ntmps42
 go_wp2;go_loopw [5] (λx W=>∃k:Nat,x=.int .i64 k/\k<=n/\Below w w W/\aH W w.heap.size now shift (.slice ao n c) (.slice bo m d)/\∀i,i<k->bX (f i).name name=false) (λx _=>n-(intOf x).toNat)
 case atStart=>exact⟨0,rfl,ada _,wZ,mG,λi hi=>absurd hi<|ac9 _⟩
 case round=>
  clear wZ mG;obtain⟨k,rfl,hk,hB,bk,cE⟩:=hrel;have yy:=bk.cells;by_cases aB:k<n
  .obtain⟨b,rfl,bH,aq⟩:=hv.pos aa;have lb:=ac6 bH hB.size;have dr:(k:Int)<n:=aa;have c0:=(aq.below hB bH k aB).c0;simp only[Nat.zero_add]at c0;cases he:bX (f k).name name with
   |true=>
    have Qo:((f k).name.toList==name.toList)=true:=he;go_wp2;all_goals try omega
    go_ret;exact⟨⟨k,rfl,.inr ⟨k,rfl,aB,he,cE⟩⟩,hB⟩
   |false=>
    have Qo:((f k).name.toList==name.toList)=false:=he;go_wp2;all_goals try omega
    go_roundw
    case rel=>exact⟨k+1,by go_num,aa,hB,bk,λi hi=>by
     by_cases e:i=k
     .subst e;exact he
     .exact cE i aa⟩
    case measure=>exact cI
  .have dr:¬(k:Int)<n:=by omega
   go_wp2;all_goals try omega
   go_ret;exact⟨⟨-1,rfl,.inl ⟨rfl,λi hi=>cE i aa⟩⟩,hB⟩
def IsB (e:Ending):Prop:=∃x:Bool,e=.returned (.bool x)
def yp (f:Nat->Mv)(k n:Nat)(m:Mv)(hk:k<=n):(aV f k++m.cells.toList)++aV (λj=>f<|k+j) (n-k)=aV (dR f k m) (n+1):=by
 have h1:aV f k=aV (dR f k m) k:=oj λj hj=>by unfold dR;rw[if_pos hj]
 have h2:aV f k++m.cells.toList=aV (dR f k m) (k+1):=by
  rw[gt,h1,show dR f k m k=m by unfold dR;rw[if_neg (Nat.lt_irrefl _),if_pos rfl]]
 rw[h2];have h3:∀r,aV (dR f k m) (k+1)++aV (λj=>f<|k+j) r=aV (dR f k m) (k+1+r):=by
  intro r;induction r with
  |zero=>simp[aV]
  |succ r ih=>
   rw[gt (λj=>f<|k+j) r,<-List.append_assoc,ih,show k+1+(r+1)=k+1+r+1 by omega,gt _ (k+1+r)];congr 3;unfold dR;rw[if_neg aa,if_neg aa];congr 1;omega
 rw[h3,show k+1+(n-k)=n+1 by omega]
def lI (w:World)(lo b n:Nat)(t:Nat->Int):Prop:=lo<=b/\(∃cs,w.heap[b]?=some (.cells cs 3 (0,0)))/\aA w b 0 n t
def lI.of (h:w.ownsRow lo 3 1 (.slice b n c) n (dX t n)):lI w lo b n t:=by
 refine⟨?_,vU h rfl,EA h⟩;obtain⟨h1,h2|⟨g,cap',cur,h2,h3,h4⟩⟩:=h
 .exact absurd h2.1 aF
 .simp at h2;omega
def lI.Ve (h:aC w b n t)(hl:lo<=b):lI w lo b n t:=by
 let⟨⟨cs,h1,h2⟩,h3⟩:=h;exact⟨hl,⟨cs,h1⟩,h3⟩
def lI.lt (h:lI w lo b n t):b<w:=by
 let⟨_,⟨cs,h1⟩,_⟩:=h;exact(ac7.1 h1).1
def lI.same (h:lI w lo b n t)(e:w'.heap[b]?=w.heap[b]?):lI w' lo b n t:=by
 let⟨h1,⟨cs,h2⟩,h3⟩:=h;exact⟨h1,⟨cs,e.trans h2⟩,λi hi=>(ac2 (a:=⟨b,0+i,none⟩) e).trans<|h3 i hi⟩
def eN {base:Nat}{m cap:Nat}(h:w.ownsRow base e size (.slice b m cap) m xs):base<=b/\b<w/\m<=cap:=by
 obtain⟨h1,h2|⟨g,cap',cur,h2,h3,h4,h5⟩⟩:=h
 .exact absurd h2.1 aF
 .simp at h2;obtain⟨rfl,rfl⟩:=h2;exact⟨h3,(ac7.1 h4).1,h5.1⟩
def cr (w:World)(x0 x1:Int)(x2:Option Addr)(l2 c2:Nat)(x3:Option Addr)(l3 c3:Nat):∃W,w.alloc (.cells #[x0,x1,.slice x2 l2 c2,.slice x3 l3 c3] 29)=W/\aH W w.heap.size x0 x1 (.slice x2 l2 c2) (.slice x3 l3 c3)/\Below w w W/\W.heap.size=w.heap.size+1:=
 ⟨_,rfl,heap_alloc_new w _,(acW _ w).alloc (ac5 _) _,aF⟩
def bJ {y0 y1:Int}{y2 y3:Value}(hr:aH W R y0 y1 y2 y3)(hb:Below N w W)(hR:N<=R)(x0 x1:Int)(x2:Option Addr)(l2 c2:Nat)(x3:Option Addr)(l3 c3:Nat):∃W',((((W.setCell R x0).setCell ⟨R,1,none⟩ x1).setCell ⟨R,2,none⟩<|.slice x2 l2 c2).setCell ⟨R,3,none⟩<|.slice x3 l3 c3)=W'/\aH W' R x0 x1 (.slice x2 l2 c2) (.slice x3 l3 c3)/\Below N w W'/\W'.heap.size=W.heap.size/\∀k,k≠R->W'.heap[k]?=W.heap[k]?:=by
 refine⟨_,rfl,?_,(((hb.setCell hR _).setCell hR _).setCell hR _).setCell hR _,aF,λk hk=>?_⟩
 .rw[te hr];exact setRow_heap _ _ _ _ _ _ hr
 .rw[acY _ _ _ _ (by simpa using hk),acY _ _ _ _ (by simpa using hk),acY _ _ _ _ (by simpa using hk),acY _ _ _ _ (by simpa using hk)]
def pX (P:Nat->Bool):∀n,∃k,k<=n/\(∀j,j<k->P j=true)/\(k<n->P k=false)
 |0=>⟨0,ac5 _,λj hj=>absurd hj<|ac9 _,λh=>absurd h<|ac9 _⟩
 |n+1=>by
  let⟨k,h1,h2,h3⟩:=pX P n;by_cases hk:k<n
  .exact⟨k,aa,h2,λ_=>h3 hk⟩
  .have tD:k=n:=by omega
   subst tD;cases hp:P k with
   |false=>exact⟨k,aa,h2,λ_=>hp⟩
   |true=>exact⟨k+1,aa,λj hj=>by
     by_cases e:j=k
     .subst e;exact hp
     .exact h2 j aa,λh=>absurd h<|Nat.lt_irrefl _⟩
def Jd {P:Nat->Bool}{k':Nat}(h1:k<=n)(h2:∀j,j<k->P j=true)(h3:k<n->P k=false)(g1:k'<=n)(g2:∀j,j<k'->P j=true)(g3:k'<n->P k'=false):k=k':=by
 rcases Nat.lt_trichotomy k k' with h|h|h
 .have a:=g2 k h;have b:=h3 aa;rw[a]at b;cases b
 .exact h
 .have a:=h2 k' h;have b:=g3 aa;rw[a]at b;cases b
def gu.no {k:Int}(h:∀j,j<n->bX (f j).name name=false)(hk:gu f n name k):k=-1:=by
 rcases hk with⟨h1,_⟩|⟨j,h1,h2,h3,_⟩
 .exact h1
 .rw[h j h2]at h3;cases h3
def gu.yes {k:Int}{J:Nat}(hJ:J<n)(h1:bX (f J).name name=true)(h2:∀j,j<J->bX (f j).name name=false)(hk:gu f n name k):k=J:=by
 rcases hk with⟨_,h⟩|⟨j,rfl,h3,h4,h5⟩
 .rw[h J hJ]at h1;cases h1
 .rcases Nat.lt_trichotomy j J with h|h|h
  .rw[h2 j h]at h4;cases h4
  .rw[h]
  .rw[h5 J h]at h1;cases h1
def Ip (f:Nat->Mv)(n:Nat)(name:ByteArray):(∃J,J<n/\bX (f J).name name=true/\∀j,j<J->bX (f j).name name=false)\/∀j,j<n->bX (f j).name name=false:=by
 let⟨k,h1,h2,h3⟩:=pX (λj=>!bX (f j).name name) n;simp only[Bool.not_eq_true',Bool.not_eq_false']at h2 h3;by_cases h:k<n
 .exact .inl ⟨k,h,h3 h,h2⟩
 .exact .inr λj hj=>h2 j aa
def fM {base:Nat}(h:W.ownsRow base e size v n xs)(hy:aH W Y x0 x1 y u)(hne:e≠29)(hB:v.ownBlock=some B):B≠Y:=λq=>by
 let⟨cs,h1⟩:=vU h hB;subst q;unfold aH at hy;rw[h1]at hy;simp at hy;exact hne hy.2
def Hc (h:aH W Y x0 x1 v u)(hb:Below N w W)(hY:N<=Y)(v':Value):∃W',W.setCell ⟨Y,2,none⟩ v'=W'/\aH W' Y x0 x1 v' u/\Below N w W'/\W'.heap.size=W.heap.size/\∀k,k≠Y->W'.heap[k]?=W.heap[k]?:=by
 refine⟨_,rfl,?_,hb.setCell hY _,aF,λk hk=>acY _ _ _ _<|by simpa using hk⟩;have:=heap_setCell_same W Y 2 _ _ v' h;simpa[aH]using this
def vV (h:aH W Y x0 x1 v u)(hb:Below N w W)(hY:N<=Y)(v':Value):∃W',W.setCell ⟨Y,3,none⟩ v'=W'/\aH W' Y x0 x1 v v'/\Below N w W'/\W'.heap.size=W.heap.size/\∀k,k≠Y->W'.heap[k]?=W.heap[k]?:=by
 refine⟨_,rfl,?_,hb.setCell hY _,aF,λk hk=>acY _ _ _ _<|by simpa using hk⟩;have:=heap_setCell_same W Y 3 _ _ v' h;simpa[aH]using this
structure Ad (w:World)(now shift:Int)(ao:Option Addr)(n c:Nat)(bo:Option Addr)(d R X Bx cx Bi ci:Nat)(f:Nat->Mv)(t:Nat->Int)(W:World):Prop where
 below:Below w w W
 bk:aH W w.heap.size now shift (.slice ao n c) (.slice bo n d)
 rs:aH W R 0 0 () ()
 hR:w.heap.size<R
 x:aH W X now shift (.slice Bx n cx) (.slice Bi n ci)
 hX:R<X
 om:W.ownsRow (R+1) 31 6 (.slice Bx n cx) n (aV f n)
 oi:W.ownsRow (R+1) 3 1 (.slice Bi n ci) n (dX t n)
section
variable {d X Bx cx Bi ci:Nat}
def Ad.grow (h:Ad w now shift ao n c bo d R X Bx cx Bi ci f t W)(b:Below W W W'):Ad w now shift ao n c bo d R X Bx cx Bi ci f t W':=
 ⟨h.below.trans<|b.mono h.below.size,h.bk.same<|b.block _ h.bk.lt,h.rs.same<|b.block _ h.rs.lt,h.hR,h.x.same<|b.block _ h.x.lt,h.hX,az h.om λB hB=>b.block B (h.om.lt B hB).2,az h.oi λB hB=>b.block B (h.oi.lt B hB).2⟩
def Ad.set (h:Ad w now shift ao n c bo d R X Bx cx Bi ci f t W)(hy:aH W Y x0 x1 y u)(hY:X<Y)(hb:Below w w W')(e:∀k,k≠Y->W'.heap[k]?=W.heap[k]?):Ad w now shift ao n c bo d R X Bx cx Bi ci f t W':=by
 have h1:=h.hR;have h2:=h.hX;exact⟨hb,h.bk.same<|e _ aa,h.rs.same<|e _ aa,h.hR,h.x.same<|e _ aa,h.hX,az h.om λB hB=>e B<|fM h.om hy bF hB,az h.oi λB hB=>e B<|fM h.oi hy bF hB⟩
end
section
attribute [local go_sem] Oper.semAt_some
variable {ca:Nat}{da:Nat}
def zB (w:World):Calls Tz.prog 99 #[.slice ao 0 ca] w λe w'=>e=.returned true/\Below w w w':=by
 go_enter Tz.func99,Tryz.ntmps99
 go_wp2;go_loopw [3] (λi w'=>i=.int .i64 0/\Below w w w') (λ_ _=>0)
 case atStart=>exact⟨rfl,acW _ _⟩
 case round=>
  obtain⟨rfl,hB⟩:=hrel;go_wp2;go_ret;exact⟨rfl,hB⟩
def zl (w:World):Calls Tz.prog 75 #[.slice ao 0 ca] w λe w'=>e=.returned true/\Below w w w':=by
 go_enter Tz.func75,Tryz.ntmps75
 go_wp2;go_loopw [10] (λi w'=>i=.int .i64 0/\Below w w w') (λ_ _=>0)
 case atStart=>exact⟨rfl,acW _ _⟩
 case round=>
  obtain⟨rfl,hB⟩:=hrel;go_wp2;go_ret;exact⟨rfl,hB⟩
def CK (w:World):Calls Tz.prog 71 #[.slice ao 0 ca,.slice bo 0 da] w λe w'=>e=.returned true/\Below w w w':=by
 have H1:=zB (ao:=ao) (ca:=ca) w;go_enter Tz.func71,Tryz.ntmps71
 go_wp2_with(go_at_call 99;refine H1.mono ?_;clear H1;rintro e w1 ⟨rfl,b1⟩)
 go_loopw [5] (λi w'=>i=.int .i64 0/\Below w w w') (λ_ _=>0)
 case atStart=>exact⟨rfl,b1⟩
 case round=>
  obtain⟨rfl,hB⟩:=hrel;go_wp2;go_ret;exact⟨rfl,hB⟩
def Ch (w:World):Calls Tz.prog 50 #[.slice ao 0 ca,.slice bo 0 da] w λe w'=>e=.returned true/\Below w w w':=by
 have mF:∀o1 o2 o3,Below w w (((w.alloc o1).alloc o2).alloc o3):=λo1 o2 o3=>(((acW _ w).alloc (ac5 _) _).alloc aF _).alloc cU _
 refine(callsIn_wide (n:=9)).1 ?_;refine callsIn_of_wp_marks Tz.func50 rfl trivial ?_ rfl;simp only[Tryz.ntmps50,List.size_toArray,List.length_cons,List.length_nil,Nat.reduceAdd,Nat.reduceSub,Array.replicate_succ,Array.replicate_zero,List.push_toArray,List.append_toArray,List.nil_append,List.cons_append];gi_wp2_with (refine⟨trivial,?_⟩;gi_at_call 75;refine(callsIn_wide.2<|zl _).mono ?_;rintro e w1 ⟨rfl,bP⟩;let⟨kq,pE⟩:=jJ bP)
 have hz:=bP.size;simp at hz;have nQ:Below w w w1:=(mF _ _ _).trans<|bP.mono (mF _ _ _).size;have l0:w1.cell? w.heap.size=some (.slice ao 0 ca):=by rw[kq w.heap.size 0 cU];simp[go_sem]
 have l1:w1.cell? ⟨w.heap.size+1,0,none⟩=some (.slice bo 0 da):=by rw[kq (w.heap.size+1) 0 aF];simp[go_sem]
 have l2:w1.cell? ⟨w.heap.size+1+1,0,none⟩=some (.bool false):=by rw[kq (w.heap.size+1+1) 0 aF];simp[go_sem]
 have l3:w1.frozen? ⟨w.heap.size+1+1,0,none⟩=false:=by rw[pE (w.heap.size+1+1) 0 aF];simp[go_sem]
 clear kq pE bP;gi_loopw [21] (λi wr=>i=.int .i64 0/\Below w1 w1 wr) (λ_ _=>0)
 case atStart=>exact⟨rfl,acW _ _⟩
 case round=>
  obtain⟨rfl,hB⟩:=hrel;have gK:Below w w wr:=nQ.trans<|hB.mono nQ.size;have hzr:w1.heap.size<=wr:=hB.size;have m0:wr.cell? w.heap.size=some (.slice ao 0 ca):=(hB.cell (p:=w.heap.size) cU).trans l0;have m1:wr.cell? ⟨w.heap.size+1,0,none⟩=some (.slice bo 0 da):=(hB.cell (p:=⟨w.heap.size+1,0,none⟩) cU).trans l1;have m2:wr.cell? ⟨w.heap.size+1+1,0,none⟩=some (.bool false):=(hB.cell (p:=⟨w.heap.size+1+1,0,none⟩) cU).trans l2;have m3:wr.frozen? ⟨w.heap.size+1+1,0,none⟩=false:=(hB.frozen (p:=⟨w.heap.size+1+1,0,none⟩) cU).trans l3;gi_wp2_with (refine⟨trivial,?_⟩;gi_at_call 77;refine(callsIn_wide.2<|AN _ _).mono ?_;rintro e w' ⟨rfl,rfl⟩)
  obtain⟨WL,MD⟩:∃WL,wr.alloc (.cells #[(0:Int)] 3)=WL:=⟨_,rfl⟩;have hL:Below wr wr WL:=MD▸(acW _ _).alloc (ac5 _) _;have hzL:WL.heap.size=wr.heap.size+1:=by rw[<-MD];simp
  have hcL:WL.cell? wr.heap.size=some (.int .i64 ((0:Nat):Int)):=by rw[<-MD];simp
  rw[MD];clear MD;have Ua:Below w w WL:=gK.trans<|hL.mono gK.size;have p2:=(hL.cell (p:=⟨w.heap.size+1+1,0,none⟩) cU).trans m2;have p3:=(hL.frozen (p:=⟨w.heap.size+1+1,0,none⟩) cU).trans m3;refine wpIn_rangeFunc_ownG rfl aa (gf:=108) (lb:=#[.pointer wr.heap.size]) rfl trivial (enters_of Tz.func108 bD rfl)
   (uS _ wr.heap.size WL.heap.size 0 WL aa aa (ac5 _) hcL) belowK_t (belowK_b<|ac5 _) (acW _ _) (λ_=>rfl)
   (λpre W=>Below WL WL W)
   (λc pre W=>False)
   (ownFrom_below (ac5 _) (ac5 _))
   (λc=>ownFrom_pure _ λ_=>False)
   (acW _ _)
   ?a1 ?assign ?body ?done ?stop
  case assign=>
   intro l x W K hK;gi_wp2
   exact hK
  case body=>
   rintro l pre ⟨⟨i,j⟩,lH,Fw⟩ W BQ _;exact absurd Fw<|ac9 _
  case done=>
   rintro D xs W hD hS BQ hK;have O2:Below w w W:=Ua.trans<|BQ.mono Ua.size;have U1:=BQ.size;have ZU:=(BQ.cell (p:=⟨w.heap.size+1+1,0,none⟩) cU).trans p2;have p3W:=(BQ.frozen (p:=⟨w.heap.size+1+1,0,none⟩) cU).trans p3;gi_wp2
   have hK':=(KeepsOthers.setCell W ⟨w.heap.size+1+1,0,none⟩ true).same D _ hK rfl;refine⟨aF,.inl ⟨_,_,rfl,run_takeDeferred hK',?_⟩⟩;have Yj:=cell_kept (World.cell?_setCell_same' W ⟨w.heap.size+1+1,0,none⟩ true<|by rw[ZU];rfl) (grownBy_putObj' _ D<|.deferred none) (λr e=>by cases e;exact⟨_,hK',rfl⟩);refine⟨.bool true,?_,rfl,(O2.setCell (p:=⟨w.heap.size+1+1,0,none⟩) cU _).trans<|belowK_b (w:=w) (ac5 _) _ D _ _ aa hK' rfl rfl⟩;simp[results,Tryz.f50,go_sem,Yj]
  case stop=>
   rintro D c pre W hD _ hF hK;exact hF.elim
def CJ (now shift:Int)(w:World)(h0:0<=now/\now<=10000)(h1:0<=shift/\shift<=6):Calls Tz.prog 39 #[.agg #[now,shift,.slice ao 0 ca,.slice bo 0 da]] w λe w'=>e=.returned true/\Below w w w':=by
 have bA:=lQ w now shift ao 0 ca bo 0 da;have hA:=sG w now shift ao 0 ca bo 0 da;have H1:=CK (ao:=ao) (ca:=ca) (bo:=bo) (da:=da)<|DB w now shift ao 0 ca bo 0 da;have e1:iL now 0 10000=true:=ff.mpr h0;have e2:iL shift 0 6=true:=ff.mpr h1;go_enter Tz.func39,Tryz.ntmps39
 go_wp2_with(first|(go_at_call 70;refine(ic _ _ _ _).mono ?_;rintro e w' ⟨rfl,rfl⟩)|(go_at_call 71;refine H1.mono ?_;clear H1;rintro e w1 ⟨rfl,b1⟩))
 have nQ:Below w w w1:=bA.trans<|b1.mono bA.size;have La:=hA.below b1 aF;have eO:w.heap.size<w1:=ac6 aF b1.size;clear hA b1;go_loopw [3] (λx wr=>x=.int .i64 0/\Below w1 w1 wr) (λ_ _=>0)
 case atStart=>exact⟨rfl,acW _ _⟩
 case round=>
  obtain⟨rfl,hB⟩:=hrel;let⟨a0,a1,a2,a3⟩:=La.below hB eO;go_wp2;go_ret;exact⟨rfl,nQ.trans<|hB.mono nQ.size⟩
def Cf (now shift:Int)(w:World)(h0:0<=now/\now<=10000)(h1:0<=shift/\shift<=6):Calls Tz.prog 16 #[.agg #[now,shift,.slice ao 0 ca,.slice bo 0 da]] w λe w'=>e=.returned true/\Below w w w':=by
 have bA:=lQ w now shift ao 0 ca bo 0 da;have hA:=sG w now shift ao 0 ca bo 0 da;have H1:=Ch (ao:=ao) (ca:=ca) (bo:=bo) (da:=da)<|DB w now shift ao 0 ca bo 0 da;let⟨p0,p1⟩:=h0;let⟨p2,p3⟩:=h1;have q0:¬now<0:=aa;have q1:¬10000<now:=aa;have q2:¬shift<0:=aa;have q3:¬6<shift:=aa;go_enter Tz.func16,Tryz.ntmps16
 go_wp2_with(go_at_call 50;refine H1.mono ?_;clear H1;rintro e w1 ⟨rfl,b1⟩;have La:=hA.below b1 aF;have eO:w.heap.size<w1.heap.size:=ac6 aF b1.size;let⟨a0,a1,a2,a3⟩:=La)
 have nQ:Below w w w1:=bA.trans<|b1.mono bA.size;clear hA b1;go_loopw [32] (λx wr=>x=.int .i64 0/\Below w1 w1 wr) (λ_ _=>0)
 case atStart=>exact⟨rfl,acW _ _⟩
 case round=>
  obtain⟨rfl,hB⟩:=hrel;go_wp2;go_ret;exact⟨rfl,nQ.trans<|hB.mono nQ.size⟩
end
section
set_option linter.unusedVariables false
inductive Ap
 |no (c:Int)
 |yes (p:Nat) (T:Nat->Int)
noncomputable def vC (f:Nat->Mv)(n:Nat)(q:Mv):Nat:=Classical.choose<|pX (λj=>bU (f j).name q.name) n
def vQ (h1:k<=n)(h2:∀j,j<k->bU (f j).name q.name=true)(h3:k<n->bU (f k).name q.name=false):vC f n q=k:=by
 let⟨g1,g2,g3⟩:=Classical.choose_spec<|pX (λj=>bU (f j).name q.name) n;exact Jd g1 g2 g3 h1 h2 h3
open Classical in
noncomputable def zY (f:Nat->Mv)(n:Nat)(now shift:Int)(q:Mv):Ap:=
 if q.ok=false\/¬q.prom<0 then .no 2 else if∃j,j<n/\bX (f j).name q.name=true then .no 3 else if¬n<6 then .no 4 else
  match fQ (dR f (vC f n q) q) (n+1) now shift with
  |none=>.no 5
  |some T=>.yes (vC f n q) T
noncomputable def vF (f:Nat->Mv)(n:Nat)(now shift:Int)(q:Mv):Ap:=
 match zY f n now shift q with
 |.no c=>.no c
 |.yes p T=>if fi now shift (dR f p q) (n+1) T (n+1)=true then .yes p T else .no 6
def Il (h:q.ok=false\/¬q.prom<0):zY f n now shift q=.no 2:=by unfold zY;rw[if_pos h]
def RX (h1:q.ok=true)(h2:q.prom<0)(h3:∃j,j<n/\bX (f j).name q.name=true):zY f n now shift q=.no 3:=by unfold zY;rw[if_neg (by simp[h1];omega),if_pos h3]
def RY (h1:q.ok=true)(h2:q.prom<0)(h3:∀j,j<n->bX (f j).name q.name=false)(h4:¬n<6):zY f n now shift q=.no 4:=by unfold zY;rw[if_neg (by simp[h1];omega),if_neg (λ⟨j,hj,e⟩=>by rw[h3 j hj]at e;cases e),if_pos h4]
def RZ (h1:q.ok=true)(h2:q.prom<0)(h3:∀j,j<n->bX (f j).name q.name=false)(h4:n<6){K:Nat}(hK:vC f n q=K):zY f n now shift q=match fQ (dR f K q) (n+1) now shift with|none=>.no 5|some T=>.yes K T:=by
 unfold zY;rw[if_neg (by simp[h1];omega),if_neg (λ⟨j,hj,e⟩=>by rw[h3 j hj]at e;cases e),if_neg aa,hK]
def tI {c:Int}(h:zY f n now shift q=.no c):vF f n now shift q=.no c:=by unfold vF;rw[h]
def RU (h:zY f n now shift q=.yes p T)(hs:fi now shift (dR f p q) (n+1) T (n+1)=false):vF f n now shift q=.no 6:=by unfold vF;rw[h];simp[hs]
def RT (h:zY f n now shift q=.yes p T)(hs:fi now shift (dR f p q) (n+1) T (n+1)=true):vF f n now shift q=.yes p T:=by unfold vF;rw[h];simp[hs]
def PG {c:Int}(h:zY f n now shift q=.no c):1<c:=by
 unfold zY at h;split at h
 .cases h;decide
 split at h
 .cases h;decide
 split at h
 .cases h;decide
 split at h
 .cases h;decide
 .cases h
def Ii {c:Int}(h:vF f n now shift q=.no c):1<c:=by
 unfold vF at h;split at h
 .next e=>cases h;exact PG e
 .split at h
  .cases h
  .cases h;decide
