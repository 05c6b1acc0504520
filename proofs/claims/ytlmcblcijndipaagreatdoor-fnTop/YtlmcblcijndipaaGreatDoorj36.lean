import Derived.Test.YtlmcblcijndipaaGreatDoorj35
set_option linter.defProp false
set_option linter.unusedVariables false
set_option maxHeartbeats 4000000
set_option maxRecDepth 100000
namespace Go.Proofs.YtlmcblcijndipaaGreatDoor
open Go Go.RowKit Go.Shelf RowKit
variable {name:ByteArray}{now shift x0 x1:Int}{x' xs:List Value}{q:Mv}{B N R Y b c k lo n n' p size:Nat}{T t:Nat->Int}{f:Nat->Mv}{ao bo:Option Addr}{e:TypeId}{u v v' y:Value}{W W' w w':World}
def Ae (r:Option (Nat->Int))(e:Ending):Prop:=∃(x0 x1:Int) (x2:Option Addr) (l2 c2:Nat) (x3:Option Addr) (l3 c3:Nat),e=.returned (.tuple #[.agg #[x0,x1,.slice x2 l2 c2,.slice x3 l3 c3],r.isSome])
def tX (f:Nat->Mv)(n:Nat)(t:Nat->Int)(p:Nat)(shift:Int)(r:Option (Nat->Int))(w:World)(e:Ending)(w':World):Prop:=
 match r with
 |none=>e=.returned (.tuple #[.agg #[(0:Int),(0:Int),.slice none 0 0,.slice none 0 0],.bool false])
 |some T=>∃BN cN BT cT,e=.returned (.tuple #[.agg #[.int .i64<|t p,.int .i64 shift,.slice (some ⟨BN,0,none⟩) (al f t p n).length cN,.slice (some ⟨BT,0,none⟩) (al f t p n).length cT],.bool true])/\BN<w'.heap.size/\aJ w' BN 0 (al f t p n).length (im<|al f t p n)/\aC w' BT (al f t p n).length T
def tX.says {r:Option (Nat->Int)}{e:Ending}(h:tX f n t p shift r w e w'):Ae r e:=by
 cases r with
 |none=>exact⟨0,0,none,0,0,none,0,0,h⟩
 |some T=>let⟨BN,cN,BT,cT,h,_⟩:=h;exact⟨_,_,_,_,_,_,_,_,h⟩
def ik {g:Nat->Int}(h:aC w b n g)(e:w'.heap[b]?=w.heap[b]?):aC w' b n g:=by
 let⟨⟨cs,h1,h2⟩,h3⟩:=h;exact⟨⟨cs,e.trans h1,h2⟩,λi hi=>(ac0 (a:=⟨b,0+i,none⟩) e).trans<|h3 i hi⟩
def kI (w:World)(B:Nat)(x0 x1:Int)(x2:Option Addr)(l2 c2:Nat)(x3:Option Addr)(l3 c3:Nat)(h:w.heap[B]?=some (.cells #[x0,x1,.slice x2 l2 c2,.slice x3 l3 c3] 29 (0,0))):w.cell? B=some (.int .i64 x0)/\w.cell? ⟨B,1,none⟩=some (.int .i64 x1)/\w.cell? ⟨B,2,none⟩=some (.slice x2 l2 c2)/\w.cell? ⟨B,3,none⟩=some (.slice x3 l3 c3):=by
 refine⟨?_,?_,?_,?_⟩<;>simp[World.cell?,h]
def CF (b n cap b' cap' p:Nat)(f:Nat->Mv)(t:Nat->Int)(now shift:Int)(w:World)(hm:az f n=true)(hf:dU f t n)(hp:p<n)(bz:b<w.heap.size)(am:aJ w b 0 n f)(bu:b'<w.heap.size)(aP:aA w b' 0 n t):
  Calls Tz.prog 56 #[.agg #[.int .i64 now,.int .i64 shift,.slice (some ⟨b,0,none⟩) n cap,.slice (some ⟨b',0,none⟩) n cap'],.int .i64 p] w λe w'=>tX f n t p shift (cY f n t p) w e w'/\Below w.heap.size w w':=by
 have h6:=bP hm;have ZJ:=Mv.fp<|aW hm p hp;have DD:=fT<|hf.1 p hp;obtain⟨wB,Jm⟩:∃W,W=(w.alloc<|.cells #[.int .i64 now,.int .i64 shift,.slice (some ⟨b,0,none⟩) n cap,.slice (some ⟨b',0,none⟩) n cap'] 29).alloc (.cells #[(0:Int),(0:Int),.slice none 0 0,.slice none 0 0] 29):=⟨_,rfl⟩;have xB:Below w.heap.size w wB:=by rw[Jm];exact((acU _ w).alloc (ac3 _) _).alloc aG _
 have Ek:aT wB (w.heap.size+1) 0 0 (.slice none 0 0) (.slice none 0 0):=by rw[Jm];exact dX _ _ _
 have H1:=Hl b n cap b' cap' p f t now shift wB hm hf hp (ac4 bz xB.size) (am.below xB bz) (ac4 bu xB.size)<|aP.below xB bu;rw[Jm]at H1;go_enter Tz.func56,Tryz.ntmps56
 by_cases hle:t p+6<=(f p).late
 .have hR:cY f n t p=fI (im<|al f t p n) (al f t p n).length (t p) 6:=by unfold cY;rw[if_pos hle]
  have gO:=qD (f:=f) (t:=t) (p:=p) hp;have hlen:=jv f t p n;have HP:=λ(BN cN:Nat) (W:World) (ay:BN<W.heap.size) (hr:aJ W BN 0 (al f t p n).length (im<|al f t p n))=>rU BN (al f t p n).length cN (im<|al f t p n) (t p) 6 W ab (λi hi=>sx hm hf hp hle hi) ab ab ab ab (λhr=>vq hm hf hp hle hr) ay hr
  rw[hR];clear hR;cases hP:fI (im<|al f t p n) (al f t p n).length (t p) 6 with
  |none=>
   rw[hP]at HP;go_wp2_with(first
    |(go_at_call 83;refine H1.mono ?_;clear H1;rintro e w1 ⟨l1,b1⟩;rw[<-Jm]at b1 l1;unfold mX at l1;rw[if_pos hle]at l1;obtain⟨BN,cN,rfl,S0,Tj,rN⟩:=l1;have r1:=Ek.same<|b1.block _ Ek.lt;have yy:=r1.cells;have l41:=r1.lt;have bI:=xB.trans<|b1.mono xB.size)
    |(go_at_call 44;refine(HP _ _ _ cH<|rN.below ((acU _ _).alloc (ac3 _) _) Tj).mono ?_;clear HP;rintro e w2 ⟨⟨a2,c2,rfl⟩,b2⟩;have cj:=((acU _ w1).alloc (ac3 _) _).trans<|b2.mono aG;have r2:=r1.same<|cj.block _ r1.lt;have zz:=r2.cells;have l42:=r2.lt))
   rw[tD r2];have uX:=setRow_heap w2 (w.heap.size+1) _ #[(0:Int),(0:Int),.slice none 0 0,.slice none 0 0] _ _ r2;have jQ:=below_setRow (bI.trans<|cj.mono bI.size) (by omega:w.heap.size<=w.heap.size+1) #[(0:Int),(0:Int),.slice none 0 0,.slice none 0 0];revert uX jQ;generalize w2.setRow (w.heap.size+1) #[(0:Int),(0:Int),.slice none 0 0,.slice none 0 0]=W5;intro uX jQ;let⟨q0,q1,q2,q3⟩:=kI W5 _ 0 0 none 0 0 none 0 0 uX;refine bodyPost_ret (v:=.tuple #[.agg #[(0:Int),(0:Int),.slice none 0 0,.slice none 0 0],.bool false]) ?_ rfl ⟨rfl,jQ⟩;simp[results,Tryz.f56,go_sem,q0,q1,q2,q3]
  |some T=>
   rw[hP]at HP;go_wp2_with(first
    |(go_at_call 83;refine H1.mono ?_;clear H1;rintro e w1 ⟨l1,b1⟩;rw[<-Jm]at b1 l1;unfold mX at l1;rw[if_pos hle]at l1;obtain⟨BN,cN,rfl,S0,Tj,rN⟩:=l1;have r1:=Ek.same<|b1.block _ Ek.lt;have yy:=r1.cells;have l41:=r1.lt;have bI:=xB.trans<|b1.mono xB.size)
    |(go_at_call 44;refine(HP _ _ _ cH<|rN.below ((acU _ _).alloc (ac3 _) _) Tj).mono ?_;clear HP;rintro e w2 ⟨⟨BT,c2,Kv,rfl,oT,_⟩,b2⟩;have cj:=((acU _ w1).alloc (ac3 _) _).trans<|b2.mono aG;have r2:=r1.same<|cj.block _ r1.lt;have zz:=r2.cells;have l42:=r2.lt;have x2:aT w2 w1.heap.size (t p) shift (.slice (some ⟨BN,0,none⟩) (al f t p n).length cN) (.slice none 0 0):=(b2.block _ aG).trans<|heap_alloc_new _ _;have vv:=x2.cells;have l12:=x2.lt;have hne:w.heap.size+1≠w1.heap.size:=adl l41;have Rw:=hne.symm))
   have hs:∀k,k≠w1.heap.size->(w2.setCell ⟨w1.heap.size,3,none⟩<|.slice (some ⟨BT,0,none⟩) (al f t p n).length c2).heap[k]?=w2.heap[k]?:=λk hk=>acW _ _ _ k hk
   have Vo:=(bI.trans<|cj.mono bI.size).setCell (p:=⟨w1.heap.size,3,none⟩) bI.size<|.slice (some ⟨BT,0,none⟩) (al f t p n).length c2;have VV:(w2.setCell ⟨w1.heap.size,3,none⟩<|.slice (some ⟨BT,0,none⟩) (al f t p n).length c2).heap.size=w2.heap.size:=aG;revert hs Vo VV;generalize w2.setCell ⟨w1.heap.size,3,none⟩ (.slice (some ⟨BT,0,none⟩) (al f t p n).length c2)=w3;intro hs Vo VV;have r3:=r2.same<|hs _ hne;have Oa:w3.heap.size=w2.heap.size:=VV;have aaI:=cj.block BN Tj;have xG:w.heap.size+2<=BN:=by rw[Jm]at S0;simpa using S0
   have ack:=ac4 Tj cj.size;have hT1:w1.heap.size+1<=BT:=by simpa using Kv
   have acl:=oT.lt;rw[tD r3];have uX:=setRow_heap w3 (w.heap.size+1) _ #[.int .i64<|t p,.int .i64 shift,.slice (some ⟨BN,0,none⟩) (al f t p n).length cN,.slice (some ⟨BT,0,none⟩) (al f t p n).length c2] _ _ r3;have jQ:=below_setRow Vo (by omega:w.heap.size<=w.heap.size+1) #[.int .i64<|t p,.int .i64 shift,.slice (some ⟨BN,0,none⟩) (al f t p n).length cN,.slice (some ⟨BT,0,none⟩) (al f t p n).length c2];have vV:(w3.setRow (w.heap.size+1) #[.int .i64<|t p,.int .i64 shift,.slice (some ⟨BN,0,none⟩) (al f t p n).length cN,.slice (some ⟨BT,0,none⟩) (al f t p n).length c2]).heap.size=w3.heap.size:=setRow_size _ _ _;have qT:∀k,k≠w.heap.size+1->(w3.setRow (w.heap.size+1) #[.int .i64<|t p,.int .i64 shift,.slice (some ⟨BN,0,none⟩) (al f t p n).length cN,.slice (some ⟨BT,0,none⟩) (al f t p n).length c2]).heap[k]?=w3.heap[k]?:=λk hk=>setRow_other _ _ _ _ hk
   revert uX jQ vV qT;generalize w3.setRow (w.heap.size+1) #[.int .i64<|t p,.int .i64 shift,.slice (some ⟨BN,0,none⟩) (al f t p n).length cN,.slice (some ⟨BT,0,none⟩) (al f t p n).length c2]=W5;intro uX jQ vV qT;let⟨q0,q1,q2,q3⟩:=kI W5 _ _ _ _ _ _ _ _ _ uX;refine bodyPost_ret (v:=.tuple #[.agg #[.int .i64<|t p,.int .i64 shift,.slice (some ⟨BN,0,none⟩) (al f t p n).length cN,.slice (some ⟨BT,0,none⟩) (al f t p n).length c2],.bool true]) ?_ rfl ⟨⟨BN,cN,BT,c2,rfl,ab,dA rN<|(qT BN ab).trans<|(hs BN ab).trans aaI,ik oT<|(qT BT ab).trans<|hs BT ab⟩,jQ⟩;simp[results,Tryz.f56,go_sem,q0,q1,q2,q3]
 .have hR:cY f n t p=none:=by unfold cY;rw[if_neg hle]
  rw[hR];clear hR;go_wp2_with(go_at_call 83;refine H1.mono ?_;clear H1;rintro e w1 ⟨l1,b1⟩;rw[<-Jm]at b1 l1;unfold mX at l1;rw[if_neg hle]at l1;subst l1;have r1:=Ek.same<|b1.block _ Ek.lt;have yy:=r1.cells;have l41:=r1.lt;have bI:=xB.trans<|b1.mono xB.size)
  rw[tD r1];have uX:=setRow_heap w1 (w.heap.size+1) _ #[(0:Int),(0:Int),.slice none 0 0,.slice none 0 0] _ _ r1;have jQ:=below_setRow bI (by omega:w.heap.size<=w.heap.size+1) #[(0:Int),(0:Int),.slice none 0 0,.slice none 0 0];have vV:(w1.setRow (w.heap.size+1) #[(0:Int),(0:Int),.slice none 0 0,.slice none 0 0]).heap.size=w1.heap.size:=setRow_size _ _ _;revert uX jQ vV;generalize w1.setRow (w.heap.size+1) #[(0:Int),(0:Int),.slice none 0 0,.slice none 0 0]=W5;intro uX jQ vV;have G2:=λo=>(acV W5 o (w.heap.size+1) ab).trans uX
  have hb6:=λo=>jQ.alloc (o:=o) jQ.size
  have q0:=λo=>(kI (W5.alloc o) _ 0 0 none 0 0 none 0 0<|G2 o).1
  have q1:=λo=>(kI (W5.alloc o) _ 0 0 none 0 0 none 0 0<|G2 o).2.1
  have q2:=λo=>(kI (W5.alloc o) _ 0 0 none 0 0 none 0 0<|G2 o).2.2.1
  have q3:=λo=>(kI (W5.alloc o) _ 0 0 none 0 0 none 0 0<|G2 o).2.2.2
  refine bodyPost_ret (v:=.tuple #[.agg #[(0:Int),(0:Int),.slice none 0 0,.slice none 0 0],.bool false]) ?_ rfl ⟨rfl,hb6 _⟩;simp[results,Tryz.f56,go_sem,q0,q1,q2,q3]
def EA (b n cap b' cap' p:Nat)(f:Nat->Mv)(t:Nat->Int)(now shift:Int)(w:World)(hm:az f n=true)(hf:dU f t n)(hp:p<n)(bz:b<w)(am:aJ w b 0 n f)(bu:b'<w)(aP:aA w b' 0 n t):
  Calls Tz.prog 56 #[.agg #[.int .i64 now,.int .i64 shift,.slice (some ⟨b,0,none⟩) n cap,.slice (some ⟨b',0,none⟩) n cap'],.int .i64 p] w λe w'=>Ae (cY f n t p) e/\Below w.heap.size w w':=
 (CF b n cap b' cap' p f t now shift w hm hf hp bz am bu aP).mono λe w' h=>⟨h.1.says,h.2⟩
def tH (now shift:Int)(b n cap:Nat)(f:Nat->Mv)(b' m cap':Nat)(t:Nat->Int)(w:World)(hn:n<=1048576)(nK:m<=maxLen)(bz:b<w.heap.size)(am:aJ w b 0 n f)(gG:∀i,i<n->(f i).Fits)(bu:b'<w.heap.size)(aP:aA w b' 0 m t):
  Calls Tz.prog 26 #[.agg #[.int .i64 now,.int .i64 shift,.slice (some ⟨b,0,none⟩) n cap,.slice (some ⟨b',0,none⟩) m cap']] w λe w'=>e=.returned (.bool<|dG now shift f n t m)/\Below w.heap.size w w':=by
 obtain⟨wB,Jm⟩:∃W,W=w.alloc (.cells #[.int .i64 now,.int .i64 shift,.slice (some ⟨b,0,none⟩) n cap,.slice (some ⟨b',0,none⟩) m cap'] 29):=⟨_,rfl⟩;have xB:Below w.heap.size w wB:=by rw[Jm];exact(acU _ w).alloc (ac3 _) _
 have nI:aT wB w.heap.size now shift (.slice (some ⟨b,0,none⟩) n cap) (.slice (some ⟨b',0,none⟩) m cap'):=by rw[Jm];exact heap_alloc_new _ _
 have H1:=tG now shift b 0 n cap f b' 0 m cap' t wB hn nK (ac4 bz xB.size) (am.below xB bz) gG (ac4 bu xB.size)<|aP.below xB bu;rw[Jm]at H1;go_enter Tz.func26,Tryz.ntmps26
 cases hb:aM now shift f n t m with
 |false=>
  rw[hb]at H1;rw[FH hb];go_wp2_with(go_at_call 39;refine H1.mono ?_;clear H1;rintro e w1 ⟨rfl,b1⟩;rw[<-Jm]at b1)
  go_ret;exact⟨rfl,xB.trans<|b1.mono xB.size⟩
 |true=>
  let⟨hm,uU,hf⟩:=bG hb;replace uU:=uU.symm;subst uU;have h6:=bP hm;rw[hb]at H1;have HB:Hid (aM now shift f n t n=true):=hb;clear hb;go_wp2_with(go_at_call 39;refine H1.mono ?_;clear H1;rintro e w1 ⟨rfl,b1⟩;rw[<-Jm]at b1)
  have bI:=xB.trans<|b1.mono xB.size;have bk1:=nI.same<|b1.block _ nI.lt;clear b1 nI xB Jm;go_loopw [3,4,5] (λx _ _ W=>∃k:Nat,x=.int .i64 k/\k<=n/\Below w.heap.size w W/\aT W w.heap.size now shift (.slice (some ⟨b,0,none⟩) n cap) (.slice (some ⟨b',0,none⟩) n cap')/\∀p,p<k->(f p).ak=true->(cY f n t p).isSome=true) (λx _ _ _=>n-(intOf x).toNat)
  case atStart=>exact⟨0,rfl,ac8 _,bI,bk1,λp hp=>absurd hp<|ac7 _⟩
  case round=>
   clear bI bk1;obtain⟨k,rfl,hk,gD,bkr,cD⟩:=hrel;have yy:=bkr.cells;have lb1:=bkr.lt;by_cases ay:k<n
   .have dq:(k:Int)<n:=by omega
    have p_:=ac4 bz gD.size;have On:=ac4 bu gD.size;have H2:=EA b n cap b' cap' k f t now shift wr hm hf ay p_ (am.below gD bz) On<|aP.below gD bu;have FACTS:∀w2,Below wr.heap.size wr w2->aT w2 w.heap.size now shift (.slice (some ⟨b,0,none⟩) n cap) (.slice (some ⟨b',0,none⟩) n cap')/\w2.cell? ⟨b,k*6+1,none⟩=some (.bool (f k).ak)/\b<w2.heap.size:=λw2 hb=>by
     have h:=((am.below gD bz).below hb p_ k ay).c1;rw[Nat.zero_add]at h;exact⟨bkr.same<|hb.block _ lb1,h,ac4 p_ hb.size⟩
    cases hr:cY f n t k with
    |none=>
     cases GW:(f k).ak with
     |false=>
      go_wp2_with(go_at_call 56;refine H2.mono ?_;clear H2;rintro e w2 ⟨⟨x0,x1,x2,l2,c2,x3,l3,c3,rfl⟩,b2⟩;let⟨bk2,d1,VZ⟩:=FACTS w2 b2;rw[GW]at d1;have zz:=bk2.cells;have XW:=bk2.lt;rw[hr])
      all_goals try omega
      go_roundw
      case rel=>exact⟨k+1,by go_num,ab,(gD.trans<|b2.mono gD.size).alloc (by have:=gD.size;have:=b2.size;omega) _,bk2.same<|acV _ _ _ XW,λp hp hl=>by
       by_cases e:p=k
       .subst e;rw[GW]at hl;cases hl
       .exact cD p ab hl⟩
      case measure=>exact bZ
     |true=>
      have lQ:dG now shift f n t n=false:=Be (λh=>by have:=h k ay GW;rw[hr]at this;cases this);go_wp2_with(go_at_call 56;refine H2.mono ?_;clear H2;rintro e w2 ⟨⟨x0,x1,x2,l2,c2,x3,l3,c3,rfl⟩,b2⟩;let⟨bk2,d1,VZ⟩:=FACTS w2 b2;rw[GW]at d1;have zz:=bk2.cells;have XW:=bk2.lt;rw[hr])
      all_goals try omega
      go_ret;exact⟨by first|rfl|(rw[lQ];rfl)|rw[lQ],(gD.trans<|b2.mono gD.size).alloc (by have:=gD.size;have:=b2.size;omega) _⟩
    |some T=>
     cases GW:(f k).ak with
     |false=>
      go_wp2_with(go_at_call 56;refine H2.mono ?_;clear H2;rintro e w2 ⟨⟨x0,x1,x2,l2,c2,x3,l3,c3,rfl⟩,b2⟩;let⟨bk2,d1,VZ⟩:=FACTS w2 b2;rw[GW]at d1;have zz:=bk2.cells;have XW:=bk2.lt;rw[hr])
      all_goals try omega
      go_roundw
      case rel=>exact⟨k+1,by go_num,ab,(gD.trans<|b2.mono gD.size).alloc (by have:=gD.size;have:=b2.size;omega) _,bk2.same<|acV _ _ _ XW,λp hp hl=>by
       by_cases e:p=k
       .subst e;rw[hr];rfl
       .exact cD p ab hl⟩
      case measure=>exact bZ
     |true=>
      go_wp2_with(go_at_call 56;refine H2.mono ?_;clear H2;rintro e w2 ⟨⟨x0,x1,x2,l2,c2,x3,l3,c3,rfl⟩,b2⟩;let⟨bk2,d1,VZ⟩:=FACTS w2 b2;rw[GW]at d1;have zz:=bk2.cells;have XW:=bk2.lt;rw[hr])
      all_goals try omega
      go_roundw
      case rel=>exact⟨k+1,by go_num,ab,(gD.trans<|b2.mono gD.size).alloc (by have:=gD.size;have:=b2.size;omega) _,bk2.same<|acV _ _ _ XW,λp hp hl=>by
       by_cases e:p=k
       .subst e;rw[hr];rfl
       .exact cD p ab hl⟩
      case measure=>exact bZ
   .have dq:¬(k:Int)<n:=by omega
    have KQ:dG now shift f n t n=true:=nE HB.out λp hp=>cD p ab;go_wp2;all_goals try omega
    go_ret;exact⟨by first|rfl|(rw[KQ];rfl)|rw[KQ],gD⟩
def jm:Tz.prog.underlying 27=some (.slice 3):=bj
def xS:∃i,Tz.prog.info? 3=some i/\i.zero=some (.int .i64 0)/\i.size=1/\i.bytes=8:=by
 have h:(Tz.prog.info? 3).map (λi=>(i.zero,i.size,i.bytes))=some (some<|.int .i64 0,1,8):=bj;cases hI:Tz.prog.info? 3 with
 |none=>rw[hI]at h;simp at h
 |some i=>rw[hI]at h;simp only[Option.map_some,Option.some.injEq,Prod.mk.injEq]at h;exact⟨i,rfl,h.1,h.2.1,h.2.2⟩
section
variable {base uK:Nat}
def aB (h:w.ownsRow base e size v n xs)(hs:∀B,v.ownBlock=some B->w'.heap[B]?=w.heap[B]?):w'.ownsRow base e size v n xs:=by
 obtain⟨h1,⟨rfl,rfl⟩|⟨g,cap,cur,rfl,h3,h4,h5⟩⟩:=h
 .exact⟨h1,.inl ⟨rfl,rfl⟩⟩
 .exact⟨h1,.inr ⟨g,cap,cur,rfl,h3,(hs g rfl).trans h4,h5⟩⟩
def cJ (h:w.ownsRow base e size v n xs)(hb:uK<=base):w.ownsRow uK e size v n xs:=by
 obtain⟨h1,h2|⟨g,cap,cur,h2,h3,h4⟩⟩:=h
 .exact⟨h1,.inl h2⟩
 .exact⟨h1,.inr ⟨g,cap,cur,h2,ac6 hb h3,h4⟩⟩
def lA (h:w.ownsRow base e size v n xs)(hn:v≠.slice none 0 0):∃B c,v=.slice (some ⟨B,0,none⟩) n c:=by
 obtain⟨h1,h2|⟨g,cap,cur,h2,h3,h4⟩⟩:=h
 .exact absurd h2.1 hn
 .exact⟨g,cap,h2⟩
def wy (h:w.ownsRow base e size v n xs)(hB:v.ownBlock=some B):∃cs,w.heap[B]?=some (.cells cs e (0,0)):=by
 obtain⟨h1,⟨rfl,rfl⟩|⟨g,c,cur,rfl,h3,h4,h5⟩⟩:=h
 .cases hB
 .simp[Value.ownBlock]at hB;subst hB;exact⟨_,h4⟩
def ir {xs':List Value}{e':TypeId}{O1:Nat}(h:w.ownsRow base e size v n xs)(h':w.ownsRow uK e' O1 v' n' xs')(hne:e≠e')(hB:v.ownBlock=some B):v'.ownBlock≠some B:=λx=>by
 let⟨c1,e1⟩:=wy h hB;let⟨c2,e2⟩:=wy h' x;rw[e1]at e2;simp at e2;exact hne e2.2
def tF (h:base<=w.heap.size):(w.alloc<|.cells #[] e).ownsRow base e size (.slice (some ⟨w.heap.size,0,none⟩) 0 0) 0 []:=⟨aG,.inr ⟨w.heap.size,0,#[],rfl,h,heap_alloc_new w _,ac3 _,ac8 _,aG,aG⟩⟩
end
def bh {P:Program}{ops:Array Oper}{o:Oper}{a:Act}{K:Act->World->Prop}{Q:Exit->Act->World->Prop}{E:Prop}
  (hg:o.guard=none)(s x:Operand)(t:TypeId)(bp:o.op=Op.call {callee:=Callee.builtin Builtin.append,args:=#[s,x],argTypes:=#[t,t]})
  (e:TypeId)(i:TypeInfo)(z:Value)(size bytes:Nat)(h1:P.underlying t=some (.slice e))(h2:P.info? e=some i)(h3:i.zero=some z)(h4:i.size=size)(h5:i.bytes=bytes)(h6:z.cells.size=size)(h7:0<size)
  (base:Nat)(v:Value)(n:Nat)(EU:List Value)(hs:a.eval s=v)(bc:w.ownsRow base e size v n EU)(hv:v≠.slice none 0 0)
  (ao:Option Addr)(m c:Nat)(news:List Value)(hx:a.eval x=.slice ao m c)(hn:news.length=m*size)(ZH:ao=none->m=0/\c=0)(hc:∀ad,ao=some ad->∀j u,news[j]?=some u->w.cell? (ad.add j)=some u)(YJ:∀u∈news,u.oneCell'=true)
  (b1:n+m<=maxLen)(b2:(n+m)*bytes<=140737488355328)(hb:base<=w.heap.size)
  (hK:∀v' w',w'.ownsRow base e size v' (n+m) (EU++news)->v'≠.slice none 0 0->w.grownBy w' v.ownBlock->K (a.put o.dst v') w'):
  if Region.wanted o (yielded ops a.tmps)=true then Oper.wp P o a w K Q else E:=by
 have hw:Region.wanted o (yielded ops a.tmps)=true:=kU;rw[if_pos hw];cases ao with
 |some ad=>
  let⟨v',w',eb,r1,r2,r3⟩:=run_append_own (P:=P) w base t o.type e i z size bytes h1 h2 h3 h4 h5 h6 h7 v n EU bc ad m c news hn (hc ad rfl) YJ b1 b2 hb;unfold Oper.wp;simp[execOp,bp,resolve,invoke,builtin,hs,hx,eb,Result.andThen];exact hK v' w' r1 (λx=>hv (r3.1 x).1) r2
 |none=>
  obtain⟨rfl,rfl⟩:=ZH rfl;have gq:news=[]:=List.eq_nil_of_length_eq_zero (by simpa using hn);subst gq;have eb:=run_append_owned_none (P:=P) w base t o.type e i size h1 h2 _ n EU bc;unfold Oper.wp;simp[execOp,bp,resolve,invoke,builtin,hs,hx,eb,Result.andThen];exact hK _ _ (by simpa using bc) hv<|World.grownBy.refl _ _
def fL (w:World)(ao:Option Addr)(n c:Nat)(f:Nat->Mv):Prop:=(ao=none->n=0/\c=0)/\∀ad,ao=some ad->∃b,ad=⟨b,0,none⟩/\b<w.heap.size/\aJ w b 0 n f
def gF (w:World)(ao:Option Addr)(n c:Nat)(t:Nat->Int):Prop:=(ao=none->n=0/\c=0)/\∀ad,ao=some ad->∃b,ad=⟨b,0,none⟩/\b<w.heap.size/\aA w b 0 n t
def sF (h:∀ad,ao=some ad->∃b,ad=⟨b,0,none⟩/\b<w.heap.size/\aJ w b 0 n f)(hb:Below w.heap.size w w'):∀ad,ao=some ad->∀j u,(aU f n)[j]?=some u->w'.cell? (ad.add j)=some u:=λad had=>by
 obtain⟨b,rfl,ay,hr⟩:=h ad had;exact dZ<|hr.below hb ay
def sE (h:∀ad,ao=some ad->∃b,ad=⟨b,0,none⟩/\b<w.heap.size/\aA w b 0 n t)(hb:Below w.heap.size w w'):∀ad,ao=some ad->∀j u,(ee t n)[j]?=some u->w'.cell? (ad.add j)=some u:=λad had=>by
 obtain⟨b,rfl,ay,hr⟩:=h ad had;exact vd<|hr.below hb ay
structure Bx (N:Nat)(now shift:Int)(v u:Value)(W:World):Prop where
 c0:W.cell? ⟨N,0,none⟩=some (.int .i64 now)
 c1:W.cell? ⟨N,1,none⟩=some (.int .i64 shift)
 c2:W.cell? ⟨N,2,none⟩=some v
 c3:W.cell? ⟨N,3,none⟩=some u
def Bx.same (h:Bx N now shift v u W)(e:W'.heap[N]?=W.heap[N]?):Bx N now shift v u W':=
 ⟨(ac0 (a:=⟨N,0,none⟩) e).trans h.c0,(ac0 (a:=⟨N,1,none⟩) e).trans h.c1,(ac0 (a:=⟨N,2,none⟩) e).trans h.c2,(ac0 (a:=⟨N,3,none⟩) e).trans h.c3⟩
structure Cp (w:World)(now shift:Int)(v u:Value)(vm:Value)(nm:Nat)(xm:List Value)(vi:Value)(ni:Nat)(xi:List Value)(W:World):Prop where
 below:Below w.heap.size w W
 size:w.heap.size+2<=W.heap.size
 box:W.heap[w.heap.size]?=some (.cells #[.int .i64 now,.int .i64 shift,v,u] 29 (0,0))
 out:W.heap[w.heap.size+1]?=some (.cells #[(0:Int),(0:Int),.slice none 0 0,.slice none 0 0] 29 (0,0))
 om:W.ownsRow (w.heap.size+2) 31 6 vm nm xm
 oi:W.ownsRow (w.heap.size+2) 3 1 vi ni xi
section
variable {vm:Value}{nm:Nat}{xm:List Value}{vi:Value}{ni:Nat}{xi:List Value}
def Cp.bx (h:Cp w now shift v u vm nm xm vi ni xi W):Bx w.heap.size now shift v u W:=by
 constructor<;>(rw[cell_of_row _ _ _ _ _ _ h.box];rfl)
def Cp.grow (h:Cp w now shift v u vm nm xm vi ni xi W)(b:Below W.heap.size W W'):Cp w now shift v u vm nm xm vi ni xi W':=
 ⟨h.below.trans<|b.mono h.below.size,ac6 h.size b.size,(b.block _ (by have:=h.size;omega)).trans h.box,(b.block _ (by have:=h.size;omega)).trans h.out,aB h.om λB hB=>b.block B (h.om.lt B hB).2,aB h.oi λB hB=>b.block B (h.oi.lt B hB).2⟩
def Cp.B_ (h:Cp w now shift v u vm nm xm vi ni xi W):Cp w now shift v u (.slice (some ⟨W.heap.size,0,none⟩) 0 0) 0 [] vi ni xi (W.alloc<|.cells #[] 31):=by
 have g:=h.grow (W':=W.alloc<|.cells #[] 31)<|(acU _ _).alloc (ac3 _) _;exact⟨g.below,g.size,g.box,g.out,tF h.size,g.oi⟩
def Cp.We (h:Cp w now shift v u vm nm xm vi ni xi W):Cp w now shift v u vm nm xm (.slice (some ⟨W.heap.size,0,none⟩) 0 0) 0 [] (W.alloc<|.cells #[] 3):=by
 have g:=h.grow (W':=W.alloc<|.cells #[] 3)<|(acU _ _).alloc (ac3 _) _;exact⟨g.below,g.size,g.box,g.out,g.om,tF h.size⟩
def Cp.MD (h:Cp w now shift v u vm nm xm vi ni xi W)(o:W'.ownsRow (w.heap.size+2) 31 6 v' n' x')(g:W.grownBy W' vm.ownBlock):Cp w now shift v u v' n' x' vi ni xi W':=by
 have hs:=h.size;exact⟨h.below.grown g h.below.size (λq hq=>by have:=(h.om.lt q hq).1;omega),ac6 h.size g.size,(g.block _ ab (λe=>by have:=(h.om.lt _ e.symm).1;omega)).trans h.box,(g.block _ ab (λe=>by have:=(h.om.lt _ e.symm).1;omega)).trans h.out,o,aB h.oi λB hB=>g.block B (h.oi.lt B hB).2 λe=>ir h.om h.oi bd e.symm hB⟩
def Cp.Uv (h:Cp w now shift v u vm nm xm vi ni xi W)(o:W'.ownsRow (w.heap.size+2) 3 1 v' n' x')(g:W.grownBy W' vi.ownBlock):Cp w now shift v u vm nm xm v' n' x' W':=by
 have hs:=h.size;exact⟨h.below.grown g h.below.size (λq hq=>by have:=(h.oi.lt q hq).1;omega),ac6 h.size g.size,(g.block _ ab (λe=>by have:=(h.oi.lt _ e.symm).1;omega)).trans h.box,(g.block _ ab (λe=>by have:=(h.oi.lt _ e.symm).1;omega)).trans h.out,aB h.om λB hB=>g.block B (h.om.lt B hB).2 λe=>ir h.om h.oi bd hB e.symm,o⟩
end
def Cp.start (w:World)(now shift:Int)(v u:Value):Cp w now shift v u (.slice none 0 0) 0 [] (.slice none 0 0) 0 [] ((w.alloc<|.cells #[.int .i64 now,.int .i64 shift,v,u] 29).alloc<|.cells #[(0:Int),(0:Int),.slice none 0 0,.slice none 0 0] 29):=
 ⟨((acU _ w).alloc (ac3 _) _).alloc aG _,aG,(acV _ _ _ aG).trans<|heap_alloc_new w _,dX _ _ _,⟨rfl,.inl ⟨rfl,rfl⟩⟩,⟨rfl,.inl ⟨rfl,rfl⟩⟩⟩
def jp (now shift:Int)(ao:Option Addr)(n c:Nat)(f:Nat->Mv)(bo:Option Addr)(m d:Nat)(t:Nat->Int)(w:World)(hn:n<=1048576)(hm:m<=1048576)(hv:fL w ao n c f)(hu:gF w bo m d t):
  Calls Tz.prog 40 #[.agg #[.int .i64 now,.int .i64 shift,.slice ao n c,.slice bo m d]] w λe w'=>(∃B c B' c',e=.returned (.agg #[.int .i64 now,.int .i64 shift,.slice (some ⟨B,0,none⟩) n c,.slice (some ⟨B',0,none⟩) m c'])/\w'.ownsRow w.heap.size 31 6 (.slice (some ⟨B,0,none⟩) n c) n (aU f n)/\w'.ownsRow w.heap.size 3 1 (.slice (some ⟨B',0,none⟩) m c') m (ee t m))/\Below w.heap.size w w':=by
 let⟨iM,hI,gE,eG,ga⟩:=eP;let⟨i0,I4,KP,F8,G8⟩:=xS;let⟨hvn,hvr⟩:=hv;let⟨hun,d_⟩:=hu;have hC:=Cp.start w now shift (.slice ao n c)<|.slice bo m d;go_enter Tz.func40,Tryz.ntmps40
 go_wp2;have hC:=hC.grow (acU _ _).drew;refine wp_region_held_drew (S:=Bx w.heap.size now shift (.slice ao n c)<|.slice bo m d) bj hC.bx λhHeld=>?_;refine aq 0 (.pointer<|some ⟨w.heap.size,0,none⟩) 3 rfl Sv hHeld ?_;refine aq 1 (.int .i64 now) 4 rfl Sv hHeld ?_;refine aq 2 (.pointer<|some ⟨w.heap.size,1,none⟩) 5 rfl Sv hHeld ?_;refine aq 3 (.int .i64 shift) 6 rfl Sv hHeld ?_;refine aq 5 (.pointer<|some ⟨w.heap.size,2,none⟩) 8 rfl Sv hHeld ?_;refine aq 6 (.slice ao n c) 9 rfl Sv hHeld ?_;refine aq 9 (.pointer<|some ⟨w.heap.size,3,none⟩) 12 rfl Sv hHeld ?_;refine aq 10 (.slice bo m d) 13 rfl Sv hHeld ?_;refine Qb 4 8 rfl rfl (λK hK=>?_) λK hK=>?_;focus
  go_simp
  have hC:=hC.B_;try simp only[World.size_alloc,World.size_drew]at hC
  refine hK.out _ _ hC.bx λhHeld=>?_;clear hK K;refine Qb 7 8 rfl rfl (λK hK=>?_) λK hK=>?_;focus
   refine bh rfl (.tmp 7) (.tmp 9) 23 rfl 31 iM _ 6 56 aR hI gE eG ga rfl bd (w.heap.size+2) _ 0 [] bD hC.om nV ao n c (aU f n) bD (bq f n) hvn (sF hvr hC.below) (eR f n) ie ab hC.size ?_;intro v1 w1 zd vR mw;simp only[Nat.zero_add,List.nil_append]at zd;have hC:=hC.MD zd mw;clear zd mw;refine hK.out _ _ hC.bx λhHeld=>?_;clear hK K;refine iT 8 rfl λK hK=>?_;go_simp
   have hC:=hC.We;try simp only[World.size_alloc,World.size_drew]at hC
   refine hK.out _ _ hC.bx λhHeld=>?_;clear hK K;refine iT 11 rfl λK hK=>?_;refine bh rfl (.tmp 11) (.tmp 13) 27 rfl 3 i0 _ 1 8 jm I4 KP F8 G8 rfl bd (w.heap.size+2) _ 0 [] bD hC.oi nV bo m d (ee t m) bD zk hun (sE d_ hC.below) (jo t m) ie ab hC.size ?_;intro u1 w2 qN ze jT;simp only[Nat.zero_add,List.nil_append]at qN;have hC:=hC.Uv qN jT;clear qN jT;refine hK.out _ _ hC.bx λhHeld=>?_;clear hK K
  rotate_left;focus
   go_simp
   have hC:=hC.We;try simp only[World.size_alloc,World.size_drew]at hC
   refine hK.out _ _ hC.bx λhHeld=>?_;clear hK K;refine iT 7 rfl λK hK=>?_;refine bh rfl (.tmp 7) (.tmp 9) 23 rfl 31 iM _ 6 56 aR hI gE eG ga rfl bd (w.heap.size+2) _ 0 [] bD hC.om nV ao n c (aU f n) bD (bq f n) hvn (sF hvr hC.below) (eR f n) ie ab hC.size ?_;intro v1 w1 zd vR mw;simp only[Nat.zero_add,List.nil_append]at zd;have hC:=hC.MD zd mw;clear zd mw;refine hK.out _ _ hC.bx λhHeld=>?_;clear hK K;refine iT 11 rfl λK hK=>?_;refine bh rfl (.tmp 11) (.tmp 13) 27 rfl 3 i0 _ 1 8 jm I4 KP F8 G8 rfl bd (w.heap.size+2) _ 0 [] bD hC.oi nV bo m d (ee t m) bD zk hun (sE d_ hC.below) (jo t m) ie ab hC.size ?_;intro u1 w2 qN ze jT;simp only[Nat.zero_add,List.nil_append]at qN;have hC:=hC.Uv qN jT;clear qN jT;refine hK.out _ _ hC.bx λhHeld=>?_;clear hK K
 rotate_left 2;focus
  go_simp
  have hC:=hC.We;try simp only[World.size_alloc,World.size_drew]at hC
  refine hK.out _ _ hC.bx λhHeld=>?_;clear hK K;refine iT 4 rfl λK hK=>?_;go_simp
  have hC:=hC.B_;try simp only[World.size_alloc,World.size_drew]at hC
  refine hK.out _ _ hC.bx λhHeld=>?_;clear hK K;refine iT 7 rfl λK hK=>?_;refine bh rfl (.tmp 7) (.tmp 9) 23 rfl 31 iM _ 6 56 aR hI gE eG ga rfl bd (w.heap.size+2) _ 0 [] bD hC.om nV ao n c (aU f n) bD (bq f n) hvn (sF hvr hC.below) (eR f n) ie ab hC.size ?_;intro v1 w1 zd vR mw;simp only[Nat.zero_add,List.nil_append]at zd;have hC:=hC.MD zd mw;clear zd mw;refine hK.out _ _ hC.bx λhHeld=>?_;clear hK K;refine iT 11 rfl λK hK=>?_;refine bh rfl (.tmp 11) (.tmp 13) 27 rfl 3 i0 _ 1 8 jm I4 KP F8 G8 rfl bd (w.heap.size+2) _ 0 [] bD hC.oi nV bo m d (ee t m) bD zk hun (sE d_ hC.below) (jo t m) ie ab hC.size ?_;intro u1 w2 qN ze jT;simp only[Nat.zero_add,List.nil_append]at qN;have hC:=hC.Uv qN jT;clear qN jT;refine hK.out _ _ hC.bx λhHeld=>?_;clear hK K
 all_goals
  obtain⟨av,cv,rfl⟩:=lA hC.om vR;obtain⟨au,cu,rfl⟩:=lA hC.oi ze;refine aq 12 ((.agg #[.int .i64 now,.int .i64 shift,.slice (some ⟨av,0,none⟩) n cv,.slice (some ⟨au,0,none⟩) m cu])) 15 rfl Sv hHeld ?_;simp only[Act.put];refine iT 13 rfl λK hK=>?_;have r0:=cell_of_row w2 _ 0 _ _ _ hC.out;have r1:=cell_of_row w2 _ 1 _ _ _ hC.out;have r2:=cell_of_row w2 _ 2 _ _ _ hC.out;have r3:=cell_of_row w2 _ 3 _ _ _ hC.out;have rf:=λj=>frozen_of_row w2 _ j _ _ hC.out;simp at r0 r1 r2 r3
  go_simp
  refine hK.out _ _ (hC.bx.same<|by repeat(first|exact rfl|exact acW _ _ _ _ aG|refine(acW _ _ _ _ aG).trans ?_)) λhHeld=>?_;clear hK K;refine wpAnyH_done bj ?_ _;clear hHeld;go_wp2;have hm:=hC.om;have hi:=hC.oi;refine bodyPost_ret (v:=.agg #[.int .i64 now,.int .i64 shift,.slice (some ⟨av,0,none⟩) n cv,.slice (some ⟨au,0,none⟩) m cu]) (by simp[results,Tryz.results40,go_sem,r0,r1,r2,r3]) rfl ⟨⟨_,_,_,_,rfl,cJ (aB hm (λB hB=>by have:=(hm.lt B hB).1;rw[acW _ _ _ _ cH,acW _ _ _ _ cH,acW _ _ _ _ cH,acW _ _ _ _ cH])) ab,cJ (aB hi (λB hB=>by have:=(hi.lt B hB).1;rw[acW _ _ _ _ cH,acW _ _ _ _ cH,acW _ _ _ _ cH,acW _ _ _ _ cH])) ab⟩,(((hC.below.setCell aG _).setCell aG _).setCell aG _).setCell aG _⟩
def fL.pos (h:fL w ao n c f)(hn:0<n):∃b,ao=some ⟨b,0,none⟩/\b<w.heap.size/\aJ w b 0 n f:=by
 cases ao with
 |none=>have:=(h.1 rfl).1;omega
 |some ad=>let⟨b,e,h1,h2⟩:=h.2 ad rfl;exact⟨b,by rw[e],h1,h2⟩
def gF.pos (h:gF w ao n c t)(hn:0<n):∃b,ao=some ⟨b,0,none⟩/\b<w.heap.size/\aA w b 0 n t:=by
 cases ao with
 |none=>have:=(h.1 rfl).1;omega
 |some ad=>let⟨b,e,h1,h2⟩:=h.2 ad rfl;exact⟨b,by rw[e],h1,h2⟩
def fL.below (h:fL w ao n c f)(hb:Below w w w'):fL w' ao n c f:=
 ⟨h.1,λad had=>by let⟨b,e,h1,h2⟩:=h.2 ad had;exact⟨b,e,ac4 h1 hb.size,h2.below hb h1⟩⟩
def gF.below (h:gF w ao n c t)(hb:Below w w w'):gF w' ao n c t:=
 ⟨h.1,λad had=>by let⟨b,e,h1,h2⟩:=h.2 ad had;exact⟨b,e,ac4 h1 hb.size,h2.below hb h1⟩⟩
def jj (f:Nat->Mv)(n:Nat)(name:ByteArray)(k:Int):Prop:=k=-1/\(∀i,i<n->bJ (f i).name name=false)\/∃j:Nat,k=(j:Int)/\j<n/\bJ (f j).name name=true/\∀i,i<j->bJ (f i).name name=false
def Ey (now shift:Int)(ao:Option Addr)(n c:Nat)(f:Nat->Mv)(bo:Option Addr)(m d:Nat)(name:ByteArray)(w:World)(hn:n<=6)(hv:fL w ao n c f):
  Calls Tz.prog 42 #[.agg #[now,shift,.slice ao n c,.slice bo m d],name] w λe w'=>(∃k:Int,e=.returned (.int .i64 k)/\jj f n name k)/\Below w w w':=by
 have xB:Below w w (w.alloc<|.cells #[now,shift,.slice ao n c,.slice bo m d] 29):=(acU _ w).alloc (ac3 _) _;have nI:aT (w.alloc<|.cells #[now,shift,.slice ao n c,.slice bo m d] 29) w.heap.size now shift (.slice ao n c) (.slice bo m d):=heap_alloc_new _ _;go_enter Tz.func42,Tryz.ntmps42
 go_wp2;go_loopw [5] (λx W=>∃k:Nat,x=.int .i64 k/\k<=n/\Below w w W/\aT W w.heap.size now shift (.slice ao n c) (.slice bo m d)/\∀i,i<k->bJ (f i).name name=false) (λx _=>n-(intOf x).toNat)
 case atStart=>exact⟨0,rfl,ac8 _,xB,nI,λi hi=>absurd hi<|ac7 _⟩
 case round=>
  clear xB nI;obtain⟨k,rfl,hk,hB,bk,cD⟩:=hrel;have yy:=bk.cells;by_cases ay:k<n
  .obtain⟨b,rfl,bz,am⟩:=hv.pos ab;have lb:=ac4 bz hB.size;have dq:(k:Int)<n:=ab;have c0:=(am.below hB bz k ay).c0;simp only[Nat.zero_add]at c0;cases he:bJ (f k).name name with
   |true=>
    have Rr:((f k).name.toList==name.toList)=true:=he;go_wp2;all_goals try omega
    go_ret;exact⟨⟨k,rfl,.inr ⟨k,rfl,ay,he,cD⟩⟩,hB⟩
   |false=>
    have Rr:((f k).name.toList==name.toList)=false:=he;go_wp2;all_goals try omega
    go_roundw
    case rel=>exact⟨k+1,by go_num,ab,hB,bk,λi hi=>by
     by_cases e:i=k
     .subst e;exact he
     .exact cD i ab⟩
    case measure=>exact bZ
  .have dq:¬(k:Int)<n:=by omega
   go_wp2;all_goals try omega
   go_ret;exact⟨⟨-1,rfl,.inl ⟨rfl,λi hi=>cD i ab⟩⟩,hB⟩
def IsB (e:Ending):Prop:=∃x:Bool,e=.returned (.bool x)
def yE (f:Nat->Mv)(k n:Nat)(m:Mv)(hk:k<=n):(aU f k++m.cells.toList)++aU (λj=>f<|k+j) (n-k)=aU (dR f k m) (n+1):=by
 have h1:aU f k=aU (dR f k m) k:=oJ λj hj=>by unfold dR;rw[if_pos hj]
 have h2:aU f k++m.cells.toList=aU (dR f k m) (k+1):=by
  rw[gK,h1,show dR f k m k=m by unfold dR;rw[if_neg (Nat.lt_irrefl _),if_pos rfl]]
 rw[h2];have h3:∀r,aU (dR f k m) (k+1)++aU (λj=>f<|k+j) r=aU (dR f k m) (k+1+r):=by
  intro r;induction r with
  |zero=>simp[aU]
  |succ r ih=>
   rw[gK (λj=>f<|k+j) r,<-List.append_assoc,ih,show k+1+(r+1)=k+1+r+1 by omega,gK _ (k+1+r)];congr 3;unfold dR;rw[if_neg ab,if_neg ab];congr 1;omega
 rw[h3,show k+1+(n-k)=n+1 by omega]
def qH (w:World)(lo b n:Nat)(t:Nat->Int):Prop:=lo<=b/\(∃cs,w.heap[b]?=some (.cells cs 3 (0,0)))/\aA w b 0 n t
def qH.of (h:w.ownsRow lo 3 1 (.slice b n c) n (ee t n)):qH w lo b n t:=by
 refine⟨?_,wy h rfl,EZ h⟩;obtain⟨h1,h2|⟨g,cap',cur,h2,h3,h4⟩⟩:=h
 .exact absurd h2.1 aG
 .simp at h2;omega
def qH.Wr (h:aC w b n t)(hl:lo<=b):qH w lo b n t:=by
 let⟨⟨cs,h1,h2⟩,h3⟩:=h;exact⟨hl,⟨cs,h1⟩,h3⟩
def qH.lt (h:qH w lo b n t):b<w:=by
 let⟨_,⟨cs,h1⟩,_⟩:=h;exact(ac5.1 h1).1
def qH.same (h:qH w lo b n t)(e:w'.heap[b]?=w.heap[b]?):qH w' lo b n t:=by
 let⟨h1,⟨cs,h2⟩,h3⟩:=h;exact⟨h1,⟨cs,e.trans h2⟩,λi hi=>(ac0 (a:=⟨b,0+i,none⟩) e).trans<|h3 i hi⟩
def fB {base:Nat}{m cap:Nat}(h:w.ownsRow base e size (.slice b m cap) m xs):base<=b/\b<w/\m<=cap:=by
 obtain⟨h1,h2|⟨g,cap',cur,h2,h3,h4,h5⟩⟩:=h
 .exact absurd h2.1 aG
 .simp at h2;obtain⟨rfl,rfl⟩:=h2;exact⟨h3,(ac5.1 h4).1,h5.1⟩
def cI (w:World)(x0 x1:Int)(x2:Option Addr)(l2 c2:Nat)(x3:Option Addr)(l3 c3:Nat):∃W,w.alloc (.cells #[x0,x1,.slice x2 l2 c2,.slice x3 l3 c3] 29)=W/\aT W w.heap.size x0 x1 (.slice x2 l2 c2) (.slice x3 l3 c3)/\Below w w W/\W.heap.size=w.heap.size+1:=
 ⟨_,rfl,heap_alloc_new w _,(acU _ w).alloc (ac3 _) _,aG⟩
def aV {y0 y1:Int}{y2 y3:Value}(hr:aT W R y0 y1 y2 y3)(hb:Below N w W)(hR:N<=R)(x0 x1:Int)(x2:Option Addr)(l2 c2:Nat)(x3:Option Addr)(l3 c3:Nat):∃W',((((W.setCell R x0).setCell ⟨R,1,none⟩ x1).setCell ⟨R,2,none⟩<|.slice x2 l2 c2).setCell ⟨R,3,none⟩<|.slice x3 l3 c3)=W'/\aT W' R x0 x1 (.slice x2 l2 c2) (.slice x3 l3 c3)/\Below N w W'/\W'.heap.size=W.heap.size/\∀k,k≠R->W'.heap[k]?=W.heap[k]?:=by
 refine⟨_,rfl,?_,(((hb.setCell hR _).setCell hR _).setCell hR _).setCell hR _,aG,λk hk=>?_⟩
 .rw[tD hr];exact setRow_heap _ _ _ _ _ _ hr
 .rw[acW _ _ _ _ (by simpa using hk),acW _ _ _ _ (by simpa using hk),acW _ _ _ _ (by simpa using hk),acW _ _ _ _ (by simpa using hk)]
def p7 (P:Nat->Bool):∀n,∃k,k<=n/\(∀j,j<k->P j=true)/\(k<n->P k=false)
 |0=>⟨0,ac3 _,λj hj=>absurd hj<|ac7 _,λh=>absurd h<|ac7 _⟩
 |n+1=>by
  let⟨k,h1,h2,h3⟩:=p7 P n;by_cases hk:k<n
  .exact⟨k,ab,h2,λ_=>h3 hk⟩
  .have tS:k=n:=by omega
   subst tS;cases hp:P k with
   |false=>exact⟨k,ab,h2,λ_=>hp⟩
   |true=>exact⟨k+1,ab,λj hj=>by
     by_cases e:j=k
     .subst e;exact hp
     .exact h2 j ab,λh=>absurd h<|Nat.lt_irrefl _⟩
def JK {P:Nat->Bool}{k':Nat}(h1:k<=n)(h2:∀j,j<k->P j=true)(h3:k<n->P k=false)(g1:k'<=n)(g2:∀j,j<k'->P j=true)(g3:k'<n->P k'=false):k=k':=by
 rcases Nat.lt_trichotomy k k' with h|h|h
 .have a:=g2 k h;have b:=h3 ab;rw[a]at b;cases b
 .exact h
 .have a:=h2 k' h;have b:=g3 ab;rw[a]at b;cases b
def jj.no {k:Int}(h:∀j,j<n->bJ (f j).name name=false)(hk:jj f n name k):k=-1:=by
 rcases hk with⟨h1,_⟩|⟨j,h1,h2,h3,_⟩
 .exact h1
 .rw[h j h2]at h3;cases h3
def jj.yes {k:Int}{J:Nat}(hJ:J<n)(h1:bJ (f J).name name=true)(h2:∀j,j<J->bJ (f j).name name=false)(hk:jj f n name k):k=J:=by
 rcases hk with⟨_,h⟩|⟨j,rfl,h3,h4,h5⟩
 .rw[h J hJ]at h1;cases h1
 .rcases Nat.lt_trichotomy j J with h|h|h
  .rw[h2 j h]at h4;cases h4
  .rw[h]
  .rw[h5 J h]at h1;cases h1
def MG (f:Nat->Mv)(n:Nat)(name:ByteArray):(∃J,J<n/\bJ (f J).name name=true/\∀j,j<J->bJ (f j).name name=false)\/∀j,j<n->bJ (f j).name name=false:=by
 let⟨k,h1,h2,h3⟩:=p7 (λj=>!bJ (f j).name name) n;simp only[Bool.not_eq_true',Bool.not_eq_false']at h2 h3;by_cases h:k<n
 .exact .inl ⟨k,h,h3 h,h2⟩
 .exact .inr λj hj=>h2 j ab
def gw {base:Nat}(h:W.ownsRow base e size v n xs)(hy:aT W Y x0 x1 y u)(hne:e≠29)(hB:v.ownBlock=some B):B≠Y:=λq=>by
 let⟨cs,h1⟩:=wy h hB;subst q;unfold aT at hy;rw[h1]at hy;simp at hy;exact hne hy.2
def Ib (h:aT W Y x0 x1 v u)(hb:Below N w W)(hY:N<=Y)(v':Value):∃W',W.setCell ⟨Y,2,none⟩ v'=W'/\aT W' Y x0 x1 v' u/\Below N w W'/\W'.heap.size=W.heap.size/\∀k,k≠Y->W'.heap[k]?=W.heap[k]?:=by
 refine⟨_,rfl,?_,hb.setCell hY _,aG,λk hk=>acW _ _ _ _<|by simpa using hk⟩;have:=heap_setCell_same W Y 2 _ _ v' h;simpa[aT]using this
def wA (h:aT W Y x0 x1 v u)(hb:Below N w W)(hY:N<=Y)(v':Value):∃W',W.setCell ⟨Y,3,none⟩ v'=W'/\aT W' Y x0 x1 v v'/\Below N w W'/\W'.heap.size=W.heap.size/\∀k,k≠Y->W'.heap[k]?=W.heap[k]?:=by
 refine⟨_,rfl,?_,hb.setCell hY _,aG,λk hk=>acW _ _ _ _<|by simpa using hk⟩;have:=heap_setCell_same W Y 3 _ _ v' h;simpa[aT]using this
structure Ad (w:World)(now shift:Int)(ao:Option Addr)(n c:Nat)(bo:Option Addr)(d R X Bx cx Bi ci:Nat)(f:Nat->Mv)(t:Nat->Int)(W:World):Prop where
 below:Below w w W
 bk:aT W w.heap.size now shift (.slice ao n c) (.slice bo n d)
 rs:aT W R 0 0 () ()
 hR:w.heap.size<R
 x:aT W X now shift (.slice Bx n cx) (.slice Bi n ci)
 hX:R<X
 om:W.ownsRow (R+1) 31 6 (.slice Bx n cx) n (aU f n)
 oi:W.ownsRow (R+1) 3 1 (.slice Bi n ci) n (ee t n)
section
variable {d X Bx cx Bi ci:Nat}
def Ad.grow (h:Ad w now shift ao n c bo d R X Bx cx Bi ci f t W)(b:Below W W W'):Ad w now shift ao n c bo d R X Bx cx Bi ci f t W':=
 ⟨h.below.trans<|b.mono h.below.size,h.bk.same<|b.block _ h.bk.lt,h.rs.same<|b.block _ h.rs.lt,h.hR,h.x.same<|b.block _ h.x.lt,h.hX,aB h.om λB hB=>b.block B (h.om.lt B hB).2,aB h.oi λB hB=>b.block B (h.oi.lt B hB).2⟩
def Ad.set (h:Ad w now shift ao n c bo d R X Bx cx Bi ci f t W)(hy:aT W Y x0 x1 y u)(hY:X<Y)(hb:Below w w W')(e:∀k,k≠Y->W'.heap[k]?=W.heap[k]?):Ad w now shift ao n c bo d R X Bx cx Bi ci f t W':=by
 have h1:=h.hR;have h2:=h.hX;exact⟨hb,h.bk.same<|e _ ab,h.rs.same<|e _ ab,h.hR,h.x.same<|e _ ab,h.hX,aB h.om λB hB=>e B<|gw h.om hy bd hB,aB h.oi λB hB=>e B<|gw h.oi hy bd hB⟩
end
section
attribute [local go_sem] Oper.semAt_some
variable {ca:Nat}{da:Nat}
def zL (w:World):Calls Tz.prog 99 #[.slice ao 0 ca] w λe w'=>e=.returned true/\Below w w w':=by
 go_enter Tz.func99,Tryz.ntmps99
 go_wp2;go_loopw [3] (λi w'=>i=.int .i64 0/\Below w w w') (λ_ _=>0)
 case atStart=>exact⟨rfl,acU _ _⟩
 case round=>
  obtain⟨rfl,hB⟩:=hrel;go_wp2;go_ret;exact⟨rfl,hB⟩
def zx (w:World):Calls Tz.prog 75 #[.slice ao 0 ca] w λe w'=>e=.returned true/\Below w w w':=by
 go_enter Tz.func75,Tryz.ntmps75
 go_wp2;go_loopw [10] (λi w'=>i=.int .i64 0/\Below w w w') (λ_ _=>0)
 case atStart=>exact⟨rfl,acU _ _⟩
 case round=>
  obtain⟨rfl,hB⟩:=hrel;go_wp2;go_ret;exact⟨rfl,hB⟩
def C2 (w:World):Calls Tz.prog 71 #[.slice ao 0 ca,.slice bo 0 da] w λe w'=>e=.returned true/\Below w w w':=by
 have H1:=zL (ao:=ao) (ca:=ca) w;go_enter Tz.func71,Tryz.ntmps71
 go_wp2_with(go_at_call 99;refine H1.mono ?_;clear H1;rintro e w1 ⟨rfl,b1⟩)
 go_loopw [5] (λi w'=>i=.int .i64 0/\Below w w w') (λ_ _=>0)
 case atStart=>exact⟨rfl,b1⟩
 case round=>
  obtain⟨rfl,hB⟩:=hrel;go_wp2;go_ret;exact⟨rfl,hB⟩
def Cu (w:World):Calls Tz.prog 50 #[.slice ao 0 ca,.slice bo 0 da] w λe w'=>e=.returned true/\Below w w w':=by
 have lY:∀o1 o2 o3,Below w w (((w.alloc o1).alloc o2).alloc o3):=λo1 o2 o3=>(((acU _ w).alloc (ac3 _) _).alloc aG _).alloc cH _
 refine(callsIn_wide (n:=9)).1 ?_;refine callsIn_of_wp_marks Tz.func50 rfl trivial ?_ rfl;simp only[Tryz.ntmps50,List.size_toArray,List.length_cons,List.length_nil,Nat.reduceAdd,Nat.reduceSub,Array.replicate_succ,Array.replicate_zero,List.push_toArray,List.append_toArray,List.nil_append,List.cons_append];gi_wp2_with (refine⟨trivial,?_⟩;gi_at_call 75;refine(callsIn_wide.2<|zx _).mono ?_;rintro e w1 ⟨rfl,bI⟩;let⟨kY,pH⟩:=jF bI)
 have hz:=bI.size;simp at hz;have oa:Below w w w1:=(lY _ _ _).trans<|bI.mono (lY _ _ _).size;have l0:w1.cell? w.heap.size=some (.slice ao 0 ca):=by rw[kY w.heap.size 0 cH];simp[go_sem]
 have l1:w1.cell? ⟨w.heap.size+1,0,none⟩=some (.slice bo 0 da):=by rw[kY (w.heap.size+1) 0 aG];simp[go_sem]
 have l2:w1.cell? ⟨w.heap.size+1+1,0,none⟩=some (.bool false):=by rw[kY (w.heap.size+1+1) 0 aG];simp[go_sem]
 have l3:w1.frozen? ⟨w.heap.size+1+1,0,none⟩=false:=by rw[pH (w.heap.size+1+1) 0 aG];simp[go_sem]
 clear kY pH bI;gi_loopw [21] (λi wr=>i=.int .i64 0/\Below w1 w1 wr) (λ_ _=>0)
 case atStart=>exact⟨rfl,acU _ _⟩
 case round=>
  obtain⟨rfl,hB⟩:=hrel;have gD:Below w w wr:=oa.trans<|hB.mono oa.size;have hzr:w1.heap.size<=wr:=hB.size;have m0:wr.cell? w.heap.size=some (.slice ao 0 ca):=(hB.cell (p:=w.heap.size) cH).trans l0;have m1:wr.cell? ⟨w.heap.size+1,0,none⟩=some (.slice bo 0 da):=(hB.cell (p:=⟨w.heap.size+1,0,none⟩) cH).trans l1;have m2:wr.cell? ⟨w.heap.size+1+1,0,none⟩=some (.bool false):=(hB.cell (p:=⟨w.heap.size+1+1,0,none⟩) cH).trans l2;have m3:wr.frozen? ⟨w.heap.size+1+1,0,none⟩=false:=(hB.frozen (p:=⟨w.heap.size+1+1,0,none⟩) cH).trans l3;gi_wp2_with (refine⟨trivial,?_⟩;gi_at_call 77;refine(callsIn_wide.2<|AU _ _).mono ?_;rintro e w' ⟨rfl,rfl⟩)
  obtain⟨WL,Nv⟩:∃WL,wr.alloc (.cells #[(0:Int)] 3)=WL:=⟨_,rfl⟩;have hL:Below wr wr WL:=Nv▸(acU _ _).alloc (ac3 _) _;have hzL:WL.heap.size=wr.heap.size+1:=by rw[<-Nv];simp
  have hcL:WL.cell? wr.heap.size=some (.int .i64 ((0:Nat):Int)):=by rw[<-Nv];simp
  rw[Nv];clear Nv;have U7:Below w w WL:=gD.trans<|hL.mono gD.size;have p2:=(hL.cell (p:=⟨w.heap.size+1+1,0,none⟩) cH).trans m2;have p3:=(hL.frozen (p:=⟨w.heap.size+1+1,0,none⟩) cH).trans m3;refine wpIn_rangeFunc_ownG rfl ab (gf:=108) (lb:=#[.pointer wr.heap.size]) rfl trivial (enters_of Tz.func108 bj rfl)
   (vl _ wr.heap.size WL.heap.size 0 WL ab ab (ac3 _) hcL) belowK_t (belowK_b<|ac3 _) (acU _ _) (λ_=>rfl)
   (λpre W=>Below WL WL W)
   (λc pre W=>False)
   (ownFrom_below (ac3 _) (ac3 _))
   (λc=>ownFrom_pure _ λ_=>False)
   (acU _ _)
   ?a1 ?assign ?body ?done ?stop
  case assign=>
   intro l x W K hK;gi_wp2
   exact hK
  case body=>
   rintro l pre ⟨⟨i,j⟩,kq,F2⟩ W Cd _;exact absurd F2<|ac7 _
  case done=>
   rintro D xs W hD hS Cd hK;have GR:Below w w W:=U7.trans<|Cd.mono U7.size;have VW:=Cd.size;have J_:=(Cd.cell (p:=⟨w.heap.size+1+1,0,none⟩) cH).trans p2;have p3W:=(Cd.frozen (p:=⟨w.heap.size+1+1,0,none⟩) cH).trans p3;gi_wp2
   have hK':=(KeepsOthers.setCell W ⟨w.heap.size+1+1,0,none⟩ true).same D _ hK rfl;refine⟨aG,.inl ⟨_,_,rfl,run_takeDeferred hK',?_⟩⟩;have Y6:=cell_kept (World.cell?_setCell_same' W ⟨w.heap.size+1+1,0,none⟩ true<|by rw[J_];rfl) (grownBy_putObj' _ D<|.deferred none) (λr e=>by cases e;exact⟨_,hK',rfl⟩);refine⟨.bool true,?_,rfl,(GR.setCell (p:=⟨w.heap.size+1+1,0,none⟩) cH _).trans<|belowK_b (w:=w) (ac3 _) _ D _ _ ab hK' rfl rfl⟩;simp[results,Tryz.f50,go_sem,Y6]
  case stop=>
   rintro D c pre W hD _ hF hK;exact hF.elim
def C1 (now shift:Int)(w:World)(h0:0<=now/\now<=10000)(h1:0<=shift/\shift<=6):Calls Tz.prog 39 #[.agg #[now,shift,.slice ao 0 ca,.slice bo 0 da]] w λe w'=>e=.returned true/\Below w w w':=by
 have bA:=jG w now shift ao 0 ca bo 0 da;have hA:=pC w now shift ao 0 ca bo 0 da;have H1:=C2 (ao:=ao) (ca:=ca) (bo:=bo) (da:=da)<|DR w now shift ao 0 ca bo 0 da;have e1:iB now 0 10000=true:=d6.mpr h0;have e2:iB shift 0 6=true:=d6.mpr h1;go_enter Tz.func39,Tryz.ntmps39
 go_wp2_with(first|(go_at_call 70;refine(ig _ _ _ _).mono ?_;rintro e w' ⟨rfl,rfl⟩)|(go_at_call 71;refine H1.mono ?_;clear H1;rintro e w1 ⟨rfl,b1⟩))
 have oa:Below w w w1:=bA.trans<|b1.mono bA.size;have LY:=hA.below b1 aG;have eG:w.heap.size<w1:=ac4 aG b1.size;clear hA b1;go_loopw [3] (λx wr=>x=.int .i64 0/\Below w1 w1 wr) (λ_ _=>0)
 case atStart=>exact⟨rfl,acU _ _⟩
 case round=>
  obtain⟨rfl,hB⟩:=hrel;let⟨a0,a1,a2,a3⟩:=LY.below hB eG;go_wp2;go_ret;exact⟨rfl,oa.trans<|hB.mono oa.size⟩
def Cs (now shift:Int)(w:World)(h0:0<=now/\now<=10000)(h1:0<=shift/\shift<=6):Calls Tz.prog 16 #[.agg #[now,shift,.slice ao 0 ca,.slice bo 0 da]] w λe w'=>e=.returned true/\Below w w w':=by
 have bA:=jG w now shift ao 0 ca bo 0 da;have hA:=pC w now shift ao 0 ca bo 0 da;have H1:=Cu (ao:=ao) (ca:=ca) (bo:=bo) (da:=da)<|DR w now shift ao 0 ca bo 0 da;let⟨p0,p1⟩:=h0;let⟨p2,p3⟩:=h1;have q0:¬now<0:=ab;have q1:¬10000<now:=ab;have q2:¬shift<0:=ab;have q3:¬6<shift:=ab;go_enter Tz.func16,Tryz.ntmps16
 go_wp2_with(go_at_call 50;refine H1.mono ?_;clear H1;rintro e w1 ⟨rfl,b1⟩;have LY:=hA.below b1 aG;have eG:w.heap.size<w1.heap.size:=ac4 aG b1.size;let⟨a0,a1,a2,a3⟩:=LY)
 have oa:Below w w w1:=bA.trans<|b1.mono bA.size;clear hA b1;go_loopw [32] (λx wr=>x=.int .i64 0/\Below w1 w1 wr) (λ_ _=>0)
 case atStart=>exact⟨rfl,acU _ _⟩
 case round=>
  obtain⟨rfl,hB⟩:=hrel;go_wp2;go_ret;exact⟨rfl,oa.trans<|hB.mono oa.size⟩
end
section
set_option linter.unusedVariables false
inductive Ap
 |no (c:Int)
 |yes (p:Nat) (T:Nat->Int)
noncomputable def vX (f:Nat->Mv)(n:Nat)(q:Mv):Nat:=Classical.choose<|p7 (λj=>bX (f j).name q.name) n
def ww (h1:k<=n)(h2:∀j,j<k->bX (f j).name q.name=true)(h3:k<n->bX (f k).name q.name=false):vX f n q=k:=by
 let⟨g1,g2,g3⟩:=Classical.choose_spec<|p7 (λj=>bX (f j).name q.name) n;exact JK g1 g2 g3 h1 h2 h3
open Classical in
noncomputable def Aj (f:Nat->Mv)(n:Nat)(now shift:Int)(q:Mv):Ap:=
 if q.ok=false\/¬q.prom<0 then .no 2 else if∃j,j<n/\bJ (f j).name q.name=true then .no 3 else if¬n<6 then .no 4 else
  match fI (dR f (vX f n q) q) (n+1) now shift with
  |none=>.no 5
  |some T=>.yes (vX f n q) T
noncomputable def wc (f:Nat->Mv)(n:Nat)(now shift:Int)(q:Mv):Ap:=
 match Aj f n now shift q with
 |.no c=>.no c
 |.yes p T=>if dG now shift (dR f p q) (n+1) T (n+1)=true then .yes p T else .no 6
def IU (h:q.ok=false\/¬q.prom<0):Aj f n now shift q=.no 2:=by unfold Aj;rw[if_pos h]
def SQ (h1:q.ok=true)(h2:q.prom<0)(h3:∃j,j<n/\bJ (f j).name q.name=true):Aj f n now shift q=.no 3:=by unfold Aj;rw[if_neg (by simp[h1];omega),if_pos h3]
def SR (h1:q.ok=true)(h2:q.prom<0)(h3:∀j,j<n->bJ (f j).name q.name=false)(h4:¬n<6):Aj f n now shift q=.no 4:=by unfold Aj;rw[if_neg (by simp[h1];omega),if_neg (λ⟨j,hj,e⟩=>by rw[h3 j hj]at e;cases e),if_pos h4]
def SS (h1:q.ok=true)(h2:q.prom<0)(h3:∀j,j<n->bJ (f j).name q.name=false)(h4:n<6){K:Nat}(hK:vX f n q=K):Aj f n now shift q=match fI (dR f K q) (n+1) now shift with|none=>.no 5|some T=>.yes K T:=by
 unfold Aj;rw[if_neg (by simp[h1];omega),if_neg (λ⟨j,hj,e⟩=>by rw[h3 j hj]at e;cases e),if_neg ab,hK]
def tY {c:Int}(h:Aj f n now shift q=.no c):wc f n now shift q=.no c:=by unfold wc;rw[h]
def SP (h:Aj f n now shift q=.yes p T)(hs:dG now shift (dR f p q) (n+1) T (n+1)=false):wc f n now shift q=.no 6:=by unfold wc;rw[h];simp[hs]
def SO (h:Aj f n now shift q=.yes p T)(hs:dG now shift (dR f p q) (n+1) T (n+1)=true):wc f n now shift q=.yes p T:=by unfold wc;rw[h];simp[hs]
def QA {c:Int}(h:Aj f n now shift q=.no c):1<c:=by
 unfold Aj at h;split at h
 .cases h;decide
 split at h
 .cases h;decide
 split at h
 .cases h;decide
 split at h
 .cases h;decide
 .cases h
def IS {c:Int}(h:wc f n now shift q=.no c):1<c:=by
 unfold wc at h;split at h
 .next e=>cases h;exact QA e
 .split at h
  .cases h
  .cases h;decide
