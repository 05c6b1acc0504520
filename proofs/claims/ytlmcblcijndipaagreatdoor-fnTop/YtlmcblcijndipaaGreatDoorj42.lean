import Derived.Test.YtlmcblcijndipaaGreatDoorj36
import Derived.Test.YtlmcblcijndipaaGreatDoorj39
set_option linter.defProp false
set_option linter.unusedVariables false
set_option linter.unusedSimpArgs false
set_option maxHeartbeats 4000000
set_option maxRecDepth 10000
namespace Go.Proofs.YtlmcblcijndipaaGreatDoor
open RowKit
variable {now shift:Int}{x' xs:List Value}{m:Mv}{B b c d k n n':Nat}{t:Nat->Int}{f:Nat->Mv}{ao bo:Option Addr}{v v':Value}{W W' w w':World}
section
variable {m:Nat}
def CN {m:Mv}(h:m.ok=true):m.Fits:=by
 have b:=Mv.fp h;exact⟨by have:=RO h;unfold maxLen;omega,vB ab,vB ab,vB ab,vB ab⟩
def qw (h:aJ w b 0 n f)(hk:k<=n):aJ w b 0 k f:=λi hi=>h i ab
def zB (b n cap k:Nat)(f:Nat->Mv)(w:World)(hn:n<=6)(hk:k<n)(xE:n<=cap)(bz:b<w)(am:aJ w b 0 n f):
  Calls Tz.prog 45 #[.slice (some ⟨b,0,none⟩) n cap,.int .i64 k] w λe w'=>(∃B c,e=.returned (.slice (some ⟨B,0,none⟩) (n-1) c)/\w'.ownsRow w.heap.size 31 6 (.slice (some ⟨B,0,none⟩) (n-1) c) (n-1) (aU (cQ f k)<|n-1))/\Below w.heap.size w w':=by
 let⟨iM,hI,gE,eG,ga⟩:=eP;have Zu:(k:Int)<=cap:=ab;have uS:(0:Int)<=(k:Int)+1:=ab;have PX:(k:Int)+1<=n:=ab;have od:(k:Int)+1<=cap:=ab;have xP:IntKind.i64.wrap ((k:Int)+1)=(k:Int)+1:=ia;have bA:Below w w (w.alloc<|.cells #[] 31).drew:=((acU _ w).alloc (ac3 _) _).drew;have o1:(w.alloc<|.cells #[] 31).drew.ownsRow w.heap.size 31 6 (.slice w.heap.size 0 0) 0 []:=tF<|ac3 _;have hC:∀W,Below w w W->∀ad,(if cap=k+1 then some (b:Addr)else some ⟨b,(k+1)*6,none⟩)=some ad->∀j u,(aU (λj=>f<|k+1+j)<|n-(k+1))[j]?=some u->W.cell? (ad.add j)=some u:=λW hW ad had=>by
  split at had
  .have:n-(k+1)=0:=by omega
   rw[this];intro j u h;simp[aU]at h
  .cases had;exact dZ<|(nu am ab).below hW bz
 go_enter Tz.func45,Tryz.ntmps45
 go_wp2;go_region_law (first
  |(refine bh rfl (.tmp 5) (.tmp 8) 23 rfl 31 iM _ 6 56 aR hI gE eG ga rfl bd w.heap.size (.slice (some ⟨w.heap.size,0,none⟩) 0 0) 0 [] bD o1 nV (some ⟨b,0,none⟩) k cap (aU f k) bD (bq f k) nV (λad had=>by cases had;exact dZ<|(qw am ab).below bA bz) (eR f k) ie ab bA.size ?_;intro v2 w2 qN ze jT;simp only[Nat.zero_add,List.nil_append]at qN;have B2:Below w.heap.size w w2:=bA.grown jT bA.size λq hq=>Gu;clear jT)
  |(refine bh rfl (.tmp 9) (.tmp 13) 23 rfl 31 iM _ 6 56 aR hI gE eG ga rfl bd w.heap.size v2 k (aU f k) bD qN ze (if cap=k+1 then some (⟨b,0,none⟩:Addr)else some ⟨b,(k+1)*6,none⟩) (n-(k+1)) (cap-(k+1)) (aU (λj=>f<|k+1+j)<|n-(k+1)) bD (bq _ _) (by split<;>(intro h;cases h)) (hC _ B2) (eR _ _) ie ab B2.size ?_;intro v3 w3 ho3 hs3 Zl;rw[Fl f k n hk,show k+(n-(k+1))=n-1 by omega]at ho3;have B3:Below w.heap.size w w3:=B2.grown Zl B2.size λq hq=>(qN.lt q hq).1;obtain⟨b3,c3,rfl⟩:=lA ho3 hs3;clear Zl B2 qN))
 go_wp2;all_goals
  go_ret;exact⟨⟨b3,c3,rfl,ho3⟩,B3⟩
end
def dw.keep (h:dw w b m)(e:w'.heap[b]?=w.heap[b]?):dw w' b m:=e.trans h
structure Xi (B:Nat)(m:Mv)(W:World):Prop where
 c0:W.cell? B=some (.string m.name)
 c1:W.cell? ⟨B,1,none⟩=some (.bool m.ak)
 c2:W.cell? ⟨B,2,none⟩=some (.int .i64 m.ap)
 c3:W.cell? ⟨B,3,none⟩=some (.int .i64 m.bF)
 c4:W.cell? ⟨B,4,none⟩=some (.int .i64 m.late)
 c5:W.cell? ⟨B,5,none⟩=some (.int .i64 m.prom)
def eD (h:dw W B m):Xi B m W:=by
 let⟨c0,c1,c2,c3,c4,c5⟩:=h.at_;exact⟨c0,c1,c2,c3,c4,c5⟩
structure Pu (w:World)(m:Mv)(v:Value)(n:Nat)(xs:List Value)(o:Option Nat)(W:World):Prop where
 below:Below w w W
 own:W.ownsRow w.heap.size 31 6 v n xs
 one:∀Y,o=some Y->W.heap[Y]?=some (.cells m.cells 31 (0,0))
section
variable {o:Option Nat}
def Pu.at_ (h:Pu w m v n xs o W)(hm:dw w B m)(hB:B<w):Xi B m W:=eD<|hm.keep<|h.below.block B hB
def Pu.A_ (h:Pu w m v n xs o W):Pu w m (.slice W.heap.size 0 0) 0 [] o (W.alloc<|.cells #[] 31):=
 ⟨h.below.alloc h.below.size _,tF h.below.size,λY hY=>(acV _ _ _ (ac5.1<|h.one Y hY).1).trans<|h.one Y hY⟩
def Pu.Wf (h:Pu w m v n xs o W):Pu w m v n xs (some W.heap.size) (W.alloc<|.cells #[m.name,m.ak,m.ap,m.bF,m.late,m.prom] 31):=
 ⟨h.below.alloc h.below.size _,aB h.own λB hB=>acV _ _ _ (h.own.lt B hB).2,λY hY=>by cases hY;exact heap_alloc_new W _⟩
def Pu.app (h:Pu w m v n xs o W)(ho:W'.ownsRow w.heap.size 31 6 v' n' x')(g:W.grownBy W' v.ownBlock)(hs:∀Y,o=some Y->v.ownBlock≠some Y):Pu w m v' n' x' o W':=
 ⟨h.below.grown g h.below.size λq hq=>(h.own.lt q hq).1,ho,λY hY=>(g.block Y (ac5.1<|h.one Y hY).1 λe=>hs Y hY e.symm).trans<|h.one Y hY⟩
def Pu.Uu (h:Pu w m v n xs o W)(ho:W'.ownsRow w.heap.size 31 6 v' n' x')(g:W.grownBy W' v.ownBlock):Pu w m v' n' x' none W':=
 ⟨h.below.grown g h.below.size λq hq=>(h.own.lt q hq).1,ho,λY hY=>by cases hY⟩
end
def Qt (f:Nat->Mv)(n:Nat)(m:Mv)(w:World)(e:Ending)(w':World):Prop:=∃B c k,e=.returned (.slice (some ⟨B,0,none⟩) (n+1) c)/\k<=n/\(∀j,j<k->bX (f j).name m.name=true)/\(k<n->bX (f k).name m.name=false)/\w'.ownsRow w.heap.size 31 6 (.slice (some ⟨B,0,none⟩) (n+1) c) (n+1) (aU (dR f k m)<|n+1)
def KZ (b n cap:Nat)(f:Nat->Mv)(m:Mv)(w:World)(hn:n<=6)(xE:n<=cap)(bz:b<w)(am:aJ w b 0 n f):
  Calls Tz.prog 43 #[.slice b n cap,.agg #[m.name,m.ak,m.ap,m.bF,m.late,m.prom]] w λe w'=>Qt f n m w e w'/\Below w w w':=by
 let⟨iM,hI,gE,eG,ga⟩:=eP;have bA:Below w w (w.alloc<|.cells #[m.name,m.ak,m.ap,m.bF,m.late,m.prom] 31):=(acU _ w).alloc (ac3 _) _;have mA:dw (w.alloc<|.cells #[m.name,m.ak,m.ap,m.bF,m.late,m.prom] 31) w.heap.size m:=heap_alloc_new _ _;go_enter Tz.func43,Tryz.ntmps43
 go_wp2;go_loopw [5] (λx W=>∃k:Nat,x=.int .i64 k/\k<=n/\Below w w W/\dw W w.heap.size m/\∀j,j<k->bX (f j).name m.name=true) (λx _=>n-(intOf x).toNat)
 case atStart=>exact⟨0,rfl,ac8 _,bA,mA,λj hj=>absurd hj<|ac7 _⟩
 case round=>
  clear bA mA;obtain⟨k,rfl,hk,hB,hm,ma⟩:=hrel;have lb:=ac4 bz hB.size;have lm:w.heap.size<wr:=(ac5.1 hm).1;have hne:=aF wr;have x1:=λx:ai wr=>x.cell (eD hm).c0
  by_cases hgo:k<n/\bX (f k).name m.name=true
  .let⟨ay,hL⟩:=hgo;have dq:(k:Int)<n:=ab;have hL':Op.bytesLess (f k).name.toList m.name.toList=true:=hL;have c0:=(am.below hB bz k ay).c0;simp only[Nat.zero_add]at c0;have x0:=λx:ai wr=>x.cell c0
   go_wp2;refine jR ?_;intro w2 cj;go_wp2;all_goals try omega
   go_roundw
   case rel=>exact⟨k+1,by go_num,ab,hB.trans<|cj.mono hB.size,hm.keep<|cj.block _ lm,λj hj=>by
    by_cases e:j=k
    .subst e;exact hL
    .exact ma j ab⟩
   case measure=>exact bZ
  have de:k<n->bX (f k).name m.name=false:=λh=>by
   cases hL:bX (f k).name m.name with
   |false=>rfl
   |true=>exact absurd ⟨h,hL⟩ hgo
  by_cases ay:k<n;focus
   have dq:(k:Int)<n:=ab;have hL':Op.bytesLess (f k).name.toList m.name.toList=false:=de ay;have c0:=(am.below hB bz k ay).c0;simp only[Nat.zero_add]at c0;have x0:=λx:ai wr=>x.cell c0
   go_wp2;refine jR ?_;intro w2 cj;go_wp2;all_goals try omega
  rotate_left;focus
   have dq:¬(k:Int)<n:=ab;have hz:decide (k<n)=false:=by simpa using ay
   go_wp2;refine jR ?_;intro w2 cj;go_wp2;all_goals try omega
  all_goals
   have qp:Below w w w2.drew:=(hB.trans<|cj.mono hB.size).drew;have pb:dw w2.drew w.heap.size m:=hm.keep<|cj.block _ lm;have Lo:aJ w2.drew b 0 n f:=am.below qp bz;have P7:b<w2.drew:=ac4 bz qp.size;have rI:w.heap.size<w2.drew:=(ac5.1 pb).1;refine wp_region_held_drew (S:=Xi w.heap.size m) bj (eD pb) λhHeld=>?_;revert hHeld qp pb Lo P7 rI;generalize w2.drew=w3;intro qp pb Lo P7 rI hHeld;have Zu:(k:Int)<=cap:=ab;have uS:(0:Int)<=k:=ab;have tS:(k:Int)<=n:=ab;have hCl:∀W,Below w3 w3 W->∀ad,(if cap=k then some (b:Addr)else some ⟨b,k*6,none⟩)=some ad->∀j u,(aU (λj=>f<|k+j)<|n-k)[j]?=some u->W.cell? (ad.add j)=some u:=λW hW ad had=>by
    split at had
    .have:n-k=0:=by omega
     rw[this];intro j u h;simp[aU]at h
    .cases had;exact dZ<|(nu Lo hk).below hW P7
   have hC:Pu w3 m () 0 [] none w3:=⟨acU _ _,⟨rfl,.inl ⟨rfl,rfl⟩⟩,λY hY=>by cases hY⟩;refine aq 1 (.slice b n cap) 23 rfl Bf hHeld ?_;refine aq 2 (.int .i64 (k:Int)) 24 rfl Bf hHeld ?_;refine aq 3 (.slice b k cap) 25 rfl Bf hHeld ?_;refine aq 5 (.agg #[m.name,m.ak,m.ap,m.bF,m.late,m.prom]) 27 rfl Bf hHeld ?_;refine aq 8 (.slice b n cap) 30 rfl Bf hHeld ?_;refine aq 9 (.int .i64 (k:Int)) 31 rfl Bf hHeld ?_;refine aq 10 (.slice (if cap=k then some ⟨b,0,none⟩else some ⟨b,k*6,none⟩) (n-k)<|cap-k) 32 rfl Bf hHeld ?_;refine Qb 0 6 rfl rfl (λK hK=>?_) λK hK=>?_;focus
    go_simp
    have hC:=hC.A_;try simp only[World.size_alloc,World.size_drew]at hC
    refine hK.out _ _ (hC.at_ pb rI) λhHeld=>?_;clear hK K;refine Qb 4 6 rfl rfl (λK hK=>?_) λK hK=>?_;focus
     refine bh rfl (.tmp 22) (.tmp 25) 23 rfl 31 iM _ 6 56 aR hI gE eG ga rfl bd w3.heap.size _ 0 [] bD hC.own nV b k cap (aU f k) bD (bq f k) nV (λad had=>by cases had;exact dZ<|(qw Lo hk).below hC.below P7) (eR f k) ie ab hC.below.size ?_;intro v4 w4 F6 El I9;simp only[Nat.zero_add,List.nil_append]at F6;have hC:=hC.app F6 I9 (by intro Y hY;cases hY);clear F6 I9;refine hK.out _ _ (hC.at_ pb rI) λhHeld=>?_;clear hK K;refine iT 6 rfl λK hK=>?_;go_simp
     have hC:=hC.Wf;try simp only[World.size_alloc,World.size_drew]at hC
     refine hK.out _ _ (hC.at_ pb rI) λhHeld=>?_;clear hK K;refine iT 7 rfl λK hK=>?_;refine bh rfl (.tmp 26) (.tmp 28) 23 rfl 31 iM _ 6 56 aR hI gE eG ga rfl bd w3.heap.size v4 k (aU f k) bD hC.own El _ 1 1 m.cells.toList bD rfl nV (λad had=>by cases had;exact uq<|hC.one _ rfl) (gb m) ie ab hC.below.size ?_;intro v5 w5 F7 uX Ja;have hC:=hC.Uu F7 Ja;clear F7 Ja;refine hK.out _ _ (hC.at_ pb rI) λhHeld=>?_;clear hK K
    rotate_left;focus
     go_simp
     have hC:=hC.Wf;try simp only[World.size_alloc,World.size_drew]at hC
     refine hK.out _ _ (hC.at_ pb rI) λhHeld=>?_;clear hK K;refine iT 4 rfl λK hK=>?_;refine bh rfl (.tmp 22) (.tmp 25) 23 rfl 31 iM _ 6 56 aR hI gE eG ga rfl bd w3.heap.size _ 0 [] bD hC.own nV b k cap (aU f k) bD (bq f k) nV (λad had=>by cases had;exact dZ<|(qw Lo hk).below hC.below P7) (eR f k) ie ab hC.below.size ?_;intro v4 w4 F6 El I9;simp only[Nat.zero_add,List.nil_append]at F6;have hC:=hC.app F6 I9 (by intro Y hY;cases hY;simp[Value.ownBlock]);clear F6 I9;refine hK.out _ _ (hC.at_ pb rI) λhHeld=>?_;clear hK K;refine iT 7 rfl λK hK=>?_;refine bh rfl (.tmp 26) (.tmp 28) 23 rfl 31 iM _ 6 56 aR hI gE eG ga rfl bd w3.heap.size v4 k (aU f k) bD hC.own El _ 1 1 m.cells.toList bD rfl nV (λad had=>by cases had;exact uq<|hC.one _ rfl) (gb m) ie ab hC.below.size ?_;intro v5 w5 F7 uX Ja;have hC:=hC.Uu F7 Ja;clear F7 Ja;refine hK.out _ _ (hC.at_ pb rI) λhHeld=>?_;clear hK K
   rotate_left 2;focus
    go_simp
    have hC:=hC.Wf;try simp only[World.size_alloc,World.size_drew]at hC
    refine hK.out _ _ (hC.at_ pb rI) λhHeld=>?_;clear hK K;refine iT 0 rfl λK hK=>?_;go_simp
    have hC:=hC.A_;try simp only[World.size_alloc,World.size_drew]at hC
    refine hK.out _ _ (hC.at_ pb rI) λhHeld=>?_;clear hK K;refine iT 4 rfl λK hK=>?_;refine bh rfl (.tmp 22) (.tmp 25) 23 rfl 31 iM _ 6 56 aR hI gE eG ga rfl bd w3.heap.size _ 0 [] bD hC.own nV b k cap (aU f k) bD (bq f k) nV (λad had=>by cases had;exact dZ<|(qw Lo hk).below hC.below P7) (eR f k) ie ab hC.below.size ?_;intro v4 w4 F6 El I9;simp only[Nat.zero_add,List.nil_append]at F6;have hC:=hC.app F6 I9 (by intro Y hY;cases hY;simp[Value.ownBlock]);clear F6 I9;refine hK.out _ _ (hC.at_ pb rI) λhHeld=>?_;clear hK K;refine iT 7 rfl λK hK=>?_;refine bh rfl (.tmp 26) (.tmp 28) 23 rfl 31 iM _ 6 56 aR hI gE eG ga rfl bd w3.heap.size v4 k (aU f k) bD hC.own El _ 1 1 m.cells.toList bD rfl nV (λad had=>by cases had;exact uq<|hC.one _ rfl) (gb m) ie ab hC.below.size ?_;intro v5 w5 F7 uX Ja;have hC:=hC.Uu F7 Ja;clear F7 Ja;refine hK.out _ _ (hC.at_ pb rI) λhHeld=>?_;clear hK K
   all_goals
    refine iT 11 rfl λK hK=>?_;refine bh rfl (.tmp 29) (.tmp 32) 23 rfl 31 iM _ 6 56 aR hI gE eG ga rfl bd w3.heap.size v5 (k+1) (aU f k++m.cells.toList) bD hC.own uX (if cap=k then some ⟨b,0,none⟩else some ⟨b,k*6,none⟩) (n-k) (cap-k) (aU (λj=>f<|k+j)<|n-k) bD (bq _ _) (by split<;>(intro h;cases h)) (hCl _ hC.below) (eR _ _) ie ab hC.below.size ?_;intro v6 w6 VO G2 hg6;rw[yE f k n m hk,show k+1+(n-k)=n+1 by omega]at VO;have B6:Below w3 w3 w6:=hC.below.grown hg6 hC.below.size λq hq=>(hC.own.lt q hq).1;obtain⟨b6,c6,rfl⟩:=lA VO G2;refine hK.out _ _ (eD<|dw.keep pb<|B6.block _ rI) λhHeld=>?_;clear hK K;refine iT 12 rfl λK hK=>?_;go_simp
    refine hK.out _ _ (eD<|dw.keep pb<|B6.block _ rI) λhHeld=>?_;clear hK K;refine wpAnyH_done bj ?_ _;clear hHeld;go_wp2;all_goals go_ret
    all_goals exact⟨⟨b6,c6,k,rfl,hk,ma,de,cJ VO qp.size⟩,qp.trans<|B6.mono qp.size⟩
structure Bok (w:World)(lo:Nat)(now shift:Int)(ao:Option Addr)(n c:Nat)(f:Nat->Mv)(bo:Option Addr)(d:Nat)(t:Nat->Int):Prop where
 now:0<=now/\now<=10000
 sh:0<=shift/\shift<=6
 six:n<=6
 ok:∀i,i<n->(f i).ok=true
 mem:(ao=none/\bo=none/\n=0/\c=0/\d=0)\/∃b b',ao=some ⟨b,0,none⟩/\bo=some ⟨b',0,none⟩/\w.ownsRow lo 31 6 (.slice (some ⟨b,0,none⟩) n c) n (aU f n)/\n<=d/\qH w lo b' n t
section
variable {lo:Nat}
def t6 (h0:0<=now/\now<=10000)(h1:0<=shift/\shift<=6):aM now shift f 0 t 0=true:=
 mY (d6.mpr h0) (d6.mpr h1) ((fV<|by simp[az]).mpr<|wK f t) (by simp[lE])
end
def Ev (w:World)(e:Ending)(w':World):Prop:=∃(now shift:Int) (ao:Option Addr) (n c:Nat) (f:Nat->Mv) (bo:Option Addr) (d:Nat) (t:Nat->Int) (k:Int),e=.returned (.tuple #[.agg #[now,shift,.slice ao n c,.slice bo n d],k])/\Bok w' w.heap.size now shift ao n c f bo d t
def abv (w:World)(lo:Nat):Bok w lo 0 0 none 0 0 (λ_=>PM) none 0 (λ_=>0):=⟨ab,ab,ab,λi hi=>absurd hi<|ac7 _,.inl ⟨rfl,rfl,rfl,rfl,rfl⟩⟩
section
section
variable {R X Bx cx Bi ci:Nat}
end
def EvT (w:World)(e:Ending)(w':World):Prop:=∃(now shift:Int) (ao:Option Addr) (n c:Nat) (f:Nat->Mv) (bo:Option Addr) (d:Nat) (t:Nat->Int) (sa:Option Addr) (sn sc:Nat) (k:Int),e=.returned (.tuple #[.agg #[now,shift,.slice ao n c,.slice bo n d],.slice sa sn sc,k])/\Bok w' w.heap.size now shift ao n c f bo d t
def Oe:∃i,Tz.prog.info? 9=some i/\i.zero=some (.string ByteArray.empty)/\i.size=1/\i.bytes=16:=by
 have h:(Tz.prog.info? 9).map (λi=>(i.zero,i.size,i.bytes))=some (some<|.string ByteArray.empty,1,16):=bj;cases hI:Tz.prog.info? 9 with
 |none=>rw[hI]at h;simp at h
 |some i=>rw[hI]at h;simp only[Option.map_some,Option.some.injEq,Prod.mk.injEq]at h;exact⟨i,rfl,h.1,h.2.1,h.2.2⟩
def Ha:Tz.prog.underlying 24=some (.slice 9):=bj
def uw {base:Nat}{e:TypeId}{size:Nat}(h:W.ownsRow base e size v n xs):∃a c,v=.slice a n c/\(a=none->n=0/\c=0)/\∀ad,a=some ad->∃b,ad=⟨b,0,none⟩/\b<W.heap.size:=by
 obtain⟨h1,⟨rfl,rfl⟩|⟨g,c,cur,rfl,h3,h4,h5⟩⟩:=h
 .exact⟨none,0,rfl,λ_=>⟨rfl,rfl⟩,λad had=>by cases had⟩
 .exact⟨_,c,rfl,(λh=>nomatch h),λad had=>by cases had;exact⟨g,rfl,(ac5.1 h4).1⟩⟩
def Gb (I:List Int):List Value:=I.map λx=>.int .i64 x
def SC (hm:az f n=true)(hf:dU f t n)(hk:k<n):({f k with prom:=t k}:Mv).ok=true:=by
 have b:=Mv.fp<|aW hm k hk;have s:=fT<|hf.1 k hk;refine Mv.Jz (aW hm k hk) rfl rfl b.1 b.2.1 b.2.2.1 (.inr ⟨?_,?_⟩)<;>simp only<;>omega
structure Tc (w:World)(now shift:Int)(ao:Option Addr)(n c:Nat)(bo:Option Addr)(d NX:Nat)(v u:Value)(L:List Mv)(I:List Int)(s:Value)(js:Nat)(xs:List Value)(W:World):Prop where
 below:Below w w W
 bk:aT W w.heap.size now shift (.slice ao n c) (.slice bo n d)
 rs:aT W (w.heap.size+1) 0 0 () ()
 nx:aT W NX (now+1) shift v u
 hN:w.heap.size+2<NX
 om:W.ownsRow (NX+1) 31 6 v L.length (aU (im L) L.length)
 oi:W.ownsRow (NX+1) 3 1 u I.length (Gb I)
 os:W.ownsRow (w.heap.size+2) 9 1 s js xs
section
variable {NX:Nat}{u:Value}{L:List Mv}{I:List Int}{s:Value}{js:Nat}
def Tc.grow (h:Tc w now shift ao n c bo d NX v u L I s js xs W)(b:Below W W W'):Tc w now shift ao n c bo d NX v u L I s js xs W':=
 ⟨h.below.trans<|b.mono h.below.size,h.bk.same<|b.block _ h.bk.lt,h.rs.same<|b.block _ h.rs.lt,h.nx.same<|b.block _ h.nx.lt,h.hN,aB h.om λB hB=>b.block B (h.om.lt B hB).2,aB h.oi λB hB=>b.block B (h.oi.lt B hB).2,aB h.os λB hB=>b.block B (h.os.lt B hB).2⟩
def Tc.names (h:Tc w now shift ao n c bo d NX v u L I s js xs W){s':Value}{js':Nat}{xs':List Value}(o:W'.ownsRow (w.heap.size+2) 9 1 s' js' xs')(g:W.grownBy W' s.ownBlock):Tc w now shift ao n c bo d NX v u L I s' js' xs' W':=by
 have hN:=h.hN;have h1:=h.bk.lt;have h2:=h.rs.lt;exact⟨h.below.grown g h.below.size (λq hq=>by have:=(h.os.lt q hq).1;omega),h.bk.same<|g.block _ h1 (λe=>by have:=(h.os.lt _ e.symm).1;omega),h.rs.same<|g.block _ h2 (λe=>by have:=(h.os.lt _ e.symm).1;omega),h.nx.same<|g.block _ h.nx.lt λe=>gw h.os h.nx bd e.symm rfl,h.hN,aB h.om λB hB=>g.block B (h.om.lt B hB).2 λe=>ir h.om h.os bd hB e.symm,aB h.oi λB hB=>g.block B (h.oi.lt B hB).2 λe=>ir h.oi h.os bd hB e.symm,o⟩
def Tc.moves (h:Tc w now shift ao n c bo d NX v u L I s js xs W)(o:W'.ownsRow (NX+1) 31 6 v' (L.length+1) (aU (im L) L.length++m.cells.toList))(g:W.grownBy W' v.ownBlock):aT W' NX (now+1) shift v u/\Tc w now shift ao n c bo d NX v' u (L++[m]) I s js xs (W'.setCell ⟨NX,2,none⟩ v'):=by
 have hN:=h.hN;have hn:aT W' NX (now+1) shift v u:=h.nx.same<|g.block _ h.nx.lt λe=>gw h.om h.nx bd e.symm rfl;have b1:Below w w W':=h.below.grown g h.below.size (λq hq=>by have:=(h.om.lt q hq).1;omega);obtain⟨X,rfl,y,hb,z,e⟩:=Ib hn b1 ab v';have oi':=aB h.oi (w':=W') λB hB=>g.block B (h.oi.lt B hB).2 λe=>ir h.oi h.om bd hB e.symm;have Wy:=aB h.os (w':=W') λB hB=>g.block B (h.os.lt B hB).2 λe=>ir h.os h.om bd hB e.symm;refine⟨hn,hb,h.bk.same<|(e _ ab).trans<|g.block _ h.bk.lt (λe=>by have:=(h.om.lt _ e.symm).1;omega),h.rs.same<|(e _ ab).trans<|g.block _ h.rs.lt (λe=>by have:=(h.om.lt _ e.symm).1;omega),y,h.hN,?_,aB oi' λB hB=>e B<|gw oi' hn bd hB,aB Wy λB hB=>e B<|gw Wy hn bd hB⟩;rw[List.length_append,List.length_singleton,Fi];exact aB o λB hB=>e B<|gw o hn bd hB
def Tc.Pt (h:Tc w now shift ao n c bo d NX v u L I s js xs W){u':Value}{x:Int}(o:W'.ownsRow (NX+1) 3 1 u' (I.length+1) (Gb I++[.int .i64 x]))(g:W.grownBy W' u.ownBlock):aT W' NX (now+1) shift v u/\Tc w now shift ao n c bo d NX v u' L (I++[x]) s js xs (W'.setCell ⟨NX,3,none⟩ u'):=by
 have hN:=h.hN;have hn:aT W' NX (now+1) shift v u:=h.nx.same<|g.block _ h.nx.lt λe=>gw h.oi h.nx bd e.symm rfl;have b1:Below w w W':=h.below.grown g h.below.size (λq hq=>by have:=(h.oi.lt q hq).1;omega);obtain⟨X,rfl,y,hb,z,e⟩:=wA hn b1 ab u';have om':=aB h.om (w':=W') λB hB=>g.block B (h.om.lt B hB).2 λe=>ir h.om h.oi bd hB e.symm;have Wy:=aB h.os (w':=W') λB hB=>g.block B (h.os.lt B hB).2 λe=>ir h.os h.oi bd hB e.symm;refine⟨hn,hb,h.bk.same<|(e _ ab).trans<|g.block _ h.bk.lt (λe=>by have:=(h.oi.lt _ e.symm).1;omega),h.rs.same<|(e _ ab).trans<|g.block _ h.rs.lt (λe=>by have:=(h.oi.lt _ e.symm).1;omega),y,h.hN,aB om' λB hB=>e B<|gw om' hn bd hB,?_,aB Wy λB hB=>e B<|gw Wy hn bd hB⟩;rw[List.length_append,List.length_singleton,show Gb (I++[x])=Gb I++[.int .i64 x] by simp[Gb]];exact aB o λB hB=>e B<|gw o hn bd hB
end
def BJ (w:World)(m:Mv):∃W,w.alloc (.cells #[m.name,m.ak,m.ap,m.bF,m.late,m.prom] 31)=W/\dw W w.heap.size m/\Below w w W/\W.heap.size=w.heap.size+1:=
 ⟨_,rfl,heap_alloc_new w _,(acU _ w).alloc (ac3 _) _,aG⟩
