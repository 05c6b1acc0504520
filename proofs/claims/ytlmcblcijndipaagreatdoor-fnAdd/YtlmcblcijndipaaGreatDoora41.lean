import Derived.Test.YtlmcblcijndipaaGreatDoora38
import Derived.Test.YtlmcblcijndipaaGreatDoora27
import Derived.Test.YtlmcblcijndipaaGreatDoora40
set_option linter.defProp false
set_option linter.unusedVariables false
set_option linter.unusedSimpArgs false
set_option maxHeartbeats 4000000
set_option maxRecDepth 10000
namespace Go.Proofs.YtlmcblcijndipaaGreatDoor
open RowKit
variable {now shift:Int}{x' xs:List Value}{m:Mv}{B b c d k n n':Nat}{t:Nat->Int}{f:Nat->Mv}{ao bo:Option Addr}{v v':Value}{W W' w w':World}
section
variable {m:Nat}
def qn {m:Mv}(h:m.ok=true):m.Fits:=by
 have b:=Mv.fX h;exact⟨by have:=I2 h;unfold maxLen;omega,oL aa,oL aa,oL aa,oL aa⟩
def qr (h:aI w b 0 n f)(hk:k<=n):aI w b 0 k f:=λi hi=>h i aa
def zq (b n cap k:Nat)(f:Nat->Mv)(w:World)(hn:n<=6)(hk:k<n)(vy:n<=cap)(bH:b<w)(aq:aI w b 0 n f):
  Calls Tz.prog 45 #[.slice (some ⟨b,0,none⟩) n cap,.int .i64 k] w λe w'=>(∃B c,e=.returned (.slice (some ⟨B,0,none⟩) (n-1) c)/\w'.ownsRow w.heap.size 31 6 (.slice (some ⟨B,0,none⟩) (n-1) c) (n-1) (aV (cW f k)<|n-1))/\Below w.heap.size w w':=by
 let⟨iM,hI,gj,eO,gM⟩:=eJ;have YJ:(k:Int)<=cap:=aa;have uE:(0:Int)<=(k:Int)+1:=aa;have Fx:(k:Int)+1<=n:=aa;have mY:(k:Int)+1<=cap:=aa;have Ce:IntKind.i64.wrap ((k:Int)+1)=(k:Int)+1:=hZ;have bA:Below w w (w.alloc<|.cells #[] 31).drew:=((acW _ w).alloc (ac5 _) _).drew;have o1:(w.alloc<|.cells #[] 31).drew.ownsRow w.heap.size 31 6 (.slice w.heap.size 0 0) 0 []:=th<|ac5 _;have hC:∀W,Below w w W->∀ad,(if cap=k+1 then some (b:Addr)else some ⟨b,(k+1)*6,none⟩)=some ad->∀j u,(aV (λj=>f<|k+1+j)<|n-(k+1))[j]?=some u->W.cell? (ad.add j)=some u:=λW hW ad had=>by
  split at had
  .have:n-(k+1)=0:=by omega
   rw[this];intro j u h;simp[aV]at h
  .cases had;exact dW<|(nq aq aa).below hW bH
 go_enter Tz.func45,Tryz.ntmps45
 go_wp2;go_region_law (first
  |(refine bw rfl (.tmp 5) (.tmp 8) 23 rfl 31 iM _ 6 56 aP hI gj eO gM rfl bF w.heap.size (.slice (some ⟨w.heap.size,0,none⟩) 0 0) 0 [] cj o1 nK (some ⟨b,0,none⟩) k cap (aV f k) cj (bp f k) nK (λad had=>by cases had;exact dW<|(qr aq aa).below bA bH) (eM f k) jl aa bA.size ?_;intro v2 w2 qF mZ jW;simp only[Nat.zero_add,List.nil_append]at qF;have B2:Below w.heap.size w w2:=bA.grown jW bA.size λq hq=>F2;clear jW)
  |(refine bw rfl (.tmp 9) (.tmp 13) 23 rfl 31 iM _ 6 56 aP hI gj eO gM rfl bF w.heap.size v2 k (aV f k) cj qF mZ (if cap=k+1 then some (⟨b,0,none⟩:Addr)else some ⟨b,(k+1)*6,none⟩) (n-(k+1)) (cap-(k+1)) (aV (λj=>f<|k+1+j)<|n-(k+1)) cj (bp _ _) (by split<;>(intro h;cases h)) (hC _ B2) (eM _ _) jl aa B2.size ?_;intro v3 w3 ho3 vJ YA;rw[EM f k n hk,show k+(n-(k+1))=n-1 by omega]at ho3;have B3:Below w.heap.size w w3:=B2.grown YA B2.size λq hq=>(qF.lt q hq).1;obtain⟨b3,c3,rfl⟩:=lu ho3 vJ;clear YA B2 qF))
 go_wp2;all_goals
  go_ret;exact⟨⟨b3,c3,rfl,ho3⟩,B3⟩
end
def bf.keep (h:bf w b m)(e:w'.heap[b]?=w.heap[b]?):bf w' b m:=e.trans h
structure Tf (B:Nat)(m:Mv)(W:World):Prop where
 c0:W.cell? B=some (.string m.name)
 c1:W.cell? ⟨B,1,none⟩=some (.bool m.aj)
 c2:W.cell? ⟨B,2,none⟩=some (.int .i64 m.ap)
 c3:W.cell? ⟨B,3,none⟩=some (.int .i64 m.aW)
 c4:W.cell? ⟨B,4,none⟩=some (.int .i64 m.late)
 c5:W.cell? ⟨B,5,none⟩=some (.int .i64 m.prom)
def dN (h:bf W B m):Tf B m W:=by
 let⟨c0,c1,c2,c3,c4,c5⟩:=h.at_;exact⟨c0,c1,c2,c3,c4,c5⟩
structure Pu (w:World)(m:Mv)(v:Value)(n:Nat)(xs:List Value)(o:Option Nat)(W:World):Prop where
 below:Below w w W
 own:W.ownsRow w.heap.size 31 6 v n xs
 one:∀Y,o=some Y->W.heap[Y]?=some (.cells m.cells 31 (0,0))
section
variable {o:Option Nat}
def Pu.at_ (h:Pu w m v n xs o W)(hm:bf w B m)(hB:B<w):Tf B m W:=dN<|hm.keep<|h.below.block B hB
def Pu.ZI (h:Pu w m v n xs o W):Pu w m (.slice W.heap.size 0 0) 0 [] o (W.alloc<|.cells #[] 31):=
 ⟨h.below.alloc h.below.size _,th h.below.size,λY hY=>(acX _ _ _ (ac7.1<|h.one Y hY).1).trans<|h.one Y hY⟩
def Pu.U8 (h:Pu w m v n xs o W):Pu w m v n xs (some W.heap.size) (W.alloc<|.cells #[m.name,m.aj,m.ap,m.aW,m.late,m.prom] 31):=
 ⟨h.below.alloc h.below.size _,az h.own λB hB=>acX _ _ _ (h.own.lt B hB).2,λY hY=>by cases hY;exact heap_alloc_new W _⟩
def Pu.app (h:Pu w m v n xs o W)(ho:W'.ownsRow w.heap.size 31 6 v' n' x')(g:W.grownBy W' v.ownBlock)(hs:∀Y,o=some Y->v.ownBlock≠some Y):Pu w m v' n' x' o W':=
 ⟨h.below.grown g h.below.size λq hq=>(h.own.lt q hq).1,ho,λY hY=>(g.block Y (ac7.1<|h.one Y hY).1 λe=>hs Y hY e.symm).trans<|h.one Y hY⟩
def Pu.Ts (h:Pu w m v n xs o W)(ho:W'.ownsRow w.heap.size 31 6 v' n' x')(g:W.grownBy W' v.ownBlock):Pu w m v' n' x' none W':=
 ⟨h.below.grown g h.below.size λq hq=>(h.own.lt q hq).1,ho,λY hY=>by cases hY⟩
end
def Py (f:Nat->Mv)(n:Nat)(m:Mv)(w:World)(e:Ending)(w':World):Prop:=∃B c k,e=.returned (.slice (some ⟨B,0,none⟩) (n+1) c)/\k<=n/\(∀j,j<k->bU (f j).name m.name=true)/\(k<n->bU (f k).name m.name=false)/\w'.ownsRow w.heap.size 31 6 (.slice (some ⟨B,0,none⟩) (n+1) c) (n+1) (aV (dR f k m)<|n+1)
def Ko (b n cap:Nat)(f:Nat->Mv)(m:Mv)(w:World)(hn:n<=6)(vy:n<=cap)(bH:b<w)(aq:aI w b 0 n f):
  Calls Tz.prog 43 #[.slice b n cap,.agg #[m.name,m.aj,m.ap,m.aW,m.late,m.prom]] w λe w'=>Py f n m w e w'/\Below w w w':=by
 let⟨iM,hI,gj,eO,gM⟩:=eJ;have bA:Below w w (w.alloc<|.cells #[m.name,m.aj,m.ap,m.aW,m.late,m.prom] 31):=(acW _ w).alloc (ac5 _) _;have mA:bf (w.alloc<|.cells #[m.name,m.aj,m.ap,m.aW,m.late,m.prom] 31) w.heap.size m:=heap_alloc_new _ _;go_enter Tz.func43,Tryz.ntmps43
 go_wp2;go_loopw [5] (λx W=>∃k:Nat,x=.int .i64 k/\k<=n/\Below w w W/\bf W w.heap.size m/\∀j,j<k->bU (f j).name m.name=true) (λx _=>n-(intOf x).toNat)
 case atStart=>exact⟨0,rfl,ada _,bA,mA,λj hj=>absurd hj<|ac9 _⟩
 case round=>
  clear bA mA;obtain⟨k,rfl,hk,hB,hm,lR⟩:=hrel;have lb:=ac6 bH hB.size;have lm:w.heap.size<wr:=(ac7.1 hm).1;have hne:=aG wr;have x1:=λx:ai wr=>x.cell (dN hm).c0
  by_cases hgo:k<n/\bU (f k).name m.name=true
  .let⟨aB,hL⟩:=hgo;have dr:(k:Int)<n:=aa;have hL':Op.bytesLess (f k).name.toList m.name.toList=true:=hL;have c0:=(aq.below hB bH k aB).c0;simp only[Nat.zero_add]at c0;have x0:=λx:ai wr=>x.cell c0
   go_wp2;refine kI ?_;intro w2 cP;go_wp2;all_goals try omega
   go_roundw
   case rel=>exact⟨k+1,by go_num,aa,hB.trans<|cP.mono hB.size,hm.keep<|cP.block _ lm,λj hj=>by
    by_cases e:j=k
    .subst e;exact hL
    .exact lR j aa⟩
   case measure=>exact cI
  have dz:k<n->bU (f k).name m.name=false:=λh=>by
   cases hL:bU (f k).name m.name with
   |false=>rfl
   |true=>exact absurd ⟨h,hL⟩ hgo
  by_cases aB:k<n;focus
   have dr:(k:Int)<n:=aa;have hL':Op.bytesLess (f k).name.toList m.name.toList=false:=dz aB;have c0:=(aq.below hB bH k aB).c0;simp only[Nat.zero_add]at c0;have x0:=λx:ai wr=>x.cell c0
   go_wp2;refine kI ?_;intro w2 cP;go_wp2;all_goals try omega
  rotate_left;focus
   have dr:¬(k:Int)<n:=aa;have hz:decide (k<n)=false:=by simpa using aB
   go_wp2;refine kI ?_;intro w2 cP;go_wp2;all_goals try omega
  all_goals
   have rl:Below w w w2.drew:=(hB.trans<|cP.mono hB.size).drew;have pd:bf w2.drew w.heap.size m:=hm.keep<|cP.block _ lm;have KH:aI w2.drew b 0 n f:=aq.below rl bH;have Pb:b<w2.drew:=ac6 bH rl.size;have rA:w.heap.size<w2.drew:=(ac7.1 pd).1;refine wp_region_held_drew (S:=Tf w.heap.size m) bD (dN pd) λhHeld=>?_;revert hHeld rl pd KH Pb rA;generalize w2.drew=w3;intro rl pd KH Pb rA hHeld;have YJ:(k:Int)<=cap:=aa;have uE:(0:Int)<=k:=aa;have tD:(k:Int)<=n:=aa;have hCl:∀W,Below w3 w3 W->∀ad,(if cap=k then some (b:Addr)else some ⟨b,k*6,none⟩)=some ad->∀j u,(aV (λj=>f<|k+j)<|n-k)[j]?=some u->W.cell? (ad.add j)=some u:=λW hW ad had=>by
    split at had
    .have:n-k=0:=by omega
     rw[this];intro j u h;simp[aV]at h
    .cases had;exact dW<|(nq KH hk).below hW Pb
   have hC:Pu w3 m () 0 [] none w3:=⟨acW _ _,⟨rfl,.inl ⟨rfl,rfl⟩⟩,λY hY=>by cases hY⟩;refine aO 1 (.slice b n cap) 23 rfl A7 hHeld ?_;refine aO 2 (.int .i64 (k:Int)) 24 rfl A7 hHeld ?_;refine aO 3 (.slice b k cap) 25 rfl A7 hHeld ?_;refine aO 5 (.agg #[m.name,m.aj,m.ap,m.aW,m.late,m.prom]) 27 rfl A7 hHeld ?_;refine aO 8 (.slice b n cap) 30 rfl A7 hHeld ?_;refine aO 9 (.int .i64 (k:Int)) 31 rfl A7 hHeld ?_;refine aO 10 (.slice (if cap=k then some ⟨b,0,none⟩else some ⟨b,k*6,none⟩) (n-k)<|cap-k) 32 rfl A7 hHeld ?_;refine NW 0 6 rfl rfl (λK hK=>?_) λK hK=>?_;focus
    go_simp
    have hC:=hC.ZI;try simp only[World.size_alloc,World.size_drew]at hC
    refine hK.out _ _ (hC.at_ pd rA) λhHeld=>?_;clear hK K;refine NW 4 6 rfl rfl (λK hK=>?_) λK hK=>?_;focus
     refine bw rfl (.tmp 22) (.tmp 25) 23 rfl 31 iM _ 6 56 aP hI gj eO gM rfl bF w3.heap.size _ 0 [] cj hC.own nK b k cap (aV f k) cj (bp f k) nK (λad had=>by cases had;exact dW<|(qr KH hk).below hC.below Pb) (eM f k) jl aa hC.below.size ?_;intro v4 w4 MX DW Si;simp only[Nat.zero_add,List.nil_append]at MX;have hC:=hC.app MX Si (by intro Y hY;cases hY);clear MX Si;refine hK.out _ _ (hC.at_ pd rA) λhHeld=>?_;clear hK K;refine iX 6 rfl λK hK=>?_;go_simp
     have hC:=hC.U8;try simp only[World.size_alloc,World.size_drew]at hC
     refine hK.out _ _ (hC.at_ pd rA) λhHeld=>?_;clear hK K;refine iX 7 rfl λK hK=>?_;refine bw rfl (.tmp 26) (.tmp 28) 23 rfl 31 iM _ 6 56 aP hI gj eO gM rfl bF w3.heap.size v4 k (aV f k) cj hC.own DW _ 1 1 m.cells.toList cj rfl nK (λad had=>by cases had;exact tY<|hC.one _ rfl) (fY m) jl aa hC.below.size ?_;intro v5 w5 IL tE O4;have hC:=hC.Ts IL O4;clear IL O4;refine hK.out _ _ (hC.at_ pd rA) λhHeld=>?_;clear hK K
    rotate_left;focus
     go_simp
     have hC:=hC.U8;try simp only[World.size_alloc,World.size_drew]at hC
     refine hK.out _ _ (hC.at_ pd rA) λhHeld=>?_;clear hK K;refine iX 4 rfl λK hK=>?_;refine bw rfl (.tmp 22) (.tmp 25) 23 rfl 31 iM _ 6 56 aP hI gj eO gM rfl bF w3.heap.size _ 0 [] cj hC.own nK b k cap (aV f k) cj (bp f k) nK (λad had=>by cases had;exact dW<|(qr KH hk).below hC.below Pb) (eM f k) jl aa hC.below.size ?_;intro v4 w4 MX DW Si;simp only[Nat.zero_add,List.nil_append]at MX;have hC:=hC.app MX Si (by intro Y hY;cases hY;simp[Value.ownBlock]);clear MX Si;refine hK.out _ _ (hC.at_ pd rA) λhHeld=>?_;clear hK K;refine iX 7 rfl λK hK=>?_;refine bw rfl (.tmp 26) (.tmp 28) 23 rfl 31 iM _ 6 56 aP hI gj eO gM rfl bF w3.heap.size v4 k (aV f k) cj hC.own DW _ 1 1 m.cells.toList cj rfl nK (λad had=>by cases had;exact tY<|hC.one _ rfl) (fY m) jl aa hC.below.size ?_;intro v5 w5 IL tE O4;have hC:=hC.Ts IL O4;clear IL O4;refine hK.out _ _ (hC.at_ pd rA) λhHeld=>?_;clear hK K
   rotate_left 2;focus
    go_simp
    have hC:=hC.U8;try simp only[World.size_alloc,World.size_drew]at hC
    refine hK.out _ _ (hC.at_ pd rA) λhHeld=>?_;clear hK K;refine iX 0 rfl λK hK=>?_;go_simp
    have hC:=hC.ZI;try simp only[World.size_alloc,World.size_drew]at hC
    refine hK.out _ _ (hC.at_ pd rA) λhHeld=>?_;clear hK K;refine iX 4 rfl λK hK=>?_;refine bw rfl (.tmp 22) (.tmp 25) 23 rfl 31 iM _ 6 56 aP hI gj eO gM rfl bF w3.heap.size _ 0 [] cj hC.own nK b k cap (aV f k) cj (bp f k) nK (λad had=>by cases had;exact dW<|(qr KH hk).below hC.below Pb) (eM f k) jl aa hC.below.size ?_;intro v4 w4 MX DW Si;simp only[Nat.zero_add,List.nil_append]at MX;have hC:=hC.app MX Si (by intro Y hY;cases hY;simp[Value.ownBlock]);clear MX Si;refine hK.out _ _ (hC.at_ pd rA) λhHeld=>?_;clear hK K;refine iX 7 rfl λK hK=>?_;refine bw rfl (.tmp 26) (.tmp 28) 23 rfl 31 iM _ 6 56 aP hI gj eO gM rfl bF w3.heap.size v4 k (aV f k) cj hC.own DW _ 1 1 m.cells.toList cj rfl nK (λad had=>by cases had;exact tY<|hC.one _ rfl) (fY m) jl aa hC.below.size ?_;intro v5 w5 IL tE O4;have hC:=hC.Ts IL O4;clear IL O4;refine hK.out _ _ (hC.at_ pd rA) λhHeld=>?_;clear hK K
   all_goals
    refine iX 11 rfl λK hK=>?_;refine bw rfl (.tmp 29) (.tmp 32) 23 rfl 31 iM _ 6 56 aP hI gj eO gM rfl bF w3.heap.size v5 (k+1) (aV f k++m.cells.toList) cj hC.own tE (if cap=k then some ⟨b,0,none⟩else some ⟨b,k*6,none⟩) (n-k) (cap-k) (aV (λj=>f<|k+j)<|n-k) cj (bp _ _) (by split<;>(intro h;cases h)) (hCl _ hC.below) (eM _ _) jl aa hC.below.size ?_;intro v6 w6 UP DX Y_;rw[yp f k n m hk,show k+1+(n-k)=n+1 by omega]at UP;have B6:Below w3 w3 w6:=hC.below.grown Y_ hC.below.size λq hq=>(hC.own.lt q hq).1;obtain⟨b6,c6,rfl⟩:=lu UP DX;refine hK.out _ _ (dN<|bf.keep pd<|B6.block _ rA) λhHeld=>?_;clear hK K;refine iX 12 rfl λK hK=>?_;go_simp
    refine hK.out _ _ (dN<|bf.keep pd<|B6.block _ rA) λhHeld=>?_;clear hK K;refine wpAnyH_done bD ?_ _;clear hHeld;go_wp2;all_goals go_ret
    all_goals exact⟨⟨b6,c6,k,rfl,hk,lR,dz,bY UP rl.size⟩,rl.trans<|B6.mono rl.size⟩
def CB (h:m.ok=true):Good m:=by
 have b:=Mv.fX h;exact⟨I2 h,b.2.2.2.2,aa,aa⟩
structure nB (w:World)(lo:Nat)(now shift:Int)(ao:Option Addr)(n c:Nat)(f:Nat->Mv)(bo:Option Addr)(d:Nat)(t:Nat->Int):Prop where
 now:0<=now/\now<=10000
 sh:0<=shift/\shift<=6
 vD:n<=6
 ok:∀i,i<n->(f i).ok=true
 mem:(ao=none/\bo=none/\n=0/\c=0/\d=0)\/∃b b',ao=some ⟨b,0,none⟩/\bo=some ⟨b',0,none⟩/\w.ownsRow lo 31 6 (.slice (some ⟨b,0,none⟩) n c) n (aV f n)/\n<=d/\lI w lo b' n t
section
variable {lo:Nat}
def nB.OC (h:nB w lo now shift ao n c f bo d t):gw w ao n c f:=by
 rcases h.mem with⟨rfl,rfl,rfl,rfl,rfl⟩|⟨b,b',rfl,rfl,o1,hd,o2⟩
 .exact⟨λ_=>⟨rfl,rfl⟩,λad had=>by cases had⟩
 .exact⟨(λh=>nomatch h),λad had=>by cases had;exact⟨b,rfl,(eN o1).2.1,dK o1⟩⟩
def nB.VK (h:nB w lo now shift ao n c f bo d t):ja w bo n d t:=by
 rcases h.mem with⟨rfl,rfl,rfl,rfl,rfl⟩|⟨b,b',rfl,rfl,o1,hd,o2⟩
 .exact⟨λ_=>⟨rfl,rfl⟩,λad had=>by cases had⟩
 .exact⟨(λh=>nomatch h),λad had=>by cases had;exact⟨b',rfl,o2.lt,o2.2.2⟩⟩
def nB.same (h:nB w lo now shift ao n c f bo d t)(e:∀b,lo<=b->b<w.heap.size->w'.heap[b]?=w.heap[b]?):nB w' lo now shift ao n c f bo d t:=by
 refine⟨h.now,h.sh,h.vD,h.ok,?_⟩;rcases h.mem with hm|⟨b,b',h1,h2,o1,hd,o2⟩
 .exact .inl hm
 .exact .inr ⟨b,b',h1,h2,az o1 λB hB=>e B (o1.lt B hB).1 (o1.lt B hB).2,hd,o2.same<|e b' o2.1 o2.lt⟩
def nB.below (h:nB w lo now shift ao n c f bo d t)(hb:Below w w w'):nB w' lo now shift ao n c f bo d t:=h.same λb _ hl=>hb.block b hl
def nB.mono (h:nB w lo now shift ao n c f bo d t){Cw:Nat}(hl:Cw<=lo):nB w Cw now shift ao n c f bo d t:=by
 refine⟨h.now,h.sh,h.vD,h.ok,?_⟩;rcases h.mem with hm|⟨b,b',h1,h2,o1,hd,o2⟩
 .exact .inl hm
 .exact .inr ⟨b,b',h1,h2,bY o1 hl,hd,ac8 hl o2.1,o2.2⟩
def Ag (h0:0<=now/\now<=10000)(h1:0<=shift/\shift<=6):aX now shift f 0 t 0=true:=
 tL (ff.mpr h0) (ff.mpr h1) ((jp<|by simp[aE]).mpr<|wh f t) (by simp[mc])
end
def Ev (w:World)(e:Ending)(w':World):Prop:=∃(now shift:Int) (ao:Option Addr) (n c:Nat) (f:Nat->Mv) (bo:Option Addr) (d:Nat) (t:Nat->Int) (k:Int),e=.returned (.tuple #[.agg #[now,shift,.slice ao n c,.slice bo n d],k])/\nB w' w.heap.size now shift ao n c f bo d t
def abo (w:World)(lo:Nat):nB w lo 0 0 none 0 0 (λ_=>sw) none 0 (λ_=>0):=⟨aa,aa,aa,λi hi=>absurd hi<|ac9 _,.inl ⟨rfl,rfl,rfl,rfl,rfl⟩⟩
section
section
variable {R X Bx cx Bi ci:Nat}
end
def EvT (w:World)(e:Ending)(w':World):Prop:=∃(now shift:Int) (ao:Option Addr) (n c:Nat) (f:Nat->Mv) (bo:Option Addr) (d:Nat) (t:Nat->Int) (sa:Option Addr) (sn sc:Nat) (k:Int),e=.returned (.tuple #[.agg #[now,shift,.slice ao n c,.slice bo n d],.slice sa sn sc,k])/\nB w' w.heap.size now shift ao n c f bo d t
def Nn:∃i,Tz.prog.info? 9=some i/\i.zero=some (.string ByteArray.empty)/\i.size=1/\i.bytes=16:=by
 have h:(Tz.prog.info? 9).map (λi=>(i.zero,i.size,i.bytes))=some (some<|.string ByteArray.empty,1,16):=bD;cases hI:Tz.prog.info? 9 with
 |none=>rw[hI]at h;simp at h
 |some i=>rw[hI]at h;simp only[Option.map_some,Option.some.injEq,Prod.mk.injEq]at h;exact⟨i,rfl,h.1,h.2.1,h.2.2⟩
def GJ:Tz.prog.underlying 24=some (.slice 9):=bD
def yr {base:Nat}{e:TypeId}{size:Nat}(h:W.ownsRow base e size v n xs):∃a c,v=.slice a n c/\(a=none->n=0/\c=0)/\∀ad,a=some ad->∃b,ad=⟨b,0,none⟩/\b<W.heap.size:=by
 obtain⟨h1,⟨rfl,rfl⟩|⟨g,c,cur,rfl,h3,h4,h5⟩⟩:=h
 .exact⟨none,0,rfl,λ_=>⟨rfl,rfl⟩,λad had=>by cases had⟩
 .exact⟨_,c,rfl,(λh=>nomatch h),λad had=>by cases had;exact⟨g,rfl,(ac7.1 h4).1⟩⟩
def FH (I:List Int):List Value:=I.map λx=>.int .i64 x
def RB (hm:aE f n=true)(hf:fk f t n)(hk:k<n):({f k with prom:=t k}:Mv).ok=true:=by
 have b:=Mv.fX<|bg hm k hk;have s:=iR<|hf.1 k hk;refine Mv.I3 (bg hm k hk) rfl rfl b.1 b.2.1 b.2.2.1 (.inr ⟨?_,?_⟩)<;>simp only<;>omega
structure Tc (w:World)(now shift:Int)(ao:Option Addr)(n c:Nat)(bo:Option Addr)(d NX:Nat)(v u:Value)(L:List Mv)(I:List Int)(s:Value)(js:Nat)(xs:List Value)(W:World):Prop where
 below:Below w w W
 bk:aH W w.heap.size now shift (.slice ao n c) (.slice bo n d)
 rs:aH W (w.heap.size+1) 0 0 () ()
 nx:aH W NX (now+1) shift v u
 hN:w.heap.size+2<NX
 om:W.ownsRow (NX+1) 31 6 v L.length (aV (jz L) L.length)
 oi:W.ownsRow (NX+1) 3 1 u I.length (FH I)
 os:W.ownsRow (w.heap.size+2) 9 1 s js xs
section
variable {NX:Nat}{u:Value}{L:List Mv}{I:List Int}{s:Value}{js:Nat}
def Tc.grow (h:Tc w now shift ao n c bo d NX v u L I s js xs W)(b:Below W W W'):Tc w now shift ao n c bo d NX v u L I s js xs W':=
 ⟨h.below.trans<|b.mono h.below.size,h.bk.same<|b.block _ h.bk.lt,h.rs.same<|b.block _ h.rs.lt,h.nx.same<|b.block _ h.nx.lt,h.hN,az h.om λB hB=>b.block B (h.om.lt B hB).2,az h.oi λB hB=>b.block B (h.oi.lt B hB).2,az h.os λB hB=>b.block B (h.os.lt B hB).2⟩
def Tc.names (h:Tc w now shift ao n c bo d NX v u L I s js xs W){s':Value}{js':Nat}{xs':List Value}(o:W'.ownsRow (w.heap.size+2) 9 1 s' js' xs')(g:W.grownBy W' s.ownBlock):Tc w now shift ao n c bo d NX v u L I s' js' xs' W':=by
 have hN:=h.hN;have h1:=h.bk.lt;have h2:=h.rs.lt;exact⟨h.below.grown g h.below.size (λq hq=>by have:=(h.os.lt q hq).1;omega),h.bk.same<|g.block _ h1 (λe=>by have:=(h.os.lt _ e.symm).1;omega),h.rs.same<|g.block _ h2 (λe=>by have:=(h.os.lt _ e.symm).1;omega),h.nx.same<|g.block _ h.nx.lt λe=>fM h.os h.nx bF e.symm rfl,h.hN,az h.om λB hB=>g.block B (h.om.lt B hB).2 λe=>io h.om h.os bF hB e.symm,az h.oi λB hB=>g.block B (h.oi.lt B hB).2 λe=>io h.oi h.os bF hB e.symm,o⟩
def Tc.moves (h:Tc w now shift ao n c bo d NX v u L I s js xs W)(o:W'.ownsRow (NX+1) 31 6 v' (L.length+1) (aV (jz L) L.length++m.cells.toList))(g:W.grownBy W' v.ownBlock):aH W' NX (now+1) shift v u/\Tc w now shift ao n c bo d NX v' u (L++[m]) I s js xs (W'.setCell ⟨NX,2,none⟩ v'):=by
 have hN:=h.hN;have hn:aH W' NX (now+1) shift v u:=h.nx.same<|g.block _ h.nx.lt λe=>fM h.om h.nx bF e.symm rfl;have b1:Below w w W':=h.below.grown g h.below.size (λq hq=>by have:=(h.om.lt q hq).1;omega);obtain⟨X,rfl,y,hb,z,e⟩:=Hc hn b1 aa v';have oi':=az h.oi (w':=W') λB hB=>g.block B (h.oi.lt B hB).2 λe=>io h.oi h.om bF hB e.symm;have Vn:=az h.os (w':=W') λB hB=>g.block B (h.os.lt B hB).2 λe=>io h.os h.om bF hB e.symm;refine⟨hn,hb,h.bk.same<|(e _ aa).trans<|g.block _ h.bk.lt (λe=>by have:=(h.om.lt _ e.symm).1;omega),h.rs.same<|(e _ aa).trans<|g.block _ h.rs.lt (λe=>by have:=(h.om.lt _ e.symm).1;omega),y,h.hN,?_,az oi' λB hB=>e B<|fM oi' hn bF hB,az Vn λB hB=>e B<|fM Vn hn bF hB⟩;rw[List.length_append,List.length_singleton,EJ];exact az o λB hB=>e B<|fM o hn bF hB
def Tc.i_ (h:Tc w now shift ao n c bo d NX v u L I s js xs W){u':Value}{x:Int}(o:W'.ownsRow (NX+1) 3 1 u' (I.length+1) (FH I++[.int .i64 x]))(g:W.grownBy W' u.ownBlock):aH W' NX (now+1) shift v u/\Tc w now shift ao n c bo d NX v u' L (I++[x]) s js xs (W'.setCell ⟨NX,3,none⟩ u'):=by
 have hN:=h.hN;have hn:aH W' NX (now+1) shift v u:=h.nx.same<|g.block _ h.nx.lt λe=>fM h.oi h.nx bF e.symm rfl;have b1:Below w w W':=h.below.grown g h.below.size (λq hq=>by have:=(h.oi.lt q hq).1;omega);obtain⟨X,rfl,y,hb,z,e⟩:=vV hn b1 aa u';have om':=az h.om (w':=W') λB hB=>g.block B (h.om.lt B hB).2 λe=>io h.om h.oi bF hB e.symm;have Vn:=az h.os (w':=W') λB hB=>g.block B (h.os.lt B hB).2 λe=>io h.os h.oi bF hB e.symm;refine⟨hn,hb,h.bk.same<|(e _ aa).trans<|g.block _ h.bk.lt (λe=>by have:=(h.oi.lt _ e.symm).1;omega),h.rs.same<|(e _ aa).trans<|g.block _ h.rs.lt (λe=>by have:=(h.oi.lt _ e.symm).1;omega),y,h.hN,az om' λB hB=>e B<|fM om' hn bF hB,?_,az Vn λB hB=>e B<|fM Vn hn bF hB⟩;rw[List.length_append,List.length_singleton,show FH (I++[x])=FH I++[.int .i64 x] by simp[FH]];exact az o λB hB=>e B<|fM o hn bF hB
end
def nJ (w:World)(m:Mv):∃W,w.alloc (.cells #[m.name,m.aj,m.ap,m.aW,m.late,m.prom] 31)=W/\bf W w.heap.size m/\Below w w W/\W.heap.size=w.heap.size+1:=
 ⟨_,rfl,heap_alloc_new w _,(acW _ w).alloc (ac5 _) _,aF⟩
