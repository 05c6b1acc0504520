import Derived.Test.YtlmcblcijndipaaGreatDoora39
import Derived.Test.YtlmcblcijndipaaGreatDoora42
set_option linter.defProp false
set_option linter.unusedVariables false
set_option linter.unusedSimpArgs false
set_option linter.unusedSectionVars false
set_option maxHeartbeats 4000000
set_option maxRecDepth 100000
namespace Go.Proofs.YtlmcblcijndipaaGreatDoor
variable {ok:Ctx}{c r0:Frame}{now shift:Int}{cs:List Frame}{q:Mv}{B cp dp m n p:Nat}{t:Nat->Int}{f:Nat->Mv}{ao bo:Option Addr}{Q:Value->World->Prop}{V w:World}
open Conc RowKit
section
variable [g:Gl]{qD:Frame}
def Fk (E:ee Tz.prog ok qD cX)(Qj:ok.bh 279=true)(hIn:ok.bh 282=true)(ze:g.ov=283)(ig:ok.bh r0.fn=true)
  {b cap:Nat}(hn:n<=6)(bH:b<V)(aq:aI V b 0 n f)
  (aT:∀BN cN V',V'.ownsRow V.heap.size 31 6 (.slice (some ⟨BN,0,none⟩) (n+1) cN) (n+1) (aV (dR f (vC f n q) q)<|n+1)->Bl V V V'->ak Tz.prog ok qD cX Q ⟨r0.finish<|.slice (some ⟨BN,0,none⟩) (n+1) cN,cs,V'⟩):
  ak Tz.prog ok qD cX Q ⟨Frame.enter Tz.prog 279 #[.slice b n cap,.agg #[q.name,q.aj,q.ap,q.aW,q.late,q.prom]] .normal,r0::cs,V⟩:=by
 have hE:=enter_at (P:=Tz.prog) #[.slice b n cap,.agg #[q.name,q.aj,q.ap,q.aW,q.late,q.prom]] Tz.func279 rfl;simp only[Tryz.ntmps279,List.size_toArray,List.length_cons,List.length_nil,Nat.reduceAdd,Nat.reduceSub,Array.replicate_succ,Array.replicate_zero,List.push_toArray,List.append_toArray,List.nil_append,List.cons_append]at hE;rw[hE];clear hE;obtain⟨B3,JX⟩:∃x,x=V.heap.size:=⟨_,rfl⟩;refine ak.BE E Qj [_,_,_] _ (λa' w'=>∃k:Nat,k<=n/\(∀j,j<k->bU (f j).name q.name=true)/\(k<n->bU (f k).name q.name=false)/\Bl V V w'/\bf w' B3 q/\gZ a' (rW 28 [(0,.slice b n cap),(3,.pointer B3),(5,.int .i64 k)])) (λ_ _=>False) ?_ ?_ λ_ _ _ h=>h.elim
 .intro τ d;have Zd:aI (re V τ d) b 0 n f:=dL aq rfl;have aaK:b<(re V τ d).heap.size:=bH;have xb:∀W,Below (re V τ d).heap.size (re V τ d) W->Bl V V W:=λW h=>Bl.lZ h
  have mF:B3=(re V τ d).heap.size:=JX;clear aT aq bH JX;revert Zd aaK xb mF;generalize re V τ d=w;intro aq bH xb JX;have bA:Below w w (w.alloc<|.cells #[q.name,q.aj,q.ap,q.aW,q.late,q.prom] 31):=(acW _ w).alloc (ac5 _) _;have mA:bf (w.alloc<|.cells #[q.name,q.aj,q.ap,q.aW,q.late,q.prom] 31) w.heap.size q:=heap_alloc_new _ _;simp only[aD];go_wp2;go_loopw [5] (λx W=>∃k:Nat,x=.int .i64 k/\k<=n/\Below w w W/\bf W w.heap.size q/\∀j,j<k->bU (f j).name q.name=true) (λx _=>n-(intOf x).toNat)
  case atStart=>exact⟨0,rfl,ada _,bA,mA,λj hj=>absurd hj<|ac9 _⟩
  case round=>
   clear bA mA;obtain⟨k,rfl,hk,hB,hm,lR⟩:=hrel;have lb:=ac6 bH hB.size;have lm:w.heap.size<wr:=(ac7.1 hm).1;have hne:=aG wr;have x1:=λx:ai wr=>x.cell (dN hm).c0
   by_cases hgo:k<n/\bU (f k).name q.name=true
   .let⟨aB,hL⟩:=hgo;have dr:(k:Int)<n:=aa;have hL':Op.bytesLess (f k).name.toList q.name.toList=true:=hL;have c0:=(aq.below hB bH k aB).c0;simp only[Nat.zero_add]at c0;have x0:=λx:ai wr=>x.cell c0
    go_wp2;refine kI ?_;intro w2 cP;go_wp2;all_goals try omega
    go_roundw
    case rel=>exact⟨k+1,by go_num,aa,hB.trans<|cP.mono hB.size,hm.keep<|cP.block _ lm,λj hj=>by
     by_cases e:j=k
     .subst e;exact hL
     .exact lR j aa⟩
    case measure=>exact cI
   have dz:k<n->bU (f k).name q.name=false:=λh=>by
    cases hL:bU (f k).name q.name with
    |false=>rfl
    |true=>exact absurd ⟨h,hL⟩ hgo
   by_cases aB:k<n;focus
    have dr:(k:Int)<n:=aa;have hL':Op.bytesLess (f k).name.toList q.name.toList=false:=dz aB;have c0:=(aq.below hB bH k aB).c0;simp only[Nat.zero_add]at c0;have x0:=λx:ai wr=>x.cell c0
    go_wp2;refine kI ?_;intro w2 cP;go_wp2;all_goals try omega
   rotate_left;focus
    have dr:¬(k:Int)<n:=aa;have hz:decide (k<n)=false:=by simpa using aB
    go_wp2;refine kI ?_;intro w2 cP;go_wp2;all_goals try omega
   all_goals exact⟨k,hk,lR,dz,xb _<|hB.trans<|cP.mono hB.size,by rw[JX];exact hm.keep<|cP.block _ lm,by rw[JX];exact⟨rfl,rfl⟩⟩
 rintro a' w1 ⟨k,hk,lR,dz,bP,lU,fu⟩;obtain⟨u,rfl⟩:=fu.open;clear fu;have hKP:=vQ hk lR dz;have eO:=bP.size;have yj:aI w1 b 0 n f:=dL aq<|bP.block b bH;have lm1:B3<w1:=(ac7.1 lU).1;have UF:∀BN cN V',V'.ownsRow V.heap.size 31 6 (.slice (some ⟨BN,0,none⟩) (n+1) cN) (n+1) (aV (dR f k q)<|n+1)->Bl V V V'->ak Tz.prog ok qD cX Q ⟨r0.finish<|.slice (some ⟨BN,0,none⟩) (n+1) cN,cs,V'⟩:=by
  rw[<-hKP];exact aT
 clear aT lR dz hKP aq JX;refine ak.seq E Qj (ak.PU E Qj bD #[{dst:=some 22,op:=.move<|.tmp 0,type:=23,pos:= "l5_book.go:310",after:=#[],guard:=none},{dst:=some 23,op:=.call {callee:=.value<|.func 110,args:=#[.tmp 22],argTypes:=#[23]},type:=23,pos:= "l5_book.go:310",after:=#[{on:=0,ground:=.data}],guard:=none},{dst:=some 24,op:=.move<|.tmp 5,type:=3,pos:= "l5_book.go:310",after:=#[],guard:=none},{dst:=some 25,op:=.load 31<|.tmp 3,type:=31,pos:= "l5_book.go:310",after:=#[],guard:=none},{dst:=some 26,op:=.buildSlice 23 1 #[(0,.tmp 25)],type:=23,pos:= "l5_book.go:310",after:=#[{on:=3,ground:=.data}],guard:=none}] [5,6] (λi hi=>by
  have hi:i<5:=hi;match i,hi with
  |0,_=>rfl
  |1,_=>rfl
  |2,_=>rfl
  |3,_=>rfl
  |4,_=>rfl) aF bD (λa' w'=>∃BC cC BV,w'.ownsRow V.heap.size 31 6 (.slice (some ⟨BC,0,none⟩) n cC) n (aV f n)/\w'.heap[BV]?=some (.cells q.cells 31 (0,0))/\BV≠BC/\V.heap.size<=BC/\Bl V.heap.size V w'/\gZ a' (rW 28 [(23,.slice (some ⟨BC,0,none⟩) n cC),(24,.int .i64 k),(26,.slice (some ⟨BV,0,none⟩) 1 1)])) ?_ ?_)
 .intro τ d;have pd:bf (re w1 τ d) B3 q:=lU;have nD:aI (re w1 τ d) b 0 n f:=dL yj rfl;have lb:b<(re w1 τ d).heap.size:=ac6 bH eO;have lm:B3<(re w1 τ d).heap.size:=lm1;have oG:Bl V V (re w1 τ d):=⟨bP.size,bP.block⟩;clear UF lU yj bP bH lm1 eO;revert pd nD lb lm oG;generalize re w1 τ d=w;intro pd nD lb lm oG;refine wpAny_of_held (S:=Tf B3 q) _ _ _ _ ?_;have hHeld:Tf B3 q w:=dN pd;have HC:=λW (h:Below w w W)=>wH b n cap f W aa (ac6 lb h.size) (nD.below h lb)
  refine aO 0 (.slice b n cap) 22 rfl A7 hHeld ?_;refine aO 2 (.int .i64 (k:Int)) 24 rfl A7 hHeld ?_;refine aO 3 (.agg #[q.name,q.aj,q.ap,q.aW,q.late,q.prom]) 25 rfl A7 hHeld ?_;refine NW 1 4 rfl rfl (λK hK=>?_) λK hK=>?_
  .go_simp
   go_at_call 110
   refine(HC w<|acW _ _).mono ?_;clear HC;rintro e w2 ⟨BC,cC,rfl,ho,_,b2⟩;go_wp2_with fail
   refine hK.out _ _ (dN<|pd.keep<|b2.block _ lm) λhHeld=>?_;clear hK K;refine iX 4 rfl λK hK=>?_;go_simp
   have hz:=oG.size;have lC:=(ho.lt BC rfl);have bo:Below w2 w2 (w2.alloc<|.cells #[q.name,q.aj,q.ap,q.aW,q.late,q.prom] 31):=(acW _ _).alloc (ac5 _) _;refine hK.out _ _ (dN<|(pd.keep<|b2.block _ lm).keep<|bo.block _<|ac6 lm b2.size) λhHeld=>?_;refine wpAnyH_done bD ?_ _;exact⟨rfl,BC,cC,w2.heap.size,bY (eK ho<|bo.block BC lC.2) hz,heap_alloc_new _ _,aa,aa,oG.trans ⟨(b2.trans<|bo.mono b2.size).size,(b2.trans<|bo.mono b2.size).block⟩ hz,rfl,rfl⟩
  .go_simp
   have bo:Below w w (w.alloc<|.cells #[q.name,q.aj,q.ap,q.aW,q.late,q.prom] 31):=(acW _ _).alloc (ac5 _) _;refine hK.out _ _ (dN<|pd.keep<|bo.block _ lm) λhHeld=>?_;clear hK K;refine iX 1 rfl λK hK=>?_;go_simp
   go_at_call 110
   refine(HC _ bo).mono ?_;clear HC;rintro e w2 ⟨BC,cC,rfl,ho,_,b2⟩;go_wp2_with fail
   have hz:=oG.size;have lC:=(ho.lt BC rfl);have zo:(w.alloc<|.cells #[q.name,q.aj,q.ap,q.aW,q.late,q.prom] 31).heap.size=w.heap.size+1:=ac1 _ _;refine hK.out _ _ (dN<|(pd.keep<|bo.block _ lm).keep<|b2.block _ aa) λhHeld=>?_;refine wpAnyH_done bD ?_ _;exact⟨rfl,BC,cC,w.heap.size,bY ho aa,(b2.block _ aa).trans<|heap_alloc_new _ _,aa,aa,oG.trans ⟨(bo.trans<|b2.mono bo.size).size,(bo.trans<|b2.mono bo.size).block⟩ hz,rfl,rfl⟩
 rintro a' w2 ⟨BC,cC,BV,ho,hv,hne,hBC,cP,fu⟩;clear u;obtain⟨u,rfl⟩:=fu.open;clear fu;have gM:=cP.size;refine ak.Np E hIn ze Qj (i:=5) rfl rfl (B:=BC) (n:=n) (c:=cC) (p:=k) (N:=V.heap.size) (Bv:=BV) (f:=f) (m:=q) (λw=>C8) aa hk gM ho hne hv ?_;intro BN cN V3 o3 Nj h3;have iw:Bl V V V3:=⟨aa,λi hi=>(h3 i aa aa).trans<|cP.block i hi⟩;clear ho hv cP h3;refine ak.NM E Qj [6] [] (λa' w'=>(∃τ d,w'=re V3 τ d)/\gZ a' (rW 28 [(4,.slice BN (n+1) cN)])) ?_ ?_
 .intro τ d;clear UF;simp only[Act.put,wpOps_cons];refine wpOp_step rfl λK hK=>?_;go_simp
  exact hK _ _ ⟨rfl,⟨τ,d,rfl⟩,rfl,rfl⟩
 rintro a' w' ⟨⟨Lr,d3,rfl⟩,fu⟩;clear u;obtain⟨u,rfl⟩:=fu.open;refine ak.regionEnd E Qj<|ak.ret E Qj ?_;refine ak.leave E ig (v:=.slice BN (n+1) cN) (λτ d=>⟨rfl,rfl,rfl,_,Tz.func279,?_⟩)<|UF BN cN _ (eK o3 rfl) ⟨iw.size,iw.block⟩;show Sem.run Tz.prog (results Tryz.f279<|(rW 28 [(4,.slice BN (n+1) cN)]) u) _=_;simp[results,Tryz.f279,go_sem]
end
def Ai (w:World):Calls Tz.prog 110 #[()] w λe w'=>e=.returned ()/\Below w w w':=by
 have Qs:=Go.Lib.run_eql_slice_nil (P:=Tz.prog) w 23 31 none 0 0 0 0 aP;go_enter Tz.func110,Tryz.ntmps110
 go_wp2;go_ret;exact⟨rfl,acW _ _⟩
def FI (N Bv:Nat)(f:Nat->Mv)(m:Mv)(w:World)(hN:N<=w)(hv:w.heap[Bv]?=some (.cells m.cells 31 (0,0))):
  Calls Tz.prog 282 #[(),(0:Int),.slice Bv 1 1] w λe w'=>(∃B' c',e=.returned (.slice (some ⟨B',0,none⟩) 1 c')/\w'.ownsRow N 31 6 (.slice (some ⟨B',0,none⟩) 1 c') 1 (aV (dR f 0 m) 1))/\w.grownBy w' none:=by
 let⟨i0,hI,gj,eO,gM⟩:=eJ;have ho:w.ownsRow N 31 6 () 0 []:=⟨rfl,.inl ⟨rfl,rfl⟩⟩;have oU:=tY hv;clear hv;go_enter Tz.func282,Tryz.ntmps282
 go_wp2_with(at_builtin;refine wpList_append_own _ rfl (.tmp 23) (.tmp 24) 23 rfl N 31 i0 _ 6 56 aP hI gj eO gM rfl bF () 0 [] cj ho Bv 1 1 m.cells.toList cj rfl oU (fY m) jl aa hN ?_;intro v2 w2 qF jW mZ)
 all_goals
  have hne:v2≠():=λe=>by have:=mZ.1 e;simp at this
  obtain⟨B',c',rfl⟩:=lu qF hne;go_ret;have hE:=EK f 0 m;simp only[Nat.zero_add,List.nil_append]at qF;exact⟨⟨B',c',rfl,by rw[<-hE];simpa[aV]using qF⟩,jW⟩
def C4 (f:Nat->Mv)(q:Mv)(w:World):Calls Tz.prog 279 #[(),.agg #[q.name,q.aj,q.ap,q.aW,q.late,q.prom]] w λe w'=>(∃B' c',e=.returned (.slice (some ⟨B',0,none⟩) 1 c')/\w'.ownsRow w.heap.size 31 6 (.slice (some ⟨B',0,none⟩) 1 c') 1 (aV (dR f 0 q) 1))/\Below w w w':=by
 have bA:Below w w (w.alloc<|.cells #[q.name,q.aj,q.ap,q.aW,q.late,q.prom] 31):=(acW _ w).alloc (ac5 _) _;have mA:bf (w.alloc<|.cells #[q.name,q.aj,q.ap,q.aW,q.late,q.prom] 31) w.heap.size q:=heap_alloc_new _ _;go_enter Tz.func279,Tryz.ntmps279
 go_wp2;go_loopw [5] (λx W=>x=.int .i64 0/\Below w w W/\bf W w.heap.size q) (λ_ _=>0)
 case atStart=>exact⟨rfl,bA,mA⟩
 case round=>
  clear bA mA;obtain⟨rfl,hB,hm⟩:=hrel;have lm:w.heap.size<wr:=(ac7.1 hm).1;have hne:=aG wr;have x1:=λx:ai wr=>x.cell (dN hm).c0
  go_wp2;refine kI ?_;intro w2 cP;go_wp2;have hm2:=hm.keep<|cP.block _ lm;have lm2:w.heap.size<w2:=(ac7.1 hm2).1;have B2:=hB.trans<|cP.mono hB.size;have B2d:Below w w w2.drew:=B2.drew;have II:bf w2.drew w.heap.size q:=hm2;have ld:w.heap.size<w2.drew:=lm2;clear hm hB cP x1 hne lm hm2 lm2 B2;refine wp_region_held_drew (S:=Tf w.heap.size q) bD (dN II) λhHeld=>?_;revert B2d II ld hHeld;generalize w2.drew=w3;intro B3 hm3 l3 hHeld;refine aO 0 () 22 rfl A7 hHeld ?_;refine aO 2 (.int .i64 0) 24 rfl A7 hHeld ?_;refine aO 3 (.agg #[q.name,q.aj,q.ap,q.aW,q.late,q.prom]) 25 rfl A7 hHeld ?_;refine NW 1 4 rfl rfl (λK hK=>?_) λK hK=>?_;focus
   go_simp
   go_at_call 110
   refine(Ai _).mono ?_;rintro e w4 ⟨rfl,b4⟩;go_wp2_with fail
   have So:=hm3.keep<|b4.block _ l3;have B4:=B3.trans<|b4.mono B3.size;refine hK.out _ _ (dN So) λhHeld=>?_;clear hK K;refine iX 4 rfl λK hK=>?_;go_simp
   have bo:Below w4 w4 (w4.alloc<|.cells #[q.name,q.aj,q.ap,q.aW,q.late,q.prom] 31):=(acW _ _).alloc (ac5 _) _;have UN:=So.keep<|bo.block _<|ac6 l3 b4.size;have hv:(w4.alloc<|.cells #[q.name,q.aj,q.ap,q.aW,q.late,q.prom] 31).heap[w4.heap.size]?=some (.cells q.cells 31 (0,0)):=heap_alloc_new _ _;have B5:=B4.trans<|bo.mono B4.size;refine hK.out _ _ (dN UN) λhHeld=>?_;clear hK K;revert UN hv B5 hHeld;generalize w4.alloc (.cells #[q.name,q.aj,q.ap,q.aW,q.late,q.prom] 31)=W5;generalize w4.heap.size=BV;intro UN hv B5 hHeld;clear So B4 bo b4 hm3 l3 B3
  rotate_left;focus
   go_simp
   have bo:Below w3 w3 (w3.alloc<|.cells #[q.name,q.aj,q.ap,q.aW,q.late,q.prom] 31):=(acW _ _).alloc (ac5 _) _;have So:=hm3.keep<|bo.block _ l3;have hv4:(w3.alloc<|.cells #[q.name,q.aj,q.ap,q.aW,q.late,q.prom] 31).heap[w3.heap.size]?=some (.cells q.cells 31 (0,0)):=heap_alloc_new _ _;have lv:=(ac7.1 hv4).1;have B4:=B3.trans<|bo.mono B3.size;have l4:=(ac7.1 So).1;refine hK.out _ _ (dN So) λhHeld=>?_;clear hK K;refine iX 1 rfl λK hK=>?_;go_simp
   go_at_call 110
   refine(Ai _).mono ?_;rintro e W5 ⟨rfl,b5⟩;go_wp2_with fail
   have UN:=So.keep<|b5.block _ l4;have hv:=(b5.block _ lv).trans hv4;have B5:=B4.trans<|b5.mono B4.size;refine hK.out _ _ (dN UN) λhHeld=>?_;clear hK K;revert hv;generalize w3.heap.size=BV;intro hv;clear So B4 bo b5 hm3 l3 B3 hv4 lv l4
  all_goals
   have l5:=(ac7.1 UN).1;refine iX 5 rfl λK hK=>?_;go_simp
   go_at_call 282
   refine(FI w.heap.size BV f q W5 B5.size hv).mono ?_;rintro e w6 ⟨⟨B',c',rfl,ho⟩,hg⟩;go_wp2_with fail
   have hm6:=UN.keep<|hg.block _ l5 (λe=>nomatch e);have B6:=B5.grown hg B5.size (λq hq=>nomatch hq);refine hK.out _ _ (dN hm6) λhHeld=>?_;clear hK K;refine iX 6 rfl λK hK=>?_;go_simp
   refine hK.out _ _ (dN hm6) λhHeld=>?_;clear hK K;refine wpAnyH_done bD ?_ _;go_wp2;go_ret;exact⟨⟨B',c',rfl,ho⟩,B6⟩
section
variable [g:Gl]
def Ky:vC f 0 q=0:=vQ (ac5 _) (λj hj=>absurd hj<|ac9 _) λh=>absurd h<|Nat.lt_irrefl _
def OV (E:ee Tz.prog ok c cX)(Qj:ok.bh 279=true)(hIn:ok.bh 282=true)(ze:g.ov=283)(ig:ok.bh r0.fn=true)(hn:n<=6)(hv:gw V ao n cp f)
  (aT:∀BN cN V',V'.ownsRow V.heap.size 31 6 (.slice (some ⟨BN,0,none⟩) (n+1) cN) (n+1) (aV (dR f (vC f n q) q)<|n+1)->Bl V V V'->ak Tz.prog ok c cX Q ⟨r0.finish<|.slice (some ⟨BN,0,none⟩) (n+1) cN,cs,V'⟩):
  ak Tz.prog ok c cX Q ⟨Frame.enter Tz.prog 279 #[.slice ao n cp,.agg #[q.name,q.aj,q.ap,q.aW,q.late,q.prom]] .normal,r0::cs,V⟩:=by
 cases ao with
 |some ad=>
  obtain⟨b,rfl,hb,hr⟩:=hv.2 _ rfl;exact Fk E Qj hIn ze ig hn hb hr aT
 |none=>
  obtain⟨rfl,rfl⟩:=hv.1 rfl;rw[Ky]at aT;refine ak.calls E ig (R:=λv W=>∃B' c',v=.slice (some ⟨B',0,none⟩) 1 c'/\W.ownsRow V.heap.size 31 6 (.slice (some ⟨B',0,none⟩) 1 c') 1 (aV (dR f 0 q) 1)/\Bl V V W) (λτ d=>(C4 f q<|re V τ d).mono ?_) ?_
  .rintro e w' ⟨⟨B',c',rfl,h⟩,hb⟩;exact⟨_,rfl,B',c',rfl,h,Bl.lZ hb⟩
  .rintro v V' ⟨B',c',rfl,h,hb⟩;exact aT B' c' V' h hb
def vk (w:World)(B:Nat)(q:Mv):Prop:=w.heap[B]?=some (.cells q.cells 60 (0,0))
def vk.same {w':World}(h:vk w B q)(e:w'.heap[B]?=w.heap[B]?):vk w' B q:=e.trans h
def vk.cells (h:vk w B q):w.cell? B=some (.string q.name)/\w.cell? ⟨B,1,none⟩=some (.bool q.aj)/\w.cell? ⟨B,2,none⟩=some (.int .i64 q.ap)/\w.cell? ⟨B,3,none⟩=some (.int .i64 q.aW)/\w.cell? ⟨B,4,none⟩=some (.int .i64 q.late)/\w.cell? ⟨B,5,none⟩=some (.int .i64 q.prom):=by
 unfold vk at h;refine⟨?_,?_,?_,?_,?_,?_⟩<;>simp[World.cell?,h,Mv.cells]
def vk.lt (h:vk w B q):B<w:=(ac7.1 h).1
def Xo (now shift:Int)(f:Nat->Mv)(n:Nat)(q:Mv)(N:Nat)(y e:Value)(W:World):Prop:=match zY f n now shift q with
 |.no cd=>y=.agg #[(0:Int),(0:Int),(),()]/\e=.iface 131 (.agg #[.int .i64 cd])
 |.yes p T=>e=.nilIface/\∃BN c2 BT c3,y=.agg #[.int .i64 now,.int .i64 shift,.slice (some ⟨BN,0,none⟩) (n+1) c2,.slice (some ⟨BT,0,none⟩) (n+1) c3]/\N<=BN/\N<=BT/\C7 W BN (n+1) (dR f p q)/\aC W BT (n+1) T/\n+1<=c3
structure v_ (ok:Ctx):Prop where
 md:ok.bh 276=true
 wm:ok.bh 279=true
 ins:ok.bh 282=true
 pl:ok.bh 80=true
 sb:ok.bh 111=true
 bt:ok.bh 139=false
def Vd (h:aX now shift f n t m=true):0<=now/\now<=10000:=by
 unfold aX at h;simp only[Bool.and_eq_true]at h;exact ff.1 h.1.1.1
def OR (E:ee Tz.prog ok c cX)(hA:v_ ok)(ze:g.ov=283)(ig:ok.bh r0.fn=true)(hB:Bq V now shift ao n cp f bo m dp t)(mG:aX now shift f n t m=true)(hq:q.Fits)
  (aT:∀y e W',Bl V V W'->Xo now shift f n q V.heap.size y e W'->ak Tz.prog ok c cX Q ⟨r0.finish<|.tuple #[y,e],cs,W'⟩):
  ak Tz.prog ok c cX Q ⟨Frame.enter Tz.prog 276 #[.agg #[q.name,q.aj,q.ap,q.aW,q.late,q.prom],.agg #[now,shift,.slice ao n cp,.slice bo m dp]] .normal,r0::cs,V⟩:=by
 let⟨hm,Av,hf⟩:=cK mG;subst Av;replace aT:Hid _:=aT;have h6:=hB.n6;have jO:=hA.md;have pg:∀cd W,zY f m now shift q=.no cd->Xo now shift f m q V.heap.size (.agg #[(0:Int),(0:Int),(),()]) (.iface 131<|.agg #[.int .i64 cd]) W:=λcd W h=>by unfold Xo;rw[h];exact⟨rfl,rfl⟩
 replace pg:Hid _:=pg;refine ak.en Tz.func276 rfl Tryz.ntmps276 BA ?_;refine ak.ck E jO [_,_] _ λK R τ0 yW hK hR=>?_
 let⟨W1,e1,k1,b1⟩:=PJ (re V τ0 yW) #[q.name,q.aj,q.ap,q.aW,q.late,q.prom] 60;obtain⟨W2,e2,k2,b2,-⟩:=cr W1 now shift ao m cp bo m dp;obtain⟨W3,e3,k3,b3,-⟩:=cr W2 0 0 none 0 0 none 0 0;have bW:=Bl.lZ<|(b1.trans<|b2.mono b1.size).trans<|b3.mono<|ac8 b1.size b2.size;have l1:=(ac7.1 k1).1;have p1:vk W3 (re V τ0 yW).heap.size q:=(b3.block _<|ac6 l1 b2.size).trans<|(b2.block _ l1).trans k1;have p2:=k2.same<|b3.block _ k2.lt;have o2:V.heap.size<=W1:=b1.size;have o3:W1.heap.size<W2:=k2.lt;have HM:=xB q W3;let⟨s0,s1,s2,s3,s4,s5⟩:=p1.cells;have back:∀{w4 W8:World},Bl V V w4->W8.heap.size=w4.heap.size->(∀k,k≠W2.heap.size->W8.heap[k]?=w4.heap[k]?)->Bl V V W8:=λh h1 h2=>⟨by rw[h1];exact h.size,λk hk=>(h2 k aa).trans<|h.block k hk⟩
 replace back:Hid _:=@back;have hgo:q.ok=false\/(q.ok=true/\¬q.prom<0/\(q.prom==-1)=false)\/q.ok=true/\q.prom<0/\(q.prom==-1)=true:=by
  cases ez:q.ok with
  |false=>exact .inl rfl
  |true=>
   have Lh:=Mv.fX ez;by_cases hp:q.prom<0
   .exact .inr (.inr ⟨rfl,hp,cU⟩)
   .exact .inr (.inl ⟨rfl,hp,cU⟩)
 simp only[aD];rcases hgo with ez|⟨ez,hp,hd⟩|⟨ez,hp,hd⟩;all_goals rw[ez]at HM
 .replace ez:Hid _:=ez;go_wp2_with(go_at_call 106;refine HM.mono ?_;clear HM;rintro e w4 ⟨rfl,b4⟩;have j3:=k3.same<|b4.block _ k3.lt;let⟨z0,z1,z2,z3,z4⟩:=j3.cells;obtain⟨W8,e8,k8,-,z8,o8⟩:=bJ j3 (acW 0 _) (ada _) 0 0 none 0 0 none 0 0;replace z8:Hid _:=z8)
  exact hR.out _ _ λtodo=>ak.lv E ig Tz.func276 (λτ d=>dm rfl rfl rfl<|k8.r τ d)<|aT.out _ _ _ (back.out (bW.trans (Bl.of b4) bW.size) z8.out o8)<|pg.out 2 W8<|Il<|.inl ez.out
 .replace ez:Hid _:=ez;replace hp:Hid _:=hp;go_wp2_with(go_at_call 106;refine HM.mono ?_;clear HM;rintro e w4 ⟨rfl,b4⟩;have j3:=k3.same<|b4.block _ k3.lt;let⟨z0,z1,z2,z3,z4⟩:=j3.cells;let⟨r0,r1,r2,r3,r4,r5⟩:=(p1.same<|b4.block _ p1.lt).cells;obtain⟨W8,e8,k8,-,z8,o8⟩:=bJ j3 (acW 0 _) (ada _) 0 0 none 0 0 none 0 0;replace z8:Hid _:=z8)
  exact hR.out _ _ λtodo=>ak.lv E ig Tz.func276 (λτ d=>dm rfl rfl rfl<|k8.r τ d)<|aT.out _ _ _ (back.out (bW.trans (Bl.of b4) bW.size) z8.out o8)<|pg.out 2 W8<|Il<|.inr hp.out
 have Lh:=Mv.fX ez;replace ez:Hid _:=ez;replace hp:Hid _:=hp;go_wp2_with(go_at_call 106;refine HM.mono ?_;clear HM;rintro e w4 ⟨rfl,b4⟩;let⟨r0,r1,r2,r3,r4,r5⟩:=(p1.same<|b4.block _ p1.lt).cells)
 refine hK.out _ _ ?_;have bV:Bl V V w4:=bW.trans (Bl.of b4) bW.size;replace p1:=p1.same<|b4.block _ p1.lt;replace p2:=p2.same<|b4.block _ p2.lt;have p3:=k3.same<|b4.block _ k3.lt;clear hK hR K R e1 e2 e3 k1 k2 k3 b1 b2 b3 b4 s0 s1 s2 s3 s4 s5 r0 r1 r2 r3 r4 r5 bW l1 hd;refine ak.ck E jO [_] _ λK R τ d hK hR=>?_
 have H1:=uT ao m cp f q.name (re w4 τ d) h6 (hB.bl (show Bl V V (re w4 τ d) from⟨bV.size,bV.block⟩)).sm;let⟨y0,y1,y2,y3,y4⟩:=p2.rc τ d;let⟨s0,s1,s2,s3,s4,s5⟩:=(show vk (re w4 τ d) _ q from p1).cells;simp only[aD];rcases Ip f m q.name with⟨J,hJ,tB,Qf⟩|tB
 .have AT:∀k,eX f m q.name k->0<=k:=λk hk=>by have:=gu.yes hJ tB Qf hk;omega
  go_wp2_with(go_at_call 278;refine H1.mono ?_;clear H1;rintro e w5 ⟨⟨kk,rfl,zd⟩,b5⟩;have uE:=AT kk zd;have j3:=(p3.r τ d).same<|b5.block _ p3.lt;let⟨z0,z1,z2,z3,z4⟩:=j3.cells;obtain⟨W8,e8,k8,-,z8,o8⟩:=bJ j3 (acW 0 _) (ada _) 0 0 none 0 0 none 0 0;replace z8:Hid _:=z8)
  all_goals try omega
  exact hR.out _ _ λtodo=>ak.lv E ig Tz.func276 (λτ d=>dm rfl rfl rfl<|k8.r τ d)<|aT.out _ _ _ (back.out (bV.trans (Bl.lZ b5) bV.size) z8.out o8)<|pg.out 3 W8<|RX ez.out hp.out ⟨J,hJ,tB⟩
 have AT:∀k,eX f m q.name k->k<0:=λk hk=>by have:=gu.no tB hk;omega
 go_wp2_with(go_at_call 278;refine H1.mono ?_;clear H1;rintro e w5 ⟨⟨kk,rfl,zd⟩,b5⟩;have uE:=AT kk zd)
 all_goals try omega
 refine hK.out _ _ ?_;have bV:Bl V V w5:=bV.trans (Bl.lZ b5) bV.size;replace p1:vk w5 _ q:=p1.same<|b5.block _ p1.lt;replace p2:aH w5 _ _ _ _ _:=p2.same<|b5.block _ p2.lt;replace p3:aH w5 _ _ _ _ _:=p3.same<|b5.block _ p3.lt;clear hK hR K R b5 y0 y1 y2 y3 y4 s0 s1 s2 s3 s4 s5 AT zd uE;refine ak.ck E jO [_] _ λK R τ d hK hR=>?_
 let⟨y0,y1,y2,y3,y4⟩:=p2.rc τ d;simp only[aD];by_cases aB:m<6;rotate_left
 .obtain rfl:m=6:=aa;let⟨z0,z1,z2,z3,z4⟩:=p3.rc τ d;obtain⟨W8,e8,k8,-,z8,o8⟩:=bJ (p3.r τ d) (acW 0 _) (ada _) 0 0 none 0 0 none 0 0;replace z8:Hid _:=z8;go_wp2;exact hR.out _ _ λtodo=>ak.lv E ig Tz.func276 (λτ d=>dm rfl rfl rfl<|k8.r τ d)<|aT.out _ _ _ (back.out bV z8.out o8)<|pg.out 4 W8<|RY ez.out hp.out tB aa
 have dr:((m:Int)==6)=false:=cU;go_wp2;refine hK.out _ _<|ak.un ?_;clear hK hR K R y0 y1 y2 y3 y4 dr;refine ak.seq E jO<|ak.rg E jO<|ak.oc E jO 0 4 λK τ d hK=>?_;let⟨y0,y1,y2,y3,y4⟩:=p2.rc τ d;let⟨s0,s1,s2,s3,s4,s5⟩:=(show vk (re w5 τ d) _ q from p1).cells;simp only[aN];go_wp2;refine hK.out _ _<|ak.un ?_;clear hK K y0 y1 y2 y3 y4 s0 s1 s2 s3 s4 s5;refine ak.ey E (i:=4) rfl rfl hA.wm (λw=>C8)<|OV (q:=q) E hA.wm hA.ins ze jO h6 (hB.bl bV).sm ?_;have l35:=p3.lt;intro BN cN V6 o6 b6;rw[cO rfl];have uB:=o6.lt BN rfl;have rM:C7 V6 BN (m+1) (dR f (vC f m q) q):=Cz o6;have z5:=bV.size;have z6:=b6.size;have p2:=p2.same<|b6.block _ p2.lt;have p3:=p3.same<|b6.block _ p3.lt;have bV:=bV.trans b6 z5;have hPm:aE (dR f (vC f m q) q) (m+1)=true:=by
  let⟨K,Sa,Wf,Wh⟩:=pX (λj=>bU (f j).name q.name) m;rw[vQ Sa Wf Wh];exact AQ hm aB Sa ez.out Wf Wh tB
 have qL:=RZ (now:=now) (shift:=shift) ez.out hp.out tB aB rfl;replace qL:Hid _:=qL;clear o6 p1 b6;refine ak.oc E jO 5 1 λK τ d hK=>?_
 simp only[aN,Act.put];go_wp2;refine hK.out _ _<|ak.un<|ak.regionEnd E jO ?_;clear hK K;refine ak.seq E jO<|ak.rg E jO<|ak.oc E jO 0 5 λK τ d hK=>?_;let⟨y0,y1,y2,y3,y4⟩:=p2.rc τ d;simp only[aN];go_wp2;refine hK.out _ _<|ak.un ?_;clear hK K y0 y1 y2 y3 y4;have MU:0<=now/\now<=10000:=Vd mG;refine ak.ey E (i:=5) rfl rfl hA.pl (λw=>C8)<|C5 (cap:=cN) (shift:=shift) E hA.pl hA.sb hA.bt jO aa (λi hi=>bg hPm i hi) MU.1 aa uB.2 rM.1 ?_;intro v V7 fO;rw[cO rfl];replace qL:=qL.out;generalize fQ (dR f (vC f m q) q) (m+1) now shift=r at fO qL;obtain⟨v5,rfl,t5,b7⟩:=vP fO;have Yp:Hid (∀a l c,v5=.slice a l c->l<=c):=λa l c e=>ED fO e
 clear fO;obtain⟨br,nR⟩:∃br,r.isSome=br:=⟨_,rfl⟩;rw[nR];have z7:=b7.size;have z6:=bV.size;have p2:=p2.same<|b7.block _ p2.lt;have p3:=p3.same<|b7.block _ p3.lt;have rM:=rM.same<|b7.block BN uB.2;have bV:=bV.trans b7 z6;have n4:BN≠W2.heap.size:=aa;replace qL:Hid _:=qL;replace nR:Hid _:=nR;replace t5:Hid _:=t5;refine ak.oc E jO 6 5 λK τ d hK=>?_
 simp only[aN,Act.put];go_wp2;refine hK.out _ _<|ak.un<|ak.regionEnd E jO ?_;clear hK K;cases r with
 |none=>
  have nR:=nR.out;subst nR;refine ak.ck E jO [_] _ λK R τ d hK hR=>?_
  let⟨z0,z1,z2,z3,z4⟩:=p3.rc τ d;obtain⟨W8,e8,k8,-,z8,o8⟩:=bJ (p3.r τ d) (acW 0 _) (ada _) 0 0 none 0 0 none 0 0;replace z8:Hid _:=z8;simp only[aD,Option.isSome_none];go_wp2;exact hR.out _ _ λtodo=>ak.lv E ig Tz.func276 (λτ d=>dm rfl rfl rfl<|k8.r τ d) (aT.out _ _ _ (back.out bV z8.out o8)<|pg.out 5 W8 qL.out)
 |some T=>
  have nR:=nR.out;subst nR;obtain⟨BS,cS,hBS,rfl,oS⟩:=t5.out;have n5:BS≠W2.heap.size:=aa;refine ak.ck E jO [_,_] _ λK R τ d hK hR=>?_
  let⟨y0,y1,y2,y3,y4⟩:=p2.rc τ d;let⟨z0,z1,z2,z3,z4⟩:=p3.rc τ d;obtain⟨W8,e8,k8,-,z8,o8⟩:=bJ (p3.r τ d) (acW 0 _) (ada _) now shift (some ⟨BN,0,none⟩) (m+1) cN (some ⟨BS,0,none⟩) (m+1) cS;replace z8:Hid _:=z8;simp only[aD,Option.isSome_some];go_wp2;refine hK.out _ _<|ak.ret E jO<|ak.lv E ig Tz.func276 (λτ d=>dm rfl rfl rfl<|k8.r τ d)<|aT.out _ _ _ (back.out bV z8.out o8) ?_;unfold Xo;rw[qL.out];exact⟨rfl,BN,cN,BS,cS,rfl,aa,aa,rM.same<|o8 BN n4,fD oS<|o8 BS n5,Yp.out _ _ _ rfl⟩
end
def d_ (v:Value)(w:World):(Instr.typeAssert (.iface 60 v) 104 134 true).run Tz.prog w=.ok (.tuple #[.iface 60 v,true]) w:=run_typeAssert_hasB (Tz.aR Tryz.underlying134) bD v 104 w
def Hu (q:Mv)(w:World):Calls Tz.prog 277 #[.agg #[q.name,q.aj,q.ap,q.aW,q.late,q.prom]] w λe w'=>e=.returned (.iface 131<|.agg #[(6:Int)])/\Below w w w':=by
 have bA:∀o,Below w w (w.alloc o):=λo=>(acW _ w).alloc (ac5 _) _
 go_enter Tz.func277,Tryz.ntmps277
 go_wp2;go_ret;exact⟨rfl,bA _⟩
section
variable [g:Gl]{bb:Bool}
def Lz (now shift:Int)(f:Nat->Mv)(n:Nat)(q:Mv)(N:Nat)(y e:Value)(W:World):Prop:=match vF f n now shift q with
 |.no cd=>y=.agg #[(0:Int),(0:Int),(),()]/\e=.iface 131 (.agg #[.int .i64 cd])
 |.yes p T=>e=.nilIface/\∃BN c2 BT c3,y=.agg #[.int .i64 now,.int .i64 shift,.slice (some ⟨BN,0,none⟩) (n+1) c2,.slice (some ⟨BT,0,none⟩) (n+1) c3]/\N<=BN/\N<=BT/\C7 W BN (n+1) (dR f p q)/\aC W BT (n+1) T/\n+1<=c3
def mpb (now shift:Int)(f:Nat->Mv)(n:Nat)(q:Mv):RO (Lz now shift f n q) where
 is:=λh=>by
  unfold Lz at h;cases hr:vF f n now shift q with
  |no cd=>rw[hr]at h;exact .inr ⟨cd,Ii hr,h.2,h.1⟩
  |yes p T=>rw[hr]at h;let⟨h1,BN,c2,BT,c3,h2,_⟩:=h;exact .inl ⟨h1,_,_,_,_,_,_,_,_,h2⟩
 to:=λh hN e=>by
  unfold Lz at h⊢;cases hr:vF f n now shift q with
  |no cd=>rw[hr]at h;exact h
  |yes p T=>
   rw[hr]at h;let⟨h1,BN,c2,BT,c3,h2,h3,h4,h5,h6,h7⟩:=h;exact⟨h1,BN,c2,BT,c3,h2,ac8 hN h3,ac8 hN h4,h5.same<|e BN h3 h5.lt,fD h6<|e BT h4 h6.lt,h7⟩
def Im {T:Nat->Int}(h:zY f n now shift q=.yes p T):q.ok=true/\q.prom<0/\(∀j,j<n->bX (f j).name q.name=false)/\n<6/\p=vC f n q/\fQ (dR f p q) (n+1) now shift=some T:=by
 unfold zY at h;split at h
 .cases h
 .split at h
  .cases h
  .split at h
   .cases h
   .rename_i h1 h2 h3;cases hp:fQ (dR f (vC f n q) q) (n+1) now shift with
    |none=>rw[hp]at h;cases h
    |some T'=>
     rw[hp]at h;cases h;have pa:=not_or.1 h1;refine⟨by simpa using pa.1,by simpa using pa.2,λj hj=>?_,aa,rfl,hp⟩;cases hs:bX (f j).name q.name with
     |false=>rfl
     |true=>exact absurd ⟨j,hj,hs⟩ h2
def NU {P:Mv->Prop}{i:Nat}(h:∀i,i<n->P (f i))(hq:P q)(hi:i<n+1)(hp:p<=n):P (dR f p q i):=by
 unfold dR;split
 .exact h i aa
 .split
  .exact hq
  .exact h (i-1) aa
def K3 (E:ee Tz.prog ok c cX)(jU:ok.bh 67=true)(hA:v_ ok)(kG:ok.bh 18=true)(tS:ok.bh 52=true)(ze:g.ov=283)(ig:ok.bh r0.fn=true)(hB:Bq V now shift ao n cp f bo m dp t)(hq:q.Fits)
  (aT:∀y e W',Bl V V W'->(aX now shift f n t m=false/\y=.agg #[(0:Int),(0:Int),(),()]/\e=.iface 131 (.agg #[(1:Int)])\/aX now shift f n t m=true/\Lz now shift f n q V.heap.size y e W')->ak Tz.prog ok c cX Q ⟨r0.finish<|.tuple #[y,e],cs,W'⟩):
  ak Tz.prog ok c cX Q ⟨Frame.enter Tz.prog 67 #[.agg #[now,shift,.slice ao n cp,.slice bo m dp],.iface 60<|.agg #[q.name,q.aj,q.ap,q.aW,q.late,q.prom]] .normal,r0::cs,V⟩:=by
 replace aT:Hid _:=aT;refine ak.en Tz.func67 rfl Tryz.ntmps67 BA ?_;refine ak.ck E jU [_,_] _ λK R τ d hK hR=>?_
 obtain⟨W1,e1,k2,b1,-⟩:=cr (re V τ d) now shift ao n cp bo m dp;obtain⟨W2,e2,k4,b2,-⟩:=cr W1 0 0 none 0 0 none 0 0;have bW:=b1.trans<|b2.mono b1.size;have H1:=(hB.bl<|Bl.lZ bW).ib;let⟨y0,y1,y2,y3,y4⟩:=(k2.same<|b2.block _ k2.lt).cells;simp only[aD];rcases Bool.eq_false_or_eq_true (aX now shift f n t m)with hb|hb;all_goals rw[hb]at H1
 rotate_left
 .replace hb:Hid _:=hb;go_wp2_with(go_at_call 16;refine H1.mono ?_;clear H1;rintro e w3 ⟨rfl,b3⟩;have j4:=k4.same<|b3.block _ k4.lt;let⟨z0,z1,z2,z3,z4⟩:=j4.cells;have bV:=bW.trans<|b3.mono bW.size;obtain⟨W5,e5,k5,b5,-,o5⟩:=bJ j4 bV b1.size 0 0 none 0 0 none 0 0)
  refine hR.out _ _ λtodo=>?_
  exact ak.lv E ig Tz.func67 (λτ d=>dm rfl rfl rfl<|k5.r τ d)<|aT.out _ _ _ (Bl.lZ b5)<|.inl ⟨hb.out,rfl,rfl⟩
 replace hb:Hid _:=hb;go_wp2_with(go_at_call 16;refine H1.mono ?_;clear H1;rintro e w3 ⟨rfl,b3⟩)
 refine hK.out _ _ ?_;have p2:=(k2.same<|b2.block _ k2.lt).same<|b3.block _<|ac6 k2.lt b2.size;have p4:=k4.same<|b3.block _ k4.lt;have bV:=Bl.lZ<|bW.trans<|b3.mono bW.size;have o4:V.heap.size<W1:=k2.lt;clear hK hR K R k2 k4 b1 b2 b3 bW y0 y1 y2 y3 y4 e1 e2;refine ak.seq E jU<|ak.rg E jU<|ak.oc E jU 0 2 λK τ d hK=>?_;let⟨y0,y1,y2,y3,y4⟩:=p2.rc τ d;simp only[aN];go_wp2;refine hK.out _ _<|ak.un ?_;clear hK K y0 y1 y2 y3 y4;refine ak.ey E (i:=2) rfl rfl hA.md (λw=>bD)<|OR E hA ze jU (hB.bl bV) hb.out hq ?_;rintro y e W4 b4 hy;rw[cO rfl];have l3:=p4.lt;have p4:=p4.same<|b4.block _ l3;have l4:=p4.lt;have z4:=b4.size;have z0:=bV.size;have bV:=bV.trans b4 z0;unfold Xo at hy;cases qL:zY f n now shift q with
 |no cd=>
  rw[qL]at hy;obtain⟨rfl,rfl⟩:=hy;have had:=tI qL;replace had:Hid _:=had;clear qL;refine ak.oc E jU 3 6 λK τ d hK=>?_
  simp only[aN,Act.put];go_wp2;refine hK.out _ _<|ak.regionEnd E jU ?_;clear hK K;obtain⟨W5,e5,k5,b5,-⟩:=cr (re W4 τ d) 0 0 none 0 0 none 0 0;rw[e5];clear e5;have p4:=p4.same<|b5.block _ l4;refine ak.ck E jU [_] _ λK R τ d hK hR=>?_
  let⟨x0,x1,x2,x3,x4⟩:=p4.rc τ d;obtain⟨W8,e8,k8,-,z8,o8⟩:=bJ (p4.r τ d) (acW 0 _) (ada _) 0 0 none 0 0 none 0 0;replace z8:Hid _:=z8;simp only[aD];go_wp2;have z5:W4.heap.size<=W5:=b5.size;have z8:W8.heap.size=W5.heap.size:=z8.out;exact hR.out _ _ λtodo=>ak.lv E ig Tz.func67 (λτ d=>dm rfl rfl rfl<|k8.r τ d) (aT.out _ _ _ ⟨aa,λk hk=>(o8 k aa).trans<|(b5.block k (by show k<W4.heap.size;omega)).trans<|bV.block k hk⟩<|.inr ⟨hb.out,by unfold Lz;rw[had.out];exact⟨rfl,rfl⟩⟩)
 |yes p T=>
  rw[qL]at hy;obtain⟨rfl,BN,c2,BT,c3,rfl,g1,g2,g3,g4,g5⟩:=hy;replace g5:Hid _:=g5;let⟨a1,a2,a3,a4,a5,a6⟩:=Im qL;have hp:p<=n:=by rw[a5];exact(Classical.choose_spec<|pX (λj=>bU (f j).name q.name) n).1
  have O1:Bq W4 now shift BN (n+1) c2 (dR f p q) BT (n+1) c3 T:=⟨aa,aa,⟨(λh=>nomatch h),λad had=>⟨BN,by cases had;rfl,g3.lt,g3.1⟩⟩,⟨(λh=>nomatch h),λad had=>⟨BT,by cases had;rfl,g4.lt,g4.2⟩⟩,(λh=>by rcases h with h|h<;>cases h),λi hi=>NU (P:=Mv.Fits) hB.fit hq hi hp⟩;replace qL:Hid _:=qL;clear a1 a2 a3 a4 a5 a6 hp;refine ak.oc E jU 3 6 λK τ d hK=>?_
  simp only[aN,Act.put];go_wp2;refine hK.out _ _<|ak.regionEnd E jU ?_;clear hK K;obtain⟨W5,e5,k5,b5,-⟩:=cr (re W4 τ d) now shift (some ⟨BN,0,none⟩) (n+1) c2 (some ⟨BT,0,none⟩) (n+1) c3;rw[e5];clear e5;have p4:=p4.same<|b5.block _ l4;have z5:W4.heap.size<=W5:=b5.size;have B5:Bl W4 W4 W5:=Bl.lZ b5;replace O1:=O1.bl B5;replace g3:=g3.same<|B5.block BN g3.lt;replace g4:=fD g4<|B5.block BT g4.lt;replace bV:=bV.trans B5 bV.size;refine ak.ck E jU [_] _ λK R τ d hK hR=>?_
  simp only[aD];go_wp2;refine hK.out _ _<|ak.un ?_;clear hK hR K R;have hTA:=d_<|.agg #[q.name,q.aj,q.ap,q.aW,q.late,q.prom];refine ak.seq E jU<|ak.ck E jU [_,_] _ λK R τ d hK hR=>?_;simp only[aD];go_wp2;refine hK.out _ _<|ak.un<|ak.cond E jU (t:=true) rfl ?_;clear hK hR K R hTA;refine ak.seq E jU<|ak.rg E jU<|ak.oc E jU 0 1 λK τ d hK=>?_;let⟨y0,y1,y2,y3,y4⟩:=k5.rc τ d;simp only[aN];go_wp2;refine hK.out _ _<|ak.un ?_;clear hK K y0 y1 y2 y3 y4;refine ak.ey E (i:=1) rfl rfl kG (λw=>C8)<|qd E kG tS hA.pl hA.sb hA.bt jU O1 ?_;intro V6 b6;rw[cO rfl];have z6:=b6.size;have z50:=bV.size;have k5:=k5.same<|b6.block _ k5.lt;have p4:=p4.same<|b6.block _ p4.lt;have g3:=g3.same<|b6.block BN g3.lt;have g4:=fD g4<|b6.block BT g4.lt;have bV:=bV.trans b6 z50;obtain⟨sb,tF⟩:∃sb,fi now shift (dR f p q) (n+1) T (n+1)=sb:=⟨_,rfl⟩;rw[tF];replace tF:Hid _:=tF;refine ak.oc E jU 2 1 λK τ d hK=>?_
  simp only[aN,Act.put];go_wp2;refine hK.out _ _<|ak.un<|ak.regionEnd E jU<|ak.cond E jU (t:=!sb) rfl ?_;clear hK K;have nN:BN≠W1.heap.size:=aa;have nT:BT≠W1.heap.size:=aa;have back:∀{w W8:World},Bl V V w->W8.heap.size=w.heap.size->(∀k,k≠W1.heap.size->W8.heap[k]?=w.heap[k]?)->Bl V V W8:=λh h1 h2=>⟨by rw[h1];exact h.size,λk hk=>(h2 k aa).trans<|h.block k hk⟩
  replace back:Hid _:=@back;cases sb with
  |false=>
   refine ak.seq E jU<|ak.rg E jU<|ak.oc E jU 0 2 λK τ d hK=>?_;simp only[aN];go_wp2;refine hK.out _ _<|ak.un ?_;clear hK K;refine ak.SJ E jU (i:=2) rfl rfl (f:=277) (xs:=#[.agg #[q.name,q.aj,q.ap,q.aW,q.late,q.prom]]) (R:=λv V'=>v=.iface 131 (.agg #[(6:Int)])/\Bl V6 V6 V') (λw=>bD) (λτ d=>(Hu q<|re V6 τ d).mono (by rintro e w' ⟨rfl,h⟩;exact⟨_,rfl,rfl,Bl.lZ h⟩)) ?_;rintro v V7 ⟨rfl,b7⟩;have p4:=p4.same<|b7.block _ p4.lt;have bV:=bV.trans b7 bV.size;refine ak.oc E jU 3 2 λK τ d hK=>?_
   let⟨x0,x1,x2,x3,x4⟩:=p4.rc τ d;obtain⟨W8,e8,k8,-,z8,o8⟩:=bJ (p4.r τ d) (acW 0 _) (ada _) 0 0 none 0 0 none 0 0;replace z8:Hid _:=z8;simp only[aN,Act.put];go_wp2;exact hK.out _ _ (ak.regionEnd E jU<|ak.ret E jU<|ak.lv E ig Tz.func67 (λτ d=>dm rfl rfl rfl<|k8.r τ d)<|aT.out _ _ _ (back.out bV z8.out o8)<|.inr ⟨hb.out,by unfold Lz;rw[RU qL.out tF.out];exact⟨rfl,rfl⟩⟩)
  |true=>
   refine ak.skip E jU<|ak.ck E jU [_] _ λK R τ d hK hR=>?_;let⟨y0,y1,y2,y3,y4⟩:=k5.rc τ d;let⟨x0,x1,x2,x3,x4⟩:=p4.rc τ d;obtain⟨W8,e8,k8,-,z8,o8⟩:=bJ (p4.r τ d) (acW 0 _) (ada _) now shift (some ⟨BN,0,none⟩) (n+1) c2 (some ⟨BT,0,none⟩) (n+1) c3;replace z8:Hid _:=z8;simp only[aD];go_wp2;refine hK.out _ _<|ak.ret E jU<|ak.lv E ig Tz.func67 (λτ d=>dm rfl rfl rfl<|k8.r τ d)<|aT.out _ _ _ (back.out bV z8.out o8)<|.inr ⟨hb.out,?_⟩;unfold Lz;rw[RT qL.out tF.out];exact⟨rfl,BN,c2,BT,c3,rfl,aa,aa,g3.same<|o8 BN nN,fD g4<|o8 BT nT,g5.out⟩
end
section
variable [g:Gl]
def Bq.cy (hB:Bq V now shift ao n cp f bo m dp t)(W:World)(hW:Bl V V W):Calls Tz.prog 69 #[.agg #[now,shift,.slice ao n cp,.slice bo m dp]] W λe w'=>(∃y,e=.returned y/\Ti now shift f n t m W.heap.size y w')/\Below W W w':=
 (Gb now shift ao n cp f bo m dp t W hB.n6 hB.m6 (hB.bl hW).sm (hB.bl hW).si (λh=>⟨(hB.two h).1,(hB.two h).2.1⟩)).mono λe w' ⟨⟨v,u,h1,h2,h3⟩,hb⟩=>⟨⟨_,h1,v,u,rfl,h2,h3⟩,hb⟩
def RG (E:ee Tz.prog ok c cX)(Lg:ok.bh 8=true)(wW:ok.bh 38=true)(jU:ok.bh 67=true)(Ub:ok.bh 68=false)(hA:v_ ok)(kG:ok.bh 18=true)(tS:ok.bh 52=true)(ze:g.ov=283)(ig:ok.bh r0.fn=true)(hB:Bq V now shift ao n cp f bo m dp t)(hq:q.Fits)
  (aT:∀y cd W',Bl V V W'->K6 (Lz now shift f n q) (Ti now shift f n t m) (aX now shift f n t m) V.heap.size y cd W'->ak Tz.prog ok c cX Q ⟨r0.finish<|.tuple #[y,.int .i64 cd],cs,W'⟩):
  ak Tz.prog ok c cX Q ⟨Frame.enter Tz.prog 8 #[.agg #[now,shift,.slice ao n cp,.slice bo m dp],.agg #[q.name,q.aj,q.ap,q.aW,q.late,q.prom]] .normal,r0::cs,V⟩:=by
 replace aT:Hid _:=aT;refine ak.en Tz.func8 rfl Tryz.ntmps8 BA ?_;refine ak.ck E Lg [_] _ λK R τ0 yW hK hR=>?_
 obtain⟨W1,e1,k2,b1,-⟩:=cr (re V τ0 yW) now shift ao n cp bo m dp;let⟨W2,e2,k3,b2⟩:=PJ W1 #[q.name,q.aj,q.ap,q.aW,q.late,q.prom] 31;obtain⟨W3,e3,k4,b3,-⟩:=cr W2 0 0 none 0 0 none 0 0;have bW:=Bl.lZ<|(b1.trans<|b2.mono b1.size).trans<|b3.mono<|ac8 b1.size b2.size;simp only[aD];go_wp2;refine hK.out _ _ ?_;have p2:=(k2.same<|b2.block _ k2.lt).same<|b3.block _<|ac6 k2.lt b2.size;have p3:bf W3 W1.heap.size q:=(b3.block _ (ac7.1 k3).1).trans k3;have o4:V.heap.size<W2:=ac6 k2.lt b2.size;clear hK hR K R k2 k3 b1 b2 b3 e1 e2 e3;refine ak.seq E Lg<|ak.rg E Lg<|ak.oc E Lg 0 4 λK τ d hK=>?_;let⟨y0,y1,y2,y3,y4⟩:=p2.rc τ d;let⟨s0,s1,s2,s3,s4,s5⟩:=dN (show bf (re W3 τ d) _ q from p3);simp only[aN];go_wp2;refine hK.out _ _<|ak.un ?_;clear hK K y0 y1 y2 y3 y4 s0 s1 s2 s3 s4 s5;refine ak.ey E (i:=4) rfl rfl wW (λw=>C8)<|vj (bb:=aX now shift f n t m) E wW jU Ub Lg (mpb now shift f n q) (λhr hW h=>K3 E jU hA kG tS ze hr ((hB.bl bW).bl hW) hq h) (V0 now shift f n t m) (λW hW=>(hB.bl bW).cy W hW) ?_;rintro y cd W4 b4 hy;rw[cO rfl];obtain⟨a0,a1,s2,l2,c2,s3,l3,c3,rfl⟩:=hy.is (mpb now shift f n q)<|V0 now shift f n t m;have l2':=k4.lt;have k4:=k4.same<|b4.block _ l2';have z0:=bW.size;have z4:=b4.size;have bV:=bW.trans b4 z0;refine ak.oc E Lg 5 4 λK τ d hK=>?_
 let⟨x0,x1,x2,x3,x4⟩:=k4.rc τ d;obtain⟨W8,e8,k8,-,z8,o8⟩:=bJ (k4.r τ d) (acW 0 _) (ada _) a0 a1 s2 l2 c2 s3 l3 c3;replace z8:Hid _:=z8;simp only[aN,Act.put];go_wp2;have z8:W8.heap.size=W4.heap.size:=z8.out;exact hK.out _ _<|ak.regionEnd E Lg<|ak.ret E Lg<|ak.lv E ig Tz.func8 (λτ d=>dm rfl rfl rfl<|k8.r τ d)<|aT.out _ _ _ ⟨aa,λk hk=>(o8 k aa).trans<|bV.block k hk⟩<|hy.to (mpb now shift f n q) (V0 now shift f n t m) z0 λk g1 g2=>o8 k aa
end
