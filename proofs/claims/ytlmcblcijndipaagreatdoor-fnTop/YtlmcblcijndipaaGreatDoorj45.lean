import Derived.Test.YtlmcblcijndipaaGreatDoorj37
import Derived.Test.YtlmcblcijndipaaGreatDoorj43
set_option linter.defProp false
set_option linter.unusedVariables false
set_option linter.unusedSimpArgs false
set_option linter.unusedSectionVars false
set_option maxHeartbeats 4000000
set_option maxRecDepth 100000
namespace Go.Proofs.YtlmcblcijndipaaGreatDoor
variable {ok:Ctx}{c r0:Frame}{now shift:Int}{cs:List Frame}{q:Mv}{B cp dp m n p:Nat}{t:Nat->Int}{f:Nat->Mv}{ao bo:Option Addr}{Q:Value->World->Prop}{V w:World}
open Conc RowKit
section
variable [g:Gl]{qL:Frame}
def FP (E:dM Tz.prog ok qL bY)(Rm:ok.aX 279=true)(hIn:ok.aX 282=true)(vP:g.ov=283)(f7:ok.aX r0.fn=true)
  {b cap:Nat}(hn:n<=6)(bz:b<V)(am:aJ V b 0 n f)
  (aH:∀BN cN V',V'.ownsRow V.heap.size 31 6 (.slice (some ⟨BN,0,none⟩) (n+1) cN) (n+1) (aU (dR f (vX f n q) q)<|n+1)->Bl V V V'->aj Tz.prog ok qL bY Q ⟨r0.finish<|.slice (some ⟨BN,0,none⟩) (n+1) cN,cs,V'⟩):
  aj Tz.prog ok qL bY Q ⟨Frame.enter Tz.prog 279 #[.slice b n cap,.agg #[q.name,q.ak,q.ap,q.bF,q.late,q.prom]] .normal,r0::cs,V⟩:=by
 have hE:=enter_at (P:=Tz.prog) #[.slice b n cap,.agg #[q.name,q.ak,q.ap,q.bF,q.late,q.prom]] Tz.func279 rfl;simp only[Tryz.ntmps279,List.size_toArray,List.length_cons,List.length_nil,Nat.reduceAdd,Nat.reduceSub,Array.replicate_succ,Array.replicate_zero,List.push_toArray,List.append_toArray,List.nil_append,List.cons_append]at hE;rw[hE];clear hE;obtain⟨B3,Kt⟩:∃x,x=V.heap.size:=⟨_,rfl⟩;refine aj.BL E Rm [_,_,_] _ (λa' w'=>∃k:Nat,k<=n/\(∀j,j<k->bX (f j).name q.name=true)/\(k<n->bX (f k).name q.name=false)/\Bl V V w'/\dw w' B3 q/\iz a' (rW 28 [(0,.slice b n cap),(3,.pointer B3),(5,.int .i64 k)])) (λ_ _=>False) ?_ ?_ λ_ _ _ h=>h.elim
 .intro τ d;have ZW:aJ (re V τ d) b 0 n f:=dA am rfl;have aaT:b<(re V τ d).heap.size:=bz;have xC:∀W,Below (re V τ d).heap.size (re V τ d) W->Bl V V W:=λW h=>Bl.nP h
  have lY:B3=(re V τ d).heap.size:=Kt;clear aH am bz Kt;revert ZW aaT xC lY;generalize re V τ d=w;intro am bz xC Kt;have bA:Below w w (w.alloc<|.cells #[q.name,q.ak,q.ap,q.bF,q.late,q.prom] 31):=(acU _ w).alloc (ac3 _) _;have mA:dw (w.alloc<|.cells #[q.name,q.ak,q.ap,q.bF,q.late,q.prom] 31) w.heap.size q:=heap_alloc_new _ _;simp only[aD];go_wp2;go_loopw [5] (λx W=>∃k:Nat,x=.int .i64 k/\k<=n/\Below w w W/\dw W w.heap.size q/\∀j,j<k->bX (f j).name q.name=true) (λx _=>n-(intOf x).toNat)
  case atStart=>exact⟨0,rfl,ac8 _,bA,mA,λj hj=>absurd hj<|ac7 _⟩
  case round=>
   clear bA mA;obtain⟨k,rfl,hk,hB,hm,ma⟩:=hrel;have lb:=ac4 bz hB.size;have lm:w.heap.size<wr:=(ac5.1 hm).1;have hne:=aF wr;have x1:=λx:ai wr=>x.cell (eD hm).c0
   by_cases hgo:k<n/\bX (f k).name q.name=true
   .let⟨ay,hL⟩:=hgo;have dq:(k:Int)<n:=ab;have hL':Op.bytesLess (f k).name.toList q.name.toList=true:=hL;have c0:=(am.below hB bz k ay).c0;simp only[Nat.zero_add]at c0;have x0:=λx:ai wr=>x.cell c0
    go_wp2;refine jR ?_;intro w2 cj;go_wp2;all_goals try omega
    go_roundw
    case rel=>exact⟨k+1,by go_num,ab,hB.trans<|cj.mono hB.size,hm.keep<|cj.block _ lm,λj hj=>by
     by_cases e:j=k
     .subst e;exact hL
     .exact ma j ab⟩
    case measure=>exact bZ
   have de:k<n->bX (f k).name q.name=false:=λh=>by
    cases hL:bX (f k).name q.name with
    |false=>rfl
    |true=>exact absurd ⟨h,hL⟩ hgo
   by_cases ay:k<n;focus
    have dq:(k:Int)<n:=ab;have hL':Op.bytesLess (f k).name.toList q.name.toList=false:=de ay;have c0:=(am.below hB bz k ay).c0;simp only[Nat.zero_add]at c0;have x0:=λx:ai wr=>x.cell c0
    go_wp2;refine jR ?_;intro w2 cj;go_wp2;all_goals try omega
   rotate_left;focus
    have dq:¬(k:Int)<n:=ab;have hz:decide (k<n)=false:=by simpa using ay
    go_wp2;refine jR ?_;intro w2 cj;go_wp2;all_goals try omega
   all_goals exact⟨k,hk,ma,de,xC _<|hB.trans<|cj.mono hB.size,by rw[Kt];exact hm.keep<|cj.block _ lm,by rw[Kt];exact⟨rfl,rfl⟩⟩
 rintro a' w1 ⟨k,hk,ma,de,bI,nK,fM⟩;obtain⟨u,rfl⟩:=fM.open;clear fM;have hKP:=ww hk ma de;have eG:=bI.size;have yB:aJ w1 b 0 n f:=dA am<|bI.block b bz;have lm1:B3<w1:=(ac5.1 nK).1;have VE:∀BN cN V',V'.ownsRow V.heap.size 31 6 (.slice (some ⟨BN,0,none⟩) (n+1) cN) (n+1) (aU (dR f k q)<|n+1)->Bl V V V'->aj Tz.prog ok qL bY Q ⟨r0.finish<|.slice (some ⟨BN,0,none⟩) (n+1) cN,cs,V'⟩:=by
  rw[<-hKP];exact aH
 clear aH ma de hKP am Kt;refine aj.seq E Rm (aj.QR E Rm bj #[{dst:=some 22,op:=.move<|.tmp 0,type:=23,pos:= "l5_book.go:310",after:=#[],guard:=none},{dst:=some 23,op:=.call {callee:=.value<|.func 110,args:=#[.tmp 22],argTypes:=#[23]},type:=23,pos:= "l5_book.go:310",after:=#[{on:=0,ground:=.data}],guard:=none},{dst:=some 24,op:=.move<|.tmp 5,type:=3,pos:= "l5_book.go:310",after:=#[],guard:=none},{dst:=some 25,op:=.load 31<|.tmp 3,type:=31,pos:= "l5_book.go:310",after:=#[],guard:=none},{dst:=some 26,op:=.buildSlice 23 1 #[(0,.tmp 25)],type:=23,pos:= "l5_book.go:310",after:=#[{on:=3,ground:=.data}],guard:=none}] [5,6] (λi hi=>by
  have hi:i<5:=hi;match i,hi with
  |0,_=>rfl
  |1,_=>rfl
  |2,_=>rfl
  |3,_=>rfl
  |4,_=>rfl) aG bj (λa' w'=>∃BC cC BV,w'.ownsRow V.heap.size 31 6 (.slice (some ⟨BC,0,none⟩) n cC) n (aU f n)/\w'.heap[BV]?=some (.cells q.cells 31 (0,0))/\BV≠BC/\V.heap.size<=BC/\Bl V.heap.size V w'/\iz a' (rW 28 [(23,.slice (some ⟨BC,0,none⟩) n cC),(24,.int .i64 k),(26,.slice (some ⟨BV,0,none⟩) 1 1)])) ?_ ?_)
 .intro τ d;have pb:dw (re w1 τ d) B3 q:=nK;have nL:aJ (re w1 τ d) b 0 n f:=dA yB rfl;have lb:b<(re w1 τ d).heap.size:=ac4 bz eG;have lm:B3<(re w1 τ d).heap.size:=lm1;have pa:Bl V V (re w1 τ d):=⟨bI.size,bI.block⟩;clear VE nK yB bI bz lm1 eG;revert pb nL lb lm pa;generalize re w1 τ d=w;intro pb nL lb lm pa;refine wpAny_of_held (S:=Xi B3 q) _ _ _ _ ?_;have hHeld:Xi B3 q w:=eD pb;have HC:=λW (h:Below w w W)=>wY b n cap f W ab (ac4 lb h.size) (nL.below h lb)
  refine aq 0 (.slice b n cap) 22 rfl Bf hHeld ?_;refine aq 2 (.int .i64 (k:Int)) 24 rfl Bf hHeld ?_;refine aq 3 (.agg #[q.name,q.ak,q.ap,q.bF,q.late,q.prom]) 25 rfl Bf hHeld ?_;refine Qb 1 4 rfl rfl (λK hK=>?_) λK hK=>?_
  .go_simp
   go_at_call 110
   refine(HC w<|acU _ _).mono ?_;clear HC;rintro e w2 ⟨BC,cC,rfl,ho,_,b2⟩;go_wp2_with fail
   refine hK.out _ _ (eD<|pb.keep<|b2.block _ lm) λhHeld=>?_;clear hK K;refine iT 4 rfl λK hK=>?_;go_simp
   have hz:=pa.size;have lC:=(ho.lt BC rfl);have bo:Below w2 w2 (w2.alloc<|.cells #[q.name,q.ak,q.ap,q.bF,q.late,q.prom] 31):=(acU _ _).alloc (ac3 _) _;refine hK.out _ _ (eD<|(pb.keep<|b2.block _ lm).keep<|bo.block _<|ac4 lm b2.size) λhHeld=>?_;refine wpAnyH_done bj ?_ _;exact⟨rfl,BC,cC,w2.heap.size,cJ (eQ ho<|bo.block BC lC.2) hz,heap_alloc_new _ _,ab,ab,pa.trans ⟨(b2.trans<|bo.mono b2.size).size,(b2.trans<|bo.mono b2.size).block⟩ hz,rfl,rfl⟩
  .go_simp
   have bo:Below w w (w.alloc<|.cells #[q.name,q.ak,q.ap,q.bF,q.late,q.prom] 31):=(acU _ _).alloc (ac3 _) _;refine hK.out _ _ (eD<|pb.keep<|bo.block _ lm) λhHeld=>?_;clear hK K;refine iT 1 rfl λK hK=>?_;go_simp
   go_at_call 110
   refine(HC _ bo).mono ?_;clear HC;rintro e w2 ⟨BC,cC,rfl,ho,_,b2⟩;go_wp2_with fail
   have hz:=pa.size;have lC:=(ho.lt BC rfl);have zo:(w.alloc<|.cells #[q.name,q.ak,q.ap,q.bF,q.late,q.prom] 31).heap.size=w.heap.size+1:=acZ _ _;refine hK.out _ _ (eD<|(pb.keep<|bo.block _ lm).keep<|b2.block _ ab) λhHeld=>?_;refine wpAnyH_done bj ?_ _;exact⟨rfl,BC,cC,w.heap.size,cJ ho ab,(b2.block _ ab).trans<|heap_alloc_new _ _,ab,ab,pa.trans ⟨(bo.trans<|b2.mono bo.size).size,(bo.trans<|b2.mono bo.size).block⟩ hz,rfl,rfl⟩
 rintro a' w2 ⟨BC,cC,BV,ho,hv,hne,hBC,cj,fM⟩;clear u;obtain⟨u,rfl⟩:=fM.open;clear fM;have ga:=cj.size;refine aj.Og E hIn vP Rm (i:=5) rfl rfl (B:=BC) (n:=n) (c:=cC) (p:=k) (N:=V.heap.size) (Bv:=BV) (f:=f) (m:=q) (λw=>y7) ab hk ga ho hne hv ?_;intro BN cN V3 o3 Oa h3;have iC:Bl V V V3:=⟨ab,λi hi=>(h3 i ab ab).trans<|cj.block i hi⟩;clear ho hv cj h3;refine aj.CO E Rm [6] [] (λa' w'=>(∃τ d,w'=re V3 τ d)/\iz a' (rW 28 [(4,.slice BN (n+1) cN)])) ?_ ?_
 .intro τ d;clear VE;simp only[Act.put,wpOps_cons];refine wpOp_step rfl λK hK=>?_;go_simp
  exact hK _ _ ⟨rfl,⟨τ,d,rfl⟩,rfl,rfl⟩
 rintro a' w' ⟨⟨Mf,d3,rfl⟩,fM⟩;clear u;obtain⟨u,rfl⟩:=fM.open;refine aj.regionEnd E Rm<|aj.ret E Rm ?_;refine aj.leave E f7 (v:=.slice BN (n+1) cN) (λτ d=>⟨rfl,rfl,rfl,_,Tz.func279,?_⟩)<|VE BN cN _ (eQ o3 rfl) ⟨iC.size,iC.block⟩;show Sem.run Tz.prog (results Tryz.f279<|(rW 28 [(4,.slice BN (n+1) cN)]) u) _=_;simp[results,Tryz.f279,go_sem]
end
def Ar (w:World):Calls Tz.prog 110 #[()] w λe w'=>e=.returned ()/\Below w w w':=by
 have Rx:=Go.Lib.run_eql_slice_nil (P:=Tz.prog) w 23 31 none 0 0 0 0 aR;go_enter Tz.func110,Tryz.ntmps110
 go_wp2;go_ret;exact⟨rfl,acU _ _⟩
def Gc (N Bv:Nat)(f:Nat->Mv)(m:Mv)(w:World)(hN:N<=w)(hv:w.heap[Bv]?=some (.cells m.cells 31 (0,0))):
  Calls Tz.prog 282 #[(),(0:Int),.slice Bv 1 1] w λe w'=>(∃B' c',e=.returned (.slice (some ⟨B',0,none⟩) 1 c')/\w'.ownsRow N 31 6 (.slice (some ⟨B',0,none⟩) 1 c') 1 (aU (dR f 0 m) 1))/\w.grownBy w' none:=by
 let⟨i0,hI,gE,eG,ga⟩:=eP;have ho:w.ownsRow N 31 6 () 0 []:=⟨rfl,.inl ⟨rfl,rfl⟩⟩;have pi:=uq hv;clear hv;go_enter Tz.func282,Tryz.ntmps282
 go_wp2_with(at_builtin;refine wpList_append_own _ rfl (.tmp 23) (.tmp 24) 23 rfl N 31 i0 _ 6 56 aR hI gE eG ga rfl bd () 0 [] bD ho Bv 1 1 m.cells.toList bD rfl pi (gb m) ie ab hN ?_;intro v2 w2 qN jT ze)
 all_goals
  have hne:v2≠():=λe=>by have:=ze.1 e;simp at this
  obtain⟨B',c',rfl⟩:=lA qN hne;go_ret;have hE:=Fj f 0 m;simp only[Nat.zero_add,List.nil_append]at qN;exact⟨⟨B',c',rfl,by rw[<-hE];simpa[aU]using qN⟩,jT⟩
def Do (f:Nat->Mv)(q:Mv)(w:World):Calls Tz.prog 279 #[(),.agg #[q.name,q.ak,q.ap,q.bF,q.late,q.prom]] w λe w'=>(∃B' c',e=.returned (.slice (some ⟨B',0,none⟩) 1 c')/\w'.ownsRow w.heap.size 31 6 (.slice (some ⟨B',0,none⟩) 1 c') 1 (aU (dR f 0 q) 1))/\Below w w w':=by
 have bA:Below w w (w.alloc<|.cells #[q.name,q.ak,q.ap,q.bF,q.late,q.prom] 31):=(acU _ w).alloc (ac3 _) _;have mA:dw (w.alloc<|.cells #[q.name,q.ak,q.ap,q.bF,q.late,q.prom] 31) w.heap.size q:=heap_alloc_new _ _;go_enter Tz.func279,Tryz.ntmps279
 go_wp2;go_loopw [5] (λx W=>x=.int .i64 0/\Below w w W/\dw W w.heap.size q) (λ_ _=>0)
 case atStart=>exact⟨rfl,bA,mA⟩
 case round=>
  clear bA mA;obtain⟨rfl,hB,hm⟩:=hrel;have lm:w.heap.size<wr:=(ac5.1 hm).1;have hne:=aF wr;have x1:=λx:ai wr=>x.cell (eD hm).c0
  go_wp2;refine jR ?_;intro w2 cj;go_wp2;have hm2:=hm.keep<|cj.block _ lm;have lm2:w.heap.size<w2:=(ac5.1 hm2).1;have B2:=hB.trans<|cj.mono hB.size;have B2d:Below w w w2.drew:=B2.drew;have hmd:dw w2.drew w.heap.size q:=hm2;have ld:w.heap.size<w2.drew:=lm2;clear hm hB cj x1 hne lm hm2 lm2 B2;refine wp_region_held_drew (S:=Xi w.heap.size q) bj (eD hmd) λhHeld=>?_;revert B2d hmd ld hHeld;generalize w2.drew=w3;intro B3 hm3 l3 hHeld;refine aq 0 () 22 rfl Bf hHeld ?_;refine aq 2 (.int .i64 0) 24 rfl Bf hHeld ?_;refine aq 3 (.agg #[q.name,q.ak,q.ap,q.bF,q.late,q.prom]) 25 rfl Bf hHeld ?_;refine Qb 1 4 rfl rfl (λK hK=>?_) λK hK=>?_;focus
   go_simp
   go_at_call 110
   refine(Ar _).mono ?_;rintro e w4 ⟨rfl,b4⟩;go_wp2_with fail
   have Tn:=hm3.keep<|b4.block _ l3;have B4:=B3.trans<|b4.mono B3.size;refine hK.out _ _ (eD Tn) λhHeld=>?_;clear hK K;refine iT 4 rfl λK hK=>?_;go_simp
   have bo:Below w4 w4 (w4.alloc<|.cells #[q.name,q.ak,q.ap,q.bF,q.late,q.prom] 31):=(acU _ _).alloc (ac3 _) _;have VM:=Tn.keep<|bo.block _<|ac4 l3 b4.size;have hv:(w4.alloc<|.cells #[q.name,q.ak,q.ap,q.bF,q.late,q.prom] 31).heap[w4.heap.size]?=some (.cells q.cells 31 (0,0)):=heap_alloc_new _ _;have B5:=B4.trans<|bo.mono B4.size;refine hK.out _ _ (eD VM) λhHeld=>?_;clear hK K;revert VM hv B5 hHeld;generalize w4.alloc (.cells #[q.name,q.ak,q.ap,q.bF,q.late,q.prom] 31)=W5;generalize w4.heap.size=BV;intro VM hv B5 hHeld;clear Tn B4 bo b4 hm3 l3 B3
  rotate_left;focus
   go_simp
   have bo:Below w3 w3 (w3.alloc<|.cells #[q.name,q.ak,q.ap,q.bF,q.late,q.prom] 31):=(acU _ _).alloc (ac3 _) _;have Tn:=hm3.keep<|bo.block _ l3;have hv4:(w3.alloc<|.cells #[q.name,q.ak,q.ap,q.bF,q.late,q.prom] 31).heap[w3.heap.size]?=some (.cells q.cells 31 (0,0)):=heap_alloc_new _ _;have lv:=(ac5.1 hv4).1;have B4:=B3.trans<|bo.mono B3.size;have l4:=(ac5.1 Tn).1;refine hK.out _ _ (eD Tn) λhHeld=>?_;clear hK K;refine iT 1 rfl λK hK=>?_;go_simp
   go_at_call 110
   refine(Ar _).mono ?_;rintro e W5 ⟨rfl,b5⟩;go_wp2_with fail
   have VM:=Tn.keep<|b5.block _ l4;have hv:=(b5.block _ lv).trans hv4;have B5:=B4.trans<|b5.mono B4.size;refine hK.out _ _ (eD VM) λhHeld=>?_;clear hK K;revert hv;generalize w3.heap.size=BV;intro hv;clear Tn B4 bo b5 hm3 l3 B3 hv4 lv l4
  all_goals
   have l5:=(ac5.1 VM).1;refine iT 5 rfl λK hK=>?_;go_simp
   go_at_call 282
   refine(Gc w.heap.size BV f q W5 B5.size hv).mono ?_;rintro e w6 ⟨⟨B',c',rfl,ho⟩,hg⟩;go_wp2_with fail
   have hm6:=VM.keep<|hg.block _ l5 (λe=>nomatch e);have B6:=B5.grown hg B5.size (λq hq=>nomatch hq);refine hK.out _ _ (eD hm6) λhHeld=>?_;clear hK K;refine iT 6 rfl λK hK=>?_;go_simp
   refine hK.out _ _ (eD hm6) λhHeld=>?_;clear hK K;refine wpAnyH_done bj ?_ _;go_wp2;go_ret;exact⟨⟨B',c',rfl,ho⟩,B6⟩
section
variable [g:Gl]
def Lf:vX f 0 q=0:=ww (ac3 _) (λj hj=>absurd hj<|ac7 _) λh=>absurd h<|Nat.lt_irrefl _
def PK (E:dM Tz.prog ok c bY)(Rm:ok.aX 279=true)(hIn:ok.aX 282=true)(vP:g.ov=283)(f7:ok.aX r0.fn=true)(hn:n<=6)(hv:fL V ao n cp f)
  (aH:∀BN cN V',V'.ownsRow V.heap.size 31 6 (.slice (some ⟨BN,0,none⟩) (n+1) cN) (n+1) (aU (dR f (vX f n q) q)<|n+1)->Bl V V V'->aj Tz.prog ok c bY Q ⟨r0.finish<|.slice (some ⟨BN,0,none⟩) (n+1) cN,cs,V'⟩):
  aj Tz.prog ok c bY Q ⟨Frame.enter Tz.prog 279 #[.slice ao n cp,.agg #[q.name,q.ak,q.ap,q.bF,q.late,q.prom]] .normal,r0::cs,V⟩:=by
 cases ao with
 |some ad=>
  obtain⟨b,rfl,hb,hr⟩:=hv.2 _ rfl;exact FP E Rm hIn vP f7 hn hb hr aH
 |none=>
  obtain⟨rfl,rfl⟩:=hv.1 rfl;rw[Lf]at aH;refine aj.calls E f7 (R:=λv W=>∃B' c',v=.slice (some ⟨B',0,none⟩) 1 c'/\W.ownsRow V.heap.size 31 6 (.slice (some ⟨B',0,none⟩) 1 c') 1 (aU (dR f 0 q) 1)/\Bl V V W) (λτ d=>(Do f q<|re V τ d).mono ?_) ?_
  .rintro e w' ⟨⟨B',c',rfl,h⟩,hb⟩;exact⟨_,rfl,B',c',rfl,h,Bl.nP hb⟩
  .rintro v V' ⟨B',c',rfl,h,hb⟩;exact aH B' c' V' h hb
def vD (w:World)(B:Nat)(q:Mv):Prop:=w.heap[B]?=some (.cells q.cells 60 (0,0))
def vD.same {w':World}(h:vD w B q)(e:w'.heap[B]?=w.heap[B]?):vD w' B q:=e.trans h
def vD.cells (h:vD w B q):w.cell? B=some (.string q.name)/\w.cell? ⟨B,1,none⟩=some (.bool q.ak)/\w.cell? ⟨B,2,none⟩=some (.int .i64 q.ap)/\w.cell? ⟨B,3,none⟩=some (.int .i64 q.bF)/\w.cell? ⟨B,4,none⟩=some (.int .i64 q.late)/\w.cell? ⟨B,5,none⟩=some (.int .i64 q.prom):=by
 unfold vD at h;refine⟨?_,?_,?_,?_,?_,?_⟩<;>simp[World.cell?,h,Mv.cells]
def vD.lt (h:vD w B q):B<w:=(ac5.1 h).1
def Ye (now shift:Int)(f:Nat->Mv)(n:Nat)(q:Mv)(N:Nat)(y e:Value)(W:World):Prop:=match Aj f n now shift q with
 |.no cd=>y=.agg #[(0:Int),(0:Int),(),()]/\e=.iface 131 (.agg #[.int .i64 cd])
 |.yes p T=>e=.nilIface/\∃BN c2 BT c3,y=.agg #[.int .i64 now,.int .i64 shift,.slice (some ⟨BN,0,none⟩) (n+1) c2,.slice (some ⟨BT,0,none⟩) (n+1) c3]/\N<=BN/\N<=BT/\BE W BN (n+1) (dR f p q)/\aC W BT (n+1) T/\n+1<=c3
structure InC (ok:Ctx):Prop where
 md:ok.aX 276=true
 wm:ok.aX 279=true
 ins:ok.aX 282=true
 pl:ok.aX 80=true
 sb:ok.aX 111=true
 bt:ok.aX 139=false
def Wn (h:aM now shift f n t m=true):0<=now/\now<=10000:=by
 unfold aM at h;simp only[Bool.and_eq_true]at h;exact d6.1 h.1.1.1
def PE (E:dM Tz.prog ok c bY)(hA:InC ok)(vP:g.ov=283)(f7:ok.aX r0.fn=true)(hB:Bq V now shift ao n cp f bo m dp t)(nI:aM now shift f n t m=true)(hq:q.Fits)
  (aH:∀y e W',Bl V V W'->Ye now shift f n q V.heap.size y e W'->aj Tz.prog ok c bY Q ⟨r0.finish<|.tuple #[y,e],cs,W'⟩):
  aj Tz.prog ok c bY Q ⟨Frame.enter Tz.prog 276 #[.agg #[q.name,q.ak,q.ap,q.bF,q.late,q.prom],.agg #[now,shift,.slice ao n cp,.slice bo m dp]] .normal,r0::cs,V⟩:=by
 let⟨hm,uU,hf⟩:=bG nI;subst uU;replace aH:Hid _:=aH;have h6:=hB.n6;have fZ:=hA.md;have lQ:∀cd W,Aj f m now shift q=.no cd->Ye now shift f m q V.heap.size (.agg #[(0:Int),(0:Int),(),()]) (.iface 131<|.agg #[.int .i64 cd]) W:=λcd W h=>by unfold Ye;rw[h];exact⟨rfl,rfl⟩
 replace lQ:Hid _:=lQ;refine aj.en Tz.func276 rfl Tryz.ntmps276 vH ?_;refine aj.ck E fZ [_,_] _ λK R τ0 kW hK hR=>?_
 let⟨W1,e1,k1,b1⟩:=DS (re V τ0 kW) #[q.name,q.ak,q.ap,q.bF,q.late,q.prom] 60;obtain⟨W2,e2,k2,b2,-⟩:=cI W1 now shift ao m cp bo m dp;obtain⟨W3,e3,k3,b3,-⟩:=cI W2 0 0 none 0 0 none 0 0;have bW:=Bl.nP<|(b1.trans<|b2.mono b1.size).trans<|b3.mono<|ac6 b1.size b2.size;have l1:=(ac5.1 k1).1;have p1:vD W3 (re V τ0 kW).heap.size q:=(b3.block _<|ac4 l1 b2.size).trans<|(b2.block _ l1).trans k1;have p2:=k2.same<|b3.block _ k2.lt;have o2:V.heap.size<=W1:=b1.size;have o3:W1.heap.size<W2:=k2.lt;have HM:=xR q W3;let⟨s0,s1,s2,s3,s4,s5⟩:=p1.cells;have back:∀{w4 W8:World},Bl V V w4->W8.heap.size=w4.heap.size->(∀k,k≠W2.heap.size->W8.heap[k]?=w4.heap[k]?)->Bl V V W8:=λh h1 h2=>⟨by rw[h1];exact h.size,λk hk=>(h2 k ab).trans<|h.block k hk⟩
 replace back:Hid _:=@back;have hgo:q.ok=false\/(q.ok=true/\¬q.prom<0/\(q.prom==-1)=false)\/q.ok=true/\q.prom<0/\(q.prom==-1)=true:=by
  cases eO:q.ok with
  |false=>exact .inl rfl
  |true=>
   have I6:=Mv.fp eO;by_cases hp:q.prom<0
   .exact .inr (.inr ⟨rfl,hp,cH⟩)
   .exact .inr (.inl ⟨rfl,hp,cH⟩)
 simp only[aD];rcases hgo with eO|⟨eO,hp,hd⟩|⟨eO,hp,hd⟩;all_goals rw[eO]at HM
 .replace eO:Hid _:=eO;go_wp2_with(go_at_call 106;refine HM.mono ?_;clear HM;rintro e w4 ⟨rfl,b4⟩;have j3:=k3.same<|b4.block _ k3.lt;let⟨z0,z1,z2,z3,z4⟩:=j3.cells;obtain⟨W8,e8,k8,-,z8,o8⟩:=aV j3 (acU 0 _) (ac8 _) 0 0 none 0 0 none 0 0;replace z8:Hid _:=z8)
  exact hR.out _ _ λtodo=>aj.lv E f7 Tz.func276 (λτ d=>cg rfl rfl rfl<|k8.r τ d)<|aH.out _ _ _ (back.out (bW.trans (Bl.of b4) bW.size) z8.out o8)<|lQ.out 2 W8<|IU<|.inl eO.out
 .replace eO:Hid _:=eO;replace hp:Hid _:=hp;go_wp2_with(go_at_call 106;refine HM.mono ?_;clear HM;rintro e w4 ⟨rfl,b4⟩;have j3:=k3.same<|b4.block _ k3.lt;let⟨z0,z1,z2,z3,z4⟩:=j3.cells;let⟨r0,r1,r2,r3,r4,r5⟩:=(p1.same<|b4.block _ p1.lt).cells;obtain⟨W8,e8,k8,-,z8,o8⟩:=aV j3 (acU 0 _) (ac8 _) 0 0 none 0 0 none 0 0;replace z8:Hid _:=z8)
  exact hR.out _ _ λtodo=>aj.lv E f7 Tz.func276 (λτ d=>cg rfl rfl rfl<|k8.r τ d)<|aH.out _ _ _ (back.out (bW.trans (Bl.of b4) bW.size) z8.out o8)<|lQ.out 2 W8<|IU<|.inr hp.out
 have I6:=Mv.fp eO;replace eO:Hid _:=eO;replace hp:Hid _:=hp;go_wp2_with(go_at_call 106;refine HM.mono ?_;clear HM;rintro e w4 ⟨rfl,b4⟩;let⟨r0,r1,r2,r3,r4,r5⟩:=(p1.same<|b4.block _ p1.lt).cells)
 refine hK.out _ _ ?_;have bV:Bl V V w4:=bW.trans (Bl.of b4) bW.size;replace p1:=p1.same<|b4.block _ p1.lt;replace p2:=p2.same<|b4.block _ p2.lt;have p3:=k3.same<|b4.block _ k3.lt;clear hK hR K R e1 e2 e3 k1 k2 k3 b1 b2 b3 b4 s0 s1 s2 s3 s4 s5 r0 r1 r2 r3 r4 r5 bW l1 hd;refine aj.ck E fZ [_] _ λK R τ d hK hR=>?_
 have H1:=p6 ao m cp f q.name (re w4 τ d) h6 (hB.bl (show Bl V V (re w4 τ d) from⟨bV.size,bV.block⟩)).sm;let⟨y0,y1,y2,y3,y4⟩:=p2.rc τ d;let⟨s0,s1,s2,s3,s4,s5⟩:=(show vD (re w4 τ d) _ q from p1).cells;simp only[aD];rcases MG f m q.name with⟨J,hJ,xA,Xr⟩|xA
 .have AT:∀k,eI f m q.name k->0<=k:=λk hk=>by have:=jj.yes hJ xA Xr hk;omega
  go_wp2_with(go_at_call 278;refine H1.mono ?_;clear H1;rintro e w5 ⟨⟨kk,rfl,F4⟩,b5⟩;have uS:=AT kk F4;have j3:=(p3.r τ d).same<|b5.block _ p3.lt;let⟨z0,z1,z2,z3,z4⟩:=j3.cells;obtain⟨W8,e8,k8,-,z8,o8⟩:=aV j3 (acU 0 _) (ac8 _) 0 0 none 0 0 none 0 0;replace z8:Hid _:=z8)
  all_goals try omega
  exact hR.out _ _ λtodo=>aj.lv E f7 Tz.func276 (λτ d=>cg rfl rfl rfl<|k8.r τ d)<|aH.out _ _ _ (back.out (bV.trans (Bl.nP b5) bV.size) z8.out o8)<|lQ.out 3 W8<|SQ eO.out hp.out ⟨J,hJ,xA⟩
 have AT:∀k,eI f m q.name k->k<0:=λk hk=>by have:=jj.no xA hk;omega
 go_wp2_with(go_at_call 278;refine H1.mono ?_;clear H1;rintro e w5 ⟨⟨kk,rfl,F4⟩,b5⟩;have uS:=AT kk F4)
 all_goals try omega
 refine hK.out _ _ ?_;have bV:Bl V V w5:=bV.trans (Bl.nP b5) bV.size;replace p1:vD w5 _ q:=p1.same<|b5.block _ p1.lt;replace p2:aT w5 _ _ _ _ _:=p2.same<|b5.block _ p2.lt;replace p3:aT w5 _ _ _ _ _:=p3.same<|b5.block _ p3.lt;clear hK hR K R b5 y0 y1 y2 y3 y4 s0 s1 s2 s3 s4 s5 AT F4 uS;refine aj.ck E fZ [_] _ λK R τ d hK hR=>?_
 let⟨y0,y1,y2,y3,y4⟩:=p2.rc τ d;simp only[aD];by_cases ay:m<6;rotate_left
 .obtain rfl:m=6:=ab;let⟨z0,z1,z2,z3,z4⟩:=p3.rc τ d;obtain⟨W8,e8,k8,-,z8,o8⟩:=aV (p3.r τ d) (acU 0 _) (ac8 _) 0 0 none 0 0 none 0 0;replace z8:Hid _:=z8;go_wp2;exact hR.out _ _ λtodo=>aj.lv E f7 Tz.func276 (λτ d=>cg rfl rfl rfl<|k8.r τ d)<|aH.out _ _ _ (back.out bV z8.out o8)<|lQ.out 4 W8<|SR eO.out hp.out xA ab
 have dq:((m:Int)==6)=false:=cH;go_wp2;refine hK.out _ _<|aj.un ?_;clear hK hR K R y0 y1 y2 y3 y4 dq;refine aj.seq E fZ<|aj.rg E fZ<|aj.oc E fZ 0 4 λK τ d hK=>?_;let⟨y0,y1,y2,y3,y4⟩:=p2.rc τ d;let⟨s0,s1,s2,s3,s4,s5⟩:=(show vD (re w5 τ d) _ q from p1).cells;simp only[aK];go_wp2;refine hK.out _ _<|aj.un ?_;clear hK K y0 y1 y2 y3 y4 s0 s1 s2 s3 s4 s5;refine aj.dO E (i:=4) rfl rfl hA.wm (λw=>y7)<|PK (q:=q) E hA.wm hA.ins vP fZ h6 (hB.bl bV).sm ?_;have l35:=p3.lt;intro BN cN V6 o6 b6;rw[bT rfl];have S0:=o6.lt BN rfl;have rM:BE V6 BN (m+1) (dR f (vX f m q) q):=CL o6;have z5:=bV.size;have z6:=b6.size;have p2:=p2.same<|b6.block _ p2.lt;have p3:=p3.same<|b6.block _ p3.lt;have bV:=bV.trans b6 z5;have hPm:az (dR f (vX f m q) q) (m+1)=true:=by
  let⟨K,S2,Xs,Xt⟩:=p7 (λj=>bX (f j).name q.name) m;rw[ww S2 Xs Xt];exact AW hm ay S2 eO.out Xs Xt xA
 have qS:=SS (now:=now) (shift:=shift) eO.out hp.out xA ay rfl;replace qS:Hid _:=qS;clear o6 p1 b6;refine aj.oc E fZ 5 1 λK τ d hK=>?_
 simp only[aK,Act.put];go_wp2;refine hK.out _ _<|aj.un<|aj.regionEnd E fZ ?_;clear hK K;refine aj.seq E fZ<|aj.rg E fZ<|aj.oc E fZ 0 5 λK τ d hK=>?_;let⟨y0,y1,y2,y3,y4⟩:=p2.rc τ d;simp only[aK];go_wp2;refine hK.out _ _<|aj.un ?_;clear hK K y0 y1 y2 y3 y4;have KJ:0<=now/\now<=10000:=Wn nI;refine aj.dO E (i:=5) rfl rfl hA.pl (λw=>y7)<|Dq (cap:=cN) (shift:=shift) E hA.pl hA.sb hA.bt fZ ab (λi hi=>aW hPm i hi) KJ.1 ab S0.2 rM.1 ?_;intro v V7 fQ;rw[bT rfl];replace qS:=qS.out;generalize fI (dR f (vX f m q) q) (m+1) now shift=r at fQ qS;obtain⟨v5,rfl,t5,b7⟩:=wu fQ;have Za:Hid (∀a l c,v5=.slice a l c->l<=c):=λa l c e=>Fb fQ e
 clear fQ;obtain⟨br,lP⟩:∃br,r.isSome=br:=⟨_,rfl⟩;rw[lP];have z7:=b7.size;have z6:=bV.size;have p2:=p2.same<|b7.block _ p2.lt;have p3:=p3.same<|b7.block _ p3.lt;have rM:=rM.same<|b7.block BN S0.2;have bV:=bV.trans b7 z6;have n4:BN≠W2.heap.size:=ab;replace qS:Hid _:=qS;replace lP:Hid _:=lP;replace t5:Hid _:=t5;refine aj.oc E fZ 6 5 λK τ d hK=>?_
 simp only[aK,Act.put];go_wp2;refine hK.out _ _<|aj.un<|aj.regionEnd E fZ ?_;clear hK K;cases r with
 |none=>
  have lP:=lP.out;subst lP;refine aj.ck E fZ [_] _ λK R τ d hK hR=>?_
  let⟨z0,z1,z2,z3,z4⟩:=p3.rc τ d;obtain⟨W8,e8,k8,-,z8,o8⟩:=aV (p3.r τ d) (acU 0 _) (ac8 _) 0 0 none 0 0 none 0 0;replace z8:Hid _:=z8;simp only[aD,Option.isSome_none];go_wp2;exact hR.out _ _ λtodo=>aj.lv E f7 Tz.func276 (λτ d=>cg rfl rfl rfl<|k8.r τ d) (aH.out _ _ _ (back.out bV z8.out o8)<|lQ.out 5 W8 qS.out)
 |some T=>
  have lP:=lP.out;subst lP;obtain⟨BS,cS,hBS,rfl,oS⟩:=t5.out;have n5:BS≠W2.heap.size:=ab;refine aj.ck E fZ [_,_] _ λK R τ d hK hR=>?_
  let⟨y0,y1,y2,y3,y4⟩:=p2.rc τ d;let⟨z0,z1,z2,z3,z4⟩:=p3.rc τ d;obtain⟨W8,e8,k8,-,z8,o8⟩:=aV (p3.r τ d) (acU 0 _) (ac8 _) now shift (some ⟨BN,0,none⟩) (m+1) cN (some ⟨BS,0,none⟩) (m+1) cS;replace z8:Hid _:=z8;simp only[aD,Option.isSome_some];go_wp2;refine hK.out _ _<|aj.ret E fZ<|aj.lv E f7 Tz.func276 (λτ d=>cg rfl rfl rfl<|k8.r τ d)<|aH.out _ _ _ (back.out bV z8.out o8) ?_;unfold Ye;rw[qS.out];exact⟨rfl,BN,cN,BS,cS,rfl,ab,ab,rM.same<|o8 BN n4,fi oS<|o8 BS n5,Za.out _ _ _ rfl⟩
end
def Z' (v:Value)(w:World):(Instr.typeAssert (.iface 60 v) 104 134 true).run Tz.prog w=.ok (.tuple #[.iface 60 v,true]) w:=run_typeAssert_hasB (Tz.aE Tryz.underlying134) bj v 104 w
def Iz (q:Mv)(w:World):Calls Tz.prog 277 #[.agg #[q.name,q.ak,q.ap,q.bF,q.late,q.prom]] w λe w'=>e=.returned (.iface 131<|.agg #[(6:Int)])/\Below w w w':=by
 have bA:∀o,Below w w (w.alloc o):=λo=>(acU _ w).alloc (ac3 _) _
 go_enter Tz.func277,Tryz.ntmps277
 go_wp2;go_ret;exact⟨rfl,bA _⟩
section
variable [g:Gl]{bb:Bool}
def Mu (now shift:Int)(f:Nat->Mv)(n:Nat)(q:Mv)(N:Nat)(y e:Value)(W:World):Prop:=match wc f n now shift q with
 |.no cd=>y=.agg #[(0:Int),(0:Int),(),()]/\e=.iface 131 (.agg #[.int .i64 cd])
 |.yes p T=>e=.nilIface/\∃BN c2 BT c3,y=.agg #[.int .i64 now,.int .i64 shift,.slice (some ⟨BN,0,none⟩) (n+1) c2,.slice (some ⟨BT,0,none⟩) (n+1) c3]/\N<=BN/\N<=BT/\BE W BN (n+1) (dR f p q)/\aC W BT (n+1) T/\n+1<=c3
def V8 (now shift:Int)(f:Nat->Mv)(n:Nat)(q:Mv):Mw (Mu now shift f n q) where
 is:=λh=>by
  unfold Mu at h;cases hr:wc f n now shift q with
  |no cd=>rw[hr]at h;exact .inr ⟨cd,IS hr,h.2,h.1⟩
  |yes p T=>rw[hr]at h;let⟨h1,BN,c2,BT,c3,h2,_⟩:=h;exact .inl ⟨h1,_,_,_,_,_,_,_,_,h2⟩
 to:=λh hN e=>by
  unfold Mu at h⊢;cases hr:wc f n now shift q with
  |no cd=>rw[hr]at h;exact h
  |yes p T=>
   rw[hr]at h;let⟨h1,BN,c2,BT,c3,h2,h3,h4,h5,h6,h7⟩:=h;exact⟨h1,BN,c2,BT,c3,h2,ac6 hN h3,ac6 hN h4,h5.same<|e BN h3 h5.lt,fi h6<|e BT h4 h6.lt,h7⟩
def IV {T:Nat->Int}(h:Aj f n now shift q=.yes p T):q.ok=true/\q.prom<0/\(∀j,j<n->bJ (f j).name q.name=false)/\n<6/\p=vX f n q/\fI (dR f p q) (n+1) now shift=some T:=by
 unfold Aj at h;split at h
 .cases h
 .split at h
  .cases h
  .split at h
   .cases h
   .rename_i h1 h2 h3;cases hp:fI (dR f (vX f n q) q) (n+1) now shift with
    |none=>rw[hp]at h;cases h
    |some T'=>
     rw[hp]at h;cases h;have pn:=not_or.1 h1;refine⟨by simpa using pn.1,by simpa using pn.2,λj hj=>?_,ab,rfl,hp⟩;cases hs:bJ (f j).name q.name with
     |false=>rfl
     |true=>exact absurd ⟨j,hj,hs⟩ h2
def OM {P:Mv->Prop}{i:Nat}(h:∀i,i<n->P (f i))(hq:P q)(hi:i<n+1)(hp:p<=n):P (dR f p q i):=by
 unfold dR;split
 .exact h i ab
 .split
  .exact hq
  .exact h (i-1) ab
def LU (E:dM Tz.prog ok c bY)(jf:ok.aX 67=true)(hA:InC ok)(kB:ok.aX 18=true)(sI:ok.aX 52=true)(vP:g.ov=283)(f7:ok.aX r0.fn=true)(hB:Bq V now shift ao n cp f bo m dp t)(hq:q.Fits)
  (aH:∀y e W',Bl V V W'->(aM now shift f n t m=false/\y=.agg #[(0:Int),(0:Int),(),()]/\e=.iface 131 (.agg #[(1:Int)])\/aM now shift f n t m=true/\Mu now shift f n q V.heap.size y e W')->aj Tz.prog ok c bY Q ⟨r0.finish<|.tuple #[y,e],cs,W'⟩):
  aj Tz.prog ok c bY Q ⟨Frame.enter Tz.prog 67 #[.agg #[now,shift,.slice ao n cp,.slice bo m dp],.iface 60<|.agg #[q.name,q.ak,q.ap,q.bF,q.late,q.prom]] .normal,r0::cs,V⟩:=by
 replace aH:Hid _:=aH;refine aj.en Tz.func67 rfl Tryz.ntmps67 vH ?_;refine aj.ck E jf [_,_] _ λK R τ d hK hR=>?_
 obtain⟨W1,e1,k2,b1,-⟩:=cI (re V τ d) now shift ao n cp bo m dp;obtain⟨W2,e2,k4,b2,-⟩:=cI W1 0 0 none 0 0 none 0 0;have bW:=b1.trans<|b2.mono b1.size;have H1:=(hB.bl<|Bl.nP bW).ib;let⟨y0,y1,y2,y3,y4⟩:=(k2.same<|b2.block _ k2.lt).cells;simp only[aD];rcases Bool.eq_false_or_eq_true (aM now shift f n t m)with hb|hb;all_goals rw[hb]at H1
 rotate_left
 .replace hb:Hid _:=hb;go_wp2_with(go_at_call 16;refine H1.mono ?_;clear H1;rintro e w3 ⟨rfl,b3⟩;have j4:=k4.same<|b3.block _ k4.lt;let⟨z0,z1,z2,z3,z4⟩:=j4.cells;have bV:=bW.trans<|b3.mono bW.size;obtain⟨W5,e5,k5,b5,-,o5⟩:=aV j4 bV b1.size 0 0 none 0 0 none 0 0)
  refine hR.out _ _ λtodo=>?_
  exact aj.lv E f7 Tz.func67 (λτ d=>cg rfl rfl rfl<|k5.r τ d)<|aH.out _ _ _ (Bl.nP b5)<|.inl ⟨hb.out,rfl,rfl⟩
 replace hb:Hid _:=hb;go_wp2_with(go_at_call 16;refine H1.mono ?_;clear H1;rintro e w3 ⟨rfl,b3⟩)
 refine hK.out _ _ ?_;have p2:=(k2.same<|b2.block _ k2.lt).same<|b3.block _<|ac4 k2.lt b2.size;have p4:=k4.same<|b3.block _ k4.lt;have bV:=Bl.nP<|bW.trans<|b3.mono bW.size;have o4:V.heap.size<W1:=k2.lt;clear hK hR K R k2 k4 b1 b2 b3 bW y0 y1 y2 y3 y4 e1 e2;refine aj.seq E jf<|aj.rg E jf<|aj.oc E jf 0 2 λK τ d hK=>?_;let⟨y0,y1,y2,y3,y4⟩:=p2.rc τ d;simp only[aK];go_wp2;refine hK.out _ _<|aj.un ?_;clear hK K y0 y1 y2 y3 y4;refine aj.dO E (i:=2) rfl rfl hA.md (λw=>bj)<|PE E hA vP jf (hB.bl bV) hb.out hq ?_;rintro y e W4 b4 hy;rw[bT rfl];have l3:=p4.lt;have p4:=p4.same<|b4.block _ l3;have l4:=p4.lt;have z4:=b4.size;have z0:=bV.size;have bV:=bV.trans b4 z0;unfold Ye at hy;cases qS:Aj f n now shift q with
 |no cd=>
  rw[qS]at hy;obtain⟨rfl,rfl⟩:=hy;have had:=tY qS;replace had:Hid _:=had;clear qS;refine aj.oc E jf 3 6 λK τ d hK=>?_
  simp only[aK,Act.put];go_wp2;refine hK.out _ _<|aj.regionEnd E jf ?_;clear hK K;obtain⟨W5,e5,k5,b5,-⟩:=cI (re W4 τ d) 0 0 none 0 0 none 0 0;rw[e5];clear e5;have p4:=p4.same<|b5.block _ l4;refine aj.ck E jf [_] _ λK R τ d hK hR=>?_
  let⟨x0,x1,x2,x3,x4⟩:=p4.rc τ d;obtain⟨W8,e8,k8,-,z8,o8⟩:=aV (p4.r τ d) (acU 0 _) (ac8 _) 0 0 none 0 0 none 0 0;replace z8:Hid _:=z8;simp only[aD];go_wp2;have z5:W4.heap.size<=W5:=b5.size;have z8:W8.heap.size=W5.heap.size:=z8.out;exact hR.out _ _ λtodo=>aj.lv E f7 Tz.func67 (λτ d=>cg rfl rfl rfl<|k8.r τ d) (aH.out _ _ _ ⟨ab,λk hk=>(o8 k ab).trans<|(b5.block k (by show k<W4.heap.size;omega)).trans<|bV.block k hk⟩<|.inr ⟨hb.out,by unfold Mu;rw[had.out];exact⟨rfl,rfl⟩⟩)
 |yes p T=>
  rw[qS]at hy;obtain⟨rfl,BN,c2,BT,c3,rfl,g1,g2,g3,g4,g5⟩:=hy;replace g5:Hid _:=g5;let⟨a1,a2,a3,a4,a5,a6⟩:=IV qS;have hp:p<=n:=by rw[a5];exact(Classical.choose_spec<|p7 (λj=>bX (f j).name q.name) n).1
  have PR:Bq W4 now shift BN (n+1) c2 (dR f p q) BT (n+1) c3 T:=⟨ab,ab,⟨(λh=>nomatch h),λad had=>⟨BN,by cases had;rfl,g3.lt,g3.1⟩⟩,⟨(λh=>nomatch h),λad had=>⟨BT,by cases had;rfl,g4.lt,g4.2⟩⟩,(λh=>by rcases h with h|h<;>cases h),λi hi=>OM (P:=Mv.Fits) hB.fit hq hi hp⟩;replace qS:Hid _:=qS;clear a1 a2 a3 a4 a5 a6 hp;refine aj.oc E jf 3 6 λK τ d hK=>?_
  simp only[aK,Act.put];go_wp2;refine hK.out _ _<|aj.regionEnd E jf ?_;clear hK K;obtain⟨W5,e5,k5,b5,-⟩:=cI (re W4 τ d) now shift (some ⟨BN,0,none⟩) (n+1) c2 (some ⟨BT,0,none⟩) (n+1) c3;rw[e5];clear e5;have p4:=p4.same<|b5.block _ l4;have z5:W4.heap.size<=W5:=b5.size;have B5:Bl W4 W4 W5:=Bl.nP b5;replace PR:=PR.bl B5;replace g3:=g3.same<|B5.block BN g3.lt;replace g4:=fi g4<|B5.block BT g4.lt;replace bV:=bV.trans B5 bV.size;refine aj.ck E jf [_] _ λK R τ d hK hR=>?_
  simp only[aD];go_wp2;refine hK.out _ _<|aj.un ?_;clear hK hR K R;have hTA:=Z'<|.agg #[q.name,q.ak,q.ap,q.bF,q.late,q.prom];refine aj.seq E jf<|aj.ck E jf [_,_] _ λK R τ d hK hR=>?_;simp only[aD];go_wp2;refine hK.out _ _<|aj.un<|aj.cond E jf (t:=true) rfl ?_;clear hK hR K R hTA;refine aj.seq E jf<|aj.rg E jf<|aj.oc E jf 0 1 λK τ d hK=>?_;let⟨y0,y1,y2,y3,y4⟩:=k5.rc τ d;simp only[aK];go_wp2;refine hK.out _ _<|aj.un ?_;clear hK K y0 y1 y2 y3 y4;refine aj.dO E (i:=1) rfl rfl kB (λw=>y7)<|yX E kB sI hA.pl hA.sb hA.bt jf PR ?_;intro V6 b6;rw[bT rfl];have z6:=b6.size;have z50:=bV.size;have k5:=k5.same<|b6.block _ k5.lt;have p4:=p4.same<|b6.block _ p4.lt;have g3:=g3.same<|b6.block BN g3.lt;have g4:=fi g4<|b6.block BT g4.lt;have bV:=bV.trans b6 z50;obtain⟨sb,sK⟩:∃sb,dG now shift (dR f p q) (n+1) T (n+1)=sb:=⟨_,rfl⟩;rw[sK];replace sK:Hid _:=sK;refine aj.oc E jf 2 1 λK τ d hK=>?_
  simp only[aK,Act.put];go_wp2;refine hK.out _ _<|aj.un<|aj.regionEnd E jf<|aj.cond E jf (t:=!sb) rfl ?_;clear hK K;have nN:BN≠W1.heap.size:=ab;have nT:BT≠W1.heap.size:=ab;have back:∀{w W8:World},Bl V V w->W8.heap.size=w.heap.size->(∀k,k≠W1.heap.size->W8.heap[k]?=w.heap[k]?)->Bl V V W8:=λh h1 h2=>⟨by rw[h1];exact h.size,λk hk=>(h2 k ab).trans<|h.block k hk⟩
  replace back:Hid _:=@back;cases sb with
  |false=>
   refine aj.seq E jf<|aj.rg E jf<|aj.oc E jf 0 2 λK τ d hK=>?_;simp only[aK];go_wp2;refine hK.out _ _<|aj.un ?_;clear hK K;refine aj.TP E jf (i:=2) rfl rfl (f:=277) (xs:=#[.agg #[q.name,q.ak,q.ap,q.bF,q.late,q.prom]]) (R:=λv V'=>v=.iface 131 (.agg #[(6:Int)])/\Bl V6 V6 V') (λw=>bj) (λτ d=>(Iz q<|re V6 τ d).mono (by rintro e w' ⟨rfl,h⟩;exact⟨_,rfl,rfl,Bl.nP h⟩)) ?_;rintro v V7 ⟨rfl,b7⟩;have p4:=p4.same<|b7.block _ p4.lt;have bV:=bV.trans b7 bV.size;refine aj.oc E jf 3 2 λK τ d hK=>?_
   let⟨x0,x1,x2,x3,x4⟩:=p4.rc τ d;obtain⟨W8,e8,k8,-,z8,o8⟩:=aV (p4.r τ d) (acU 0 _) (ac8 _) 0 0 none 0 0 none 0 0;replace z8:Hid _:=z8;simp only[aK,Act.put];go_wp2;exact hK.out _ _ (aj.regionEnd E jf<|aj.ret E jf<|aj.lv E f7 Tz.func67 (λτ d=>cg rfl rfl rfl<|k8.r τ d)<|aH.out _ _ _ (back.out bV z8.out o8)<|.inr ⟨hb.out,by unfold Mu;rw[SP qS.out sK.out];exact⟨rfl,rfl⟩⟩)
  |true=>
   refine aj.skip E jf<|aj.ck E jf [_] _ λK R τ d hK hR=>?_;let⟨y0,y1,y2,y3,y4⟩:=k5.rc τ d;let⟨x0,x1,x2,x3,x4⟩:=p4.rc τ d;obtain⟨W8,e8,k8,-,z8,o8⟩:=aV (p4.r τ d) (acU 0 _) (ac8 _) now shift (some ⟨BN,0,none⟩) (n+1) c2 (some ⟨BT,0,none⟩) (n+1) c3;replace z8:Hid _:=z8;simp only[aD];go_wp2;refine hK.out _ _<|aj.ret E jf<|aj.lv E f7 Tz.func67 (λτ d=>cg rfl rfl rfl<|k8.r τ d)<|aH.out _ _ _ (back.out bV z8.out o8)<|.inr ⟨hb.out,?_⟩;unfold Mu;rw[SO qS.out sK.out];exact⟨rfl,BN,c2,BT,c3,rfl,ab,ab,g3.same<|o8 BN nN,fi g4<|o8 BT nT,g5.out⟩
end
section
variable [g:Gl]
def Bq.cy (hB:Bq V now shift ao n cp f bo m dp t)(W:World)(hW:Bl V V W):Calls Tz.prog 69 #[.agg #[now,shift,.slice ao n cp,.slice bo m dp]] W λe w'=>(∃y,e=.returned y/\IN now shift f n t m W.heap.size y w')/\Below W W w':=
 (rB now shift ao n cp f bo m dp t W hB.n6 hB.m6 (hB.bl hW).sm (hB.bl hW).si (λh=>⟨(hB.two h).1,(hB.two h).2.1⟩)).mono λe w' ⟨⟨v,u,h1,h2,h3⟩,hb⟩=>⟨⟨_,h1,v,u,rfl,h2,h3⟩,hb⟩
def SI (E:dM Tz.prog ok c bY)(Tb:ok.aX 8=true)(sW:ok.aX 38=true)(jf:ok.aX 67=true)(Ns:ok.aX 68=false)(hA:InC ok)(kB:ok.aX 18=true)(sI:ok.aX 52=true)(vP:g.ov=283)(f7:ok.aX r0.fn=true)(hB:Bq V now shift ao n cp f bo m dp t)(hq:q.Fits)
  (aH:∀y cd W',Bl V V W'->zZ (Mu now shift f n q) (IN now shift f n t m) (aM now shift f n t m) V.heap.size y cd W'->aj Tz.prog ok c bY Q ⟨r0.finish<|.tuple #[y,.int .i64 cd],cs,W'⟩):
  aj Tz.prog ok c bY Q ⟨Frame.enter Tz.prog 8 #[.agg #[now,shift,.slice ao n cp,.slice bo m dp],.agg #[q.name,q.ak,q.ap,q.bF,q.late,q.prom]] .normal,r0::cs,V⟩:=by
 replace aH:Hid _:=aH;refine aj.en Tz.func8 rfl Tryz.ntmps8 vH ?_;refine aj.ck E Tb [_] _ λK R τ0 kW hK hR=>?_
 obtain⟨W1,e1,k2,b1,-⟩:=cI (re V τ0 kW) now shift ao n cp bo m dp;let⟨W2,e2,k3,b2⟩:=DS W1 #[q.name,q.ak,q.ap,q.bF,q.late,q.prom] 31;obtain⟨W3,e3,k4,b3,-⟩:=cI W2 0 0 none 0 0 none 0 0;have bW:=Bl.nP<|(b1.trans<|b2.mono b1.size).trans<|b3.mono<|ac6 b1.size b2.size;simp only[aD];go_wp2;refine hK.out _ _ ?_;have p2:=(k2.same<|b2.block _ k2.lt).same<|b3.block _<|ac4 k2.lt b2.size;have p3:dw W3 W1.heap.size q:=(b3.block _ (ac5.1 k3).1).trans k3;have o4:V.heap.size<W2:=ac4 k2.lt b2.size;clear hK hR K R k2 k3 b1 b2 b3 e1 e2 e3;refine aj.seq E Tb<|aj.rg E Tb<|aj.oc E Tb 0 4 λK τ d hK=>?_;let⟨y0,y1,y2,y3,y4⟩:=p2.rc τ d;let⟨s0,s1,s2,s3,s4,s5⟩:=eD (show dw (re W3 τ d) _ q from p3);simp only[aK];go_wp2;refine hK.out _ _<|aj.un ?_;clear hK K y0 y1 y2 y3 y4 s0 s1 s2 s3 s4 s5;refine aj.dO E (i:=4) rfl rfl sW (λw=>y7)<|vC (bb:=aM now shift f n t m) E sW jf Ns Tb (V8 now shift f n q) (λhr hW h=>LU E jf hA kB sI vP hr ((hB.bl bW).bl hW) hq h) (zc now shift f n t m) (λW hW=>(hB.bl bW).cy W hW) ?_;rintro y cd W4 b4 hy;rw[bT rfl];obtain⟨a0,a1,s2,l2,c2,s3,l3,c3,rfl⟩:=hy.is (V8 now shift f n q)<|zc now shift f n t m;have VY:=k4.lt;have k4:=k4.same<|b4.block _ VY;have z0:=bW.size;have z4:=b4.size;have bV:=bW.trans b4 z0;refine aj.oc E Tb 5 4 λK τ d hK=>?_
 let⟨x0,x1,x2,x3,x4⟩:=k4.rc τ d;obtain⟨W8,e8,k8,-,z8,o8⟩:=aV (k4.r τ d) (acU 0 _) (ac8 _) a0 a1 s2 l2 c2 s3 l3 c3;replace z8:Hid _:=z8;simp only[aK,Act.put];go_wp2;have z8:W8.heap.size=W4.heap.size:=z8.out;exact hK.out _ _<|aj.regionEnd E Tb<|aj.ret E Tb<|aj.lv E f7 Tz.func8 (λτ d=>cg rfl rfl rfl<|k8.r τ d)<|aH.out _ _ _ ⟨ab,λk hk=>(o8 k ab).trans<|bV.block k hk⟩<|hy.to (V8 now shift f n q) (zc now shift f n t m) z0 λk g1 g2=>o8 k ab
end
