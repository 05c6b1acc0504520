import Derived.Test.YtlmcblcijndipaaGreatDoorj35
set_option linter.unusedSectionVars false
set_option linter.unusedVariables false
set_option maxHeartbeats 4000000
set_option maxRecDepth 100000
namespace Go.Proofs.YtlmcblcijndipaaGreatDoor
section
open Conc RowKit
noncomputable def eX (now shift:Int)(f:Nat->Mv)(n:Nat)(t:Nat->Int)(m:Nat):Bool:=bp now shift f n t m&&@decide (uC f n t) (Classical.propDecidable _)
theorem Dz {now shift:Int}{f:Nat->Mv}{n m:Nat}{t:Nat->Int}(h:bp now shift f n t m=false):eX now shift f n t m=false:=by unfold eX;rw[h];rfl
theorem p9 {now shift:Int}{f:Nat->Mv}{n m:Nat}{t:Nat->Int}(h:bp now shift f n t m=true)(hs:uC f n t):eX now shift f n t m=true:=by unfold eX;rw[h];simpa using hs
theorem zA {now shift:Int}{f:Nat->Mv}{n m:Nat}{t:Nat->Int}(hs:¬uC f n t):eX now shift f n t m=false:=by unfold eX;simp[hs]
theorem cE {now shift:Int}{f:Nat->Mv}{n m:Nat}{t:Nat->Int}(h:bp now shift f n t m=true):aG f n=true/\m=n/\eH f t n:=by
 cases hf:dY f n t m with
 |false=>rw[qE hf]at h;cases h
 |true=>exact nh hf
section
variable [Gl]{ok:Ctx}{c:Frame}{Q:Value->World->Prop}
theorem aF.O1 {P0:Program}{Dr:FuncId->Array Value->World->(Value->World->Prop)->Prop}(E:eI P0 ok c Dr){b:Frame}{X:Code}{k:List Item}{cs:List Frame}(hb:ok.bI b.fn=true)(Inv:Nat->Act->World->Prop)
  (step:∀j a W,Inv j a W->(∀i,i<j->∀a' W',Inv i a' W'->aF P0 ok c Dr Q ⟨b.at a' (.inLoop X::k),cs,W'⟩)->aF P0 ok c Dr Q ⟨b.at a (.code X::.inLoop X::k),cs,W⟩):
  ∀j a W,Inv j a W->aF P0 ok c Dr Q ⟨b.at a (.code X::.inLoop X::k),cs,W⟩:=by
 intro j;induction j using Nat.strongRecOn with
 |ind j ih=>intro a W h;exact step j a W h λi hi a' W' h'=>aF.inLoop E hb (ih i hi a' W' h')
theorem aF.Ps (E:eI Tz.prog ok c dt)(ub:ok.bI 52=true)(xJ:ok.bI 80=true)(qK:ok.bI 111=true)(Ca:ok.bI 139=false){fb:Frame}{a:Act}{k:List Item}{cs:List Frame}{V:World}(hb:ok.bI fb.fn=true){ops:Array Oper}{i:Nat}{r:List Nat}{o:Oper}(ho:ops[i]?=some o)(hw:Region.wanted o (yielded ops a.tmps)=true)
  {b n cap b' cap' p:Nat}{f:Nat->Mv}{t:Nat->Int}{now shift:Int}(hx:∀w,(execOp a.eval o).run Tz.prog w=.ok (.enter 52 #[.agg #[.int .i64 now,.int .i64 shift,.slice (some ⟨b,0,none⟩) n cap,.slice (some ⟨b',0,none⟩) n cap'],.int .i64 p]) w)
  (hm:aG f n=true)(hf:eH f t n)(hp:p<n)(bw:b<V)(aq:aM V b 0 n f)(bc:b'<V)(aK:aB V b' 0 n t)
  (bh:∀v V',yy f n t p shift V v V'->aF Tz.prog ok c dt Q ⟨fb.at (a.put o.dst v) (.inRegion ops r::k),cs,V'⟩):aF Tz.prog ok c dt Q ⟨fb.at a (.inRegion ops (i::r)::k),cs,V⟩:=
 aF.fX E ho hw ub hx (DI E ub xJ qK Ca (r0:=fb.at a (.inRegion ops (i::r)::k)) hb hm hf hp bw aq bc aK (λv V' hv=>by rw[dO ho];exact bh v V' hv))
theorem P2 (E:eI Tz.prog ok c dt)(nk:ok.bI 18=true)(ub:ok.bI 52=true)(xJ:ok.bI 80=true)(qK:ok.bI 111=true)(Ca:ok.bI 139=false){r0:Frame}{cs:List Frame}{V:World}(jR:ok.bI r0.fn=true)
  {b n cap b' m cap':Nat}{f:Nat->Mv}{t:Nat->Int}{now shift:Int}(hn:n<=1048576)(lY:m<=maxLen)(bw:b<V)(aq:aM V b 0 n f)(bc:b'<V)(aK:aB V b' 0 m t)
  (bh:∀V',Bl V V V'->aF Tz.prog ok c dt Q ⟨r0.finish (.bool (eX now shift f n t m)),cs,V'⟩):
  aF Tz.prog ok c dt Q ⟨Frame.enter Tz.prog 18 #[.agg #[.int .i64 now,.int .i64 shift,.slice (some ⟨b,0,none⟩) n cap,.slice (some ⟨b',0,none⟩) m cap']] .normal,r0::cs,V⟩:=by
 have hE:=enter_at (P:=Tz.prog) #[.agg #[now,shift,.slice b n cap,.slice b' m cap']] Tz.func18 rfl;simp only[Tryz.ntmps18,List.size_toArray,List.length_cons,List.length_nil,Nat.reduceAdd,Nat.reduceSub,Array.replicate_succ,Array.replicate_zero,List.push_toArray,List.append_toArray,List.nil_append,List.cons_append]at hE;rw[hE];clear hE;have lL:∀(x:Bool) (a':Act) (w':World) (todo:List Item),(x=eX now shift f n t m/\Bl V.heap.size V w'/\a'.defers=[]/\a'.tmps[2]?=some (.bool x))->aF Tz.prog ok c dt Q ⟨{(base 18).at a' todo with mode:=.returning},r0::cs,w'⟩:=by
  rintro x a' w' todo ⟨rfl,h1,h2,h3⟩;refine aF.leave E jR (v:=.bool (eX now shift f n t m)) (λτ d=>⟨rfl,h2,rfl,_,Tz.func18,?_⟩) (bh _ h1);have:=results_tmp (fn:=Tryz.f18) rfl a'.tmps Tz.prog (re w' τ d);rw[lj h3]at this;exact this
 refine aF.EA E nk [_,_] _ (λa' w'=>bp now shift f n t m=true/\Bl V.heap.size V w'/\∃B1,V.heap.size<=B1/\am w' B1 now shift (.slice (some ⟨b,0,none⟩) n cap) (.slice (some ⟨b',0,none⟩) m cap')/\gd a' (λu=>#[u 0,.pointer (some ⟨B1,0,none⟩),u 2,u 3,u 4,u 5,u 6,u 7,u 8,u 9,u 10,u 11,u 12,u 13,u 14,u 15,u 16,u 17,u 18,u 19,u 20,u 21,u 22,u 23,u 24,u 25,u 26,u 27,u 28,u 29])) (λa' w'=>false=eX now shift f n t m/\Bl V.heap.size V w'/\a'.defers=[]/\a'.tmps[2]?=some (.bool false)) ?_ ?_ (λa' w' todo hh=>lL false a' w' todo hh)
 .intro τ d;have bA:Below (re V τ d).heap.size (re V τ d) ((re V τ d).alloc (.cells #[now,shift,.slice b n cap,.slice b' m cap'] 29)):=(aca _ _).alloc (ack _) _;have np:am ((re V τ d).alloc (.cells #[now,shift,.slice b n cap,.slice b' m cap'] 29)) V.heap.size now shift (.slice b n cap) (.slice b' m cap'):=heap_alloc_new (re V τ d) _;have H1:=sw now shift b 0 n cap f b' 0 m cap' t _ hn lY (acl bw bA.size) ((dm (w':=re V τ d) aq rfl).below bA bw) (acl bc bA.size) (aB.below (w:=re V τ d) (λi hi=>aK i hi) bA bc);clear lL bh aq aK;simp only[aP];cases hb:bp now shift f n t m with
  |false=>
   rw[hb]at H1;have lp:=Dz hb;go_wp2_with(go_at_call 16;refine H1.mono ?_;clear H1;rintro e w1 ⟨rfl,b1⟩)
   have oq:Bl V V w1:=Bl.pu (bA.trans (b1.mono bA.size));first
    |exact⟨lp.symm,oq,rfl,rfl⟩
    |exact⟨lp,oq⟩
    |exact⟨lp,oq,rfl⟩
    |exact⟨lp.symm,oq⟩
  |true=>
   rw[hb]at H1;go_wp2_with(go_at_call 16;refine H1.mono ?_;clear H1;rintro e w1 ⟨rfl,b1⟩)
   have oq:Bl V V w1:=Bl.pu (bA.trans (b1.mono bA.size));have Ir:=np.same (b1.block _ np.lt);first
    |exact⟨oq,V.heap.size,ack _,Ir,rfl,rfl⟩
    |exact⟨rfl,oq,V.heap.size,ack _,Ir,rfl,rfl⟩
    |exact⟨trivial,oq,V.heap.size,ack _,Ir,rfl,rfl⟩
 rintro a' w1 ⟨Qm,bF,B1,mS,bk1,ew⟩;obtain⟨u,rfl⟩:=ew.open;clear ew;obtain⟨hm,uR,hf⟩:=cE Qm;replace uR:=uR.symm;subst uR;have h6:=cg hm;have fq:=bF.size;refine aF.seq E nk ?_;refine aF.chain E nk [_] _ (λa' w'=>(∃τ d,w'=re w1 τ d)/\∃k:Nat,k=0/\gd a' (λu=>#[u 0,.pointer (some ⟨B1,0,none⟩),u 2,u 3,u 4,u 5,u 6,u 7,u 8,u 9,u 10,.slice (some ⟨b,0,none⟩) n cap,.int .i64 n,.int .i64 k,u 14,u 15,u 16,u 17,u 18,u 19,u 20,u 21,u 22,u 23,u 24,u 25,u 26,u 27,u 28,u 29])) (λ_ _=>False) ?_ ?_ (λ_ _ _ hh=>hh.elim)
 .intro τ d;have tm:am (re w1 τ d) B1 now shift (.slice b n cap) (.slice b' n cap'):=bk1;obtain⟨y0,y1,y2,y3,y4⟩:=tm.cells;clear lL bh;simp only[aP];go_wp2;left;exact⟨A9,⟨τ,d,rfl⟩,0,rfl,rfl,rfl⟩
 rintro a' w' ⟨⟨ZD,d1,rfl⟩,k,rfl,ew⟩;refine aF.block E nk (aF.loop E nk ?_);refine aF.O1 E nk (λj a' w'=>∃k:Nat,k+j=n/\Bl w1.heap.size w1 w'/\(∀p,p<k->(f p).an=true->(dc f n t p).isSome=true)/\gd a' (λu=>#[u 0,.pointer (some ⟨B1,0,none⟩),u 2,u 3,u 4,u 5,u 6,u 7,u 8,u 9,u 10,.slice (some ⟨b,0,none⟩) n cap,.int .i64 n,.int .i64 k,u 14,u 15,u 16,u 17,u 18,u 19,u 20,u 21,u 22,u 23,u 24,u 25,u 26,u 27,u 28,u 29])) ?_ n a' _ ⟨0,ab,⟨ack _,λ_ _=>rfl⟩,λp hp=>absurd hp (aco _),ew⟩;clear ew u a';rintro j a' W ⟨k,hkj,SE,cP,ew⟩ IH;obtain⟨u,rfl⟩:=ew.open;clear ew;have Tm:=SE.size;have bkW:am W B1 now shift (.slice b n cap) (.slice b' n cap'):=bk1.same (SE.block B1 bk1.lt);have Yc:aM W b 0 n f:=dm (dm aq (bF.block b bw)) (SE.block b ab);have Yd:aB W b' 0 n t:=λi hi=>by
  have e:=(SE.block b' ab).trans (bF.block b' bc);have:=aK i hi;simp only[World.cell?,e]at this⊢;exact this
 have SD:Bl V V W:=bF.trans SE fq;refine aF.chain E nk [_] _ (λa' w'=>(∃τ d,w'=re W τ d)/\gd a' (λu=>#[u 0,.pointer (some ⟨B1,0,none⟩),u 2,u 3,u 4,u 5,u 6,u 7,u 8,u 9,u 10,.slice (some ⟨b,0,none⟩) n cap,.int .i64 n,.int .i64 k,.bool (decide (k<n)),u 15,u 16,u 17,u 18,u 19,u 20,u 21,u 22,u 23,u 24,u 25,u 26,u 27,u 28,u 29])) (λ_ _=>False) ?_ ?_ (λ_ _ _ hh=>hh.elim)
 .intro τ d;clear lL bh IH;simp only[aP];go_wp2;left;exact⟨A9,⟨τ,d,rfl⟩,rfl,rfl⟩
 rintro a' w' ⟨⟨Uh,d2,rfl⟩,ew⟩;clear u;obtain⟨u,rfl⟩:=ew.open;clear ew;refine aF.seq E nk (aF.cond E nk (t:=decide (k<n)) rfl ?_);by_cases aI:k<n
 .rw[if_pos (by simpa using aI)];refine aF.skip E nk (aF.seq E nk (aF.block E nk ?_));have JS:b<W:=ab;have ON:b'<W:=ab;have y_:B1<W:=bkW.lt;refine aF.chain E nk [_] _ (λa' w'=>Bl W.heap.size W w'/\∃B4,w'.heap[B4]?=some (.cells (f k).cells 31 (0,0))/\gd a' (λu=>#[u 0,.pointer (some ⟨B1,0,none⟩),u 2,.int .i64 k,.pointer (some ⟨B4,0,none⟩),u 5,u 6,u 7,u 8,u 9,u 10,.slice (some ⟨b,0,none⟩) n cap,.int .i64 n,.int .i64 k,u 14,u 15,u 16,u 17,u 18,u 19,u 20,u 21,u 22,u 23,u 24,u 25,u 26,u 27,u 28,u 29])) (λ_ _=>False) ?_ ?_ (λ_ _ _ hh=>hh.elim)
  .intro τ d;obtain⟨c0,c1,c2,c3,c4,c5⟩:=(dm (w':=re (re W Uh d2) τ d) Yc rfl) k aI;simp only[Nat.zero_add]at c0 c1 c2 c3 c4 c5;have dG:(k:Int)<n:=ab;clear lL bh IH;simp only[aP];go_wp2;left;refine⟨A9,⟨by simp[re],λq hq=>?_⟩,W.heap.size,?_,rfl,rfl⟩
   .exact(acb _ _ _ (by simpa[re]using hq)).trans rfl
   .exact heap_alloc_new (re (re W Uh d2) τ d) _
  rintro a' w2 ⟨cH,B4,hbx,ew⟩;clear u;obtain⟨u,rfl⟩:=ew.open;clear ew;have iF:=cH.size;refine aF.seq E nk ?_;refine aF.chain E nk [_] _ (λa' w'=>(∃τ d,w'=re w2 τ d)/\gd a' (λu=>#[u 0,.pointer (some ⟨B1,0,none⟩),u 2,.int .i64 k,u 4,u 5,u 6,u 7,u 8,u 9,u 10,.slice (some ⟨b,0,none⟩) n cap,.int .i64 n,.int .i64 k,u 14,u 15,u 16,u 17,u 18,u 19,.bool (!(f k).an),u 21,u 22,u 23,u 24,u 25,u 26,u 27,u 28,u 29])) (λ_ _=>False) ?_ ?_ (λ_ _ _ hh=>hh.elim)
  .intro τ d;obtain⟨z0,z1,z2,z3,z4,z5⟩:=N7 (w:=re w2 τ d) hbx;clear lL bh IH;simp only[aP];go_wp2;left;exact⟨A9,⟨τ,d,rfl⟩,rfl,rfl⟩
  rintro a' w' ⟨⟨Rg,d3,rfl⟩,ew⟩;clear u;obtain⟨u,rfl⟩:=ew.open;clear ew;refine aF.cond E nk (t:=!(f k).an) rfl ?_;by_cases va:(f k).an=true
  .rw[if_neg (by rw[va];simp)];refine aF.skip E nk (aF.seq E nk (aF.region E nk ?_));rw[gK];have bk2:am w2 B1 now shift (.slice b n cap) (.slice b' n cap'):=bkW.same (cH.block B1 y_);refine aF.iC E nk 0 2 aH (λa' w'=>(∃τ d,w'=re w2 τ d)/\gd a' (λu=>#[u 0,.pointer (some ⟨B1,0,none⟩),u 2,.int .i64 k,u 4,u 5,u 6,u 7,u 8,u 9,u 10,.slice (some ⟨b,0,none⟩) n cap,.int .i64 n,.int .i64 k,u 14,u 15,u 16,u 17,u 18,u 19,u 20,u 21,.agg #[.int .i64 now,.int .i64 shift,.slice (some ⟨b,0,none⟩) n cap,.slice (some ⟨b',0,none⟩) n cap'],.int .i64 k,u 24,u 25,u 26,u 27,u 28,u 29])) ?_ ?_
   .intro τ d;have tm:am (re (re w2 Rg d3) τ d) B1 now shift (.slice b n cap) (.slice b' n cap'):=bk2;obtain⟨y0,y1,y2,y3,y4⟩:=tm.cells;clear lL bh IH;simp only[List.drop_zero,List.take_succ_cons,List.take_zero];go_wp2;exact⟨⟨τ,d,rfl⟩,rfl,rfl⟩
   rintro a' w' ⟨⟨τ4,d4,rfl⟩,ew⟩;clear u;obtain⟨u,rfl⟩:=ew.open;clear ew;refine aF.Ps E ub xJ qK Ca nk (i:=2) rfl rfl (b:=b) (n:=n) (cap:=cap) (b':=b') (cap':=cap') (p:=k) (f:=f) (t:=t) (now:=now) (shift:=shift) (λw=>Ia) hm hf aI (by show b<w2.heap.size;omega) (dm (dm Yc (cH.block b JS)) rfl) (by show b'<w2.heap.size;omega) (λi hi=>by
    have e:=cH.block b' ON;have:=Yd i hi;simp only[World.cell?,re,e]at this⊢;exact this) ?_
   intro v V3 jz;obtain⟨⟨x0,x1,x2,l2,c2,x3,l3,c3,rfl,_⟩,EU⟩:=jz;have gZ:Bl w2 w2 V3:=⟨EU.size,EU.block⟩;clear EU;have LA:=gZ.size;have SF:Bl W W V3:=cH.trans gZ iF;obtain⟨br,uc⟩:∃br,(dc f n t k).isSome=br:=⟨_,rfl⟩;rw[uc];refine aF.iC E nk 3 6 aH (λa' w'=>Bl W.heap.size W w'/\gd a' (λu=>#[u 0,.pointer (some ⟨B1,0,none⟩),u 2,u 3,u 4,u 5,.bool br,u 7,u 8,u 9,u 10,.slice (some ⟨b,0,none⟩) n cap,.int .i64 n,.int .i64 k,u 14,u 15,u 16,u 17,u 18,u 19,u 20,u 21,u 22,u 23,u 24,u 25,u 26,u 27,u 28,u 29])) ?_ ?_
   .intro τ d;clear lL bh IH;simp only[List.drop_succ_cons,List.drop_zero,List.take_succ_cons,List.take_zero,Act.put];go_wp2;refine⟨⟨by have:=SF.size;simp[re];omega,λq hq=>?_⟩,rfl,rfl⟩;exact(acb _ _ _ (by have:=SF.size;simp[re];omega)).trans (SF.block q hq)
   rintro a' w5 ⟨gi,ew⟩;clear u;obtain⟨u,rfl⟩:=ew.open;clear ew;refine aF.regionEnd E nk ?_;refine aF.chain E nk [_] _ (λa' w'=>(∃τ d,w'=re w5 τ d)/\gd a' (λu=>#[u 0,.pointer (some ⟨B1,0,none⟩),u 2,u 3,u 4,u 5,u 6,u 7,u 8,u 9,u 10,.slice (some ⟨b,0,none⟩) n cap,.int .i64 n,.int .i64 k,u 14,u 15,u 16,u 17,u 18,u 19,u 20,u 21,u 22,u 23,u 24,u 25,u 26,u 27,.bool (!br),u 29])) (λ_ _=>False) ?_ ?_ (λ_ _ _ hh=>hh.elim)
   .intro τ d;clear lL bh IH;simp only[aP];go_wp2;left;exact⟨A9,⟨τ,d,rfl⟩,rfl,rfl⟩
   rintro a' w' ⟨⟨τ6,d6,rfl⟩,ew⟩;clear u;obtain⟨u,rfl⟩:=ew.open;clear ew;refine aF.cond E nk (t:=!br) rfl ?_;cases br with
   |false=>
    rw[if_pos (show(!false)=true from rfl)];have aar:¬uC f n t:=λh=>by have:=h k aI va;rw[uc]at this;cases this
    have lp:=zA (now:=now) (shift:=shift) (m:=n) aar;have VY:Bl V V w5:=SD.trans gi ab;refine aF.last E nk [_] (λa' w'=>false=eX now shift f n t n/\Bl V.heap.size V w'/\a'.defers=[]/\a'.tmps[2]?=some (.bool false)) ?_ (λa' w' todo hh=>lL false a' w' todo hh);intro τ d;clear lL bh IH;simp only[aP];go_wp2;left;exact⟨A9,lp.symm,⟨VY.size,VY.block⟩,A9,by first|rfl|simp⟩
   |true=>
    rw[if_neg (show¬(!true)=true by simp)];refine aF.skip E nk (aF.inBlock E nk ?_);refine aF.region E nk ?_;rw[gK];refine aF.iC E nk 0 2 aH (λa' w'=>(∃τ d,w'=re w5 τ d)/\∃k':Nat,k'=k+1/\gd a' (λu=>#[u 0,.pointer (some ⟨B1,0,none⟩),u 2,u 3,u 4,u 5,u 6,u 7,u 8,u 9,u 10,.slice (some ⟨b,0,none⟩) n cap,.int .i64 n,.int .i64 (k':Nat),u 14,u 15,u 16,u 17,u 18,u 19,u 20,u 21,u 22,u 23,u 24,u 25,u 26,u 27,u 28,u 29])) ?_ ?_
    .intro τ d;have Ao:IntKind.i64.wrap ((k:Int)+1)=(k:Int)+1:=gH;clear lL bh IH;simp only[List.drop_zero,List.take_succ_cons,List.take_zero];go_wp2;first|exact⟨⟨τ,d,rfl⟩,k+1,rfl,rfl,aH⟩|exact⟨⟨τ,d,rfl⟩,rfl,aH⟩|exact⟨⟨τ,d,rfl⟩,rfl,rfl⟩
    rintro a' w' ⟨⟨τ7,d7,rfl⟩,k',rfl,ew⟩;refine aF.regionEnd E nk (IH (j-1) ab _ _ ⟨k+1,ab,?_,λp hp hl=>?_,ew⟩)
    .exact⟨acn Tm gi.size,λq hq=>(gi.block q ab).trans (SE.block q hq)⟩
    .by_cases e:p=k
     .subst e;exact uc
     .exact cP p ab hl
  .rw[if_pos (by simpa using va)];refine aF.exit E nk (k':=_) rfl ?_;refine aF.region E nk ?_;rw[gK];refine aF.iC E nk 0 2 aH (λa' w'=>(∃τ d,w'=re w2 τ d)/\∃k':Nat,k'=k+1/\gd a' (λu=>#[u 0,.pointer (some ⟨B1,0,none⟩),u 2,u 3,u 4,u 5,u 6,u 7,u 8,u 9,u 10,.slice (some ⟨b,0,none⟩) n cap,.int .i64 n,.int .i64 (k':Nat),u 14,u 15,u 16,u 17,u 18,u 19,u 20,u 21,u 22,u 23,u 24,u 25,u 26,u 27,u 28,u 29])) ?_ ?_
   .intro τ d;have Ao:IntKind.i64.wrap ((k:Int)+1)=(k:Int)+1:=gH;clear lL bh IH;simp only[List.drop_zero,List.take_succ_cons,List.take_zero];go_wp2;first|exact⟨⟨τ,d,rfl⟩,k+1,rfl,rfl,aH⟩|exact⟨⟨τ,d,rfl⟩,rfl,aH⟩|exact⟨⟨τ,d,rfl⟩,rfl,rfl⟩
   rintro a' w' ⟨⟨τ7,d7,rfl⟩,k',rfl,ew⟩;refine aF.regionEnd E nk (IH (j-1) ab _ _ ⟨k+1,ab,?_,λp hp hl=>?_,ew⟩)
   .exact⟨acn Tm iF,λq hq=>(cH.block q ab).trans (SE.block q hq)⟩
   .by_cases e:p=k
    .subst e;exact absurd hl va
    .exact cP p ab hl
 .rw[if_neg (by simpa using aI)];refine aF.exit E nk (k':=[.code _]) rfl ?_;have Xs:uC f n t:=λp hp=>cP p ab
  have Co:=p9 Qm Xs;refine aF.last E nk [_] (λa' w'=>true=eX now shift f n t n/\Bl V.heap.size V w'/\a'.defers=[]/\a'.tmps[2]?=some (.bool true)) ?_ (λa' w' todo hh=>lL true a' w' todo hh);intro τ d;clear lL bh IH;simp only[aP];go_wp2;left;exact⟨A9,Co.symm,⟨SD.size,SD.block⟩,A9,by first|rfl|simp⟩
end
end
section
open RowKit
variable {n:Nat}{w w':World}
def yz (r:Option (Nat->Int))(e:Ending):Prop:=∃(x0 x1:Int) (x2:Option Addr) (l2 c2:Nat) (x3:Option Addr) (l3 c3:Nat),e=.returned (.tuple #[.agg #[x0,x1,.slice x2 l2 c2,.slice x3 l3 c3],r.isSome])
def pJ (f:Nat->Mv)(n:Nat)(t:Nat->Int)(p:Nat)(shift:Int)(r:Option (Nat->Int))(w:World)(e:Ending)(w':World):Prop:=
 match r with
 |none=>e=.returned (.tuple #[.agg #[.int .i64 0,.int .i64 0,.slice none 0 0,.slice none 0 0],.bool false])
 |some T=>∃BN cN BT cT,e=.returned (.tuple #[.agg #[.int .i64 (t p),.int .i64 shift,.slice (some ⟨BN,0,none⟩) (al f t p n).length cN,.slice (some ⟨BT,0,none⟩) (al f t p n).length cT],.bool true])/\BN<w'.heap.size/\aM w' BN 0 (al f t p n).length (iy (al f t p n))/\aJ w' BT (al f t p n).length T
theorem pJ.says {f:Nat->Mv}{t:Nat->Int}{p:Nat}{shift:Int}{r:Option (Nat->Int)}{e:Ending}(h:pJ f n t p shift r w e w'):yz r e:=by
 cases r with
 |none=>exact⟨0,0,none,0,0,none,0,0,h⟩
 |some T=>obtain⟨BN,cN,BT,cT,h,_⟩:=h;exact⟨_,_,_,_,_,_,_,_,h⟩
theorem f7 {b:Nat}{g:Nat->Int}(h:aJ w b n g)(e:w'.heap[b]?=w.heap[b]?):aJ w' b n g:=by
 obtain⟨⟨cs,h1,h2⟩,h3⟩:=h;exact⟨⟨cs,e.trans h1,h2⟩,λi hi=>(ach (a:=⟨b,0+i,none⟩) e).trans (h3 i hi)⟩
theorem kq (w:World)(B:Nat)(x0 x1:Int)(x2:Option Addr)(l2 c2:Nat)(x3:Option Addr)(l3 c3:Nat)(h:w.heap[B]?=some (.cells #[x0,x1,.slice x2 l2 c2,.slice x3 l3 c3] 29 (0,0))):w.cell? B=some (.int .i64 x0)/\w.cell? ⟨B,1,none⟩=some (.int .i64 x1)/\w.cell? ⟨B,2,none⟩=some (.slice x2 l2 c2)/\w.cell? ⟨B,3,none⟩=some (.slice x3 l3 c3):=by
 refine⟨?_,?_,?_,?_⟩<;>simp[World.cell?,h]
theorem sB (b n cap b' cap' p:Nat)(f:Nat->Mv)(t:Nat->Int)(now shift:Int)(w:World)(hm:aG f n=true)(hf:eH f t n)(hp:p<n)(bw:b<w.heap.size)(aq:aM w b 0 n f)(bc:b'<w.heap.size)(aK:aB w b' 0 n t):
  Calls Tz.prog 56 #[.agg #[.int .i64 now,.int .i64 shift,.slice (some ⟨b,0,none⟩) n cap,.slice (some ⟨b',0,none⟩) n cap'],.int .i64 p] w λe w'=>pJ f n t p shift (dc f n t p) w e w'/\Below w.heap.size w w':=by
 have h6:=cg hm;have WY:=Mv.fR (bj hm p hp);have Bh:=gA (hf.1 p hp);obtain⟨wB,GR⟩:∃W,W=(w.alloc (.cells #[.int .i64 now,.int .i64 shift,.slice (some ⟨b,0,none⟩) n cap,.slice (some ⟨b',0,none⟩) n cap'] 29)).alloc (.cells #[.int .i64 0,.int .i64 0,.slice none 0 0,.slice none 0 0] 29):=⟨_,rfl⟩;have rI:Below w.heap.size w wB:=by rw[GR];exact((aca _ w).alloc (ack _) _).alloc aH _
 have xA:am wB (w.heap.size+1) 0 0 (.slice none 0 0) (.slice none 0 0):=by rw[GR];exact di _ _ _
 have H1:=Fm b n cap b' cap' p f t now shift wB hm hf hp (acl bw rI.size) (aq.below rI bw) (acl bc rI.size) (aK.below rI bc);rw[GR]at H1;go_enter Tz.func56,Tryz.ntmps56
 by_cases hle:t p+6<=(f p).late
 .have hR:dc f n t p=iT (iy (al f t p n)) (al f t p n).length (t p) 6:=by unfold dc;rw[if_pos hle]
  have gh:=qa (f:=f) (t:=t) (p:=p) hp;have hlen:=fk f t p n;have HP:=λ(BN cN:Nat) (W:World) (aI:BN<W.heap.size) (hr:aM W BN 0 (al f t p n).length (iy (al f t p n)))=>qX BN (al f t p n).length cN (iy (al f t p n)) (t p) 6 W ab (λi hi=>nJ hm hf hp hle hi) ab ab ab ab (λhr=>Da hm hf hp hle hr) aI hr
  rw[hR];clear hR;cases hP:iT (iy (al f t p n)) (al f t p n).length (t p) 6 with
  |none=>
   rw[hP]at HP;go_wp2_with(first
    |(go_at_call 83;refine H1.mono ?_;clear H1;rintro e w1 ⟨l1,b1⟩;rw[<-GR]at b1 l1;unfold mi at l1;rw[if_pos hle]at l1;obtain⟨BN,cN,rfl,Sl,Qu,rN⟩:=l1;have r1:=xA.same (b1.block _ xA.lt);obtain⟨y0,y1,y2,y3,y4⟩:=r1.cells;have l41:=r1.lt;have bF:=rI.trans (b1.mono rI.size))
    |(go_at_call 44;refine(HP _ _ _ cC (rN.below ((aca _ _).alloc (ack _) _) Qu)).mono ?_;clear HP;rintro e w2 ⟨⟨a2,c2,rfl⟩,b2⟩;have cH:=((aca _ w1).alloc (ack _) _).trans (b2.mono aH);have r2:=r1.same (cH.block _ r1.lt);obtain⟨z0,z1,z2,z3,z4⟩:=r2.cells;have l42:=r2.lt))
   rw[sM r2];have te:=setRow_heap w2 (w.heap.size+1) _ #[.int .i64 0,.int .i64 0,.slice none 0 0,.slice none 0 0] _ _ r2;have gi:=below_setRow (bF.trans (cH.mono bF.size)) (by omega:w.heap.size<=w.heap.size+1) #[.int .i64 0,.int .i64 0,.slice none 0 0,.slice none 0 0];revert te gi;generalize w2.setRow (w.heap.size+1) #[.int .i64 0,.int .i64 0,.slice none 0 0,.slice none 0 0]=W5;intro te gi;obtain⟨q0,q1,q2,q3⟩:=kq W5 _ 0 0 none 0 0 none 0 0 te;refine bodyPost_ret (v:=.tuple #[.agg #[.int .i64 0,.int .i64 0,.slice none 0 0,.slice none 0 0],.bool false]) ?_ rfl ⟨rfl,gi⟩;simp[results,Tryz.f56,go_sem,q0,q1,q2,q3]
  |some T=>
   rw[hP]at HP;go_wp2_with(first
    |(go_at_call 83;refine H1.mono ?_;clear H1;rintro e w1 ⟨l1,b1⟩;rw[<-GR]at b1 l1;unfold mi at l1;rw[if_pos hle]at l1;obtain⟨BN,cN,rfl,Sl,Qu,rN⟩:=l1;have r1:=xA.same (b1.block _ xA.lt);obtain⟨y0,y1,y2,y3,y4⟩:=r1.cells;have l41:=r1.lt;have bF:=rI.trans (b1.mono rI.size))
    |(go_at_call 44;refine(HP _ _ _ cC (rN.below ((aca _ _).alloc (ack _) _) Qu)).mono ?_;clear HP;rintro e w2 ⟨⟨BT,c2,KX,rfl,oT,_⟩,b2⟩;have cH:=((aca _ w1).alloc (ack _) _).trans (b2.mono aH);have r2:=r1.same (cH.block _ r1.lt);obtain⟨z0,z1,z2,z3,z4⟩:=r2.cells;have l42:=r2.lt;have x2:am w2 w1.heap.size (t p) shift (.slice (some ⟨BN,0,none⟩) (al f t p n).length cN) (.slice none 0 0):=(b2.block _ aH).trans (heap_alloc_new _ _);obtain⟨v0,v1,v2,v3,v4⟩:=x2.cells;have l12:=x2.lt;have hne:w.heap.size+1≠w1.heap.size:=acD l41;have OQ:=hne.symm))
   have hs:∀k,k≠w1.heap.size->(w2.setCell ⟨w1.heap.size,3,none⟩ (.slice (some ⟨BT,0,none⟩) (al f t p n).length c2)).heap[k]?=w2.heap[k]?:=λk hk=>acd _ _ _ k hk
   have SC:=(bF.trans (cH.mono bF.size)).setCell (p:=⟨w1.heap.size,3,none⟩) bF.size (.slice (some ⟨BT,0,none⟩) (al f t p n).length c2);have Tl:(w2.setCell ⟨w1.heap.size,3,none⟩ (.slice (some ⟨BT,0,none⟩) (al f t p n).length c2)).heap.size=w2.heap.size:=aH;revert hs SC Tl;generalize w2.setCell ⟨w1.heap.size,3,none⟩ (.slice (some ⟨BT,0,none⟩) (al f t p n).length c2)=w3;intro hs SC Tl;have r3:=r2.same (hs _ hne);have LA:w3.heap.size=w2.heap.size:=Tl;have A':=cH.block BN Qu;have wc:w.heap.size+2<=BN:=by rw[GR]at Sl;simpa using Sl
   have abD:=acl Qu cH.size;have Ql:w1.heap.size+1<=BT:=by simpa using KX
   have abE:=oT.lt;rw[sM r3];have te:=setRow_heap w3 (w.heap.size+1) _ #[.int .i64 (t p),.int .i64 shift,.slice (some ⟨BN,0,none⟩) (al f t p n).length cN,.slice (some ⟨BT,0,none⟩) (al f t p n).length c2] _ _ r3;have gi:=below_setRow SC (by omega:w.heap.size<=w.heap.size+1) #[.int .i64 (t p),.int .i64 shift,.slice (some ⟨BN,0,none⟩) (al f t p n).length cN,.slice (some ⟨BT,0,none⟩) (al f t p n).length c2];have qV:(w3.setRow (w.heap.size+1) #[.int .i64 (t p),.int .i64 shift,.slice (some ⟨BN,0,none⟩) (al f t p n).length cN,.slice (some ⟨BT,0,none⟩) (al f t p n).length c2]).heap.size=w3.heap.size:=setRow_size _ _ _;have lJ:∀k,k≠w.heap.size+1->(w3.setRow (w.heap.size+1) #[.int .i64 (t p),.int .i64 shift,.slice (some ⟨BN,0,none⟩) (al f t p n).length cN,.slice (some ⟨BT,0,none⟩) (al f t p n).length c2]).heap[k]?=w3.heap[k]?:=λk hk=>setRow_other _ _ _ _ hk
   revert te gi qV lJ;generalize w3.setRow (w.heap.size+1) #[.int .i64 (t p),.int .i64 shift,.slice (some ⟨BN,0,none⟩) (al f t p n).length cN,.slice (some ⟨BT,0,none⟩) (al f t p n).length c2]=W5;intro te gi qV lJ;obtain⟨q0,q1,q2,q3⟩:=kq W5 _ _ _ _ _ _ _ _ _ te;refine bodyPost_ret (v:=.tuple #[.agg #[.int .i64 (t p),.int .i64 shift,.slice (some ⟨BN,0,none⟩) (al f t p n).length cN,.slice (some ⟨BT,0,none⟩) (al f t p n).length c2],.bool true]) ?_ rfl ⟨⟨BN,cN,BT,c2,rfl,ab,dm rN ((lJ BN ab).trans ((hs BN ab).trans A')),f7 oT ((lJ BT ab).trans (hs BT ab))⟩,gi⟩;simp[results,Tryz.f56,go_sem,q0,q1,q2,q3]
 .have hR:dc f n t p=none:=by unfold dc;rw[if_neg hle]
  rw[hR];clear hR;go_wp2_with(go_at_call 83;refine H1.mono ?_;clear H1;rintro e w1 ⟨l1,b1⟩;rw[<-GR]at b1 l1;unfold mi at l1;rw[if_neg hle]at l1;subst l1;have r1:=xA.same (b1.block _ xA.lt);obtain⟨y0,y1,y2,y3,y4⟩:=r1.cells;have l41:=r1.lt;have bF:=rI.trans (b1.mono rI.size))
  rw[sM r1];have te:=setRow_heap w1 (w.heap.size+1) _ #[.int .i64 0,.int .i64 0,.slice none 0 0,.slice none 0 0] _ _ r1;have gi:=below_setRow bF (by omega:w.heap.size<=w.heap.size+1) #[.int .i64 0,.int .i64 0,.slice none 0 0,.slice none 0 0];have qV:(w1.setRow (w.heap.size+1) #[.int .i64 0,.int .i64 0,.slice none 0 0,.slice none 0 0]).heap.size=w1.heap.size:=setRow_size _ _ _;revert te gi qV;generalize w1.setRow (w.heap.size+1) #[.int .i64 0,.int .i64 0,.slice none 0 0,.slice none 0 0]=W5;intro te gi qV;have Cm:=λo=>(acb W5 o (w.heap.size+1) ab).trans te
  have S_:=λo=>gi.alloc (o:=o) gi.size
  have q0:=λo=>(kq (W5.alloc o) _ 0 0 none 0 0 none 0 0 (Cm o)).1
  have q1:=λo=>(kq (W5.alloc o) _ 0 0 none 0 0 none 0 0 (Cm o)).2.1
  have q2:=λo=>(kq (W5.alloc o) _ 0 0 none 0 0 none 0 0 (Cm o)).2.2.1
  have q3:=λo=>(kq (W5.alloc o) _ 0 0 none 0 0 none 0 0 (Cm o)).2.2.2
  refine bodyPost_ret (v:=.tuple #[.agg #[.int .i64 0,.int .i64 0,.slice none 0 0,.slice none 0 0],.bool false]) ?_ rfl ⟨rfl,S_ _⟩;simp[results,Tryz.f56,go_sem,q0,q1,q2,q3]
theorem Cx (b n cap b' cap' p:Nat)(f:Nat->Mv)(t:Nat->Int)(now shift:Int)(w:World)(hm:aG f n=true)(hf:eH f t n)(hp:p<n)(bw:b<w)(aq:aM w b 0 n f)(bc:b'<w)(aK:aB w b' 0 n t):
  Calls Tz.prog 56 #[.agg #[.int .i64 now,.int .i64 shift,.slice (some ⟨b,0,none⟩) n cap,.slice (some ⟨b',0,none⟩) n cap'],.int .i64 p] w λe w'=>yz (dc f n t p) e/\Below w.heap.size w w':=
 (sB b n cap b' cap' p f t now shift w hm hf hp bw aq bc aK).mono λe w' h=>⟨h.1.says,h.2⟩
theorem nN (now shift:Int)(b n cap:Nat)(f:Nat->Mv)(b' m cap':Nat)(t:Nat->Int)(w:World)(hn:n<=1048576)(lY:m<=maxLen)(bw:b<w.heap.size)(aq:aM w b 0 n f)(jQ:∀i,i<n->(f i).Fits)(bc:b'<w.heap.size)(aK:aB w b' 0 m t):
  Calls Tz.prog 26 #[.agg #[.int .i64 now,.int .i64 shift,.slice (some ⟨b,0,none⟩) n cap,.slice (some ⟨b',0,none⟩) m cap']] w λe w'=>e=.returned (.bool (eX now shift f n t m))/\Below w.heap.size w w':=by
 obtain⟨wB,GR⟩:∃W,W=w.alloc (.cells #[.int .i64 now,.int .i64 shift,.slice (some ⟨b,0,none⟩) n cap,.slice (some ⟨b',0,none⟩) m cap'] 29):=⟨_,rfl⟩;have rI:Below w.heap.size w wB:=by rw[GR];exact(aca _ w).alloc (ack _) _
 have np:am wB w.heap.size now shift (.slice (some ⟨b,0,none⟩) n cap) (.slice (some ⟨b',0,none⟩) m cap'):=by rw[GR];exact heap_alloc_new _ _
 have H1:=nM now shift b 0 n cap f b' 0 m cap' t wB hn lY (acl bw rI.size) (aq.below rI bw) jQ (acl bc rI.size) (aK.below rI bc);rw[GR]at H1;go_enter Tz.func26,Tryz.ntmps26
 cases hb:bp now shift f n t m with
 |false=>
  rw[hb]at H1;rw[Dz hb];go_wp2_with(go_at_call 39;refine H1.mono ?_;clear H1;rintro e w1 ⟨rfl,b1⟩;rw[<-GR]at b1)
  go_ret;exact⟨rfl,rI.trans (b1.mono rI.size)⟩
 |true=>
  obtain⟨hm,uR,hf⟩:=cE hb;replace uR:=uR.symm;subst uR;have h6:=cg hm;rw[hb]at H1;have HB:Hid (bp now shift f n t n=true):=hb;clear hb;go_wp2_with(go_at_call 39;refine H1.mono ?_;clear H1;rintro e w1 ⟨rfl,b1⟩;rw[<-GR]at b1)
  have bF:=rI.trans (b1.mono rI.size);have bk1:=np.same (b1.block _ np.lt);clear b1 np rI GR;go_loopw [3,4,5] (λx _ _ W=>∃k:Nat,x=.int .i64 k/\k<=n/\Below w.heap.size w W/\am W w.heap.size now shift (.slice (some ⟨b,0,none⟩) n cap) (.slice (some ⟨b',0,none⟩) n cap')/\∀p,p<k->(f p).an=true->(dc f n t p).isSome=true) (λx _ _ _=>n-(intOf x).toNat)
  case atStart=>exact⟨0,rfl,acp _,bF,bk1,λp hp=>absurd hp (aco _)⟩
  case round=>
   clear bF bk1;obtain⟨k,rfl,hk,fK,Vp,cP⟩:=hrel;obtain⟨y0,y1,y2,y3,y4⟩:=Vp.cells;have lb1:=Vp.lt;by_cases aI:k<n
   .have dG:(k:Int)<n:=by omega
    have XE:=acl bw fK.size;have LM:=acl bc fK.size;have H2:=Cx b n cap b' cap' k f t now shift wr hm hf aI XE (aq.below fK bw) LM (aK.below fK bc);have FACTS:∀w2,Below wr.heap.size wr w2->am w2 w.heap.size now shift (.slice (some ⟨b,0,none⟩) n cap) (.slice (some ⟨b',0,none⟩) n cap')/\w2.cell? ⟨b,k*6+1,none⟩=some (.bool (f k).an)/\b<w2.heap.size:=λw2 hb=>by
     have h:=((aq.below fK bw).below hb XE k aI).c1;rw[Nat.zero_add]at h;exact⟨Vp.same (hb.block _ lb1),h,acl XE hb.size⟩
    cases hr:dc f n t k with
    |none=>
     cases va:(f k).an with
     |false=>
      go_wp2_with(go_at_call 56;refine H2.mono ?_;clear H2;rintro e w2 ⟨⟨x0,x1,x2,l2,c2,x3,l3,c3,rfl⟩,b2⟩;obtain⟨bk2,d1,To⟩:=FACTS w2 b2;rw[va]at d1;obtain⟨z0,z1,z2,z3,z4⟩:=bk2.cells;have UY:=bk2.lt;rw[hr])
      all_goals try(exfalso;omega)
      go_roundw
      case rel=>exact⟨k+1,by go_num,ab,(fK.trans (b2.mono fK.size)).alloc (by have:=fK.size;have:=b2.size;omega) _,bk2.same (acb _ _ _ UY),λp hp hl=>by
       by_cases e:p=k
       .subst e;rw[va]at hl;cases hl
       .exact cP p ab hl⟩
      case measure=>exact cf
     |true=>
      have lp:eX now shift f n t n=false:=zA (λh=>by have:=h k aI va;rw[hr]at this;cases this);go_wp2_with(go_at_call 56;refine H2.mono ?_;clear H2;rintro e w2 ⟨⟨x0,x1,x2,l2,c2,x3,l3,c3,rfl⟩,b2⟩;obtain⟨bk2,d1,To⟩:=FACTS w2 b2;rw[va]at d1;obtain⟨z0,z1,z2,z3,z4⟩:=bk2.cells;have UY:=bk2.lt;rw[hr])
      all_goals try(exfalso;omega)
      go_ret;exact⟨by first|rfl|(rw[lp];rfl)|rw[lp],(fK.trans (b2.mono fK.size)).alloc (by have:=fK.size;have:=b2.size;omega) _⟩
    |some T=>
     cases va:(f k).an with
     |false=>
      go_wp2_with(go_at_call 56;refine H2.mono ?_;clear H2;rintro e w2 ⟨⟨x0,x1,x2,l2,c2,x3,l3,c3,rfl⟩,b2⟩;obtain⟨bk2,d1,To⟩:=FACTS w2 b2;rw[va]at d1;obtain⟨z0,z1,z2,z3,z4⟩:=bk2.cells;have UY:=bk2.lt;rw[hr])
      all_goals try(exfalso;omega)
      go_roundw
      case rel=>exact⟨k+1,by go_num,ab,(fK.trans (b2.mono fK.size)).alloc (by have:=fK.size;have:=b2.size;omega) _,bk2.same (acb _ _ _ UY),λp hp hl=>by
       by_cases e:p=k
       .subst e;rw[hr];rfl
       .exact cP p ab hl⟩
      case measure=>exact cf
     |true=>
      go_wp2_with(go_at_call 56;refine H2.mono ?_;clear H2;rintro e w2 ⟨⟨x0,x1,x2,l2,c2,x3,l3,c3,rfl⟩,b2⟩;obtain⟨bk2,d1,To⟩:=FACTS w2 b2;rw[va]at d1;obtain⟨z0,z1,z2,z3,z4⟩:=bk2.cells;have UY:=bk2.lt;rw[hr])
      all_goals try(exfalso;omega)
      go_roundw
      case rel=>exact⟨k+1,by go_num,ab,(fK.trans (b2.mono fK.size)).alloc (by have:=fK.size;have:=b2.size;omega) _,bk2.same (acb _ _ _ UY),λp hp hl=>by
       by_cases e:p=k
       .subst e;rw[hr];rfl
       .exact cP p ab hl⟩
      case measure=>exact cf
   .have dG:¬(k:Int)<n:=by omega
    have Co:eX now shift f n t n=true:=p9 HB.out (λp hp=>cP p ab);go_wp2;all_goals try(exfalso;omega)
    go_ret;exact⟨by first|rfl|(rw[Co];rfl)|rw[Co],fK⟩
end
end Go.Proofs.YtlmcblcijndipaaGreatDoor
namespace Go.Proofs.YtlmcblcijndipaaGreatDoor
open Go.RowKit Go.Shelf
attribute [local go_sem] Oper.semAt_some
variable {ao:Option Addr}{ca:Nat}{bo:Option Addr}{da:Nat}
theorem yi (w:World):Calls Tz.prog 99 #[.slice ao 0 ca] w λe w'=>e=.returned true/\Below w w w':=by
 go_enter Tz.func99,Tryz.ntmps99
 go_wp2;go_loopw [3] (λi w'=>i=.int .i64 0/\Below w w w') (λ_ _=>0)
 case atStart=>exact⟨rfl,aca _ _⟩
 case round=>
  obtain⟨rfl,hB⟩:=hrel;go_wp2;go_ret;exact⟨rfl,hB⟩
theorem xQ (w:World):Calls Tz.prog 75 #[.slice ao 0 ca] w λe w'=>e=.returned true/\Below w w w':=by
 go_enter Tz.func75,Tryz.ntmps75
 go_wp2;go_loopw [10] (λi w'=>i=.int .i64 0/\Below w w w') (λ_ _=>0)
 case atStart=>exact⟨rfl,aca _ _⟩
 case round=>
  obtain⟨rfl,hB⟩:=hrel;go_wp2;go_ret;exact⟨rfl,hB⟩
theorem AP (w:World):Calls Tz.prog 71 #[.slice ao 0 ca,.slice bo 0 da] w λe w'=>e=.returned true/\Below w w w':=by
 have H1:=yi (ao:=ao) (ca:=ca) w;go_enter Tz.func71,Tryz.ntmps71
 go_wp2_with(go_at_call 99;refine H1.mono ?_;clear H1;rintro e w1 ⟨rfl,b1⟩)
 go_loopw [5] (λi w'=>i=.int .i64 0/\Below w w w') (λ_ _=>0)
 case atStart=>exact⟨rfl,b1⟩
 case round=>
  obtain⟨rfl,hB⟩:=hrel;go_wp2;go_ret;exact⟨rfl,hB⟩
theorem Ap (w:World):Calls Tz.prog 50 #[.slice ao 0 ca,.slice bo 0 da] w λe w'=>e=.returned true/\Below w w w':=by
 have mQ:∀o1 o2 o3,Below w w (((w.alloc o1).alloc o2).alloc o3):=λo1 o2 o3=>(((aca _ w).alloc (ack _) _).alloc aH _).alloc cC _
 refine(callsIn_wide (n:=9)).1 ?_;refine callsIn_of_wp_marks Tz.func50 rfl trivial ?_ rfl;simp only[Tryz.ntmps50,List.size_toArray,List.length_cons,List.length_nil,Nat.reduceAdd,Nat.reduceSub,Array.replicate_succ,Array.replicate_zero,List.push_toArray,List.append_toArray,List.nil_append,List.cons_append];gi_wp2_with (refine⟨trivial,?_⟩;gi_at_call 75;refine(callsIn_wide.2 (xQ _)).mono ?_;rintro e w1 ⟨rfl,bF⟩;obtain⟨kJ,uQ⟩:=jr bF)
 have hz:=bF.size;simp at hz;have mS:Below w w w1:=(mQ _ _ _).trans (bF.mono (mQ _ _ _).size);have l0:w1.cell? w.heap.size=some (.slice ao 0 ca):=by rw[kJ w.heap.size 0 cC];simp[go_sem]
 have l1:w1.cell? ⟨w.heap.size+1,0,none⟩=some (.slice bo 0 da):=by rw[kJ (w.heap.size+1) 0 aH];simp[go_sem]
 have l2:w1.cell? ⟨w.heap.size+1+1,0,none⟩=some (.bool false):=by rw[kJ (w.heap.size+1+1) 0 aH];simp[go_sem]
 have l3:w1.frozen? ⟨w.heap.size+1+1,0,none⟩=false:=by rw[uQ (w.heap.size+1+1) 0 aH];simp[go_sem]
 clear kJ uQ bF;gi_loopw [21] (λi wr=>i=.int .i64 0/\Below w1 w1 wr) (λ_ _=>0)
 case atStart=>exact⟨rfl,aca _ _⟩
 case round=>
  obtain⟨rfl,hB⟩:=hrel;have fK:Below w w wr:=mS.trans (hB.mono mS.size);have hzr:w1.heap.size<=wr:=hB.size;have m0:wr.cell? w.heap.size=some (.slice ao 0 ca):=(hB.cell (p:=w.heap.size) cC).trans l0;have m1:wr.cell? ⟨w.heap.size+1,0,none⟩=some (.slice bo 0 da):=(hB.cell (p:=⟨w.heap.size+1,0,none⟩) cC).trans l1;have m2:wr.cell? ⟨w.heap.size+1+1,0,none⟩=some (.bool false):=(hB.cell (p:=⟨w.heap.size+1+1,0,none⟩) cC).trans l2;have m3:wr.frozen? ⟨w.heap.size+1+1,0,none⟩=false:=(hB.frozen (p:=⟨w.heap.size+1+1,0,none⟩) cC).trans l3;gi_wp2_with (refine⟨trivial,?_⟩;gi_at_call 77;refine(callsIn_wide.2 (zg _ _)).mono ?_;rintro e w' ⟨rfl,rfl⟩)
  obtain⟨WL,K2⟩:∃WL,wr.alloc (.cells #[.int .i64 0] 3)=WL:=⟨_,rfl⟩;have hL:Below wr wr WL:=K2▸(aca _ _).alloc (ack _) _;have hzL:WL.heap.size=wr.heap.size+1:=by rw[<-K2];simp
  have Z':WL.cell? wr.heap.size=some (.int .i64 ((0:Nat):Int)):=by rw[<-K2];simp
  rw[K2];clear K2;have Sk:Below w w WL:=fK.trans (hL.mono fK.size);have p2:=(hL.cell (p:=⟨w.heap.size+1+1,0,none⟩) cC).trans m2;have p3:=(hL.frozen (p:=⟨w.heap.size+1+1,0,none⟩) cC).trans m3;refine wpIn_rangeFunc_ownG rfl ab (gf:=108) (lb:=#[.pointer wr.heap.size]) rfl trivial (enters_of Tz.func108 bR rfl)
   (us _ wr.heap.size WL.heap.size 0 WL ab ab (ack _) Z') belowK_t (belowK_b (ack _)) (aca _ _) (λ_=>rfl)
   (λpre W=>Below WL WL W)
   (λc pre W=>False)
   (ownFrom_below (ack _) (ack _))
   (λc=>ownFrom_pure _ (λ_=>False))
   (aca _ _)
   ?a1 ?assign ?body ?done ?stop
  case assign=>
   intro l x W K hK;gi_wp2
   exact hK
  case body=>
   rintro l pre ⟨⟨i,j⟩,lI,Nq⟩ W Ae _;exact absurd Nq (aco _)
  case done=>
   rintro D xs W hD hS Ae hK;have Nl:Below w w W:=Sk.trans (Ae.mono Sk.size);have Tm:=Ae.size;have X2:=(Ae.cell (p:=⟨w.heap.size+1+1,0,none⟩) cC).trans p2;have p3W:=(Ae.frozen (p:=⟨w.heap.size+1+1,0,none⟩) cC).trans p3;gi_wp2
   have hK':=(KeepsOthers.setCell W ⟨w.heap.size+1+1,0,none⟩ true).same D _ hK rfl;refine⟨aH,.inl ⟨_,_,rfl,run_takeDeferred hK',?_⟩⟩;have Wd:=cell_kept (World.cell?_setCell_same' W ⟨w.heap.size+1+1,0,none⟩ true (by rw[X2];rfl)) (grownBy_putObj' _ D (.deferred none)) (λr e=>by cases e;exact⟨_,hK',rfl⟩);refine⟨.bool true,?_,rfl,(Nl.setCell (p:=⟨w.heap.size+1+1,0,none⟩) cC _).trans (belowK_b (w:=w) (ack _) _ D _ _ ab hK' rfl rfl)⟩;simp[results,Tryz.f50,go_sem,Wd]
  case stop=>
   rintro D c pre W hD _ hF hK;exact hF.elim
theorem nL (now shift:Int)(w:World)(h0:0<=now/\now<=10000)(h1:0<=shift/\shift<=6):Calls Tz.prog 39 #[.agg #[now,shift,.slice ao 0 ca,.slice bo 0 da]] w λe w'=>e=.returned true/\Below w w w':=by
 have bA:=jt w now shift ao 0 ca bo 0 da;have hA:=oJ w now shift ao 0 ca bo 0 da;have H1:=AP (ao:=ao) (ca:=ca) (bo:=bo) (da:=da) (BI w now shift ao 0 ca bo 0 da);have e1:iu now 0 10000=true:=fL.mpr h0;have e2:iu shift 0 6=true:=fL.mpr h1;go_enter Tz.func39,Tryz.ntmps39
 go_wp2_with(first|(go_at_call 70;refine(gJ _ _ _ _).mono ?_;rintro e w' ⟨rfl,rfl⟩)|(go_at_call 71;refine H1.mono ?_;clear H1;rintro e w1 ⟨rfl,b1⟩))
 have mS:Below w w w1:=bA.trans (b1.mono bA.size);have JJ:=hA.below b1 aH;have fq:w.heap.size<w1:=acl aH b1.size;clear hA b1;go_loopw [3] (λx wr=>x=.int .i64 0/\Below w1 w1 wr) (λ_ _=>0)
 case atStart=>exact⟨rfl,aca _ _⟩
 case round=>
  obtain⟨rfl,hB⟩:=hrel;obtain⟨a0,a1,a2,a3⟩:=JJ.below hB fq;go_wp2;go_ret;exact⟨rfl,mS.trans (hB.mono mS.size)⟩
theorem so (now shift:Int)(w:World)(h0:0<=now/\now<=10000)(h1:0<=shift/\shift<=6):Calls Tz.prog 16 #[.agg #[now,shift,.slice ao 0 ca,.slice bo 0 da]] w λe w'=>e=.returned true/\Below w w w':=by
 have bA:=jt w now shift ao 0 ca bo 0 da;have hA:=oJ w now shift ao 0 ca bo 0 da;have H1:=Ap (ao:=ao) (ca:=ca) (bo:=bo) (da:=da) (BI w now shift ao 0 ca bo 0 da);obtain⟨p0,p1⟩:=h0;obtain⟨p2,p3⟩:=h1;have q0:¬now<0:=ab;have q1:¬10000<now:=ab;have q2:¬shift<0:=ab;have q3:¬6<shift:=ab;go_enter Tz.func16,Tryz.ntmps16
 go_wp2_with(go_at_call 50;refine H1.mono ?_;clear H1;rintro e w1 ⟨rfl,b1⟩;have JJ:=hA.below b1 aH;have fq:w.heap.size<w1.heap.size:=acl aH b1.size;obtain⟨a0,a1,a2,a3⟩:=JJ)
 have mS:Below w w w1:=bA.trans (b1.mono bA.size);clear hA b1;go_loopw [32] (λx wr=>x=.int .i64 0/\Below w1 w1 wr) (λ_ _=>0)
 case atStart=>exact⟨rfl,aca _ _⟩
 case round=>
  obtain⟨rfl,hB⟩:=hrel;go_wp2;go_ret;exact⟨rfl,mS.trans (hB.mono mS.size)⟩
theorem AV (now shift:Int)(w:World)(h0:0<=now/\now<=10000)(h1:0<=shift/\shift<=6):Calls Tz.prog 26 #[.agg #[now,shift,.slice ao 0 ca,.slice bo 0 da]] w λe w'=>e=.returned true/\Below w w w':=by
 have rI:Below w w (w.alloc (.cells #[now,shift,.slice ao 0 ca,.slice bo 0 da] 29)):=(aca _ w).alloc (ack _) _;have np:am (w.alloc (.cells #[now,shift,.slice ao 0 ca,.slice bo 0 da] 29)) w.heap.size now shift (.slice ao 0 ca) (.slice bo 0 da):=heap_alloc_new _ _;have H1:=nL (ao:=ao) (ca:=ca) (bo:=bo) (da:=da) now shift (w.alloc (.cells #[now,shift,.slice ao 0 ca,.slice bo 0 da] 29)) h0 h1;go_enter Tz.func26,Tryz.ntmps26
 go_wp2_with(go_at_call 39;refine H1.mono ?_;clear H1;rintro e w1 ⟨rfl,b1⟩)
 have bF:=rI.trans (b1.mono rI.size);have bk1:=np.same (b1.block _ np.lt);clear b1 np rI;go_loopw [3,4,5] (λx _ _ W=>x=.int .i64 0/\Below w w W/\am W w.heap.size now shift (.slice ao 0 ca) (.slice bo 0 da)) (λ_ _ _ _=>0)
 case atStart=>exact⟨rfl,bF,bk1⟩
 case round=>
  obtain⟨rfl,fK,Vp⟩:=hrel;obtain⟨y0,y1,y2,y3,y4⟩:=Vp.cells;go_wp2;go_ret;exact⟨rfl,fK⟩
theorem Aw (now shift:Int)(w:World)(h0:0<=now/\now<=10000)(h1:0<=shift/\shift<=6):Calls Tz.prog 18 #[.agg #[now,shift,.slice ao 0 ca,.slice bo 0 da]] w λe w'=>e=.returned true/\Below w w w':=by
 have rI:Below w w (w.alloc (.cells #[now,shift,.slice ao 0 ca,.slice bo 0 da] 29)):=(aca _ w).alloc (ack _) _;have np:am (w.alloc (.cells #[now,shift,.slice ao 0 ca,.slice bo 0 da] 29)) w.heap.size now shift (.slice ao 0 ca) (.slice bo 0 da):=heap_alloc_new _ _;have H1:=so (ao:=ao) (ca:=ca) (bo:=bo) (da:=da) now shift (w.alloc (.cells #[now,shift,.slice ao 0 ca,.slice bo 0 da] 29)) h0 h1;go_enter Tz.func18,Tryz.ntmps18
 go_wp2_with(go_at_call 16;refine H1.mono ?_;clear H1;rintro e w1 ⟨rfl,b1⟩;have bk1:=np.same (b1.block _ np.lt);obtain⟨y0,y1,y2,y3,y4⟩:=bk1.cells)
 have bF:=rI.trans (b1.mono rI.size);go_loopw [13] (λx W=>x=.int .i64 0/\Below w w W) (λ_ _=>0)
 case atStart=>exact⟨rfl,bF⟩
 case round=>
  obtain⟨rfl,fK⟩:=hrel;go_wp2;go_ret;exact⟨rfl,fK⟩
