import Derived.Test.YtlmcblcijndipaaGreatDoorj15
import Derived.Stop.Asserts
import Derived.RowKitTokens
import Derived.LaidEql
set_option linter.unusedSimpArgs false
set_option linter.unusedVariables false
set_option maxHeartbeats 2000000
set_option maxRecDepth 100000
namespace Go.Proofs.YtlmcblcijndipaaGreatDoor
open Conc Conc.Lib ConcR.Gen RowKit
section
variable [Gl]
structure Hs (P0:Program)(ok:Ctx)(M:Nat->Prop)(w:World)(la:Option Addr)(ln lc nb no nn:Nat)(gB:Nat->Value)(S:Nat->Nat->Prop)(Is:Nat->aN->Prop)(lt:aN->aN->Bool):Prop where
 Tp:M nb
 gt:∀i,i<nn->w.cell? ⟨nb,no+i,none⟩=some (gB i)
 sm:∀i b,S i b->M b
 closed:∀i,i<nn->∀ai,aO (λb=>b=nb\/∃i,S i b) w ai->qB ok (S i) ai
 Kg:∀i,i<nn->ar ok (qW (S i)) (.slice la ln lc) (.slice la ln lc)
 Kh:∀i,i<nn->ar ok (qW (S i)) (gB i) (gB i)
 MZ:∀i,i<nn->∀(F:Nat->Prop) ai,aO (λb=>b=nb\/∃i,S i b) w ai->∀τ d,Calls P0 189 #[.slice la ln lc,gB i] (re (fc F ai) τ d) λe w'=>∃x:aN,e=.returned x.val/\Is i x/\iH w' (λb=>ai.heap.size<=b) x
 ren:∀i x a',Is i x->(x.a=none<->a'=none)->Is i {x with a:=a'}
 least:∀(V:World) (b:Nat) (xs:List aN) (z:Nat×Nat),xs.length<=1048576->V.heap[b]?=some (.cells (xs.flatMap aN.cells).toArray 177 z)->(∀x∈xs,dX V x.a x.n x.g/\x.n<=1048576)->
  Calls P0 160 #[.slice b xs.length xs.length,.func (.func 161) #[] #[]] V λe w'=>e=.returned (Jb.cR ⟨0,0,0,0,0,0,0,.nilFunc,gB,S,Is,lt,0⟩ xs).val/\Below V V w'
 QU:ok.bI 189=true/\ok.bI 160=true/\ok.fn 161=true
variable {P0:Program}{ok:Ctx}{c:Frame}{ax:Loc->Prop}{rb:List Frame}{M:Nat->Prop}{gs:Array Goroutine}{w:World}{sl:Option (Nat×Nat)}{t:Trace}{q:Nat->Nat}{la:Option Addr}{ln lc nb no nn nc:Nat}{gB:Nat->Value}{S:Nat->Nat->Prop}{Is:Nat->aN->Prop}{lt:aN->aN->Bool}
omit [Gl] in
theorem dD.split {P:Program}{V M R:Nat->Prop}{a:Goroutine}(h:dD P ax V (λ_=>False) M gs a w t q)(hR:∀b,R b->M b):dD P ax V R (λb=>M b/\¬R b) gs a w t q:=
 ⟨h.main,h.quit,h.past,h.who,λb hb=>h.lt b (.inl (hb.elim And.left (hR b))),λb hb=>h.jT b (.inl (hb.elim And.left (hR b))),h.low,h.un,h.JX,λb hb=>⟨λx=>(h.vm b hb).1 x.1,λx=>(h.vm b hb).1 (hR b x)⟩⟩
omit [Gl] in
theorem uk (J J':Jb)(h:J.lt=J'.lt)(xs:List aN):J.cR xs=J'.cR xs:=by
 have:J.pick=J'.pick:=by funext x y;simp[Jb.pick,h]
 cases xs with
 |nil=>rfl
 |cons x xs=>simp only[Jb.cR,this]
noncomputable def ph (J:Jb)(wg tb Bs nn Jn T:Nat):Ph:={P:=Tryz.prog,ty:=210,Wg:=wg,tk:=tb,Bs:=Bs,Vq:=177,wd:=4,n:=4,L:=nn,J:=Jn,il:=T,Rw:=Gv J,pl:=⟨0⟩}
omit [Gl] in
theorem TM (J:Jb)(wg tb Bs nn Jn T:Nat):(ph J wg tb Bs nn Jn T).jo:=by
 rintro seq vs M w w' ⟨x,h1,h2,h3,h4⟩ k;exact⟨x,h1,h2,h3.keep (λ_ h=>h) (λa ha=>k.block _ (h3.blk a ha).2.1),h4⟩
theorem Pk (eh:dE P0 P0 ok)(hP:dE P0 Tryz.prog ok)(gY:∀f,ok.fn f=true->ok.bI f=true)(xH:jl P0 c)(hn:nn+4<4611686018427387904){fN:Nat->Prop}{bl bn r4 tb wg Bs bb:Nat}{v9 v10:Value}
  (h:dD Tryz.prog ax (λb=>(False\/b=tb)\/b=wg) (λ_=>False) fN gs (G ((base 139).at ⟨#[.slice la ln lc,.slice (some ⟨nb,no,none⟩) nn nc,.pointer bl,.pointer bn,.pointer r4,.pointer tb,.pointer wg,.pointer bb,undef,v9,v10,.int .i64 4,.int .i64 0,undef,undef,undef,undef,undef,undef,undef,undef],[]⟩ [.code kP,.inLoop kP,.inBlock 0,.code iE]) rb) w t q)
  (hf:Hs P0 ok fN w la ln lc nb no nn gB S Is lt)(DR:Gl.n<=w)(ho:bl<bn/\bn<r4/\r4<tb/\tb<wg/\wg<Bs/\Bs<bb)(Qw:fN bl/\fN bn/\fN r4/\fN Bs/\fN bb)(S5:nb<bl)(hSb:∀i b,S i b->b<bl)
  (cl:w.heap[bl]?=some (.cells #[.slice la ln lc] 23 (0,0)))(cn:w.heap[bn]?=some (.cells #[.slice (some ⟨nb,no,none⟩) nn nc] 179 (0,0)))
  (ct:w.heap[tb]?=some (.cells #[.int .i64 0] 203 (0,0)))(cw:w.heap[wg]?=some (.cells #[.int .u64 0,.int .u32 0] 210 (0,0)))
  (cb:w.heap[bb]?=some (.cells #[.slice Bs 4 4] 211 (0,0)))(cB:∃cs,w.heap[Bs]?=some (.cells cs 177 (0,0))/\cs.size=16):
  ∃(J:Jb),J.lt=lt/\J.Is=Is/\J.bb=bb/\J.base=w.heap.size/\∃(p:Ph),p=ph J wg tb Bs nn gs.size t.size/\∃N jw w' jU t' a' qk oD seq vs Mr,∃M' Ro0:Nat->Prop,runNT Tryz.prog N (crowd gs w sl) t=(.next (crowd jw w' jU),t')/\
   p.Out ax (p.Rq (U8 J P0 p ok M' Ro0 w r4 (.slice la ln lc) (.slice (some ⟨nb,no,none⟩) nn nc)) (base 139) ur 0 [] [.code (fi iE)] rb) jw w' t' a' qk oD seq vs Mr/\∀b,fN b->b≠Bs->M' b\/Ro0 b:=by
 let J:Jb:=⟨bl,bn,bb,nb,no,nc,tb,.slice la ln lc,gB,S,Is,lt,w.heap.size⟩
 let p:Ph:=ph J wg tb Bs nn gs.size t.size
 let R:Nat->Prop:=λb=>b=bl\/b=bn\/b=bb\/b=nb\/∃i,S i b
 let M':Nat->Prop:=λb=>(fN b/\¬R b)/\b≠Bs
 have Y1:∀b,R b->fN b:=by
  rintro b (rfl|rfl|rfl|rfl|⟨i,hs⟩)
  .exact Qw.1
  .exact Qw.2.1
  .exact Qw.2.2.2.2
  .exact hf.Tp
  .exact hf.sm i b hs
 have WO:∀b,(b=nb\/∃i,S i b)->R b:=λb hb=>.inr (.inr (.inr hb))
 have hJ:me J P0 p ok R w:=⟨rfl,rfl,rfl,rfl,rfl,rfl,rfl,ack _,cl,cn,cb,.inl rfl,.inr (.inl rfl),.inr (.inr (.inl rfl)),.inr (.inr (.inr (.inl rfl))),hf.gt,λi b hs=>.inr (.inr (.inr (.inr ⟨i,hs⟩))),λi hi ai k=>hf.closed i hi ai (k.mono WO),hf.Kg,hf.Kh,λi hi F ai k τ d=>hf.MZ i hi F ai (k.mono WO) τ d,hf.ren,λV b xs z h1 h2 h3=>by rw[uk J _ rfl];exact hf.least V b xs z h1 h2 h3,hf.QU⟩;have Bh:∀b,p.Sp b->¬M' b/\¬R b:=by
  rintro b (e|e|e)
  .rw[show b=wg from e];have hv:=(h.vm wg (.inr rfl)).1;exact⟨λx=>hv x.1.1,λx=>hv (Y1 _ x)⟩
  .rw[show b=tb from e];have hv:=(h.vm tb (.inl (.inr rfl))).1;exact⟨λx=>hv x.1.1,λx=>hv (Y1 _ x)⟩
  .rw[show b=Bs from e];refine⟨λx=>x.2 rfl,?_⟩;show¬(Bs=bl\/Bs=bn\/Bs=bb\/Bs=nb\/∃i,S i Bs);rintro(x|x|x|x|⟨i,x⟩)
   .omega
   .omega
   .omega
   .omega
   .have:=hSb i _ x;omega
 have EQ:∀b,p.Sp b->b<w:=by
  rintro b (e|e|e)
  .rw[show b=wg from e];exact h.JX wg (.inr rfl)
  .rw[show b=tb from e];exact h.JX tb (.inl (.inr rfl))
  .rw[show b=Bs from e];exact h.lt Bs (.inl Qw.2.2.2.1)
 have KX:BT J P0 p ok M' R w R M' w:=⟨hJ,λb x=>x,aO.refl _ _,λb hb=>⟨(Bh b hb).1,(Bh b hb).2,EQ b hb⟩,λb hb=>h.lt b (.inl (hb.elim (λx=>x.1.1) (Y1 b))),λb hb=>hb.1.2,DR,by show wg≠Bs;omega⟩;have hs:=My (J:=J) (p:=p) (M':=M') (Ro0:=R) (Wst:=w) (cs:=rb) (r4:=r4) (t0:=.slice la ln lc) (t1:=.slice (some ⟨nb,no,none⟩) nn nc) eh hP gY xH (show nn<4611686018427387904 by omega) rfl rfl 4 0 undef v9 v10 undef undef undef undef undef undef undef undef R M' w rfl KX;have gh:1<=gs.size:=(acm.1 h.main).1;have hG:p.Geo ax:=⟨by show wg≠tb;omega,by show wg≠Bs;omega,by show tb≠Bs;omega,λa ha=>h.jT Bs (.inl Qw.2.2.2.1) (.cell a) ha,gh⟩;obtain⟨N,jw,w',jU,t',a',qk,oD,seq,vs,Mr,dW,Td⟩:=Ph.phase (p:=p) (sl:=sl) (M':=M') (Fin:=p.Rq (U8 J P0 p ok M' R w r4 (.slice la ln lc) (.slice (some ⟨nb,no,none⟩) nn nc)) (base 139) ur 0 [] [.code (fi iE)] rb)
  (TM J wg tb Bs nn gs.size t.size) hG (by show 4<2147483647;omega) (by show 1<=4;omega) (show nn+4<4611686018427387904 from hn) (by rintro _ _ _ _ ⟨T,abW,rfl,_⟩;rfl)
  (λRo M g W hA _=>Ph.waitRound (p:=p) (L:=link) zF (λa Ro M w ab9 hF k=>⟨hF.1,hF.2.rely k⟩) (λa Ro M w hF e=>e.elim (hF.2.sp _ (.inl rfl)).1 (hF.2.sp _ (.inl rfl)).2.1) Ro M g W hA)
  (h.split Y1) rfl rfl (.inr rfl) (.inl (.inr rfl)) (EQ _ (.inr (.inr rfl))) (λb hb=>hb.1) Bh (λb hb=>hb.1.2) cw ⟨ff ct,by show w.frozen? tb=false;simp[World.frozen?,ct]⟩ (by obtain⟨cs,g1,g2⟩:=cB;exact⟨cs,g1,g2⟩) hs
 exact⟨J,rfl,rfl,rfl,rfl,p,rfl,N,jw,w',jU,t',a',qk,oD,seq,vs,Mr,M',R,dW,Td,λb hb hne=>by
  by_cases x:R b
  .exact .inr x
  .exact .inl ⟨⟨hb,x⟩,hne⟩⟩
end
section
variable [Gl]{P0:Program}{ok:Ctx}{c:Frame}{J:Jb}{r0:Frame}{rest:List Frame}
theorem Hx (eh:dE P0 P0 ok)(hP:dE P0 Tryz.prog ok)(gY:∀f,ok.fn f=true->ok.bI f=true)(xH:jl P0 c)(fw:ok.bI 160=true/\ok.fn 161=true)
  (SZ:∀(V:World) (b:Nat) (xs:List aN) (z:Nat×Nat),xs.length<=1048576->V.heap[b]?=some (.cells (xs.flatMap aN.cells).toArray 177 z)->(∀x∈xs,dX V x.a x.n x.g/\x.n<=1048576)->
   Calls P0 160 #[.slice b xs.length xs.length,.func (.func 161) #[] #[]] V λe w'=>e=.returned (J.cR xs).val/\Below V V w')
  (qP:∀xs,xs≠[]->J.cR xs∈xs){xs:List aN}(h4:xs.length=4){M:Nat->Prop}{W:World}{t0 t1 v8 v9 v10 v12 v13 v14 v15 v16 v17 v18 v19 v20:Value}{bl bn r4 tb wg bb Bs:Nat}
  (hM:∀b,M b->b<W)(DR:Gl.n<=W)(m4:M r4)(mb:M bb)(mB:M Bs)(n1:r4≠Bs)(n2:bb≠Bs)(n3:r4≠bb)(c4:∃cs:Array Value,W.heap[r4]?=some (.cells cs 177 (0,0))/\cs.size=4)
  (cb:W.heap[bb]?=some (.cells #[.slice Bs 4 4] 211 (0,0)))(cB:W.heap[Bs]?=some (.cells (xs.flatMap aN.cells).toArray 177 (0,0)))(hx:∀x∈xs,iH W (λb=>M b/\b≠r4/\b≠bb) x):
  ET Tryz.prog true (λ_=>True) Ph.mU (λ_=>False) (λM' g W'=>g=G (r0.finish (J.cR xs).val) rest/\(∀b,M b->M' b)/\aO (λb=>M b/\b≠r4/\b≠Bs) W W'/\∀x∈xs,iH W' M' x) M
   (G ((base 139).at (Act.put ⟨#[t0,t1,.pointer bl,.pointer bn,.pointer r4,.pointer tb,.pointer wg,.pointer bb,v8,v9,v10,.int .i64 4,v12,v13,v14,v15,v16,v17,v18,v19,v20],[]⟩ ((ur[0]?).bind (·.dst)) (.tuple #[])) (.inRegion ur []::[.code (fi iE)])) (r0::rest)) W:=by
 have k_:(ur[0]?).bind (·.dst)=some 18:=bR;rw[k_];simp only[iE,dK,Tryz.f139,Option.getD_some,fi];walk_nrm
 apply ET.ns;refine ET.val (.slice Bs 4 4) rfl rfl (by k_ne) (λai ab3 _=>?_) ?_
 .have hc:=ff ((ab3.block _ (.inl mb)).trans cb);refine⟨?_,λe he=>?_⟩
  .go_simp
  .simp[go_sem,hc]at he;subst he;exact ge mb
 walk_nrm
 have hne:xs≠[]:=λe=>by rw[e]at h4;simp at h4
 have hm:=qP xs hne;have Y2:∀x∈xs,∀a,x.a=some a->(λb=>b=Bs\/∃x,x∈xs/\∃a,x.a=some a/\a.block=b) a.block:=λx hx a ha=>.inr ⟨x,hx,a,ha,rfl⟩
 have UQ:∀z∈xs,∀v∈z.cells,ar ok (qW (λb=>b=Bs\/∃x,x∈xs/\∃a,x.a=some a/\a.block=b)) v v:=by
  intro z hz v hv;simp only[aN.cells,List.mem_cons,List.not_mem_nil,or_false]at hv;rcases hv with rfl|rfl|rfl|rfl
  .exact .bool _
  .exact .int _ _
  .exact .int _ _
  .cases hza:z.a with
   |none=>exact .dg _ _
   |some a=>exact .slice _ _ ⟨fD.2 ⟨Y2 z hz a hza,rfl⟩,rfl,rfl⟩
 refine ET.Ew (I:=λ_=>True) (Sp:=λ_=>False) eh hP gY xH rfl rfl (by k_ne) rfl Tryz.func160 bR rfl fw.1 (λ_ _ _ _=>trivial) (λb hb=>hb) ⟨λb hb=>hb.elim,λb hb=>hb.elim⟩ hM DR (λb=>b=Bs\/∃x,x∈xs/\∃a,x.a=some a/\a.block=b)
  (λdq v w=>v=(J.cR xs).val/\∀b,b<dq.heap.size->w.heap[b]?=(fc (λ_=>False) dq).heap[b]?) (λW v w τ d h=>h) ?_ ?_ ?_ ?_ ?_
 .rintro b (rfl|⟨x,h1,a,ha,rfl⟩)
  .exact .inl mB
  .exact .inl ((hx x h1).blk a ha).2.1.1
 .intro dq dx;refine⟨?_⟩;rintro b (rfl|⟨x,h1,a,ha,rfl⟩)
  .refine⟨_,_,(dx.block _ (.inl mB)).trans cB,λv hv=>?_⟩;simp only[List.mem_toArray,List.mem_flatMap]at hv;obtain⟨z,h1,h2⟩:=hv;exact UQ z h1 v h2
  .obtain⟨_,h2,cs,e,h3,h4⟩:=(hx x h1).blk a ha;exact⟨cs,e,(dx.block _ (.inl h2.1)).trans h3,λv hv=>by obtain⟨n,rfl⟩:=h4 v hv;exact .int _ _⟩
 .intro v hv;simp[Act.eval]at hv;rcases hv with rfl|rfl
  .exact .slice _ _ ⟨fD.2 ⟨.inl rfl,rfl⟩,rfl,rfl⟩
  .exact .func (.func fw.2) rfl (λi x x' h=>by simp at h) rfl (λi x x' h=>by simp at h)
 .intro dq dx _ τ d;walk_nrm
  obtain⟨z',h1,_⟩:=fP (F:=λ_=>False) ((dx.block _ (.inl mB)).trans cB);have hc:=SZ (re (fc (λ_=>False) dq) τ d) Bs xs z' ab h1 (λx dB=>⟨qY ((hx x dB).keep (M':=λ_=>True) (λ_ _=>trivial) λa ha=>dx.block _ (.inl ((hx x dB).blk a ha).2.1.1)).row,(hx x dB).small⟩);rw[h4]at hc;refine hc.mono ?_;rintro e w' ⟨rfl,hb⟩;exact⟨_,rfl,rfl,λb cZ=>hb.block b (by show b<(fc (λ_=>False) dq).heap.size;rw[iY];exact cZ)⟩
 .intro dq v' M' W' dx aaE i' hB;have GT:∀x∈xs,iH dq (λb=>M b/\b≠r4/\b≠bb) x:=λx dB=>(hx x dB).keep (λ_ h=>h) λa ha=>dx.block _ (.inl ((hx x dB).blk a ha).2.1.1)
  obtain⟨σ,v,V',hv,⟨rfl,V0⟩,hw,hS,se,Ld⟩:=hB.res;obtain⟨a',rfl,hn,ha⟩:=xp hv;have ea:a'=(J.cR xs).a:=by
   cases e:(J.cR xs).a with
   |none=>exact hn.1 e
   |some a=>
    obtain⟨d,h1,h2⟩:=ha a e;have h3:=h2.blk;rw[hS _ (Y2 _ hm a e)]at h3;simp only[Option.some.injEq]at h3;rw[h1];obtain⟨d1,d2,d3⟩:=d;have h4:=h2.off;have h5:=h2.spot;obtain⟨a1,a2,a3⟩:=a;simp only at h3 h4 h5;rw[h3,h4,h5]
  have ev:aN.val {J.cR xs with a:=a'}=(J.cR xs).val:=by rw[ea]
  rw[ev];have same:∀b cs e,M b->σ b=some b->dq.heap[b]?=some (.cells cs e (0,0))->(∀v∈cs,∃n:Int,v=.int .i64 n)->W'.heap[b]?=dq.heap[b]?:=by
   intro b cs e hm hs h3 h4;obtain⟨o,o',g1,g2,g3⟩:=hw.heap _ _ hs;obtain⟨z',f1,_⟩:=fP (F:=λ_=>False) h3;rw[V0 b (acl (hM b hm) dx.size),f1]at g1;cases g1;cases g3 with
   |@cells _ c' _ _ z'' hv hz=>
    replace hz:=hz.resolve_right (λh=>by cases h.1);have:c'=cs:=by
     refine Array.ext hv.size.symm λj h1 h2=>?_
     obtain⟨n,Cg⟩:=h4 cs[j] (Array.getElem_mem h2);have:=hv.at_ j _ _ (acs h2) (acs h1);rw[Cg]at this⊢;generalize c'[j]=w at this;cases this;rfl
    rw[g2,h3,this,hz];rfl
  have GJ:∀b,M b->b≠Bs->W'.heap[b]?=dq.heap[b]?:=by
   intro b hb hne;by_cases hs:(λb=>b=Bs\/∃x,x∈xs/\∃a,x.a=some a/\a.block=b) b
   .have lZ:=hS b hs;rcases hs with e|⟨x,h1,a,ha,rfl⟩
    .exact absurd e hne
    .obtain⟨_,_,cs,e,h3,h4⟩:=(GT x h1).blk a ha;exact same _ cs e hb lZ h3 h4
   .exact hB.rest.block b ⟨hb,hs⟩
  have nx:∀x∈xs,∀a,x.a=some a->a.block≠Bs:=λx h1 a ha e=>by
   obtain⟨_,_,cs,e',h3,h4⟩:=(hx x h1).blk a ha;rw[e,cB]at h3;cases h3;obtain⟨n,hn⟩:=h4 (.bool x.ok) (by simp only[List.mem_toArray,List.mem_flatMap];exact⟨x,h1,by simp[aN.cells]⟩);cases hn
  have dB:∀x∈xs,iH W' (λb=>M' b/\b≠r4) x:=λx h1=>(GT x h1).keep (λb hb=>⟨hB.own _ hb.1,hb.2.1⟩) λa ha=>GJ _ ((GT x h1).blk a ha).2.1.1 (nx x h1 a ha)
  have nZ:aO (λb=>M b/\b≠r4/\b≠Bs) W W':=⟨λb hb=>(GJ b hb.1 hb.2.2).trans (dx.block b (.inl hb.1)),acn dx.size hB.ro.size,hB.ro.os.trans dx.os,hB.ro.out.trans dx.out⟩;have c4':∃cs:Array Value,W'.heap[r4]?=some (.cells cs 177 (0,0))/\cs.size=4:=by
   obtain⟨cs,g1,g2⟩:=c4;exact⟨cs,(GJ _ m4 n1).trans ((dx.block _ (.inl m4)).trans g1),g2⟩
  have XI:=hB.own _ m4;have aU:=hB.own;clear GJ same hw hS se Ld hv hn ha ea ev V0 hB GT dx c4 cb cB hx;walk_nrm
  refine ET.none rfl rfl (by k_ne) λqe jS _=>?_
  obtain⟨cs,g1,g2⟩:=c4';have Ov:=(jS.block _ (.inl XI)).trans g1;refine⟨qe.setRow r4 (J.cR xs).cells.toArray,(ft rfl rfl rfl Ov g2).1,?_,?_⟩
  .refine ez.row _ XI λe he=>?_
   obtain⟨j,rfl⟩:=(ft (t:=J.cR xs) rfl rfl rfl Ov g2).2 e (mem_listed he);exact ge XI
  rw[cD (setRow_size _ _ _)];have h6:(qe.setRow r4 (J.cR xs).cells.toArray).heap[r4]?=some (.cells (J.cR xs).cells.toArray 177 (0,0)):=setRow_heap _ _ _ _ _ _ Ov;have ho:∀b,b≠r4->(qe.setRow r4 (J.cR xs).cells.toArray).heap[b]?=qe.heap[b]?:=λb hb=>setRow_other _ _ _ _ hb
  have hx4:∀x∈xs,iH (qe.setRow r4 (J.cR xs).cells.toArray) (λb=>M' b/\b≠r4) x:=λx h1=>(dB x h1).keep (λ_ h=>h) λa ha=>(ho _ ((dB x h1).blk a ha).2.1.2).trans (jS.block _ (.inl ((dB x h1).blk a ha).2.1.1))
  have SX:aO (λb=>M b/\b≠r4/\b≠Bs) W (qe.setRow r4 (J.cR xs).cells.toArray):=nZ.trans ⟨λb hb=>(ho b hb.2.1).trans (jS.block b (.inl (aU b hb.1))),by rw[setRow_size];exact jS.size,jS.os,jS.out⟩;generalize qe.setRow r4 (J.cR xs).cells.toArray=abm at h6 hx4 SX⊢;clear ho dB nZ jS g1 Ov;walk_nrm
  apply ET.rn;apply ET.rt;refine ET.AE (J.cR xs).val rfl rfl Tryz.func139 (λKa xR _=>?_) (ET.stop λKa xR _=>⟨rfl,aU,SX.trans (xR.mono λb hb=>.inl (aU b hb.1)),λx h1=>(hx4 x h1).keep (λb hb=>hb.1) λa ha=>xR.block _ (.inl ((hx4 x h1).blk a ha).2.1.1)⟩);have YO:=(xR.block _ (.inl XI)).trans h6;have q0:Ka.cell? r4=some (.bool (J.cR xs).ok):=BL;have q1:Ka.cell? ⟨r4,1,none⟩=some (.int .i64 (J.cR xs).sum):=BL;have q2:Ka.cell? ⟨r4,2,none⟩=some (.int .i64 (J.cR xs).most):=BL;have q3:Ka.cell? ⟨r4,3,none⟩=some (.slice (J.cR xs).a (J.cR xs).n (J.cR xs).cap):=BL;refine⟨?_,λe he=>?_⟩
  .simp[results,Tryz.f139,go_sem,aN.val,q0,q1,q2,q3]
  .simp[results,Tryz.f139,go_sem,q0,q1,q2,q3]at he;rcases he with rfl|rfl|rfl|rfl<;>exact ge XI
end
section
variable [Gl]{P0:Program}{ok:Ctx}{c:Frame}{ax:Loc->Prop}{r0:Frame}{rest:List Frame}{M:Nat->Prop}{gs:Array Goroutine}{w:World}{sl:Option (Nat×Nat)}{t:Trace}{q:Nat->Nat}{la:Option Addr}{ln lc nb no nn nc:Nat}{gB:Nat->Value}{S:Nat->Nat->Prop}{Is:Nat->aN->Prop}{lt:aN->aN->Bool}
def Yt (lt:aN->aN->Bool)(Is:Nat->aN->Prop)(nn:Nat)(x:aN):Prop:=
 ∃(J:Jb) (xs:List aN) (seq:Nat->List Nat),J.lt=lt/\J.Is=Is/\xs.length=4/\(∀i y,xs[i]?=some y->vn J (seq i) y)/\(∀k,k<nn->∃i,i<4/\k∈seq i)/\(∀i,i<4->∀k∈seq i,k<nn)/\x=J.cR xs
omit [Gl] in
theorem wv (J:Jb):∀xs,xs≠[]->J.cR xs∈xs:=by
 intro xs h;cases xs with
 |nil=>exact absurd rfl h
 |cons x xs=>
  simp only[Jb.cR];clear h;induction xs generalizing x with
  |nil=>simp
  |cons y ys ih=>
   simp only[List.foldl_cons];have:=ih (J.pick x y);rcases J.pk x y with e|e<;>rw[e]at this⊢<;>simp at this⊢<;>rcases this with h|h<;>simp[h]
theorem Hs.mono {fN:Nat->Prop}{ab9:World}(h:Hs P0 ok M w la ln lc nb no nn gB S Is lt)(hM:∀b,M b->fN b)(hk:aO M w ab9):Hs P0 ok fN ab9 la ln lc nb no nn gB S Is lt:=by
 have hR:∀b,(b=nb\/∃i,S i b)->M b:=λb hb=>hb.elim (λe=>e▸h.Tp) λ⟨i,hs⟩=>h.sm i b hs
 exact⟨hM _ h.Tp,λi hi=>by rw[<-h.gt i hi];simp only[World.cell?,hk.block _ h.Tp],λi b hs=>hM _ (h.sm i b hs),λi hi ai k=>h.closed i hi ai ((hk.mono hR).trans k),h.Kg,h.Kh,λi hi F ai k τ d=>h.MZ i hi F ai ((hk.mono hR).trans k) τ d,h.ren,h.least,h.QU⟩
omit [Gl] in
theorem ZF {xs:Nat->aN}{cs:Array Value}(hs:cs.size=16)(h:∀i,i<4->∀o,o<4->cs[i*4+o]?=(xs i).cells[o]?):cs=([xs 0,xs 1,xs 2,xs 3].flatMap aN.cells).toArray:=by
 refine Array.ext (by simp[aN.cells,hs]) λj h1 h2=>?_
 have hj:j<16:=by omega
 have h':=h (j/4) (by omega) (j%4) (by omega);rw[show j/4*4+j%4=j by omega,acs h1]at h';have:([xs 0,xs 1,xs 2,xs 3].flatMap aN.cells).toArray[j]?=some cs[j]:=by
  rw[h'];clear h' h1 h2;obtain rfl|rfl|rfl|rfl|rfl|rfl|rfl|rfl|rfl|rfl|rfl|rfl|rfl|rfl|rfl|rfl:j=0\/j=1\/j=2\/j=3\/j=4\/j=5\/j=6\/j=7\/j=8\/j=9\/j=10\/j=11\/j=12\/j=13\/j=14\/j=15:=by omega
  all_goals rfl
 rw[acs h2]at this;exact(acr this).symm
theorem RZ (eh:dE P0 P0 ok)(hP:dE P0 Tryz.prog ok)(gY:∀f,ok.fn f=true->ok.bI f=true)(xH:jl P0 c)(hn:nn+4<4611686018427387904)
  (h:dD Tryz.prog ax (λ_=>False) (λ_=>False) M gs (G ((base 139).at ⟨#[.slice la ln lc,.slice (some ⟨nb,no,none⟩) nn nc,undef,undef,undef,undef,undef,undef,undef,undef,undef,undef,undef,undef,undef,undef,undef,undef,undef,undef,undef],[]⟩ [.code dK]) (r0::rest)) w t q)
  (hf:Hs P0 ok M w la ln lc nb no nn gB S Is lt)(DR:Gl.n<=w):
  ∃N jw w' jU t' q' rP M' x,runNT Tryz.prog N (crowd gs w sl) t=(.next (crowd jw w' jU),t')/\dD Tryz.prog rP (λ_=>False) (λ_=>False) M' jw (G (r0.finish x.val) rest) w' t' q'/\
   EN M w M' w'/\iH w' (λb=>M' b/\w.heap.size<=b) x/\Yt lt Is nn x:=by
 obtain⟨N1,YM,M1,w1,Ye,t1,q1,bl,bn,r4,tb,wg,Bs,bb,v9,v10,e1,e2,e3,hE,ho,hm,cl,cn,c4,ct,cw,cb,cB⟩:=Pq (sl:=sl) h;have aI:=h.O2;have uQ:=hf.mono hE.own hE.keep;obtain⟨J,j1,j2,j3,j4,p,hp,N2,Oy,w2,PA,t2,a2,Ro2,M2,seq,vs,Mr,M',R,f1,f2,f3⟩:=Pk (sl:=Ye) (nc:=nc) eh hP gY xH hn e3 uQ (acn DR hE.keep.size) ⟨ho.2.1,ho.2.2.1,ho.2.2.2.1,ho.2.2.2.2.1,ho.2.2.2.2.2.1,ho.2.2.2.2.2.2⟩ hm (by have:=aI _ hf.Tp;omega) (λi b hs=>by have:=aI _ (hf.sm i b hs);omega) cl cn ct cw cb cB;obtain⟨abW,⟨⟨u8,u9,NC,ND,NE,NF,NG,u16,NH,Ue,NI,NJ,rfl⟩,KX⟩,hT⟩:=f2.fin;subst hp;have hX:∀i,∃x:aN,i<4->vs i=x.cells/\vn J (seq i) x/\iH w2 (Mr i) x/\∀b,Mr i b->w1.heap.size<=b:=λi=>by
  by_cases hi:i<4
  .obtain⟨x,h1,h2,h3,h4⟩:=f2.res i hi;exact⟨x,λ_=>⟨h1,h2,h3,λb hb=>j4▸h4 b hb⟩⟩
  .exact⟨dQ,λx=>absurd x hi⟩
 let X:Nat->aN:=λi=>(hX i).choose
 have UB:∀i,i<4->vs i=(X i).cells/\vn J (seq i) (X i)/\iH w2 (Mr i) (X i)/\∀b,Mr i b->w1.heap.size<=b:=λi hi=>(hX i).choose_spec hi
 obtain⟨cs,Wn,Wp⟩:=f2.bs;have hcs:cs=([X 0,X 1,X 2,X 3].flatMap aN.cells).toArray:=ZF Wp λi hi o Lj=>by
  rw[<-(UB i hi).1];exact(f2.slot i hi).2 cs ⟨Wn,Wp⟩ o Lj
 have iZ:w1.heap.size<=w2:=KX.keep.size;have hwz:=hE.keep.size;have SV:∀b,M1 b->b≠Bs->w2.heap[b]?=w1.heap[b]?:=λb hb hne=>KX.keep.block b (f3 b hb hne)
 let M3:Nat->Prop:=λb=>(M b\/w.heap.size<=b)/\b<w2/\∀l,fg (·=b) l->¬(ph J wg tb Bs nn YM.size t1.size).Sh ax l
 obtain⟨q2,hL⟩:=f2.lone (M':=M3) (λl hl=>Loc.low_mono iZ (e3.low l hl)) (λb hb=>⟨hb.2.1,hb.2.2⟩);have OC:∀b,M1 b->M3 b:=λb hb=>⟨hE.new b hb,acl (hE.lt b hb) iZ,λl hl hx=>by
  rcases hx with hx|⟨a,rfl,hx⟩
  .exact e3.jT b (.inl hb) l hl hx
  .have JO:a.block=b:=hl;rcases hx with hx|hx
   .have dB:a.block=wg:=hx;exact(e3.vm wg (.inr rfl)).1 (by rw[<-dB,JO];exact hb)
   .have dB:a.block=tb:=hx;exact(e3.vm tb (.inl (.inr rfl))).1 (by rw[<-dB,JO];exact hb)⟩
 have H':∀i,i<4->∀b,Mr i b->M3 b/\b≠r4/\b≠bb:=λi hi b hb=>by
  have h1:=(UB i hi).2.2.2 b hb;have h2:=f2.own i hi b hb;have h3:=hE.lt _ hm.2.2.1;have h4:=hE.lt _ hm.2.2.2.2;refine⟨⟨.inr ab,h2.1,λl hl hx=>?_⟩,ab,ab⟩;rcases hx with hx|⟨a,rfl,hx⟩
  .exact f2.jT i hi b hb l hl hx
  .have JO:a.block=b:=hl;exact h2.2.2.2 (by rw[<-JO];exact hx.elim .inl λy=>.inr (.inl y))
 have IC:∀x∈[X 0,X 1,X 2,X 3],∃i,i<4/\x=X i:=by
  intro x hx;simp only[List.mem_cons,List.not_mem_nil,or_false]at hx;rcases hx with rfl|rfl|rfl|rfl
  .exact⟨0,ab,rfl⟩
  .exact⟨1,ab,rfl⟩
  .exact⟨2,ab,rfl⟩
  .exact⟨3,ab,rfl⟩
 have hA:=Hx (J:=J) (r0:=r0) (rest:=rest) (xs:=[X 0,X 1,X 2,X 3]) (M:=M3) (W:=w2) (r4:=r4) (bb:=bb) (Bs:=Bs) (bl:=J.bl) (bn:=J.bn) (tb:=J.tb) (wg:=wg) (t0:=.slice la ln lc) (t1:=.slice (some ⟨nb,no,none⟩) nn nc) (v8:=u8) (v9:=u9) (v10:=NC) (v12:=ND) (v13:=NE) (v14:=NF) (v15:=NG) (v16:=u16) (v17:=NH) (v18:=Ue) (v19:=NI) (v20:=NJ)
  eh hP gY xH hf.QU.2 (λV b xs z h1 h2 h3=>by rw[uk J ⟨0,0,0,0,0,0,0,.nilFunc,gB,S,Is,lt,0⟩ j1];exact hf.least V b xs z h1 h2 h3) (wv J) rfl (λb hb=>hb.2.1) ab (OC _ hm.2.2.1) (OC _ hm.2.2.2.2) (OC _ hm.2.2.2.1) ab ab ab
  ⟨_,(SV _ hm.2.2.1 ab).trans c4,rfl⟩ ((SV _ hm.2.2.2.2 ab).trans cb) (by rw[<-hcs];exact Wn)
  (λx hx=>by obtain⟨i,hi,rfl⟩:=IC x hx;exact(UB i hi).2.2.1.keep (H' i hi) λ_ _=>rfl)
 rw[<-j3]at hA;obtain⟨r,hr⟩:=hT _ _ _ _ _ hA;obtain⟨N3,u_,M4,a3,w3,sl3,t3,q3,i1,i2,i3,i4,i5,i6,i7,i8⟩:=jf (λ_=>trivial) r _ Oy M3 _ w2 PA t2 q2 (ack _) hL hr;obtain⟨rfl,g1,g2,g3⟩:=i3 w3 (aO.refl _ _) trivial;have qP:=wv J [X 0,X 1,X 2,X 3] aH;obtain⟨i,hi,UV⟩:=IC _ qP;have YU:=g3 _ qP;refine⟨N1+(N2+N3),u_,w3,sl3,t3,q3,_,M4,J.cR [X 0,X 1,X 2,X 3],fF (fF i1 _ _ _ f1) _ _ _ e1,i4,⟨λb hb=>g1 b (OC b (hE.own b hb)),?_,i4.O2,λb hb=>?_⟩,⟨YU.row,YU.small,λa ha=>?_,YU.full⟩,J,_,seq,j1,j2,rfl,?_,f2.all,f2.aaU,rfl⟩
 .refine hE.keep.trans ⟨λb hb=>?_,ab,g2.os.trans KX.keep.os,g2.out.trans KX.keep.out⟩;have cZ:=aI b hb;rw[g2.block b ⟨OC b (hE.own b hb),ab,ab⟩,SV b (hE.own b hb) ab]
 .rcases i7 b hb with x|x
  .exact x.1
  .exact .inr ab
 .obtain⟨h1,h2,h3⟩:=YU.blk a ha;refine⟨h1,⟨h2,?_⟩,h3⟩;rw[UV]at ha;have:=(UB i hi).2.2.2 _ ((UB i hi).2.2.1.blk a ha).2.1;omega
 .intro i y hy;have hi:i<4:=by
   have:=(acv.1 hy).1;simpa using this
  have:y=X i:=by
   obtain rfl|rfl|rfl|rfl:i=0\/i=1\/i=2\/i=3:=ab;all_goals(simp at hy;exact hy.symm)
  rw[this];exact(UB i hi).2.1
end
end Go.Proofs.YtlmcblcijndipaaGreatDoor
namespace Go.Proofs.YtlmcblcijndipaaGreatDoor
open Go Go.Conc Go.RowKit Go.Conc.Lib Go.ConcR.Gen Go.Extern Go.Extern.Stop Go.Stop
set_option linter.unusedSimpArgs false
set_option linter.unusedVariables false
structure CS (eY:Nat->Prop)(abV:World)(L:List (Nat×Array Value×TypeId))(M:Nat->Prop)(W:World):Prop where
 own:∀b,eY b->M b
 keep:aO eY abV W
 lt:∀b,M b->b<W.heap.size
 new:∀b,M b->eY b\/abV.heap.size<=b
 O3:∀b,eY b->b<abV.heap.size
 at_:∀p∈L,M p.1/\W.heap[p.1]?=some (.cells p.2.1 p.2.2 (0,0))
section
variable {eY M:Nat->Prop}{abV W ai:World}{L:List (Nat×Array Value×TypeId)}
theorem CS.rely (h:CS eY abV L M W)(k:aO (λb=>M b\/False) W ai):CS eY abV L M ai:=⟨h.own,h.keep.trans (k.mono λb hb=>.inl (h.own b hb)),λb hb=>acl (h.lt b hb) k.size,h.new,h.O3,λp hp=>⟨(h.at_ p hp).1,(k.block _ (.inl (h.at_ p hp).1)).trans (h.at_ p hp).2⟩⟩
theorem CS.alloc (h:CS eY abV L M W)(cs:Array Value)(t:TypeId):CS eY abV ((W.heap.size,cs,t)::L) (grow M W (W.alloc (.cells cs t))) (W.alloc (.cells cs t)):=by
 have z:(W.alloc (.cells cs t)).heap.size=W.heap.size+1:=by show(W.heap.push _).size=_;simp
 refine⟨λb hb=>.inl (h.own b hb),h.keep.trans ⟨λb hb=>Below.heap_alloc _ _ _ (h.lt b (h.own b hb)),by rw[z];omega,rfl,rfl⟩,λb hb=>hb.elim (λx=>by rw[z];have:=h.lt b x;omega) And.right,λb hb=>hb.elim (h.new b) λx=>.inr (acn h.keep.size x.1),h.O3,λp hp=>?_⟩;rcases List.mem_cons.1 hp with rfl|hp
 .exact⟨.inr ⟨ack _,by rw[z];simp⟩,heap_alloc_new _ _⟩
 .exact⟨.inl (h.at_ p hp).1,(Below.heap_alloc _ _ _ (h.lt _ (h.at_ p hp).1)).trans (h.at_ p hp).2⟩
theorem CS.cell (h:CS eY abV L M W){b:Nat}{cs:Array Value}{t:TypeId}(hp:(b,cs,t)∈L){j:Nat}{v:Value}(hv:cs[j]?=some v):W.cell? ⟨b,j,none⟩=some v:=by
 rw[cell_of_row _ _ _ _ _ _ (h.at_ _ hp).2];exact hv
end
section
variable {P:Program}{m:Bool}{I:World->Prop}{X:Event->Prop}{Ro:Nat->Prop}{Stop:(Nat->Prop)->Goroutine->World->Prop}{M:Nat->Prop}{W:World}
 {b:Frame}{a:Act}{k:List Item}{cs:List Frame}{ops:Array Oper}{i:Nat}{rest:List Nat}{o:Oper}
theorem ET.pure (v:Value)(ho:ops[i]?=some o)
  (n:ET P m I X Ro Stop M (G (b.at (a.put o.dst v) (.inRegion ops rest::k)) cs) W)(hw:Region.wanted o (yielded ops a.tmps)=true:=by rfl)(hk:b.kind≠.early:=by k_ne)(hr:∀W,(execOp a.eval o).run P W=.ok (.value v) W:=by intro;kernel_rfl)(he:∀W,(execOp a.eval o).events P W #[]=#[]:=by intro;kernel_rfl):ET P m I X Ro Stop M (G (b.at a (.inRegion ops (i::rest)::k)) cs) W:=
 ET.val v ho hw hk (λai _ _=>⟨hr ai,λe h=>by rw[he ai]at h;simp at h⟩) n
theorem ET.ext (v:Value)(f:FuncId)(ho:ops[i]?=some o)
  (n:ET P m I X Ro Stop M (G (b.at (a.put o.dst v) (.inRegion ops rest::k)) cs) W)(hw:Region.wanted o (yielded ops a.tmps)=true:=by rfl)(hk:b.kind≠.early:=by k_ne)(hr:∀W,(execOp a.eval o).run P W=.ok (.value v) W:=by intro;kernel_rfl)(he:∀W,(execOp a.eval o).events P W #[]=#[⟨.mark (.extern f),false,true⟩]:=by intro;kernel_rfl):ET P m I X Ro Stop M (G (b.at a (.inRegion ops (i::rest)::k)) cs) W:=
 ET.val v ho hw hk (λai _ _=>⟨hr ai,λe h=>by rw[he ai]at h;simp at h;exact .inr (.inr (.inl ⟨_,rfl,h⟩))⟩) n
variable {eY:Nat->Prop}{abV:World}{L:List (Nat×Array Value×TypeId)}
def uF (e:Event):Prop:=∃f,e=⟨.mark (.extern f),false,true⟩
theorem uF.l_ {e:Event}(h:uF e):DO X M Ro e:=by obtain⟨f,h⟩:=h;exact .inr (.inr (.inl ⟨_,rfl,h⟩))
theorem ET.makes (v:Nat->Value)(xs:Array Value)(t:TypeId)(es:Array Event)(ho:ops[i]?=some o)(hw:Region.wanted o (yielded ops a.tmps)=true)(hk:b.kind≠.early)(h:CS eY abV L M W)
  (hr:∀W,(execOp a.eval o).run P W=.ok (.value (v W.heap.size)) (W.alloc (.cells xs t)))(he:∀W,(execOp a.eval o).events P W #[]=es)(hq:∀e∈es,uF e)
  (n:∀B M' W',CS eY abV ((B,xs,t)::L) M' W'->abV.heap.size<=B->(∀p∈L,p.1<B)->ET P m (λ_=>True) X (λ_=>False) Stop M' (G (b.at (a.put o.dst (v B)) (.inRegion ops rest::k)) cs) W'):ET P m (λ_=>True) X (λ_=>False) Stop M (G (b.at a (.inRegion ops (i::rest)::k)) cs) W:=
 ET.oper ho hw hk λai ab3 _=>⟨_,_,hr ai,ez.alloc _ λe h=>(hq e (by have:=mem_listed h;rw[he ai]at this;exact this)).l_,n _ _ _ ((h.rely ab3).alloc xs t) (h.rely ab3).keep.size λp hp=>(h.rely ab3).lt _ ((h.rely ab3).at_ p hp).1⟩
theorem ET.looks (v:Value)(ho:ops[i]?=some o)(hw:Region.wanted o (yielded ops a.tmps)=true)(hk:b.kind≠.early)(h:CS eY abV L M W)
  (hr:∀W,CS eY abV L M W->(execOp a.eval o).run P W=.ok (.value v) W/\∀e∈(execOp a.eval o).events P W #[],uF e\/∃p∈L,∃j,e=⟨.cell ⟨p.1,j,Option.none⟩,false,false⟩)
  (n:ET P m (λ_=>True) X (λ_=>False) Stop M (G (b.at (a.put o.dst v) (.inRegion ops rest::k)) cs) W):ET P m (λ_=>True) X (λ_=>False) Stop M (G (b.at a (.inRegion ops (i::rest)::k)) cs) W:=
 ET.val v ho hw hk (λai ab3 _=>⟨(hr ai (h.rely ab3)).1,λe he=>by
  rcases(hr ai (h.rely ab3)).2 e he with x|⟨p,hp,j,rfl⟩
  .exact x.l_
  .exact ge (h.at_ p hp).1⟩) n
theorem CS.set {B:Nat}{xs:Array Value}{t:TypeId}(h:CS eY abV ((B,xs,t)::L) M W)(hB:abV.heap.size<=B)(hL:∀p∈L,p.1<B)(ys:Array Value):CS eY abV ((B,ys,t)::L) M (W.setRow B ys):=by
 have z:(W.setRow B ys).heap.size=W.heap.size:=setRow_size _ _ _;refine⟨h.own,h.keep.trans ⟨λb hb=>setRow_other _ _ _ _ (by have:=h.O3 b hb;omega),by rw[z];exact ack _,rfl,rfl⟩,λb hb=>by rw[z];exact h.lt b hb,h.new,h.O3,λp hp=>?_⟩;rcases List.mem_cons.1 hp with rfl|hp
 .exact⟨(h.at_ _ (acM ..)).1,setRow_heap _ _ _ _ _ _ (h.at_ _ (acM ..)).2⟩
 .have:=h.at_ p (acL _ hp);exact⟨this.1,(setRow_other _ _ _ _ (acD (hL p hp))).trans this.2⟩
theorem ET.writes {B:Nat}{xs:Array Value}{t:TypeId}(ys:Array Value)(ho:ops[i]?=some o)(hw:Region.wanted o (yielded ops a.tmps)=true)(hk:b.kind≠.early)(h:CS eY abV ((B,xs,t)::L) M W)(hB:abV.heap.size<=B)(hL:∀p∈L,p.1<B)
  (hr:∀W,W.heap[B]?=some (.cells xs t (0,0))->(execOp a.eval o).run P W=.ok .skip (W.setRow B ys)/\∀e∈(execOp a.eval o).events P W #[],∃j,e=⟨.cell ⟨B,j,Option.none⟩,true,false⟩)
  (n:∀W',CS eY abV ((B,ys,t)::L) M W'->ET P m (λ_=>True) X (λ_=>False) Stop M (G (b.at (a.put o.dst undef) (.inRegion ops rest::k)) cs) W'):ET P m (λ_=>True) X (λ_=>False) Stop M (G (b.at a (.inRegion ops (i::rest)::k)) cs) W:=
 ET.none ho hw hk λai ab3 _=>by
  have h':=h.rely ab3;have hb:=h'.at_ _ (acM ..);refine⟨_,(hr ai hb.2).1,ez.row ys hb.1 λe he=>?_,?_⟩
  .obtain⟨j,rfl⟩:=(hr ai hb.2).2 e (mem_listed he);exact ge hb.1
  .rw[show grow M ai (ai.setRow B ys)=M from cD (setRow_size _ _ _)];exact n _ (h'.set hB hL ys)
end
section
variable {a:Act}{o:Oper}{x y:Operand}{B:Nat}{cur:Array Value}{ty:TypeId}{u v w:Value}{W:World}{p q:Addr}{n:Int}
theorem PX (bf:o.op=.store 162 x y)(ha:a.eval x=.pointer B)(hy:a.eval y=.agg #[.pointer (some p),.pointer (some q),.int .u64 n])(hg:W.heap[B]?=some (.cells cur ty (0,0)))(hl:cur.size=3):
  (execOp a.eval o).run Tryz.prog W=.ok .skip (W.setRow B #[.pointer (some p),.pointer (some q),.int .u64 n])/\∀e∈(execOp a.eval o).events Tryz.prog W #[],∃j,e=⟨.cell ⟨B,j,none⟩,true,false⟩:=by
 obtain⟨cs,h1,h2,h3⟩:∃cs:Array Value,#[Value.pointer (some p),.pointer (some q),.int .u64 n]=cs/\cs.size=3/\∀v∈cs.toList,v.oneCell'=true:=⟨_,rfl,rfl,vC⟩;rw[h1]at hy⊢;clear h1;have h:=run_storeCells_at (P:=Tryz.prog) B 0 ty cs.toList 0 cur W hg (by simp[hl,h2]) h3;rw[Nat.add_zero]at h;have hd:cur.toList.drop (0+cs.toList.length)=[]:=by simp[hl,h2]
 rw[hd]at h;simp only[List.take_zero,List.nil_append,List.append_nil]at h;refine⟨?_,λe he=>?_⟩
 .unfold execOp;simp only[bf,ha,hy];go_simp
 .have h:=lG (P:=Tryz.prog) B 0 ty cs.toList 0 cur W #[] hg (by simp[hl,h2]) h3 e;unfold execOp at he;simp only[bf,ha,hy]at he;simp[go_sem,h2]at he;rcases h he with x|⟨j,_,h5,h6⟩
  .simp at x
  .exact⟨_,h6⟩
theorem vl (bf:o.op=.load 162 x)(ha:a.eval x=.pointer B)(hg:W.heap[B]?=some (.cells #[u,v,w] ty (0,0))):
  (execOp a.eval o).run Tryz.prog W=.ok (.value (.agg #[u,v,w])) W/\∀e∈(execOp a.eval o).events Tryz.prog W #[],∃j,e=⟨.cell ⟨B,j,none⟩,false,false⟩:=by
 have c0:W.cell? B=some u:=by simp[World.cell?,hg]
 have c1:W.cell? ⟨B,1,none⟩=some v:=by simp[World.cell?,hg]
 have c2:W.cell? ⟨B,2,none⟩=some w:=by simp[World.cell?,hg]
 refine⟨?_,λe he=>?_⟩
 .unfold execOp;simp only[bf,ha];go_simp
 .unfold execOp at he;simp only[bf,ha]at he;simp[go_sem,c0,c1,c2]at he;rcases he with rfl|rfl|rfl<;>exact⟨_,rfl⟩
end
theorem Ui {eY M:Nat->Prop}{abV W:World}{L:List (Nat×Array Value×TypeId)}{P:Program}{s:Sem Next}{r:Result Next}{B:Nat}{cs:Array Value}{t:TypeId}(h:W.heap[B]?=some (.cells cs t (0,0))->s.run P W=r/\∀e∈s.events P W #[],∃j,e=⟨.cell ⟨B,j,none⟩,false,false⟩)
  (hW:CS eY abV L M W)(hm:(B,cs,t)∈L):s.run P W=r/\∀e∈s.events P W #[],uF e\/∃p∈L,∃j,e=⟨.cell ⟨p.1,j,none⟩,false,false⟩:=
 have x:=h (hW.at_ _ hm).2
 ⟨x.1,λe he=>.inr ⟨_,hm,x.2 e he⟩⟩
theorem rlm (z:Sem Value)(f:TypeId->Addr->Nat->Nat->Sem Value)(v:Value):
  ReflectliteValue.method z f #[v]=(do match<-ReflectliteValue.parts v with|none=>z|some (t,a,fl)=>f t a fl (fl%32)):=rfl
theorem pW (a:Addr)(w:World):(ReflectliteValue.parts (.agg #[.pointer (some ⟨9,138,none⟩),.pointer (some a),.int .u64 150])).run Tryz.prog w=.ok (some (138,a,150)) w:=bR
theorem Ma (a:Addr)(w:World)(es:Array Event):(ReflectliteValue.parts (.agg #[.pointer (some ⟨9,138,none⟩),.pointer (some a),.int .u64 150])).events Tryz.prog w es=es:=bR
theorem Mb (a p:Addr)(W:World)(es:Array Event)(ha:W.cell? a=some (.pointer (some p))):
  (ReflectliteValue.method (ReflectliteValue.valueError "reflectlite.Value.IsNil" 0) ReflectliteValue.isNil #[.agg #[.pointer (some ⟨9,138,none⟩),.pointer (some a),.int .u64 150]]).run Tryz.prog W=.ok false W/\
  (ReflectliteValue.method (ReflectliteValue.valueError "reflectlite.Value.IsNil" 0) ReflectliteValue.isNil #[.agg #[.pointer (some ⟨9,138,none⟩),.pointer (some a),.int .u64 150]]).events Tryz.prog W es=es.push ⟨.cell a,false,false⟩:=by
 rw[rlm];constructor
 .simp only[Sem.run_bind,pW,Result.andThen];simp[ReflectliteValue.isNil,loadVar,isAgg,underlying,Tryz.underlying138,ha,Result.andThen]
 .simp only[Sem.events_bind,pW,Ma,Result.evThen_ok];simp[ReflectliteValue.isNil,loadVar,isAgg,underlying,Tryz.underlying138,ha,Result.evThen,go_sem];rfl
theorem BQ {P:Program}{a:Act}{o:Oper}{f:FuncId}{fn:Func}{e:Array Value->Sem Value}{xs:Array Operand}{Vk:Array TypeId}{ys:Array Value}{v:Value}{b:Nat}{W:World}(bf:o.op=.call {callee:=.value (.func f),args:=xs,argTypes:=Vk})
  (hf:P.funcs[f]?=some fn)(we:(fn.name== "runtime.NumGoroutine")=false)(hb:fn.body.isNone=true)(hn:Extern.findNext fn=none)(he:Extern.find fn=some e)(hx:xs.map a.eval=ys)
  (h:∀es,(e ys).run P W=.ok v W/\(e ys).events P W es=es.push ⟨.cell b,false,false⟩):
  (execOp a.eval o).run P W=.ok (.value v) W/\∀e∈(execOp a.eval o).events P W #[],uF e\/e=⟨.cell b,false,false⟩:=by
 rw[execOp_call_func (a:=a) bf,hx];refine⟨by rw[run_callFunc_extern hf we hb hn he,(h #[]).1];rfl,λx hx=>?_⟩;rw[events_callFunc_extern hf we hb hn he,(h _).2]at hx;simp only[Array.mem_push,Array.not_mem_empty,false_or]at hx;rcases hx with rfl|rfl
 .exact .inl ⟨f,rfl⟩
 .exact .inr rfl
theorem QP {L:List (Nat×Array Value×TypeId)}{A:Prop}{es:Array Event}{B:Nat}{cs:Array Value}{t:TypeId}(h:A/\∀e∈es,uF e\/e=⟨.cell B,false,false⟩)(hm:(B,cs,t)∈L):
  A/\∀e∈es,uF e\/∃p∈L,∃j,e=⟨.cell ⟨p.1,j,none⟩,false,false⟩:=⟨h.1,λe he=>(h.2 e he).imp id λx=>⟨_,hm,0,x⟩⟩
theorem G4 {P:Program}{a:Act}{o:Oper}{x:Operand}{T:TypeId}{B:Nat}{v:Value}{ty:TypeId}{W:World}(bf:o.op=.load T x)(ha:a.eval x=.pointer B)(hT:∀w,(isAgg T).run P w=.ok false w)(hE:∀w es,(isAgg T).events P w es=es)(hg:W.heap[B]?=some (.cells #[v] ty (0,0))):
  (execOp a.eval o).run P W=.ok (.value v) W/\∀e∈(execOp a.eval o).events P W #[],∃j,e=⟨.cell ⟨B,j,none⟩,false,false⟩:=by
 have c0:W.cell? B=some v:=by simp[World.cell?,hg]
 refine⟨?_,λe he=>?_⟩
 .unfold execOp;simp only[bf,ha];simp[Instr.loadAt,Instr.sureAddr,loadVar,hT,c0,Result.andThen,go_sem]
 .unfold execOp at he;simp only[bf,ha]at he;simp[Instr.loadAt,Instr.sureAddr,loadVar,hT,hE,c0,Result.evThen,go_sem]at he;exact⟨0,he⟩
theorem wQ (w:World):(Rtype.elem? 138).run Tryz.prog w=.ok (some 131) w:=bR
theorem I5 (w:World)(es:Array Event):(Rtype.elem? 138).events Tryz.prog w es=es:=bR
theorem TS (p:Addr)(w:World):(ReflectliteValue.mk 131 p ReflectliteValue.flagAddr).run Tryz.prog w=.ok (.agg #[.pointer (some ⟨9,131,none⟩),.pointer (some p),.int .u64 409]) w:=bR
theorem Pr (p:Addr)(w:World)(es:Array Event):(ReflectliteValue.mk 131 p ReflectliteValue.flagAddr).events Tryz.prog w es=es:=bR
theorem NL (a p:Addr)(W:World)(es:Array Event)(ha:W.cell? a=some (.pointer (some p))):
  (ReflectliteValue.method (ReflectliteValue.valueError "reflectlite.Value.Elem" 0) ReflectliteValue.elem #[.agg #[.pointer (some ⟨9,138,none⟩),.pointer (some a),.int .u64 150]]).run Tryz.prog W=.ok (.agg #[.pointer (some ⟨9,131,none⟩),.pointer (some p),.int .u64 409]) W/\
  (ReflectliteValue.method (ReflectliteValue.valueError "reflectlite.Value.Elem" 0) ReflectliteValue.elem #[.agg #[.pointer (some ⟨9,138,none⟩),.pointer (some a),.int .u64 150]]).events Tryz.prog W es=es.push ⟨.cell a,false,false⟩:=by
 rw[rlm];constructor
 .simp only[Sem.run_bind,pW,Result.andThen];simp[ReflectliteValue.elem,loadVar,isAgg,underlying,Tryz.underlying138,ha,Result.andThen,wQ,TS]
 .simp only[Sem.events_bind,pW,Ma,Result.evThen_ok];simp[ReflectliteValue.elem,loadVar,isAgg,underlying,Tryz.underlying138,ha,Result.evThen,wQ,Pr,I5,go_sem];rfl
theorem zn (a:Addr)(w:World):(ReflectliteValue.parts (.agg #[.pointer (some ⟨9,131,none⟩),.pointer (some a),.int .u64 409])).run Tryz.prog w=.ok (some (131,a,409)) w:=bR
theorem zp (a:Addr)(w:World):(ReflectliteValue.parts (.agg #[.pointer (some ⟨9,131,none⟩),.pointer (some a),.int .u64 153])).run Tryz.prog w=.ok (some (131,a,153)) w:=bR
theorem TQ (a:Addr)(w:World)(es:Array Event):(ReflectliteValue.parts (.agg #[.pointer (some ⟨9,131,none⟩),.pointer (some a),.int .u64 409])).events Tryz.prog w es=es:=bR
theorem TR (a:Addr)(w:World)(es:Array Event):(ReflectliteValue.parts (.agg #[.pointer (some ⟨9,131,none⟩),.pointer (some a),.int .u64 153])).events Tryz.prog w es=es:=bR
theorem zl (w:World):(Rtype.directlyAssignable 131 131).run Tryz.prog w=.ok true w:=bR
theorem C7 (w:World)(es:Array Event):(Rtype.directlyAssignable 131 131).events Tryz.prog w es=es:=bR
theorem C8 (w:World):(sizeOf 131).run Tryz.prog w=.ok 1 w:=bR
theorem I6 (w:World)(es:Array Event):(sizeOf 131).events Tryz.prog w es=es:=bR
theorem TT (ta b:Addr)(c:Int)(old:Value)(W:World)(es:Array Event)(hb:W.cell? b=some (.int .i64 c))(ht:W.cell? ta=some old)(hf:W.frozen? ta=false):
  (ReflectliteValue.set #[.agg #[.pointer (some ⟨9,131,none⟩),.pointer (some ta),.int .u64 409],.agg #[.pointer (some ⟨9,131,none⟩),.pointer (some b),.int .u64 153]]).run Tryz.prog W=.ok (.tuple #[]) (W.setCell ta c)/\
  (ReflectliteValue.set #[.agg #[.pointer (some ⟨9,131,none⟩),.pointer (some ta),.int .u64 409],.agg #[.pointer (some ⟨9,131,none⟩),.pointer (some b),.int .u64 153]]).events Tryz.prog W es=(es.push ⟨.cell b,false,false⟩).push ⟨.cell ta,true,false⟩:=by
 delta ReflectliteValue.set ReflectliteValue.set.match_3
 rw[dif_pos bU];dsimp only[Array.getLit,List.getElem_toArray,List.getElem_cons_zero,List.getElem_cons_succ];have hl:=run_loadCells_list (P:=Tryz.prog) (w:=W) b [c] (λj v hv=>by
  match j,hv with
  |0,hv=>simp at hv;subst hv;simpa[Addr.add]using hb)
 simp only[List.length_cons,List.length_nil,Nat.zero_add]at hl;constructor
 .simp only[Sem.run_bind,zn,zp,Result.andThen];simp[ReflectliteValue.flagAddr,loadVar,isAgg,underlying,Tryz.underlying131,hl,Result.andThen,zl,C8,storeVar,Value.cells,storeCells,Addr.add];rw[run_store Tryz.prog W ta _ _ bU];simp[ht,hf]
 .simp only[Sem.events_bind,zn,zp,TQ,TR,Result.evThen_ok];simp[ReflectliteValue.flagAddr,loadVar,isAgg,underlying,Tryz.underlying131,hl,Result.evThen,Result.andThen,zl,C7,C8,I6,storeVar,Value.cells,storeCells,Addr.add,loadCells,go_sem,ht,hf,hb];rfl
theorem CS.aaP {eY M:Nat->Prop}{abV W:World}{L:List (Nat×Array Value×TypeId)}{B:Nat}{x:Value}{t:TypeId}(h:CS eY abV L M W)(hm:(B,#[x],t)∈L)(hB:abV.heap.size<=B)(y:Value):CS eY abV [(B,#[y],t)] M (W.setCell B y):=by
 have z:=mI W B y;refine⟨h.own,h.keep.trans ⟨λb hb=>?_,by rw[z];exact ack _,rfl,rfl⟩,λb hb=>by rw[z];exact h.lt b hb,h.new,h.O3,λp hp=>?_⟩
 .rw[gR,if_neg (λe=>by have:=h.O3 b hb;simp only at e;omega)]
 .obtain rfl:=List.mem_singleton.1 hp;refine⟨(h.at_ _ hm).1,?_⟩;rw[gR,if_pos rfl,(h.at_ _ hm).2];simp
theorem Om {P:Program}{a:Act}{o:Oper}{f:FuncId}{fn:Func}{e:Array Value->Sem Value}{xs:Array Operand}{Vk:Array TypeId}{ys:Array Value}{v y:Value}{b ta:Addr}{W:World}(bf:o.op=.call {callee:=.value (.func f),args:=xs,argTypes:=Vk})
  (hf:P.funcs[f]?=some fn)(we:(fn.name== "runtime.NumGoroutine")=false)(hb:fn.body.isNone=true)(hn:Extern.findNext fn=none)(he:Extern.find fn=some e)(hx:xs.map a.eval=ys)
  (h:∀es,(e ys).run P W=.ok v (W.setCell ta y)/\(e ys).events P W es=(es.push ⟨.cell b,false,false⟩).push ⟨.cell ta,true,false⟩):
  (execOp a.eval o).run P W=.ok (.value v) (W.setCell ta y)/\∀e∈(execOp a.eval o).events P W #[],uF e\/e=⟨.cell b,false,false⟩\/e=⟨.cell ta,true,false⟩:=by
 rw[execOp_call_func (a:=a) bf,hx];refine⟨by rw[run_callFunc_extern hf we hb hn he,(h #[]).1];rfl,λx hx=>?_⟩;rw[events_callFunc_extern hf we hb hn he,(h _).2]at hx;simp only[Array.mem_push,Array.not_mem_empty,false_or]at hx;rcases hx with(rfl|rfl)|rfl
 .exact .inl ⟨f,rfl⟩
 .exact .inr (.inl rfl)
 .exact .inr (.inr rfl)
theorem ET.aaW {P:Program}{m:Bool}{X:Event->Prop}{Stop:(Nat->Prop)->Goroutine->World->Prop}{M eY:Nat->Prop}{W abV:World}{L:List (Nat×Array Value×TypeId)}{b:Frame}{a:Act}{k:List Item}{cs:List Frame}{ops:Array Oper}{i:Nat}{rest:List Nat}{o:Oper}
  {B C:Nat}{x z y:Value}{t u:TypeId}(v:Value)(ho:ops[i]?=some o)(hw:Region.wanted o (yielded ops a.tmps)=true)(hk:b.kind≠.early)(h:CS eY abV L M W)(hm:(B,#[x],t)∈L)(hc:(C,#[z],u)∈L)(hB:abV.heap.size<=B)
  (hr:∀W,CS eY abV L M W->(execOp a.eval o).run P W=.ok (.value v) (W.setCell ⟨B,0,Option.none⟩ y)/\∀e∈(execOp a.eval o).events P W #[],uF e\/e=⟨.cell ⟨C,0,Option.none⟩,false,false⟩\/e=⟨.cell ⟨B,0,Option.none⟩,true,false⟩)
  (n:∀W',CS eY abV [(B,#[y],t)] M W'->ET P m (λ_=>True) X (λ_=>False) Stop M (G (b.at (a.put o.dst v) (.inRegion ops rest::k)) cs) W'):ET P m (λ_=>True) X (λ_=>False) Stop M (G (b.at a (.inRegion ops (i::rest)::k)) cs) W:=
 ET.oper ho hw hk λai ab3 _=>by
  have h':=h.rely ab3;have q:=hr ai h';refine⟨v,_,q.1,ez.set y (h'.at_ _ hm).1 λe he=>?_,?_⟩
  .rcases q.2 e (mem_listed he)with x|rfl|rfl
   .exact x.l_
   .exact ge (h'.at_ _ hc).1
   .exact ge (h'.at_ _ hm).1
  .rw[show grow M ai (ai.setCell ⟨B,0,Option.none⟩ y)=M from cD (mI _ _ _)];exact n _ (h'.aaP hm hB y)
theorem CS.less {eY M:Nat->Prop}{abV W:World}{L L':List (Nat×Array Value×TypeId)}(h:CS eY abV L M W)(hL:∀p∈L',p∈L):CS eY abV L' M W:=⟨h.own,h.keep,h.lt,h.new,h.O3,λp hp=>h.at_ p (hL p hp)⟩
theorem CS.thaw {eY M:Nat->Prop}{abV W:World}{L:List (Nat×Array Value×TypeId)}{B:Nat}{cs:Array Value}{t:TypeId}(h:CS eY abV L M W)(hm:(B,cs,t)∈L):W.frozen? B=false:=by
 unfold World.frozen?;rw[(h.at_ _ hm).2];simp
noncomputable def yE:Code:=Tryz.f68.body.getD .skip
variable {r0:Frame}{rest:List Frame}{M:Nat->Prop}{W:World}
theorem Oc (c:Int)(h0:CS M W [(0,#[.iface 187 (.agg #[.pointer (some ⟨9,93,none⟩)])],165)] M W):
  ET Tryz.prog true (λ_=>True) Ph.mU (λ_=>False) (λM' g W'=>g=G (r0.finish c) rest/\CS M W [] M' W') M
   (G ((base 68).at ⟨#[.iface 131 (.agg #[c]),undef,undef,undef,undef,undef,undef,undef,undef],[]⟩ [.code yE]) (r0::rest)) W:=by
 simp only[yE,Tryz.f68,Option.getD_some];apply ET.sr;refine ET.pure (.int .i64 0) rfl ?_;walk_nrm
 apply ET.ns;refine ET.makes (λB=>.pointer (some ⟨B,0,none⟩)) #[.int .i64 0] 131 #[] rfl rfl (by k_ne) h0 (λ_=>bR) (λ_=>bR) aH λbr fN J9 h1 o1 l1=>?_
 walk_nrm
 apply ET.rn;apply ET.sq;apply ET.sr;refine ET.pure (.iface 131 (.agg #[c])) rfl ?_;walk_nrm
 refine ET.pure (.iface 138 (.pointer br)) rfl ?_;walk_nrm
 (refine ET.k rfl (λ_ _ _=>goes_call rfl rfl (by k_ne) rfl Tryz.func98 bR rfl ⟨⟨rfl,λe he=>(by simp at he)⟩,?_⟩);walk_nrmf Tryz.f98)
 apply ET.sr;refine ET.pure false rfl ?_;walk_nrm
 apply ET.rn;apply ET.sq;apply ET.sr;refine ET.pure (.iface 131 (.agg #[c])) rfl ?_;walk_nrm
 refine ET.pure false rfl ?_;walk_nrm
 apply ET.rn;refine ET.gp rfl ?_;apply ET.sk;apply ET.sq;apply ET.sr;refine ET.pure (.iface 138 (.pointer br)) rfl ?_;walk_nrm
 refine ET.pure false rfl ?_;walk_nrm
 apply ET.rn;refine ET.gp rfl ?_;apply ET.sk;apply ET.sr;refine ET.pure (.iface 138 (.pointer br)) rfl ?_;walk_nrm
 refine ET.makes (λB=>.agg #[.pointer (some ⟨9,138,none⟩),.pointer (some ⟨B,0,none⟩),.int .u64 150]) #[.pointer br] 138 #[⟨.mark (.extern 126),false,true⟩] rfl rfl (by k_ne) h1 (λ_=>bR) (λ_=>bR) (by simp[uF]) λbv oD NT h2 o2 l2=>?_
 walk_nrm
 refine ET.makes (λB=>.pointer (some ⟨B,0,none⟩)) #[.pointer none,.pointer none,.int .u64 0] 162 #[] rfl rfl (by k_ne) h2 (λ_=>bR) (λ_=>bR) aH λbx ZU Rz h3 o3 l3=>?_
 walk_nrm
 refine ET.writes #[.pointer (some ⟨9,138,none⟩),.pointer bv,.int .u64 150] rfl rfl (by k_ne) h3 o3 l3 (λW hW=>PX rfl rfl rfl hW rfl) λabi h4=>?_
 walk_nrm
 apply ET.ns;refine ET.looks (.agg #[.pointer (some ⟨9,138,none⟩),.pointer bv,.int .u64 150]) rfl rfl (by k_ne) h4 (λW hW=>Ui (vl rfl rfl) hW (.head _)) ?_;walk_nrm
 refine ET.ext (.iface 187 (.agg #[.pointer (some ⟨9,138,none⟩)])) 127 rfl ?_;walk_nrm
 refine ET.pure (.iface 187 (.agg #[.pointer (some ⟨9,138,none⟩)])) rfl ?_;walk_nrm
 apply ET.rn;apply ET.sq;apply ET.sr;refine ET.pure (.iface 187 (.agg #[.pointer (some ⟨9,138,none⟩)])) rfl ?_;walk_nrm
 refine ET.ext (.int .u8 22) 273 rfl ?_;walk_nrm
 refine ET.pure false rfl ?_;walk_nrm
 refine ET.pure false rfl ?_;walk_nrm
 refine ET.looks (.agg #[.pointer (some ⟨9,138,none⟩),.pointer bv,.int .u64 150]) rfl rfl (by k_ne) h4 (λW hW=>Ui (vl rfl rfl) hW (.head _)) ?_;walk_nrm
 refine ET.looks false rfl rfl (by k_ne) h4 (λW hW=>QP (BQ (e:=ReflectliteValue.method (ReflectliteValue.valueError "reflectlite.Value.IsNil" 0) ReflectliteValue.isNil) rfl Tryz.func128 bR bR bR bR (by simp[Act.eval]) (λes=>Mb bv br W es (hW.cell (.tail _ (.head _)) rfl))) (.tail _ (.head _))) ?_;walk_nrm
 refine ET.pure false rfl ?_;walk_nrm
 apply ET.rn;refine ET.gp rfl ?_;apply ET.sk;apply ET.sr;refine ET.pure (.iface 187 (.agg #[.pointer (some ⟨9,138,none⟩)])) rfl ?_;walk_nrm
 refine ET.ext (.iface 187 (.agg #[.pointer (some ⟨9,131,none⟩)])) 301 rfl ?_;walk_nrm
 refine ET.pure (.iface 187 (.agg #[.pointer (some ⟨9,131,none⟩)])) rfl ?_;walk_nrm
 apply ET.rn;apply ET.sq;apply ET.sr;refine ET.pure (.iface 187 (.agg #[.pointer (some ⟨9,131,none⟩)])) rfl ?_;walk_nrm
 refine ET.ext (.int .u8 25) 273 rfl ?_;walk_nrm
 refine ET.pure true rfl ?_;walk_nrm
 refine ET.pure true rfl ?_;walk_nrm
 refine ET.pure (.iface 187 (.agg #[.pointer (some ⟨9,131,none⟩)])) rfl ?_;walk_nrm
 refine ET.looks (.iface 187 (.agg #[.pointer (some ⟨9,93,none⟩)])) rfl rfl (by k_ne) h4 (λW hW=>Ui (G4 rfl rfl (λ_=>bR) (λ_ _=>bR)) hW (.tail _ (.tail _ (.tail _ (.head _))))) ?_;walk_nrm
 refine ET.ext true 302 rfl ?_;walk_nrm
 refine ET.pure false rfl ?_;walk_nrm
 refine ET.pure false rfl ?_;walk_nrm
 apply ET.rn;refine ET.gp rfl ?_;apply ET.sk;apply ET.sr;refine ET.pure (.iface 131 (.agg #[c])) rfl ?_;walk_nrm
 refine ET.pure (.iface 138 (.pointer br)) rfl ?_;walk_nrm
 refine ET.looks (.agg #[.pointer (some ⟨9,138,none⟩),.pointer bv,.int .u64 150]) rfl rfl (by k_ne) h4 (λW hW=>Ui (vl rfl rfl) hW (.head _)) ?_;walk_nrm
 refine ET.pure (.iface 187 (.agg #[.pointer (some ⟨9,131,none⟩)])) rfl ?_;walk_nrm
 (refine ET.k rfl (λ_ _ _=>goes_call rfl rfl (by k_ne) rfl Tryz.func129 bR rfl ⟨⟨rfl,λe he=>(by simp at he)⟩,?_⟩);walk_nrmf Tryz.f129)
 apply ET.sr;refine ET.makes (λB=>.pointer (some ⟨B,0,none⟩)) #[.pointer (some ⟨9,138,none⟩),.pointer bv,.int .u64 150] 162 #[] rfl rfl (by k_ne) h4 (λ_=>bR) (λ_=>bR) aH λbb abg abj h5 o5 l5=>?_
 walk_nrm
 refine ET.pure false rfl ?_;walk_nrm
 apply ET.rn;refine ET.c (λ_=>stepG_block) ?_;refine ET.c (λ_=>stepG_loop) ?_;refine ET.c (λ_=>stepG_block) ?_;apply ET.sq;apply ET.sr;refine ET.pure (.iface 131 (.agg #[c])) rfl ?_;walk_nrm
 refine ET.ext (.iface 187 (.agg #[.pointer (some ⟨9,131,none⟩)])) 151 rfl ?_;walk_nrm
 refine ET.pure (.iface 187 (.agg #[.pointer (some ⟨9,131,none⟩)])) rfl ?_;walk_nrm
 refine ET.ext true 299 rfl ?_;walk_nrm
 apply ET.rn;refine ET.kH rfl ?_;apply ET.sr;refine ET.looks (.agg #[.pointer (some ⟨9,138,none⟩),.pointer bv,.int .u64 150]) rfl rfl (by k_ne) h5 (λW hW=>Ui (vl rfl rfl) hW (.head _)) ?_;walk_nrm
 refine ET.looks (.agg #[.pointer (some ⟨9,131,none⟩),.pointer br,.int .u64 409]) rfl rfl (by k_ne) h5 (λW hW=>QP (BQ (e:=ReflectliteValue.method (ReflectliteValue.valueError "reflectlite.Value.Elem" 0) ReflectliteValue.elem) rfl Tryz.func152 bR bR bR bR (by simp[Act.eval]) (λes=>NL bv br W es (hW.cell (.tail _ (.tail _ (.head _))) rfl))) (.tail _ (.tail _ (.head _)))) ?_;walk_nrm
 refine ET.pure (.iface 131 (.agg #[c])) rfl ?_;walk_nrm
 refine ET.makes (λB=>.agg #[.pointer (some ⟨9,131,none⟩),.pointer (some ⟨B,0,none⟩),.int .u64 153]) #[c] 131 #[⟨.mark (.extern 126),false,true⟩] rfl rfl (by k_ne) h5 (λ_=>bR) (λ_=>bR) (by simp[uF]) λbe abh abk h6 o6 l6=>?_
 walk_nrm
 refine ET.aaW (.tuple #[]) rfl rfl (by k_ne) h6 (.tail _ (.tail _ (.tail _ (.tail _ (.head _))))) (.head _) o1 (λW hW=>Om (e:=ReflectliteValue.set) rfl Tryz.func153 bR bR bR bR (by simp[Act.eval]) (λes=>TT br be c _ W es (hW.cell (.head _) rfl) (hW.cell (.tail _ (.tail _ (.tail _ (.tail _ (.head _))))) rfl) (hW.thaw (.tail _ (.tail _ (.tail _ (.tail _ (.head _)))))))) λabl h7=>?_
 walk_nrm
 apply ET.ns;refine ET.pure true rfl ?_;walk_nrm
 apply ET.rn;apply ET.rt
 (refine ET.k rfl (λ_ _ _=>goes_leave1 rfl rfl Tryz.func129 rfl ⟨⟨rfl,λe he=>(by simp at he)⟩,?_⟩);walk_nrm)
 refine ET.pure true rfl ?_;walk_nrm
 apply ET.rn;apply ET.rt
 (refine ET.k rfl (λ_ _ _=>goes_leave1 rfl rfl Tryz.func98 rfl ⟨⟨rfl,λe he=>(by simp at he)⟩,?_⟩);walk_nrm)
 apply ET.rn;refine ET.kH rfl ?_;apply ET.sr;refine ET.pure (.pointer br) rfl ?_;walk_nrm
 refine ET.looks c rfl rfl (by k_ne) h7 (λW hW=>Ui (G4 rfl rfl (λ_=>bR) (λ_ _=>bR)) hW (.head _)) ?_;walk_nrm
 refine ET.pure c rfl ?_;walk_nrm
 apply ET.rn;apply ET.rt;refine ET.AE (.int .i64 c) rfl rfl Tryz.func68 (λai _ _=>⟨bR,λe he=>?_⟩) ?_
 .rw[show(results Tryz.f68 _).events Tryz.prog ai #[]=#[] by kernel_rfl]at he;simp at he
 exact ET.stop λW' k _=>⟨rfl,(h7.rely k).less aH⟩
theorem Od (h0:CS M W [] M W):
  ET Tryz.prog true (λ_=>True) Ph.mU (λ_=>False) (λM' g W'=>g=G (r0.finish (.int .i64 0)) rest/\CS M W [] M' W') M
   (G ((base 68).at ⟨#[.nilIface,undef,undef,undef,undef,undef,undef,undef,undef],[]⟩ [.code yE]) (r0::rest)) W:=by
 simp only[yE,Tryz.f68,Option.getD_some];apply ET.sr;refine ET.pure (.int .i64 0) rfl ?_;walk_nrm
 apply ET.ns;refine ET.makes (λB=>.pointer (some ⟨B,0,none⟩)) #[.int .i64 0] 131 #[] rfl rfl (by k_ne) h0 (λ_=>bR) (λ_=>bR) aH λbr fN J9 h1 o1 l1=>?_
 walk_nrm
 apply ET.rn;apply ET.sq;apply ET.sr;refine ET.pure (.nilIface) rfl ?_;walk_nrm
 refine ET.pure (.iface 138 (.pointer br)) rfl ?_;walk_nrm
 (refine ET.k rfl (λ_ _ _=>goes_call rfl rfl (by k_ne) rfl Tryz.func98 bR rfl ⟨⟨rfl,λe he=>(by simp at he)⟩,?_⟩);walk_nrmf Tryz.f98)
 apply ET.sr;refine ET.pure false rfl ?_;walk_nrm
 apply ET.rn;apply ET.sq;apply ET.sr;refine ET.pure (.nilIface) rfl ?_;walk_nrm
 refine ET.pure true rfl ?_;walk_nrm
 apply ET.rn;refine ET.kH rfl ?_;apply ET.sr;refine ET.pure false rfl ?_;walk_nrm
 apply ET.rn;apply ET.rt
 (refine ET.k rfl (λ_ _ _=>goes_leave1 rfl rfl Tryz.func98 rfl ⟨⟨rfl,λe he=>(by simp at he)⟩,?_⟩);walk_nrm)
 apply ET.rn;refine ET.gp rfl ?_;apply ET.sk;apply ET.sr;refine ET.pure (.int .i64 0) rfl ?_;walk_nrm
 apply ET.rn;apply ET.rt;refine ET.AE (.int .i64 0) rfl rfl Tryz.func68 (λai _ _=>⟨bR,λe he=>?_⟩) ?_
 .rw[show(results Tryz.f68 _).events Tryz.prog ai #[]=#[] by kernel_rfl]at he;simp at he
 exact ET.stop λW' k _=>⟨rfl,(h1.rely k).less aH⟩
