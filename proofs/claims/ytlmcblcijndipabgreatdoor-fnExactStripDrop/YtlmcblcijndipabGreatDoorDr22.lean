import Derived.Test.YtlmcblcijndipabGreatDoorDr21
set_option linter.unusedSimpArgs false
set_option linter.unusedVariables false
set_option maxHeartbeats 2000000
set_option maxRecDepth 100000
namespace Go.Proofs.YtlmcblcijndipabGreatDoor
open Go Go.Conc Go.RowKit Go.Conc.Lib Go.ConcR.Gen
section
variable [Gl]
structure vY (P₀:Program)(ok:Ctx)(M:Nat->Prop)(w:World)(la:Option Addr)(ln lc nb no nn:Nat)(turnv:Nat->Value)(S:Nat->Nat->Prop)(Is:Nat->TryV->Prop)(lt:TryV->TryV->Bool):Prop where
 mnb:M nb
 near:∀i,i<nn->w.cell? ⟨nb,no+i,none⟩=some (turnv i)
 sm:∀i b,S i b->M b
 closed:∀i,i<nn->∀W₁,aw (λb=>b=nb\/∃i,S i b) w W₁->jU ok (S i) W₁
 argl:∀i,i<nn->ah ok (jS (S i)) (.slice la ln lc) (.slice la ln lc)
 argt:∀i,i<nn->ah ok (jS (S i)) (turnv i) (turnv i)
 try_:∀i,i<nn->∀(F:Nat->Prop) W₁,aw (λb=>b=nb\/∃i,S i b) w W₁->∀τ d,Calls P₀ 227 #[.slice la ln lc,turnv i] (re (cr F W₁) τ d) λe w'=>∃x:TryV,e=.returned x.val/\Is i x/\ef w' (λb=>W₁.heap.size<=b) x
 ren:∀i x a',Is i x->(x.a=none<->a'=none)->Is i {x with a:=a'}
 least:∀(V:World) (b:Nat) (xs:List TryV) (z:Nat×Nat),xs.length<=1048576->V.heap[b]?=some (.cells (xs.flatMap TryV.cells).toArray 222 z)->(∀x∈xs,bI V x.a x.n x.g/\x.n<=1048576)->
  Calls P₀ 203 #[.slice (some ⟨b,0,none⟩) xs.length xs.length,.func (.func 204) #[] #[]] V λe w'=>e=.returned (Jb.leastL ⟨0,0,0,0,0,0,0,.nilFunc,turnv,S,Is,lt,0⟩ xs).val/\Below V.heap.size V w'
 okf:ok.inn 227=true/\ok.inn 203=true/\ok.fn 204=true
variable {P₀:Program}{ok:Ctx}{c:Frame}{Shun:Loc->Prop}{rb:List Frame}{M:Nat->Prop}{gs:Array Goroutine}{w:World}{sl:Option (Nat×Nat)}{t:Trace}{q:Nat->Nat}{la:Option Addr}{ln lc nb no nn nc:Nat}{turnv:Nat->Value}{S:Nat->Nat->Prop}{Is:Nat->TryV->Prop}{lt:TryV->TryV->Bool}
omit [Gl] in
theorem bf.split {P:Program}{V M R:Nat->Prop}{a:Goroutine}(h:bf P Shun V (λ_=>False) M gs a w t q)(hR:∀b,R b->M b):bf P Shun V R (λb=>M b/\¬R b) gs a w t q:=
 ⟨h.main,h.quit,h.past,h.who,λb hb=>h.lt b (.inl (hb.elim And.left (hR b))),λb hb=>h.shun b (.inl (hb.elim And.left (hR b))),h.low,h.un,h.vlt,λb hb=>⟨λx=>(h.vm b hb).1 x.1,λx=>(h.vm b hb).1 (hR b x)⟩⟩
omit [Gl] in
theorem lZ (J J':Jb)(h:J.lt=J'.lt)(xs:List TryV):J.leastL xs=J'.leastL xs:=by
 have:J.pick=J'.pick:=by funext x y;simp[Jb.pick,h]
 cases xs with
 |nil=>rfl
 |cons x xs=>simp only[Jb.leastL,this]
noncomputable def ph (J:Jb)(wg tb Bs nn Jn T:Nat):Ph:={P:=Tryz.prog,ty:=255,Wg:=wg,tk:=⟨tb,0,none⟩,Bs:=Bs,bty:=222,wd:=4,n:=4,L:=nn,J:=Jn,T₀:=T,Res:=uZ J,pl:=⟨0⟩}
omit [Gl] in
theorem Bj (J:Jb)(wg tb Bs nn Jn T:Nat):(ph J wg tb Bs nn Jn T).ResOk:=by
 rintro seq vs M w w' ⟨x,h1,h2,h3,h4⟩ k;exact⟨x,h1,h2,h3.keep (λ_ h=>h) (λa ha=>k.block _ (h3.blk a ha).2.1),h4⟩
theorem zO (hP₀:bh P₀ P₀ ok)(hP:bh P₀ Tryz.prog ok)(hin:∀f,ok.fn f=true->ok.inn f=true)(hFl:eI P₀ c)(hn:nn+4<4611686018427387904){M₁:Nat->Prop}{bl bn r4 tb wg Bs bb:Nat}{v9 v10:Value}
  (h:bf Tryz.prog Shun (λb=>(False\/b=tb)\/b=wg) (λ_=>False) M₁ gs (G ((base 181).at ⟨#[.slice la ln lc,.slice (some ⟨nb,no,none⟩) nn nc,.pointer (some ⟨bl,0,none⟩),.pointer (some ⟨bn,0,none⟩),.pointer (some ⟨r4,0,none⟩),.pointer (some ⟨tb,0,none⟩),.pointer (some ⟨wg,0,none⟩),.pointer (some ⟨bb,0,none⟩),undef,v9,v10,.int .i64 4,.int .i64 0,undef,undef,undef,undef,undef,undef,undef,undef],[]⟩ [.code fC,.inLoop fC,.inBlock 0,.code dI]) rb) w t q)
  (hf:vY P₀ ok M₁ w la ln lc nb no nn turnv S Is lt)(hgl:Gl.n<=w.heap.size)(ho:bl<bn/\bn<r4/\r4<tb/\tb<wg/\wg<Bs/\Bs<bb)(hmm:M₁ bl/\M₁ bn/\M₁ r4/\M₁ Bs/\M₁ bb)(hnb:nb<bl)(hSb:∀i b,S i b->b<bl)
  (cl:w.heap[bl]?=some (.cells #[.slice la ln lc] 30 (0,0)))(cn:w.heap[bn]?=some (.cells #[.slice (some ⟨nb,no,none⟩) nn nc] 224 (0,0)))
  (ct:w.heap[tb]?=some (.cells #[.int .i64 0] 250 (0,0)))(cw:w.heap[wg]?=some (.cells #[.int .u64 0,.int .u32 0] 255 (0,0)))
  (cb:w.heap[bb]?=some (.cells #[.slice (some ⟨Bs,0,none⟩) 4 4] 256 (0,0)))(cB:∃cs,w.heap[Bs]?=some (.cells cs 222 (0,0))/\cs.size=16):
  ∃(J:Jb),J.lt=lt/\J.Is=Is/\J.bb=bb/\J.base=w.heap.size/\∃(p:Ph),p=ph J wg tb Bs nn gs.size t.size/\∃N gs' w' sl' t' a' Ro' M₂ seq vs Mr,∃M' Ro₀:Nat->Prop,runNT Tryz.prog N (crowd gs w sl) t=(.next (crowd gs' w' sl'),t')/\
   p.Out Shun (p.FinW (Co J P₀ p ok M' Ro₀ w r4 (.slice la ln lc) (.slice (some ⟨nb,no,none⟩) nn nc)) (base 181) lY 0 [] [.code (cD dI)] rb) gs' w' t' a' Ro' M₂ seq vs Mr/\∀b,M₁ b->b≠Bs->M' b\/Ro₀ b:=by
 let J:Jb:=⟨bl,bn,bb,nb,no,nc,tb,.slice la ln lc,turnv,S,Is,lt,w.heap.size⟩
 let p:Ph:=ph J wg tb Bs nn gs.size t.size
 let R:Nat->Prop:=λb=>b=bl\/b=bn\/b=bb\/b=nb\/∃i,S i b
 let M':Nat->Prop:=λb=>(M₁ b/\¬R b)/\b≠Bs
 have hRM:∀b,R b->M₁ b:=by
  rintro b (rfl|rfl|rfl|rfl|⟨i,hs⟩)
  .exact hmm.1
  .exact hmm.2.1
  .exact hmm.2.2.2.2
  .exact hf.mnb
  .exact hf.sm i b hs
 have hle4:∀b,(b=nb\/∃i,S i b)->R b:=λb hb=>.inr (.inr (.inr hb))
 have hJ:gv J P₀ p ok R w:=⟨rfl,rfl,rfl,rfl,rfl,rfl,rfl,Nat.le_refl _,cl,cn,cb,.inl rfl,.inr (.inl rfl),.inr (.inr (.inl rfl)),.inr (.inr (.inr (.inl rfl))),hf.near,λi b hs=>.inr (.inr (.inr (.inr ⟨i,hs⟩))),λi hi W₁ k=>hf.closed i hi W₁ (k.mono hle4),hf.argl,hf.argt,λi hi F W₁ k τ d=>hf.try_ i hi F W₁ (k.mono hle4) τ d,hf.ren,λV b xs z h1 h2 h3=>by rw[lZ J _ rfl];exact hf.least V b xs z h1 h2 h3,hf.okf⟩;have hsp:∀b,p.Sp b->¬M' b/\¬R b:=by
  rintro b (e|e|e)
  .rw[show b=wg from e];have hv:=(h.vm wg (.inr rfl)).1;exact⟨λx=>hv x.1.1,λx=>hv (hRM _ x)⟩
  .rw[show b=tb from e];have hv:=(h.vm tb (.inl (.inr rfl))).1;exact⟨λx=>hv x.1.1,λx=>hv (hRM _ x)⟩
  .rw[show b=Bs from e];refine⟨λx=>x.2 rfl,?_⟩;show¬(Bs=bl\/Bs=bn\/Bs=bb\/Bs=nb\/∃i,S i Bs);rintro(x|x|x|x|⟨i,x⟩)
   .omega
   .omega
   .omega
   .omega
   .have:=hSb i _ x;omega
 have hBlt:∀b,p.Sp b->b<w.heap.size:=by
  rintro b (e|e|e)
  .rw[show b=wg from e];exact h.vlt wg (.inr rfl)
  .rw[show b=tb from e];exact h.vlt tb (.inl (.inr rfl))
  .rw[show b=Bs from e];exact h.lt Bs (.inl hmm.2.2.2.1)
 have hBT:BT J P₀ p ok M' R w R M' w:=⟨hJ,λb x=>x,aw.refl _ _,λb hb=>⟨(hsp b hb).1,(hsp b hb).2,hBlt b hb⟩,λb hb=>h.lt b (.inl (hb.elim (λx=>x.1.1) (hRM b))),λb hb=>hb.1.2,hgl,by show wg≠Bs;omega⟩;have hs:=xX (J:=J) (p:=p) (M':=M') (Ro₀:=R) (Wst:=w) (cs:=rb) (r4:=r4) (t0:=.slice la ln lc) (t1:=.slice (some ⟨nb,no,none⟩) nn nc) hP₀ hP hin hFl (show nn<4611686018427387904 by omega) rfl rfl 4 0 undef v9 v10 undef undef undef undef undef undef undef undef R M' w rfl hBT;have hpos:1<=gs.size:=(Array.getElem?_eq_some_iff.1 h.main).1;have hG:p.Geo Shun:=⟨by show wg≠tb;omega,by show wg≠Bs;omega,by show tb≠Bs;omega,λa ha=>h.shun Bs (.inl hmm.2.2.2.1) (.cell a) ha,hpos⟩;obtain⟨N,gs',w',sl',t',a',Ro',M₂,seq,vs,Mr,hrun,hout⟩:=Ph.phase (p:=p) (sl:=sl) (M':=M') (Fin:=p.FinW (Co J P₀ p ok M' R w r4 (.slice la ln lc) (.slice (some ⟨nb,no,none⟩) nn nc)) (base 181) lY 0 [] [.code (cD dI)] rb)
  (Bj J wg tb Bs nn gs.size t.size) hG (by show 4<2147483647;omega) (by show 1<=4;omega) (show nn+4<4611686018427387904 from hn) (by rintro _ _ _ _ ⟨T,a₀,rfl,_⟩;rfl)
  (λRo M g W hA _=>Ph.waitRound (p:=p) (L:=link) pv (λa Ro M w w₁ hF k=>⟨hF.1,hF.2.rely k⟩) (λa Ro M w hF e=>e.elim (hF.2.sp _ (.inl rfl)).1 (hF.2.sp _ (.inl rfl)).2.1) Ro M g W hA)
  (h.split hRM) rfl rfl (.inr rfl) (.inl (.inr rfl)) (hBlt _ (.inr (.inr rfl))) (λb hb=>hb.1) hsp (λb hb=>hb.1.2) cw ⟨cC ct,by show w.frozen? ⟨tb,0,none⟩=false;simp[World.frozen?,ct]⟩ (by obtain⟨cs,g1,g2⟩:=cB;exact⟨cs,g1,g2⟩) hs
 exact⟨J,rfl,rfl,rfl,rfl,p,rfl,N,gs',w',sl',t',a',Ro',M₂,seq,vs,Mr,M',R,hrun,hout,λb hb hne=>by
  by_cases x:R b
  .exact .inr x
  .exact .inl ⟨⟨hb,x⟩,hne⟩⟩
end
section
variable [Gl]{P₀:Program}{ok:Ctx}{c:Frame}{J:Jb}{r0:Frame}{rest:List Frame}
theorem vZ (hP₀:bh P₀ P₀ ok)(hP:bh P₀ Tryz.prog ok)(hin:∀f,ok.fn f=true->ok.inn f=true)(hFl:eI P₀ c)(hok:ok.inn 203=true/\ok.fn 204=true)
  (hleast:∀(V:World) (b:Nat) (xs:List TryV) (z:Nat×Nat),xs.length<=1048576->V.heap[b]?=some (.cells (xs.flatMap TryV.cells).toArray 222 z)->(∀x∈xs,bI V x.a x.n x.g/\x.n<=1048576)->
   Calls P₀ 203 #[.slice (some ⟨b,0,none⟩) xs.length xs.length,.func (.func 204) #[] #[]] V λe w'=>e=.returned (J.leastL xs).val/\Below V.heap.size V w')
  (hmem:∀xs,xs≠[]->J.leastL xs∈xs){xs:List TryV}(h4:xs.length=4){M:Nat->Prop}{W:World}{t0 t1 v8 v9 v10 v12 v13 v14 v15 v16 v17 v18 v19 v20:Value}{bl bn r4 tb wg bb Bs:Nat}
  (hM:∀b,M b->b<W.heap.size)(hgl:Gl.n<=W.heap.size)(m4:M r4)(mb:M bb)(mB:M Bs)(n1:r4≠Bs)(n2:bb≠Bs)(n3:r4≠bb)(c4:∃cs:Array Value,W.heap[r4]?=some (.cells cs 222 (0,0))/\cs.size=4)
  (cb:W.heap[bb]?=some (.cells #[.slice (some ⟨Bs,0,none⟩) 4 4] 256 (0,0)))(cB:W.heap[Bs]?=some (.cells (xs.flatMap TryV.cells).toArray 222 (0,0)))(hx:∀x∈xs,ef W (λb=>M b/\b≠r4/\b≠bb) x):
  ET Tryz.prog true (λ_=>True) Ph.noX (λ_=>False) (λM' g W'=>g=G (r0.finish (J.leastL xs).val) rest/\(∀b,M b->M' b)/\aw (λb=>M b/\b≠r4/\b≠Bs) W W'/\∀x∈xs,ef W' M' x) M
   (G ((base 181).at (Act.put ⟨#[t0,t1,.pointer (some ⟨bl,0,none⟩),.pointer (some ⟨bn,0,none⟩),.pointer (some ⟨r4,0,none⟩),.pointer (some ⟨tb,0,none⟩),.pointer (some ⟨wg,0,none⟩),.pointer (some ⟨bb,0,none⟩),v8,v9,v10,.int .i64 4,v12,v13,v14,v15,v16,v17,v18,v19,v20],[]⟩ ((lY[0]?).bind (·.dst)) (.tuple #[])) (.inRegion lY []::[.code (cD dI)])) (r0::rest)) W:=by
 have e10:(lY[0]?).bind (·.dst)=some 18:=by kernel_rfl
 rw[e10];simp only[dI,body24,Tryz.f181,Option.getD_some,cD];walk_nrm
 refine ET.c (λ_=>stepG_region_end) ?_;refine ET.c (λ_=>stepG_seq) ?_
 (refine ET.c (λ_=>stepG_region) ?_;simp only[List.size_toArray,List.length_cons,List.length_nil,Nat.reduceAdd,Nat.zero_add,List.range,List.range.loop])
 refine ET.val (.slice (some ⟨Bs,0,none⟩) 4 4) rfl rfl (by k_ne) (λW₁ k₁ _=>?_) ?_
 .have hc:=cC ((k₁.block _ (.inl mb)).trans cb);refine⟨?_,λe he=>?_⟩
  .go_simp
  .simp[go_sem,hc]at he;subst he;exact dh mb
 walk_nrm
 have hne:xs≠[]:=λe=>by rw[e]at h4;simp at h4
 have hm:=hmem xs hne;have hSx:∀x∈xs,∀a,x.a=some a->(λb=>b=Bs\/∃x,x∈xs/\∃a,x.a=some a/\a.block=b) a.block:=λx hx a ha=>.inr ⟨x,hx,a,ha,rfl⟩
 have hsl:∀z∈xs,∀v∈z.cells,ah ok (jS (λb=>b=Bs\/∃x,x∈xs/\∃a,x.a=some a/\a.block=b)) v v:=by
  intro z hz v hv;simp only[TryV.cells,List.mem_cons,List.not_mem_nil,or_false]at hv;rcases hv with rfl|rfl|rfl|rfl
  .exact .bool _
  .exact .int _ _
  .exact .int _ _
  .cases hza:z.a with
   |none=>exact .slice0 _ _
   |some a=>exact .slice _ _ ⟨cJ.2 ⟨hSx z hz a hza,rfl⟩,rfl,rfl⟩
 refine ET.callOp (I:=λ_=>True) (Sp:=λ_=>False) hP₀ hP hin hFl rfl rfl (by k_ne) rfl Tryz.func203 (by kernel_rfl) rfl hok.1 (λ_ _ _ _=>trivial) (λb hb=>hb) ⟨λb hb=>hb.elim,λb hb=>hb.elim⟩ hM hgl (λb=>b=Bs\/∃x,x∈xs/\∃a,x.a=some a/\a.block=b)
  (λW₃ v w=>v=(J.leastL xs).val/\∀b,b<W₃.heap.size->w.heap[b]?=(cr (λ_=>False) W₃).heap[b]?) (λW v w τ d h=>h) ?_ ?_ ?_ ?_ ?_
 .rintro b (rfl|⟨x,h1,a,ha,rfl⟩)
  .exact .inl mB
  .exact .inl ((hx x h1).blk a ha).2.1.1
 .intro W₃ k₃;refine⟨?_⟩;rintro b (rfl|⟨x,h1,a,ha,rfl⟩)
  .refine⟨_,_,(k₃.block _ (.inl mB)).trans cB,λv hv=>?_⟩;simp only[List.mem_toArray,List.mem_flatMap]at hv;obtain⟨z,h1,h2⟩:=hv;exact hsl z h1 v h2
  .obtain⟨_,h2,cs,e,h3,h4⟩:=(hx x h1).blk a ha;exact⟨cs,e,(k₃.block _ (.inl h2.1)).trans h3,λv hv=>by obtain⟨n,rfl⟩:=h4 v hv;exact .int _ _⟩
 .intro v hv;simp[Act.eval]at hv;rcases hv with rfl|rfl
  .exact .slice _ _ ⟨cJ.2 ⟨.inl rfl,rfl⟩,rfl,rfl⟩
  .exact .func (.func hok.2) rfl (λi x x' h=>by simp at h) rfl (λi x x' h=>by simp at h)
 .intro W₃ k₃ _ τ d;walk_nrm
  obtain⟨z',h1,_⟩:=cW (F:=λ_=>False) ((k₃.block _ (.inl mB)).trans cB);have hc:=hleast (re (cr (λ_=>False) W₃) τ d) Bs xs z' (by omega) h1 (λx hx'=>⟨jV ((hx x hx').keep (M':=λ_=>True) (λ_ _=>trivial) λa ha=>k₃.block _ (.inl ((hx x hx').blk a ha).2.1.1)).row,(hx x hx').small⟩);rw[h4]at hc;refine hc.mono ?_;rintro e w' ⟨rfl,hb⟩;exact⟨_,rfl,rfl,λb hb'=>hb.block b (by show b<(cr (λ_=>False) W₃).heap.size;rw[ey];exact hb')⟩
 .intro W₃ v' M' W' k₃ i₃ i' hB;have hx₃:∀x∈xs,ef W₃ (λb=>M b/\b≠r4/\b≠bb) x:=λx hx'=>(hx x hx').keep (λ_ h=>h) λa ha=>k₃.block _ (.inl ((hx x hx').blk a ha).2.1.1)
  obtain⟨σ,v,V',hv,⟨rfl,hbe⟩,hw,hS,hnew,hers⟩:=hB.res;obtain⟨a',rfl,hn,ha⟩:=np hv;have ea:a'=(J.leastL xs).a:=by
   cases e:(J.leastL xs).a with
   |none=>exact hn.1 e
   |some a=>
    obtain⟨d,h1,h2⟩:=ha a e;have h3:=h2.blk;rw[hS _ (hSx _ hm a e)]at h3;simp only[Option.some.injEq]at h3;rw[h1];obtain⟨d1,d2,d3⟩:=d;have h4:=h2.off;have h5:=h2.spot;obtain⟨a1,a2,a3⟩:=a;simp only at h3 h4 h5;rw[h3,h4,h5]
  have ev:TryV.val {J.leastL xs with a:=a'}=(J.leastL xs).val:=by rw[ea]
  rw[ev];have same:∀b cs e,M b->σ b=some b->W₃.heap[b]?=some (.cells cs e (0,0))->(∀v∈cs,∃n:Int,v=.int .i64 n)->W'.heap[b]?=W₃.heap[b]?:=by
   intro b cs e hm hs h3 h4;obtain⟨o,o',g1,g2,g3⟩:=hw.heap _ _ hs;obtain⟨z',f1,_⟩:=cW (F:=λ_=>False) h3;rw[hbe b (Nat.lt_of_lt_of_le (hM b hm) k₃.size),f1]at g1;cases g1;cases g3 with
   |@cells _ c' _ _ z'' hv hz=>
    replace hz:=hz.resolve_right (λh=>by cases h.1);have:c'=cs:=by
     refine Array.ext hv.size.symm λj h1 h2=>?_
     obtain⟨n,hn'⟩:=h4 cs[j] (Array.getElem_mem h2);have:=hv.at_ j _ _ (Array.getElem?_eq_getElem h2) (Array.getElem?_eq_getElem h1);rw[hn']at this⊢;generalize c'[j]=w at this;cases this;rfl
    rw[g2,h3,this,hz];rfl
  have hko:∀b,M b->b≠Bs->W'.heap[b]?=W₃.heap[b]?:=by
   intro b hb hne;by_cases hs:(λb=>b=Bs\/∃x,x∈xs/\∃a,x.a=some a/\a.block=b) b
   .have hs':=hS b hs;rcases hs with e|⟨x,h1,a,ha,rfl⟩
    .exact absurd e hne
    .obtain⟨_,_,cs,e,h3,h4⟩:=(hx₃ x h1).blk a ha;exact same _ cs e hb hs' h3 h4
   .exact hB.rest.block b ⟨hb,hs⟩
  have nx:∀x∈xs,∀a,x.a=some a->a.block≠Bs:=λx h1 a ha e=>by
   obtain⟨_,_,cs,e',h3,h4⟩:=(hx x h1).blk a ha;rw[e,cB]at h3;cases h3;obtain⟨n,hn⟩:=h4 (.bool x.ok) (by simp only[List.mem_toArray,List.mem_flatMap];exact⟨x,h1,by simp[TryV.cells]⟩);cases hn
  have hx':∀x∈xs,ef W' (λb=>M' b/\b≠r4) x:=λx h1=>(hx₃ x h1).keep (λb hb=>⟨hB.own _ hb.1,hb.2.1⟩) λa ha=>hko _ ((hx₃ x h1).blk a ha).2.1.1 (nx x h1 a ha)
  have hk':aw (λb=>M b/\b≠r4/\b≠Bs) W W':=⟨λb hb=>(hko b hb.1 hb.2.2).trans (k₃.block b (.inl hb.1)),Nat.le_trans k₃.size hB.ro.size,hB.ro.os.trans k₃.os,hB.ro.out.trans k₃.out⟩;have c4':∃cs:Array Value,W'.heap[r4]?=some (.cells cs 222 (0,0))/\cs.size=4:=by
   obtain⟨cs,g1,g2⟩:=c4;exact⟨cs,(hko _ m4 n1).trans ((k₃.block _ (.inl m4)).trans g1),g2⟩
  have m4':=hB.own _ m4;have hown:=hB.own;clear hko same hw hS hnew hers hv hn ha ea ev hbe hB hx₃ k₃ c4 cb cB hx;walk_nrm
  refine ET.none rfl rfl (by k_ne) λW₄ k₄ _=>?_
  obtain⟨cs,g1,g2⟩:=c4';have g1':=(k₄.block _ (.inl m4')).trans g1;refine⟨W₄.setRow r4 (J.leastL xs).cells.toArray,(cG rfl rfl rfl g1' g2).1,?_,?_⟩
  .refine bU.row _ m4' λe he=>?_
   obtain⟨j,rfl⟩:=(cG (t:=J.leastL xs) rfl rfl rfl g1' g2).2 e (mem_listed he);exact dh m4'
  rw[aP (setRow_size _ _ _)];have h6:(W₄.setRow r4 (J.leastL xs).cells.toArray).heap[r4]?=some (.cells (J.leastL xs).cells.toArray 222 (0,0)):=setRow_heap _ _ _ _ _ _ g1';have ho:∀b,b≠r4->(W₄.setRow r4 (J.leastL xs).cells.toArray).heap[b]?=W₄.heap[b]?:=λb hb=>setRow_other _ _ _ _ hb
  have hx4:∀x∈xs,ef (W₄.setRow r4 (J.leastL xs).cells.toArray) (λb=>M' b/\b≠r4) x:=λx h1=>(hx' x h1).keep (λ_ h=>h) λa ha=>(ho _ ((hx' x h1).blk a ha).2.1.2).trans (k₄.block _ (.inl ((hx' x h1).blk a ha).2.1.1))
  have hk4:aw (λb=>M b/\b≠r4/\b≠Bs) W (W₄.setRow r4 (J.leastL xs).cells.toArray):=hk'.trans ⟨λb hb=>(ho b hb.2.1).trans (k₄.block b (.inl (hown b hb.1))),by rw[setRow_size];exact k₄.size,k₄.os,k₄.out⟩;generalize W₄.setRow r4 (J.leastL xs).cells.toArray=W₅ at h6 hx4 hk4⊢;clear ho hx' hk' k₄ g1 g1';walk_nrm
  refine ET.c (λ_=>stepG_region_end) ?_;refine ET.c (λ_=>stepG_ret') ?_;refine ET.leaveE (J.leastL xs).val rfl rfl Tryz.func181 (λW₆ k₆ _=>?_) (ET.stop λW₆ k₆ _=>⟨rfl,hown,hk4.trans (k₆.mono λb hb=>.inl (hown b hb.1)),λx h1=>(hx4 x h1).keep (λb hb=>hb.1) λa ha=>k₆.block _ (.inl ((hx4 x h1).blk a ha).2.1.1)⟩);have h6':=(k₆.block _ (.inl m4')).trans h6;have q0:W₆.cell? ⟨r4,0,none⟩=some (.bool (J.leastL xs).ok):=by simp[World.cell?,h6',TryV.cells]
  have q1:W₆.cell? ⟨r4,1,none⟩=some (.int .i64 (J.leastL xs).sum):=by simp[World.cell?,h6',TryV.cells]
  have q2:W₆.cell? ⟨r4,2,none⟩=some (.int .i64 (J.leastL xs).most):=by simp[World.cell?,h6',TryV.cells]
  have q3:W₆.cell? ⟨r4,3,none⟩=some (.slice (J.leastL xs).a (J.leastL xs).n (J.leastL xs).cap):=by simp[World.cell?,h6',TryV.cells]
  refine⟨?_,λe he=>?_⟩
  .simp[results,Tryz.f181,go_sem,TryV.val,q0,q1,q2,q3]
  .simp[results,Tryz.f181,go_sem,q0,q1,q2,q3]at he;rcases he with rfl|rfl|rfl|rfl<;>exact dh m4'
end
section
variable [Gl]{P₀:Program}{ok:Ctx}{c:Frame}{Shun:Loc->Prop}{r0:Frame}{rest:List Frame}{M:Nat->Prop}{gs:Array Goroutine}{w:World}{sl:Option (Nat×Nat)}{t:Trace}{q:Nat->Nat}{la:Option Addr}{ln lc nb no nn nc:Nat}{turnv:Nat->Value}{S:Nat->Nat->Prop}{Is:Nat->TryV->Prop}{lt:TryV->TryV->Bool}
def CE (lt:TryV->TryV->Bool)(Is:Nat->TryV->Prop)(nn:Nat)(x:TryV):Prop:=
 ∃(J:Jb) (xs:List TryV) (seq:Nat->List Nat),J.lt=lt/\J.Is=Is/\xs.length=4/\(∀i y,xs[i]?=some y->nh J (seq i) y)/\(∀k,k<nn->∃i,i<4/\k∈seq i)/\(∀i,i<4->∀k∈seq i,k<nn)/\x=J.leastL xs
omit [Gl] in
theorem nt (J:Jb):∀xs,xs≠[]->J.leastL xs∈xs:=by
 intro xs h;cases xs with
 |nil=>exact absurd rfl h
 |cons x xs=>
  simp only[Jb.leastL];clear h;induction xs generalizing x with
  |nil=>simp
  |cons y ys ih=>
   simp only[List.foldl_cons];have:=ih (J.pick x y);rcases J.pk x y with e|e<;>rw[e]at this⊢<;>simp at this⊢<;>rcases this with h|h<;>simp[h]
theorem vY.mono {M₁:Nat->Prop}{w₁:World}(h:vY P₀ ok M w la ln lc nb no nn turnv S Is lt)(hM:∀b,M b->M₁ b)(hk:aw M w w₁):vY P₀ ok M₁ w₁ la ln lc nb no nn turnv S Is lt:=by
 have hR:∀b,(b=nb\/∃i,S i b)->M b:=λb hb=>hb.elim (λe=>e▸h.mnb) λ⟨i,hs⟩=>h.sm i b hs
 exact⟨hM _ h.mnb,λi hi=>by rw[<-h.near i hi];simp only[World.cell?,hk.block _ h.mnb],λi b hs=>hM _ (h.sm i b hs),λi hi W₁ k=>h.closed i hi W₁ ((hk.mono hR).trans k),h.argl,h.argt,λi hi F W₁ k τ d=>h.try_ i hi F W₁ ((hk.mono hR).trans k) τ d,h.ren,h.least,h.okf⟩
omit [Gl] in
theorem CN {xs:Nat->TryV}{cs:Array Value}(hs:cs.size=16)(h:∀i,i<4->∀o,o<4->cs[i*4+o]?=(xs i).cells[o]?):cs=([xs 0,xs 1,xs 2,xs 3].flatMap TryV.cells).toArray:=by
 refine Array.ext (by simp[TryV.cells,hs]) λj h1 h2=>?_
 have hj:j<16:=by omega
 have h':=h (j/4) (by omega) (j%4) (by omega);rw[show j/4*4+j%4=j by omega,Array.getElem?_eq_getElem h1]at h';have:([xs 0,xs 1,xs 2,xs 3].flatMap TryV.cells).toArray[j]?=some cs[j]:=by
  rw[h'];clear h' h1 h2;obtain rfl|rfl|rfl|rfl|rfl|rfl|rfl|rfl|rfl|rfl|rfl|rfl|rfl|rfl|rfl|rfl:j=0\/j=1\/j=2\/j=3\/j=4\/j=5\/j=6\/j=7\/j=8\/j=9\/j=10\/j=11\/j=12\/j=13\/j=14\/j=15:=by omega
  all_goals rfl
 rw[Array.getElem?_eq_getElem h2]at this;exact(Option.some.inj this).symm
theorem Bo (hP₀:bh P₀ P₀ ok)(hP:bh P₀ Tryz.prog ok)(hin:∀f,ok.fn f=true->ok.inn f=true)(hFl:eI P₀ c)(hn:nn+4<4611686018427387904)
  (h:bf Tryz.prog Shun (λ_=>False) (λ_=>False) M gs (G ((base 181).at ⟨#[.slice la ln lc,.slice (some ⟨nb,no,none⟩) nn nc,undef,undef,undef,undef,undef,undef,undef,undef,undef,undef,undef,undef,undef,undef,undef,undef,undef,undef,undef],[]⟩ [.code body24]) (r0::rest)) w t q)
  (hf:vY P₀ ok M w la ln lc nb no nn turnv S Is lt)(hgl:Gl.n<=w.heap.size):
  ∃N gs' w' sl' t' q' Shun' M' x,runNT Tryz.prog N (crowd gs w sl) t=(.next (crowd gs' w' sl'),t')/\bf Tryz.prog Shun' (λ_=>False) (λ_=>False) M' gs' (G (r0.finish x.val) rest) w' t' q'/\
   EN M w M' w'/\ef w' (λb=>M' b/\w.heap.size<=b) x/\CE lt Is nn x:=by
 obtain⟨N1,gs1,M1,w1,sl1,t1,q1,bl,bn,r4,tb,wg,Bs,bb,v9,v10,e1,e2,e3,hE,ho,hm,cl,cn,c4,ct,cw,cb,cB⟩:=zM (sl:=sl) h;have hlt:=h.lt';have hf1:=hf.mono hE.own hE.keep;obtain⟨J,j1,j2,j3,j4,p,hp,N2,gs2,w2,sl2,t2,a2,Ro2,M2,seq,vs,Mr,M',R,f1,f2,f3⟩:=zO (sl:=sl1) (nc:=nc) hP₀ hP hin hFl hn e3 hf1 (Nat.le_trans hgl hE.keep.size) ⟨ho.2.1,ho.2.2.1,ho.2.2.2.1,ho.2.2.2.2.1,ho.2.2.2.2.2.1,ho.2.2.2.2.2.2⟩ hm (by have:=hlt _ hf.mnb;omega) (λi b hs=>by have:=hlt _ (hf.sm i b hs);omega) cl cn ct cw cb cB;obtain⟨a₀,⟨⟨u8,u9,u10,u12,u13,u14,u15,u16,u17,u18,u19,u20,rfl⟩,hBT⟩,hT⟩:=f2.fin;subst hp;have hX:∀i,∃x:TryV,i<4->vs i=x.cells/\nh J (seq i) x/\ef w2 (Mr i) x/\∀b,Mr i b->w1.heap.size<=b:=λi=>by
  by_cases hi:i<4
  .obtain⟨x,h1,h2,h3,h4⟩:=f2.res i hi;exact⟨x,λ_=>⟨h1,h2,h3,λb hb=>j4▸h4 b hb⟩⟩
  .exact⟨noTry,λx=>absurd x hi⟩
 let X:Nat->TryV:=λi=>(hX i).choose
 have hXs:∀i,i<4->vs i=(X i).cells/\nh J (seq i) (X i)/\ef w2 (Mr i) (X i)/\∀b,Mr i b->w1.heap.size<=b:=λi hi=>(hX i).choose_spec hi
 obtain⟨cs,hcs1,hcs2⟩:=f2.bs;have hcs:cs=([X 0,X 1,X 2,X 3].flatMap TryV.cells).toArray:=CN hcs2 λi hi o ho'=>by
  rw[<-(hXs i hi).1];exact(f2.slot i hi).2 cs ⟨hcs1,hcs2⟩ o ho'
 have hsz:w1.heap.size<=w2.heap.size:=hBT.keep.size;have hwz:=hE.keep.size;have hk12:∀b,M1 b->b≠Bs->w2.heap[b]?=w1.heap[b]?:=λb hb hne=>hBT.keep.block b (f3 b hb hne)
 let M3:Nat->Prop:=λb=>(M b\/w.heap.size<=b)/\b<w2.heap.size/\∀l,inBk (·=b) l->¬(ph J wg tb Bs nn gs1.size t1.size).Sh Shun l
 obtain⟨q2,hL⟩:=f2.lone (M':=M3) (λl hl=>Loc.low_mono hsz (e3.low l hl)) (λb hb=>⟨hb.2.1,hb.2.2⟩);have hM1:∀b,M1 b->M3 b:=λb hb=>⟨hE.new b hb,Nat.lt_of_lt_of_le (hE.lt b hb) hsz,λl hl hx=>by
  rcases hx with hx|⟨a,rfl,hx⟩
  .exact e3.shun b (.inl hb) l hl hx
  .have hab:a.block=b:=hl;rcases hx with hx|hx
   .have hx':a.block=wg:=hx;exact(e3.vm wg (.inr rfl)).1 (by rw[<-hx',hab];exact hb)
   .have hx':a.block=tb:=hx;exact(e3.vm tb (.inl (.inr rfl))).1 (by rw[<-hx',hab];exact hb)⟩
 have hMr:∀i,i<4->∀b,Mr i b->M3 b/\b≠r4/\b≠bb:=λi hi b hb=>by
  have h1:=(hXs i hi).2.2.2 b hb;have h2:=f2.own i hi b hb;have h3:=hE.lt _ hm.2.2.1;have h4:=hE.lt _ hm.2.2.2.2;refine⟨⟨.inr (by omega),h2.1,λl hl hx=>?_⟩,by omega,by omega⟩;rcases hx with hx|⟨a,rfl,hx⟩
  .exact f2.shun i hi b hb l hl hx
  .have hab:a.block=b:=hl;exact h2.2.2.2 (by rw[<-hab];exact hx.elim .inl λy=>.inr (.inl y))
 have hxs:∀x∈[X 0,X 1,X 2,X 3],∃i,i<4/\x=X i:=by
  intro x hx;simp only[List.mem_cons,List.not_mem_nil,or_false]at hx;rcases hx with rfl|rfl|rfl|rfl
  .exact⟨0,by omega,rfl⟩
  .exact⟨1,by omega,rfl⟩
  .exact⟨2,by omega,rfl⟩
  .exact⟨3,by omega,rfl⟩
 have hA:=vZ (J:=J) (r0:=r0) (rest:=rest) (xs:=[X 0,X 1,X 2,X 3]) (M:=M3) (W:=w2) (r4:=r4) (bb:=bb) (Bs:=Bs) (bl:=J.bl) (bn:=J.bn) (tb:=J.tb) (wg:=wg) (t0:=.slice la ln lc) (t1:=.slice (some ⟨nb,no,none⟩) nn nc) (v8:=u8) (v9:=u9) (v10:=u10) (v12:=u12) (v13:=u13) (v14:=u14) (v15:=u15) (v16:=u16) (v17:=u17) (v18:=u18) (v19:=u19) (v20:=u20)
  hP₀ hP hin hFl hf.okf.2 (λV b xs z h1 h2 h3=>by rw[lZ J ⟨0,0,0,0,0,0,0,.nilFunc,turnv,S,Is,lt,0⟩ j1];exact hf.least V b xs z h1 h2 h3) (nt J) rfl (λb hb=>hb.2.1) (by omega) (hM1 _ hm.2.2.1) (hM1 _ hm.2.2.2.2) (hM1 _ hm.2.2.2.1) (by omega) (by omega) (by omega)
  ⟨_,(hk12 _ hm.2.2.1 (by omega)).trans c4,rfl⟩ ((hk12 _ hm.2.2.2.2 (by omega)).trans cb) (by rw[<-hcs];exact hcs1)
  (λx hx=>by obtain⟨i,hi,rfl⟩:=hxs x hx;exact(hXs i hi).2.2.1.keep (hMr i hi) λ_ _=>rfl)
 rw[<-j3]at hA;obtain⟨r,hr⟩:=hT _ _ _ _ _ hA;obtain⟨N3,gs3,M4,a3,w3,sl3,t3,q3,i1,i2,i3,i4,i5,i6,i7,i8⟩:=fk (λ_=>trivial) r _ gs2 M3 _ w2 sl2 t2 q2 (Nat.le_refl _) hL hr;obtain⟨rfl,g1,g2,g3⟩:=i3 w3 (aw.refl _ _) trivial;have hmem:=nt J [X 0,X 1,X 2,X 3] (by simp);obtain⟨i,hi,hxi⟩:=hxs _ hmem;have hHx:=g3 _ hmem;refine⟨N1+(N2+N3),gs3,w3,sl3,t3,q3,_,M4,J.leastL [X 0,X 1,X 2,X 3],dc (dc i1 _ _ _ f1) _ _ _ e1,i4,⟨λb hb=>g1 b (hM1 b (hE.own b hb)),?_,i4.lt',λb hb=>?_⟩,⟨hHx.row,hHx.small,λa ha=>?_,hHx.full⟩,J,_,seq,j1,j2,rfl,?_,f2.all,f2.seqL,rfl⟩
 .refine hE.keep.trans ⟨λb hb=>?_,by omega,g2.os.trans hBT.keep.os,g2.out.trans hBT.keep.out⟩;have hb':=hlt b hb;rw[g2.block b ⟨hM1 b (hE.own b hb),by omega,by omega⟩,hk12 b (hE.own b hb) (by omega)]
 .rcases i7 b hb with x|x
  .exact x.1
  .exact .inr (by omega)
 .obtain⟨h1,h2,h3⟩:=hHx.blk a ha;refine⟨h1,⟨h2,?_⟩,h3⟩;rw[hxi]at ha;have:=(hXs i hi).2.2.2 _ ((hXs i hi).2.2.1.blk a ha).2.1;omega
 .intro i y hy;have hi:i<4:=by
   have:=(List.getElem?_eq_some_iff.1 hy).1;simpa using this
  have:y=X i:=by
   obtain rfl|rfl|rfl|rfl:i=0\/i=1\/i=2\/i=3:=by omega
   all_goals(simp at hy;exact hy.symm)
  rw[this];exact(hXs i hi).2.1
end
end Go.Proofs.YtlmcblcijndipabGreatDoor
