import Derived.Test.YtlmcblcijndipabGreatDoorAd15
import Derived.Stop.Asserts
import Derived.RowKitTokens
set_option linter.unusedSimpArgs false
set_option linter.unusedVariables false
set_option maxHeartbeats 2000000
set_option maxRecDepth 100000
namespace Go.Proofs.YtlmcblcijndipabGreatDoor
open Go Go.Conc Go.RowKit Go.Conc.Lib Go.ConcR.Gen
section
variable [Gl]
structure xO (P0:Program)(ok:Ctx)(M:Nat->Prop)(w:World)(la:Option Addr)(ln lc nb no nn:Nat)(turnv:Nat->Value)(S:Nat->Nat->Prop)(Is:Nat->TryV->Prop)(lt:TryV->TryV->Bool):Prop where
 mnb:M nb
 near:∀i,i<nn->w.cell? ⟨nb,no+i,none⟩=some (turnv i)
 sm:∀i b,S i b->M b
 closed:∀i,i<nn->∀Fe,ax (λb=>b=nb\/∃i,S i b) w Fe->kw ok (S i) Fe
 argl:∀i,i<nn->aj ok (ku (S i)) (.slice la ln lc) (.slice la ln lc)
 argt:∀i,i<nn->aj ok (ku (S i)) (turnv i) (turnv i)
 try_:∀i,i<nn->∀(F:Nat->Prop) Fe,ax (λb=>b=nb\/∃i,S i b) w Fe->∀τ d,Calls P0 227 #[.slice la ln lc,turnv i] (re (cJ F Fe) τ d) λe w'=>∃x:TryV,e=.returned x.val/\Is i x/\eE w' (λb=>Fe.heap.size<=b) x
 ren:∀i x a',Is i x->(x.a=none<->a'=none)->Is i {x with a:=a'}
 least:∀(V:World) (b:Nat) (xs:List TryV) (z:Nat×Nat),xs.length<=1048576->V.heap[b]?=some (.cells (xs.flatMap TryV.cells).toArray 222 z)->(∀x∈xs,bH V x.a x.n x.g/\x.n<=1048576)->
  Calls P0 203 #[.slice (some ⟨b,0,none⟩) xs.length xs.length,.func (.func 204) #[] #[]] V λe w'=>e=.returned (Jb.leastL ⟨0,0,0,0,0,0,0,.nilFunc,turnv,S,Is,lt,0⟩ xs).val/\Below V.heap.size V w'
 okf:ok.inn 227=true/\ok.inn 203=true/\ok.fn 204=true
variable {P0:Program}{ok:Ctx}{c:Frame}{Shun:Loc->Prop}{rb:List Frame}{M:Nat->Prop}{gs:Array Goroutine}{w:World}{sl:Option (Nat×Nat)}{t:Trace}{q:Nat->Nat}{la:Option Addr}{ln lc nb no nn nc:Nat}{turnv:Nat->Value}{S:Nat->Nat->Prop}{Is:Nat->TryV->Prop}{lt:TryV->TryV->Bool}
omit [Gl] in
theorem bp.split {P:Program}{V M R:Nat->Prop}{a:Goroutine}(h:bp P Shun V (λ_=>False) M gs a w t q)(hR:∀b,R b->M b):bp P Shun V R (λb=>M b/\¬R b) gs a w t q:=
 ⟨h.main,h.quit,h.past,h.who,λb hb=>h.lt b (.inl (hb.elim And.left (hR b))),λb hb=>h.shun b (.inl (hb.elim And.left (hR b))),h.low,h.un,h.vlt,λb hb=>⟨λx=>(h.vm b hb).1 x.1,λx=>(h.vm b hb).1 (hR b x)⟩⟩
omit [Gl] in
theorem mO (J J':Jb)(h:J.lt=J'.lt)(xs:List TryV):J.leastL xs=J'.leastL xs:=by
 have:J.pick=J'.pick:=by funext x y;simp[Jb.pick,h]
 cases xs with
 |nil=>rfl
 |cons x xs=>simp only[Jb.leastL,this]
noncomputable def ph (J:Jb)(wg tb Bs nn Jn T:Nat):Ph:={P:=Tryz.prog,ty:=255,Wg:=wg,tk:=⟨tb,0,none⟩,Bs:=Bs,bty:=222,wd:=4,n:=4,L:=nn,J:=Jn,T0:=T,Res:=wA J,pl:=⟨0⟩}
omit [Gl] in
theorem Di (J:Jb)(wg tb Bs nn Jn T:Nat):(ph J wg tb Bs nn Jn T).ResOk:=by
 rintro seq vs M w w' ⟨x,h1,h2,h3,h4⟩ k;exact⟨x,h1,h2,h3.keep (λ_ h=>h) (λa ha=>k.block _ (h3.blk a ha).2.1),h4⟩
theorem Bh (hP0:bq P0 P0 ok)(hP:bq P0 Tryz.prog ok)(hin:∀f,ok.fn f=true->ok.inn f=true)(hFl:ff P0 c)(hn:nn+4<4611686018427387904){E3:Nat->Prop}{bl bn r4 tb wg Bs bb:Nat}{v9 v10:Value}
  (h:bp Tryz.prog Shun (λb=>(False\/b=tb)\/b=wg) (λ_=>False) E3 gs (G ((base 181).at ⟨#[.slice la ln lc,.slice (some ⟨nb,no,none⟩) nn nc,.pointer (some ⟨bl,0,none⟩),.pointer (some ⟨bn,0,none⟩),.pointer (some ⟨r4,0,none⟩),.pointer (some ⟨tb,0,none⟩),.pointer (some ⟨wg,0,none⟩),.pointer (some ⟨bb,0,none⟩),undef,v9,v10,.int .i64 4,.int .i64 0,undef,undef,undef,undef,undef,undef,undef,undef],[]⟩ [.code fV,.inLoop fV,.inBlock 0,.code eo]) rb) w t q)
  (hf:xO P0 ok E3 w la ln lc nb no nn turnv S Is lt)(hgl:Gl.n<=w.heap.size)(ho:bl<bn/\bn<r4/\r4<tb/\tb<wg/\wg<Bs/\Bs<bb)(hmm:E3 bl/\E3 bn/\E3 r4/\E3 Bs/\E3 bb)(hnb:nb<bl)(hSb:∀i b,S i b->b<bl)
  (cl:w.heap[bl]?=some (.cells #[.slice la ln lc] 30 (0,0)))(cn:w.heap[bn]?=some (.cells #[.slice (some ⟨nb,no,none⟩) nn nc] 224 (0,0)))
  (ct:w.heap[tb]?=some (.cells #[.int .i64 0] 250 (0,0)))(cw:w.heap[wg]?=some (.cells #[.int .u64 0,.int .u32 0] 255 (0,0)))
  (cb:w.heap[bb]?=some (.cells #[.slice (some ⟨Bs,0,none⟩) 4 4] 256 (0,0)))(cB:∃cs,w.heap[Bs]?=some (.cells cs 222 (0,0))/\cs.size=16):
  ∃(J:Jb),J.lt=lt/\J.Is=Is/\J.bb=bb/\J.base=w.heap.size/\∃(p:Ph),p=ph J wg tb Bs nn gs.size t.size/\∃N gs' w' sl' t' a' Ro' E4 seq vs Mr,∃M' Ro0:Nat->Prop,runNT Tryz.prog N (crowd gs w sl) t=(.next (crowd gs' w' sl'),t')/\
   p.Out Shun (p.FinW (DX J P0 p ok M' Ro0 w r4 (.slice la ln lc) (.slice (some ⟨nb,no,none⟩) nn nc)) (base 181) mN 0 [] [.code (cM eo)] rb) gs' w' t' a' Ro' E4 seq vs Mr/\∀b,E3 b->b≠Bs->M' b\/Ro0 b:=by
 let J:Jb:=⟨bl,bn,bb,nb,no,nc,tb,.slice la ln lc,turnv,S,Is,lt,w.heap.size⟩
 let p:Ph:=ph J wg tb Bs nn gs.size t.size
 let R:Nat->Prop:=λb=>b=bl\/b=bn\/b=bb\/b=nb\/∃i,S i b
 let M':Nat->Prop:=λb=>(E3 b/\¬R b)/\b≠Bs
 have hRM:∀b,R b->E3 b:=by
  rintro b (rfl|rfl|rfl|rfl|⟨i,hs⟩)
  .exact hmm.1
  .exact hmm.2.1
  .exact hmm.2.2.2.2
  .exact hf.mnb
  .exact hf.sm i b hs
 have hle4:∀b,(b=nb\/∃i,S i b)->R b:=λb hb=>.inr (.inr (.inr hb))
 have hJ:gX J P0 p ok R w:=⟨rfl,rfl,rfl,rfl,rfl,rfl,rfl,Gm _,cl,cn,cb,.inl rfl,.inr (.inl rfl),.inr (.inr (.inl rfl)),.inr (.inr (.inr (.inl rfl))),hf.near,λi b hs=>.inr (.inr (.inr (.inr ⟨i,hs⟩))),λi hi Fe k=>hf.closed i hi Fe (k.mono hle4),hf.argl,hf.argt,λi hi F Fe k τ d=>hf.try_ i hi F Fe (k.mono hle4) τ d,hf.ren,λV b xs z h1 h2 h3=>by rw[mO J _ rfl];exact hf.least V b xs z h1 h2 h3,hf.okf⟩;have hsp:∀b,p.Sp b->¬M' b/\¬R b:=by
  rintro b (e|e|e)
  .rw[show b=wg from e];have hv:=(h.vm wg (.inr rfl)).1;exact⟨λx=>hv x.1.1,λx=>hv (hRM _ x)⟩
  .rw[show b=tb from e];have hv:=(h.vm tb (.inl (.inr rfl))).1;exact⟨λx=>hv x.1.1,λx=>hv (hRM _ x)⟩
  .rw[show b=Bs from e];refine⟨λx=>x.2 rfl,?_⟩;show¬(Bs=bl\/Bs=bn\/Bs=bb\/Bs=nb\/∃i,S i Bs);rintro(x|x|x|x|⟨i,x⟩)
   .omega
   .omega
   .omega
   .omega
   .have:=hSb i _ x;omega
 have hBlt:∀b,p.Sp b->b<w.heap.size:=by
  rintro b (e|e|e)
  .rw[show b=wg from e];exact h.vlt wg (.inr rfl)
  .rw[show b=tb from e];exact h.vlt tb (.inl (.inr rfl))
  .rw[show b=Bs from e];exact h.lt Bs (.inl hmm.2.2.2.1)
 have hBT:BT J P0 p ok M' R w R M' w:=⟨hJ,λb x=>x,ax.refl _ _,λb hb=>⟨(hsp b hb).1,(hsp b hb).2,hBlt b hb⟩,λb hb=>h.lt b (.inl (hb.elim (λx=>x.1.1) (hRM b))),λb hb=>hb.1.2,hgl,by show wg≠Bs;omega⟩;have hs:=zA (J:=J) (p:=p) (M':=M') (Ro0:=R) (Wst:=w) (cs:=rb) (r4:=r4) (t0:=.slice la ln lc) (t1:=.slice (some ⟨nb,no,none⟩) nn nc) hP0 hP hin hFl (show nn<4611686018427387904 by omega) rfl rfl 4 0 undef v9 v10 undef undef undef undef undef undef undef undef R M' w rfl hBT;have hpos:1<=gs.size:=(Gp.1 h.main).1;have hG:p.Geo Shun:=⟨by show wg≠tb;omega,by show wg≠Bs;omega,by show tb≠Bs;omega,λa ha=>h.shun Bs (.inl hmm.2.2.2.1) (.cell a) ha,hpos⟩;obtain⟨N,gs',w',sl',t',a',Ro',E4,seq,vs,Mr,hrun,hout⟩:=Ph.phase (p:=p) (sl:=sl) (M':=M') (Fin:=p.FinW (DX J P0 p ok M' R w r4 (.slice la ln lc) (.slice (some ⟨nb,no,none⟩) nn nc)) (base 181) mN 0 [] [.code (cM eo)] rb)
  (Di J wg tb Bs nn gs.size t.size) hG (by show 4<2147483647;omega) (by show 1<=4;omega) (show nn+4<4611686018427387904 from hn) (by rintro _ _ _ _ ⟨T,Fj,rfl,_⟩;rfl)
  (λRo M g W hA _=>Ph.waitRound (p:=p) (L:=link) qe (λa Ro M w F4 hF k=>⟨hF.1,hF.2.rely k⟩) (λa Ro M w hF e=>e.elim (hF.2.sp _ (.inl rfl)).1 (hF.2.sp _ (.inl rfl)).2.1) Ro M g W hA)
  (h.split hRM) rfl rfl (.inr rfl) (.inl (.inr rfl)) (hBlt _ (.inr (.inr rfl))) (λb hb=>hb.1) hsp (λb hb=>hb.1.2) cw ⟨cK ct,by show w.frozen? ⟨tb,0,none⟩=false;simp[World.frozen?,ct]⟩ (by obtain⟨cs,g1,g2⟩:=cB;exact⟨cs,g1,g2⟩) hs
 exact⟨J,rfl,rfl,rfl,rfl,p,rfl,N,gs',w',sl',t',a',Ro',E4,seq,vs,Mr,M',R,hrun,hout,λb hb hne=>by
  by_cases x:R b
  .exact .inr x
  .exact .inl ⟨⟨hb,x⟩,hne⟩⟩
end
section
variable [Gl]{P0:Program}{ok:Ctx}{c:Frame}{J:Jb}{r0:Frame}{rest:List Frame}
theorem xP (hP0:bq P0 P0 ok)(hP:bq P0 Tryz.prog ok)(hin:∀f,ok.fn f=true->ok.inn f=true)(hFl:ff P0 c)(hok:ok.inn 203=true/\ok.fn 204=true)
  (hleast:∀(V:World) (b:Nat) (xs:List TryV) (z:Nat×Nat),xs.length<=1048576->V.heap[b]?=some (.cells (xs.flatMap TryV.cells).toArray 222 z)->(∀x∈xs,bH V x.a x.n x.g/\x.n<=1048576)->
   Calls P0 203 #[.slice (some ⟨b,0,none⟩) xs.length xs.length,.func (.func 204) #[] #[]] V λe w'=>e=.returned (J.leastL xs).val/\Below V.heap.size V w')
  (hmem:∀xs,xs≠[]->J.leastL xs∈xs){xs:List TryV}(h4:xs.length=4){M:Nat->Prop}{W:World}{t0 t1 v8 v9 v10 v12 v13 v14 v15 v16 v17 v18 v19 v20:Value}{bl bn r4 tb wg bb Bs:Nat}
  (hM:∀b,M b->b<W.heap.size)(hgl:Gl.n<=W.heap.size)(m4:M r4)(mb:M bb)(mB:M Bs)(n1:r4≠Bs)(n2:bb≠Bs)(n3:r4≠bb)(c4:∃cs:Array Value,W.heap[r4]?=some (.cells cs 222 (0,0))/\cs.size=4)
  (cb:W.heap[bb]?=some (.cells #[.slice (some ⟨Bs,0,none⟩) 4 4] 256 (0,0)))(cB:W.heap[Bs]?=some (.cells (xs.flatMap TryV.cells).toArray 222 (0,0)))(hx:∀x∈xs,eE W (λb=>M b/\b≠r4/\b≠bb) x):
  ET Tryz.prog true (λ_=>True) Ph.noX (λ_=>False) (λM' g W'=>g=G (r0.finish (J.leastL xs).val) rest/\(∀b,M b->M' b)/\ax (λb=>M b/\b≠r4/\b≠Bs) W W'/\∀x∈xs,eE W' M' x) M
   (G ((base 181).at (Act.put ⟨#[t0,t1,.pointer (some ⟨bl,0,none⟩),.pointer (some ⟨bn,0,none⟩),.pointer (some ⟨r4,0,none⟩),.pointer (some ⟨tb,0,none⟩),.pointer (some ⟨wg,0,none⟩),.pointer (some ⟨bb,0,none⟩),v8,v9,v10,.int .i64 4,v12,v13,v14,v15,v16,v17,v18,v19,v20],[]⟩ ((mN[0]?).bind (·.dst)) (.tuple #[])) (.inRegion mN []::[.code (cM eo)])) (r0::rest)) W:=by
 have e10:(mN[0]?).bind (·.dst)=some 18:=by kernel_rfl
 rw[e10];simp only[eo,body24,Tryz.f181,Option.getD_some,cM];walk_nrm
 apply ET.rn;apply ET.sq;apply ET.rg;refine ET.val (.slice (some ⟨Bs,0,none⟩) 4 4) rfl rfl (by k_ne) (λFe FO _=>?_) ?_
 .have hc:=cK ((FO.block _ (.inl mb)).trans cb);refine⟨?_,λe he=>?_⟩
  .go_simp
  .simp[go_sem,hc]at he;subst he;exact dq mb
 walk_nrm
 have hne:xs≠[]:=λe=>by rw[e]at h4;simp at h4
 have hm:=hmem xs hne;have hSx:∀x∈xs,∀a,x.a=some a->(λb=>b=Bs\/∃x,x∈xs/\∃a,x.a=some a/\a.block=b) a.block:=λx hx a ha=>.inr ⟨x,hx,a,ha,rfl⟩
 have hsl:∀z∈xs,∀v∈z.cells,aj ok (ku (λb=>b=Bs\/∃x,x∈xs/\∃a,x.a=some a/\a.block=b)) v v:=by
  intro z hz v hv;simp only[TryV.cells,List.mem_cons,List.not_mem_nil,or_false]at hv;rcases hv with rfl|rfl|rfl|rfl
  .exact .bool _
  .exact .int _ _
  .exact .int _ _
  .cases hza:z.a with
   |none=>exact .slice0 _ _
   |some a=>exact .slice _ _ ⟨cW.2 ⟨hSx z hz a hza,rfl⟩,rfl,rfl⟩
 refine ET.callOp (I:=λ_=>True) (Sp:=λ_=>False) hP0 hP hin hFl rfl rfl (by k_ne) rfl Tryz.func203 (by kernel_rfl) rfl hok.1 (λ_ _ _ _=>trivial) (λb hb=>hb) ⟨λb hb=>hb.elim,λb hb=>hb.elim⟩ hM hgl (λb=>b=Bs\/∃x,x∈xs/\∃a,x.a=some a/\a.block=b)
  (λFg v w=>v=(J.leastL xs).val/\∀b,b<Fg.heap.size->w.heap[b]?=(cJ (λ_=>False) Fg).heap[b]?) (λW v w τ d h=>h) ?_ ?_ ?_ ?_ ?_
 .rintro b (rfl|⟨x,h1,a,ha,rfl⟩)
  .exact .inl mB
  .exact .inl ((hx x h1).blk a ha).2.1.1
 .intro Fg FQ;refine⟨?_⟩;rintro b (rfl|⟨x,h1,a,ha,rfl⟩)
  .refine⟨_,_,(FQ.block _ (.inl mB)).trans cB,λv hv=>?_⟩;simp only[List.mem_toArray,List.mem_flatMap]at hv;obtain⟨z,h1,h2⟩:=hv;exact hsl z h1 v h2
  .obtain⟨_,h2,cs,e,h3,h4⟩:=(hx x h1).blk a ha;exact⟨cs,e,(FQ.block _ (.inl h2.1)).trans h3,λv hv=>by obtain⟨n,rfl⟩:=h4 v hv;exact .int _ _⟩
 .intro v hv;simp[Act.eval]at hv;rcases hv with rfl|rfl
  .exact .slice _ _ ⟨cW.2 ⟨.inl rfl,rfl⟩,rfl,rfl⟩
  .exact .func (.func hok.2) rfl (λi x x' h=>by simp at h) rfl (λi x x' h=>by simp at h)
 .intro Fg FQ _ τ d;walk_nrm
  obtain⟨z',h1,_⟩:=dl (F:=λ_=>False) ((FQ.block _ (.inl mB)).trans cB);have hc:=hleast (re (cJ (λ_=>False) Fg) τ d) Bs xs z' (by omega) h1 (λx hx'=>⟨ky ((hx x hx').keep (M':=λ_=>True) (λ_ _=>trivial) λa ha=>FQ.block _ (.inl ((hx x hx').blk a ha).2.1.1)).row,(hx x hx').small⟩);rw[h4]at hc;refine hc.mono ?_;rintro e w' ⟨rfl,hb⟩;exact⟨_,rfl,rfl,λb hb'=>hb.block b (by show b<(cJ (λ_=>False) Fg).heap.size;rw[eO];exact hb')⟩
 .intro Fg v' M' W' FQ FL i' hB;have hx3:∀x∈xs,eE Fg (λb=>M b/\b≠r4/\b≠bb) x:=λx hx'=>(hx x hx').keep (λ_ h=>h) λa ha=>FQ.block _ (.inl ((hx x hx').blk a ha).2.1.1)
  obtain⟨σ,v,V',hv,⟨rfl,hbe⟩,hw,hS,hnew,hers⟩:=hB.res;obtain⟨a',rfl,hn,ha⟩:=oe hv;have ea:a'=(J.leastL xs).a:=by
   cases e:(J.leastL xs).a with
   |none=>exact hn.1 e
   |some a=>
    obtain⟨d,h1,h2⟩:=ha a e;have h3:=h2.blk;rw[hS _ (hSx _ hm a e)]at h3;simp only[Option.some.injEq]at h3;rw[h1];obtain⟨d1,d2,d3⟩:=d;have h4:=h2.off;have h5:=h2.spot;obtain⟨a1,a2,a3⟩:=a;simp only at h3 h4 h5;rw[h3,h4,h5]
  have ev:TryV.val {J.leastL xs with a:=a'}=(J.leastL xs).val:=by rw[ea]
  rw[ev];have same:∀b cs e,M b->σ b=some b->Fg.heap[b]?=some (.cells cs e (0,0))->(∀v∈cs,∃n:Int,v=.int .i64 n)->W'.heap[b]?=Fg.heap[b]?:=by
   intro b cs e hm hs h3 h4;obtain⟨o,o',g1,g2,g3⟩:=hw.heap _ _ hs;obtain⟨z',f1,_⟩:=dl (F:=λ_=>False) h3;rw[hbe b (Gn (hM b hm) FQ.size),f1]at g1;cases g1;cases g3 with
   |@cells _ c' _ _ z'' hv hz=>
    replace hz:=hz.resolve_right (λh=>by cases h.1);have:c'=cs:=by
     refine Array.ext hv.size.symm λj h1 h2=>?_
     obtain⟨n,hn'⟩:=h4 cs[j] (Array.getElem_mem h2);have:=hv.at_ j _ _ (Gu h2) (Gu h1);rw[hn']at this⊢;generalize c'[j]=w at this;cases this;rfl
    rw[g2,h3,this,hz];rfl
  have hko:∀b,M b->b≠Bs->W'.heap[b]?=Fg.heap[b]?:=by
   intro b hb hne;by_cases hs:(λb=>b=Bs\/∃x,x∈xs/\∃a,x.a=some a/\a.block=b) b
   .have hs':=hS b hs;rcases hs with e|⟨x,h1,a,ha,rfl⟩
    .exact absurd e hne
    .obtain⟨_,_,cs,e,h3,h4⟩:=(hx3 x h1).blk a ha;exact same _ cs e hb hs' h3 h4
   .exact hB.rest.block b ⟨hb,hs⟩
  have nx:∀x∈xs,∀a,x.a=some a->a.block≠Bs:=λx h1 a ha e=>by
   obtain⟨_,_,cs,e',h3,h4⟩:=(hx x h1).blk a ha;rw[e,cB]at h3;cases h3;obtain⟨n,hn⟩:=h4 (.bool x.ok) (by simp only[List.mem_toArray,List.mem_flatMap];exact⟨x,h1,by simp[TryV.cells]⟩);cases hn
  have hx':∀x∈xs,eE W' (λb=>M' b/\b≠r4) x:=λx h1=>(hx3 x h1).keep (λb hb=>⟨hB.own _ hb.1,hb.2.1⟩) λa ha=>hko _ ((hx3 x h1).blk a ha).2.1.1 (nx x h1 a ha)
  have hk':ax (λb=>M b/\b≠r4/\b≠Bs) W W':=⟨λb hb=>(hko b hb.1 hb.2.2).trans (FQ.block b (.inl hb.1)),Gq FQ.size hB.ro.size,hB.ro.os.trans FQ.os,hB.ro.out.trans FQ.out⟩;have c4':∃cs:Array Value,W'.heap[r4]?=some (.cells cs 222 (0,0))/\cs.size=4:=by
   obtain⟨cs,g1,g2⟩:=c4;exact⟨cs,(hko _ m4 n1).trans ((FQ.block _ (.inl m4)).trans g1),g2⟩
  have m4':=hB.own _ m4;have hown:=hB.own;clear hko same hw hS hnew hers hv hn ha ea ev hbe hB hx3 FQ c4 cb cB hx;walk_nrm
  refine ET.none rfl rfl (by k_ne) λW4 FR _=>?_
  obtain⟨cs,g1,g2⟩:=c4';have g1':=(FR.block _ (.inl m4')).trans g1;refine⟨W4.setRow r4 (J.leastL xs).cells.toArray,(cQ rfl rfl rfl g1' g2).1,?_,?_⟩
  .refine bT.row _ m4' λe he=>?_
   obtain⟨j,rfl⟩:=(cQ (t:=J.leastL xs) rfl rfl rfl g1' g2).2 e (mem_listed he);exact dq m4'
  rw[aW (setRow_size _ _ _)];have h6:(W4.setRow r4 (J.leastL xs).cells.toArray).heap[r4]?=some (.cells (J.leastL xs).cells.toArray 222 (0,0)):=setRow_heap _ _ _ _ _ _ g1';have ho:∀b,b≠r4->(W4.setRow r4 (J.leastL xs).cells.toArray).heap[b]?=W4.heap[b]?:=λb hb=>setRow_other _ _ _ _ hb
  have hx4:∀x∈xs,eE (W4.setRow r4 (J.leastL xs).cells.toArray) (λb=>M' b/\b≠r4) x:=λx h1=>(hx' x h1).keep (λ_ h=>h) λa ha=>(ho _ ((hx' x h1).blk a ha).2.1.2).trans (FR.block _ (.inl ((hx' x h1).blk a ha).2.1.1))
  have hk4:ax (λb=>M b/\b≠r4/\b≠Bs) W (W4.setRow r4 (J.leastL xs).cells.toArray):=hk'.trans ⟨λb hb=>(ho b hb.2.1).trans (FR.block b (.inl (hown b hb.1))),by rw[setRow_size];exact FR.size,FR.os,FR.out⟩;generalize W4.setRow r4 (J.leastL xs).cells.toArray=Fh at h6 hx4 hk4⊢;clear ho hx' hk' FR g1 g1';walk_nrm
  apply ET.rn;apply ET.rt;refine ET.leaveE (J.leastL xs).val rfl rfl Tryz.func181 (λFi FT _=>?_) (ET.stop λFi FT _=>⟨rfl,hown,hk4.trans (FT.mono λb hb=>.inl (hown b hb.1)),λx h1=>(hx4 x h1).keep (λb hb=>hb.1) λa ha=>FT.block _ (.inl ((hx4 x h1).blk a ha).2.1.1)⟩);have h6':=(FT.block _ (.inl m4')).trans h6;have q0:Fi.cell? ⟨r4,0,none⟩=some (.bool (J.leastL xs).ok):=by simp[World.cell?,h6',TryV.cells]
  have q1:Fi.cell? ⟨r4,1,none⟩=some (.int .i64 (J.leastL xs).sum):=by simp[World.cell?,h6',TryV.cells]
  have q2:Fi.cell? ⟨r4,2,none⟩=some (.int .i64 (J.leastL xs).most):=by simp[World.cell?,h6',TryV.cells]
  have q3:Fi.cell? ⟨r4,3,none⟩=some (.slice (J.leastL xs).a (J.leastL xs).n (J.leastL xs).cap):=by simp[World.cell?,h6',TryV.cells]
  refine⟨?_,λe he=>?_⟩
  .simp[results,Tryz.f181,go_sem,TryV.val,q0,q1,q2,q3]
  .simp[results,Tryz.f181,go_sem,q0,q1,q2,q3]at he;rcases he with rfl|rfl|rfl|rfl<;>exact dq m4'
end
section
variable [Gl]{P0:Program}{ok:Ctx}{c:Frame}{Shun:Loc->Prop}{r0:Frame}{rest:List Frame}{M:Nat->Prop}{gs:Array Goroutine}{w:World}{sl:Option (Nat×Nat)}{t:Trace}{q:Nat->Nat}{la:Option Addr}{ln lc nb no nn nc:Nat}{turnv:Nat->Value}{S:Nat->Nat->Prop}{Is:Nat->TryV->Prop}{lt:TryV->TryV->Bool}
def Ej (lt:TryV->TryV->Bool)(Is:Nat->TryV->Prop)(nn:Nat)(x:TryV):Prop:=
 ∃(J:Jb) (xs:List TryV) (seq:Nat->List Nat),J.lt=lt/\J.Is=Is/\xs.length=4/\(∀i y,xs[i]?=some y->n9 J (seq i) y)/\(∀k,k<nn->∃i,i<4/\k∈seq i)/\(∀i,i<4->∀k∈seq i,k<nn)/\x=J.leastL xs
omit [Gl] in
theorem oj (J:Jb):∀xs,xs≠[]->J.leastL xs∈xs:=by
 intro xs h;cases xs with
 |nil=>exact absurd rfl h
 |cons x xs=>
  simp only[Jb.leastL];clear h;induction xs generalizing x with
  |nil=>simp
  |cons y ys ih=>
   simp only[List.foldl_cons];have:=ih (J.pick x y);rcases J.pk x y with e|e<;>rw[e]at this⊢<;>simp at this⊢<;>rcases this with h|h<;>simp[h]
theorem xO.mono {E3:Nat->Prop}{F4:World}(h:xO P0 ok M w la ln lc nb no nn turnv S Is lt)(hM:∀b,M b->E3 b)(hk:ax M w F4):xO P0 ok E3 F4 la ln lc nb no nn turnv S Is lt:=by
 have hR:∀b,(b=nb\/∃i,S i b)->M b:=λb hb=>hb.elim (λe=>e▸h.mnb) λ⟨i,hs⟩=>h.sm i b hs
 exact⟨hM _ h.mnb,λi hi=>by rw[<-h.near i hi];simp only[World.cell?,hk.block _ h.mnb],λi b hs=>hM _ (h.sm i b hs),λi hi Fe k=>h.closed i hi Fe ((hk.mono hR).trans k),h.argl,h.argt,λi hi F Fe k τ d=>h.try_ i hi F Fe ((hk.mono hR).trans k) τ d,h.ren,h.least,h.okf⟩
omit [Gl] in
theorem Er {xs:Nat->TryV}{cs:Array Value}(hs:cs.size=16)(h:∀i,i<4->∀o,o<4->cs[i*4+o]?=(xs i).cells[o]?):cs=([xs 0,xs 1,xs 2,xs 3].flatMap TryV.cells).toArray:=by
 refine Array.ext (by simp[TryV.cells,hs]) λj h1 h2=>?_
 have hj:j<16:=by omega
 have h':=h (j/4) (by omega) (j%4) (by omega);rw[show j/4*4+j%4=j by omega,Gu h1]at h';have:([xs 0,xs 1,xs 2,xs 3].flatMap TryV.cells).toArray[j]?=some cs[j]:=by
  rw[h'];clear h' h1 h2;obtain rfl|rfl|rfl|rfl|rfl|rfl|rfl|rfl|rfl|rfl|rfl|rfl|rfl|rfl|rfl|rfl:j=0\/j=1\/j=2\/j=3\/j=4\/j=5\/j=6\/j=7\/j=8\/j=9\/j=10\/j=11\/j=12\/j=13\/j=14\/j=15:=by omega
  all_goals rfl
 rw[Gu h2]at this;exact(Gt this).symm
theorem Dl (hP0:bq P0 P0 ok)(hP:bq P0 Tryz.prog ok)(hin:∀f,ok.fn f=true->ok.inn f=true)(hFl:ff P0 c)(hn:nn+4<4611686018427387904)
  (h:bp Tryz.prog Shun (λ_=>False) (λ_=>False) M gs (G ((base 181).at ⟨#[.slice la ln lc,.slice (some ⟨nb,no,none⟩) nn nc,undef,undef,undef,undef,undef,undef,undef,undef,undef,undef,undef,undef,undef,undef,undef,undef,undef,undef,undef],[]⟩ [.code body24]) (r0::rest)) w t q)
  (hf:xO P0 ok M w la ln lc nb no nn turnv S Is lt)(hgl:Gl.n<=w.heap.size):
  ∃N gs' w' sl' t' q' Shun' M' x,runNT Tryz.prog N (crowd gs w sl) t=(.next (crowd gs' w' sl'),t')/\bp Tryz.prog Shun' (λ_=>False) (λ_=>False) M' gs' (G (r0.finish x.val) rest) w' t' q'/\
   EN M w M' w'/\eE w' (λb=>M' b/\w.heap.size<=b) x/\Ej lt Is nn x:=by
 obtain⟨N1,gs1,M1,w1,sl1,t1,q1,bl,bn,r4,tb,wg,Bs,bb,v9,v10,e1,e2,e3,hE,ho,hm,cl,cn,c4,ct,cw,cb,cB⟩:=Bf (sl:=sl) h;have hlt:=h.lt';have hf1:=hf.mono hE.own hE.keep;obtain⟨J,j1,j2,j3,j4,p,hp,N2,gs2,w2,sl2,t2,a2,Ro2,M2,seq,vs,Mr,M',R,f1,f2,f3⟩:=Bh (sl:=sl1) (nc:=nc) hP0 hP hin hFl hn e3 hf1 (Gq hgl hE.keep.size) ⟨ho.2.1,ho.2.2.1,ho.2.2.2.1,ho.2.2.2.2.1,ho.2.2.2.2.2.1,ho.2.2.2.2.2.2⟩ hm (by have:=hlt _ hf.mnb;omega) (λi b hs=>by have:=hlt _ (hf.sm i b hs);omega) cl cn ct cw cb cB;obtain⟨Fj,⟨⟨u8,u9,u10,u12,u13,u14,u15,u16,u17,u18,u19,u20,rfl⟩,hBT⟩,hT⟩:=f2.fin;subst hp;have hX:∀i,∃x:TryV,i<4->vs i=x.cells/\n9 J (seq i) x/\eE w2 (Mr i) x/\∀b,Mr i b->w1.heap.size<=b:=λi=>by
  by_cases hi:i<4
  .obtain⟨x,h1,h2,h3,h4⟩:=f2.res i hi;exact⟨x,λ_=>⟨h1,h2,h3,λb hb=>j4▸h4 b hb⟩⟩
  .exact⟨noTry,λx=>absurd x hi⟩
 let X:Nat->TryV:=λi=>(hX i).choose
 have hXs:∀i,i<4->vs i=(X i).cells/\n9 J (seq i) (X i)/\eE w2 (Mr i) (X i)/\∀b,Mr i b->w1.heap.size<=b:=λi hi=>(hX i).choose_spec hi
 obtain⟨cs,hcs1,hcs2⟩:=f2.bs;have hcs:cs=([X 0,X 1,X 2,X 3].flatMap TryV.cells).toArray:=Er hcs2 λi hi o ho'=>by
  rw[<-(hXs i hi).1];exact(f2.slot i hi).2 cs ⟨hcs1,hcs2⟩ o ho'
 have hsz:w1.heap.size<=w2.heap.size:=hBT.keep.size;have hwz:=hE.keep.size;have hk12:∀b,M1 b->b≠Bs->w2.heap[b]?=w1.heap[b]?:=λb hb hne=>hBT.keep.block b (f3 b hb hne)
 let M3:Nat->Prop:=λb=>(M b\/w.heap.size<=b)/\b<w2.heap.size/\∀l,inBk (·=b) l->¬(ph J wg tb Bs nn gs1.size t1.size).Sh Shun l
 obtain⟨q2,hL⟩:=f2.lone (M':=M3) (λl hl=>Loc.low_mono hsz (e3.low l hl)) (λb hb=>⟨hb.2.1,hb.2.2⟩);have hM1:∀b,M1 b->M3 b:=λb hb=>⟨hE.new b hb,Gn (hE.lt b hb) hsz,λl hl hx=>by
  rcases hx with hx|⟨a,rfl,hx⟩
  .exact e3.shun b (.inl hb) l hl hx
  .have hab:a.block=b:=hl;rcases hx with hx|hx
   .have hx':a.block=wg:=hx;exact(e3.vm wg (.inr rfl)).1 (by rw[<-hx',hab];exact hb)
   .have hx':a.block=tb:=hx;exact(e3.vm tb (.inl (.inr rfl))).1 (by rw[<-hx',hab];exact hb)⟩
 have hMr:∀i,i<4->∀b,Mr i b->M3 b/\b≠r4/\b≠bb:=λi hi b hb=>by
  have h1:=(hXs i hi).2.2.2 b hb;have h2:=f2.own i hi b hb;have h3:=hE.lt _ hm.2.2.1;have h4:=hE.lt _ hm.2.2.2.2;refine⟨⟨.inr (by omega),h2.1,λl hl hx=>?_⟩,by omega,by omega⟩;rcases hx with hx|⟨a,rfl,hx⟩
  .exact f2.shun i hi b hb l hl hx
  .have hab:a.block=b:=hl;exact h2.2.2.2 (by rw[<-hab];exact hx.elim .inl λy=>.inr (.inl y))
 have hxs:∀x∈[X 0,X 1,X 2,X 3],∃i,i<4/\x=X i:=by
  intro x hx;simp only[List.mem_cons,List.not_mem_nil,or_false]at hx;rcases hx with rfl|rfl|rfl|rfl
  .exact⟨0,by omega,rfl⟩
  .exact⟨1,by omega,rfl⟩
  .exact⟨2,by omega,rfl⟩
  .exact⟨3,by omega,rfl⟩
 have hA:=xP (J:=J) (r0:=r0) (rest:=rest) (xs:=[X 0,X 1,X 2,X 3]) (M:=M3) (W:=w2) (r4:=r4) (bb:=bb) (Bs:=Bs) (bl:=J.bl) (bn:=J.bn) (tb:=J.tb) (wg:=wg) (t0:=.slice la ln lc) (t1:=.slice (some ⟨nb,no,none⟩) nn nc) (v8:=u8) (v9:=u9) (v10:=u10) (v12:=u12) (v13:=u13) (v14:=u14) (v15:=u15) (v16:=u16) (v17:=u17) (v18:=u18) (v19:=u19) (v20:=u20)
  hP0 hP hin hFl hf.okf.2 (λV b xs z h1 h2 h3=>by rw[mO J ⟨0,0,0,0,0,0,0,.nilFunc,turnv,S,Is,lt,0⟩ j1];exact hf.least V b xs z h1 h2 h3) (oj J) rfl (λb hb=>hb.2.1) (by omega) (hM1 _ hm.2.2.1) (hM1 _ hm.2.2.2.2) (hM1 _ hm.2.2.2.1) (by omega) (by omega) (by omega)
  ⟨_,(hk12 _ hm.2.2.1 (by omega)).trans c4,rfl⟩ ((hk12 _ hm.2.2.2.2 (by omega)).trans cb) (by rw[<-hcs];exact hcs1)
  (λx hx=>by obtain⟨i,hi,rfl⟩:=hxs x hx;exact(hXs i hi).2.2.1.keep (hMr i hi) λ_ _=>rfl)
 rw[<-j3]at hA;obtain⟨r,hr⟩:=hT _ _ _ _ _ hA;obtain⟨N3,gs3,M4,a3,w3,sl3,t3,q3,i1,i2,i3,i4,i5,i6,i7,i8⟩:=eN (λ_=>trivial) r _ gs2 M3 _ w2 sl2 t2 q2 (Gm _) hL hr;obtain⟨rfl,g1,g2,g3⟩:=i3 w3 (ax.refl _ _) trivial;have hmem:=oj J [X 0,X 1,X 2,X 3] (by simp);obtain⟨i,hi,hxi⟩:=hxs _ hmem;have hHx:=g3 _ hmem;refine⟨N1+(N2+N3),gs3,w3,sl3,t3,q3,_,M4,J.leastL [X 0,X 1,X 2,X 3],cZ (cZ i1 _ _ _ f1) _ _ _ e1,i4,⟨λb hb=>g1 b (hM1 b (hE.own b hb)),?_,i4.lt',λb hb=>?_⟩,⟨hHx.row,hHx.small,λa ha=>?_,hHx.full⟩,J,_,seq,j1,j2,rfl,?_,f2.all,f2.seqL,rfl⟩
 .refine hE.keep.trans ⟨λb hb=>?_,by omega,g2.os.trans hBT.keep.os,g2.out.trans hBT.keep.out⟩;have hb':=hlt b hb;rw[g2.block b ⟨hM1 b (hE.own b hb),by omega,by omega⟩,hk12 b (hE.own b hb) (by omega)]
 .rcases i7 b hb with x|x
  .exact x.1
  .exact .inr (by omega)
 .obtain⟨h1,h2,h3⟩:=hHx.blk a ha;refine⟨h1,⟨h2,?_⟩,h3⟩;rw[hxi]at ha;have:=(hXs i hi).2.2.2 _ ((hXs i hi).2.2.1.blk a ha).2.1;omega
 .intro i y hy;have hi:i<4:=by
   have:=(Gw.1 hy).1;simpa using this
  have:y=X i:=by
   obtain rfl|rfl|rfl|rfl:i=0\/i=1\/i=2\/i=3:=by omega
   all_goals(simp at hy;exact hy.symm)
  rw[this];exact(hXs i hi).2.1
end
end Go.Proofs.YtlmcblcijndipabGreatDoor
namespace Go.Proofs.YtlmcblcijndipabGreatDoor
open Go Go.Conc Go.RowKit Go.Conc.Lib Go.ConcR.Gen Go.Extern Go.Extern.Stop Go.Stop
set_option linter.unusedSimpArgs false
set_option linter.unusedVariables false
structure CS (E2:Nat->Prop)(Fd:World)(L:List (Nat×Array Value×TypeId))(M:Nat->Prop)(W:World):Prop where
 own:∀b,E2 b->M b
 keep:ax E2 Fd W
 lt:∀b,M b->b<W.heap.size
 new:∀b,M b->E2 b\/Fd.heap.size<=b
 lt0:∀b,E2 b->b<Fd.heap.size
 at_:∀p∈L,M p.1/\W.heap[p.1]?=some (.cells p.2.1 p.2.2 (0,0))
section
variable {E2 M:Nat->Prop}{Fd W Fe:World}{L:List (Nat×Array Value×TypeId)}
theorem CS.rely (h:CS E2 Fd L M W)(k:ax (λb=>M b\/False) W Fe):CS E2 Fd L M Fe:=⟨h.own,h.keep.trans (k.mono λb hb=>.inl (h.own b hb)),λb hb=>Gn (h.lt b hb) k.size,h.new,h.lt0,λp hp=>⟨(h.at_ p hp).1,(k.block _ (.inl (h.at_ p hp).1)).trans (h.at_ p hp).2⟩⟩
theorem CS.alloc (h:CS E2 Fd L M W)(cs:Array Value)(t:TypeId):CS E2 Fd ((W.heap.size,cs,t)::L) (grow M W (W.alloc (.cells cs t))) (W.alloc (.cells cs t)):=by
 have z:(W.alloc (.cells cs t)).heap.size=W.heap.size+1:=by show(W.heap.push _).size=_;simp
 refine⟨λb hb=>.inl (h.own b hb),h.keep.trans ⟨λb hb=>Below.heap_alloc _ _ _ (h.lt b (h.own b hb)),by rw[z];omega,rfl,rfl⟩,λb hb=>hb.elim (λx=>by rw[z];have:=h.lt b x;omega) And.right,λb hb=>hb.elim (h.new b) λx=>.inr (Gq h.keep.size x.1),h.lt0,λp hp=>?_⟩;rcases List.mem_cons.1 hp with rfl|hp
 .exact⟨.inr ⟨Gm _,by rw[z];simp⟩,heap_alloc_new _ _⟩
 .exact⟨.inl (h.at_ p hp).1,(Below.heap_alloc _ _ _ (h.lt _ (h.at_ p hp).1)).trans (h.at_ p hp).2⟩
theorem CS.cell (h:CS E2 Fd L M W){b:Nat}{cs:Array Value}{t:TypeId}(hp:(b,cs,t)∈L){j:Nat}{v:Value}(hv:cs[j]?=some v):W.cell? ⟨b,j,none⟩=some v:=by
 rw[cell_of_row _ _ _ _ _ _ (h.at_ _ hp).2];exact hv
end
section
variable {P:Program}{m:Bool}{I:World->Prop}{X:Event->Prop}{Ro:Nat->Prop}{Stop:(Nat->Prop)->Goroutine->World->Prop}{M:Nat->Prop}{W:World}
 {b:Frame}{a:Act}{k:List Item}{cs:List Frame}{ops:Array Oper}{i:Nat}{rest:List Nat}{o:Oper}
theorem ET.pure (v:Value)(ho:ops[i]?=some o)(hw:Region.wanted o (yielded ops a.tmps)=true)(hk:b.kind≠.early)(hr:∀W,(execOp a.eval o).run P W=.ok (.value v) W)(he:∀W,(execOp a.eval o).events P W #[]=#[])
  (n:ET P m I X Ro Stop M (G (b.at (a.put o.dst v) (.inRegion ops rest::k)) cs) W):ET P m I X Ro Stop M (G (b.at a (.inRegion ops (i::rest)::k)) cs) W:=
 ET.val v ho hw hk (λFe _ _=>⟨hr Fe,λe h=>by rw[he Fe]at h;simp at h⟩) n
theorem ET.ext (v:Value)(f:FuncId)(ho:ops[i]?=some o)(hw:Region.wanted o (yielded ops a.tmps)=true)(hk:b.kind≠.early)(hr:∀W,(execOp a.eval o).run P W=.ok (.value v) W)(he:∀W,(execOp a.eval o).events P W #[]=#[⟨.mark (.extern f),false,true⟩])
  (n:ET P m I X Ro Stop M (G (b.at (a.put o.dst v) (.inRegion ops rest::k)) cs) W):ET P m I X Ro Stop M (G (b.at a (.inRegion ops (i::rest)::k)) cs) W:=
 ET.val v ho hw hk (λFe _ _=>⟨hr Fe,λe h=>by rw[he Fe]at h;simp at h;exact .inr (.inr (.inl ⟨_,rfl,h⟩))⟩) n
variable {E2:Nat->Prop}{Fd:World}{L:List (Nat×Array Value×TypeId)}
def nf (e:Event):Prop:=∃f,e=⟨.mark (.extern f),false,true⟩
theorem nf.evp {e:Event}(h:nf e):uw X M Ro e:=by obtain⟨f,h⟩:=h;exact .inr (.inr (.inl ⟨_,rfl,h⟩))
theorem ET.makes (v:Nat->Value)(xs:Array Value)(t:TypeId)(es:Array Event)(ho:ops[i]?=some o)(hw:Region.wanted o (yielded ops a.tmps)=true)(hk:b.kind≠.early)(h:CS E2 Fd L M W)
  (hr:∀W,(execOp a.eval o).run P W=.ok (.value (v W.heap.size)) (W.alloc (.cells xs t)))(he:∀W,(execOp a.eval o).events P W #[]=es)(hq:∀e∈es,nf e)
  (n:∀B M' W',CS E2 Fd ((B,xs,t)::L) M' W'->Fd.heap.size<=B->(∀p∈L,p.1<B)->ET P m (λ_=>True) X (λ_=>False) Stop M' (G (b.at (a.put o.dst (v B)) (.inRegion ops rest::k)) cs) W'):ET P m (λ_=>True) X (λ_=>False) Stop M (G (b.at a (.inRegion ops (i::rest)::k)) cs) W:=
 ET.oper ho hw hk λFe FO _=>⟨_,_,hr Fe,bT.alloc _ λe h=>(hq e (by have:=mem_listed h;rw[he Fe]at this;exact this)).evp,n _ _ _ ((h.rely FO).alloc xs t) (h.rely FO).keep.size λp hp=>(h.rely FO).lt _ ((h.rely FO).at_ p hp).1⟩
theorem ET.looks (v:Value)(ho:ops[i]?=some o)(hw:Region.wanted o (yielded ops a.tmps)=true)(hk:b.kind≠.early)(h:CS E2 Fd L M W)
  (hr:∀W,CS E2 Fd L M W->(execOp a.eval o).run P W=.ok (.value v) W/\∀e∈(execOp a.eval o).events P W #[],nf e\/∃p∈L,∃j,e=⟨.cell ⟨p.1,j,Option.none⟩,false,false⟩)
  (n:ET P m (λ_=>True) X (λ_=>False) Stop M (G (b.at (a.put o.dst v) (.inRegion ops rest::k)) cs) W):ET P m (λ_=>True) X (λ_=>False) Stop M (G (b.at a (.inRegion ops (i::rest)::k)) cs) W:=
 ET.val v ho hw hk (λFe FO _=>⟨(hr Fe (h.rely FO)).1,λe he=>by
  rcases(hr Fe (h.rely FO)).2 e he with x|⟨p,hp,j,rfl⟩
  .exact x.evp
  .exact dq (h.at_ p hp).1⟩) n
theorem CS.set {B:Nat}{xs:Array Value}{t:TypeId}(h:CS E2 Fd ((B,xs,t)::L) M W)(hB:Fd.heap.size<=B)(hL:∀p∈L,p.1<B)(ys:Array Value):CS E2 Fd ((B,ys,t)::L) M (W.setRow B ys):=by
 have z:(W.setRow B ys).heap.size=W.heap.size:=setRow_size _ _ _;refine⟨h.own,h.keep.trans ⟨λb hb=>setRow_other _ _ _ _ (by have:=h.lt0 b hb;omega),by rw[z];exact Gm _,rfl,rfl⟩,λb hb=>by rw[z];exact h.lt b hb,h.new,h.lt0,λp hp=>?_⟩;rcases List.mem_cons.1 hp with rfl|hp
 .exact⟨(h.at_ _ (GN ..)).1,setRow_heap _ _ _ _ _ _ (h.at_ _ (GN ..)).2⟩
 .have:=h.at_ p (GM _ hp);exact⟨this.1,(setRow_other _ _ _ _ (GE (hL p hp))).trans this.2⟩
theorem ET.writes {B:Nat}{xs:Array Value}{t:TypeId}(ys:Array Value)(ho:ops[i]?=some o)(hw:Region.wanted o (yielded ops a.tmps)=true)(hk:b.kind≠.early)(h:CS E2 Fd ((B,xs,t)::L) M W)(hB:Fd.heap.size<=B)(hL:∀p∈L,p.1<B)
  (hr:∀W,W.heap[B]?=some (.cells xs t (0,0))->(execOp a.eval o).run P W=.ok .skip (W.setRow B ys)/\∀e∈(execOp a.eval o).events P W #[],∃j,e=⟨.cell ⟨B,j,Option.none⟩,true,false⟩)
  (n:∀W',CS E2 Fd ((B,ys,t)::L) M W'->ET P m (λ_=>True) X (λ_=>False) Stop M (G (b.at (a.put o.dst undef) (.inRegion ops rest::k)) cs) W'):ET P m (λ_=>True) X (λ_=>False) Stop M (G (b.at a (.inRegion ops (i::rest)::k)) cs) W:=
 ET.none ho hw hk λFe FO _=>by
  have h':=h.rely FO;have hb:=h'.at_ _ (GN ..);refine⟨_,(hr Fe hb.2).1,bT.row ys hb.1 λe he=>?_,?_⟩
  .obtain⟨j,rfl⟩:=(hr Fe hb.2).2 e (mem_listed he);exact dq hb.1
  .rw[show grow M Fe (Fe.setRow B ys)=M from aW (setRow_size _ _ _)];exact n _ (h'.set hB hL ys)
end
section
variable {a:Act}{o:Oper}{x y:Operand}{B:Nat}{cur:Array Value}{ty:TypeId}{u v w:Value}{W:World}{p q:Addr}{n:Int}
theorem Br (hop:o.op=.store 152 x y)(ha:a.eval x=.pointer (some ⟨B,0,none⟩))(hy:a.eval y=.agg #[.pointer (some p),.pointer (some q),.int .u64 n])(hg:W.heap[B]?=some (.cells cur ty (0,0)))(hl:cur.size=3):
  (execOp a.eval o).run Tryz.prog W=.ok .skip (W.setRow B #[.pointer (some p),.pointer (some q),.int .u64 n])/\∀e∈(execOp a.eval o).events Tryz.prog W #[],∃j,e=⟨.cell ⟨B,j,none⟩,true,false⟩:=by
 obtain⟨cs,h1,h2,h3⟩:∃cs:Array Value,#[Value.pointer (some p),.pointer (some q),.int .u64 n]=cs/\cs.size=3/\∀v∈cs.toList,v.oneCell'=true:=⟨_,rfl,rfl,by simp[Value.oneCell']⟩;rw[h1]at hy⊢;clear h1;have h:=run_storeCells_at (P:=Tryz.prog) B 0 ty cs.toList 0 cur W hg (by simp[hl,h2]) h3;rw[Nat.add_zero]at h;have hd:cur.toList.drop (0+cs.toList.length)=[]:=by simp[hl,h2]
 rw[hd]at h;simp only[List.take_zero,List.nil_append,List.append_nil]at h;refine⟨?_,λe he=>?_⟩
 .unfold execOp;simp only[hop,ha,hy];go_simp
 .have h:=gC (P:=Tryz.prog) B 0 ty cs.toList 0 cur W #[] hg (by simp[hl,h2]) h3 e;unfold execOp at he;simp only[hop,ha,hy]at he;simp[go_sem,h2]at he;rcases h he with x|⟨j,_,h5,h6⟩
  .simp at x
  .exact⟨_,h6⟩
theorem nt (hop:o.op=.load 152 x)(ha:a.eval x=.pointer (some ⟨B,0,none⟩))(hg:W.heap[B]?=some (.cells #[u,v,w] ty (0,0))):
  (execOp a.eval o).run Tryz.prog W=.ok (.value (.agg #[u,v,w])) W/\∀e∈(execOp a.eval o).events Tryz.prog W #[],∃j,e=⟨.cell ⟨B,j,none⟩,false,false⟩:=by
 have c0:W.cell? ⟨B,0,none⟩=some u:=by simp[World.cell?,hg]
 have c1:W.cell? ⟨B,1,none⟩=some v:=by simp[World.cell?,hg]
 have c2:W.cell? ⟨B,2,none⟩=some w:=by simp[World.cell?,hg]
 refine⟨?_,λe he=>?_⟩
 .unfold execOp;simp only[hop,ha];go_simp
 .unfold execOp at he;simp only[hop,ha]at he;simp[go_sem,c0,c1,c2]at he;rcases he with rfl|rfl|rfl<;>exact⟨_,rfl⟩
end
theorem DP {E2 M:Nat->Prop}{Fd W:World}{L:List (Nat×Array Value×TypeId)}{P:Program}{s:Sem Next}{r:Result Next}{B:Nat}{cs:Array Value}{t:TypeId}(h:W.heap[B]?=some (.cells cs t (0,0))->s.run P W=r/\∀e∈s.events P W #[],∃j,e=⟨.cell ⟨B,j,none⟩,false,false⟩)
  (hW:CS E2 Fd L M W)(hm:(B,cs,t)∈L):s.run P W=r/\∀e∈s.events P W #[],nf e\/∃p∈L,∃j,e=⟨.cell ⟨p.1,j,none⟩,false,false⟩:=
 have x:=h (hW.at_ _ hm).2
 ⟨x.1,λe he=>.inr ⟨_,hm,x.2 e he⟩⟩
theorem EB (z:Sem Value)(f:TypeId->Addr->Nat->Nat->Sem Value)(v:Value):
  ReflectliteValue.method z f #[v]=(do match<-ReflectliteValue.parts v with|none=>z|some (t,a,fl)=>f t a fl (fl%32)):=rfl
theorem jH (a:Addr)(w:World):(ReflectliteValue.parts (.agg #[.pointer (some ⟨9,135,none⟩),.pointer (some a),.int .u64 150])).run Tryz.prog w=.ok (some (135,a,150)) w:=by kernel_rfl
theorem zL (a:Addr)(w:World)(es:Array Event):(ReflectliteValue.parts (.agg #[.pointer (some ⟨9,135,none⟩),.pointer (some a),.int .u64 150])).events Tryz.prog w es=es:=by kernel_rfl
theorem zM (a p:Addr)(W:World)(es:Array Event)(ha:W.cell? a=some (.pointer (some p))):
  (ReflectliteValue.method (ReflectliteValue.valueError "reflectlite.Value.IsNil" 0) ReflectliteValue.isNil #[.agg #[.pointer (some ⟨9,135,none⟩),.pointer (some a),.int .u64 150]]).run Tryz.prog W=.ok (.bool false) W/\
  (ReflectliteValue.method (ReflectliteValue.valueError "reflectlite.Value.IsNil" 0) ReflectliteValue.isNil #[.agg #[.pointer (some ⟨9,135,none⟩),.pointer (some a),.int .u64 150]]).events Tryz.prog W es=es.push ⟨.cell a,false,false⟩:=by
 rw[EB];constructor
 .simp only[Sem.run_bind,jH,Result.andThen];simp[ReflectliteValue.isNil,loadVar,isAgg,underlying,Tryz.underlying135,ha,Result.andThen]
 .simp only[Sem.events_bind,jH,zL,Result.evThen_ok];simp[ReflectliteValue.isNil,loadVar,isAgg,underlying,Tryz.underlying135,ha,Result.evThen,go_sem];rfl
theorem tN {P:Program}{a:Act}{o:Oper}{f:FuncId}{fn:Func}{e:Array Value->Sem Value}{xs:Array Operand}{ats:Array TypeId}{ys:Array Value}{v:Value}{b:Nat}{W:World}(hop:o.op=.call {callee:=.value (.func f),args:=xs,argTypes:=ats})
  (hf:P.funcs[f]?=some fn)(hname:(fn.name== "runtime.NumGoroutine")=false)(hb:fn.body.isNone=true)(hn:Extern.findNext fn=none)(he:Extern.find fn=some e)(hx:xs.map a.eval=ys)
  (h:∀es,(e ys).run P W=.ok v W/\(e ys).events P W es=es.push ⟨.cell ⟨b,0,none⟩,false,false⟩):
  (execOp a.eval o).run P W=.ok (.value v) W/\∀e∈(execOp a.eval o).events P W #[],nf e\/e=⟨.cell ⟨b,0,none⟩,false,false⟩:=by
 rw[execOp_call_func (a:=a) hop,hx];refine⟨by rw[run_callFunc_extern hf hname hb hn he,(h #[]).1];rfl,λx hx=>?_⟩;rw[events_callFunc_extern hf hname hb hn he,(h _).2]at hx;simp only[Array.mem_push,Array.not_mem_empty,false_or]at hx;rcases hx with rfl|rfl
 .exact .inl ⟨f,rfl⟩
 .exact .inr rfl
theorem CH {L:List (Nat×Array Value×TypeId)}{A:Prop}{es:Array Event}{B:Nat}{cs:Array Value}{t:TypeId}(h:A/\∀e∈es,nf e\/e=⟨.cell ⟨B,0,none⟩,false,false⟩)(hm:(B,cs,t)∈L):
  A/\∀e∈es,nf e\/∃p∈L,∃j,e=⟨.cell ⟨p.1,j,none⟩,false,false⟩:=⟨h.1,λe he=>(h.2 e he).imp id λx=>⟨_,hm,0,x⟩⟩
theorem wI {P:Program}{a:Act}{o:Oper}{x:Operand}{T:TypeId}{B:Nat}{v:Value}{ty:TypeId}{W:World}(hop:o.op=.load T x)(ha:a.eval x=.pointer (some ⟨B,0,none⟩))(hT:∀w,(isAgg T).run P w=.ok false w)(hE:∀w es,(isAgg T).events P w es=es)(hg:W.heap[B]?=some (.cells #[v] ty (0,0))):
  (execOp a.eval o).run P W=.ok (.value v) W/\∀e∈(execOp a.eval o).events P W #[],∃j,e=⟨.cell ⟨B,j,none⟩,false,false⟩:=by
 have c0:W.cell? ⟨B,0,none⟩=some v:=by simp[World.cell?,hg]
 refine⟨?_,λe he=>?_⟩
 .unfold execOp;simp only[hop,ha];simp[Instr.loadAt,Instr.sureAddr,loadVar,hT,c0,Result.andThen,go_sem]
 .unfold execOp at he;simp only[hop,ha]at he;simp[Instr.loadAt,Instr.sureAddr,loadVar,hT,hE,c0,Result.evThen,go_sem]at he;exact⟨0,he⟩
theorem oB (w:World):(Rtype.elem? 135).run Tryz.prog w=.ok (some 128) w:=by kernel_rfl
theorem xX (w:World)(es:Array Event):(Rtype.elem? 135).events Tryz.prog w es=es:=by kernel_rfl
theorem Dp (p:Addr)(w:World):(ReflectliteValue.mk 128 p ReflectliteValue.flagAddr).run Tryz.prog w=.ok (.agg #[.pointer (some ⟨9,128,none⟩),.pointer (some p),.int .u64 409]) w:=by kernel_rfl
theorem Bt (p:Addr)(w:World)(es:Array Event):(ReflectliteValue.mk 128 p ReflectliteValue.flagAddr).events Tryz.prog w es=es:=by kernel_rfl
theorem Bu (a p:Addr)(W:World)(es:Array Event)(ha:W.cell? a=some (.pointer (some p))):
  (ReflectliteValue.method (ReflectliteValue.valueError "reflectlite.Value.Elem" 0) ReflectliteValue.elem #[.agg #[.pointer (some ⟨9,135,none⟩),.pointer (some a),.int .u64 150]]).run Tryz.prog W=.ok (.agg #[.pointer (some ⟨9,128,none⟩),.pointer (some p),.int .u64 409]) W/\
  (ReflectliteValue.method (ReflectliteValue.valueError "reflectlite.Value.Elem" 0) ReflectliteValue.elem #[.agg #[.pointer (some ⟨9,135,none⟩),.pointer (some a),.int .u64 150]]).events Tryz.prog W es=es.push ⟨.cell a,false,false⟩:=by
 rw[EB];constructor
 .simp only[Sem.run_bind,jH,Result.andThen];simp[ReflectliteValue.elem,loadVar,isAgg,underlying,Tryz.underlying135,ha,Result.andThen,oB,Dp]
 .simp only[Sem.events_bind,jH,zL,Result.evThen_ok];simp[ReflectliteValue.elem,loadVar,isAgg,underlying,Tryz.underlying135,ha,Result.evThen,oB,Bt,xX,go_sem];rfl
theorem qo (a:Addr)(w:World):(ReflectliteValue.parts (.agg #[.pointer (some ⟨9,128,none⟩),.pointer (some a),.int .u64 409])).run Tryz.prog w=.ok (some (128,a,409)) w:=by kernel_rfl
theorem qp (a:Addr)(w:World):(ReflectliteValue.parts (.agg #[.pointer (some ⟨9,128,none⟩),.pointer (some a),.int .u64 153])).run Tryz.prog w=.ok (some (128,a,153)) w:=by kernel_rfl
theorem Dq (a:Addr)(w:World)(es:Array Event):(ReflectliteValue.parts (.agg #[.pointer (some ⟨9,128,none⟩),.pointer (some a),.int .u64 409])).events Tryz.prog w es=es:=by kernel_rfl
theorem Ds (a:Addr)(w:World)(es:Array Event):(ReflectliteValue.parts (.agg #[.pointer (some ⟨9,128,none⟩),.pointer (some a),.int .u64 153])).events Tryz.prog w es=es:=by kernel_rfl
theorem qq (w:World):(Rtype.directlyAssignable 128 128).run Tryz.prog w=.ok true w:=by kernel_rfl
theorem tO (w:World)(es:Array Event):(Rtype.directlyAssignable 128 128).events Tryz.prog w es=es:=by kernel_rfl
theorem tP (w:World):(sizeOf 128).run Tryz.prog w=.ok 1 w:=by kernel_rfl
theorem xY (w:World)(es:Array Event):(sizeOf 128).events Tryz.prog w es=es:=by kernel_rfl
theorem Dt (ta b:Addr)(c:Int)(old:Value)(W:World)(es:Array Event)(hb:W.cell? b=some (.int .i64 c))(ht:W.cell? ta=some old)(hf:W.frozen? ta=false):
  (ReflectliteValue.set #[.agg #[.pointer (some ⟨9,128,none⟩),.pointer (some ta),.int .u64 409],.agg #[.pointer (some ⟨9,128,none⟩),.pointer (some b),.int .u64 153]]).run Tryz.prog W=.ok (.tuple #[]) (W.setCell ta (.int .i64 c))/\
  (ReflectliteValue.set #[.agg #[.pointer (some ⟨9,128,none⟩),.pointer (some ta),.int .u64 409],.agg #[.pointer (some ⟨9,128,none⟩),.pointer (some b),.int .u64 153]]).events Tryz.prog W es=(es.push ⟨.cell b,false,false⟩).push ⟨.cell ta,true,false⟩:=by
 delta ReflectliteValue.set ReflectliteValue.set.match_3
 rw[dif_pos (by rfl)];dsimp only[Array.getLit,List.getElem_toArray,List.getElem_cons_zero,List.getElem_cons_succ];have hl:=run_loadCells_list (P:=Tryz.prog) (w:=W) b [.int .i64 c] (λj v hv=>by
  match j,hv with
  |0,hv=>simp at hv;subst hv;simpa[Addr.add]using hb)
 simp only[List.length_cons,List.length_nil,Nat.zero_add]at hl;constructor
 .simp only[Sem.run_bind,qo,qp,Result.andThen];simp[ReflectliteValue.flagAddr,loadVar,isAgg,underlying,Tryz.underlying128,hl,Result.andThen,qq,tP,storeVar,Value.cells,storeCells,Addr.add];rw[run_store Tryz.prog W ta _ _ (by rfl)];simp[ht,hf]
 .simp only[Sem.events_bind,qo,qp,Dq,Ds,Result.evThen_ok];simp[ReflectliteValue.flagAddr,loadVar,isAgg,underlying,Tryz.underlying128,hl,Result.evThen,Result.andThen,qq,tO,tP,xY,storeVar,Value.cells,storeCells,Addr.add,loadCells,go_sem,ht,hf,hb];rfl
theorem CS.put1 {E2 M:Nat->Prop}{Fd W:World}{L:List (Nat×Array Value×TypeId)}{B:Nat}{x:Value}{t:TypeId}(h:CS E2 Fd L M W)(hm:(B,#[x],t)∈L)(hB:Fd.heap.size<=B)(y:Value):CS E2 Fd [(B,#[y],t)] M (W.setCell ⟨B,0,none⟩ y):=by
 have z:=gN W ⟨B,0,none⟩ y;refine⟨h.own,h.keep.trans ⟨λb hb=>?_,by rw[z];exact Gm _,rfl,rfl⟩,λb hb=>by rw[z];exact h.lt b hb,h.new,h.lt0,λp hp=>?_⟩
 .rw[dG,if_neg (λe=>by have:=h.lt0 b hb;simp only at e;omega)]
 .obtain rfl:=List.mem_singleton.1 hp;refine⟨(h.at_ _ hm).1,?_⟩;rw[dG,if_pos rfl,(h.at_ _ hm).2];simp
theorem Bw {P:Program}{a:Act}{o:Oper}{f:FuncId}{fn:Func}{e:Array Value->Sem Value}{xs:Array Operand}{ats:Array TypeId}{ys:Array Value}{v y:Value}{b ta:Addr}{W:World}(hop:o.op=.call {callee:=.value (.func f),args:=xs,argTypes:=ats})
  (hf:P.funcs[f]?=some fn)(hname:(fn.name== "runtime.NumGoroutine")=false)(hb:fn.body.isNone=true)(hn:Extern.findNext fn=none)(he:Extern.find fn=some e)(hx:xs.map a.eval=ys)
  (h:∀es,(e ys).run P W=.ok v (W.setCell ta y)/\(e ys).events P W es=(es.push ⟨.cell b,false,false⟩).push ⟨.cell ta,true,false⟩):
  (execOp a.eval o).run P W=.ok (.value v) (W.setCell ta y)/\∀e∈(execOp a.eval o).events P W #[],nf e\/e=⟨.cell b,false,false⟩\/e=⟨.cell ta,true,false⟩:=by
 rw[execOp_call_func (a:=a) hop,hx];refine⟨by rw[run_callFunc_extern hf hname hb hn he,(h #[]).1];rfl,λx hx=>?_⟩;rw[events_callFunc_extern hf hname hb hn he,(h _).2]at hx;simp only[Array.mem_push,Array.not_mem_empty,false_or]at hx;rcases hx with(rfl|rfl)|rfl
 .exact .inl ⟨f,rfl⟩
 .exact .inr (.inl rfl)
 .exact .inr (.inr rfl)
theorem ET.sets {P:Program}{m:Bool}{X:Event->Prop}{Stop:(Nat->Prop)->Goroutine->World->Prop}{M E2:Nat->Prop}{W Fd:World}{L:List (Nat×Array Value×TypeId)}{b:Frame}{a:Act}{k:List Item}{cs:List Frame}{ops:Array Oper}{i:Nat}{rest:List Nat}{o:Oper}
  {B C:Nat}{x z y:Value}{t u:TypeId}(v:Value)(ho:ops[i]?=some o)(hw:Region.wanted o (yielded ops a.tmps)=true)(hk:b.kind≠.early)(h:CS E2 Fd L M W)(hm:(B,#[x],t)∈L)(hc:(C,#[z],u)∈L)(hB:Fd.heap.size<=B)
  (hr:∀W,CS E2 Fd L M W->(execOp a.eval o).run P W=.ok (.value v) (W.setCell ⟨B,0,Option.none⟩ y)/\∀e∈(execOp a.eval o).events P W #[],nf e\/e=⟨.cell ⟨C,0,Option.none⟩,false,false⟩\/e=⟨.cell ⟨B,0,Option.none⟩,true,false⟩)
  (n:∀W',CS E2 Fd [(B,#[y],t)] M W'->ET P m (λ_=>True) X (λ_=>False) Stop M (G (b.at (a.put o.dst v) (.inRegion ops rest::k)) cs) W'):ET P m (λ_=>True) X (λ_=>False) Stop M (G (b.at a (.inRegion ops (i::rest)::k)) cs) W:=
 ET.oper ho hw hk λFe FO _=>by
  have h':=h.rely FO;have q:=hr Fe h';refine⟨v,_,q.1,bT.set y (h'.at_ _ hm).1 λe he=>?_,?_⟩
  .rcases q.2 e (mem_listed he)with x|rfl|rfl
   .exact x.evp
   .exact dq (h'.at_ _ hc).1
   .exact dq (h'.at_ _ hm).1
  .rw[show grow M Fe (Fe.setCell ⟨B,0,Option.none⟩ y)=M from aW (gN _ _ _)];exact n _ (h'.put1 hm hB y)
theorem CS.less {E2 M:Nat->Prop}{Fd W:World}{L L':List (Nat×Array Value×TypeId)}(h:CS E2 Fd L M W)(hL:∀p∈L',p∈L):CS E2 Fd L' M W:=⟨h.own,h.keep,h.lt,h.new,h.lt0,λp hp=>h.at_ p (hL p hp)⟩
theorem CS.thaw {E2 M:Nat->Prop}{Fd W:World}{L:List (Nat×Array Value×TypeId)}{B:Nat}{cs:Array Value}{t:TypeId}(h:CS E2 Fd L M W)(hm:(B,cs,t)∈L):W.frozen? ⟨B,0,none⟩=false:=by
 unfold World.frozen?;rw[(h.at_ _ hm).2];simp
noncomputable def bodyC:Code:=Tryz.f65.body.getD .skip
variable {r0:Frame}{rest:List Frame}{M:Nat->Prop}{W:World}
theorem BA (c:Int)(h0:CS M W [(0,#[.iface 175 (.agg #[.pointer (some ⟨9,92,none⟩)])],155)] M W):
  ET Tryz.prog true (λ_=>True) Ph.noX (λ_=>False) (λM' g W'=>g=G (r0.finish (.int .i64 c)) rest/\CS M W [] M' W') M
   (G ((base 65).at ⟨#[.iface 128 (.agg #[.int .i64 c]),undef,undef,undef,undef,undef,undef,undef,undef],[]⟩ [.code bodyC]) (r0::rest)) W:=by
 simp only[bodyC,Tryz.f65,Option.getD_some];apply ET.sq;apply ET.rg;refine ET.pure (.int .i64 0) rfl rfl (by k_ne) (λ_=>by kernel_rfl) (λ_=>by kernel_rfl) ?_;walk_nrm
 apply ET.rn;apply ET.sq;apply ET.rg;refine ET.makes (λB=>.pointer (some ⟨B,0,none⟩)) #[.int .i64 0] 128 #[] rfl rfl (by k_ne) h0 (λ_=>by kernel_rfl) (λ_=>by kernel_rfl) (by simp) λbr E3 E7 h1 o1 l1=>?_
 walk_nrm
 apply ET.rn;apply ET.sq;apply ET.sq;apply ET.rg;refine ET.pure (.iface 128 (.agg #[.int .i64 c])) rfl rfl (by k_ne) (λ_=>by kernel_rfl) (λ_=>by kernel_rfl) ?_;walk_nrm
 refine ET.pure (.iface 135 (.pointer (some ⟨br,0,none⟩))) rfl rfl (by k_ne) (λ_=>by kernel_rfl) (λ_=>by kernel_rfl) ?_;walk_nrm
 (refine ET.k rfl (λ_ _ _=>goes_call rfl rfl (by k_ne) rfl Tryz.func92 (by kernel_rfl) rfl ⟨⟨rfl,λe he=>(by simp at he)⟩,?_⟩);walk_nrmf Tryz.f92)
 apply ET.sq;apply ET.rg;refine ET.pure (.bool false) rfl rfl (by k_ne) (λ_=>by kernel_rfl) (λ_=>by kernel_rfl) ?_;walk_nrm
 apply ET.rn;apply ET.sq;apply ET.sq;apply ET.rg;refine ET.pure (.iface 128 (.agg #[.int .i64 c])) rfl rfl (by k_ne) (λ_=>by kernel_rfl) (λ_=>by kernel_rfl) ?_;walk_nrm
 refine ET.pure (.bool false) rfl rfl (by k_ne) (λ_=>by kernel_rfl) (λ_=>by kernel_rfl) ?_;walk_nrm
 apply ET.rn;refine ET.condF rfl ?_;apply ET.sk;apply ET.sq;apply ET.sq;apply ET.rg;refine ET.pure (.iface 135 (.pointer (some ⟨br,0,none⟩))) rfl rfl (by k_ne) (λ_=>by kernel_rfl) (λ_=>by kernel_rfl) ?_;walk_nrm
 refine ET.pure (.bool false) rfl rfl (by k_ne) (λ_=>by kernel_rfl) (λ_=>by kernel_rfl) ?_;walk_nrm
 apply ET.rn;refine ET.condF rfl ?_;apply ET.sk;apply ET.sq;apply ET.rg;refine ET.pure (.iface 135 (.pointer (some ⟨br,0,none⟩))) rfl rfl (by k_ne) (λ_=>by kernel_rfl) (λ_=>by kernel_rfl) ?_;walk_nrm
 refine ET.makes (λB=>.agg #[.pointer (some ⟨9,135,none⟩),.pointer (some ⟨B,0,none⟩),.int .u64 150]) #[.pointer (some ⟨br,0,none⟩)] 135 #[⟨.mark (.extern 113),false,true⟩] rfl rfl (by k_ne) h1 (λ_=>by kernel_rfl) (λ_=>by kernel_rfl) (by simp[nf]) λbv E4 E8 h2 o2 l2=>?_
 walk_nrm
 refine ET.makes (λB=>.pointer (some ⟨B,0,none⟩)) #[.pointer none,.pointer none,.int .u64 0] 152 #[] rfl rfl (by k_ne) h2 (λ_=>by kernel_rfl) (λ_=>by kernel_rfl) (by simp) λbx E5 E9 h3 o3 l3=>?_
 walk_nrm
 refine ET.writes #[.pointer (some ⟨9,135,none⟩),.pointer (some ⟨bv,0,none⟩),.int .u64 150] rfl rfl (by k_ne) h3 o3 l3 (λW hW=>Br rfl rfl rfl hW rfl) λV4 h4=>?_
 walk_nrm
 apply ET.rn;apply ET.sq;apply ET.rg;refine ET.looks (.agg #[.pointer (some ⟨9,135,none⟩),.pointer (some ⟨bv,0,none⟩),.int .u64 150]) rfl rfl (by k_ne) h4 (λW hW=>DP (nt rfl rfl) hW (.head _)) ?_;walk_nrm
 refine ET.ext (.iface 175 (.agg #[.pointer (some ⟨9,135,none⟩)])) 114 rfl rfl (by k_ne) (λ_=>by kernel_rfl) (λ_=>by kernel_rfl) ?_;walk_nrm
 refine ET.pure (.iface 175 (.agg #[.pointer (some ⟨9,135,none⟩)])) rfl rfl (by k_ne) (λ_=>by kernel_rfl) (λ_=>by kernel_rfl) ?_;walk_nrm
 apply ET.rn;apply ET.sq;apply ET.sq;apply ET.rg;refine ET.pure (.iface 175 (.agg #[.pointer (some ⟨9,135,none⟩)])) rfl rfl (by k_ne) (λ_=>by kernel_rfl) (λ_=>by kernel_rfl) ?_;walk_nrm
 refine ET.ext (.int .u8 22) 268 rfl rfl (by k_ne) (λ_=>by kernel_rfl) (λ_=>by kernel_rfl) ?_;walk_nrm
 refine ET.pure (.bool false) rfl rfl (by k_ne) (λ_=>by kernel_rfl) (λ_=>by kernel_rfl) ?_;walk_nrm
 refine ET.pure (.bool false) rfl rfl (by k_ne) (λ_=>by kernel_rfl) (λ_=>by kernel_rfl) ?_;walk_nrm
 refine ET.looks (.agg #[.pointer (some ⟨9,135,none⟩),.pointer (some ⟨bv,0,none⟩),.int .u64 150]) rfl rfl (by k_ne) h4 (λW hW=>DP (nt rfl rfl) hW (.head _)) ?_;walk_nrm
 refine ET.looks (.bool false) rfl rfl (by k_ne) h4 (λW hW=>CH (tN (e:=ReflectliteValue.method (ReflectliteValue.valueError "reflectlite.Value.IsNil" 0) ReflectliteValue.isNil) rfl Tryz.func115 (by kernel_rfl) (by kernel_rfl) (by kernel_rfl) (by kernel_rfl) (by simp[Act.eval]) (λes=>zM ⟨bv,0,none⟩ ⟨br,0,none⟩ W es (hW.cell (.tail _ (.head _)) rfl))) (.tail _ (.head _))) ?_;walk_nrm
 refine ET.pure (.bool false) rfl rfl (by k_ne) (λ_=>by kernel_rfl) (λ_=>by kernel_rfl) ?_;walk_nrm
 apply ET.rn;refine ET.condF rfl ?_;apply ET.sk;apply ET.sq;apply ET.rg;refine ET.pure (.iface 175 (.agg #[.pointer (some ⟨9,135,none⟩)])) rfl rfl (by k_ne) (λ_=>by kernel_rfl) (λ_=>by kernel_rfl) ?_;walk_nrm
 refine ET.ext (.iface 175 (.agg #[.pointer (some ⟨9,128,none⟩)])) 296 rfl rfl (by k_ne) (λ_=>by kernel_rfl) (λ_=>by kernel_rfl) ?_;walk_nrm
 refine ET.pure (.iface 175 (.agg #[.pointer (some ⟨9,128,none⟩)])) rfl rfl (by k_ne) (λ_=>by kernel_rfl) (λ_=>by kernel_rfl) ?_;walk_nrm
 apply ET.rn;apply ET.sq;apply ET.sq;apply ET.rg;refine ET.pure (.iface 175 (.agg #[.pointer (some ⟨9,128,none⟩)])) rfl rfl (by k_ne) (λ_=>by kernel_rfl) (λ_=>by kernel_rfl) ?_;walk_nrm
 refine ET.ext (.int .u8 25) 268 rfl rfl (by k_ne) (λ_=>by kernel_rfl) (λ_=>by kernel_rfl) ?_;walk_nrm
 refine ET.pure (.bool true) rfl rfl (by k_ne) (λ_=>by kernel_rfl) (λ_=>by kernel_rfl) ?_;walk_nrm
 refine ET.pure (.bool true) rfl rfl (by k_ne) (λ_=>by kernel_rfl) (λ_=>by kernel_rfl) ?_;walk_nrm
 refine ET.pure (.iface 175 (.agg #[.pointer (some ⟨9,128,none⟩)])) rfl rfl (by k_ne) (λ_=>by kernel_rfl) (λ_=>by kernel_rfl) ?_;walk_nrm
 refine ET.looks (.iface 175 (.agg #[.pointer (some ⟨9,92,none⟩)])) rfl rfl (by k_ne) h4 (λW hW=>DP (wI rfl rfl (λ_=>by kernel_rfl) (λ_ _=>by kernel_rfl)) hW (.tail _ (.tail _ (.tail _ (.head _))))) ?_;walk_nrm
 refine ET.ext (.bool true) 297 rfl rfl (by k_ne) (λ_=>by kernel_rfl) (λ_=>by kernel_rfl) ?_;walk_nrm
 refine ET.pure (.bool false) rfl rfl (by k_ne) (λ_=>by kernel_rfl) (λ_=>by kernel_rfl) ?_;walk_nrm
 refine ET.pure (.bool false) rfl rfl (by k_ne) (λ_=>by kernel_rfl) (λ_=>by kernel_rfl) ?_;walk_nrm
 apply ET.rn;refine ET.condF rfl ?_;apply ET.sk;apply ET.sq;apply ET.rg;refine ET.pure (.iface 128 (.agg #[.int .i64 c])) rfl rfl (by k_ne) (λ_=>by kernel_rfl) (λ_=>by kernel_rfl) ?_;walk_nrm
 refine ET.pure (.iface 135 (.pointer (some ⟨br,0,none⟩))) rfl rfl (by k_ne) (λ_=>by kernel_rfl) (λ_=>by kernel_rfl) ?_;walk_nrm
 refine ET.looks (.agg #[.pointer (some ⟨9,135,none⟩),.pointer (some ⟨bv,0,none⟩),.int .u64 150]) rfl rfl (by k_ne) h4 (λW hW=>DP (nt rfl rfl) hW (.head _)) ?_;walk_nrm
 refine ET.pure (.iface 175 (.agg #[.pointer (some ⟨9,128,none⟩)])) rfl rfl (by k_ne) (λ_=>by kernel_rfl) (λ_=>by kernel_rfl) ?_;walk_nrm
 (refine ET.k rfl (λ_ _ _=>goes_call rfl rfl (by k_ne) rfl Tryz.func116 (by kernel_rfl) rfl ⟨⟨rfl,λe he=>(by simp at he)⟩,?_⟩);walk_nrmf Tryz.f116)
 apply ET.sq;apply ET.rg;refine ET.makes (λB=>.pointer (some ⟨B,0,none⟩)) #[.pointer (some ⟨9,135,none⟩),.pointer (some ⟨bv,0,none⟩),.int .u64 150] 152 #[] rfl rfl (by k_ne) h4 (λ_=>by kernel_rfl) (λ_=>by kernel_rfl) (by simp) λbb E6 V5 h5 o5 l5=>?_
 walk_nrm
 refine ET.pure (.bool false) rfl rfl (by k_ne) (λ_=>by kernel_rfl) (λ_=>by kernel_rfl) ?_;walk_nrm
 apply ET.rn;refine ET.c (λ_=>stepG_block) ?_;refine ET.c (λ_=>stepG_loop) ?_;refine ET.c (λ_=>stepG_block) ?_;apply ET.sq;apply ET.sq;apply ET.rg;refine ET.pure (.iface 128 (.agg #[.int .i64 c])) rfl rfl (by k_ne) (λ_=>by kernel_rfl) (λ_=>by kernel_rfl) ?_;walk_nrm
 refine ET.ext (.iface 175 (.agg #[.pointer (some ⟨9,128,none⟩)])) 133 rfl rfl (by k_ne) (λ_=>by kernel_rfl) (λ_=>by kernel_rfl) ?_;walk_nrm
 refine ET.pure (.iface 175 (.agg #[.pointer (some ⟨9,128,none⟩)])) rfl rfl (by k_ne) (λ_=>by kernel_rfl) (λ_=>by kernel_rfl) ?_;walk_nrm
 refine ET.ext (.bool true) 294 rfl rfl (by k_ne) (λ_=>by kernel_rfl) (λ_=>by kernel_rfl) ?_;walk_nrm
 apply ET.rn;refine ET.condT rfl ?_;apply ET.sq;apply ET.rg;refine ET.looks (.agg #[.pointer (some ⟨9,135,none⟩),.pointer (some ⟨bv,0,none⟩),.int .u64 150]) rfl rfl (by k_ne) h5 (λW hW=>DP (nt rfl rfl) hW (.head _)) ?_;walk_nrm
 refine ET.looks (.agg #[.pointer (some ⟨9,128,none⟩),.pointer (some ⟨br,0,none⟩),.int .u64 409]) rfl rfl (by k_ne) h5 (λW hW=>CH (tN (e:=ReflectliteValue.method (ReflectliteValue.valueError "reflectlite.Value.Elem" 0) ReflectliteValue.elem) rfl Tryz.func134 (by kernel_rfl) (by kernel_rfl) (by kernel_rfl) (by kernel_rfl) (by simp[Act.eval]) (λes=>Bu ⟨bv,0,none⟩ ⟨br,0,none⟩ W es (hW.cell (.tail _ (.tail _ (.head _))) rfl))) (.tail _ (.tail _ (.head _)))) ?_;walk_nrm
 refine ET.pure (.iface 128 (.agg #[.int .i64 c])) rfl rfl (by k_ne) (λ_=>by kernel_rfl) (λ_=>by kernel_rfl) ?_;walk_nrm
 refine ET.makes (λB=>.agg #[.pointer (some ⟨9,128,none⟩),.pointer (some ⟨B,0,none⟩),.int .u64 153]) #[.int .i64 c] 128 #[⟨.mark (.extern 113),false,true⟩] rfl rfl (by k_ne) h5 (λ_=>by kernel_rfl) (λ_=>by kernel_rfl) (by simp[nf]) λbe M6 Fa h6 o6 l6=>?_
 walk_nrm
 refine ET.sets (.tuple #[]) rfl rfl (by k_ne) h6 (.tail _ (.tail _ (.tail _ (.tail _ (.head _))))) (.head _) o1 (λW hW=>Bw (e:=ReflectliteValue.set) rfl Tryz.func135 (by kernel_rfl) (by kernel_rfl) (by kernel_rfl) (by kernel_rfl) (by simp[Act.eval]) (λes=>Dt ⟨br,0,none⟩ ⟨be,0,none⟩ c _ W es (hW.cell (.head _) rfl) (hW.cell (.tail _ (.tail _ (.tail _ (.tail _ (.head _))))) rfl) (hW.thaw (.tail _ (.tail _ (.tail _ (.tail _ (.head _)))))))) λFb h7=>?_
 walk_nrm
 apply ET.rn;apply ET.sq;apply ET.rg;refine ET.pure (.bool true) rfl rfl (by k_ne) (λ_=>by kernel_rfl) (λ_=>by kernel_rfl) ?_;walk_nrm
 apply ET.rn;apply ET.rt
 (refine ET.k rfl (λ_ _ _=>goes_leave1 rfl rfl Tryz.func116 rfl ⟨⟨rfl,λe he=>(by simp at he)⟩,?_⟩);walk_nrm)
 refine ET.pure (.bool true) rfl rfl (by k_ne) (λ_=>by kernel_rfl) (λ_=>by kernel_rfl) ?_;walk_nrm
 apply ET.rn;apply ET.rt
 (refine ET.k rfl (λ_ _ _=>goes_leave1 rfl rfl Tryz.func92 rfl ⟨⟨rfl,λe he=>(by simp at he)⟩,?_⟩);walk_nrm)
 apply ET.rn;refine ET.condT rfl ?_;apply ET.sq;apply ET.rg;refine ET.pure (.pointer (some ⟨br,0,none⟩)) rfl rfl (by k_ne) (λ_=>by kernel_rfl) (λ_=>by kernel_rfl) ?_;walk_nrm
 refine ET.looks (.int .i64 c) rfl rfl (by k_ne) h7 (λW hW=>DP (wI rfl rfl (λ_=>by kernel_rfl) (λ_ _=>by kernel_rfl)) hW (.head _)) ?_;walk_nrm
 refine ET.pure (.int .i64 c) rfl rfl (by k_ne) (λ_=>by kernel_rfl) (λ_=>by kernel_rfl) ?_;walk_nrm
 apply ET.rn;apply ET.rt;refine ET.leaveE (.int .i64 c) rfl rfl Tryz.func65 (λFe _ _=>⟨by kernel_rfl,λe he=>?_⟩) ?_
 .rw[show(results Tryz.f65 _).events Tryz.prog Fe #[]=#[] by kernel_rfl]at he;simp at he
 exact ET.stop λW' k _=>⟨rfl,(h7.rely k).less (by simp)⟩
theorem BD (h0:CS M W [] M W):
  ET Tryz.prog true (λ_=>True) Ph.noX (λ_=>False) (λM' g W'=>g=G (r0.finish (.int .i64 0)) rest/\CS M W [] M' W') M
   (G ((base 65).at ⟨#[.nilIface,undef,undef,undef,undef,undef,undef,undef,undef],[]⟩ [.code bodyC]) (r0::rest)) W:=by
 simp only[bodyC,Tryz.f65,Option.getD_some];apply ET.sq;apply ET.rg;refine ET.pure (.int .i64 0) rfl rfl (by k_ne) (λ_=>by kernel_rfl) (λ_=>by kernel_rfl) ?_;walk_nrm
 apply ET.rn;apply ET.sq;apply ET.rg;refine ET.makes (λB=>.pointer (some ⟨B,0,none⟩)) #[.int .i64 0] 128 #[] rfl rfl (by k_ne) h0 (λ_=>by kernel_rfl) (λ_=>by kernel_rfl) (by simp) λbr E3 E7 h1 o1 l1=>?_
 walk_nrm
 apply ET.rn;apply ET.sq;apply ET.sq;apply ET.rg;refine ET.pure (.nilIface) rfl rfl (by k_ne) (λ_=>by kernel_rfl) (λ_=>by kernel_rfl) ?_;walk_nrm
 refine ET.pure (.iface 135 (.pointer (some ⟨br,0,none⟩))) rfl rfl (by k_ne) (λ_=>by kernel_rfl) (λ_=>by kernel_rfl) ?_;walk_nrm
 (refine ET.k rfl (λ_ _ _=>goes_call rfl rfl (by k_ne) rfl Tryz.func92 (by kernel_rfl) rfl ⟨⟨rfl,λe he=>(by simp at he)⟩,?_⟩);walk_nrmf Tryz.f92)
 apply ET.sq;apply ET.rg;refine ET.pure (.bool false) rfl rfl (by k_ne) (λ_=>by kernel_rfl) (λ_=>by kernel_rfl) ?_;walk_nrm
 apply ET.rn;apply ET.sq;apply ET.sq;apply ET.rg;refine ET.pure (.nilIface) rfl rfl (by k_ne) (λ_=>by kernel_rfl) (λ_=>by kernel_rfl) ?_;walk_nrm
 refine ET.pure (.bool true) rfl rfl (by k_ne) (λ_=>by kernel_rfl) (λ_=>by kernel_rfl) ?_;walk_nrm
 apply ET.rn;refine ET.condT rfl ?_;apply ET.sq;apply ET.rg;refine ET.pure (.bool false) rfl rfl (by k_ne) (λ_=>by kernel_rfl) (λ_=>by kernel_rfl) ?_;walk_nrm
 apply ET.rn;apply ET.rt
 (refine ET.k rfl (λ_ _ _=>goes_leave1 rfl rfl Tryz.func92 rfl ⟨⟨rfl,λe he=>(by simp at he)⟩,?_⟩);walk_nrm)
 apply ET.rn;refine ET.condF rfl ?_;apply ET.sk;apply ET.sq;apply ET.rg;refine ET.pure (.int .i64 0) rfl rfl (by k_ne) (λ_=>by kernel_rfl) (λ_=>by kernel_rfl) ?_;walk_nrm
 apply ET.rn;apply ET.rt;refine ET.leaveE (.int .i64 0) rfl rfl Tryz.func65 (λFe _ _=>⟨by kernel_rfl,λe he=>?_⟩) ?_
 .rw[show(results Tryz.f65 _).events Tryz.prog Fe #[]=#[] by kernel_rfl]at he;simp at he
 exact ET.stop λW' k _=>⟨rfl,(h1.rely k).less (by simp)⟩
