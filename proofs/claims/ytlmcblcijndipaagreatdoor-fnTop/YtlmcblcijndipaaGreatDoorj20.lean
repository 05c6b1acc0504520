import Derived.Test.YtlmcblcijndipaaGreatDoorj15
import Derived.Stop.Asserts
import Derived.RowKitTokens
import Derived.LaidEql
set_option linter.defProp false
set_option linter.unusedSimpArgs false
set_option linter.unusedVariables false
set_option maxHeartbeats 2000000
set_option maxRecDepth 100000
namespace Go.Proofs.YtlmcblcijndipaaGreatDoor
open Conc Conc.Lib ConcR.Gen Go Go.Conc Go.Conc.Lib Go.ConcR.Gen Go.Extern Go.Extern.Stop Go.RowKit Go.Stop RowKit
variable {Stop:(Nat->Prop)->Goroutine->World->Prop}{a:Act}{gs:Array Goroutine}{ops:Array Oper}{Yn:Array TypeId}{cs xs ys:Array Value}{e:Array Value->Sem Value}{m:Bool}{ok:Ctx}{X:Event->Prop}{c r0:Frame}{fn:Func}{f:FuncId}{L:List (Nat×Array Value×TypeId)}{rest:List Frame}{k:List Item}{an:Loc->Prop}{B Bs b bb bl bn i lc ln nb nc nn no r4 tb wg:Nat}{q:Nat->Nat}{S:Nat->Nat->Prop}{M fq gi:Nat->Prop}{gX:Nat->Value}{Is:Nat->aN->Prop}{o:Oper}{x:Operand}{sl:Option (Nat×Nat)}{la:Option Addr}{P P0:Program}{t ty:TypeId}{v v10 v9 y:Value}{W acF w:World}{lt:aN->aN->Bool}
section
variable [Gl]
structure J2 (P0:Program)(ok:Ctx)(M:Nat->Prop)(w:World)(la:Option Addr)(ln lc nb no nn:Nat)(gX:Nat->Value)(S:Nat->Nat->Prop)(Is:Nat->aN->Prop)(lt:aN->aN->Bool):Prop where
 V0:M nb
 fF:∀i,i<nn->w.cell? ⟨nb,no+i,none⟩=some (gX i)
 sm:∀i b,S i b->M b
 closed:∀i,i<nn->∀ah,aO (λb=>b=nb\/∃i,S i b) w ah->rm ok (S i) ah
 ME:∀i,i<nn->aw ok (rR<|S i) (.slice la ln lc) (.slice la ln lc)
 MF:∀i,i<nn->aw ok (rR<|S i) (gX i) (gX i)
 Pw:∀i,i<nn->∀(F:Nat->Prop) ah,aO (λb=>b=nb\/∃i,S i b) w ah->∀τ d,Calls P0 189 #[.slice la ln lc,gX i] (re (fu F ah) τ d) λe w'=>∃x:aN,e=.returned x.val/\Is i x/\iY w' (λb=>ah.heap.size<=b) x
 ren:∀i x a',Is i x->(x.a=none<->a'=none)->Is i {x with a:=a'}
 least:∀(V:World) (b:Nat) (xs:List aN) (z:Nat×Nat),xs.length<=1048576->V.heap[b]?=some (.cells (xs.flatMap aN.cells).toArray 177 z)->(∀x∈xs,eA V x.a x.n x.g/\x.n<=1048576)->
  Calls P0 160 #[.slice b xs.length xs.length,.func (.func 161) #[] #[]] V λe w'=>e=.returned (Jb.cV ⟨0,0,0,0,0,0,0,.nilFunc,gX,S,Is,lt,0⟩ xs).val/\Below V V w'
 TV:ok.aX 189=true/\ok.aX 160=true/\ok.fn 161=true
variable {rb:List Frame}{t:Trace}
omit [Gl] in
def dJ.split {V R:Nat->Prop}{a:Goroutine}(h:dJ P an V (λ_=>False) M gs a w t q)(hR:∀b,R b->M b):dJ P an V R (λb=>M b/\¬R b) gs a w t q:=
 ⟨h.main,h.quit,h.past,h.who,λb hb=>h.lt b<|.inl<|hb.elim And.left<|hR b,λb hb=>h.kw b<|.inl<|hb.elim And.left<|hR b,h.low,h.un,h.Md,λb hb=>⟨λx=>(h.vm b hb).1 x.1,λx=>(h.vm b hb).1<|hR b x⟩⟩
omit [Gl] in
def ve (J J':Jb)(h:J.lt=J'.lt)(xs:List aN):J.cV xs=J'.cV xs:=by
 have:J.pick=J'.pick:=by funext x y;simp[Jb.pick,h]
 cases xs with
 |nil=>rfl
 |cons x xs=>simp only[Jb.cV,this]
noncomputable def ph (J:Jb)(wg tb Bs nn Jn T:Nat):Ph:={P:=Tryz.prog,ty:=210,Wg:=wg,tk:=tb,Bs:=Bs,Ys:=177,wd:=4,n:=4,L:=nn,J:=Jn,iH:=T,Ur:=IY J,pl:=⟨0⟩}
omit [Gl] in
def WA (J:Jb)(wg tb Bs nn Jn T:Nat):(ph J wg tb Bs nn Jn T).jC:=by
 rintro seq vs M w w' ⟨x,h1,h2,h3,h4⟩ k;exact⟨x,h1,h2,h3.keep (λ_ h=>h) λa ha=>k.block _ (h3.blk a ha).2.1,h4⟩
def R3 (eL:dL P0 P0 ok)(hP:dL P0 Tryz.prog ok)(iA:∀f,ok.fn f=true->ok.aX f=true)(zp:jA P0 c)(hn:nn+4<4611686018427387904)
  (h:dJ Tryz.prog an (λb=>(False\/b=tb)\/b=wg) (λ_=>False) gi gs (G ((base 139).at ⟨#[.slice la ln lc,.slice (some ⟨nb,no,none⟩) nn nc,.pointer bl,.pointer bn,.pointer r4,.pointer tb,.pointer wg,.pointer bb,undef,v9,v10,.int .i64 4,.int .i64 0,ud,ud,ud,ud,ud,ud,ud,ud],[]⟩ [.code ll,.inLoop ll,.inBlock 0,.code iV]) rb) w t q)
  (hf:J2 P0 ok gi w la ln lc nb no nn gX S Is lt)(F0:Gl.n<=w)(ho:bl<bn/\bn<r4/\r4<tb/\tb<wg/\wg<Bs/\Bs<bb)(Tq:gi bl/\gi bn/\gi r4/\gi Bs/\gi bb)(Ru:nb<bl)(hSb:∀i b,S i b->b<bl)
  (cl:w.heap[bl]?=some (.cells #[.slice la ln lc] 23 (0,0)))(cn:w.heap[bn]?=some (.cells #[.slice (some ⟨nb,no,none⟩) nn nc] 179 (0,0)))
  (ct:w.heap[tb]?=some (.cells #[(0:Int)] 203 (0,0)))(cw:w.heap[wg]?=some (.cells #[.int .u64 0,.int .u32 0] 210 (0,0)))
  (cb:w.heap[bb]?=some (.cells #[.slice Bs 4 4] 211 (0,0)))(cB:∃cs,w.heap[Bs]?=some (.cells cs 177 (0,0))/\cs.size=16):
  ∃(J:Jb),J.lt=lt/\J.Is=Is/\J.bb=bb/\J.base=w.heap.size/\∃(p:Ph),p=ph J wg tb Bs nn gs.size t.size/\∃N jK w' kx t' a' qO px seq vs Mr,∃M' Ro0:Nat->Prop,runNT Tryz.prog N (crowd gs w sl) t=(.next<|crowd jK w' kx,t')/\
   p.Out an (p.Um (X7 J P0 p ok M' Ro0 w r4 (.slice la ln lc)<|.slice (some ⟨nb,no,none⟩) nn nc) (base 139) vk 0 [] [.code (fC iV)] rb) jK w' t' a' qO px seq vs Mr/\∀b,gi b->b≠Bs->M' b\/Ro0 b:=by
 let J:Jb:=⟨bl,bn,bb,nb,no,nc,tb,.slice la ln lc,gX,S,Is,lt,w.heap.size⟩
 let p:Ph:=ph J wg tb Bs nn gs.size t.size
 let R:Nat->Prop:=λb=>b=bl\/b=bn\/b=bb\/b=nb\/∃i,S i b
 let M':Nat->Prop:=λb=>(gi b/\¬R b)/\b≠Bs
 have hRM:∀b,R b->gi b:=by
  rintro b (rfl|rfl|rfl|rfl|⟨i,hs⟩)
  .exact Tq.1
  .exact Tq.2.1
  .exact Tq.2.2.2.2
  .exact hf.V0
  .exact hf.sm i b hs
 have Zy:∀b,(b=nb\/∃i,S i b)->R b:=λb hb=>.inr<|.inr<|.inr hb
 have hJ:mQ J P0 p ok R w:=⟨rfl,rfl,rfl,rfl,rfl,rfl,rfl,ac3 _,cl,cn,cb,.inl rfl,.inr<|.inl rfl,.inr<|.inr<|.inl rfl,.inr<|.inr<|.inr<|.inl rfl,hf.fF,λi b hs=>.inr<|.inr<|.inr<|.inr ⟨i,hs⟩,λi hi ah k=>hf.closed i hi ah<|k.mono Zy,hf.ME,hf.MF,λi hi F ah k τ d=>hf.Pw i hi F ah (k.mono Zy) τ d,hf.ren,λV b xs z h1 h2 h3=>by rw[ve J _ rfl];exact hf.least V b xs z h1 h2 h3,hf.TV⟩;have DD:∀b,p.Sp b->¬M' b/\¬R b:=by
  rintro b (e|e|e)
  .rw[show b=wg from e];have hv:=(h.vm wg<|.inr rfl).1;exact⟨λx=>hv x.1.1,λx=>hv<|hRM _ x⟩
  .rw[show b=tb from e];have hv:=(h.vm tb<|.inl<|.inr rfl).1;exact⟨λx=>hv x.1.1,λx=>hv<|hRM _ x⟩
  .rw[show b=Bs from e];refine⟨λx=>x.2 rfl,?_⟩;show¬(Bs=bl\/Bs=bn\/Bs=bb\/Bs=nb\/∃i,S i Bs);rintro(x|x|x|x|⟨i,x⟩)
   .omega
   .omega
   .omega
   .omega
   .have:=hSb i _ x;omega
 have GQ:∀b,p.Sp b->b<w:=by
  rintro b (e|e|e)
  .rw[show b=wg from e];exact h.Md wg<|.inr rfl
  .rw[show b=tb from e];exact h.Md tb<|.inl<|.inr rfl
  .rw[show b=Bs from e];exact h.lt Bs<|.inl Tq.2.2.2.1
 have Kv:BT J P0 p ok M' R w R M' w:=⟨hJ,λb x=>x,aO.refl _ _,λb hb=>⟨(DD b hb).1,(DD b hb).2,GQ b hb⟩,λb hb=>h.lt b<|.inl<|hb.elim (λx=>x.1.1)<|hRM b,λb hb=>hb.1.2,F0,by show wg≠Bs;omega⟩;have hs:=O6 (J:=J) (p:=p) (M':=M') (Ro0:=R) (Wst:=w) (cs:=rb) (r4:=r4) (t0:=.slice la ln lc) (t1:=.slice (some ⟨nb,no,none⟩) nn nc) eL hP iA zp (show nn<4611686018427387904 by omega) rfl rfl 4 0 undef v9 v10 undef undef undef undef undef undef undef undef R M' w rfl Kv;have gO:1<=gs.size:=(ac5.1 h.main).1;have hG:p.Geo an:=⟨by show wg≠tb;omega,by show wg≠Bs;omega,by show tb≠Bs;omega,λa ha=>h.kw Bs (.inl Tq.2.2.2.1) (.cell a) ha,gO⟩;let⟨N,jK,w',kx,t',a',qO,px,seq,vs,Mr,eb,Co⟩:=Ph.phase (p:=p) (sl:=sl) (M':=M') (Fin:=p.Um (X7 J P0 p ok M' R w r4 (.slice la ln lc)<|.slice (some ⟨nb,no,none⟩) nn nc) (base 139) vk 0 [] [.code (fC iV)] rb)
  (WA J wg tb Bs nn gs.size t.size) hG (by show 4<2147483647;omega) (by show 1<=4;omega) (show nn+4<4611686018427387904 from hn) (by rintro _ _ _ _ ⟨T,acG,rfl,_⟩;rfl)
  (λRo M g W hA _=>Ph.waitRound (p:=p) (L:=link) Bu (λa Ro M w acT hF k=>⟨hF.1,hF.2.rely k⟩) (λa Ro M w hF e=>e.elim (hF.2.sp _<|.inl rfl).1 (hF.2.sp _<|.inl rfl).2.1) Ro M g W hA)
  (h.split hRM) rfl rfl (.inr rfl) (.inl<|.inr rfl) (GQ _<|.inr<|.inr rfl) (λb hb=>hb.1) DD (λb hb=>hb.1.2) cw ⟨fx ct,by show w.frozen? tb=false;simp[World.frozen?,ct]⟩ (by let⟨cs,g1,g2⟩:=cB;exact⟨cs,g1,g2⟩) hs
 exact⟨J,rfl,rfl,rfl,rfl,p,rfl,N,jK,w',kx,t',a',qO,px,seq,vs,Mr,M',R,eb,Co,λb hb hne=>by
  by_cases x:R b
  .exact .inr x
  .exact .inl ⟨⟨hb,x⟩,hne⟩⟩
end
section
variable [Gl]{J:Jb}
def Ka (eL:dL P0 P0 ok)(hP:dL P0 Tryz.prog ok)(iA:∀f,ok.fn f=true->ok.aX f=true)(zp:jA P0 c)(eO:ok.aX 160=true/\ok.fn 161=true)
  (VI:∀(V:World) (b:Nat) (xs:List aN) (z:Nat×Nat),xs.length<=1048576->V.heap[b]?=some (.cells (xs.flatMap aN.cells).toArray 177 z)->(∀x∈xs,eA V x.a x.n x.g/\x.n<=1048576)->
   Calls P0 160 #[.slice b xs.length xs.length,.func (.func 161) #[] #[]] V λe w'=>e=.returned (J.cV xs).val/\Below V V w')
  (pJ:∀xs,xs≠[]->J.cV xs∈xs){xs:List aN}(h4:xs.length=4){t0 t1 v8 v12 v13 v14 v15 v16 v17 v18 v19 v20:Value}
  (hM:∀b,M b->b<W)(F0:Gl.n<=W)(m4:M r4)(mb:M bb)(mB:M Bs)(n1:r4≠Bs)(n2:bb≠Bs)(n3:r4≠bb)(c4:∃cs:Array Value,W.heap[r4]?=some (.cells cs 177 (0,0))/\cs.size=4)
  (cb:W.heap[bb]?=some (.cells #[.slice Bs 4 4] 211 (0,0)))(cB:W.heap[Bs]?=some (.cells (xs.flatMap aN.cells).toArray 177 (0,0)))(hx:∀x∈xs,iY W (λb=>M b/\b≠r4/\b≠bb) x):
  ET Tryz.prog true (λ_=>True) Ph.nO (λ_=>False) (λM' g W'=>g=G (r0.finish (J.cV xs).val) rest/\(∀b,M b->M' b)/\aO (λb=>M b/\b≠r4/\b≠Bs) W W'/\∀x∈xs,iY W' M' x) M
   (G ((base 139).at (Act.put ⟨#[t0,t1,.pointer bl,.pointer bn,.pointer r4,.pointer tb,.pointer wg,.pointer bb,v8,v9,v10,(4:Int),v12,v13,v14,v15,v16,v17,v18,v19,v20],[]⟩ ((vk[0]?).bind (·.dst))<|.tuple #[])<|.inRegion vk []::[.code (fC iV)]) (r0::rest)) W:=by
 have UT:(vk[0]?).bind (·.dst)=some 18:=bj;rw[UT];simp only[iV,dQ,Tryz.f139,Option.getD_some,fC];walk_nrm
 apply ET.ns;refine ET.val (.slice Bs 4 4) rfl rfl (by k_ne) (λah acN _=>?_) ?_
 .have hc:=fx<|(acN.block _<|.inl mb).trans cb;refine⟨?_,λe he=>?_⟩
  .go_simp
  .simp[go_sem,hc]at he;subst he;exact gM mb
 walk_nrm
 have hne:xs≠[]:=λe=>by rw[e]at h4;simp at h4
 have hm:=pJ xs hne;have hSx:∀x∈xs,∀a,x.a=some a->(λb=>b=Bs\/∃x,x∈xs/\∃a,x.a=some a/\a.block=b) a.block:=λx hx a ha=>.inr ⟨x,hx,a,ha,rfl⟩
 have XL:∀z∈xs,∀v∈z.cells,aw ok (rR λb=>b=Bs\/∃x,x∈xs/\∃a,x.a=some a/\a.block=b) v v:=by
  intro z hz v hv;simp only[aN.cells,List.mem_cons,List.not_mem_nil,or_false]at hv;rcases hv with rfl|rfl|rfl|rfl
  .exact .bool _
  .exact .int _ _
  .exact .int _ _
  .cases hza:z.a with
   |none=>exact .dH _ _
   |some a=>exact .slice _ _ ⟨fR.2 ⟨hSx z hz a hza,rfl⟩,rfl,rfl⟩
 refine ET.Gw (I:=λ_=>True) (Sp:=λ_=>False) eL hP iA zp rfl rfl (by k_ne) rfl Tryz.func160 bj rfl eO.1 (λ_ _ _ _=>trivial) (λb hb=>hb) ⟨λb hb=>hb.elim,λb hb=>hb.elim⟩ hM F0 (λb=>b=Bs\/∃x,x∈xs/\∃a,x.a=some a/\a.block=b)
  (λdv v w=>v=(J.cV xs).val/\∀b,b<dv.heap.size->w.heap[b]?=(fu (λ_=>False) dv).heap[b]?) (λW v w τ d h=>h) ?_ ?_ ?_ ?_ ?_
 .rintro b (rfl|⟨x,h1,a,ha,rfl⟩)
  .exact .inl mB
  .exact .inl ((hx x h1).blk a ha).2.1.1
 .intro dv dz;refine⟨?_⟩;rintro b (rfl|⟨x,h1,a,ha,rfl⟩)
  .refine⟨_,_,(dz.block _<|.inl mB).trans cB,λv hv=>?_⟩;simp only[List.mem_toArray,List.mem_flatMap]at hv;let⟨z,h1,h2⟩:=hv;exact XL z h1 v h2
  .let⟨_,h2,cs,e,h3,h4⟩:=(hx x h1).blk a ha;exact⟨cs,e,(dz.block _<|.inl h2.1).trans h3,λv hv=>by obtain⟨n,rfl⟩:=h4 v hv;exact .int _ _⟩
 .intro v hv;simp[Act.eval]at hv;rcases hv with rfl|rfl
  .exact .slice _ _ ⟨fR.2 ⟨.inl rfl,rfl⟩,rfl,rfl⟩
  .exact .func (.func eO.2) rfl (λi x x' h=>by simp at h) rfl (λi x x' h=>by simp at h)
 .intro dv dz _ τ d;walk_nrm
  let⟨z',h1,_⟩:=gn (F:=λ_=>False)<|(dz.block _<|.inl mB).trans cB;have hc:=VI (re (fu (λ_=>False) dv) τ d) Bs xs z' ab h1 λx dK=>⟨rV ((hx x dK).keep (M':=λ_=>True) (λ_ _=>trivial) λa ha=>dz.block _<|.inl ((hx x dK).blk a ha).2.1.1).row,(hx x dK).small⟩;rw[h4]at hc;refine hc.mono ?_;rintro e w' ⟨rfl,hb⟩;exact⟨_,rfl,rfl,λb dt=>hb.block b (by show b<(fu (λ_=>False) dv).heap.size;rw[jl];exact dt)⟩
 .intro dv v' M' W' dz abp i' hB;have Jp:∀x∈xs,iY dv (λb=>M b/\b≠r4/\b≠bb) x:=λx dK=>(hx x dK).keep (λ_ h=>h) λa ha=>dz.block _ (.inl ((hx x dK).blk a ha).2.1.1)
  obtain⟨σ,v,V',hv,⟨rfl,Y2⟩,hw,hS,pi,NG⟩:=hB.res;obtain⟨a',rfl,hn,ha⟩:=yU hv;have ea:a'=(J.cV xs).a:=by
   cases e:(J.cV xs).a with
   |none=>exact hn.1 e
   |some a=>
    let⟨d,h1,h2⟩:=ha a e;have h3:=h2.blk;rw[hS _ (hSx _ hm a e)]at h3;simp only[Option.some.injEq]at h3;rw[h1];let⟨d1,d2,d3⟩:=d;have h4:=h2.off;have h5:=h2.spot;let⟨a1,a2,a3⟩:=a;simp only at h3 h4 h5;rw[h3,h4,h5]
  have ev:aN.val {J.cV xs with a:=a'}=(J.cV xs).val:=by rw[ea]
  rw[ev];have same:∀b cs e,M b->σ b=some b->dv.heap[b]?=some (.cells cs e (0,0))->(∀v∈cs,∃n:Int,v=.int .i64 n)->W'.heap[b]?=dv.heap[b]?:=by
   intro b cs e hm hs h3 h4;let⟨o,o',g1,g2,g3⟩:=hw.heap _ _ hs;let⟨z',f1,_⟩:=gn (F:=λ_=>False) h3;rw[Y2 b (ac4 (hM b hm) dz.size),f1]at g1;cases g1;cases g3 with
   |@cells _ c' _ _ z'' hv hz=>
    replace hz:=hz.resolve_right (λh=>by cases h.1);have:c'=cs:=by
     refine Array.ext hv.size.symm λj h1 h2=>?_
     let⟨n,P2⟩:=h4 cs[j]<|Array.getElem_mem h2;have:=hv.at_ j _ _ (ada h2)<|ada h1;rw[P2]at this⊢;generalize c'[j]=w at this;cases this;rfl
    rw[g2,h3,this,hz];rfl
  have Jd:∀b,M b->b≠Bs->W'.heap[b]?=dv.heap[b]?:=by
   intro b hb hne;by_cases hs:(λb=>b=Bs\/∃x,x∈xs/\∃a,x.a=some a/\a.block=b) b
   .have mL:=hS b hs;rcases hs with e|⟨x,h1,a,ha,rfl⟩
    .exact absurd e hne
    .let⟨_,_,cs,e,h3,h4⟩:=(Jp x h1).blk a ha;exact same _ cs e hb mL h3 h4
   .exact hB.rest.block b ⟨hb,hs⟩
  have nx:∀x∈xs,∀a,x.a=some a->a.block≠Bs:=λx h1 a ha e=>by
   let⟨_,_,cs,e',h3,h4⟩:=(hx x h1).blk a ha;rw[e,cB]at h3;cases h3;let⟨n,hn⟩:=h4 (.bool x.ok) (by simp only[List.mem_toArray,List.mem_flatMap];exact⟨x,h1,by simp[aN.cells]⟩);cases hn
  have dK:∀x∈xs,iY W' (λb=>M' b/\b≠r4) x:=λx h1=>(Jp x h1).keep (λb hb=>⟨hB.own _ hb.1,hb.2.1⟩) λa ha=>Jd _ ((Jp x h1).blk a ha).2.1.1<|nx x h1 a ha
  have po:aO (λb=>M b/\b≠r4/\b≠Bs) W W':=⟨λb hb=>(Jd b hb.1 hb.2.2).trans<|dz.block b<|.inl hb.1,ac6 dz.size hB.ro.size,hB.ro.os.trans dz.os,hB.ro.out.trans dz.out⟩;have c4':∃cs:Array Value,W'.heap[r4]?=some (.cells cs 177 (0,0))/\cs.size=4:=by
   let⟨cs,g1,g2⟩:=c4;exact⟨cs,(Jd _ m4 n1).trans<|(dz.block _<|.inl m4).trans g1,g2⟩
  have v_:=hB.own _ m4;have bc:=hB.own;clear Jd same hw hS pi NG hv hn ha ea ev Y2 hB Jp dz c4 cb cB hx;walk_nrm
  refine ET.none rfl rfl (by k_ne) λqI ku _=>?_
  let⟨cs,g1,g2⟩:=c4';have Q5:=(ku.block _<|.inl v_).trans g1;refine⟨qI.setRow r4 (J.cV xs).cells.toArray,(fJ rfl rfl rfl Q5 g2).1,?_,?_⟩
  .refine eU.row _ v_ λe he=>?_
   obtain⟨j,rfl⟩:=(fJ (t:=J.cV xs) rfl rfl rfl Q5 g2).2 e<|mem_listed he;exact gM v_
  rw[cK (setRow_size _ _ _)];have h6:(qI.setRow r4 (J.cV xs).cells.toArray).heap[r4]?=some (.cells (J.cV xs).cells.toArray 177 (0,0)):=setRow_heap _ _ _ _ _ _ Q5;have ho:∀b,b≠r4->(qI.setRow r4 (J.cV xs).cells.toArray).heap[b]?=qI.heap[b]?:=λb hb=>setRow_other _ _ _ _ hb
  have hx4:∀x∈xs,iY (qI.setRow r4 (J.cV xs).cells.toArray) (λb=>M' b/\b≠r4) x:=λx h1=>(dK x h1).keep (λ_ h=>h) λa ha=>(ho _ ((dK x h1).blk a ha).2.1.2).trans<|ku.block _<|.inl ((dK x h1).blk a ha).2.1.1
  have VG:aO (λb=>M b/\b≠r4/\b≠Bs) W (qI.setRow r4 (J.cV xs).cells.toArray):=po.trans ⟨λb hb=>(ho b hb.2.1).trans<|ku.block b<|.inl<|bc b hb.1,by rw[setRow_size];exact ku.size,ku.os,ku.out⟩;generalize qI.setRow r4 (J.cV xs).cells.toArray=ab3 at h6 hx4 VG⊢;clear ho dK po ku g1 Q5;walk_nrm
  apply ET.rn;apply ET.rt;refine ET.CI (J.cV xs).val rfl rfl Tryz.func139 (λMz zy _=>?_)<|ET.stop λMz zy _=>⟨rfl,bc,VG.trans<|zy.mono λb hb=>.inl<|bc b hb.1,λx h1=>(hx4 x h1).keep (λb hb=>hb.1) λa ha=>zy.block _<|.inl ((hx4 x h1).blk a ha).2.1.1⟩;have h6':=(zy.block _<|.inl v_).trans h6;have q0:Mz.cell? r4=some (.bool (J.cV xs).ok):=DU;have q1:Mz.cell? ⟨r4,1,none⟩=some (.int .i64 (J.cV xs).sum):=DU;have q2:Mz.cell? ⟨r4,2,none⟩=some (.int .i64 (J.cV xs).most):=DU;have q3:Mz.cell? ⟨r4,3,none⟩=some (.slice (J.cV xs).a (J.cV xs).n (J.cV xs).cap):=DU;refine⟨?_,λe he=>?_⟩
  .simp[results,Tryz.f139,go_sem,aN.val,q0,q1,q2,q3]
  .simp[results,Tryz.f139,go_sem,q0,q1,q2,q3]at he;rcases he with rfl|rfl|rfl|rfl<;>exact gM v_
end
section
variable [Gl]{t:Trace}
def Ans (lt:aN->aN->Bool)(Is:Nat->aN->Prop)(nn:Nat)(x:aN):Prop:=
 ∃(J:Jb) (xs:List aN) (seq:Nat->List Nat),J.lt=lt/\J.Is=Is/\xs.length=4/\(∀i y,xs[i]?=some y->wI J (seq i) y)/\(∀k,k<nn->∃i,i<4/\k∈seq i)/\(∀i,i<4->∀k∈seq i,k<nn)/\x=J.cV xs
omit [Gl] in
def xW (J:Jb):∀xs,xs≠[]->J.cV xs∈xs:=by
 intro xs h;cases xs with
 |nil=>exact absurd rfl h
 |cons x xs=>
  simp only[Jb.cV];clear h;induction xs generalizing x with
  |nil=>simp
  |cons y ys ih=>
   simp only[List.foldl_cons];have:=ih<|J.pick x y;rcases J.pk x y with e|e<;>rw[e]at this⊢<;>simp at this⊢<;>rcases this with h|h<;>simp[h]
def J2.mono {acT:World}(h:J2 P0 ok M w la ln lc nb no nn gX S Is lt)(hM:∀b,M b->gi b)(hk:aO M w acT):J2 P0 ok gi acT la ln lc nb no nn gX S Is lt:=by
 have hR:∀b,(b=nb\/∃i,S i b)->M b:=λb hb=>hb.elim (λe=>e▸h.V0) λ⟨i,hs⟩=>h.sm i b hs
 exact⟨hM _ h.V0,λi hi=>by rw[<-h.fF i hi];simp only[World.cell?,hk.block _ h.V0],λi b hs=>hM _<|h.sm i b hs,λi hi ah k=>h.closed i hi ah<|(hk.mono hR).trans k,h.ME,h.MF,λi hi F ah k τ d=>h.Pw i hi F ah ((hk.mono hR).trans k) τ d,h.ren,h.least,h.TV⟩
omit [Gl] in
def aal {xs:Nat->aN}(hs:cs.size=16)(h:∀i,i<4->∀o,o<4->cs[i*4+o]?=(xs i).cells[o]?):cs=([xs 0,xs 1,xs 2,xs 3].flatMap aN.cells).toArray:=by
 refine Array.ext (by simp[aN.cells,hs]) λj h1 h2=>?_
 have hj:j<16:=by omega
 have h':=h (j/4) (by omega) (j%4) (by omega);rw[show j/4*4+j%4=j by omega,ada h1]at h';have:([xs 0,xs 1,xs 2,xs 3].flatMap aN.cells).toArray[j]?=some cs[j]:=by
  rw[h'];clear h' h1 h2;obtain rfl|rfl|rfl|rfl|rfl|rfl|rfl|rfl|rfl|rfl|rfl|rfl|rfl|rfl|rfl|rfl:j=0\/j=1\/j=2\/j=3\/j=4\/j=5\/j=6\/j=7\/j=8\/j=9\/j=10\/j=11\/j=12\/j=13\/j=14\/j=15:=by omega
  all_goals rfl
 rw[ada h2]at this;exact(ac9 this).symm
def UN (eL:dL P0 P0 ok)(hP:dL P0 Tryz.prog ok)(iA:∀f,ok.fn f=true->ok.aX f=true)(zp:jA P0 c)(hn:nn+4<4611686018427387904)
  (h:dJ Tryz.prog an (λ_=>False) (λ_=>False) M gs (G ((base 139).at ⟨#[.slice la ln lc,.slice (some ⟨nb,no,none⟩) nn nc,ud,ud,ud,ud,ud,ud,ud,ud,ud,ud,ud,ud,ud,ud,ud,ud,ud,ud,ud],[]⟩ [.code dQ])<|r0::rest) w t q)
  (hf:J2 P0 ok M w la ln lc nb no nn gX S Is lt)(F0:Gl.n<=w):
  ∃N jK w' kx t' q' sP M' x,runNT Tryz.prog N (crowd gs w sl) t=(.next<|crowd jK w' kx,t')/\dJ Tryz.prog sP (λ_=>False) (λ_=>False) M' jK (G (r0.finish x.val) rest) w' t' q'/\
   EN M w M' w'/\iY w' (λb=>M' b/\w.heap.size<=b) x/\Ans lt Is nn x:=by
 let⟨N1,gs1,M1,w1,U_,t1,q1,bl,bn,r4,tb,wg,Bs,bb,v9,v10,e1,e2,e3,hE,ho,hm,cl,cn,c4,ct,cw,cb,cB⟩:=R7 (sl:=sl) h;have ay:=h.RG;have pH:=hf.mono hE.own hE.keep;let⟨J,j1,j2,j3,j4,p,hp,N2,Q8,w2,Se,t2,a2,Ro2,M2,seq,vs,Mr,M',R,f1,f2,f3⟩:=R3 (sl:=U_) (nc:=nc) eL hP iA zp hn e3 pH (ac6 F0 hE.keep.size) ⟨ho.2.1,ho.2.2.1,ho.2.2.2.1,ho.2.2.2.2.1,ho.2.2.2.2.2.1,ho.2.2.2.2.2.2⟩ hm (by have:=ay _ hf.V0;omega) (λi b hs=>by have:=ay _<|hf.sm i b hs;omega) cl cn ct cw cb cB;obtain⟨acG,⟨⟨u8,u9,Qc,Qd,Qe,Qf,Qg,u16,Qh,Xe,Qi,Qj,rfl⟩,Kv⟩,hT⟩:=f2.fin;subst hp;have hX:∀i,∃x:aN,i<4->vs i=x.cells/\wI J (seq i) x/\iY w2 (Mr i) x/\∀b,Mr i b->w1.heap.size<=b:=λi=>by
  by_cases hi:i<4
  .let⟨x,h1,h2,h3,h4⟩:=f2.res i hi;exact⟨x,λ_=>⟨h1,h2,h3,λb hb=>j4▸h4 b hb⟩⟩
  .exact⟨ep,λx=>absurd x hi⟩
 let X:Nat->aN:=λi=>(hX i).choose
 have Xy:∀i,i<4->vs i=(X i).cells/\wI J (seq i) (X i)/\iY w2 (Mr i) (X i)/\∀b,Mr i b->w1.heap.size<=b:=λi hi=>(hX i).choose_spec hi
 let⟨cs,Zb,Zc⟩:=f2.bs;have hcs:cs=([X 0,X 1,X 2,X 3].flatMap aN.cells).toArray:=aal Zc λi hi o NN=>by
  rw[<-(Xy i hi).1];exact(f2.slot i hi).2 cs ⟨Zb,Zc⟩ o NN
 have jw:w1.heap.size<=w2:=Kv.keep.size;have hwz:=hE.keep.size;have VF:∀b,M1 b->b≠Bs->w2.heap[b]?=w1.heap[b]?:=λb hb hne=>Kv.keep.block b<|f3 b hb hne
 let M3:Nat->Prop:=λb=>(M b\/w.heap.size<=b)/\b<w2/\∀l,fA (·=b) l->¬(ph J wg tb Bs nn gs1.size t1.size).Sh an l
 let⟨q2,hL⟩:=f2.lone (M':=M3) (λl hl=>Loc.low_mono jw<|e3.low l hl) λb hb=>⟨hb.2.1,hb.2.2⟩;have Re:∀b,M1 b->M3 b:=λb hb=>⟨hE.new b hb,ac4 (hE.lt b hb) jw,λl hl hx=>by
  rcases hx with hx|⟨a,rfl,hx⟩
  .exact e3.kw b (.inl hb) l hl hx
  .have Xz:a.block=b:=hl;rcases hx with hx|hx
   .have dK:a.block=wg:=hx;exact(e3.vm wg<|.inr rfl).1 (by rw[<-dK,Xz];exact hb)
   .have dK:a.block=tb:=hx;exact(e3.vm tb<|.inl<|.inr rfl).1<|by rw[<-dK,Xz];exact hb⟩
 have hMr:∀i,i<4->∀b,Mr i b->M3 b/\b≠r4/\b≠bb:=λi hi b hb=>by
  have h1:=(Xy i hi).2.2.2 b hb;have h2:=f2.own i hi b hb;have h3:=hE.lt _ hm.2.2.1;have h4:=hE.lt _ hm.2.2.2.2;refine⟨⟨.inr ab,h2.1,λl hl hx=>?_⟩,ab,ab⟩;rcases hx with hx|⟨a,rfl,hx⟩
  .exact f2.kw i hi b hb l hl hx
  .have Xz:a.block=b:=hl;exact h2.2.2.2 (by rw[<-Xz];exact hx.elim .inl λy=>.inr<|.inl y)
 have vU:∀x∈[X 0,X 1,X 2,X 3],∃i,i<4/\x=X i:=by
  intro x hx;simp only[List.mem_cons,List.not_mem_nil,or_false]at hx;rcases hx with rfl|rfl|rfl|rfl
  .exact⟨0,ab,rfl⟩
  .exact⟨1,ab,rfl⟩
  .exact⟨2,ab,rfl⟩
  .exact⟨3,ab,rfl⟩
 have hA:=Ka (J:=J) (r0:=r0) (rest:=rest) (xs:=[X 0,X 1,X 2,X 3]) (M:=M3) (W:=w2) (r4:=r4) (bb:=bb) (Bs:=Bs) (bl:=J.bl) (bn:=J.bn) (tb:=J.tb) (wg:=wg) (t0:=.slice la ln lc) (t1:=.slice (some ⟨nb,no,none⟩) nn nc) (v8:=u8) (v9:=u9) (v10:=Qc) (v12:=Qd) (v13:=Qe) (v14:=Qf) (v15:=Qg) (v16:=u16) (v17:=Qh) (v18:=Xe) (v19:=Qi) (v20:=Qj)
  eL hP iA zp hf.TV.2 (λV b xs z h1 h2 h3=>by rw[ve J ⟨0,0,0,0,0,0,0,.nilFunc,gX,S,Is,lt,0⟩ j1];exact hf.least V b xs z h1 h2 h3) (xW J) rfl (λb hb=>hb.2.1) ab (Re _ hm.2.2.1) (Re _ hm.2.2.2.2) (Re _ hm.2.2.2.1) ab ab ab
  ⟨_,(VF _ hm.2.2.1 ab).trans c4,rfl⟩ ((VF _ hm.2.2.2.2 ab).trans cb) (by rw[<-hcs];exact Zb)
  (λx hx=>by obtain⟨i,hi,rfl⟩:=vU x hx;exact(Xy i hi).2.2.1.keep (hMr i hi) λ_ _=>rfl)
 rw[<-j3]at hA;let⟨r,hr⟩:=hT _ _ _ _ _ hA;let⟨N3,gs3,M4,a3,w3,sl3,t3,q3,i1,i2,i3,i4,i5,i6,i7,i8⟩:=jt (λ_=>trivial) r _ Q8 M3 _ w2 Se t2 q2 (ac3 _) hL hr;obtain⟨rfl,g1,g2,g3⟩:=i3 w3 (aO.refl _ _) trivial;have pJ:=xW J [X 0,X 1,X 2,X 3] aG;let⟨i,hi,XS⟩:=vU _ pJ;have hHx:=g3 _ pJ;refine⟨N1+(N2+N3),gs3,w3,sl3,t3,q3,_,M4,J.cV [X 0,X 1,X 2,X 3],fU (fU i1 _ _ _ f1) _ _ _ e1,i4,⟨λb hb=>g1 b<|Re b<|hE.own b hb,?_,i4.RG,λb hb=>?_⟩,⟨hHx.row,hHx.small,λa ha=>?_,hHx.full⟩,J,_,seq,j1,j2,rfl,?_,f2.all,f2.abG,rfl⟩
 .refine hE.keep.trans ⟨λb hb=>?_,ab,g2.os.trans Kv.keep.os,g2.out.trans Kv.keep.out⟩;have dt:=ay b hb;rw[g2.block b ⟨Re b<|hE.own b hb,ab,ab⟩,VF b (hE.own b hb) ab]
 .rcases i7 b hb with x|x
  .exact x.1
  .exact .inr ab
 .let⟨h1,h2,h3⟩:=hHx.blk a ha;refine⟨h1,⟨h2,?_⟩,h3⟩;rw[XS]at ha;have:=(Xy i hi).2.2.2 _ ((Xy i hi).2.2.1.blk a ha).2.1;omega
 .intro i y hy;have hi:i<4:=by
   have:=(adc.1 hy).1;simpa using this
  have:y=X i:=by
   obtain rfl|rfl|rfl|rfl:i=0\/i=1\/i=2\/i=3:=ab;all_goals(simp at hy;exact hy.symm)
  rw[this];exact(Xy i hi).2.1
end
section
set_option linter.unusedSimpArgs false
set_option linter.unusedVariables false
structure CS (fq:Nat->Prop)(acF:World)(L:List (Nat×Array Value×TypeId))(M:Nat->Prop)(W:World):Prop where
 own:∀b,fq b->M b
 keep:aO fq acF W
 lt:∀b,M b->b<W.heap.size
 new:∀b,M b->fq b\/acF.heap.size<=b
 RH:∀b,fq b->b<acF.heap.size
 at_:∀p∈L,M p.1/\W.heap[p.1]?=some (.cells p.2.1 p.2.2 (0,0))
section
variable {ah:World}
def CS.rely (h:CS fq acF L M W)(k:aO (λb=>M b\/False) W ah):CS fq acF L M ah:=⟨h.own,h.keep.trans<|k.mono λb hb=>.inl<|h.own b hb,λb hb=>ac4 (h.lt b hb) k.size,h.new,h.RH,λp hp=>⟨(h.at_ p hp).1,(k.block _<|.inl (h.at_ p hp).1).trans (h.at_ p hp).2⟩⟩
def CS.alloc (h:CS fq acF L M W)(cs:Array Value)(t:TypeId):CS fq acF ((W.heap.size,cs,t)::L) (grow M W<|W.alloc<|.cells cs t) (W.alloc<|.cells cs t):=by
 have z:(W.alloc<|.cells cs t).heap.size=W.heap.size+1:=by show(W.heap.push _).size=_;simp
 refine⟨λb hb=>.inl<|h.own b hb,h.keep.trans ⟨λb hb=>Below.heap_alloc _ _ _<|h.lt b<|h.own b hb,by rw[z];omega,rfl,rfl⟩,λb hb=>hb.elim (λx=>by rw[z];have:=h.lt b x;omega) And.right,λb hb=>hb.elim (h.new b) λx=>.inr<|ac6 h.keep.size x.1,h.RH,λp hp=>?_⟩;rcases List.mem_cons.1 hp with rfl|hp
 .exact⟨.inr ⟨ac3 _,by rw[z];simp⟩,heap_alloc_new _ _⟩
 .exact⟨.inl (h.at_ p hp).1,(Below.heap_alloc _ _ _<|h.lt _ (h.at_ p hp).1).trans (h.at_ p hp).2⟩
def CS.cell (h:CS fq acF L M W)(hp:(b,cs,t)∈L){j:Nat}(hv:cs[j]?=some v):W.cell? ⟨b,j,none⟩=some v:=by
 rw[cell_of_row _ _ _ _ _ _ (h.at_ _ hp).2];exact hv
end
section
variable {I:World->Prop}{Ro:Nat->Prop}
 {b:Frame}{cs:List Frame}{rest:List Nat}
def ET.pure (v:Value)(ho:ops[i]?=some o)
  (n:ET P m I X Ro Stop M (G (b.at (a.put o.dst v)<|.inRegion ops rest::k) cs) W)(hw:Region.wanted o (yielded ops a.tmps)=true:=by rfl)(hk:b.kind≠.early:=by k_ne)(hr:∀W,(execOp a.eval o).run P W=.ok (.value v) W:=by intro;kernel_rfl)(he:∀W,(execOp a.eval o).events P W #[]=#[]:=by intro;kernel_rfl):ET P m I X Ro Stop M (G (b.at a<|.inRegion ops (i::rest)::k) cs) W:=
 ET.val v ho hw hk (λah _ _=>⟨hr ah,λe h=>by rw[he ah]at h;simp at h⟩) n
def ET.ext (v:Value)(f:FuncId)(ho:ops[i]?=some o)
  (n:ET P m I X Ro Stop M (G (b.at (a.put o.dst v)<|.inRegion ops rest::k) cs) W)(hw:Region.wanted o (yielded ops a.tmps)=true:=by rfl)(hk:b.kind≠.early:=by k_ne)(hr:∀W,(execOp a.eval o).run P W=.ok (.value v) W:=by intro;kernel_rfl)(he:∀W,(execOp a.eval o).events P W #[]=#[⟨.mark<|.extern f,false,true⟩]:=by intro;kernel_rfl):ET P m I X Ro Stop M (G (b.at a<|.inRegion ops (i::rest)::k) cs) W:=
 ET.val v ho hw hk (λah _ _=>⟨hr ah,λe h=>by rw[he ah]at h;simp at h;exact .inr<|.inr<|.inl ⟨_,rfl,h⟩⟩) n
def vE (e:Event):Prop:=∃f,e=⟨.mark<|.extern f,false,true⟩
def vE.evp {e:Event}(h:vE e):FX X M Ro e:=by let⟨f,h⟩:=h;exact .inr<|.inr<|.inl ⟨_,rfl,h⟩
def ET.makes (v:Nat->Value)(xs:Array Value)(t:TypeId)(es:Array Event)(ho:ops[i]?=some o)(hw:Region.wanted o (yielded ops a.tmps)=true)(hk:b.kind≠.early)(h:CS fq acF L M W)
  (hr:∀W,(execOp a.eval o).run P W=.ok (.value<|v W.heap.size) (W.alloc<|.cells xs t))(he:∀W,(execOp a.eval o).events P W #[]=es)(hq:∀e∈es,vE e)
  (n:∀B M' W',CS fq acF ((B,xs,t)::L) M' W'->acF.heap.size<=B->(∀p∈L,p.1<B)->ET P m (λ_=>True) X (λ_=>False) Stop M' (G (b.at (a.put o.dst<|v B)<|.inRegion ops rest::k) cs) W'):ET P m (λ_=>True) X (λ_=>False) Stop M (G (b.at a<|.inRegion ops (i::rest)::k) cs) W:=
 ET.oper ho hw hk λah acN _=>⟨_,_,hr ah,eU.alloc _ λe h=>(hq e (by have:=mem_listed h;rw[he ah]at this;exact this)).evp,n _ _ _ ((h.rely acN).alloc xs t) (h.rely acN).keep.size λp hp=>(h.rely acN).lt _ ((h.rely acN).at_ p hp).1⟩
def ET.looks (v:Value)(ho:ops[i]?=some o)(hw:Region.wanted o (yielded ops a.tmps)=true)(hk:b.kind≠.early)(h:CS fq acF L M W)
  (hr:∀W,CS fq acF L M W->(execOp a.eval o).run P W=.ok (.value v) W/\∀e∈(execOp a.eval o).events P W #[],vE e\/∃p∈L,∃j,e=⟨.cell ⟨p.1,j,Option.none⟩,false,false⟩)
  (n:ET P m (λ_=>True) X (λ_=>False) Stop M (G (b.at (a.put o.dst v)<|.inRegion ops rest::k) cs) W):ET P m (λ_=>True) X (λ_=>False) Stop M (G (b.at a<|.inRegion ops (i::rest)::k) cs) W:=
 ET.val v ho hw hk (λah acN _=>⟨(hr ah<|h.rely acN).1,λe he=>by
  rcases(hr ah (h.rely acN)).2 e he with x|⟨p,hp,j,rfl⟩
  .exact x.evp
  .exact gM (h.at_ p hp).1⟩) n
def CS.set (h:CS fq acF ((B,xs,t)::L) M W)(hB:acF.heap.size<=B)(hL:∀p∈L,p.1<B)(ys:Array Value):CS fq acF ((B,ys,t)::L) M (W.setRow B ys):=by
 have z:(W.setRow B ys).heap.size=W.heap.size:=setRow_size _ _ _;refine⟨h.own,h.keep.trans ⟨λb hb=>setRow_other _ _ _ _ (by have:=h.RH b hb;omega),by rw[z];exact ac3 _,rfl,rfl⟩,λb hb=>by rw[z];exact h.lt b hb,h.new,h.RH,λp hp=>?_⟩;rcases List.mem_cons.1 hp with rfl|hp
 .exact⟨(h.at_ _ (adu ..)).1,setRow_heap _ _ _ _ _ _ (h.at_ _ (adu ..)).2⟩
 .have:=h.at_ p<|adt _ hp;exact⟨this.1,(setRow_other _ _ _ _<|adl<|hL p hp).trans this.2⟩
def ET.writes (ys:Array Value)(ho:ops[i]?=some o)(hw:Region.wanted o (yielded ops a.tmps)=true)(hk:b.kind≠.early)(h:CS fq acF ((B,xs,t)::L) M W)(hB:acF.heap.size<=B)(hL:∀p∈L,p.1<B)
  (hr:∀W,W.heap[B]?=some (.cells xs t (0,0))->(execOp a.eval o).run P W=.ok .skip (W.setRow B ys)/\∀e∈(execOp a.eval o).events P W #[],∃j,e=⟨.cell ⟨B,j,Option.none⟩,true,false⟩)
  (n:∀W',CS fq acF ((B,ys,t)::L) M W'->ET P m (λ_=>True) X (λ_=>False) Stop M (G (b.at (a.put o.dst undef)<|.inRegion ops rest::k) cs) W'):ET P m (λ_=>True) X (λ_=>False) Stop M (G (b.at a<|.inRegion ops (i::rest)::k) cs) W:=
 ET.none ho hw hk λah acN _=>by
  have h':=h.rely acN;have hb:=h'.at_ _ (adu ..);refine⟨_,(hr ah hb.2).1,eU.row ys hb.1 λe he=>?_,?_⟩
  .obtain⟨j,rfl⟩:=(hr ah hb.2).2 e<|mem_listed he;exact gM hb.1
  .rw[show grow M ah (ah.setRow B ys)=M from cK (setRow_size _ _ _)];exact n _<|h'.set hB hL ys
end
section
variable {y:Operand}{cur:Array Value}{u w:Value}{p q:Addr}{n:Int}
def SG (bp:o.op=.store 162 x y)(ha:a.eval x=.pointer B)(hy:a.eval y=.agg #[.pointer<|some p,.pointer<|some q,.int .u64 n])(hg:W.heap[B]?=some (.cells cur ty (0,0)))(hl:cur.size=3):
  (execOp a.eval o).run Tryz.prog W=.ok .skip (W.setRow B #[.pointer<|some p,.pointer<|some q,.int .u64 n])/\∀e∈(execOp a.eval o).events Tryz.prog W #[],∃j,e=⟨.cell ⟨B,j,none⟩,true,false⟩:=by
 obtain⟨cs,h1,h2,h3⟩:∃cs:Array Value,#[Value.pointer<|some p,.pointer<|some q,.int .u64 n]=cs/\cs.size=3/\∀v∈cs.toList,v.oneCell'=true:=⟨_,rfl,rfl,t9⟩;rw[h1]at hy⊢;clear h1;have h:=run_storeCells_at (P:=Tryz.prog) B 0 ty cs.toList 0 cur W hg (by simp[hl,h2]) h3;rw[Nat.add_zero]at h;have hd:cur.toList.drop (0+cs.toList.length)=[]:=by simp[hl,h2]
 rw[hd]at h;simp only[List.take_zero,List.nil_append,List.append_nil]at h;refine⟨?_,λe he=>?_⟩
 .unfold execOp;simp only[bp,ha,hy];go_simp
 .have h:=mq (P:=Tryz.prog) B 0 ty cs.toList 0 cur W #[] hg (by simp[hl,h2]) h3 e;unfold execOp at he;simp only[bp,ha,hy]at he;simp[go_sem,h2]at he;rcases h he with x|⟨j,_,h5,h6⟩
  .simp at x
  .exact⟨_,h6⟩
def wH (bp:o.op=.load 162 x)(ha:a.eval x=.pointer B)(hg:W.heap[B]?=some (.cells #[u,v,w] ty (0,0))):
  (execOp a.eval o).run Tryz.prog W=.ok (.value<|.agg #[u,v,w]) W/\∀e∈(execOp a.eval o).events Tryz.prog W #[],∃j,e=⟨.cell ⟨B,j,none⟩,false,false⟩:=by
 have c0:W.cell? B=some u:=by simp[World.cell?,hg]
 have c1:W.cell? ⟨B,1,none⟩=some v:=by simp[World.cell?,hg]
 have c2:W.cell? ⟨B,2,none⟩=some w:=by simp[World.cell?,hg]
 refine⟨?_,λe he=>?_⟩
 .unfold execOp;simp only[bp,ha];go_simp
 .unfold execOp at he;simp only[bp,ha]at he;simp[go_sem,c0,c1,c2]at he;rcases he with rfl|rfl|rfl<;>exact⟨_,rfl⟩
end
def Xh {s:Sem Next}{r:Result Next}(h:W.heap[B]?=some (.cells cs t (0,0))->s.run P W=r/\∀e∈s.events P W #[],∃j,e=⟨.cell ⟨B,j,none⟩,false,false⟩)
  (hW:CS fq acF L M W)(hm:(B,cs,t)∈L):s.run P W=r/\∀e∈s.events P W #[],vE e\/∃p∈L,∃j,e=⟨.cell ⟨p.1,j,none⟩,false,false⟩:=
 have x:=h (hW.at_ _ hm).2
 ⟨x.1,λe he=>.inr ⟨_,hm,x.2 e he⟩⟩
def rlm (z:Sem Value)(f:TypeId->Addr->Nat->Nat->Sem Value)(v:Value):
  ReflectliteValue.method z f #[v]=(do match<-ReflectliteValue.parts v with|none=>z|some (t,a,fl)=>f t a fl<|fl%32):=rfl
def qv (a:Addr)(w:World):(ReflectliteValue.parts<|.agg #[.pointer<|some ⟨9,138,none⟩,.pointer<|some a,.int .u64 150]).run Tryz.prog w=.ok (some (138,a,150)) w:=bj
def OR (a:Addr)(w:World)(es:Array Event):(ReflectliteValue.parts<|.agg #[.pointer<|some ⟨9,138,none⟩,.pointer<|some a,.int .u64 150]).events Tryz.prog w es=es:=bj
def OS (a p:Addr)(W:World)(es:Array Event)(ha:W.cell? a=some (.pointer<|some p)):
  (ReflectliteValue.method (ReflectliteValue.valueError "reflectlite.Value.IsNil" 0) ReflectliteValue.isNil #[.agg #[.pointer<|some ⟨9,138,none⟩,.pointer<|some a,.int .u64 150]]).run Tryz.prog W=.ok false W/\
  (ReflectliteValue.method (ReflectliteValue.valueError "reflectlite.Value.IsNil" 0) ReflectliteValue.isNil #[.agg #[.pointer<|some ⟨9,138,none⟩,.pointer<|some a,.int .u64 150]]).events Tryz.prog W es=es.push ⟨.cell a,false,false⟩:=by
 rw[rlm];constructor
 .simp only[Sem.run_bind,qv,Result.andThen];simp[ReflectliteValue.isNil,loadVar,isAgg,underlying,Tryz.underlying138,ha,Result.andThen]
 .simp only[Sem.events_bind,qv,OR,Result.evThen_ok];simp[ReflectliteValue.isNil,loadVar,isAgg,underlying,Tryz.underlying138,ha,Result.evThen,go_sem];rfl
def D0 {xs:Array Operand}(bp:o.op=.call {callee:=.value<|.func f,args:=xs,argTypes:=Yn})
  (hf:P.funcs[f]?=some fn)(xH:(fn.name== "runtime.NumGoroutine")=false)(hb:fn.body.isNone=true)(hn:Extern.findNext fn=none)(he:Extern.find fn=some e)(hx:xs.map a.eval=ys)
  (h:∀es,(e ys).run P W=.ok v W/\(e ys).events P W es=es.push ⟨.cell b,false,false⟩):
  (execOp a.eval o).run P W=.ok (.value v) W/\∀e∈(execOp a.eval o).events P W #[],vE e\/e=⟨.cell b,false,false⟩:=by
 rw[execOp_call_func (a:=a) bp,hx];refine⟨by rw[run_callFunc_extern hf xH hb hn he,(h #[]).1];rfl,λx hx=>?_⟩;rw[events_callFunc_extern hf xH hb hn he,(h _).2]at hx;simp only[Array.mem_push,Array.not_mem_empty,false_or]at hx;rcases hx with rfl|rfl
 .exact .inl ⟨f,rfl⟩
 .exact .inr rfl
def TQ {A:Prop}{es:Array Event}(h:A/\∀e∈es,vE e\/e=⟨.cell B,false,false⟩)(hm:(B,cs,t)∈L):
  A/\∀e∈es,vE e\/∃p∈L,∃j,e=⟨.cell ⟨p.1,j,none⟩,false,false⟩:=⟨h.1,λe he=>(h.2 e he).imp id λx=>⟨_,hm,0,x⟩⟩
def JA {T:TypeId}(bp:o.op=.load T x)(ha:a.eval x=.pointer B)(hT:∀w,(isAgg T).run P w=.ok false w)(hE:∀w es,(isAgg T).events P w es=es)(hg:W.heap[B]?=some (.cells #[v] ty (0,0))):
  (execOp a.eval o).run P W=.ok (.value v) W/\∀e∈(execOp a.eval o).events P W #[],∃j,e=⟨.cell ⟨B,j,none⟩,false,false⟩:=by
 have c0:W.cell? B=some v:=by simp[World.cell?,hg]
 refine⟨?_,λe he=>?_⟩
 .unfold execOp;simp only[bp,ha];simp[Instr.loadAt,Instr.sureAddr,loadVar,hT,c0,Result.andThen,go_sem]
 .unfold execOp at he;simp only[bp,ha]at he;simp[Instr.loadAt,Instr.sureAddr,loadVar,hT,hE,c0,Result.evThen,go_sem]at he;exact⟨0,he⟩
def yA (w:World):(Rtype.elem? 138).run Tryz.prog w=.ok (some 131) w:=bj
def Lm (w:World)(es:Array Event):(Rtype.elem? 138).events Tryz.prog w es=es:=bj
def WJ (p:Addr)(w:World):(ReflectliteValue.mk 131 p ReflectliteValue.flagAddr).run Tryz.prog w=.ok (.agg #[.pointer<|some ⟨9,131,none⟩,.pointer<|some p,.int .u64 409]) w:=bj
def R8 (p:Addr)(w:World)(es:Array Event):(ReflectliteValue.mk 131 p ReflectliteValue.flagAddr).events Tryz.prog w es=es:=bj
def Ql (a p:Addr)(W:World)(es:Array Event)(ha:W.cell? a=some (.pointer<|some p)):
  (ReflectliteValue.method (ReflectliteValue.valueError "reflectlite.Value.Elem" 0) ReflectliteValue.elem #[.agg #[.pointer<|some ⟨9,138,none⟩,.pointer<|some a,.int .u64 150]]).run Tryz.prog W=.ok (.agg #[.pointer<|some ⟨9,131,none⟩,.pointer<|some p,.int .u64 409]) W/\
  (ReflectliteValue.method (ReflectliteValue.valueError "reflectlite.Value.Elem" 0) ReflectliteValue.elem #[.agg #[.pointer<|some ⟨9,138,none⟩,.pointer<|some a,.int .u64 150]]).events Tryz.prog W es=es.push ⟨.cell a,false,false⟩:=by
 rw[rlm];constructor
 .simp only[Sem.run_bind,qv,Result.andThen];simp[ReflectliteValue.elem,loadVar,isAgg,underlying,Tryz.underlying138,ha,Result.andThen,yA,WJ]
 .simp only[Sem.events_bind,qv,OR,Result.evThen_ok];simp[ReflectliteValue.elem,loadVar,isAgg,underlying,Tryz.underlying138,ha,Result.evThen,yA,R8,Lm,go_sem];rfl
def A0 (a:Addr)(w:World):(ReflectliteValue.parts<|.agg #[.pointer<|some ⟨9,131,none⟩,.pointer<|some a,.int .u64 409]).run Tryz.prog w=.ok (some (131,a,409)) w:=bj
def A1 (a:Addr)(w:World):(ReflectliteValue.parts<|.agg #[.pointer<|some ⟨9,131,none⟩,.pointer<|some a,.int .u64 153]).run Tryz.prog w=.ok (some (131,a,153)) w:=bj
def WG (a:Addr)(w:World)(es:Array Event):(ReflectliteValue.parts<|.agg #[.pointer<|some ⟨9,131,none⟩,.pointer<|some a,.int .u64 409]).events Tryz.prog w es=es:=bj
def WH (a:Addr)(w:World)(es:Array Event):(ReflectliteValue.parts<|.agg #[.pointer<|some ⟨9,131,none⟩,.pointer<|some a,.int .u64 153]).events Tryz.prog w es=es:=bj
def AZ (w:World):(Rtype.directlyAssignable 131 131).run Tryz.prog w=.ok true w:=bj
def Fg (w:World)(es:Array Event):(Rtype.directlyAssignable 131 131).events Tryz.prog w es=es:=bj
def Fh (w:World):(sizeOf 131).run Tryz.prog w=.ok 1 w:=bj
def Ln (w:World)(es:Array Event):(sizeOf 131).events Tryz.prog w es=es:=bj
def WK (ta b:Addr)(c:Int)(old:Value)(W:World)(es:Array Event)(hb:W.cell? b=some (.int .i64 c))(ht:W.cell? ta=some old)(hf:W.frozen? ta=false):
  (ReflectliteValue.set #[.agg #[.pointer<|some ⟨9,131,none⟩,.pointer<|some ta,.int .u64 409],.agg #[.pointer<|some ⟨9,131,none⟩,.pointer<|some b,.int .u64 153]]).run Tryz.prog W=.ok (.tuple #[]) (W.setCell ta c)/\
  (ReflectliteValue.set #[.agg #[.pointer<|some ⟨9,131,none⟩,.pointer<|some ta,.int .u64 409],.agg #[.pointer<|some ⟨9,131,none⟩,.pointer<|some b,.int .u64 153]]).events Tryz.prog W es=(es.push ⟨.cell b,false,false⟩).push ⟨.cell ta,true,false⟩:=by
 delta ReflectliteValue.set ReflectliteValue.set.match_3
 rw[dif_pos bD];dsimp only[Array.getLit,List.getElem_toArray,List.getElem_cons_zero,List.getElem_cons_succ];have hl:=run_loadCells_list (P:=Tryz.prog) (w:=W) b [c] (λj v hv=>by
  match j,hv with
  |0,hv=>simp at hv;subst hv;simpa[Addr.add]using hb)
 simp only[List.length_cons,List.length_nil,Nat.zero_add]at hl;constructor
 .simp only[Sem.run_bind,A0,A1,Result.andThen];simp[ReflectliteValue.flagAddr,loadVar,isAgg,underlying,Tryz.underlying131,hl,Result.andThen,AZ,Fh,storeVar,Value.cells,storeCells,Addr.add];rw[run_store Tryz.prog W ta _ _ bD];simp[ht,hf]
 .simp only[Sem.events_bind,A0,A1,WG,WH,Result.evThen_ok];simp[ReflectliteValue.flagAddr,loadVar,isAgg,underlying,Tryz.underlying131,hl,Result.evThen,Result.andThen,AZ,Fg,Fh,Ln,storeVar,Value.cells,storeCells,Addr.add,loadCells,go_sem,ht,hf,hb];rfl
def CS.abB {x:Value}(h:CS fq acF L M W)(hm:(B,#[x],t)∈L)(hB:acF.heap.size<=B)(y:Value):CS fq acF [(B,#[y],t)] M (W.setCell B y):=by
 have z:=nA W B y;refine⟨h.own,h.keep.trans ⟨λb hb=>?_,by rw[z];exact ac3 _,rfl,rfl⟩,λb hb=>by rw[z];exact h.lt b hb,h.new,h.RH,λp hp=>?_⟩
 .rw[iu,if_neg (λe=>by have:=h.RH b hb;simp only at e;omega)]
 .obtain rfl:=List.mem_singleton.1 hp;refine⟨(h.at_ _ hm).1,?_⟩;rw[iu,if_pos rfl,(h.at_ _ hm).2];simp
def QY {xs:Array Operand}{b ta:Addr}(bp:o.op=.call {callee:=.value<|.func f,args:=xs,argTypes:=Yn})
  (hf:P.funcs[f]?=some fn)(xH:(fn.name== "runtime.NumGoroutine")=false)(hb:fn.body.isNone=true)(hn:Extern.findNext fn=none)(he:Extern.find fn=some e)(hx:xs.map a.eval=ys)
  (h:∀es,(e ys).run P W=.ok v (W.setCell ta y)/\(e ys).events P W es=(es.push ⟨.cell b,false,false⟩).push ⟨.cell ta,true,false⟩):
  (execOp a.eval o).run P W=.ok (.value v) (W.setCell ta y)/\∀e∈(execOp a.eval o).events P W #[],vE e\/e=⟨.cell b,false,false⟩\/e=⟨.cell ta,true,false⟩:=by
 rw[execOp_call_func (a:=a) bp,hx];refine⟨by rw[run_callFunc_extern hf xH hb hn he,(h #[]).1];rfl,λx hx=>?_⟩;rw[events_callFunc_extern hf xH hb hn he,(h _).2]at hx;simp only[Array.mem_push,Array.not_mem_empty,false_or]at hx;rcases hx with(rfl|rfl)|rfl
 .exact .inl ⟨f,rfl⟩
 .exact .inr (.inl rfl)
 .exact .inr (.inr rfl)
def ET.abI {b:Frame}{cs:List Frame}{rest:List Nat}
  {C:Nat}{x z:Value}{u:TypeId}(v:Value)(ho:ops[i]?=some o)(hw:Region.wanted o (yielded ops a.tmps)=true)(hk:b.kind≠.early)(h:CS fq acF L M W)(hm:(B,#[x],t)∈L)(hc:(C,#[z],u)∈L)(hB:acF.heap.size<=B)
  (hr:∀W,CS fq acF L M W->(execOp a.eval o).run P W=.ok (.value v) (W.setCell ⟨B,0,Option.none⟩ y)/\∀e∈(execOp a.eval o).events P W #[],vE e\/e=⟨.cell ⟨C,0,Option.none⟩,false,false⟩\/e=⟨.cell ⟨B,0,Option.none⟩,true,false⟩)
  (n:∀W',CS fq acF [(B,#[y],t)] M W'->ET P m (λ_=>True) X (λ_=>False) Stop M (G (b.at (a.put o.dst v)<|.inRegion ops rest::k) cs) W'):ET P m (λ_=>True) X (λ_=>False) Stop M (G (b.at a<|.inRegion ops (i::rest)::k) cs) W:=
 ET.oper ho hw hk λah acN _=>by
  have h':=h.rely acN;have q:=hr ah h';refine⟨v,_,q.1,eU.set y (h'.at_ _ hm).1 λe he=>?_,?_⟩
  .rcases q.2 e (mem_listed he)with x|rfl|rfl
   .exact x.evp
   .exact gM (h'.at_ _ hc).1
   .exact gM (h'.at_ _ hm).1
  .rw[show grow M ah (ah.setCell ⟨B,0,Option.none⟩ y)=M from cK (nA _ _ _)];exact n _<|h'.abB hm hB y
def CS.less {L':List (Nat×Array Value×TypeId)}(h:CS fq acF L M W)(hL:∀p∈L',p∈L):CS fq acF L' M W:=⟨h.own,h.keep,h.lt,h.new,h.RH,λp hp=>h.at_ p<|hL p hp⟩
def CS.thaw (h:CS fq acF L M W)(hm:(B,cs,t)∈L):W.frozen? B=false:=by
 unfold World.frozen?;rw[(h.at_ _ hm).2];simp
noncomputable def Am:Code:=Tryz.f68.body.getD .skip
def QL (c:Int)(h0:CS M W [(0,#[.iface 187<|.agg #[.pointer<|some ⟨9,93,none⟩]],165)] M W):
  ET Tryz.prog true (λ_=>True) Ph.nO (λ_=>False) (λM' g W'=>g=G (r0.finish c) rest/\CS M W [] M' W') M
   (G ((base 68).at ⟨#[.iface 131<|.agg #[c],ud,ud,ud,ud,ud,ud,ud,ud],[]⟩ [.code Am]) (r0::rest)) W:=by
 simp only[Am,Tryz.f68,Option.getD_some];apply ET.sr;refine ET.pure (.int .i64 0) rfl ?_;walk_nrm
 apply ET.ns;refine ET.makes (λB=>.pointer<|some ⟨B,0,none⟩) #[(0:Int)] 131 #[] rfl rfl (by k_ne) h0 (λ_=>bj) (λ_=>bj) aG λbr gi My h1 o1 l1=>?_
 walk_nrm
 apply ET.rn;apply ET.sq;apply ET.sr;refine ET.pure (.iface 131<|.agg #[c]) rfl ?_;walk_nrm
 refine ET.pure (.iface 138<|.pointer br) rfl ?_;walk_nrm
 (refine ET.k rfl λ_ _ _=>goes_call rfl rfl (by k_ne) rfl Tryz.func98 bj rfl ⟨⟨rfl,λe he=>ic⟩,?_⟩;walk_nrmf Tryz.f98)
 apply ET.sr;refine ET.pure false rfl ?_;walk_nrm
 apply ET.rn;apply ET.sq;apply ET.sr;refine ET.pure (.iface 131<|.agg #[c]) rfl ?_;walk_nrm
 refine ET.pure false rfl ?_;walk_nrm
 apply ET.rn;refine ET.gP rfl ?_;apply ET.sk;apply ET.sq;apply ET.sr;refine ET.pure (.iface 138<|.pointer br) rfl ?_;walk_nrm
 refine ET.pure false rfl ?_;walk_nrm
 apply ET.rn;refine ET.gP rfl ?_;apply ET.sk;apply ET.sr;refine ET.pure (.iface 138<|.pointer br) rfl ?_;walk_nrm
 refine ET.makes (λB=>.agg #[.pointer<|some ⟨9,138,none⟩,.pointer<|some ⟨B,0,none⟩,.int .u64 150]) #[.pointer br] 138 #[⟨.mark<|.extern 126,false,true⟩] rfl rfl (by k_ne) h1 (λ_=>bj) (λ_=>bj) (by simp[vE]) λbv px Qv h2 o2 l2=>?_
 walk_nrm
 refine ET.makes (λB=>.pointer<|some ⟨B,0,none⟩) #[.pointer none,.pointer none,.int .u64 0] 162 #[] rfl rfl (by k_ne) h2 (λ_=>bj) (λ_=>bj) aG λbx aas Ut h3 o3 l3=>?_
 walk_nrm
 refine ET.writes #[.pointer<|some ⟨9,138,none⟩,.pointer bv,.int .u64 150] rfl rfl (by k_ne) h3 o3 l3 (λW hW=>SG rfl rfl rfl hW rfl) λabZ h4=>?_
 walk_nrm
 apply ET.ns;refine ET.looks (.agg #[.pointer<|some ⟨9,138,none⟩,.pointer bv,.int .u64 150]) rfl rfl (by k_ne) h4 (λW hW=>Xh (wH rfl rfl) hW<|.head _) ?_;walk_nrm
 refine ET.ext (.iface 187<|.agg #[.pointer<|some ⟨9,138,none⟩]) 127 rfl ?_;walk_nrm
 refine ET.pure (.iface 187<|.agg #[.pointer<|some ⟨9,138,none⟩]) rfl ?_;walk_nrm
 apply ET.rn;apply ET.sq;apply ET.sr;refine ET.pure (.iface 187<|.agg #[.pointer<|some ⟨9,138,none⟩]) rfl ?_;walk_nrm
 refine ET.ext (.int .u8 22) 273 rfl ?_;walk_nrm
 refine ET.pure false rfl ?_;walk_nrm
 refine ET.pure false rfl ?_;walk_nrm
 refine ET.looks (.agg #[.pointer<|some ⟨9,138,none⟩,.pointer bv,.int .u64 150]) rfl rfl (by k_ne) h4 (λW hW=>Xh (wH rfl rfl) hW<|.head _) ?_;walk_nrm
 refine ET.looks false rfl rfl (by k_ne) h4 (λW hW=>TQ (D0 (e:=ReflectliteValue.method (ReflectliteValue.valueError "reflectlite.Value.IsNil" 0) ReflectliteValue.isNil) rfl Tryz.func128 bj bj bj bj (by simp[Act.eval]) λes=>OS bv br W es<|hW.cell (.tail _<|.head _) rfl)<|.tail _<|.head _) ?_;walk_nrm
 refine ET.pure false rfl ?_;walk_nrm
 apply ET.rn;refine ET.gP rfl ?_;apply ET.sk;apply ET.sr;refine ET.pure (.iface 187<|.agg #[.pointer<|some ⟨9,138,none⟩]) rfl ?_;walk_nrm
 refine ET.ext (.iface 187<|.agg #[.pointer<|some ⟨9,131,none⟩]) 301 rfl ?_;walk_nrm
 refine ET.pure (.iface 187<|.agg #[.pointer<|some ⟨9,131,none⟩]) rfl ?_;walk_nrm
 apply ET.rn;apply ET.sq;apply ET.sr;refine ET.pure (.iface 187<|.agg #[.pointer<|some ⟨9,131,none⟩]) rfl ?_;walk_nrm
 refine ET.ext (.int .u8 25) 273 rfl ?_;walk_nrm
 refine ET.pure true rfl ?_;walk_nrm
 refine ET.pure true rfl ?_;walk_nrm
 refine ET.pure (.iface 187<|.agg #[.pointer<|some ⟨9,131,none⟩]) rfl ?_;walk_nrm
 refine ET.looks (.iface 187<|.agg #[.pointer<|some ⟨9,93,none⟩]) rfl rfl (by k_ne) h4 (λW hW=>Xh (JA rfl rfl (λ_=>bj) λ_ _=>bj) hW<|.tail _<|.tail _<|.tail _<|.head _) ?_;walk_nrm
 refine ET.ext true 302 rfl ?_;walk_nrm
 refine ET.pure false rfl ?_;walk_nrm
 refine ET.pure false rfl ?_;walk_nrm
 apply ET.rn;refine ET.gP rfl ?_;apply ET.sk;apply ET.sr;refine ET.pure (.iface 131<|.agg #[c]) rfl ?_;walk_nrm
 refine ET.pure (.iface 138<|.pointer br) rfl ?_;walk_nrm
 refine ET.looks (.agg #[.pointer<|some ⟨9,138,none⟩,.pointer bv,.int .u64 150]) rfl rfl (by k_ne) h4 (λW hW=>Xh (wH rfl rfl) hW<|.head _) ?_;walk_nrm
 refine ET.pure (.iface 187<|.agg #[.pointer<|some ⟨9,131,none⟩]) rfl ?_;walk_nrm
 (refine ET.k rfl λ_ _ _=>goes_call rfl rfl (by k_ne) rfl Tryz.func129 bj rfl ⟨⟨rfl,λe he=>ic⟩,?_⟩;walk_nrmf Tryz.f129)
 apply ET.sr;refine ET.makes (λB=>.pointer<|some ⟨B,0,none⟩) #[.pointer<|some ⟨9,138,none⟩,.pointer bv,.int .u64 150] 162 #[] rfl rfl (by k_ne) h4 (λ_=>bj) (λ_=>bj) aG λbb abX ab0 h5 o5 l5=>?_
 walk_nrm
 refine ET.pure false rfl ?_;walk_nrm
 apply ET.rn;refine ET.c (λ_=>stepG_block) ?_;refine ET.c (λ_=>stepG_loop) ?_;refine ET.c (λ_=>stepG_block) ?_;apply ET.sq;apply ET.sr;refine ET.pure (.iface 131<|.agg #[c]) rfl ?_;walk_nrm
 refine ET.ext (.iface 187<|.agg #[.pointer<|some ⟨9,131,none⟩]) 151 rfl ?_;walk_nrm
 refine ET.pure (.iface 187<|.agg #[.pointer<|some ⟨9,131,none⟩]) rfl ?_;walk_nrm
 refine ET.ext true 299 rfl ?_;walk_nrm
 apply ET.rn;refine ET.kV rfl ?_;apply ET.sr;refine ET.looks (.agg #[.pointer<|some ⟨9,138,none⟩,.pointer bv,.int .u64 150]) rfl rfl (by k_ne) h5 (λW hW=>Xh (wH rfl rfl) hW<|.head _) ?_;walk_nrm
 refine ET.looks (.agg #[.pointer<|some ⟨9,131,none⟩,.pointer br,.int .u64 409]) rfl rfl (by k_ne) h5 (λW hW=>TQ (D0 (e:=ReflectliteValue.method (ReflectliteValue.valueError "reflectlite.Value.Elem" 0) ReflectliteValue.elem) rfl Tryz.func152 bj bj bj bj (by simp[Act.eval]) λes=>Ql bv br W es<|hW.cell (.tail _<|.tail _<|.head _) rfl)<|.tail _<|.tail _<|.head _) ?_;walk_nrm
 refine ET.pure (.iface 131<|.agg #[c]) rfl ?_;walk_nrm
 refine ET.makes (λB=>.agg #[.pointer<|some ⟨9,131,none⟩,.pointer<|some ⟨B,0,none⟩,.int .u64 153]) #[c] 131 #[⟨.mark<|.extern 126,false,true⟩] rfl rfl (by k_ne) h5 (λ_=>bj) (λ_=>bj) (by simp[vE]) λbe abY ab1 h6 o6 l6=>?_
 walk_nrm
 refine ET.abI (.tuple #[]) rfl rfl (by k_ne) h6 (.tail _<|.tail _<|.tail _<|.tail _<|.head _) (.head _) o1 (λW hW=>QY (e:=ReflectliteValue.set) rfl Tryz.func153 bj bj bj bj (by simp[Act.eval]) λes=>WK br be c _ W es (hW.cell (.head _) rfl) (hW.cell (.tail _<|.tail _<|.tail _<|.tail _<|.head _) rfl)<|hW.thaw<|.tail _<|.tail _<|.tail _<|.tail _<|.head _) λab2 h7=>?_
 walk_nrm
 apply ET.ns;refine ET.pure true rfl ?_;walk_nrm
 apply ET.rn;apply ET.rt
 (refine ET.k rfl λ_ _ _=>goes_leave1 rfl rfl Tryz.func129 rfl ⟨⟨rfl,λe he=>ic⟩,?_⟩;walk_nrm)
 refine ET.pure true rfl ?_;walk_nrm
 apply ET.rn;apply ET.rt
 (refine ET.k rfl λ_ _ _=>goes_leave1 rfl rfl Tryz.func98 rfl ⟨⟨rfl,λe he=>ic⟩,?_⟩;walk_nrm)
 apply ET.rn;refine ET.kV rfl ?_;apply ET.sr;refine ET.pure (.pointer br) rfl ?_;walk_nrm
 refine ET.looks c rfl rfl (by k_ne) h7 (λW hW=>Xh (JA rfl rfl (λ_=>bj) λ_ _=>bj) hW<|.head _) ?_;walk_nrm
 refine ET.pure c rfl ?_;walk_nrm
 apply ET.rn;apply ET.rt;refine ET.CI (.int .i64 c) rfl rfl Tryz.func68 (λah _ _=>⟨bj,λe he=>?_⟩) ?_
 .rw[show(results Tryz.f68 _).events Tryz.prog ah #[]=#[] by kernel_rfl]at he;simp at he
 exact ET.stop λW' k _=>⟨rfl,(h7.rely k).less aG⟩
def QM (h0:CS M W [] M W):
  ET Tryz.prog true (λ_=>True) Ph.nO (λ_=>False) (λM' g W'=>g=G (r0.finish<|.int .i64 0) rest/\CS M W [] M' W') M
   (G ((base 68).at ⟨#[.nilIface,ud,ud,ud,ud,ud,ud,ud,ud],[]⟩ [.code Am]) (r0::rest)) W:=by
 simp only[Am,Tryz.f68,Option.getD_some];apply ET.sr;refine ET.pure (.int .i64 0) rfl ?_;walk_nrm
 apply ET.ns;refine ET.makes (λB=>.pointer<|some ⟨B,0,none⟩) #[(0:Int)] 131 #[] rfl rfl (by k_ne) h0 (λ_=>bj) (λ_=>bj) aG λbr gi My h1 o1 l1=>?_
 walk_nrm
 apply ET.rn;apply ET.sq;apply ET.sr;refine ET.pure (.nilIface) rfl ?_;walk_nrm
 refine ET.pure (.iface 138<|.pointer br) rfl ?_;walk_nrm
 (refine ET.k rfl λ_ _ _=>goes_call rfl rfl (by k_ne) rfl Tryz.func98 bj rfl ⟨⟨rfl,λe he=>ic⟩,?_⟩;walk_nrmf Tryz.f98)
 apply ET.sr;refine ET.pure false rfl ?_;walk_nrm
 apply ET.rn;apply ET.sq;apply ET.sr;refine ET.pure (.nilIface) rfl ?_;walk_nrm
 refine ET.pure true rfl ?_;walk_nrm
 apply ET.rn;refine ET.kV rfl ?_;apply ET.sr;refine ET.pure false rfl ?_;walk_nrm
 apply ET.rn;apply ET.rt
 (refine ET.k rfl λ_ _ _=>goes_leave1 rfl rfl Tryz.func98 rfl ⟨⟨rfl,λe he=>ic⟩,?_⟩;walk_nrm)
 apply ET.rn;refine ET.gP rfl ?_;apply ET.sk;apply ET.sr;refine ET.pure (.int .i64 0) rfl ?_;walk_nrm
 apply ET.rn;apply ET.rt;refine ET.CI (.int .i64 0) rfl rfl Tryz.func68 (λah _ _=>⟨bj,λe he=>?_⟩) ?_
 .rw[show(results Tryz.f68 _).events Tryz.prog ah #[]=#[] by kernel_rfl]at he;simp at he
 exact ET.stop λW' k _=>⟨rfl,(h1.rely k).less aG⟩
