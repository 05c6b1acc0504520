import Derived.Test.YtlmcblcijndipaaGreatDoora14
import Derived.Stop.Asserts
import Derived.RowKitTokens
import Derived.LaidEql
set_option linter.defProp false
set_option linter.unusedSimpArgs false
set_option linter.unusedVariables false
set_option maxHeartbeats 2000000
set_option maxRecDepth 100000
namespace Go.Proofs.YtlmcblcijndipaaGreatDoor
open Conc Conc.Lib ConcR.Gen Go Go.Conc Go.Conc.Lib Go.ConcR.Gen Go.Extern Go.Extern.Stop Go.RowKit Go.Stop RowKit
variable {Stop:(Nat->Prop)->Goroutine->World->Prop}{a:Act}{gs:Array Goroutine}{ops:Array Oper}{Xu:Array TypeId}{cs xs ys:Array Value}{e:Array Value->Sem Value}{m:Bool}{ok:Ctx}{X:Event->Prop}{c r0:Frame}{fn:Func}{f:FuncId}{L:List (Nat×Array Value×TypeId)}{rest:List Frame}{k:List Item}{am:Loc->Prop}{B Bs b bb bl bn i lc ln nb nc nn no r4 tb wg:Nat}{q:Nat->Nat}{S:Nat->Nat->Prop}{M ft ga:Nat->Prop}{gT:Nat->Value}{Is:Nat->aJ->Prop}{o:Oper}{x:Operand}{sl:Option (Nat×Nat)}{la:Option Addr}{P P0:Program}{t ty:TypeId}{v v10 v9 y:Value}{W acH w:World}{lt:aJ->aJ->Bool}
section
variable [Gl]
structure Ju (P0:Program)(ok:Ctx)(M:Nat->Prop)(w:World)(la:Option Addr)(ln lc nb no nn:Nat)(gT:Nat->Value)(S:Nat->Nat->Prop)(Is:Nat->aJ->Prop)(lt:aJ->aJ->Bool):Prop where
 U4:M nb
 gP:∀i,i<nn->w.cell? ⟨nb,no+i,none⟩=some (gT i)
 sm:∀i b,S i b->M b
 closed:∀i,i<nn->∀ah,aK (λb=>b=nb\/∃i,S i b) w ah->qY ok (S i) ah
 LK:∀i,i<nn->ar ok (rG<|S i) (.slice la ln lc) (.slice la ln lc)
 LL:∀i,i<nn->ar ok (rG<|S i) (gT i) (gT i)
 OK:∀i,i<nn->∀(F:Nat->Prop) ah,aK (λb=>b=nb\/∃i,S i b) w ah->∀τ d,Calls P0 189 #[.slice la ln lc,gT i] (re (fw F ah) τ d) λe w'=>∃x:aJ,e=.returned x.val/\Is i x/\iZ w' (λb=>ah.heap.size<=b) x
 ren:∀i x a',Is i x->(x.a=none<->a'=none)->Is i {x with a:=a'}
 least:∀(V:World) (b:Nat) (xs:List aJ) (z:Nat×Nat),xs.length<=1048576->V.heap[b]?=some (.cells (xs.flatMap aJ.cells).toArray 177 z)->(∀x∈xs,ep V x.a x.n x.g/\x.n<=1048576)->
  Calls P0 160 #[.slice b xs.length xs.length,.func (.func 161) #[] #[]] V λe w'=>e=.returned (Jb.cZ ⟨0,0,0,0,0,0,0,.nilFunc,gT,S,Is,lt,0⟩ xs).val/\Below V V w'
 SP:ok.bh 189=true/\ok.bh 160=true/\ok.fn 161=true
variable {rb:List Frame}{t:Trace}
omit [Gl] in
def dJ.split {V R:Nat->Prop}{a:Goroutine}(h:dJ P am V (λ_=>False) M gs a w t q)(hR:∀b,R b->M b):dJ P am V R (λb=>M b/\¬R b) gs a w t q:=
 ⟨h.main,h.quit,h.past,h.who,λb hb=>h.lt b<|.inl<|hb.elim And.left<|hR b,λb hb=>h.ky b<|.inl<|hb.elim And.left<|hR b,h.low,h.un,h.Lq,λb hb=>⟨λx=>(h.vm b hb).1 x.1,λx=>(h.vm b hb).1<|hR b x⟩⟩
omit [Gl] in
def uM (J J':Jb)(h:J.lt=J'.lt)(xs:List aJ):J.cZ xs=J'.cZ xs:=by
 have:J.pick=J'.pick:=by funext x y;simp[Jb.pick,h]
 cases xs with
 |nil=>rfl
 |cons x xs=>simp only[Jb.cZ,this]
noncomputable def ph (J:Jb)(wg tb Bs nn Jn T:Nat):Ph:={P:=Tryz.prog,ty:=210,Wg:=wg,tk:=tb,Bs:=Bs,Xz:=177,wd:=4,n:=4,L:=nn,J:=Jn,iE:=T,Tn:=Ir J,pl:=⟨0⟩}
omit [Gl] in
def Vp (J:Jb)(wg tb Bs nn Jn T:Nat):(ph J wg tb Bs nn Jn T).jG:=by
 rintro seq vs M w w' ⟨x,h1,h2,h3,h4⟩ k;exact⟨x,h1,h2,h3.keep (λ_ h=>h) λa ha=>k.block _ (h3.blk a ha).2.1,h4⟩
def QX (eG:dM P0 P0 ok)(hP:dM P0 Tryz.prog ok)(iv:∀f,ok.fn f=true->ok.bh f=true)(yY:jE P0 c)(hn:nn+4<4611686018427387904)
  (h:dJ Tryz.prog am (λb=>(False\/b=tb)\/b=wg) (λ_=>False) ga gs (G ((base 139).at ⟨#[.slice la ln lc,.slice (some ⟨nb,no,none⟩) nn nc,.pointer bl,.pointer bn,.pointer r4,.pointer tb,.pointer wg,.pointer bb,undef,v9,v10,.int .i64 4,.int .i64 0,ud,ud,ud,ud,ud,ud,ud,ud],[]⟩ [.code li,.inLoop li,.inBlock 0,.code iT]) rb) w t q)
  (hf:Ju P0 ok ga w la ln lc nb no nn gT S Is lt)(Fv:Gl.n<=w)(ho:bl<bn/\bn<r4/\r4<tb/\tb<wg/\wg<Bs/\Bs<bb)(Sr:ga bl/\ga bn/\ga r4/\ga Bs/\ga bb)(Dc:nb<bl)(hSb:∀i b,S i b->b<bl)
  (cl:w.heap[bl]?=some (.cells #[.slice la ln lc] 23 (0,0)))(cn:w.heap[bn]?=some (.cells #[.slice (some ⟨nb,no,none⟩) nn nc] 179 (0,0)))
  (ct:w.heap[tb]?=some (.cells #[(0:Int)] 203 (0,0)))(cw:w.heap[wg]?=some (.cells #[.int .u64 0,.int .u32 0] 210 (0,0)))
  (cb:w.heap[bb]?=some (.cells #[.slice Bs 4 4] 211 (0,0)))(cB:∃cs,w.heap[Bs]?=some (.cells cs 177 (0,0))/\cs.size=16):
  ∃(J:Jb),J.lt=lt/\J.Is=Is/\J.bb=bb/\J.base=w.heap.size/\∃(p:Ph),p=ph J wg tb Bs nn gs.size t.size/\∃N jN w' kz t' a' qH pq seq vs Mr,∃M' Ro0:Nat->Prop,runNT Tryz.prog N (crowd gs w sl) t=(.next<|crowd jN w' kz,t')/\
   p.Out am (p.Tj (Xg J P0 p ok M' Ro0 w r4 (.slice la ln lc)<|.slice (some ⟨nb,no,none⟩) nn nc) (base 139) uR 0 [] [.code (fE iT)] rb) jN w' t' a' qH pq seq vs Mr/\∀b,ga b->b≠Bs->M' b\/Ro0 b:=by
 let J:Jb:=⟨bl,bn,bb,nb,no,nc,tb,.slice la ln lc,gT,S,Is,lt,w.heap.size⟩
 let p:Ph:=ph J wg tb Bs nn gs.size t.size
 let R:Nat->Prop:=λb=>b=bl\/b=bn\/b=bb\/b=nb\/∃i,S i b
 let M':Nat->Prop:=λb=>(ga b/\¬R b)/\b≠Bs
 have R_:∀b,R b->ga b:=by
  rintro b (rfl|rfl|rfl|rfl|⟨i,hs⟩)
  .exact Sr.1
  .exact Sr.2.1
  .exact Sr.2.2.2.2
  .exact hf.U4
  .exact hf.sm i b hs
 have YO:∀b,(b=nb\/∃i,S i b)->R b:=λb hb=>.inr<|.inr<|.inr hb
 have hJ:mN J P0 p ok R w:=⟨rfl,rfl,rfl,rfl,rfl,rfl,rfl,ac5 _,cl,cn,cb,.inl rfl,.inr<|.inl rfl,.inr<|.inr<|.inl rfl,.inr<|.inr<|.inr<|.inl rfl,hf.gP,λi b hs=>.inr<|.inr<|.inr<|.inr ⟨i,hs⟩,λi hi ah k=>hf.closed i hi ah<|k.mono YO,hf.LK,hf.LL,λi hi F ah k τ d=>hf.OK i hi F ah (k.mono YO) τ d,hf.ren,λV b xs z h1 h2 h3=>by rw[uM J _ rfl];exact hf.least V b xs z h1 h2 h3,hf.SP⟩;have FD:∀b,p.Sp b->¬M' b/\¬R b:=by
  rintro b (e|e|e)
  .rw[show b=wg from e];have hv:=(h.vm wg<|.inr rfl).1;exact⟨λx=>hv x.1.1,λx=>hv<|R_ _ x⟩
  .rw[show b=tb from e];have hv:=(h.vm tb<|.inl<|.inr rfl).1;exact⟨λx=>hv x.1.1,λx=>hv<|R_ _ x⟩
  .rw[show b=Bs from e];refine⟨λx=>x.2 rfl,?_⟩;show¬(Bs=bl\/Bs=bn\/Bs=bb\/Bs=nb\/∃i,S i Bs);rintro(x|x|x|x|⟨i,x⟩)
   .omega
   .omega
   .omega
   .omega
   .have:=hSb i _ x;omega
 have Gm:∀b,p.Sp b->b<w:=by
  rintro b (e|e|e)
  .rw[show b=wg from e];exact h.Lq wg<|.inr rfl
  .rw[show b=tb from e];exact h.Lq tb<|.inl<|.inr rfl
  .rw[show b=Bs from e];exact h.lt Bs<|.inl Sr.2.2.2.1
 have JZ:BT J P0 p ok M' R w R M' w:=⟨hJ,λb x=>x,aK.refl _ _,λb hb=>⟨(FD b hb).1,(FD b hb).2,Gm b hb⟩,λb hb=>h.lt b<|.inl<|hb.elim (λx=>x.1.1)<|R_ b,λb hb=>hb.1.2,Fv,by show wg≠Bs;omega⟩;have hs:=Ok (J:=J) (p:=p) (M':=M') (Ro0:=R) (Wst:=w) (cs:=rb) (r4:=r4) (t0:=.slice la ln lc) (t1:=.slice (some ⟨nb,no,none⟩) nn nc) eG hP iv yY (show nn<4611686018427387904 by omega) rfl rfl 4 0 undef v9 v10 undef undef undef undef undef undef undef undef R M' w rfl JZ;have gF:1<=gs.size:=(ac7.1 h.main).1;have hG:p.Geo am:=⟨by show wg≠tb;omega,by show wg≠Bs;omega,by show tb≠Bs;omega,λa ha=>h.ky Bs (.inl Sr.2.2.2.1) (.cell a) ha,gF⟩;let⟨N,jN,w',kz,t',a',qH,pq,seq,vs,Mr,d6,Ca⟩:=Ph.phase (p:=p) (sl:=sl) (M':=M') (Fin:=p.Tj (Xg J P0 p ok M' R w r4 (.slice la ln lc)<|.slice (some ⟨nb,no,none⟩) nn nc) (base 139) uR 0 [] [.code (fE iT)] rb)
  (Vp J wg tb Bs nn gs.size t.size) hG (by show 4<2147483647;omega) (by show 1<=4;omega) (show nn+4<4611686018427387904 from hn) (by rintro _ _ _ _ ⟨T,acI,rfl,_⟩;rfl)
  (λRo M g W hA _=>Ph.waitRound (p:=p) (L:=link) Bc (λa Ro M w acV hF k=>⟨hF.1,hF.2.rely k⟩) (λa Ro M w hF e=>e.elim (hF.2.sp _<|.inl rfl).1 (hF.2.sp _<|.inl rfl).2.1) Ro M g W hA)
  (h.split R_) rfl rfl (.inr rfl) (.inl<|.inr rfl) (Gm _<|.inr<|.inr rfl) (λb hb=>hb.1) FD (λb hb=>hb.1.2) cw ⟨fy ct,by show w.frozen? tb=false;simp[World.frozen?,ct]⟩ (by let⟨cs,g1,g2⟩:=cB;exact⟨cs,g1,g2⟩) hs
 exact⟨J,rfl,rfl,rfl,rfl,p,rfl,N,jN,w',kz,t',a',qH,pq,seq,vs,Mr,M',R,d6,Ca,λb hb hne=>by
  by_cases x:R b
  .exact .inr x
  .exact .inl ⟨⟨hb,x⟩,hne⟩⟩
end
section
variable [Gl]{J:Jb}
def JB (eG:dM P0 P0 ok)(hP:dM P0 Tryz.prog ok)(iv:∀f,ok.fn f=true->ok.bh f=true)(yY:jE P0 c)(ez:ok.bh 160=true/\ok.fn 161=true)
  (UJ:∀(V:World) (b:Nat) (xs:List aJ) (z:Nat×Nat),xs.length<=1048576->V.heap[b]?=some (.cells (xs.flatMap aJ.cells).toArray 177 z)->(∀x∈xs,ep V x.a x.n x.g/\x.n<=1048576)->
   Calls P0 160 #[.slice b xs.length xs.length,.func (.func 161) #[] #[]] V λe w'=>e=.returned (J.cZ xs).val/\Below V V w')
  (pG:∀xs,xs≠[]->J.cZ xs∈xs){xs:List aJ}(h4:xs.length=4){t0 t1 v8 v12 v13 v14 v15 v16 v17 v18 v19 v20:Value}
  (hM:∀b,M b->b<W)(Fv:Gl.n<=W)(m4:M r4)(mb:M bb)(mB:M Bs)(n1:r4≠Bs)(n2:bb≠Bs)(n3:r4≠bb)(c4:∃cs:Array Value,W.heap[r4]?=some (.cells cs 177 (0,0))/\cs.size=4)
  (cb:W.heap[bb]?=some (.cells #[.slice Bs 4 4] 211 (0,0)))(cB:W.heap[Bs]?=some (.cells (xs.flatMap aJ.cells).toArray 177 (0,0)))(hx:∀x∈xs,iZ W (λb=>M b/\b≠r4/\b≠bb) x):
  ET Tryz.prog true (λ_=>True) Ph.nE (λ_=>False) (λM' g W'=>g=G (r0.finish (J.cZ xs).val) rest/\(∀b,M b->M' b)/\aK (λb=>M b/\b≠r4/\b≠Bs) W W'/\∀x∈xs,iZ W' M' x) M
   (G ((base 139).at (Act.put ⟨#[t0,t1,.pointer bl,.pointer bn,.pointer r4,.pointer tb,.pointer wg,.pointer bb,v8,v9,v10,(4:Int),v12,v13,v14,v15,v16,v17,v18,v19,v20],[]⟩ ((uR[0]?).bind (·.dst))<|.tuple #[])<|.inRegion uR []::[.code (fE iT)]) (r0::rest)) W:=by
 have XG:(uR[0]?).bind (·.dst)=some 18:=bD;rw[XG];simp only[iT,dQ,Tryz.f139,Option.getD_some,fE];walk_nrm
 apply ET.ns;refine ET.val (.slice Bs 4 4) rfl rfl (by k_ne) (λah acP _=>?_) ?_
 .have hc:=fy<|(acP.block _<|.inl mb).trans cb;refine⟨?_,λe he=>?_⟩
  .go_simp
  .simp[go_sem,hc]at he;subst he;exact gA mb
 walk_nrm
 have hne:xs≠[]:=λe=>by rw[e]at h4;simp at h4
 have hm:=pG xs hne;have S_:∀x∈xs,∀a,x.a=some a->(λb=>b=Bs\/∃x,x∈xs/\∃a,x.a=some a/\a.block=b) a.block:=λx hx a ha=>.inr ⟨x,hx,a,ha,rfl⟩
 have WK:∀z∈xs,∀v∈z.cells,ar ok (rG λb=>b=Bs\/∃x,x∈xs/\∃a,x.a=some a/\a.block=b) v v:=by
  intro z hz v hv;simp only[aJ.cells,List.mem_cons,List.not_mem_nil,or_false]at hv;rcases hv with rfl|rfl|rfl|rfl
  .exact .bool _
  .exact .int _ _
  .exact .int _ _
  .cases hza:z.a with
   |none=>exact .dH _ _
   |some a=>exact .slice _ _ ⟨fP.2 ⟨S_ z hz a hza,rfl⟩,rfl,rfl⟩
 refine ET.F5 (I:=λ_=>True) (Sp:=λ_=>False) eG hP iv yY rfl rfl (by k_ne) rfl Tryz.func160 bD rfl ez.1 (λ_ _ _ _=>trivial) (λb hb=>hb) ⟨λb hb=>hb.elim,λb hb=>hb.elim⟩ hM Fv (λb=>b=Bs\/∃x,x∈xs/\∃a,x.a=some a/\a.block=b)
  (λdv v w=>v=(J.cZ xs).val/\∀b,b<dv.heap.size->w.heap[b]?=(fw (λ_=>False) dv).heap[b]?) (λW v w τ d h=>h) ?_ ?_ ?_ ?_ ?_
 .rintro b (rfl|⟨x,h1,a,ha,rfl⟩)
  .exact .inl mB
  .exact .inl ((hx x h1).blk a ha).2.1.1
 .intro dv dB;refine⟨?_⟩;rintro b (rfl|⟨x,h1,a,ha,rfl⟩)
  .refine⟨_,_,(dB.block _<|.inl mB).trans cB,λv hv=>?_⟩;simp only[List.mem_toArray,List.mem_flatMap]at hv;let⟨z,h1,h2⟩:=hv;exact WK z h1 v h2
  .let⟨_,h2,cs,e,h3,h4⟩:=(hx x h1).blk a ha;exact⟨cs,e,(dB.block _<|.inl h2.1).trans h3,λv hv=>by obtain⟨n,rfl⟩:=h4 v hv;exact .int _ _⟩
 .intro v hv;simp[Act.eval]at hv;rcases hv with rfl|rfl
  .exact .slice _ _ ⟨fP.2 ⟨.inl rfl,rfl⟩,rfl,rfl⟩
  .exact .func (.func ez.2) rfl (λi x x' h=>by simp at h) rfl (λi x x' h=>by simp at h)
 .intro dv dB _ τ d;walk_nrm
  let⟨z',h1,_⟩:=gb (F:=λ_=>False)<|(dB.block _<|.inl mB).trans cB;have hc:=UJ (re (fw (λ_=>False) dv) τ d) Bs xs z' aa h1 λx dG=>⟨rI ((hx x dG).keep (M':=λ_=>True) (λ_ _=>trivial) λa ha=>dB.block _<|.inl ((hx x dG).blk a ha).2.1.1).row,(hx x dG).small⟩;rw[h4]at hc;refine hc.mono ?_;rintro e w' ⟨rfl,hb⟩;exact⟨_,rfl,rfl,λb dw=>hb.block b (by show b<(fw (λ_=>False) dv).heap.size;rw[jq];exact dw)⟩
 .intro dv v' M' W' dB abi i' hB;have IS:∀x∈xs,iZ dv (λb=>M b/\b≠r4/\b≠bb) x:=λx dG=>(hx x dG).keep (λ_ h=>h) λa ha=>dB.block _ (.inl ((hx x dG).blk a ha).2.1.1)
  obtain⟨σ,v,V',hv,⟨rfl,Ye⟩,hw,hS,oU,MO⟩:=hB.res;obtain⟨a',rfl,hn,ha⟩:=yJ hv;have ea:a'=(J.cZ xs).a:=by
   cases e:(J.cZ xs).a with
   |none=>exact hn.1 e
   |some a=>
    let⟨d,h1,h2⟩:=ha a e;have h3:=h2.blk;rw[hS _ (S_ _ hm a e)]at h3;simp only[Option.some.injEq]at h3;rw[h1];let⟨d1,d2,d3⟩:=d;have h4:=h2.off;have h5:=h2.spot;let⟨a1,a2,a3⟩:=a;simp only at h3 h4 h5;rw[h3,h4,h5]
  have ev:aJ.val {J.cZ xs with a:=a'}=(J.cZ xs).val:=by rw[ea]
  rw[ev];have same:∀b cs e,M b->σ b=some b->dv.heap[b]?=some (.cells cs e (0,0))->(∀v∈cs,∃n:Int,v=.int .i64 n)->W'.heap[b]?=dv.heap[b]?:=by
   intro b cs e hm hs h3 h4;let⟨o,o',g1,g2,g3⟩:=hw.heap _ _ hs;let⟨z',f1,_⟩:=gb (F:=λ_=>False) h3;rw[Ye b (ac6 (hM b hm) dB.size),f1]at g1;cases g1;cases g3 with
   |@cells _ c' _ _ z'' hv hz=>
    replace hz:=hz.resolve_right (λh=>by cases h.1);have:c'=cs:=by
     refine Array.ext hv.size.symm λj h1 h2=>?_
     let⟨n,Ln⟩:=h4 cs[j]<|Array.getElem_mem h2;have:=hv.at_ j _ _ (adc h2)<|adc h1;rw[Ln]at this⊢;generalize c'[j]=w at this;cases this;rfl
    rw[g2,h3,this,hz];rfl
  have IE:∀b,M b->b≠Bs->W'.heap[b]?=dv.heap[b]?:=by
   intro b hb hne;by_cases hs:(λb=>b=Bs\/∃x,x∈xs/\∃a,x.a=some a/\a.block=b) b
   .have mJ:=hS b hs;rcases hs with e|⟨x,h1,a,ha,rfl⟩
    .exact absurd e hne
    .let⟨_,_,cs,e,h3,h4⟩:=(IS x h1).blk a ha;exact same _ cs e hb mJ h3 h4
   .exact hB.rest.block b ⟨hb,hs⟩
  have nx:∀x∈xs,∀a,x.a=some a->a.block≠Bs:=λx h1 a ha e=>by
   let⟨_,_,cs,e',h3,h4⟩:=(hx x h1).blk a ha;rw[e,cB]at h3;cases h3;let⟨n,hn⟩:=h4 (.bool x.ok) (by simp only[List.mem_toArray,List.mem_flatMap];exact⟨x,h1,by simp[aJ.cells]⟩);cases hn
  have dG:∀x∈xs,iZ W' (λb=>M' b/\b≠r4) x:=λx h1=>(IS x h1).keep (λb hb=>⟨hB.own _ hb.1,hb.2.1⟩) λa ha=>IE _ ((IS x h1).blk a ha).2.1.1<|nx x h1 a ha
  have pc:aK (λb=>M b/\b≠r4/\b≠Bs) W W':=⟨λb hb=>(IE b hb.1 hb.2.2).trans<|dB.block b<|.inl hb.1,ac8 dB.size hB.ro.size,hB.ro.os.trans dB.os,hB.ro.out.trans dB.out⟩;have c4':∃cs:Array Value,W'.heap[r4]?=some (.cells cs 177 (0,0))/\cs.size=4:=by
   let⟨cs,g1,g2⟩:=c4;exact⟨cs,(IE _ m4 n1).trans<|(dB.block _<|.inl m4).trans g1,g2⟩
  have ZD:=hB.own _ m4;have bc:=hB.own;clear IE same hw hS oU MO hv hn ha ea ev Ye hB IS dB c4 cb cB hx;walk_nrm
  refine ET.none rfl rfl (by k_ne) λqA kv _=>?_
  let⟨cs,g1,g2⟩:=c4';have P8:=(kv.block _<|.inl ZD).trans g1;refine⟨qA.setRow r4 (J.cZ xs).cells.toArray,(fI rfl rfl rfl P8 g2).1,?_,?_⟩
  .refine eP.row _ ZD λe he=>?_
   obtain⟨j,rfl⟩:=(fI (t:=J.cZ xs) rfl rfl rfl P8 g2).2 e<|mem_listed he;exact gA ZD
  rw[cJ (setRow_size _ _ _)];have h6:(qA.setRow r4 (J.cZ xs).cells.toArray).heap[r4]?=some (.cells (J.cZ xs).cells.toArray 177 (0,0)):=setRow_heap _ _ _ _ _ _ P8;have ho:∀b,b≠r4->(qA.setRow r4 (J.cZ xs).cells.toArray).heap[b]?=qA.heap[b]?:=λb hb=>setRow_other _ _ _ _ hb
  have hx4:∀x∈xs,iZ (qA.setRow r4 (J.cZ xs).cells.toArray) (λb=>M' b/\b≠r4) x:=λx h1=>(dG x h1).keep (λ_ h=>h) λa ha=>(ho _ ((dG x h1).blk a ha).2.1.2).trans<|kv.block _<|.inl ((dG x h1).blk a ha).2.1.1
  have UH:aK (λb=>M b/\b≠r4/\b≠Bs) W (qA.setRow r4 (J.cZ xs).cells.toArray):=pc.trans ⟨λb hb=>(ho b hb.2.1).trans<|kv.block b<|.inl<|bc b hb.1,by rw[setRow_size];exact kv.size,kv.os,kv.out⟩;generalize qA.setRow r4 (J.cZ xs).cells.toArray=ab3 at h6 hx4 UH⊢;clear ho dG pc kv g1 P8;walk_nrm
  apply ET.rn;apply ET.rt;refine ET.Cv (J.cZ xs).val rfl rfl Tryz.func139 (λLD zn _=>?_)<|ET.stop λLD zn _=>⟨rfl,bc,UH.trans<|zn.mono λb hb=>.inl<|bc b hb.1,λx h1=>(hx4 x h1).keep (λb hb=>hb.1) λa ha=>zn.block _<|.inl ((hx4 x h1).blk a ha).2.1.1⟩;have I_:=(zn.block _<|.inl ZD).trans h6;have q0:LD.cell? r4=some (.bool (J.cZ xs).ok):=DD;have q1:LD.cell? ⟨r4,1,none⟩=some (.int .i64 (J.cZ xs).sum):=DD;have q2:LD.cell? ⟨r4,2,none⟩=some (.int .i64 (J.cZ xs).most):=DD;have q3:LD.cell? ⟨r4,3,none⟩=some (.slice (J.cZ xs).a (J.cZ xs).n (J.cZ xs).cap):=DD;refine⟨?_,λe he=>?_⟩
  .simp[results,Tryz.f139,go_sem,aJ.val,q0,q1,q2,q3]
  .simp[results,Tryz.f139,go_sem,q0,q1,q2,q3]at he;rcases he with rfl|rfl|rfl|rfl<;>exact gA ZD
end
section
variable [Gl]{t:Trace}
def r_ (lt:aJ->aJ->Bool)(Is:Nat->aJ->Prop)(nn:Nat)(x:aJ):Prop:=
 ∃(J:Jb) (xs:List aJ) (seq:Nat->List Nat),J.lt=lt/\J.Is=Is/\xs.length=4/\(∀i y,xs[i]?=some y->wc J (seq i) y)/\(∀k,k<nn->∃i,i<4/\k∈seq i)/\(∀i,i<4->∀k∈seq i,k<nn)/\x=J.cZ xs
omit [Gl] in
def xH (J:Jb):∀xs,xs≠[]->J.cZ xs∈xs:=by
 intro xs h;cases xs with
 |nil=>exact absurd rfl h
 |cons x xs=>
  simp only[Jb.cZ];clear h;induction xs generalizing x with
  |nil=>simp
  |cons y ys ih=>
   simp only[List.foldl_cons];have:=ih<|J.pick x y;rcases J.pk x y with e|e<;>rw[e]at this⊢<;>simp at this⊢<;>rcases this with h|h<;>simp[h]
def Ju.mono {acV:World}(h:Ju P0 ok M w la ln lc nb no nn gT S Is lt)(hM:∀b,M b->ga b)(hk:aK M w acV):Ju P0 ok ga acV la ln lc nb no nn gT S Is lt:=by
 have hR:∀b,(b=nb\/∃i,S i b)->M b:=λb hb=>hb.elim (λe=>e▸h.U4) λ⟨i,hs⟩=>h.sm i b hs
 exact⟨hM _ h.U4,λi hi=>by rw[<-h.gP i hi];simp only[World.cell?,hk.block _ h.U4],λi b hs=>hM _<|h.sm i b hs,λi hi ah k=>h.closed i hi ah<|(hk.mono hR).trans k,h.LK,h.LL,λi hi F ah k τ d=>h.OK i hi F ah ((hk.mono hR).trans k) τ d,h.ren,h.least,h.SP⟩
omit [Gl] in
def aaa {xs:Nat->aJ}(hs:cs.size=16)(h:∀i,i<4->∀o,o<4->cs[i*4+o]?=(xs i).cells[o]?):cs=([xs 0,xs 1,xs 2,xs 3].flatMap aJ.cells).toArray:=by
 refine Array.ext (by simp[aJ.cells,hs]) λj h1 h2=>?_
 have hj:j<16:=by omega
 have h':=h (j/4) (by omega) (j%4) (by omega);rw[show j/4*4+j%4=j by omega,adc h1]at h';have:([xs 0,xs 1,xs 2,xs 3].flatMap aJ.cells).toArray[j]?=some cs[j]:=by
  rw[h'];clear h' h1 h2;obtain rfl|rfl|rfl|rfl|rfl|rfl|rfl|rfl|rfl|rfl|rfl|rfl|rfl|rfl|rfl|rfl:j=0\/j=1\/j=2\/j=3\/j=4\/j=5\/j=6\/j=7\/j=8\/j=9\/j=10\/j=11\/j=12\/j=13\/j=14\/j=15:=by omega
  all_goals rfl
 rw[adc h2]at this;exact(adb this).symm
def TP (eG:dM P0 P0 ok)(hP:dM P0 Tryz.prog ok)(iv:∀f,ok.fn f=true->ok.bh f=true)(yY:jE P0 c)(hn:nn+4<4611686018427387904)
  (h:dJ Tryz.prog am (λ_=>False) (λ_=>False) M gs (G ((base 139).at ⟨#[.slice la ln lc,.slice (some ⟨nb,no,none⟩) nn nc,ud,ud,ud,ud,ud,ud,ud,ud,ud,ud,ud,ud,ud,ud,ud,ud,ud,ud,ud],[]⟩ [.code dQ])<|r0::rest) w t q)
  (hf:Ju P0 ok M w la ln lc nb no nn gT S Is lt)(Fv:Gl.n<=w):
  ∃N jN w' kz t' q' sE M' x,runNT Tryz.prog N (crowd gs w sl) t=(.next<|crowd jN w' kz,t')/\dJ Tryz.prog sE (λ_=>False) (λ_=>False) M' jN (G (r0.finish x.val) rest) w' t' q'/\
   EN M w M' w'/\iZ w' (λb=>M' b/\w.heap.size<=b) x/\r_ lt Is nn x:=by
 let⟨N1,H_,M1,w1,Z8,t1,q1,bl,bn,r4,tb,wg,Bs,bb,v9,v10,e1,e2,e3,hE,ho,hm,cl,cn,c4,ct,cw,cb,cB⟩:=Q2 (sl:=sl) h;have aB:=h.QD;have pE:=hf.mono hE.own hE.keep;let⟨J,j1,j2,j3,j4,p,hp,N2,Qb,w2,Rc,t2,a2,Ro2,M2,seq,vs,Mr,M',R,f1,f2,f3⟩:=QX (sl:=Z8) (nc:=nc) eG hP iv yY hn e3 pE (ac8 Fv hE.keep.size) ⟨ho.2.1,ho.2.2.1,ho.2.2.2.1,ho.2.2.2.2.1,ho.2.2.2.2.2.1,ho.2.2.2.2.2.2⟩ hm (by have:=aB _ hf.U4;omega) (λi b hs=>by have:=aB _<|hf.sm i b hs;omega) cl cn ct cw cb cB;obtain⟨acI,⟨⟨u8,u9,Pf,Pg,Pi,Pj,Pk,u16,Pm,VR,Pn,Po,rfl⟩,JZ⟩,hT⟩:=f2.fin;subst hp;have hX:∀i,∃x:aJ,i<4->vs i=x.cells/\wc J (seq i) x/\iZ w2 (Mr i) x/\∀b,Mr i b->w1.heap.size<=b:=λi=>by
  by_cases hi:i<4
  .let⟨x,h1,h2,h3,h4⟩:=f2.res i hi;exact⟨x,λ_=>⟨h1,h2,h3,λb hb=>j4▸h4 b hb⟩⟩
  .exact⟨d7,λx=>absurd x hi⟩
 let X:Nat->aJ:=λi=>(hX i).choose
 have Ws:∀i,i<4->vs i=(X i).cells/\wc J (seq i) (X i)/\iZ w2 (Mr i) (X i)/\∀b,Mr i b->w1.heap.size<=b:=λi hi=>(hX i).choose_spec hi
 let⟨cs,Yq,Yr⟩:=f2.bs;have hcs:cs=([X 0,X 1,X 2,X 3].flatMap aJ.cells).toArray:=aaa Yr λi hi o MV=>by
  rw[<-(Ws i hi).1];exact(f2.slot i hi).2 cs ⟨Yq,Yr⟩ o MV
 have jQ:w1.heap.size<=w2:=JZ.keep.size;have hwz:=hE.keep.size;have UG:∀b,M1 b->b≠Bs->w2.heap[b]?=w1.heap[b]?:=λb hb hne=>JZ.keep.block b<|f3 b hb hne
 let M3:Nat->Prop:=λb=>(M b\/w.heap.size<=b)/\b<w2/\∀l,fC (·=b) l->¬(ph J wg tb Bs nn H_.size t1.size).Sh am l
 let⟨q2,hL⟩:=f2.lone (M':=M3) (λl hl=>Loc.low_mono jQ<|e3.low l hl) λb hb=>⟨hb.2.1,hb.2.2⟩;have Qg:∀b,M1 b->M3 b:=λb hb=>⟨hE.new b hb,ac6 (hE.lt b hb) jQ,λl hl hx=>by
  rcases hx with hx|⟨a,rfl,hx⟩
  .exact e3.ky b (.inl hb) l hl hx
  .have Wu:a.block=b:=hl;rcases hx with hx|hx
   .have dG:a.block=wg:=hx;exact(e3.vm wg<|.inr rfl).1 (by rw[<-dG,Wu];exact hb)
   .have dG:a.block=tb:=hx;exact(e3.vm tb<|.inl<|.inr rfl).1<|by rw[<-dG,Wu];exact hb⟩
 have hMr:∀i,i<4->∀b,Mr i b->M3 b/\b≠r4/\b≠bb:=λi hi b hb=>by
  have h1:=(Ws i hi).2.2.2 b hb;have h2:=f2.own i hi b hb;have h3:=hE.lt _ hm.2.2.1;have h4:=hE.lt _ hm.2.2.2.2;refine⟨⟨.inr aa,h2.1,λl hl hx=>?_⟩,aa,aa⟩;rcases hx with hx|⟨a,rfl,hx⟩
  .exact f2.ky i hi b hb l hl hx
  .have Wu:a.block=b:=hl;exact h2.2.2.2 (by rw[<-Wu];exact hx.elim .inl λy=>.inr<|.inl y)
 have vA:∀x∈[X 0,X 1,X 2,X 3],∃i,i<4/\x=X i:=by
  intro x hx;simp only[List.mem_cons,List.not_mem_nil,or_false]at hx;rcases hx with rfl|rfl|rfl|rfl
  .exact⟨0,aa,rfl⟩
  .exact⟨1,aa,rfl⟩
  .exact⟨2,aa,rfl⟩
  .exact⟨3,aa,rfl⟩
 have hA:=JB (J:=J) (r0:=r0) (rest:=rest) (xs:=[X 0,X 1,X 2,X 3]) (M:=M3) (W:=w2) (r4:=r4) (bb:=bb) (Bs:=Bs) (bl:=J.bl) (bn:=J.bn) (tb:=J.tb) (wg:=wg) (t0:=.slice la ln lc) (t1:=.slice (some ⟨nb,no,none⟩) nn nc) (v8:=u8) (v9:=u9) (v10:=Pf) (v12:=Pg) (v13:=Pi) (v14:=Pj) (v15:=Pk) (v16:=u16) (v17:=Pm) (v18:=VR) (v19:=Pn) (v20:=Po)
  eG hP iv yY hf.SP.2 (λV b xs z h1 h2 h3=>by rw[uM J ⟨0,0,0,0,0,0,0,.nilFunc,gT,S,Is,lt,0⟩ j1];exact hf.least V b xs z h1 h2 h3) (xH J) rfl (λb hb=>hb.2.1) aa (Qg _ hm.2.2.1) (Qg _ hm.2.2.2.2) (Qg _ hm.2.2.2.1) aa aa aa
  ⟨_,(UG _ hm.2.2.1 aa).trans c4,rfl⟩ ((UG _ hm.2.2.2.2 aa).trans cb) (by rw[<-hcs];exact Yq)
  (λx hx=>by obtain⟨i,hi,rfl⟩:=vA x hx;exact(Ws i hi).2.2.1.keep (hMr i hi) λ_ _=>rfl)
 rw[<-j3]at hA;let⟨r,hr⟩:=hT _ _ _ _ _ hA;let⟨N3,gs3,M4,a3,w3,sl3,t3,q3,i1,i2,i3,i4,i5,i6,i7,i8⟩:=jw (λ_=>trivial) r _ Qb M3 _ w2 Rc t2 q2 (ac5 _) hL hr;obtain⟨rfl,g1,g2,g3⟩:=i3 w3 (aK.refl _ _) trivial;have pG:=xH J [X 0,X 1,X 2,X 3] aF;let⟨i,hi,WP⟩:=vA _ pG;have O':=g3 _ pG;refine⟨N1+(N2+N3),gs3,w3,sl3,t3,q3,_,M4,J.cZ [X 0,X 1,X 2,X 3],fR (fR i1 _ _ _ f1) _ _ _ e1,i4,⟨λb hb=>g1 b<|Qg b<|hE.own b hb,?_,i4.QD,λb hb=>?_⟩,⟨O'.row,O'.small,λa ha=>?_,O'.full⟩,J,_,seq,j1,j2,rfl,?_,f2.all,f2.abz,rfl⟩
 .refine hE.keep.trans ⟨λb hb=>?_,aa,g2.os.trans JZ.keep.os,g2.out.trans JZ.keep.out⟩;have dw:=aB b hb;rw[g2.block b ⟨Qg b<|hE.own b hb,aa,aa⟩,UG b (hE.own b hb) aa]
 .rcases i7 b hb with x|x
  .exact x.1
  .exact .inr aa
 .let⟨h1,h2,h3⟩:=O'.blk a ha;refine⟨h1,⟨h2,?_⟩,h3⟩;rw[WP]at ha;have:=(Ws i hi).2.2.2 _ ((Ws i hi).2.2.1.blk a ha).2.1;omega
 .intro i y hy;have hi:i<4:=by
   have:=(adf.1 hy).1;simpa using this
  have:y=X i:=by
   obtain rfl|rfl|rfl|rfl:i=0\/i=1\/i=2\/i=3:=aa;all_goals(simp at hy;exact hy.symm)
  rw[this];exact(Ws i hi).2.1
end
section
set_option linter.unusedSimpArgs false
set_option linter.unusedVariables false
structure CS (ft:Nat->Prop)(acH:World)(L:List (Nat×Array Value×TypeId))(M:Nat->Prop)(W:World):Prop where
 own:∀b,ft b->M b
 keep:aK ft acH W
 lt:∀b,M b->b<W.heap.size
 new:∀b,M b->ft b\/acH.heap.size<=b
 QE:∀b,ft b->b<acH.heap.size
 at_:∀p∈L,M p.1/\W.heap[p.1]?=some (.cells p.2.1 p.2.2 (0,0))
section
variable {ah:World}
def CS.rely (h:CS ft acH L M W)(k:aK (λb=>M b\/False) W ah):CS ft acH L M ah:=⟨h.own,h.keep.trans<|k.mono λb hb=>.inl<|h.own b hb,λb hb=>ac6 (h.lt b hb) k.size,h.new,h.QE,λp hp=>⟨(h.at_ p hp).1,(k.block _<|.inl (h.at_ p hp).1).trans (h.at_ p hp).2⟩⟩
def CS.alloc (h:CS ft acH L M W)(cs:Array Value)(t:TypeId):CS ft acH ((W.heap.size,cs,t)::L) (grow M W<|W.alloc<|.cells cs t) (W.alloc<|.cells cs t):=by
 have z:(W.alloc<|.cells cs t).heap.size=W.heap.size+1:=by show(W.heap.push _).size=_;simp
 refine⟨λb hb=>.inl<|h.own b hb,h.keep.trans ⟨λb hb=>Below.heap_alloc _ _ _<|h.lt b<|h.own b hb,by rw[z];omega,rfl,rfl⟩,λb hb=>hb.elim (λx=>by rw[z];have:=h.lt b x;omega) And.right,λb hb=>hb.elim (h.new b) λx=>.inr<|ac8 h.keep.size x.1,h.QE,λp hp=>?_⟩;rcases List.mem_cons.1 hp with rfl|hp
 .exact⟨.inr ⟨ac5 _,by rw[z];simp⟩,heap_alloc_new _ _⟩
 .exact⟨.inl (h.at_ p hp).1,(Below.heap_alloc _ _ _<|h.lt _ (h.at_ p hp).1).trans (h.at_ p hp).2⟩
def CS.cell (h:CS ft acH L M W)(hp:(b,cs,t)∈L){j:Nat}(hv:cs[j]?=some v):W.cell? ⟨b,j,none⟩=some v:=by
 rw[cell_of_row _ _ _ _ _ _ (h.at_ _ hp).2];exact hv
end
section
variable {I:World->Prop}{Ro:Nat->Prop}
 {b:Frame}{cs:List Frame}{rest:List Nat}
def ET.pure (v:Value)(ho:ops[i]?=some o)
  (n:ET P m I X Ro Stop M (G (b.at (a.put o.dst v)<|.inRegion ops rest::k) cs) W)(hw:Region.wanted o (yielded ops a.tmps)=true:=by rfl)(hk:b.kind≠.early:=by k_ne)(hr:∀W,(execOp a.eval o).run P W=.ok (.value v) W:=by intro;kernel_rfl)(he:∀W,(execOp a.eval o).events P W #[]=#[]:=by intro;kernel_rfl):ET P m I X Ro Stop M (G (b.at a<|.inRegion ops (i::rest)::k) cs) W:=
 ET.val v ho hw hk (λah _ _=>⟨hr ah,λe h=>by rw[he ah]at h;simp at h⟩) n
def ET.ext (v:Value)(f:FuncId)(ho:ops[i]?=some o)
  (n:ET P m I X Ro Stop M (G (b.at (a.put o.dst v)<|.inRegion ops rest::k) cs) W)(hw:Region.wanted o (yielded ops a.tmps)=true:=by rfl)(hk:b.kind≠.early:=by k_ne)(hr:∀W,(execOp a.eval o).run P W=.ok (.value v) W:=by intro;kernel_rfl)(he:∀W,(execOp a.eval o).events P W #[]=#[⟨.mark<|.extern f,false,true⟩]:=by intro;kernel_rfl):ET P m I X Ro Stop M (G (b.at a<|.inRegion ops (i::rest)::k) cs) W:=
 ET.val v ho hw hk (λah _ _=>⟨hr ah,λe h=>by rw[he ah]at h;simp at h;exact .inr<|.inr<|.inl ⟨_,rfl,h⟩⟩) n
def vl (e:Event):Prop:=∃f,e=⟨.mark<|.extern f,false,true⟩
def vl.evp {e:Event}(h:vl e):Fr X M Ro e:=by let⟨f,h⟩:=h;exact .inr<|.inr<|.inl ⟨_,rfl,h⟩
def ET.makes (v:Nat->Value)(xs:Array Value)(t:TypeId)(es:Array Event)(ho:ops[i]?=some o)(hw:Region.wanted o (yielded ops a.tmps)=true)(hk:b.kind≠.early)(h:CS ft acH L M W)
  (hr:∀W,(execOp a.eval o).run P W=.ok (.value<|v W.heap.size) (W.alloc<|.cells xs t))(he:∀W,(execOp a.eval o).events P W #[]=es)(hq:∀e∈es,vl e)
  (n:∀B M' W',CS ft acH ((B,xs,t)::L) M' W'->acH.heap.size<=B->(∀p∈L,p.1<B)->ET P m (λ_=>True) X (λ_=>False) Stop M' (G (b.at (a.put o.dst<|v B)<|.inRegion ops rest::k) cs) W'):ET P m (λ_=>True) X (λ_=>False) Stop M (G (b.at a<|.inRegion ops (i::rest)::k) cs) W:=
 ET.oper ho hw hk λah acP _=>⟨_,_,hr ah,eP.alloc _ λe h=>(hq e (by have:=mem_listed h;rw[he ah]at this;exact this)).evp,n _ _ _ ((h.rely acP).alloc xs t) (h.rely acP).keep.size λp hp=>(h.rely acP).lt _ ((h.rely acP).at_ p hp).1⟩
def ET.looks (v:Value)(ho:ops[i]?=some o)(hw:Region.wanted o (yielded ops a.tmps)=true)(hk:b.kind≠.early)(h:CS ft acH L M W)
  (hr:∀W,CS ft acH L M W->(execOp a.eval o).run P W=.ok (.value v) W/\∀e∈(execOp a.eval o).events P W #[],vl e\/∃p∈L,∃j,e=⟨.cell ⟨p.1,j,Option.none⟩,false,false⟩)
  (n:ET P m (λ_=>True) X (λ_=>False) Stop M (G (b.at (a.put o.dst v)<|.inRegion ops rest::k) cs) W):ET P m (λ_=>True) X (λ_=>False) Stop M (G (b.at a<|.inRegion ops (i::rest)::k) cs) W:=
 ET.val v ho hw hk (λah acP _=>⟨(hr ah<|h.rely acP).1,λe he=>by
  rcases(hr ah (h.rely acP)).2 e he with x|⟨p,hp,j,rfl⟩
  .exact x.evp
  .exact gA (h.at_ p hp).1⟩) n
def CS.set (h:CS ft acH ((B,xs,t)::L) M W)(hB:acH.heap.size<=B)(hL:∀p∈L,p.1<B)(ys:Array Value):CS ft acH ((B,ys,t)::L) M (W.setRow B ys):=by
 have z:(W.setRow B ys).heap.size=W.heap.size:=setRow_size _ _ _;refine⟨h.own,h.keep.trans ⟨λb hb=>setRow_other _ _ _ _ (by have:=h.QE b hb;omega),by rw[z];exact ac5 _,rfl,rfl⟩,λb hb=>by rw[z];exact h.lt b hb,h.new,h.QE,λp hp=>?_⟩;rcases List.mem_cons.1 hp with rfl|hp
 .exact⟨(h.at_ _ (adw ..)).1,setRow_heap _ _ _ _ _ _ (h.at_ _ (adw ..)).2⟩
 .have:=h.at_ p<|adv _ hp;exact⟨this.1,(setRow_other _ _ _ _<|adn<|hL p hp).trans this.2⟩
def ET.writes (ys:Array Value)(ho:ops[i]?=some o)(hw:Region.wanted o (yielded ops a.tmps)=true)(hk:b.kind≠.early)(h:CS ft acH ((B,xs,t)::L) M W)(hB:acH.heap.size<=B)(hL:∀p∈L,p.1<B)
  (hr:∀W,W.heap[B]?=some (.cells xs t (0,0))->(execOp a.eval o).run P W=.ok .skip (W.setRow B ys)/\∀e∈(execOp a.eval o).events P W #[],∃j,e=⟨.cell ⟨B,j,Option.none⟩,true,false⟩)
  (n:∀W',CS ft acH ((B,ys,t)::L) M W'->ET P m (λ_=>True) X (λ_=>False) Stop M (G (b.at (a.put o.dst undef)<|.inRegion ops rest::k) cs) W'):ET P m (λ_=>True) X (λ_=>False) Stop M (G (b.at a<|.inRegion ops (i::rest)::k) cs) W:=
 ET.none ho hw hk λah acP _=>by
  have h':=h.rely acP;have hb:=h'.at_ _ (adw ..);refine⟨_,(hr ah hb.2).1,eP.row ys hb.1 λe he=>?_,?_⟩
  .obtain⟨j,rfl⟩:=(hr ah hb.2).2 e<|mem_listed he;exact gA hb.1
  .rw[show grow M ah (ah.setRow B ys)=M from cJ (setRow_size _ _ _)];exact n _<|h'.set hB hL ys
end
section
variable {y:Operand}{cur:Array Value}{u w:Value}{p q:Addr}{n:Int}
def RE (bz:o.op=.store 162 x y)(ha:a.eval x=.pointer B)(hy:a.eval y=.agg #[.pointer<|some p,.pointer<|some q,.int .u64 n])(hg:W.heap[B]?=some (.cells cur ty (0,0)))(hl:cur.size=3):
  (execOp a.eval o).run Tryz.prog W=.ok .skip (W.setRow B #[.pointer<|some p,.pointer<|some q,.int .u64 n])/\∀e∈(execOp a.eval o).events Tryz.prog W #[],∃j,e=⟨.cell ⟨B,j,none⟩,true,false⟩:=by
 obtain⟨cs,h1,h2,h3⟩:∃cs:Array Value,#[Value.pointer<|some p,.pointer<|some q,.int .u64 n]=cs/\cs.size=3/\∀v∈cs.toList,v.oneCell'=true:=⟨_,rfl,rfl,Bw⟩;rw[h1]at hy⊢;clear h1;have h:=run_storeCells_at (P:=Tryz.prog) B 0 ty cs.toList 0 cur W hg (by simp[hl,h2]) h3;rw[Nat.add_zero]at h;have hd:cur.toList.drop (0+cs.toList.length)=[]:=by simp[hl,h2]
 rw[hd]at h;simp only[List.take_zero,List.nil_append,List.append_nil]at h;refine⟨?_,λe he=>?_⟩
 .unfold execOp;simp only[bz,ha,hy];go_simp
 .have h:=mi (P:=Tryz.prog) B 0 ty cs.toList 0 cur W #[] hg (by simp[hl,h2]) h3 e;unfold execOp at he;simp only[bz,ha,hy]at he;simp[go_sem,h2]at he;rcases h he with x|⟨j,_,h5,h6⟩
  .simp at x
  .exact⟨_,h6⟩
def vZ (bz:o.op=.load 162 x)(ha:a.eval x=.pointer B)(hg:W.heap[B]?=some (.cells #[u,v,w] ty (0,0))):
  (execOp a.eval o).run Tryz.prog W=.ok (.value<|.agg #[u,v,w]) W/\∀e∈(execOp a.eval o).events Tryz.prog W #[],∃j,e=⟨.cell ⟨B,j,none⟩,false,false⟩:=by
 have c0:W.cell? B=some u:=by simp[World.cell?,hg]
 have c1:W.cell? ⟨B,1,none⟩=some v:=by simp[World.cell?,hg]
 have c2:W.cell? ⟨B,2,none⟩=some w:=by simp[World.cell?,hg]
 refine⟨?_,λe he=>?_⟩
 .unfold execOp;simp only[bz,ha];go_simp
 .unfold execOp at he;simp only[bz,ha]at he;simp[go_sem,c0,c1,c2]at he;rcases he with rfl|rfl|rfl<;>exact⟨_,rfl⟩
end
def VV {s:Sem Next}{r:Result Next}(h:W.heap[B]?=some (.cells cs t (0,0))->s.run P W=r/\∀e∈s.events P W #[],∃j,e=⟨.cell ⟨B,j,none⟩,false,false⟩)
  (hW:CS ft acH L M W)(hm:(B,cs,t)∈L):s.run P W=r/\∀e∈s.events P W #[],vl e\/∃p∈L,∃j,e=⟨.cell ⟨p.1,j,none⟩,false,false⟩:=
 have x:=h (hW.at_ _ hm).2
 ⟨x.1,λe he=>.inr ⟨_,hm,x.2 e he⟩⟩
def rlm (z:Sem Value)(f:TypeId->Addr->Nat->Nat->Sem Value)(v:Value):
  ReflectliteValue.method z f #[v]=(do match<-ReflectliteValue.parts v with|none=>z|some (t,a,fl)=>f t a fl<|fl%32):=rfl
def qq (a:Addr)(w:World):(ReflectliteValue.parts<|.agg #[.pointer<|some ⟨9,138,none⟩,.pointer<|some a,.int .u64 150]).run Tryz.prog w=.ok (some (138,a,150)) w:=bD
def NZ (a:Addr)(w:World)(es:Array Event):(ReflectliteValue.parts<|.agg #[.pointer<|some ⟨9,138,none⟩,.pointer<|some a,.int .u64 150]).events Tryz.prog w es=es:=bD
def N0 (a p:Addr)(W:World)(es:Array Event)(ha:W.cell? a=some (.pointer<|some p)):
  (ReflectliteValue.method (ReflectliteValue.valueError "reflectlite.Value.IsNil" 0) ReflectliteValue.isNil #[.agg #[.pointer<|some ⟨9,138,none⟩,.pointer<|some a,.int .u64 150]]).run Tryz.prog W=.ok false W/\
  (ReflectliteValue.method (ReflectliteValue.valueError "reflectlite.Value.IsNil" 0) ReflectliteValue.isNil #[.agg #[.pointer<|some ⟨9,138,none⟩,.pointer<|some a,.int .u64 150]]).events Tryz.prog W es=es.push ⟨.cell a,false,false⟩:=by
 rw[rlm];constructor
 .simp only[Sem.run_bind,qq,Result.andThen];simp[ReflectliteValue.isNil,loadVar,isAgg,underlying,Tryz.underlying138,ha,Result.andThen]
 .simp only[Sem.events_bind,qq,NZ,Result.evThen_ok];simp[ReflectliteValue.isNil,loadVar,isAgg,underlying,Tryz.underlying138,ha,Result.evThen,go_sem];rfl
def DI {xs:Array Operand}(bz:o.op=.call {callee:=.value<|.func f,args:=xs,argTypes:=Xu})
  (hf:P.funcs[f]?=some fn)(xh:(fn.name== "runtime.NumGoroutine")=false)(hb:fn.body.isNone=true)(hn:Extern.findNext fn=none)(he:Extern.find fn=some e)(hx:xs.map a.eval=ys)
  (h:∀es,(e ys).run P W=.ok v W/\(e ys).events P W es=es.push ⟨.cell b,false,false⟩):
  (execOp a.eval o).run P W=.ok (.value v) W/\∀e∈(execOp a.eval o).events P W #[],vl e\/e=⟨.cell b,false,false⟩:=by
 rw[execOp_call_func (a:=a) bz,hx];refine⟨by rw[run_callFunc_extern hf xh hb hn he,(h #[]).1];rfl,λx hx=>?_⟩;rw[events_callFunc_extern hf xh hb hn he,(h _).2]at hx;simp only[Array.mem_push,Array.not_mem_empty,false_or]at hx;rcases hx with rfl|rfl
 .exact .inl ⟨f,rfl⟩
 .exact .inr rfl
def SK {A:Prop}{es:Array Event}(h:A/\∀e∈es,vl e\/e=⟨.cell B,false,false⟩)(hm:(B,cs,t)∈L):
  A/\∀e∈es,vl e\/∃p∈L,∃j,e=⟨.cell ⟨p.1,j,none⟩,false,false⟩:=⟨h.1,λe he=>(h.2 e he).imp id λx=>⟨_,hm,0,x⟩⟩
def I4 {T:TypeId}(bz:o.op=.load T x)(ha:a.eval x=.pointer B)(hT:∀w,(isAgg T).run P w=.ok false w)(hE:∀w es,(isAgg T).events P w es=es)(hg:W.heap[B]?=some (.cells #[v] ty (0,0))):
  (execOp a.eval o).run P W=.ok (.value v) W/\∀e∈(execOp a.eval o).events P W #[],∃j,e=⟨.cell ⟨B,j,none⟩,false,false⟩:=by
 have c0:W.cell? B=some v:=by simp[World.cell?,hg]
 refine⟨?_,λe he=>?_⟩
 .unfold execOp;simp only[bz,ha];simp[Instr.loadAt,Instr.sureAddr,loadVar,hT,c0,Result.andThen,go_sem]
 .unfold execOp at he;simp only[bz,ha]at he;simp[Instr.loadAt,Instr.sureAddr,loadVar,hT,hE,c0,Result.evThen,go_sem]at he;exact⟨0,he⟩
def yh (w:World):(Rtype.elem? 138).run Tryz.prog w=.ok (some 131) w:=bD
def KE (w:World)(es:Array Event):(Rtype.elem? 138).events Tryz.prog w es=es:=bD
def Vx (p:Addr)(w:World):(ReflectliteValue.mk 131 p ReflectliteValue.flagAddr).run Tryz.prog w=.ok (.agg #[.pointer<|some ⟨9,131,none⟩,.pointer<|some p,.int .u64 409]) w:=bD
def Q3 (p:Addr)(w:World)(es:Array Event):(ReflectliteValue.mk 131 p ReflectliteValue.flagAddr).events Tryz.prog w es=es:=bD
def Pq (a p:Addr)(W:World)(es:Array Event)(ha:W.cell? a=some (.pointer<|some p)):
  (ReflectliteValue.method (ReflectliteValue.valueError "reflectlite.Value.Elem" 0) ReflectliteValue.elem #[.agg #[.pointer<|some ⟨9,138,none⟩,.pointer<|some a,.int .u64 150]]).run Tryz.prog W=.ok (.agg #[.pointer<|some ⟨9,131,none⟩,.pointer<|some p,.int .u64 409]) W/\
  (ReflectliteValue.method (ReflectliteValue.valueError "reflectlite.Value.Elem" 0) ReflectliteValue.elem #[.agg #[.pointer<|some ⟨9,138,none⟩,.pointer<|some a,.int .u64 150]]).events Tryz.prog W es=es.push ⟨.cell a,false,false⟩:=by
 rw[rlm];constructor
 .simp only[Sem.run_bind,qq,Result.andThen];simp[ReflectliteValue.elem,loadVar,isAgg,underlying,Tryz.underlying138,ha,Result.andThen,yh,Vx]
 .simp only[Sem.events_bind,qq,NZ,Result.evThen_ok];simp[ReflectliteValue.elem,loadVar,isAgg,underlying,Tryz.underlying138,ha,Result.evThen,yh,Q3,KE,go_sem];rfl
def AS (a:Addr)(w:World):(ReflectliteValue.parts<|.agg #[.pointer<|some ⟨9,131,none⟩,.pointer<|some a,.int .u64 409]).run Tryz.prog w=.ok (some (131,a,409)) w:=bD
def AU (a:Addr)(w:World):(ReflectliteValue.parts<|.agg #[.pointer<|some ⟨9,131,none⟩,.pointer<|some a,.int .u64 153]).run Tryz.prog w=.ok (some (131,a,153)) w:=bD
def Vv (a:Addr)(w:World)(es:Array Event):(ReflectliteValue.parts<|.agg #[.pointer<|some ⟨9,131,none⟩,.pointer<|some a,.int .u64 409]).events Tryz.prog w es=es:=bD
def Vw (a:Addr)(w:World)(es:Array Event):(ReflectliteValue.parts<|.agg #[.pointer<|some ⟨9,131,none⟩,.pointer<|some a,.int .u64 153]).events Tryz.prog w es=es:=bD
def AR (w:World):(Rtype.directlyAssignable 131 131).run Tryz.prog w=.ok true w:=bD
def EH (w:World)(es:Array Event):(Rtype.directlyAssignable 131 131).events Tryz.prog w es=es:=bD
def EI (w:World):(sizeOf 131).run Tryz.prog w=.ok 1 w:=bD
def KF (w:World)(es:Array Event):(sizeOf 131).events Tryz.prog w es=es:=bD
def Vy (ta b:Addr)(c:Int)(old:Value)(W:World)(es:Array Event)(hb:W.cell? b=some (.int .i64 c))(ht:W.cell? ta=some old)(hf:W.frozen? ta=false):
  (ReflectliteValue.set #[.agg #[.pointer<|some ⟨9,131,none⟩,.pointer<|some ta,.int .u64 409],.agg #[.pointer<|some ⟨9,131,none⟩,.pointer<|some b,.int .u64 153]]).run Tryz.prog W=.ok (.tuple #[]) (W.setCell ta c)/\
  (ReflectliteValue.set #[.agg #[.pointer<|some ⟨9,131,none⟩,.pointer<|some ta,.int .u64 409],.agg #[.pointer<|some ⟨9,131,none⟩,.pointer<|some b,.int .u64 153]]).events Tryz.prog W es=(es.push ⟨.cell b,false,false⟩).push ⟨.cell ta,true,false⟩:=by
 delta ReflectliteValue.set ReflectliteValue.set.match_3
 rw[dif_pos cj];dsimp only[Array.getLit,List.getElem_toArray,List.getElem_cons_zero,List.getElem_cons_succ];have hl:=run_loadCells_list (P:=Tryz.prog) (w:=W) b [c] (λj v hv=>by
  match j,hv with
  |0,hv=>simp at hv;subst hv;simpa[Addr.add]using hb)
 simp only[List.length_cons,List.length_nil,Nat.zero_add]at hl;constructor
 .simp only[Sem.run_bind,AS,AU,Result.andThen];simp[ReflectliteValue.flagAddr,loadVar,isAgg,underlying,Tryz.underlying131,hl,Result.andThen,AR,EI,storeVar,Value.cells,storeCells,Addr.add];rw[run_store Tryz.prog W ta _ _ cj];simp[ht,hf]
 .simp only[Sem.events_bind,AS,AU,Vv,Vw,Result.evThen_ok];simp[ReflectliteValue.flagAddr,loadVar,isAgg,underlying,Tryz.underlying131,hl,Result.evThen,Result.andThen,AR,EH,EI,KF,storeVar,Value.cells,storeCells,Addr.add,loadCells,go_sem,ht,hf,hb];rfl
def CS.abu {x:Value}(h:CS ft acH L M W)(hm:(B,#[x],t)∈L)(hB:acH.heap.size<=B)(y:Value):CS ft acH [(B,#[y],t)] M (W.setCell B y):=by
 have z:=nt W B y;refine⟨h.own,h.keep.trans ⟨λb hb=>?_,by rw[z];exact ac5 _,rfl,rfl⟩,λb hb=>by rw[z];exact h.lt b hb,h.new,h.QE,λp hp=>?_⟩
 .rw[ip,if_neg (λe=>by have:=h.QE b hb;simp only at e;omega)]
 .obtain rfl:=List.mem_singleton.1 hp;refine⟨(h.at_ _ hm).1,?_⟩;rw[ip,if_pos rfl,(h.at_ _ hm).2];simp
def P2 {xs:Array Operand}{b ta:Addr}(bz:o.op=.call {callee:=.value<|.func f,args:=xs,argTypes:=Xu})
  (hf:P.funcs[f]?=some fn)(xh:(fn.name== "runtime.NumGoroutine")=false)(hb:fn.body.isNone=true)(hn:Extern.findNext fn=none)(he:Extern.find fn=some e)(hx:xs.map a.eval=ys)
  (h:∀es,(e ys).run P W=.ok v (W.setCell ta y)/\(e ys).events P W es=(es.push ⟨.cell b,false,false⟩).push ⟨.cell ta,true,false⟩):
  (execOp a.eval o).run P W=.ok (.value v) (W.setCell ta y)/\∀e∈(execOp a.eval o).events P W #[],vl e\/e=⟨.cell b,false,false⟩\/e=⟨.cell ta,true,false⟩:=by
 rw[execOp_call_func (a:=a) bz,hx];refine⟨by rw[run_callFunc_extern hf xh hb hn he,(h #[]).1];rfl,λx hx=>?_⟩;rw[events_callFunc_extern hf xh hb hn he,(h _).2]at hx;simp only[Array.mem_push,Array.not_mem_empty,false_or]at hx;rcases hx with(rfl|rfl)|rfl
 .exact .inl ⟨f,rfl⟩
 .exact .inr (.inl rfl)
 .exact .inr (.inr rfl)
def ET.abB {b:Frame}{cs:List Frame}{rest:List Nat}
  {C:Nat}{x z:Value}{u:TypeId}(v:Value)(ho:ops[i]?=some o)(hw:Region.wanted o (yielded ops a.tmps)=true)(hk:b.kind≠.early)(h:CS ft acH L M W)(hm:(B,#[x],t)∈L)(hc:(C,#[z],u)∈L)(hB:acH.heap.size<=B)
  (hr:∀W,CS ft acH L M W->(execOp a.eval o).run P W=.ok (.value v) (W.setCell ⟨B,0,Option.none⟩ y)/\∀e∈(execOp a.eval o).events P W #[],vl e\/e=⟨.cell ⟨C,0,Option.none⟩,false,false⟩\/e=⟨.cell ⟨B,0,Option.none⟩,true,false⟩)
  (n:∀W',CS ft acH [(B,#[y],t)] M W'->ET P m (λ_=>True) X (λ_=>False) Stop M (G (b.at (a.put o.dst v)<|.inRegion ops rest::k) cs) W'):ET P m (λ_=>True) X (λ_=>False) Stop M (G (b.at a<|.inRegion ops (i::rest)::k) cs) W:=
 ET.oper ho hw hk λah acP _=>by
  have h':=h.rely acP;have q:=hr ah h';refine⟨v,_,q.1,eP.set y (h'.at_ _ hm).1 λe he=>?_,?_⟩
  .rcases q.2 e (mem_listed he)with x|rfl|rfl
   .exact x.evp
   .exact gA (h'.at_ _ hc).1
   .exact gA (h'.at_ _ hm).1
  .rw[show grow M ah (ah.setCell ⟨B,0,Option.none⟩ y)=M from cJ (nt _ _ _)];exact n _<|h'.abu hm hB y
def CS.less {L':List (Nat×Array Value×TypeId)}(h:CS ft acH L M W)(hL:∀p∈L',p∈L):CS ft acH L' M W:=⟨h.own,h.keep,h.lt,h.new,h.QE,λp hp=>h.at_ p<|hL p hp⟩
def CS.thaw (h:CS ft acH L M W)(hm:(B,cs,t)∈L):W.frozen? B=false:=by
 unfold World.frozen?;rw[(h.at_ _ hm).2];simp
noncomputable def Ae:Code:=Tryz.f68.body.getD .skip
def PN (c:Int)(h0:CS M W [(0,#[.iface 187<|.agg #[.pointer<|some ⟨9,93,none⟩]],165)] M W):
  ET Tryz.prog true (λ_=>True) Ph.nE (λ_=>False) (λM' g W'=>g=G (r0.finish c) rest/\CS M W [] M' W') M
   (G ((base 68).at ⟨#[.iface 131<|.agg #[c],ud,ud,ud,ud,ud,ud,ud,ud],[]⟩ [.code Ae]) (r0::rest)) W:=by
 simp only[Ae,Tryz.f68,Option.getD_some];apply ET.sr;refine ET.pure (.int .i64 0) rfl ?_;walk_nrm
 apply ET.ns;refine ET.makes (λB=>.pointer<|some ⟨B,0,none⟩) #[(0:Int)] 131 #[] rfl rfl (by k_ne) h0 (λ_=>bD) (λ_=>bD) aF λbr ga LC h1 o1 l1=>?_
 walk_nrm
 apply ET.rn;apply ET.sq;apply ET.sr;refine ET.pure (.iface 131<|.agg #[c]) rfl ?_;walk_nrm
 refine ET.pure (.iface 138<|.pointer br) rfl ?_;walk_nrm
 (refine ET.k rfl λ_ _ _=>goes_call rfl rfl (by k_ne) rfl Tryz.func98 bD rfl ⟨⟨rfl,λe he=>ia⟩,?_⟩;walk_nrmf Tryz.f98)
 apply ET.sr;refine ET.pure false rfl ?_;walk_nrm
 apply ET.rn;apply ET.sq;apply ET.sr;refine ET.pure (.iface 131<|.agg #[c]) rfl ?_;walk_nrm
 refine ET.pure false rfl ?_;walk_nrm
 apply ET.rn;refine ET.gJ rfl ?_;apply ET.sk;apply ET.sq;apply ET.sr;refine ET.pure (.iface 138<|.pointer br) rfl ?_;walk_nrm
 refine ET.pure false rfl ?_;walk_nrm
 apply ET.rn;refine ET.gJ rfl ?_;apply ET.sk;apply ET.sr;refine ET.pure (.iface 138<|.pointer br) rfl ?_;walk_nrm
 refine ET.makes (λB=>.agg #[.pointer<|some ⟨9,138,none⟩,.pointer<|some ⟨B,0,none⟩,.int .u64 150]) #[.pointer br] 138 #[⟨.mark<|.extern 126,false,true⟩] rfl rfl (by k_ne) h1 (λ_=>bD) (λ_=>bD) (by simp[vl]) λbv pq PA h2 o2 l2=>?_
 walk_nrm
 refine ET.makes (λB=>.pointer<|some ⟨B,0,none⟩) #[.pointer none,.pointer none,.int .u64 0] 162 #[] rfl rfl (by k_ne) h2 (λ_=>bD) (λ_=>bD) aF λbx aah Tp h3 o3 l3=>?_
 walk_nrm
 refine ET.writes #[.pointer<|some ⟨9,138,none⟩,.pointer bv,.int .u64 150] rfl rfl (by k_ne) h3 o3 l3 (λW hW=>RE rfl rfl rfl hW rfl) λabZ h4=>?_
 walk_nrm
 apply ET.ns;refine ET.looks (.agg #[.pointer<|some ⟨9,138,none⟩,.pointer bv,.int .u64 150]) rfl rfl (by k_ne) h4 (λW hW=>VV (vZ rfl rfl) hW<|.head _) ?_;walk_nrm
 refine ET.ext (.iface 187<|.agg #[.pointer<|some ⟨9,138,none⟩]) 127 rfl ?_;walk_nrm
 refine ET.pure (.iface 187<|.agg #[.pointer<|some ⟨9,138,none⟩]) rfl ?_;walk_nrm
 apply ET.rn;apply ET.sq;apply ET.sr;refine ET.pure (.iface 187<|.agg #[.pointer<|some ⟨9,138,none⟩]) rfl ?_;walk_nrm
 refine ET.ext (.int .u8 22) 273 rfl ?_;walk_nrm
 refine ET.pure false rfl ?_;walk_nrm
 refine ET.pure false rfl ?_;walk_nrm
 refine ET.looks (.agg #[.pointer<|some ⟨9,138,none⟩,.pointer bv,.int .u64 150]) rfl rfl (by k_ne) h4 (λW hW=>VV (vZ rfl rfl) hW<|.head _) ?_;walk_nrm
 refine ET.looks false rfl rfl (by k_ne) h4 (λW hW=>SK (DI (e:=ReflectliteValue.method (ReflectliteValue.valueError "reflectlite.Value.IsNil" 0) ReflectliteValue.isNil) rfl Tryz.func128 bD bD bD bD (by simp[Act.eval]) λes=>N0 bv br W es<|hW.cell (.tail _<|.head _) rfl)<|.tail _<|.head _) ?_;walk_nrm
 refine ET.pure false rfl ?_;walk_nrm
 apply ET.rn;refine ET.gJ rfl ?_;apply ET.sk;apply ET.sr;refine ET.pure (.iface 187<|.agg #[.pointer<|some ⟨9,138,none⟩]) rfl ?_;walk_nrm
 refine ET.ext (.iface 187<|.agg #[.pointer<|some ⟨9,131,none⟩]) 301 rfl ?_;walk_nrm
 refine ET.pure (.iface 187<|.agg #[.pointer<|some ⟨9,131,none⟩]) rfl ?_;walk_nrm
 apply ET.rn;apply ET.sq;apply ET.sr;refine ET.pure (.iface 187<|.agg #[.pointer<|some ⟨9,131,none⟩]) rfl ?_;walk_nrm
 refine ET.ext (.int .u8 25) 273 rfl ?_;walk_nrm
 refine ET.pure true rfl ?_;walk_nrm
 refine ET.pure true rfl ?_;walk_nrm
 refine ET.pure (.iface 187<|.agg #[.pointer<|some ⟨9,131,none⟩]) rfl ?_;walk_nrm
 refine ET.looks (.iface 187<|.agg #[.pointer<|some ⟨9,93,none⟩]) rfl rfl (by k_ne) h4 (λW hW=>VV (I4 rfl rfl (λ_=>bD) λ_ _=>bD) hW<|.tail _<|.tail _<|.tail _<|.head _) ?_;walk_nrm
 refine ET.ext true 302 rfl ?_;walk_nrm
 refine ET.pure false rfl ?_;walk_nrm
 refine ET.pure false rfl ?_;walk_nrm
 apply ET.rn;refine ET.gJ rfl ?_;apply ET.sk;apply ET.sr;refine ET.pure (.iface 131<|.agg #[c]) rfl ?_;walk_nrm
 refine ET.pure (.iface 138<|.pointer br) rfl ?_;walk_nrm
 refine ET.looks (.agg #[.pointer<|some ⟨9,138,none⟩,.pointer bv,.int .u64 150]) rfl rfl (by k_ne) h4 (λW hW=>VV (vZ rfl rfl) hW<|.head _) ?_;walk_nrm
 refine ET.pure (.iface 187<|.agg #[.pointer<|some ⟨9,131,none⟩]) rfl ?_;walk_nrm
 (refine ET.k rfl λ_ _ _=>goes_call rfl rfl (by k_ne) rfl Tryz.func129 bD rfl ⟨⟨rfl,λe he=>ia⟩,?_⟩;walk_nrmf Tryz.f129)
 apply ET.sr;refine ET.makes (λB=>.pointer<|some ⟨B,0,none⟩) #[.pointer<|some ⟨9,138,none⟩,.pointer bv,.int .u64 150] 162 #[] rfl rfl (by k_ne) h4 (λ_=>bD) (λ_=>bD) aF λbb abW ab0 h5 o5 l5=>?_
 walk_nrm
 refine ET.pure false rfl ?_;walk_nrm
 apply ET.rn;refine ET.c (λ_=>stepG_block) ?_;refine ET.c (λ_=>stepG_loop) ?_;refine ET.c (λ_=>stepG_block) ?_;apply ET.sq;apply ET.sr;refine ET.pure (.iface 131<|.agg #[c]) rfl ?_;walk_nrm
 refine ET.ext (.iface 187<|.agg #[.pointer<|some ⟨9,131,none⟩]) 151 rfl ?_;walk_nrm
 refine ET.pure (.iface 187<|.agg #[.pointer<|some ⟨9,131,none⟩]) rfl ?_;walk_nrm
 refine ET.ext true 299 rfl ?_;walk_nrm
 apply ET.rn;refine ET.kX rfl ?_;apply ET.sr;refine ET.looks (.agg #[.pointer<|some ⟨9,138,none⟩,.pointer bv,.int .u64 150]) rfl rfl (by k_ne) h5 (λW hW=>VV (vZ rfl rfl) hW<|.head _) ?_;walk_nrm
 refine ET.looks (.agg #[.pointer<|some ⟨9,131,none⟩,.pointer br,.int .u64 409]) rfl rfl (by k_ne) h5 (λW hW=>SK (DI (e:=ReflectliteValue.method (ReflectliteValue.valueError "reflectlite.Value.Elem" 0) ReflectliteValue.elem) rfl Tryz.func152 bD bD bD bD (by simp[Act.eval]) λes=>Pq bv br W es<|hW.cell (.tail _<|.tail _<|.head _) rfl)<|.tail _<|.tail _<|.head _) ?_;walk_nrm
 refine ET.pure (.iface 131<|.agg #[c]) rfl ?_;walk_nrm
 refine ET.makes (λB=>.agg #[.pointer<|some ⟨9,131,none⟩,.pointer<|some ⟨B,0,none⟩,.int .u64 153]) #[c] 131 #[⟨.mark<|.extern 126,false,true⟩] rfl rfl (by k_ne) h5 (λ_=>bD) (λ_=>bD) (by simp[vl]) λbe abX ab1 h6 o6 l6=>?_
 walk_nrm
 refine ET.abB (.tuple #[]) rfl rfl (by k_ne) h6 (.tail _<|.tail _<|.tail _<|.tail _<|.head _) (.head _) o1 (λW hW=>P2 (e:=ReflectliteValue.set) rfl Tryz.func153 bD bD bD bD (by simp[Act.eval]) λes=>Vy br be c _ W es (hW.cell (.head _) rfl) (hW.cell (.tail _<|.tail _<|.tail _<|.tail _<|.head _) rfl)<|hW.thaw<|.tail _<|.tail _<|.tail _<|.tail _<|.head _) λab2 h7=>?_
 walk_nrm
 apply ET.ns;refine ET.pure true rfl ?_;walk_nrm
 apply ET.rn;apply ET.rt
 (refine ET.k rfl λ_ _ _=>goes_leave1 rfl rfl Tryz.func129 rfl ⟨⟨rfl,λe he=>ia⟩,?_⟩;walk_nrm)
 refine ET.pure true rfl ?_;walk_nrm
 apply ET.rn;apply ET.rt
 (refine ET.k rfl λ_ _ _=>goes_leave1 rfl rfl Tryz.func98 rfl ⟨⟨rfl,λe he=>ia⟩,?_⟩;walk_nrm)
 apply ET.rn;refine ET.kX rfl ?_;apply ET.sr;refine ET.pure (.pointer br) rfl ?_;walk_nrm
 refine ET.looks c rfl rfl (by k_ne) h7 (λW hW=>VV (I4 rfl rfl (λ_=>bD) λ_ _=>bD) hW<|.head _) ?_;walk_nrm
 refine ET.pure c rfl ?_;walk_nrm
 apply ET.rn;apply ET.rt;refine ET.Cv (.int .i64 c) rfl rfl Tryz.func68 (λah _ _=>⟨bD,λe he=>?_⟩) ?_
 .rw[show(results Tryz.f68 _).events Tryz.prog ah #[]=#[] by kernel_rfl]at he;simp at he
 exact ET.stop λW' k _=>⟨rfl,(h7.rely k).less aF⟩
def PO (h0:CS M W [] M W):
  ET Tryz.prog true (λ_=>True) Ph.nE (λ_=>False) (λM' g W'=>g=G (r0.finish<|.int .i64 0) rest/\CS M W [] M' W') M
   (G ((base 68).at ⟨#[.nilIface,ud,ud,ud,ud,ud,ud,ud,ud],[]⟩ [.code Ae]) (r0::rest)) W:=by
 simp only[Ae,Tryz.f68,Option.getD_some];apply ET.sr;refine ET.pure (.int .i64 0) rfl ?_;walk_nrm
 apply ET.ns;refine ET.makes (λB=>.pointer<|some ⟨B,0,none⟩) #[(0:Int)] 131 #[] rfl rfl (by k_ne) h0 (λ_=>bD) (λ_=>bD) aF λbr ga LC h1 o1 l1=>?_
 walk_nrm
 apply ET.rn;apply ET.sq;apply ET.sr;refine ET.pure (.nilIface) rfl ?_;walk_nrm
 refine ET.pure (.iface 138<|.pointer br) rfl ?_;walk_nrm
 (refine ET.k rfl λ_ _ _=>goes_call rfl rfl (by k_ne) rfl Tryz.func98 bD rfl ⟨⟨rfl,λe he=>ia⟩,?_⟩;walk_nrmf Tryz.f98)
 apply ET.sr;refine ET.pure false rfl ?_;walk_nrm
 apply ET.rn;apply ET.sq;apply ET.sr;refine ET.pure (.nilIface) rfl ?_;walk_nrm
 refine ET.pure true rfl ?_;walk_nrm
 apply ET.rn;refine ET.kX rfl ?_;apply ET.sr;refine ET.pure false rfl ?_;walk_nrm
 apply ET.rn;apply ET.rt
 (refine ET.k rfl λ_ _ _=>goes_leave1 rfl rfl Tryz.func98 rfl ⟨⟨rfl,λe he=>ia⟩,?_⟩;walk_nrm)
 apply ET.rn;refine ET.gJ rfl ?_;apply ET.sk;apply ET.sr;refine ET.pure (.int .i64 0) rfl ?_;walk_nrm
 apply ET.rn;apply ET.rt;refine ET.Cv (.int .i64 0) rfl rfl Tryz.func68 (λah _ _=>⟨bD,λe he=>?_⟩) ?_
 .rw[show(results Tryz.f68 _).events Tryz.prog ah #[]=#[] by kernel_rfl]at he;simp at he
 exact ET.stop λW' k _=>⟨rfl,(h1.rely k).less aF⟩
