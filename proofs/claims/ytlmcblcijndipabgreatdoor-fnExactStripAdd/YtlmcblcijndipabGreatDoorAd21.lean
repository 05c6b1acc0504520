import Derived.Test.YtlmcblcijndipabGreatDoorAd20
import Derived.Test.YtlmcblcijndipabGreatDoorAd15b
set_option linter.unusedVariables false
namespace Go.Proofs.YtlmcblcijndipabGreatDoor
section
open Go Go.Conc Go.RowKit
def zN (v:Value)(c:Int):Prop:=(v=.nilIface/\c=0)\/v=.iface 128 (.agg #[.int .i64 c])
def mc:Obj:=.cells #[.iface 175 (.agg #[.pointer (some ⟨9,92,none⟩)])] 155 (0,0)
def xZ (M:Nat->Prop)(W:World):Prop:=M 0/\W.heap[0]?=some mc
def DrC (f:FuncId)(xs:Array Value)(V:World)(R:Value->World->Prop):Prop:=f=65/\∃v c,xs=#[v]/\zN v c/\R=λr V'=>r=.int .i64 c/\V'=V
theorem zO:Tryz.f65.body=some bodyC:=rfl
theorem x8 (v:Value):Frame.enter Tryz.prog 65 #[v] .normal=(base 65).at ⟨#[v,undef,undef,undef,undef,undef,undef,undef,undef],[]⟩ [.code bodyC]:=by
 rw[enter_at #[v] Tryz.func65 zO];rfl
theorem tQ {v:Value}{c:Int}{M:Nat->Prop}{W:World}{Shun:Loc->Prop}{gs:Array Goroutine}{r0:Frame}{rest:List Frame}{t:Trace}{q:Nat->Nat}{sl:Option (Nat×Nat)}(hv:zN v c)(hI:xZ M W)
  (h:bp Tryz.prog Shun none0 none0 M gs (G (Frame.enter Tryz.prog 65 #[v] .normal) (r0::rest)) W t q):
  ∃N gs' M' W' sl' t' q',runNT Tryz.prog N (crowd gs W sl) t=(.next (crowd gs' W' sl'),t')/\bp Tryz.prog Shun none0 none0 M' gs' (G (r0.finish (.int .i64 c)) rest) W' t' q'/\CS M W [] M' W':=by
 have hl:∀b,M b->b<W.heap.size:=λb hb=>h.lt b (.inl hb)
 have h0:CS M W [] M W:=⟨λ_ h=>h,ax.refl _ _,hl,λ_ h=>.inl h,hl,λp hp=>by simp at hp⟩;have hE:ET Tryz.prog true (λ_=>True) Ph.noX none0 (λM' g W'=>g=G (r0.finish (.int .i64 c)) rest/\CS M W [] M' W') M (G (Frame.enter Tryz.prog 65 #[v] .normal) (r0::rest)) W:=by
  rw[x8];rcases hv with⟨rfl,rfl⟩|rfl
  .exact BD h0
  .exact BA c ⟨λ_ h=>h,ax.refl _ _,hl,λ_ h=>.inl h,hl,λp hp=>by obtain rfl:=List.mem_singleton.1 hp;exact hI⟩
 obtain⟨r,hr⟩:=hE;obtain⟨N,gs',M',a',w',sl',t',q',h1,_,h3,h4,_⟩:=eN (λ_=>trivial) r _ gs M _ W sl t q (Gm _) h hr;obtain⟨rfl,h5⟩:=h3 w' (ax.refl _ _) trivial;exact⟨N,gs',M',w',sl',t',q',h1,h4,h5⟩
section
variable [Gl]{ok:Ctx}
theorem x9 {ρ:Ren}{v v':Value}{c:Int}(h:zN v c)(hv:aj ok ρ v v'):v'=v:=by
 rcases h with⟨rfl,_⟩|rfl
 .cases hv;rfl
 .cases hv with
  |iface t hv=>
   cases hv with
   |@agg xs xs' e hv=>
    have:xs'=#[.int .i64 c]:=by
     refine Array.ext (by simpa using e.symm) λi h1 h2=>?_
     have hi:i=0:=by simp at h2;omega
     subst hi;have:=hv 0 (.int .i64 c) xs'[0] rfl (Gu h1);generalize xs'[0]=z at this;cases this;rfl
    rw[this]
theorem zP:jg Tryz.prog ok xZ DrC:=by
 rintro f xs V ρ xs' W M Shun gs r0 rest t q sl R hI ⟨rfl,v,c,rfl,hv,rfl⟩ hxs hw ho hl;obtain⟨v',e0,r0'⟩:=hxs.get (i:=0) rfl;obtain rfl:xs'=#[v']:=by
  refine Array.ext (by simpa using hxs.size.symm) λi h1 h2=>?_
  have hi:i=0:=by simp at h2;omega
  subst hi;have:=Gu h1;rw[e0]at this;exact(Gt this).symm
 obtain rfl:=x9 hv r0';obtain⟨N,gs',M',W',sl',t',q',k1,k2,k3⟩:=tQ (sl:=sl) hv hI hl;exact⟨N,gs',W',sl',t',q',Shun,M',.int .i64 c,ρ,.int .i64 c,V,k1,k2,Ren.le_refl _,.int _ _,hw.others ho (k3.keep.mono λb hb=>hb.elim id λx=>x.elim),λb d hb=>k3.own d (ho b d hb),⟨rfl,rfl⟩,k3.keep,k3.own,λb d hb=>.inl hb,λ_ _=>rfl⟩
theorem Du:jh ok DrC:=by
 rintro f xs V V' v ρ R ⟨_,v0,c,_,_,rfl⟩ ⟨rfl,rfl⟩ _ hw;exact⟨ρ,Ren.le_refl _,.int _ _,hw⟩
end
structure Bl (N:Nat)(w w':World):Prop where
 size:w.heap.size<=w'.heap.size
 block:∀k,k<N->w'.heap[k]?=w.heap[k]?
theorem Bl.ofR {V w:World}{τ:Nat->Question->Nat}{d:Nat}(h:Below (re V τ d).heap.size (re V τ d) w):Bl V.heap.size V w:=⟨h.size,h.block⟩
theorem Bl.trans {N M:Nat}{a b c:World}(h:Bl N a b)(k:Bl M b c)(hN:N<=M):Bl N a c:=⟨Gq h.size k.size,λi hi=>(k.block i (by omega)).trans (h.block i hi)⟩
end
section
open Go Go.Conc
def DA (K R:Act->World->Prop):Exit->Act->World->Prop
 |.normal=>K
 |.ret=>R
 |_=>λ_ _=>False
section
variable [Gl]{P0:Program}{ok:Ctx}{c:Frame}{Dr:FuncId->Array Value->World->(Value->World->Prop)->Prop}{Q:Value->World->Prop}{b:Frame}{a:Act}{k:List Item}{cs:List Frame}{V:World}
theorem ap.chainM (E:bG P0 ok c Dr)(hb:ok.inn b.fn=true)(ss:List Code)(T:Code)(K R:Act->World->Prop)
  (h:∀τ d,aD P0 (DA K R) ss a (re V τ d))
  (hK:∀a' w',K a' w'->ap P0 ok c Dr Q ⟨b.at a' (.code T::k),cs,w'⟩)(hR:∀a' w' todo,R a' w'->ap P0 ok c Dr Q ⟨{b.at a' todo with mode:=.returning},cs,w'⟩):
  ap P0 ok c Dr Q ⟨b.at a (.code (Proofs.YtlmcblcijndipabGreatDoor.chain ss T)::k),cs,V⟩:=by
 refine ap.of_steps E.pair E.shut E.floor (λs1=>(∃a' w',K a' w'/\s1=⟨b.at a' (.code T::k),cs,w'⟩)\/∃a' w' todo,R a' w'/\s1=⟨{b.at a' todo with mode:=.returning},cs,w'⟩) ?_ (λτ d=>?_) ?_
 .rintro _ (⟨a',w',_,rfl⟩|⟨a',w',todo,_,rfl⟩)
  .exact hb
  .exact hb
 .obtain⟨e,a',w',hq,harr⟩:=ji (T:=T) ss (h τ d) b k (cs++[c]);cases e with
  |normal=>exact⟨_,.inl ⟨a',w',hq,rfl⟩,harr⟩
  |ret=>
   obtain⟨todo,hs⟩:=harr;exact⟨_,.inr ⟨a',w',todo,hq,rfl⟩,hs⟩
  |_=>exact hq.elim
 .rintro _ (⟨a',w',h1,rfl⟩|⟨a',w',todo,h1,rfl⟩)
  .exact hK a' w' h1
  .exact hR a' w' todo h1
end
end
