import Derived.Test.YtlmcblcijndipaaGreatM10
import Derived.Test.YtlmcblcijndipaaGreatM10b
namespace Go.Proofs.YtlmcblcijndipaaGreat
open Go Go.Conc Go.RowKit
structure Bl (N:Nat)(w w':World):Prop where
 size:w.heap.size<=w'.heap.size
 block:∀k,k<N->w'.heap[k]?=w.heap[k]?
theorem Bl.refl (N:Nat)(w:World):Bl N w w:=⟨Nat.le_refl _,λ_ _=>rfl⟩
theorem Bl.ofR {V w:World}{τ:Nat->Question->Nat}{d:Nat}(h:Below (re V τ d).heap.size (re V τ d) w):Bl V.heap.size V w:=⟨h.size,h.block⟩
theorem Bl.trans {N M:Nat}{a b c:World}(h:Bl N a b)(k:Bl M b c)(hN:N<=M):Bl N a c:=⟨Nat.le_trans h.size k.size,λi hi=>(k.block i (by omega)).trans (h.block i hi)⟩
end Go.Proofs.YtlmcblcijndipaaGreat
namespace Go.Proofs.YtlmcblcijndipaaGreat
open Go Go.Conc
def Aj (K R:Act->World->Prop):Exit->Act->World->Prop
 |.normal=>K
 |.ret=>R
 |_=>λ_ _=>False
section
variable [Gl]{P₀:Program}{ok:Ctx}{c:Frame}{Dr:FuncId->Array Value->World->(Value->World->Prop)->Prop}{Q:Value->World->Prop}{b:Frame}{a:Act}{k:List Item}{cs:List Frame}{V:World}
theorem az.chainM (E:dm P₀ ok c Dr)(hb:ok.inn b.fn=true)(ss:List Code)(T:Code)(K R:Act->World->Prop)
  (h:∀τ d,aK P₀ (Aj K R) ss a (re V τ d))
  (hK:∀a' w',K a' w'->az P₀ ok c Dr Q ⟨b.at a' (.code T::k),cs,w'⟩)(hR:∀a' w' todo,R a' w'->az P₀ ok c Dr Q ⟨{b.at a' todo with mode:=.returning},cs,w'⟩):
  az P₀ ok c Dr Q ⟨b.at a (.code (Proofs.YtlmcblcijndipaaGreat.chain ss T)::k),cs,V⟩:=by
 refine az.of_steps E.pair E.shut E.floor (λs1=>(∃a' w',K a' w'/\s1=⟨b.at a' (.code T::k),cs,w'⟩)\/∃a' w' todo,R a' w'/\s1=⟨{b.at a' todo with mode:=.returning},cs,w'⟩) ?_ (λτ d=>?_) ?_
 .rintro _ (⟨a',w',_,rfl⟩|⟨a',w',todo,_,rfl⟩)
  .exact hb
  .exact hb
 .obtain⟨e,a',w',hq,harr⟩:=iL (T:=T) ss (h τ d) b k (cs++[c]);cases e with
  |normal=>exact⟨_,.inl ⟨a',w',hq,rfl⟩,harr⟩
  |ret=>
   obtain⟨todo,hs⟩:=harr;exact⟨_,.inr ⟨a',w',todo,hq,rfl⟩,hs⟩
  |_=>exact hq.elim
 .rintro _ (⟨a',w',h1,rfl⟩|⟨a',w',todo,h1,rfl⟩)
  .exact hK a' w' h1
  .exact hR a' w' todo h1
end
end Go.Proofs.YtlmcblcijndipaaGreat
