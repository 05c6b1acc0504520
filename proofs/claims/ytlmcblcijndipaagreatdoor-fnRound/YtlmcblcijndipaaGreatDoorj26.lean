import Derived.Test.YtlmcblcijndipaaGreatDoorj19
import Derived.Test.YtlmcblcijndipaaGreatDoorj15b
import Derived.Lib.Overlaps
set_option linter.unusedVariables false
namespace Go.Proofs.YtlmcblcijndipaaGreatDoor
section
open Conc RowKit
def GX (v:Value)(c:Int):Prop:=(v=.nilIface/\c=0)\/v=.iface 131 (.agg #[c])
def vQ:Obj:=.cells #[.iface 187 (.agg #[.pointer (some ⟨9,93,none⟩)])] 165 (0,0)
def Hv (M:Nat->Prop)(W:World):Prop:=M 0/\W.heap[0]?=some vQ
def ZM (f:FuncId)(xs:Array Value)(V:World)(R:Value->World->Prop):Prop:=f=68/\∃v c,xs=#[v]/\GX v c/\R=λr V'=>r=.int .i64 c/\V'=V
theorem KA:Tryz.f68.body=some yE:=rfl
theorem Id (v:Value):Frame.enter Tryz.prog 68 #[v] .normal=(base 68).at ⟨#[v,undef,undef,undef,undef,undef,undef,undef,undef],[]⟩ [.code yE]:=by
 rw[enter_at #[v] Tryz.func68 KA];rfl
theorem BP {v:Value}{c:Int}{M:Nat->Prop}{W:World}{ax:Loc->Prop}{gs:Array Goroutine}{r0:Frame}{rest:List Frame}{t:Trace}{q:Nat->Nat}{sl:Option (Nat×Nat)}(hv:GX v c)(hI:Hv M W)
  (h:dD Tryz.prog ax iR iR M gs (G (Frame.enter Tryz.prog 68 #[v] .normal) (r0::rest)) W t q):
  ∃N jw M' W' jU t' q',runNT Tryz.prog N (crowd gs W sl) t=(.next (crowd jw W' jU),t')/\dD Tryz.prog ax iR iR M' jw (G (r0.finish c) rest) W' t' q'/\CS M W [] M' W':=by
 have hl:∀b,M b->b<W:=λb hb=>h.lt b (.inl hb)
 have h0:CS M W [] M W:=⟨λ_ h=>h,aO.refl _ _,hl,λ_ h=>.inl h,hl,λp hp=>by simp at hp⟩;have hE:ET Tryz.prog true (λ_=>True) Ph.mU iR (λM' g W'=>g=G (r0.finish c) rest/\CS M W [] M' W') M (G (Frame.enter Tryz.prog 68 #[v] .normal) (r0::rest)) W:=by
  rw[Id];rcases hv with⟨rfl,rfl⟩|rfl
  .exact Od h0
  .exact Oc c ⟨λ_ h=>h,aO.refl _ _,hl,λ_ h=>.inl h,hl,λp hp=>by obtain rfl:=List.mem_singleton.1 hp;exact hI⟩
 obtain⟨r,hr⟩:=hE;obtain⟨N,jw,M',a',w',jU,t',q',h1,_,h3,h4,_⟩:=jf (λ_=>trivial) r _ gs M _ W sl t q (ack _) h hr;obtain⟨rfl,h5⟩:=h3 w' (aO.refl _ _) trivial;exact⟨N,jw,M',w',jU,t',q',h1,h4,h5⟩
section
variable [Gl]{ok:Ctx}
theorem IK {ρ:Ren}{v v':Value}{c:Int}(h:GX v c)(hv:ar ok ρ v v'):v'=v:=by
 rcases h with⟨rfl,_⟩|rfl
 .cases hv;rfl
 .cases hv with
  |iface t hv=>
   cases hv with
   |@agg xs xs' e hv=>
    have:xs'=#[.int .i64 c]:=by
     refine Array.ext (by simpa using e.symm) λi h1 h2=>?_
     have hi:i=0:=by simp at h2;omega
     subst hi;have:=hv 0 c xs'[0] rfl (acs h1);generalize xs'[0]=z at this;cases this;rfl
    rw[this]
theorem KE:oA Tryz.prog ok Hv ZM:=by
 rintro f xs V ρ xs' W M ax gs r0 rest t q sl R hI ⟨rfl,v,c,rfl,hv,rfl⟩ IC hw ho hl;obtain⟨v',e0,NA⟩:=IC.get (i:=0) rfl;obtain rfl:xs'=#[v']:=by
  refine Array.ext (by simpa using IC.size.symm) λi h1 h2=>?_
  have hi:i=0:=by simp at h2;omega
  subst hi;have:=acs h1;rw[e0]at this;exact(acr this).symm
 obtain rfl:=IK hv NA;obtain⟨N,jw,M',W',jU,t',q',k1,k2,k3⟩:=BP (sl:=sl) hv hI hl;exact⟨N,jw,W',jU,t',q',ax,M',c,ρ,c,V,k1,k2,Ren.le_refl _,.int _ _,hw.others ho (k3.keep.mono λb hb=>hb.elim id λx=>x.elim),λb d hb=>k3.own d (ho b d hb),⟨rfl,rfl⟩,k3.keep,k3.own,λb d hb=>.inl hb,λ_ _=>rfl⟩
theorem R3:oB ok ZM:=by
 rintro f xs V V' v ρ R ⟨_,v0,c,_,_,rfl⟩ ⟨rfl,rfl⟩ _ hw;exact⟨ρ,Ren.le_refl _,.int _ _,hw⟩
end
end
section
open Conc RowKit
variable {N:Nat}{w w':World}
structure Bl (N:Nat)(w w':World):Prop where
 size:w.heap.size<=w'
 block:∀k,k<N->w'.heap[k]?=w.heap[k]?
theorem Bl.of (h:Below N w w'):Bl N w w':=⟨h.size,h.block⟩
theorem Bl.pu {V:World}{τ:Nat->Question->Nat}{d:Nat}(h:Below (re V τ d).heap.size (re V τ d) w):Bl V V w:=⟨h.size,h.block⟩
theorem Bl.trans {M:Nat}{a b c:World}(h:Bl N a b)(k:Bl M b c)(hN:N<=M):Bl N a c:=⟨acn h.size k.size,λi hi=>(k.block i ab).trans (h.block i hi)⟩
end
section
open Conc
def KI (K R:Act->World->Prop):Exit->Act->World->Prop
 |.normal=>K
 |.ret=>R
 |_=>λ_ _=>False
section
variable [Gl]{P0:Program}{ok:Ctx}{c:Frame}{Dr:FuncId->Array Value->World->(Value->World->Prop)->Prop}{Q:Value->World->Prop}{b:Frame}{a:Act}{k:List Item}{cs:List Frame}{V:World}
theorem aF.EA (E:eI P0 ok c Dr)(hb:ok.bI b.fn=true)(ss:List Code)(T:Code)(K R:Act->World->Prop)
  (h:∀τ d,aP P0 (KI K R) ss a (re V τ d))
  (hK:∀a' w',K a' w'->aF P0 ok c Dr Q ⟨b.at a' (.code T::k),cs,w'⟩)(hR:∀a' w' todo,R a' w'->aF P0 ok c Dr Q ⟨{b.at a' todo with mode:=.returning},cs,w'⟩):
  aF P0 ok c Dr Q ⟨b.at a (.code (Proofs.YtlmcblcijndipaaGreatDoor.chain ss T)::k),cs,V⟩:=by
 refine aF.of_steps E.pair E.shut E.floor (λs1=>(∃a' w',K a' w'/\s1=⟨b.at a' (.code T::k),cs,w'⟩)\/∃a' w' todo,R a' w'/\s1=⟨{b.at a' todo with mode:=.returning},cs,w'⟩) ?_ (λτ d=>?_) ?_
 .rintro _ (⟨a',w',_,rfl⟩|⟨a',w',todo,_,rfl⟩)
  .exact hb
  .exact hb
 .obtain⟨e,a',w',hq,uO⟩:=oK (T:=T) ss (h τ d) b k (cs++[c]);cases e with
  |normal=>exact⟨_,.inl ⟨a',w',hq,rfl⟩,uO⟩
  |ret=>
   obtain⟨todo,hs⟩:=uO;exact⟨_,.inr ⟨a',w',todo,hq,rfl⟩,hs⟩
  |_=>exact hq.elim
 .rintro _ (⟨a',w',h1,rfl⟩|⟨a',w',todo,h1,rfl⟩)
  .exact hK a' w' h1
  .exact hR a' w' todo h1
end
end
section
open Conc RowKit
end
