import Derived.Below
import Derived.Laws.AppendOwn
import Derived.Deep.RegionHeld3
set_option linter.unusedVariables false
namespace Go.Proofs.YtlmcblcijndipaaGreat
open Go Go.RowKit
def aM (w:World)(b:Nat):Prop:=∃cs e,w.heap[b]?=some (.cells cs e (0,0))/\∀v∈cs,(∃x,v=.bool x)\/(∃k x,v=.int k x)\/∃s,v=.string s
def ga (v:Value):Prop:=(∃x,v=.bool x)\/(∃k x,v=.int k x)\/∃s,v=.string s
def fV (w:World)(v:Value):Prop:=∀B,v.ownBlock=some B->aM w B
theorem aM.same {w w':World}{b:Nat}(h:aM w b)(e:w'.heap[b]?=w.heap[b]?):aM w' b:=by obtain⟨cs,t,h1,h2⟩:=h;exact⟨cs,t,e.trans h1,h2⟩
theorem aM.lt {w:World}{b:Nat}(h:aM w b):b<w.heap.size:=by obtain⟨cs,t,h1,h2⟩:=h;exact(Array.getElem?_eq_some_iff.1 h1).1
theorem aM.set {w:World}{b j:Nat}{v:Value}(h:aM w b)(hv:ga v):aM (w.setCell ⟨b,j,none⟩ v) b:=by
 obtain⟨cs,t,h1,h2⟩:=h;refine⟨cs.setIfInBounds j v,t,heap_setCell_same _ _ j _ _ v h1,λu hu=>?_⟩;rcases Array.mem_or_eq_of_mem_setIfInBounds hu with h|h
 .exact h2 u h
 .rw[h];exact hv
theorem fV.same {w w':World}{v:Value}(h:fV w v)(e:∀B,v.ownBlock=some B->B<w.heap.size->w'.heap[B]?=w.heap[B]?):fV w' v:=λB hB=>(h B hB).same (e B hB (h B hB).lt)
theorem rk {z:Array Value}{n:Nat}{u:Value}(h:u∈Builtin.zeroCells z n):u∈z:=by
 unfold Builtin.zeroCells at h;obtain⟨i,hi,rfl⟩:=Array.mem_map.1 h;have hz:0<z.size:=by
  rcases Nat.eq_zero_or_pos z.size with h0|h0
  .rw[h0]at hi;simp at hi
  .exact h0
 have hlt:=Nat.mod_lt i hz;rw[getElem!_pos z (i%z.size) hlt];exact Array.getElem_mem hlt
section
variable {P:Program}{w:World}
theorem jF (base:Nat)(t ty e:TypeId)(i:TypeInfo)(z:Value)(size bytes:Nat)(ht:P.underlying t=some (.slice e))(hi:P.info? e=some i)(hz:i.zero=some z)(hsize:i.size=size)(hby:i.bytes=bytes)(hzs:z.cells.size=size)
  (v:Value)(n:Nat)(xs:List Value)(hown:w.ownsRow base e size v n xs)(hpl:fV w v)
  (a:Addr)(m c:Nat)(news:List Value)(hl:news.length=m*size)(hnews:∀j u,news[j]?=some u->w.cell? (a.add j)=some u)(h1:∀u∈news,u.oneCell'=true)(hnp:∀u∈news,ga u)(hzp:∀u∈z.cells,ga u)
  (h63:n+m<=maxLen)(hbytes:(n+m)*bytes<=140737488355328){v':Value}{w':World}(hr:(Builtin.append_ #[t,t] ty #[v,.slice (some a) m c]).run P w=.ok v' w'):fV w' v':=by
 subst hsize hby;have hsmall:n+m<=9223372036854775807:=by simp only[maxLen]at h63;omega
 have fresh:∀(cs:Array Value) (k l:Nat),(∀u∈cs,ga u)->fV (w.drew.alloc (.cells cs e)) (.slice (some ⟨w.heap.size,0,none⟩) k l):=λcs k l h B hB=>by
  simp only[Value.ownBlock,Option.some.injEq]at hB;subst hB;exact⟨cs,e,heap_alloc_new w.drew _,h⟩
 rcases hown.2 with⟨rfl,rfl⟩|⟨g,cap,cur,rfl,hbg,hg,hnc,hcm,hcs,htake⟩
 .by_cases hm:m=0
  .subst hm;have hn:news=[]:=List.eq_nil_of_length_eq_zero (by simpa using hl);subst hn;have hr':(Builtin.append_ #[t,t] ty #[.slice none 0 0,.slice (some a) 0 c]).run P w=.ok (.slice none 0 0) w:=by
    simp[Builtin.append_,run_underlying ht,sizeOf,typeInfo,hi,Builtin.lenOf,Builtin.firstCells,loadCells,loadCellsFrom]
   rw[hr']at hr;simp only[Result.ok.injEq]at hr;obtain⟨rfl,rfl⟩:=hr;exact λB hB=>by cases hB
  .rw[run_append_nil (P:=P) w t ty e i z ht hi hz a m c news hl hnews (by omega) (by omega) (by have hb:=hbytes;simp only[Nat.zero_add]at hb;omega)]at hr;simp only[Result.ok.injEq]at hr;obtain⟨rfl,rfl⟩:=hr;refine fresh _ _ _ λu hu=>?_
   rcases Array.mem_append.1 hu with h|h
   .exact hnp u (by simpa using h)
   .exact hzp u (rk h)
 .obtain⟨cs0,e0,k1,k2⟩:=hpl g rfl;have hcur:∀u∈cur,ga u:=by
   rw[hg]at k1;simp only[Option.some.injEq,Obj.cells.injEq]at k1;obtain⟨rfl,_⟩:=k1;exact k2
  by_cases hroom:n+m<=cap
  .have hfit:n*i.size+news.length<=cur.size:=by rw[hl,hcs,<-Nat.add_mul];exact Nat.mul_le_mul_right _ hroom
   rw[run_append_room (P:=P) w t ty e i ht hi g n cap cur hg a m c news hl hnews h1 hroom hfit]at hr;simp only[Result.ok.injEq]at hr;obtain⟨rfl,rfl⟩:=hr;intro B hB;simp only[Value.ownBlock,Option.some.injEq]at hB;subst hB;refine⟨_,e,setRow_heap w g cur _ e _ hg,λu hu=>?_⟩;have hu:u∈cur.toList.take (n*i.size)++news++cur.toList.drop (n*i.size+news.length):=by simpa using hu
   rcases List.mem_append.1 hu with hu|hu
   .rcases List.mem_append.1 hu with hu|hu
    .exact hcur u (by simpa using List.mem_of_mem_take hu)
    .exact hnp u hu
   .exact hcur u (by simpa using List.mem_of_mem_drop hu)
  .have holds:∀j u,xs[j]?=some u->w.cell? ((⟨g,0,none⟩:Addr).add j)=some u:=hown.cells (g:=g) rfl;rw[run_append_grow (P:=P) w t ty e i z ht hi hz ⟨g,0,none⟩ n cap xs hown.1 holds a m c news hl hnews (by omega) (by omega) (growslice_fits (by omega) hbytes)]at hr;simp only[Result.ok.injEq]at hr;obtain⟨rfl,rfl⟩:=hr;refine fresh _ _ _ λu hu=>?_
   rcases Array.mem_append.1 hu with h|h
   .rcases Array.mem_append.1 h with h|h
    .have h:u∈xs:=by simpa using h
     rw[<-htake]at h;exact hcur u (by simpa using List.mem_of_mem_take h)
    .exact hnp u (by simpa using h)
   .exact hzp u (rk h)
end
end Go.Proofs.YtlmcblcijndipaaGreat
namespace Go.Proofs.YtlmcblcijndipaaGreat
open Go
theorem aB {P:Program}{md:Region.Mode}{ops:Array Oper}{Q:Exit->Act->World->Prop}{S:World->Prop}{i:Nat}{oi:Oper}{v:Value}{fuel:Nat}{listed:Array Bool}{a:Act}{w:World}(d:Nat)(hi:ops[i]?=some oi)(hd:oi.dst=some d)
  (hs:Region.noSelect ops=true)(hf:Region.free md ops listed i=true)(hr:(Region.ready md ops listed).contains i=true)
  (hQ:∀c a w,Q (.panic c) (a.put (some d) v) w->Q (.panic c) a w)(hy:YieldsIf P ops S oi v a)(hS:S w)
  (h:wpAnyH P md ops Q S fuel (listed.setIfInBounds i true) (a.put (some d) v) w):wpAnyH P md ops Q S (fuel+1) listed a w:=
 wpAnyH_take hi hs hf hr (by rw[hd];exact hQ) hy hS (by rw[hd];exact h)
end Go.Proofs.YtlmcblcijndipaaGreat
