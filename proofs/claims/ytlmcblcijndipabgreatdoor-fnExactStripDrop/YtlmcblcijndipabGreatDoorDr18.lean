import Derived.Below
import Derived.Laws.AppendOwn
import Derived.Test.YtlmcblcijndipabGreatDoorDr10
set_option linter.unusedVariables false
namespace Go.Proofs.YtlmcblcijndipabGreatDoor
section
open Go Go.RowKit
def aH (w:World)(b:Nat):Prop:=∃cs e,w.heap[b]?=some (.cells cs e (0,0))/\∀v∈cs,(∃x,v=.bool x)\/(∃k x,v=.int k x)\/∃s,v=.string s
def gb (v:Value):Prop:=(∃x,v=.bool x)\/(∃k x,v=.int k x)\/∃s,v=.string s
def ns (w:World)(v:Value):Prop:=∀B,v.ownBlock=some B->aH w B
theorem aH.same {w w':World}{b:Nat}(h:aH w b)(e:w'.heap[b]?=w.heap[b]?):aH w' b:=by obtain⟨cs,t,h1,h2⟩:=h;exact⟨cs,t,e.trans h1,h2⟩
theorem aH.lt {w:World}{b:Nat}(h:aH w b):b<w.heap.size:=by obtain⟨cs,t,h1,h2⟩:=h;exact(Array.getElem?_eq_some_iff.1 h1).1
theorem aH.set {w:World}{b j:Nat}{v:Value}(h:aH w b)(hv:gb v):aH (w.setCell ⟨b,j,none⟩ v) b:=by
 obtain⟨cs,t,h1,h2⟩:=h;refine⟨cs.setIfInBounds j v,t,heap_setCell_same _ _ j _ _ v h1,λu hu=>?_⟩;rcases Array.mem_or_eq_of_mem_setIfInBounds hu with h|h
 .exact h2 u h
 .rw[h];exact hv
theorem rW {z:Array Value}{n:Nat}{u:Value}(h:u∈Builtin.zeroCells z n):u∈z:=by
 unfold Builtin.zeroCells at h;obtain⟨i,hi,rfl⟩:=Array.mem_map.1 h;have hz:0<z.size:=by
  rcases Nat.eq_zero_or_pos z.size with h0|h0
  .rw[h0]at hi;simp at hi
  .exact h0
 have hlt:=Nat.mod_lt i hz;rw[getElem!_pos z (i%z.size) hlt];exact Array.getElem_mem hlt
section
variable {P:Program}{w:World}
theorem jI (base:Nat)(t ty e:TypeId)(i:TypeInfo)(z:Value)(size bytes:Nat)(ht:P.underlying t=some (.slice e))(hi:P.info? e=some i)(hz:i.zero=some z)(hsize:i.size=size)(hby:i.bytes=bytes)(hzs:z.cells.size=size)
  (v:Value)(n:Nat)(xs:List Value)(hown:w.ownsRow base e size v n xs)(hpl:ns w v)
  (a:Addr)(m c:Nat)(news:List Value)(hl:news.length=m*size)(hnews:∀j u,news[j]?=some u->w.cell? (a.add j)=some u)(h1:∀u∈news,u.oneCell'=true)(hnp:∀u∈news,gb u)(hzp:∀u∈z.cells,gb u)
  (h63:n+m<=maxLen)(hbytes:(n+m)*bytes<=140737488355328){v':Value}{w':World}(hr:(Builtin.append_ #[t,t] ty #[v,.slice (some a) m c]).run P w=.ok v' w'):ns w' v':=by
 subst hsize hby;have hsmall:n+m<=9223372036854775807:=by simp only[maxLen]at h63;omega
 have fresh:∀(cs:Array Value) (k l:Nat),(∀u∈cs,gb u)->ns (w.drew.alloc (.cells cs e)) (.slice (some ⟨w.heap.size,0,none⟩) k l):=λcs k l h B hB=>by
  simp only[Value.ownBlock,Option.some.injEq]at hB;subst hB;exact⟨cs,e,heap_alloc_new w.drew _,h⟩
 rcases hown.2 with⟨rfl,rfl⟩|⟨g,cap,cur,rfl,hbg,hg,hnc,hcm,hcs,htake⟩
 .by_cases hm:m=0
  .subst hm;have hn:news=[]:=List.eq_nil_of_length_eq_zero (by simpa using hl);subst hn;have hr':(Builtin.append_ #[t,t] ty #[.slice none 0 0,.slice (some a) 0 c]).run P w=.ok (.slice none 0 0) w:=by
    simp[Builtin.append_,run_underlying ht,sizeOf,typeInfo,hi,Builtin.lenOf,Builtin.firstCells,loadCells,loadCellsFrom]
   rw[hr']at hr;simp only[Result.ok.injEq]at hr;obtain⟨rfl,rfl⟩:=hr;exact λB hB=>by cases hB
  .rw[run_append_nil (P:=P) w t ty e i z ht hi hz a m c news hl hnews (by omega) (by omega) (by have hb:=hbytes;simp only[Nat.zero_add]at hb;omega)]at hr;simp only[Result.ok.injEq]at hr;obtain⟨rfl,rfl⟩:=hr;refine fresh _ _ _ λu hu=>?_
   rcases Array.mem_append.1 hu with h|h
   .exact hnp u (by simpa using h)
   .exact hzp u (rW h)
 .obtain⟨cs0,e0,k1,k2⟩:=hpl g rfl;have hcur:∀u∈cur,gb u:=by
   rw[hg]at k1;simp only[Option.some.injEq,Obj.cells.injEq]at k1;obtain⟨rfl,_⟩:=k1;exact k2
  by_cases hroom:n+m<=cap
  .have hfit:n*i.size+news.length<=cur.size:=by rw[hl,hcs,<-Nat.add_mul];exact Nat.mul_le_mul_right _ hroom
   rw[run_append_room (P:=P) w t ty e i ht hi g n cap cur hg a m c news hl hnews h1 hroom hfit]at hr;simp only[Result.ok.injEq]at hr;obtain⟨rfl,rfl⟩:=hr;intro B hB;simp only[Value.ownBlock,Option.some.injEq]at hB;subst hB;refine⟨_,e,setRow_heap w g cur _ e _ hg,λu hu=>?_⟩;have hu:u∈cur.toList.take (n*i.size)++news++cur.toList.drop (n*i.size+news.length):=by simpa using hu
   rcases List.mem_append.1 hu with hu|hu
   .rcases List.mem_append.1 hu with hu|hu
    .exact hcur u (by simpa using List.mem_of_mem_take hu)
    .exact hnp u hu
   .exact hcur u (by simpa using List.mem_of_mem_drop hu)
  .have holds:∀j u,xs[j]?=some u->w.cell? ((⟨g,0,none⟩:Addr).add j)=some u:=hown.cells (g:=g) rfl;rw[run_append_grow (P:=P) w t ty e i z ht hi hz ⟨g,0,none⟩ n cap xs hown.1 holds a m c news hl hnews (by omega) (by omega) (growslice_fits (by omega) hbytes)]at hr;simp only[Result.ok.injEq]at hr;obtain⟨rfl,rfl⟩:=hr;refine fresh _ _ _ λu hu=>?_
   rcases Array.mem_append.1 hu with h|h
   .rcases Array.mem_append.1 h with h|h
    .have h:u∈xs:=by simpa using h
     rw[<-htake]at h;exact hcur u (by simpa using List.mem_of_mem_take h)
    .exact hnp u (by simpa using h)
   .exact hzp u (rW h)
end
end
section
open Go.RowKit
def bu (f:Nat->Mv)(n:Nat):List Value:=(List.range n).flatMap λj=>(f j).cells.toList
theorem bg (f:Nat->Mv):∀n,(bu f n).length=n*6
 |0=>rfl
 |n+1=>by
  have:=bg f n;unfold bu at this⊢;rw[List.range_succ,List.flatMap_append,List.length_append,this];simp[Nat.add_mul]
theorem fo (f:Nat->Mv)(n:Nat):bu f (n+1)=bu f n++(f n).cells.toList:=by
 unfold bu;rw[List.range_succ,List.flatMap_append];simp
theorem ki {f g:Nat->Mv}:∀{n:Nat},(∀j,j<n->f j=g j)->bu f n=bu g n
 |0,_=>rfl
 |n+1,h=>by rw[fo,fo,ki (λj hj=>h j (by omega)),h n (by omega)]
theorem ji (f:Nat->Mv):∀n i k,i<n->k<6->(bu f n)[i*6+k]?=(f i).cells.toList[k]?
 |0,i,k,hi,_=>absurd hi (Nat.not_lt_zero _)
 |n+1,i,k,hi,hk=>by
  rw[fo];by_cases e:i=n
  .subst e;rw[List.getElem?_append_right (by rw[bg];omega),bg];congr 1;omega
  .rw[List.getElem?_append_left (by rw[bg];omega)];exact ji f n i k (by omega) hk
theorem dW {w:World}{base B n c:Nat}{T:TypeId}{f:Nat->Mv}(h:w.ownsRow base T 6 (.slice (some ⟨B,0,none⟩) n c) n (bu f n)):al w B 0 n f:=by
 intro i hi;have q:∀k,k<6->w.cell? ⟨B,0+i*6+k,none⟩=(f i).cells.toList[k]?:=λk hk=>by
  rw[Nat.zero_add,h.cellAt (i*6+k) (by omega)];exact ji f n i k hi hk
 exact⟨q 0 (by omega),q 1 (by omega),q 2 (by omega),q 3 (by omega),q 4 (by omega),q 5 (by omega)⟩
theorem yW:(Tryz0.prog.info? 36).map (λi=>(i.zero,i.size,i.bytes))=some (some (.agg #[.string ByteArray.empty,.bool false,.int .i64 0,.int .i64 0,.int .i64 0,.int .i64 0]),6,56):=by kernel_rfl
theorem jw (m:Mv):∀u∈m.cells.toList,u.oneCell'=true:=λu hu=>by
 simp at hu;rcases hu with rfl|rfl|rfl|rfl|rfl|rfl<;>rfl
theorem wN (m:Mv):∀u∈m.cells.toList,gb u:=λu hu=>by
 simp at hu;rcases hu with rfl|rfl|rfl|rfl|rfl|rfl<;>first|exact .inl ⟨_,rfl⟩|exact .inr (.inl ⟨_,_,rfl⟩)|exact .inr (.inr ⟨_,rfl⟩)
theorem mn:∀u∈(Value.agg #[.string ByteArray.empty,.bool false,.int .i64 0,.int .i64 0,.int .i64 0,.int .i64 0]).cells,gb u:=λu hu=>by
 simp[Value.cells]at hu;rcases hu with rfl|rfl|rfl<;>first|exact .inl ⟨_,rfl⟩|exact .inr (.inl ⟨_,_,rfl⟩)|exact .inr (.inr ⟨_,rfl⟩)
theorem od (B o j:Nat):(⟨B,o,none⟩:Addr).add j=⟨B,o+j,none⟩:=by unfold Addr.add;split<;>simp_all
theorem dv {w:World}{b off n:Nat}{f:Nat->Mv}(h:al w b off n f):∀(j:Nat) (u:Value),(bu f n)[j]?=some u->w.cell? ((⟨b,off,none⟩:Addr).add j)=some u:=λj u hu=>by
 have hj:j<n*6:=by rcases Nat.lt_or_ge j (n*6)with h|h;exact h;rw[List.getElem?_eq_none (by rw[bg];exact h)]at hu;cases hu
 have e:j=j/6*6+j%6:=by omega
 obtain⟨c0,c1,c2,c3,c4,c5⟩:=h (j/6) (by omega);rw[e,ji f n (j/6) (j%6) (by omega) (by omega)]at hu;rw[od];have k:j%6=0\/j%6=1\/j%6=2\/j%6=3\/j%6=4\/j%6=5:=by omega
 rcases k with k|k|k|k|k|k<;>rw[k]at hu<;>simp at hu<;>subst hu
 .rw[<-c0];congr 2;omega
 .rw[<-c1];congr 2;omega
 .rw[<-c2];congr 2;omega
 .rw[<-c3];congr 2;omega
 .rw[<-c4];congr 2;omega
 .rw[<-c5];congr 2;omega
theorem sY {f:Nat->Mv}{n:Nat}{u:Value}(h:u∈bu f n):∃i,i<n/\u∈(f i).cells.toList:=by
 unfold bu at h;obtain⟨i,hi,hu⟩:=List.mem_flatMap.1 h;exact⟨i,by simpa using hi,hu⟩
theorem dX (f:Nat->Mv)(n:Nat):∀u∈bu f n,u.oneCell'=true:=λu hu=>by obtain⟨i,_,h⟩:=sY hu;exact jw _ u h
theorem oe (f:Nat->Mv)(n:Nat):∀u∈bu f n,gb u:=λu hu=>by obtain⟨i,_,h⟩:=sY hu;exact wN _ u h
theorem fJ:∃i,Tryz0.prog.info? 36=some i/\i.zero=some (.agg #[.string ByteArray.empty,.bool false,.int .i64 0,.int .i64 0,.int .i64 0,.int .i64 0])/\i.size=6/\i.bytes=56:=by
 have h:=yW;cases hI:Tryz0.prog.info? 36 with
 |none=>rw[hI]at h;simp at h
 |some i=>rw[hI]at h;simp only[Option.map_some,Option.some.injEq,Prod.mk.injEq]at h;exact⟨i,rfl,h.1,h.2.1,h.2.2⟩
end
end Go.Proofs.YtlmcblcijndipabGreatDoor
