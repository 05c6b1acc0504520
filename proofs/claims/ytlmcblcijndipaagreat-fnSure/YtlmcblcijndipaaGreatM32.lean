import Derived.Test.YtlmcblcijndipaaGreatM21
import Derived.Test.YtlmcblcijndipaaGreatM14
import Derived.Test.YtlmcblcijndipaaGreatM30
set_option linter.unusedVariables false
set_option maxHeartbeats 1000000
set_option maxRecDepth 10000
namespace Go.Proofs.YtlmcblcijndipaaGreat
open Go.RowKit
def aS (f:Nat->Mv)(n:Nat):List Value:=(List.range n).flatMap λj=>(f j).cells.toList
theorem bH (f:Nat->Mv):∀n,(aS f n).length=n*6
 |0=>rfl
 |n+1=>by
  have:=bH f n;unfold aS at this⊢;rw[List.range_succ,List.flatMap_append,List.length_append,this];simp[Nat.add_mul]
theorem dt (f:Nat->Mv)(n:Nat):aS f (n+1)=aS f n++(f n).cells.toList:=by
 unfold aS;rw[List.range_succ,List.flatMap_append];simp
theorem ip {f g:Nat->Mv}:∀{n:Nat},(∀j,j<n->f j=g j)->aS f n=aS g n
 |0,_=>rfl
 |n+1,h=>by rw[dt,dt,ip (λj hj=>h j (by omega)),h n (by omega)]
theorem nW (f:Nat->Mv):∀n i k,i<n->k<6->(aS f n)[i*6+k]?=(f i).cells.toList[k]?
 |0,i,k,hi,_=>absurd hi (Nat.not_lt_zero _)
 |n+1,i,k,hi,hk=>by
  rw[dt];by_cases e:i=n
  .subst e;rw[List.getElem?_append_right (by rw[bH];omega),bH];congr 1;omega
  .rw[List.getElem?_append_left (by rw[bH];omega)];exact nW f n i k (by omega) hk
theorem bI {w:World}{base B n c:Nat}{T:TypeId}{f:Nat->Mv}(h:w.ownsRow base T 6 (.slice (some ⟨B,0,none⟩) n c) n (aS f n)):aw w B 0 n f:=by
 intro i hi;have q:∀k,k<6->w.cell? ⟨B,0+i*6+k,none⟩=(f i).cells.toList[k]?:=λk hk=>by
  rw[Nat.zero_add,h.cellAt (i*6+k) (by omega)];exact nW f n i k hi hk
 exact⟨q 0 (by omega),q 1 (by omega),q 2 (by omega),q 3 (by omega),q 4 (by omega),q 5 (by omega)⟩
theorem xu:(Tryz0.prog.info? 42).map (λi=>(i.zero,i.size,i.bytes))=some (some (.agg #[.string ByteArray.empty,.bool false,.int .i64 0,.int .i64 0,.int .i64 0,.int .i64 0]),6,56):=by kernel_rfl
theorem eh (m:Mv):∀u∈m.cells.toList,u.oneCell'=true:=λu hu=>by
 simp at hu;rcases hu with rfl|rfl|rfl|rfl|rfl|rfl<;>rfl
theorem pF (m:Mv):∀u∈m.cells.toList,ga u:=λu hu=>by
 simp at hu;rcases hu with rfl|rfl|rfl|rfl|rfl|rfl<;>first|exact .inl ⟨_,rfl⟩|exact .inr (.inl ⟨_,_,rfl⟩)|exact .inr (.inr ⟨_,rfl⟩)
theorem jd:∀u∈(Value.agg #[.string ByteArray.empty,.bool false,.int .i64 0,.int .i64 0,.int .i64 0,.int .i64 0]).cells,ga u:=λu hu=>by
 simp[Value.cells]at hu;rcases hu with rfl|rfl|rfl<;>first|exact .inl ⟨_,rfl⟩|exact .inr (.inl ⟨_,_,rfl⟩)|exact .inr (.inr ⟨_,rfl⟩)
theorem nX (B o j:Nat):(⟨B,o,none⟩:Addr).add j=⟨B,o+j,none⟩:=by unfold Addr.add;split<;>simp_all
theorem cE {w:World}{b off n:Nat}{f:Nat->Mv}(h:aw w b off n f):∀(j:Nat) (u:Value),(aS f n)[j]?=some u->w.cell? ((⟨b,off,none⟩:Addr).add j)=some u:=λj u hu=>by
 have hj:j<n*6:=by rcases Nat.lt_or_ge j (n*6)with h|h;exact h;rw[List.getElem?_eq_none (by rw[bH];exact h)]at hu;cases hu
 have e:j=j/6*6+j%6:=by omega
 obtain⟨c0,c1,c2,c3,c4,c5⟩:=h (j/6) (by omega);rw[e,nW f n (j/6) (j%6) (by omega) (by omega)]at hu;rw[nX];have k:j%6=0\/j%6=1\/j%6=2\/j%6=3\/j%6=4\/j%6=5:=by omega
 rcases k with k|k|k|k|k|k<;>rw[k]at hu<;>simp at hu<;>subst hu
 .rw[<-c0];congr 2;omega
 .rw[<-c1];congr 2;omega
 .rw[<-c2];congr 2;omega
 .rw[<-c3];congr 2;omega
 .rw[<-c4];congr 2;omega
 .rw[<-c5];congr 2;omega
theorem se {f:Nat->Mv}{n:Nat}{u:Value}(h:u∈aS f n):∃i,i<n/\u∈(f i).cells.toList:=by
 unfold aS at h;obtain⟨i,hi,hu⟩:=List.mem_flatMap.1 h;exact⟨i,by simpa using hi,hu⟩
theorem da (f:Nat->Mv)(n:Nat):∀u∈aS f n,u.oneCell'=true:=λu hu=>by obtain⟨i,_,h⟩:=se hu;exact eh _ u h
theorem nY (f:Nat->Mv)(n:Nat):∀u∈aS f n,ga u:=λu hu=>by obtain⟨i,_,h⟩:=se hu;exact pF _ u h
theorem ep:∃i,Tryz0.prog.info? 42=some i/\i.zero=some (.agg #[.string ByteArray.empty,.bool false,.int .i64 0,.int .i64 0,.int .i64 0,.int .i64 0])/\i.size=6/\i.bytes=56:=by
 have h:=xu;cases hI:Tryz0.prog.info? 42 with
 |none=>rw[hI]at h;simp at h
 |some i=>rw[hI]at h;simp only[Option.map_some,Option.some.injEq,Prod.mk.injEq]at h;exact⟨i,rfl,h.1,h.2.1,h.2.2⟩
theorem aG:Tryz0.prog.underlying 23=some (.slice 42):=by kernel_rfl
theorem tI (b n cap:Nat)(g:Nat->Mv)(w:World)(hn:n<=1048576)(hbs:b<w.heap.size)(hrow:aw w b 0 n g):
  Calls Tryz0.prog 132 #[.slice (some ⟨b,0,none⟩) n cap] w λe w'=>∃B c,e=.returned (.slice (some ⟨B,0,none⟩) n c)/\w'.ownsRow w.heap.size 42 6 (.slice (some ⟨B,0,none⟩) n c) n (aS g n)/\aM w' B/\Below w.heap.size w w':=by
 obtain⟨i,hI,hz0,hz1,hz2⟩:=ep;have bA:Below w.heap.size w (w.alloc (.cells #[] 42)):=(Below.refl _ _).alloc (Nat.le_refl _) _;have hnil:=Go.Lib.run_eql_slice_nil (P:=Tryz0.prog) w 23 42 (some ⟨b,0,none⟩) n cap 0 0 aG;have hown:(w.alloc (.cells #[] 42)).ownsRow w.heap.size 42 6 (.slice (some ⟨w.heap.size,0,none⟩) 0 0) 0 []:=World.ownsRow_made w #[] 0 (Nat.le_refl _) (by unfold maxLen;omega) (by simp);have hpl:fV (w.alloc (.cells #[] 42)) (.slice (some ⟨w.heap.size,0,none⟩) 0 0):=λB hB=>by
  simp only[Value.ownBlock,Option.some.injEq]at hB;subst hB;exact⟨#[],_,heap_alloc_new _ _,λv hv=>by simp at hv⟩
 obtain⟨v',w',hr,h2,h3,h4⟩:=run_append_own (P:=Tryz0.prog) (w.alloc (.cells #[] 42)) w.heap.size 23 23 42 i _ 6 56 aG hI hz0 hz1 hz2 rfl (by omega) (.slice (some ⟨w.heap.size,0,none⟩) 0 0) 0 [] hown ⟨b,0,none⟩ n cap (aS g n) (bH g n) (cE (hrow.below bA hbs)) (da g n) (by unfold maxLen;omega) (by omega) (by simp);have h5:=jF (P:=Tryz0.prog) w.heap.size 23 23 42 i _ 6 56 aG hI hz0 hz1 hz2 rfl (.slice (some ⟨w.heap.size,0,none⟩) 0 0) 0 [] hown hpl ⟨b,0,none⟩ n cap (aS g n) (bH g n) (cE (hrow.below bA hbs)) (da g n) (nY g n) jd (by unfold maxLen;omega) (by omega) hr;simp only[Nat.zero_add,List.nil_append]at h2;obtain⟨B,c,rfl⟩:∃B c,v'=.slice (some ⟨B,0,none⟩) n c:=by
  rcases h2.2 with⟨e,_⟩|⟨g,cap,cur,e,_⟩
  .exact absurd (h4.1 e).1 (by simp)
  .exact⟨g,cap,e⟩
 have hB:Below w.heap.size w w':=bA.grown h3 bA.size (λq hq=>by simp[Value.ownBlock]at hq;omega);go_enter Tryz0.func132,Tryz.ntmps132
 go_wp2_with(refine fY rfl (.tmp 5) (.tmp 6) 23 rfl _ _ (by rfl) (by rfl) hr ?_)
 go_ret;exact⟨B,c,rfl,h2,h5 B rfl,hB⟩
end Go.Proofs.YtlmcblcijndipaaGreat
