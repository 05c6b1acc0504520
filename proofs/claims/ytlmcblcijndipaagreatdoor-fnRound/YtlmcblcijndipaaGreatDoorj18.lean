import Derived.Test.YtlmcblcijndipaaGreatDoorj16
import Derived.Laws.BytesArg
namespace Go.Proofs.YtlmcblcijndipaaGreatDoor
section
open RowKit
variable {B b n:Nat}{a w w':World}
structure fp (B:Nat)(w w':World):Prop where
 size:w.heap.size<=w'
 block:∀k,k<w.heap.size->k≠B->w'.heap[k]?=w.heap[k]?
theorem fp.refl (B:Nat)(w:World):fp B w w:=⟨ack _,λ_ _ _=>rfl⟩
theorem fp.trans {b c:World}(h:fp B a b)(k:fp B b c):fp B a c:=
 ⟨acn h.size k.size,λi hi hB=>(k.block i (acl hi h.size) hB).trans (h.block i hi hB)⟩
theorem fp.of (h:Below w w w'):fp B w w':=⟨h.size,λk hk _=>h.block k hk⟩
theorem fp.setCell (h:fp B a w)(o:Nat)(v:Value):fp B a (w.setCell ⟨B,o,none⟩ v):=
 ⟨by simpa using h.size,λk hk hB=>(acd w _ v k (by simpa using hB)).trans (h.block k hk hB)⟩
theorem aJ.but {w w':World}{B b n:Nat}{g:Nat->Int}(h:aJ w b n g)(hb:fp B w w')(hB:b≠B):aJ w' b n g:=by
 have aI:=h.lt;obtain⟨⟨cs,h1,h2⟩,h3⟩:=h;have qi:=(hb.block b aI hB).trans h1;refine⟨⟨cs,qi,h2⟩,λi hi=>?_⟩;rw[cell_of_row _ _ _ _ _ _ qi,<-cell_of_row w _ _ _ _ _ h1];exact h3 i hi
end
section
open RowKit
def Vt:Nat->Int->ByteArray->ByteArray
 |0,_,out=>out
 |n+1,k,out=>if 0<k then Vt n (k/10) (strOfNums [48+k%10]++out)else out
def XL (k:Int):ByteArray:=if k<=0 then⟨#[109,48]⟩else⟨#[109]⟩++Vt k.toNat k ⟨#[]⟩
end
