import Derived.Test.YtlmcblcijndipaaGreatDoorj16
import Derived.Laws.BytesArg
set_option linter.unusedVariables false
namespace Go.Proofs.YtlmcblcijndipaaGreatDoor
open RowKit
variable {B b n:Nat}{w w':World}
section
variable {a:World}
structure ja (B:Nat)(w w':World):Prop where
 size:w.heap.size<=w'
 block:∀k,k<w.heap.size->k≠B->w'.heap[k]?=w.heap[k]?
theorem ja.refl (B:Nat)(w:World):ja B w w:=⟨ac3 _,λ_ _ _=>rfl⟩
theorem ja.trans {b c:World}(h:ja B a b)(k:ja B b c):ja B a c:=
 ⟨ac6 h.size k.size,λi hi hB=>(k.block i (ac4 hi h.size) hB).trans<|h.block i hi hB⟩
theorem ja.of (h:Below w w w'):ja B w w':=⟨h.size,λk hk _=>h.block k hk⟩
theorem ja.setCell (h:ja B a w)(o:Nat)(v:Value):ja B a (w.setCell ⟨B,o,none⟩ v):=
 ⟨by simpa using h.size,λk hk hB=>(acW w _ v k<|by simpa using hB).trans<|h.block k hk hB⟩
theorem aC.but {g:Nat->Int}(h:aC w b n g)(hb:ja B w w')(hB:b≠B):aC w' b n g:=by
 have ay:=h.lt;let⟨⟨cs,h1,h2⟩,h3⟩:=h;have pn:=(hb.block b ay hB).trans h1;refine⟨⟨cs,pn,h2⟩,λi hi=>?_⟩;rw[cell_of_row _ _ _ _ _ _ pn,<-cell_of_row w _ _ _ _ _ h1];exact h3 i hi
end
def Yv:Nat->Int->ByteArray->ByteArray
 |0,_,out=>out
 |n+1,k,out=>if 0<k then Yv n (k/10) (strOfNums [48+k%10]++out)else out
def y_ (k:Int):ByteArray:=if k<=0 then⟨#[109,48]⟩else⟨#[109]⟩++Yv k.toNat k ⟨#[]⟩
