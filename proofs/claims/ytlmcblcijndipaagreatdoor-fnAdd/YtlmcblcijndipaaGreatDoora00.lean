import Derived.KernelRfl
import GoSem.Core.World
import GoSem.Machine.Frame
set_option linter.defProp false
namespace Go.Proofs.YtlmcblcijndipaaGreatDoor
variable {p:Prop}
def ac5:=@Nat.le_refl
def ac6:=@Nat.lt_of_lt_of_le
def ac7:=@Array.getElem?_eq_some_iff
def ac8:=@Nat.le_trans
def ac9:=@Nat.not_lt_zero
def ada:=@Nat.zero_le
def adb:=@Option.some.inj
def adc:=@Array.getElem?_eq_getElem
def ade:=@Nat.lt_or_ge
def adf:=@List.getElem?_eq_some_iff
def adg:=@List.getElem?_eq_none
def adh:=@List.getElem?_append_left
def adi:=@List.getElem?_append_right
def adj:=@Nat.eq_zero_or_pos
def adl:=@Nat.lt_of_le_of_lt
def adn:=@Nat.ne_of_lt
def ado:=@Nat.le_of_lt
def adp:=@Option.map_eq_some_iff
def adq:=@Option.bind_eq_some_iff
def adr:=@List.getElem?_eq_getElem
def ads:=@List.append_cancel_right
def adt:=@Nat.le_of_lt_succ
def adu:=@Classical.byContradiction
def adv:=@List.mem_cons_of_mem
def adw:=@List.mem_cons_self
def adx:=@List.mem_append
def ady:=@Bool.or_eq_true
def adz:=@Bool.and_eq_true
open Go
theorem aa (h:p:=by omega):p:=h
theorem bD (h:p:=by kernel_rfl):p:=h
theorem aF (h:p:=by simp):p:=h
theorem cU (h:p:=by simp;omega):p:=h
theorem vq (h:p:=by repeat(first|exact Below.refl _ _|refine Below.alloc ?_ (by simp<;>omega) _|refine Below.setCell ?_ (by simp<;>omega) _)):p:=h
theorem jl (h:p:=by unfold maxLen;omega):p:=h
theorem C8 (h:p:=by simp[execOp,resolve,invoke,Act.eval,go_sem]):p:=h
theorem PK (h:p:=by first|rfl|trivial):p:=h
theorem hZ (h:p:=by rw[IntKind.wrap_i64];omega):p:=h
theorem cj (h:p:=by rfl):p:=h
theorem bF (h:p:=by decide):p:=h
theorem qB (h:p:=by simp<;>omega):p:=h
theorem TD (h:p:=by rw[h2];kernel_rfl):p:=h
theorem aam (h':p:=by simp[World.cell?,h]):p:=h'
theorem LU (h:p:=by decide +kernel):p:=h
theorem kV (h:p:=by simp[Region.wanted,hg]):p:=h
theorem Bw (h:p:=by simp[Value.oneCell']):p:=h
theorem oO (h':p:=by simpa using h):p:=h'
theorem nK (h':p:=by intro h;cases h):p:=h'
theorem qC (h':p:=by cases h):p:=h'
theorem yU (h:p:=by rw[eH];omega):p:=h
theorem aan (h:p:=by rw[setRow_size];exact Wv.size):p:=h
theorem XA (h:p:=by simpa[Addr.add]using h00):p:=h
theorem ia (h:p:=by simp at he):p:=h
theorem cI (h:p:=by simp[intOf];omega):p:=h
theorem BA (h:p:=by simp only[List.size_toArray,List.length_cons,List.length_nil,Nat.reduceAdd,Nat.reduceSub,Array.replicate_succ,Array.replicate_zero,List.push_toArray,List.append_toArray,List.nil_append,List.cons_append];rfl):p:=h
theorem DC (h:p:=by have:=b3.size;have:=rm.size;omega):p:=h
theorem wA (h:p:=by rw[gn];simp only[phi];omega):p:=h
theorem vp (h:p:=by simp[World.cell?,WO]):p:=h
theorem DD (h:p:=by simp[World.cell?,I_,aJ.cells]):p:=h
theorem wC (h:p:=by rw[Na];exact⟨_,rfl⟩):p:=h
theorem DE (h:p:=by simp[World.cell?,hg,aJ.cells]):p:=h
theorem F1 (h:p:=by simp only;omega):p:=h
theorem F2 (h:p:=by simp[Value.ownBlock]at hq;omega):p:=h
theorem F3 (h:p:=by simp[Value.ownBlock]):p:=h
theorem BD (h:p:=by simp[go_sem]):p:=h
theorem aN {α:Type}:(∀(n:Nat) (a:α) (l:List α),(a::l).drop (n+1)=l.drop n)/\(∀l:List α,l.drop 0=l)/\(∀(n:Nat) (a:α) (l:List α),(a::l).take (n+1)=a::l.take n)/\(∀l:List α,l.take 0=[]):=⟨λ_ _ _=>rfl,λ_=>rfl,λ_ _ _=>rfl,λ_=>rfl⟩
abbrev ud:Value:=undef
instance :Coe Int Value:=⟨.int .i64⟩
instance :Coe Bool Value:=⟨.bool⟩
instance :Coe ByteArray Value:=⟨.string⟩
instance :Coe Unit Value:=⟨λ_=>.slice none 0 0⟩
instance :Coe Nat Addr:=⟨λb=>⟨b,0,none⟩⟩
instance :CoeOut World Nat:=⟨λw=>w.heap.size⟩
