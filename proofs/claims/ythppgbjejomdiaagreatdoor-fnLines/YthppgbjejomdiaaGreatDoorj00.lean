import Derived.KernelRfl
import GoSem.Core.World
import GoSem.Machine.Return
set_option linter.all false
namespace Go.Proofs.YthppgbjejomdiaaGreatDoor
variable {p:Prop}
def agw:=@Nat.le_refl
def agx:=@Nat.lt_of_lt_of_le
def agy:=@Array.getElem?_eq_some_iff
def agz:=@Nat.le_trans
def agA:=@Nat.not_lt_zero
def agB:=@Nat.zero_le
def agC:=@Option.some.inj
def agD:=@Array.getElem?_eq_getElem
def agE:=@Nat.lt_or_ge
def agF:=@List.getElem?_eq_some_iff
def agG:=@List.getElem?_eq_none
def agH:=@List.getElem?_append_left
def agI:=@List.getElem?_append_right
def agJ:=@Nat.eq_zero_or_pos
def agK:=@Nat.lt_succ_self
def agL:=@Nat.lt_of_le_of_lt
def agM:=@Nat.ne_of_gt
def agN:=@Nat.ne_of_lt
def agO:=@Nat.le_of_lt
def agP:=@Option.map_eq_some_iff
def agQ:=@Option.bind_eq_some_iff
def agR:=@List.getElem?_eq_getElem
def agS:=@List.append_cancel_right
def agT:=@Nat.le_of_lt_succ
def agU:=@Classical.byContradiction
def agV:=@List.mem_cons_of_mem
def agW:=@List.mem_cons_self
def agX:=@List.mem_append
def agY:=@Bool.or_eq_true
def agZ:=@Bool.and_eq_true
open Go
theorem xq:True:=by have:=@World.cell?.match_1.congr_eq_1.{1};have:=@unwind.match_10.congr_eq_1.{1};trivial
theorem f7 (h:p:=by grind):p:=h
theorem zc (h:p:=by assumption):p:=h
theorem cQ (h:p:=by simp_all):p:=h
theorem ab (h:p:=by omega):p:=h
theorem aO (h:p:=by kernel_rfl):p:=h
theorem aN (h:p:=by simp):p:=h
theorem cY (h:p:=by simp;omega):p:=h
theorem xV (h:p:=by repeat(first|exact Below.refl _ _|refine Below.alloc ?_ (by simp<;>omega) _|refine Below.setCell ?_ (by simp<;>omega) _)):p:=h
theorem iR (h:p:=by unfold maxLen;omega):p:=h
theorem nU (h:p:=by simp[execOp,resolve,invoke,Act.eval,go_sem]):p:=h
theorem Xf (h:p:=by first|rfl|trivial):p:=h
theorem jh (h:p:=by rw[IntKind.wrap_i64];omega):p:=h
theorem bQ (h:p:=by rfl):p:=h
theorem bc (h:p:=by decide):p:=h
theorem DZ (h:p:=by simp<;>omega):p:=h
theorem aa2 (h:p:=by rw[h2];kernel_rfl):p:=h
theorem adD (h':p:=by simp[World.cell?,h]):p:=h'
theorem Zn (h:p:=by decide +kernel):p:=h
theorem ma (h:p:=by simp[Region.wanted,hg]):p:=h
theorem sU (h:p:=by simp[Value.oneCell']):p:=h
theorem I3 (h':p:=by simpa using h):p:=h'
theorem TW (h:p:=by simpa using hq):p:=h
theorem oK (h':p:=by intro h;cases h):p:=h'
theorem sV (h':p:=by cases h):p:=h'
theorem Bw (h:p:=by rw[fg];omega):p:=h
theorem adE (h:p:=by rw[setRow_size];exact Xy.size):p:=h
theorem aa3 (h:p:=by simpa[Addr.add]using h00):p:=h
theorem ji (h:p:=by simp at he):p:=h
theorem cD (h:p:=by simp[intOf];omega):p:=h
theorem iI (h:p:=by simp only[List.size_toArray,List.length_cons,List.length_nil,Nat.reduceAdd,Nat.reduceSub,Array.replicate_succ,Array.replicate_zero,List.push_toArray,List.append_toArray,List.nil_append,List.cons_append];rfl):p:=h
theorem FO (h:p:=by have:=b3.size;have:=sZ.size;omega):p:=h
theorem y7 (h:p:=by rw[g9];simp only[phi];omega):p:=h
theorem xU (h:p:=by simp[World.cell?,hw5]):p:=h
theorem FP (h:p:=by simp[World.cell?,h6',aX.cells]):p:=h
theorem za (h:p:=by rw[Qz];exact⟨_,rfl⟩):p:=h
theorem FQ (h:p:=by simp[World.cell?,hg,aX.cells]):p:=h
theorem D0 (h:p:=by simp only;omega):p:=h
theorem I4 (h:p:=by simp[Value.ownBlock]at hq;omega):p:=h
theorem I5 (h:p:=by simp[Value.ownBlock]):p:=h
theorem D5 (h:p:=by simp[go_sem]):p:=h
theorem an {α:Type}:(∀(n:Nat) (a:α) (l:List α),(a::l).drop (n+1)=l.drop n)/\(∀l:List α,l.drop 0=l)/\(∀(n:Nat) (a:α) (l:List α),(a::l).take (n+1)=a::l.take n)/\(∀l:List α,l.take 0=[]):=⟨λ_ _ _=>rfl,λ_=>rfl,λ_ _ _=>rfl,λ_=>rfl⟩
abbrev ud:Value:=undef
instance :Coe Int Value:=⟨.int .i64⟩
instance :Coe Bool Value:=⟨.bool⟩
instance :Coe ByteArray Value:=⟨.string⟩
instance :Coe Unit Value:=⟨λ_=>.slice none 0 0⟩
instance :Coe Nat Addr:=⟨λb=>⟨b,0,none⟩⟩
instance :CoeOut World Nat:=⟨λw=>w.heap.size⟩
