import Derived.KernelRfl
import GoSem.Core.World
import GoSem.Machine.Frame
set_option linter.defProp false
namespace Go.Proofs.YtlmcblcijndipaaGreatDoor
variable {p:Prop}
def ac3:=@Nat.le_refl
def ac4:=@Nat.lt_of_lt_of_le
def ac5:=@Array.getElem?_eq_some_iff
def ac6:=@Nat.le_trans
def ac7:=@Nat.not_lt_zero
def ac8:=@Nat.zero_le
def ac9:=@Option.some.inj
def ada:=@Array.getElem?_eq_getElem
def adb:=@Nat.lt_or_ge
def adc:=@List.getElem?_eq_some_iff
def ade:=@List.getElem?_eq_none
def adf:=@List.getElem?_append_left
def adg:=@List.getElem?_append_right
def adh:=@Nat.eq_zero_or_pos
def adj:=@Nat.lt_of_le_of_lt
def adk:=@Nat.ne_of_gt
def adl:=@Nat.ne_of_lt
def adm:=@Nat.le_of_lt
def adn:=@Option.map_eq_some_iff
def ado:=@Option.bind_eq_some_iff
def adp:=@List.getElem?_eq_getElem
def adq:=@List.append_cancel_right
def adr:=@Nat.le_of_lt_succ
def ads:=@Classical.byContradiction
def adt:=@List.mem_cons_of_mem
def adu:=@List.mem_cons_self
def adv:=@List.mem_append
def adw:=@Bool.or_eq_true
def adx:=@Bool.and_eq_true
open Go
theorem ab (h:p:=by omega):p:=h
theorem bj (h:p:=by kernel_rfl):p:=h
theorem aG (h:p:=by simp):p:=h
theorem cH (h:p:=by simp;omega):p:=h
theorem vJ (h:p:=by repeat(first|exact Below.refl _ _|refine Below.alloc ?_ (by simp<;>omega) _|refine Below.setCell ?_ (by simp<;>omega) _)):p:=h
theorem ie (h:p:=by unfold maxLen;omega):p:=h
theorem y7 (h:p:=by simp[execOp,resolve,invoke,Act.eval,go_sem]):p:=h
theorem QG (h:p:=by first|rfl|trivial):p:=h
theorem ia (h:p:=by rw[IntKind.wrap_i64];omega):p:=h
theorem bD (h:p:=by rfl):p:=h
theorem bd (h:p:=by decide):p:=h
theorem zj (h:p:=by simp<;>omega):p:=h
theorem UB (h:p:=by rw[h2];kernel_rfl):p:=h
theorem aay (h':p:=by simp[World.cell?,h]):p:=h'
theorem MQ (h:p:=by decide +kernel):p:=h
theorem kU (h:p:=by simp[Region.wanted,hg]):p:=h
theorem t9 (h:p:=by simp[Value.oneCell']):p:=h
theorem qJ (h':p:=by simpa using h):p:=h'
theorem QF (h:p:=by simpa using hq):p:=h
theorem nV (h':p:=by intro h;cases h):p:=h'
theorem qK (h':p:=by cases h):p:=h'
theorem zk (h:p:=by rw[eN];omega):p:=h
theorem aaz (h:p:=by rw[setRow_size];exact XA.size):p:=h
theorem Yt (h:p:=by simpa[Addr.add]using h00):p:=h
theorem ic (h:p:=by simp at he):p:=h
theorem bZ (h:p:=by simp[intOf];omega):p:=h
theorem vH (h:p:=by simp only[List.size_toArray,List.length_cons,List.length_nil,Nat.reduceAdd,Nat.reduceSub,Array.replicate_succ,Array.replicate_zero,List.push_toArray,List.append_toArray,List.nil_append,List.cons_append];rfl):p:=h
theorem DT (h:p:=by have:=b3.size;have:=rF.size;omega):p:=h
theorem wU (h:p:=by rw[gH];simp only[phi];omega):p:=h
theorem vI (h:p:=by simp[World.cell?,XR]):p:=h
theorem DU (h:p:=by simp[World.cell?,h6',aN.cells]):p:=h
theorem wV (h:p:=by rw[NV];exact⟨_,rfl⟩):p:=h
theorem DV (h:p:=by simp[World.cell?,hg,aN.cells]):p:=h
theorem Kf (h:p:=by simp only;omega):p:=h
theorem Gu (h:p:=by simp[Value.ownBlock]at hq;omega):p:=h
theorem DW (h:p:=by simp[Value.ownBlock]):p:=h
theorem BK (h:p:=by simp[go_sem]):p:=h
theorem aK {α:Type}:(∀(n:Nat) (a:α) (l:List α),(a::l).drop (n+1)=l.drop n)/\(∀l:List α,l.drop 0=l)/\(∀(n:Nat) (a:α) (l:List α),(a::l).take (n+1)=a::l.take n)/\(∀l:List α,l.take 0=[]):=⟨λ_ _ _=>rfl,λ_=>rfl,λ_ _ _=>rfl,λ_=>rfl⟩
abbrev ud:Value:=undef
instance :Coe Int Value:=⟨.int .i64⟩
instance :Coe Bool Value:=⟨.bool⟩
instance :Coe ByteArray Value:=⟨.string⟩
instance :Coe Unit Value:=⟨λ_=>.slice none 0 0⟩
instance :Coe Nat Addr:=⟨λb=>⟨b,0,none⟩⟩
instance :CoeOut World Nat:=⟨λw=>w.heap.size⟩
