import Derived.KernelRfl
import GoSem.Core.World
set_option linter.defProp false
namespace Go.Proofs.YtlmcblcijndipaaGreatDoor
def ack:=@Nat.le_refl
def acl:=@Nat.lt_of_lt_of_le
def acm:=@Array.getElem?_eq_some_iff
def acn:=@Nat.le_trans
def aco:=@Nat.not_lt_zero
def acp:=@Nat.zero_le
def acr:=@Option.some.inj
def acs:=@Array.getElem?_eq_getElem
def acu:=@Nat.lt_or_ge
def acv:=@List.getElem?_eq_some_iff
def acw:=@List.getElem?_eq_none
def acx:=@List.getElem?_append_left
def acy:=@List.getElem?_append_right
def acz:=@Nat.eq_zero_or_pos
def acB:=@Nat.lt_of_le_of_lt
def acD:=@Nat.ne_of_lt
def acE:=@Nat.le_of_lt
def acF:=@Option.map_eq_some_iff
def acG:=@Option.bind_eq_some_iff
def acH:=@List.getElem?_eq_getElem
def acI:=@List.append_cancel_right
def acJ:=@Nat.le_of_lt_succ
def acK:=@Classical.byContradiction
def acL:=@List.mem_cons_of_mem
def acM:=@List.mem_cons_self
def acN:=@List.mem_append
def acO:=@Bool.or_eq_true
def acP:=@Bool.and_eq_true
open Go
theorem ab {p:Prop}(h:p:=by omega):p:=h
theorem bR {p:Prop}(h:p:=by kernel_rfl):p:=h
theorem aH {p:Prop}(h:p:=by simp):p:=h
theorem cC {p:Prop}(h:p:=by simp;omega):p:=h
theorem uL {p:Prop}(h:p:=by repeat(first|exact Below.refl _ _|refine Below.alloc ?_ (by simp<;>omega) _|refine Below.setCell ?_ (by simp<;>omega) _)):p:=h
theorem iI {p:Prop}(h:p:=by unfold maxLen;omega):p:=h
theorem Ia {p:Prop}(h:p:=by simp[execOp,resolve,invoke,Act.eval,go_sem]):p:=h
theorem A9 {p:Prop}(h:p:=by first|rfl|trivial):p:=h
theorem gH {p:Prop}(h:p:=by rw[IntKind.wrap_i64];omega):p:=h
theorem bU {p:Prop}(h:p:=by rfl):p:=h
theorem bK {p:Prop}(h:p:=by decide):p:=h
theorem qf {p:Prop}(h:p:=by simp<;>omega):p:=h
theorem RL {p:Prop}(h:p:=by rw[h2];kernel_rfl):p:=h
theorem d_ {p:Prop}(h':p:=by simp[World.cell?,h]):p:=h'
theorem Kr {p:Prop}(h:p:=by decide +kernel):p:=h
theorem kD {p:Prop}(h:p:=by simp[Region.wanted,hg]):p:=h
theorem vC {p:Prop}(h:p:=by simp[Value.oneCell']):p:=h
theorem qg {p:Prop}(h':p:=by simpa using h):p:=h'
theorem N9 {p:Prop}(h:p:=by simpa using hq):p:=h
theorem m8 {p:Prop}(h':p:=by intro h;cases h):p:=h'
theorem qh {p:Prop}(h':p:=by cases h):p:=h'
theorem BJ {p:Prop}(h:p:=by rw[jb];omega):p:=h
theorem e_ {p:Prop}(h:p:=by rw[setRow_size];exact UC.size):p:=h
theorem Vr {p:Prop}(h:p:=by simpa[Addr.add]using h00):p:=h
theorem zO {p:Prop}(h:p:=by simp at he):p:=h
theorem cf {p:Prop}(h:p:=by simp[intOf];omega):p:=h
theorem H0 {p:Prop}(h:p:=by simp only[List.size_toArray,List.length_cons,List.length_nil,Nat.reduceAdd,Nat.reduceSub,Array.replicate_succ,Array.replicate_zero,List.push_toArray,List.append_toArray,List.nil_append,List.cons_append];rfl):p:=h
theorem BK {p:Prop}(h:p:=by have:=b3.size;have:=qJ.size;omega):p:=h
theorem vD {p:Prop}(h:p:=by rw[fZ];simp only[phi];omega):p:=h
theorem uK {p:Prop}(h:p:=by simp[World.cell?,UU]):p:=h
theorem BL {p:Prop}(h:p:=by simp[World.cell?,YO,aN.cells]):p:=h
theorem vE {p:Prop}(h:p:=by rw[Ls];exact⟨_,rfl⟩):p:=h
theorem BM {p:Prop}(h:p:=by simp[World.cell?,hg,aN.cells]):p:=h
theorem Er {p:Prop}(h:p:=by simp only;omega):p:=h
theorem Es {p:Prop}(h:p:=by simp[Value.ownBlock]at hq;omega):p:=h
theorem Et {p:Prop}(h:p:=by simp[Value.ownBlock]):p:=h
theorem zP {p:Prop}(h:p:=by simp[go_sem]):p:=h
instance :Coe Int Value:=⟨.int .i64⟩
instance :Coe Bool Value:=⟨.bool⟩
instance :Coe ByteArray Value:=⟨.string⟩
instance :Coe Unit Value:=⟨λ_=>.slice none 0 0⟩
instance :Coe Nat Addr:=⟨λb=>⟨b,0,none⟩⟩
instance :CoeOut World Nat:=⟨λw=>w.heap.size⟩
