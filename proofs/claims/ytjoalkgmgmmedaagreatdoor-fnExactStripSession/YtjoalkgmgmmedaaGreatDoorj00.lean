import Derived.KernelRfl
import GoSem.Core.World
import GoSem.Machine.Return
set_option linter.defProp false
namespace Go.Proofs.YtjoalkgmgmmedaaGreatDoor
variable {p:Prop}
def afK:=@Nat.le_refl
def afL:=@Nat.lt_of_lt_of_le
def afM:=@Array.getElem?_eq_some_iff
def afN:=@Nat.le_trans
def afO:=@Nat.not_lt_zero
def afP:=@Nat.zero_le
def afQ:=@Option.some.inj
def afR:=@Array.getElem?_eq_getElem
def afS:=@Nat.lt_or_ge
def afT:=@List.getElem?_eq_some_iff
def afU:=@List.getElem?_eq_none
def afV:=@List.getElem?_append_left
def afW:=@List.getElem?_append_right
def afX:=@Nat.eq_zero_or_pos
def afY:=@Nat.lt_succ_self
def afZ:=@Nat.lt_of_le_of_lt
def af0:=@Nat.ne_of_gt
def af1:=@Nat.ne_of_lt
def af2:=@Nat.le_of_lt
def af3:=@Option.map_eq_some_iff
def af4:=@Option.bind_eq_some_iff
def af5:=@List.getElem?_eq_getElem
def af6:=@List.append_cancel_right
def af7:=@Nat.le_of_lt_succ
def af8:=@Classical.byContradiction
def af9:=@List.mem_cons_of_mem
def aga:=@List.mem_cons_self
def agb:=@List.mem_append
def agc:=@Bool.or_eq_true
def agd:=@Bool.and_eq_true
open Go
theorem xq:True:=by have:=@World.cell?.match_1.congr_eq_1.{1};have:=@unwind.match_10.congr_eq_1.{1};trivial
theorem gC (h:p:=by grind):p:=h
theorem yO (h:p:=by assumption):p:=h
theorem cO (h:p:=by simp_all):p:=h
theorem ab (h:p:=by omega):p:=h
theorem aO (h:p:=by kernel_rfl):p:=h
theorem aP (h:p:=by simp):p:=h
theorem dj (h:p:=by simp;omega):p:=h
theorem xE (h:p:=by repeat(first|exact Below.refl _ _|refine Below.alloc ?_ (by simp<;>omega) _|refine Below.setCell ?_ (by simp<;>omega) _)):p:=h
theorem iN (h:p:=by unfold maxLen;omega):p:=h
theorem od (h:p:=by simp[execOp,resolve,invoke,Act.eval,go_sem]):p:=h
theorem V8 (h:p:=by first|rfl|trivial):p:=h
theorem kw (h:p:=by rw[IntKind.wrap_i64];omega):p:=h
theorem bQ (h:p:=by rfl):p:=h
theorem bh (h:p:=by decide):p:=h
theorem LZ (h:p:=by simp<;>omega):p:=h
theorem aal (h:p:=by rw[h2];kernel_rfl):p:=h
theorem acN (h':p:=by simp[World.cell?,h]):p:=h'
theorem Yt (h:p:=by decide +kernel):p:=h
theorem lQ (h:p:=by simp[Region.wanted,hg]):p:=h
theorem sJ (h:p:=by simp[Value.oneCell']):p:=h
theorem Iv (h':p:=by simpa using h):p:=h'
theorem Tf (h:p:=by simpa using hq):p:=h
theorem oC (h':p:=by intro h;cases h):p:=h'
theorem sK (h':p:=by cases h):p:=h'
theorem AZ (h:p:=by rw[eZ];omega):p:=h
theorem acO (h:p:=by rw[setRow_size];exact Wx.size):p:=h
theorem jc (h:p:=by simp at he):p:=h
theorem cD (h:p:=by simp[intOf];omega):p:=h
theorem iE (h:p:=by simp only[List.size_toArray,List.length_cons,List.length_nil,Nat.reduceAdd,Nat.reduceSub,Array.replicate_succ,Array.replicate_zero,List.push_toArray,List.append_toArray,List.nil_append,List.cons_append];rfl):p:=h
theorem Fo (h:p:=by have:=b3.size;have:=sO.size;omega):p:=h
theorem yM (h:p:=by rw[gX];simp only[phi];omega):p:=h
theorem xD (h:p:=by simp[World.cell?,hw5]):p:=h
theorem Fp (h:p:=by simp[World.cell?,h6',aX.cells]):p:=h
theorem yN (h:p:=by rw[PW];exact⟨_,rfl⟩):p:=h
theorem Fq (h:p:=by simp[World.cell?,hg,aX.cells]):p:=h
theorem Iw (h:p:=by simp[Value.ownBlock]at hq;omega):p:=h
theorem Ix (h:p:=by simp[Value.ownBlock]):p:=h
theorem DC (h:p:=by simp[go_sem]):p:=h
theorem ap {α:Type}:(∀(n:Nat) (a:α) (l:List α),(a::l).drop (n+1)=l.drop n)/\(∀l:List α,l.drop 0=l)/\(∀(n:Nat) (a:α) (l:List α),(a::l).take (n+1)=a::l.take n)/\(∀l:List α,l.take 0=[]):=⟨λ_ _ _=>rfl,λ_=>rfl,λ_ _ _=>rfl,λ_=>rfl⟩
abbrev ud:Value:=undef
instance :Coe Int Value:=⟨.int .i64⟩
instance :Coe Bool Value:=⟨.bool⟩
instance :Coe ByteArray Value:=⟨.string⟩
instance :Coe Unit Value:=⟨λ_=>.slice none 0 0⟩
instance :Coe Nat Addr:=⟨λb=>⟨b,0,none⟩⟩
instance :CoeOut World Nat:=⟨λw=>w.heap.size⟩
