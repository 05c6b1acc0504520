import Derived.Test.YtlmcblcijndipabGreatDoorDr10
import Derived.Test.YtlmcblcijndipabGreatDoorDr15
import Derived.Laws.BytesArg
set_option linter.unusedVariables false
set_option maxHeartbeats 400000
set_option maxRecDepth 10000
namespace Go.Proofs.YtlmcblcijndipabGreatDoor
open Go.RowKit
structure fH (B:Nat)(w w':World):Prop where
 size:w.heap.size<=w'.heap.size
 block:∀k,k<w.heap.size->k≠B->w'.heap[k]?=w.heap[k]?
theorem fH.refl (B:Nat)(w:World):fH B w w:=⟨Nat.le_refl _,λ_ _ _=>rfl⟩
theorem fH.trans {B:Nat}{a b c:World}(h:fH B a b)(k:fH B b c):fH B a c:=
 ⟨Nat.le_trans h.size k.size,λi hi hB=>(k.block i (Nat.lt_of_lt_of_le hi h.size) hB).trans (h.block i hi hB)⟩
theorem fH.of {B:Nat}{w w':World}(h:Below w.heap.size w w'):fH B w w':=⟨h.size,λk hk _=>h.block k hk⟩
theorem fH.setCell {B:Nat}{a w:World}(h:fH B a w)(o:Nat)(v:Value):fH B a (w.setCell ⟨B,o,none⟩ v):=
 ⟨by simpa using h.size,λk hk hB=>(Below.heap_setCell w _ v k (by simpa using hB)).trans (h.block k hk hB)⟩
theorem aj.but {w w':World}{B b n:Nat}{g:Nat->Int}(h:aj w b n g)(hb:fH B w w')(hB:b≠B):aj w' b n g:=by
 have hlt:=h.lt;obtain⟨⟨cs,h1,h2⟩,h3⟩:=h;have h1':=(hb.block b hlt hB).trans h1;refine⟨⟨cs,h1',h2⟩,λi hi=>?_⟩;rw[cell_of_row _ _ _ _ _ _ h1',<-cell_of_row w _ _ _ _ _ h1];exact h3 i hi
theorem wT (n:Int)(w:World):(convert 88 9 (.slice (some ⟨w.heap.size,0,none⟩) 1 1)).run Tryz0.prog (w.alloc (.cells #[.int .u8 n] 5))=.ok (.string (strOfNums [n])) (w.alloc (.cells #[.int .u8 n] 5)):=
 run_convert_bytes_arg _ 88 5 (Tryz0.tr_underlying Tryz.underlying88) (Tryz0.tr_underlying Tryz.underlying5) w.heap.size 0 1 1 [n] rfl (λi hi=>by
  obtain rfl:i=0:=by omega
  simp) 9 (Tryz0.tr_underlying Tryz.underlying9)
def iq:Nat->Int->ByteArray->ByteArray
 |0,_,out=>out
 |n+1,k,out=>if 0<k then iq n (k/10) (strOfNums [48+k%10]++out)else out
theorem gM:∀(n:Nat) (k:Int) (out:ByteArray),k<=0->iq n k out=out
 |0,_,_,_=>rfl
 |n+1,k,out,h=>by simp only[iq];rw[if_neg (by omega)]
theorem qb:∀(n m:Nat) (k:Int) (out:ByteArray),k<=n->k<=m->iq n k out=iq m k out
 |0,m,k,out,h,_=>by rw[gM 0 k out (by omega),gM m k out (by omega)]
 |n+1,0,k,out,_,h=>by rw[gM (n+1) k out (by omega),gM 0 k out (by omega)]
 |n+1,m+1,k,out,h1,h2=>by
  simp only[iq];split
  .exact qb n m _ _ (by omega) (by omega)
  .rfl
def gN (k:Int):ByteArray:=if k<=0 then⟨#[109,48]⟩else⟨#[109]⟩++iq k.toNat k ⟨#[]⟩
theorem mq (k:Int)(w:World)(h0:0<=k)(h1:k<=1000000000):
  Calls Tryz0.prog 50 #[.int .i64 k] w λe w'=>e=.returned (.string (gN k))/\Below w.heap.size w w':=by
 by_cases hk:k<=0
 .have HM:Hid (gN k=⟨#[109,48]⟩):=by
   have h:gN k=⟨#[109,48]⟩:=by unfold gN;rw[if_pos hk]
   exact h
  go_enter Tryz0.func50,Tryz.ntmps50
  go_wp2;go_ret;exact⟨by rw[HM.out];rfl,Below.refl _ _⟩
 .have HM:Hid (gN k=⟨#[109]⟩++iq k.toNat k ⟨#[]⟩):=by
   have h:gN k=⟨#[109]⟩++iq k.toNat k ⟨#[]⟩:=by unfold gN;rw[if_neg hk]
   exact h
  go_enter Tryz0.func50,Tryz.ntmps50
  go_wp2;go_loopw [0,3] (λx s wr=>∃(z:Int) (t:ByteArray),x=.int .i64 z/\s=.string t/\0<=z/\z<=k/\t.size+z<=k/\iq k.toNat z t=iq k.toNat k ⟨#[]⟩/\Below w.heap.size w wr) (λx _ _=>(intOf x).toNat)
  case atStart=>exact⟨k,⟨#[]⟩,rfl,rfl,by omega,by omega,by(show((0:Nat):Int)+k<=k);omega,rfl,Below.refl _ _⟩
  case round=>
   obtain⟨z,t,rfl,rfl,hz0,hz1,hz2,hd,hB⟩:=hrel;have HD:Hid (iq k.toNat z t=iq k.toNat k ⟨#[]⟩):=hd;clear hd;by_cases hz:0<z
   .have hcv:=wT;have hs1:=strOfNums_size [48+z%10];have HE:Hid (iq k.toNat (z/10) (strOfNums [48+z%10]++t)=iq k.toNat z t):=by
     have h:iq k.toNat (z/10) (strOfNums [48+z%10]++t)=iq k.toNat z t:=by
      obtain⟨m,hm⟩:∃m,k.toNat=m+1:=⟨k.toNat-1,by omega⟩;rw[hm];conv=>rhs;unfold iq
      rw[if_pos hz];exact qb _ _ _ _ (by omega) (by omega)
     exact h
    go_wp2;go_roundw
    case rel=>exact⟨z/10,_,rfl,rfl,by omega,by omega,by simp[strOfNums_size];omega,HE.out.trans HD.out,hB.alloc hB.size _⟩
    case measure=>simp[intOf];omega
   .have ht:iq k.toNat z t=t:=gM _ _ _ (by omega);have HT:Hid (gN k=⟨#[109]⟩++t):=by
     have h:gN k=⟨#[109]⟩++t:=by rw[HM.out,<-HD.out,ht]
     exact h
    clear ht;go_wp2;go_ret;exact⟨by rw[HT.out];rfl,hB⟩
end Go.Proofs.YtlmcblcijndipabGreatDoor
