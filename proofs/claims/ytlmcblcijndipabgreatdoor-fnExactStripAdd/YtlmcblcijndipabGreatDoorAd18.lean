import Derived.Test.YtlmcblcijndipabGreatDoorAd16
set_option linter.unusedVariables false
set_option maxHeartbeats 400000
set_option maxRecDepth 10000
namespace Go.Proofs.YtlmcblcijndipabGreatDoor
open Go.RowKit
structure fL (B:Nat)(w w':World):Prop where
 size:w.heap.size<=w'.heap.size
 block:∀k,k<w.heap.size->k≠B->w'.heap[k]?=w.heap[k]?
theorem fL.refl (B:Nat)(w:World):fL B w w:=⟨Gm _,λ_ _ _=>rfl⟩
theorem fL.trans {B:Nat}{a b c:World}(h:fL B a b)(k:fL B b c):fL B a c:=
 ⟨Gq h.size k.size,λi hi hB=>(k.block i (Gn hi h.size) hB).trans (h.block i hi hB)⟩
theorem fL.of {B:Nat}{w w':World}(h:Below w.heap.size w w'):fL B w w':=⟨h.size,λk hk _=>h.block k hk⟩
theorem fL.setCell {B:Nat}{a w:World}(h:fL B a w)(o:Nat)(v:Value):fL B a (w.setCell ⟨B,o,none⟩ v):=
 ⟨by simpa using h.size,λk hk hB=>(Gd w _ v k (by simpa using hB)).trans (h.block k hk hB)⟩
theorem an.but {w w':World}{B b n:Nat}{g:Nat->Int}(h:an w b n g)(hb:fL B w w')(hB:b≠B):an w' b n g:=by
 have hlt:=h.lt;obtain⟨⟨cs,h1,h2⟩,h3⟩:=h;have h1':=(hb.block b hlt hB).trans h1;refine⟨⟨cs,h1',h2⟩,λi hi=>?_⟩;rw[cell_of_row _ _ _ _ _ _ h1',<-cell_of_row w _ _ _ _ _ h1];exact h3 i hi
theorem yy (n:Int)(w:World):(convert 88 9 (.slice (some ⟨w.heap.size,0,none⟩) 1 1)).run Tz.prog (w.alloc (.cells #[.int .u8 n] 5))=.ok (.string (strOfNums [n])) (w.alloc (.cells #[.int .u8 n] 5)):=
 run_convert_bytes_arg _ 88 5 (Tz.tr_underlying Tryz.underlying88) (Tz.tr_underlying Tryz.underlying5) w.heap.size 0 1 1 [n] rfl (λi hi=>by
  obtain rfl:i=0:=by omega
  simp) 9 (Tz.tr_underlying Tryz.underlying9)
def iI:Nat->Int->ByteArray->ByteArray
 |0,_,out=>out
 |n+1,k,out=>if 0<k then iI n (k/10) (strOfNums [48+k%10]++out)else out
theorem ik:∀(n:Nat) (k:Int) (out:ByteArray),k<=0->iI n k out=out
 |0,_,_,_=>rfl
 |n+1,k,out,h=>by simp only[iI];rw[if_neg (by omega)]
theorem qI:∀(n m:Nat) (k:Int) (out:ByteArray),k<=n->k<=m->iI n k out=iI m k out
 |0,m,k,out,h,_=>by rw[ik 0 k out (by omega),ik m k out (by omega)]
 |n+1,0,k,out,_,h=>by rw[ik (n+1) k out (by omega),ik 0 k out (by omega)]
 |n+1,m+1,k,out,h1,h2=>by
  simp only[iI];split
  .exact qI n m _ _ (by omega) (by omega)
  .rfl
def il (k:Int):ByteArray:=if k<=0 then⟨#[109,48]⟩else⟨#[109]⟩++iI k.toNat k ⟨#[]⟩
theorem mX (k:Int)(w:World)(h0:0<=k)(h1:k<=1000000000):
  Calls Tz.prog 50 #[.int .i64 k] w λe w'=>e=.returned (.string (il k))/\Below w.heap.size w w':=by
 by_cases hk:k<=0
 .have HM:Hid (il k=⟨#[109,48]⟩):=by
   have h:il k=⟨#[109,48]⟩:=by unfold il;rw[if_pos hk]
   exact h
  go_enter Tz.func50,Tryz.ntmps50
  go_wp2;go_ret;exact⟨by rw[HM.out];rfl,Gb _ _⟩
 .have HM:Hid (il k=⟨#[109]⟩++iI k.toNat k ⟨#[]⟩):=by
   have h:il k=⟨#[109]⟩++iI k.toNat k ⟨#[]⟩:=by unfold il;rw[if_neg hk]
   exact h
  go_enter Tz.func50,Tryz.ntmps50
  go_wp2;go_loopw [0,3] (λx s wr=>∃(z:Int) (t:ByteArray),x=.int .i64 z/\s=.string t/\0<=z/\z<=k/\t.size+z<=k/\iI k.toNat z t=iI k.toNat k ⟨#[]⟩/\Below w.heap.size w wr) (λx _ _=>(intOf x).toNat)
  case atStart=>exact⟨k,⟨#[]⟩,rfl,rfl,by omega,by omega,by(show((0:Nat):Int)+k<=k);omega,rfl,Gb _ _⟩
  case round=>
   obtain⟨z,t,rfl,rfl,hz0,hz1,hz2,hd,hB⟩:=hrel;have HD:Hid (iI k.toNat z t=iI k.toNat k ⟨#[]⟩):=hd;clear hd;by_cases hz:0<z
   .have hcv:=yy;have hs1:=strOfNums_size [48+z%10];have HE:Hid (iI k.toNat (z/10) (strOfNums [48+z%10]++t)=iI k.toNat z t):=by
     have h:iI k.toNat (z/10) (strOfNums [48+z%10]++t)=iI k.toNat z t:=by
      obtain⟨m,hm⟩:∃m,k.toNat=m+1:=⟨k.toNat-1,by omega⟩;rw[hm];conv=>rhs;unfold iI
      rw[if_pos hz];exact qI _ _ _ _ (by omega) (by omega)
     exact h
    go_wp2;go_roundw
    case rel=>exact⟨z/10,_,rfl,rfl,by omega,by omega,by simp[strOfNums_size];omega,HE.out.trans HD.out,hB.alloc hB.size _⟩
    case measure=>simp[intOf];omega
   .have ht:iI k.toNat z t=t:=ik _ _ _ (by omega);have HT:Hid (il k=⟨#[109]⟩++t):=by
     have h:il k=⟨#[109]⟩++t:=by rw[HM.out,<-HD.out,ht]
     exact h
    clear ht;go_wp2;go_ret;exact⟨by rw[HT.out];rfl,hB⟩
