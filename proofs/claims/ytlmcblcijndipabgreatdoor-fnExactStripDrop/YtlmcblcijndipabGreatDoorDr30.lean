import Derived.Test.YtlmcblcijndipabGreatDoorDr26
import Derived.Test.YtlmcblcijndipabGreatDoorDr28
import Derived.Test.YtlmcblcijndipabGreatDoorDr23
set_option linter.unusedVariables false
set_option maxHeartbeats 2000000
namespace Go.Proofs.YtlmcblcijndipabGreatDoor
open Go.RowKit
def cm (f:Nat->Mv)(n:Nat)(o:Nat->Nat)(x:TryV):Prop:=
 match bL f o n with
 |some T=>x.ok=true/\x.sum=sumTo f T n/\x.most=aS f T n/\x.n=n/\x.cap=n/\(∀i,i<n->x.g i=T i)/\x.a≠none
 |none=>x.ok=false/\x.sum=0/\x.most=0/\x.n=0/\x.cap=0/\x.a=none
theorem ws {f:Nat->Mv}{o:Nat->Nat}{n:Nat}{T:Nat->Int}(hm:aq f n=true)(ho:∀i,i<n->o i<n)(hd:∀j k,j<k->k<n->o j≠o k)(h:bL f o n=some T):dO f T n:=dO.fits hm (pH hm ho hd h).fit
theorem qN (b off n cap:Nat)(f:Nat->Mv)(b' off' cap':Nat)(o:Nat->Nat)(w:World)(hm:aq f n=true)(ho:∀i,i<n->o i<n)(hd:∀j k,j<k->k<n->o j≠o k)(hcap:n<=cap')(hbs:b<w.heap.size)(hrow:al w b off n f)(hbs':b'<w.heap.size)(hrow':ag w b' off' n (λi=>(o i:Int))):
  Calls Tryz0.prog 227 #[.slice (some ⟨b,off,none⟩) n cap,.slice (some ⟨b',off',none⟩) n cap'] w λe w'=>∃x:TryV,e=.returned x.val/\cm f n o x/\(∀a,x.a=some a->∃B,a=⟨B,0,none⟩/\w.heap.size<=B/\aj w' B n x.g)/\Below w.heap.size w w':=by
 have h6:=aF hm;have HC:=qH b off n cap f b' off' cap' o (w.alloc (.cells #[.bool false,.int .i64 0,.int .i64 0,.slice none 0 0] 222)) hm ho hcap (by simp;omega) (hrow.below ((Below.refl _ w).alloc (Nat.le_refl _) _) hbs) (by simp;omega) (hrow'.below ((Below.refl _ w).alloc (Nat.le_refl _) _) hbs');go_enter Tryz0.func227,Tryz.ntmps227
 cases hE:bL f o n with
 |none=>
  rw[hE]at HC;go_wp2_with(go_at_call 245;refine HC.mono ?_;clear HC;rintro e w1 ⟨rfl,hb1⟩;have hm0:=(hb1.block w.heap.size (by simp)).trans (heap_alloc_new _ _);have s0:w1.cell? ⟨w.heap.size,0,none⟩=some (.bool false):=(by simp[World.cell?,hm0]);have s1:w1.cell? ⟨w.heap.size,1,none⟩=some (.int .i64 0):=(by simp[World.cell?,hm0]);have s2:w1.cell? ⟨w.heap.size,2,none⟩=some (.int .i64 0):=(by simp[World.cell?,hm0]);have s3:w1.cell? ⟨w.heap.size,3,none⟩=some (.slice none 0 0):=(by simp[World.cell?,hm0]);have sf:∀j,w1.frozen? ⟨w.heap.size,j,none⟩=false:=(λj=>by simp[World.frozen?,hm0]);have hB1:=((Below.refl w.heap.size w).alloc (Nat.le_refl _) (.cells #[.bool false,.int .i64 0,.int .i64 0,.slice none 0 0] 222)).trans (hb1.mono (by simp)))
  rw[eO hm0];have hw5:=setRow_heap w1 w.heap.size _ #[.bool false,.int .i64 0,.int .i64 0,.slice none 0 0] _ _ hm0;have hb5:=below_setRow hB1 (Nat.le_refl _) #[.bool false,.int .i64 0,.int .i64 0,.slice none 0 0];generalize w1.setRow w.heap.size #[.bool false,.int .i64 0,.int .i64 0,.slice none 0 0]=W5 at hw5 hb5⊢;have q0:W5.cell? ⟨w.heap.size,0,none⟩=some (.bool false):=by simp[World.cell?,hw5]
  have q1:W5.cell? ⟨w.heap.size,1,none⟩=some (.int .i64 0):=by simp[World.cell?,hw5]
  have q2:W5.cell? ⟨w.heap.size,2,none⟩=some (.int .i64 0):=by simp[World.cell?,hw5]
  have q3:W5.cell? ⟨w.heap.size,3,none⟩=some (.slice none 0 0):=by simp[World.cell?,hw5]
  refine bodyPost_ret (v:=noTry.val) ?_ rfl ⟨noTry,rfl,by simp[cm,hE,noTry],λa ha=>by simp[noTry]at ha,hb5⟩;simp[results,Tryz.f227,go_sem,TryV.val,noTry,q0,q1,q2,q3]
 |some T=>
  rw[hE]at HC;have hbd:dO f T n:=ws hm ho hd hE;have sT:=(hbd.sum n (Nat.le_refl _));go_wp2_with(first|(go_at_call 245;refine HC.mono ?_;clear HC;rintro e w1 ⟨⟨B,hB0,rfl,hown⟩,hb1⟩;have hBl:=hown.lt;have HL:=qM b off n cap f B 0 n n T w1 h6 (Nat.le_refl _) (Nat.lt_of_lt_of_le hbs (by have:=hb1.size;simp at this;omega)) (hrow.below (((Below.refl w.heap.size w).alloc (Nat.le_refl _) (.cells #[.bool false,.int .i64 0,.int .i64 0,.slice none 0 0] 222)).trans (hb1.mono (by simp))) hbs) hBl (λi hi=>by have:=hown.2 i hi;simpa using this) hbd)|(go_at_call 126;refine HL.mono ?_;clear HL;rintro e w2 ⟨rfl,hb2⟩;have hB2:=(hb1.trans (hb2.mono hb1.size));have hm0:=(hB2.block w.heap.size (by simp)).trans (heap_alloc_new _ _);have s0:w2.cell? ⟨w.heap.size,0,none⟩=some (.bool false):=(by simp[World.cell?,hm0]);have s1:w2.cell? ⟨w.heap.size,1,none⟩=some (.int .i64 0):=(by simp[World.cell?,hm0]);have s2:w2.cell? ⟨w.heap.size,2,none⟩=some (.int .i64 0):=(by simp[World.cell?,hm0]);have s3:w2.cell? ⟨w.heap.size,3,none⟩=some (.slice none 0 0):=(by simp[World.cell?,hm0]);have sf:∀j,w2.frozen? ⟨w.heap.size,j,none⟩=false:=(λj=>by simp[World.frozen?,hm0])))
  rw[eO hm0];have hBs:B≠w.heap.size:=by simp at hB0;omega
  have hw5:=setRow_heap w2 w.heap.size _ #[.bool true,.int .i64 (sumTo f T n),.int .i64 (aS f T n),.slice (some ⟨B,0,none⟩) n n] _ _ hm0;have hb5:=below_setRow (((Below.refl w.heap.size w).alloc (Nat.le_refl _) (.cells #[.bool false,.int .i64 0,.int .i64 0,.slice none 0 0] 222)).trans (hB2.mono (by simp))) (Nat.le_refl _) #[.bool true,.int .i64 (sumTo f T n),.int .i64 (aS f T n),.slice (some ⟨B,0,none⟩) n n];have ho5:(w2.setRow w.heap.size #[.bool true,.int .i64 (sumTo f T n),.int .i64 (aS f T n),.slice (some ⟨B,0,none⟩) n n]).heap[B]?=w2.heap[B]?:=setRow_other _ _ _ _ hBs;have hown2:=hown.below hb2 hBl;generalize w2.setRow w.heap.size #[.bool true,.int .i64 (sumTo f T n),.int .i64 (aS f T n),.slice (some ⟨B,0,none⟩) n n]=W5 at hw5 hb5 ho5⊢;have hown5:aj W5 B n T:=by
   obtain⟨⟨cs,g1,g2⟩,g3⟩:=hown2;exact⟨⟨cs,ho5.trans g1,g2⟩,λi hi=>by rw[<-g3 i hi];simp only[World.cell?,ho5]⟩
  have q0:W5.cell? ⟨w.heap.size,0,none⟩=some (.bool true):=by simp[World.cell?,hw5]
  have q1:W5.cell? ⟨w.heap.size,1,none⟩=some (.int .i64 (sumTo f T n)):=by simp[World.cell?,hw5]
  have q2:W5.cell? ⟨w.heap.size,2,none⟩=some (.int .i64 (aS f T n)):=by simp[World.cell?,hw5]
  have q3:W5.cell? ⟨w.heap.size,3,none⟩=some (.slice (some ⟨B,0,none⟩) n n):=by simp[World.cell?,hw5]
  refine bodyPost_ret (v:=TryV.val ⟨true,sumTo f T n,aS f T n,some ⟨B,0,none⟩,n,n,T⟩) ?_ rfl ⟨⟨true,sumTo f T n,aS f T n,some ⟨B,0,none⟩,n,n,T⟩,rfl,by simp[cm,hE],λa ha=>⟨B,(Option.some.inj ha).symm,by simp at hB0;omega,hown5⟩,hb5⟩;simp[results,Tryz.f227,go_sem,TryV.val,q0,q1,q2,q3]
end Go.Proofs.YtlmcblcijndipabGreatDoor
