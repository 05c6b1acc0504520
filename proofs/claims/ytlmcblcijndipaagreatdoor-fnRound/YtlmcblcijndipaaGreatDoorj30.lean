import Derived.Test.YtlmcblcijndipaaGreatDoorj29
import Derived.Laws.IdiomCopy
import Derived.Lib.SliceRun
set_option maxHeartbeats 1000000
namespace Go.Proofs.YtlmcblcijndipaaGreatDoor
section
open RowKit
variable {w:World}{N B c n s k:Nat}{T:TypeId}{xs:List Value}
theorem zq {b:Nat}{f:Nat->Mv}(h:aM w b 0 n f)(hk:k<=n):aM w b (k*6) (n-k) (λj=>f (k+j)):=λi hi=>by
 have:=h (k+i) ab;rw[show 0+(k+i)*6=k*6+i*6 by omega]at this;exact this
end
section
open RowKit
def ij (f:Nat->Mv)(n:Nat)(name:ByteArray)(k:Int):Prop:=k=-1/\(∀i,i<n->bZ (f i).name name=false)\/∃j:Nat,k=(j:Int)/\j<n/\bZ (f j).name name=true/\∀i,i<j->bZ (f i).name name=false
theorem wY (m:Mv)(B:Nat)(name:ByteArray)(w:World)(hB:B<w)(hc:w.cell? B=some (.string name)):
  Calls Tz.prog 281 #[.agg #[m.name,m.an,m.aD,m.ba,m.late,m.prom],.pointer B] w λe w'=>e=.returned (.bool (bZ m.name name))/\Below w w w':=by
 have Ah:(w.alloc (.cells #[m.name,m.an,m.aD,m.ba,m.late,m.prom] 31)).cell? B=some (.string name):=by
  rw[acj _ _ B hB];exact hc
 go_enter Tz.func281,Tryz.ntmps281
 go_wp2;go_ret;exact⟨rfl,(aca _ w).alloc (ack _) _⟩
theorem IG (b off n cap:Nat)(f:Nat->Mv)(B:Nat)(name:ByteArray)(w:World)(hn:n<=1048576)(bw:b<w)(aq:aM w b off n f)(hB:B<w)(hc:w.cell? B=some (.string name)):
  Calls Tz.prog 280 #[.slice (some ⟨b,off,none⟩) n cap,.func (.func 281) #[] #[.pointer B]] w λe w'=>(∃k:Int,e=.returned (.int .i64 k)/\ij f n name k)/\Below w w w':=by
 go_enter Tz.func280,Tryz.ntmps280
 go_wp2;go_loopw [8] (λx W=>∃k:Nat,x=.int .i64 k/\k<=n/\Below w w W/\∀i,i<k->bZ (f i).name name=false) (λx _=>n-(intOf x).toNat)
 case atStart=>exact⟨0,rfl,acp _,aca _ _,λi hi=>absurd hi (aco _)⟩
 case round=>
  obtain⟨k,rfl,hk,hb,cP⟩:=hrel;by_cases aI:k<n
  .have dG:(k:Int)<n:=by omega
   have hr:=aq.below hb bw k aI;obtain⟨c0,c1,c2,c3,c4,c5⟩:=hr;have H1:=λ(w1:World)=>wY (f k) B name w1
   cases he:bZ (f k).name name with
   |true=>
    go_wp2_with(go_at_call 281;refine(wY (f k) B name wr (acl hB hb.size) ((hb.cell (p:=⟨B,0,none⟩) hB).trans hc)).mono ?_;rintro e w1 ⟨rfl,b1⟩;rw[he])
    all_goals try(exfalso;omega)
    go_ret;exact⟨⟨k,rfl,.inr ⟨k,rfl,aI,he,cP⟩⟩,hb.trans (b1.mono hb.size)⟩
   |false=>
    go_wp2_with(go_at_call 281;refine(wY (f k) B name wr (acl hB hb.size) ((hb.cell (p:=⟨B,0,none⟩) hB).trans hc)).mono ?_;rintro e w1 ⟨rfl,b1⟩;rw[he])
    all_goals try(exfalso;omega)
    go_roundw
    case rel=>exact⟨k+1,by go_num,ab,hb.trans (b1.mono hb.size),λi hi=>by
     by_cases e:i=k
     .subst e;exact he
     .exact cP i ab⟩
    case measure=>exact cf
  .have dG:¬(k:Int)<n:=by omega
   go_wp2;all_goals try(exfalso;omega)
   go_ret;exact⟨⟨-1,rfl,.inl ⟨rfl,λi hi=>cP i ab⟩⟩,hb⟩
theorem CZ (b off n cap:Nat)(f:Nat->Mv)(name:ByteArray)(w:World)(hn:n<=1048576)(bw:b<w)(aq:aM w b off n f):
  Calls Tz.prog 278 #[.slice (some ⟨b,off,none⟩) n cap,name] w λe w'=>(∃k:Int,e=.returned (.int .i64 k)/\ij f n name k)/\Below w w w':=by
 have b0:Below w w (w.alloc (.cells #[name] 9)):=(aca _ w).alloc (ack _) _;have hI:=IG b off n cap f w.heap.size name (w.alloc (.cells #[name] 9)) hn cC (aq.below b0 bw) aH aH;go_enter Tz.func278,Tryz.ntmps278
 go_wp2_with(go_at_call 280;refine hI.mono ?_;rintro e w1 ⟨⟨k,rfl,hk⟩,b1⟩)
 go_ret;exact⟨⟨k,rfl,hk⟩,b0.trans (b1.mono b0.size)⟩
end
