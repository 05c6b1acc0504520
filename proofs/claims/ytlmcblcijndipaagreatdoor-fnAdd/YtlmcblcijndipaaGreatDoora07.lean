import Derived.Test.YtlmcblcijndipaaGreatDoora05
import Derived.Test.YtlmcblcijndipaaGreatDoora06
import Derived.ProofKit
import Derived.WalkLawsBesides
import Derived.Deep.RegionHeld3
import Derived.Deep.RegionLaw
import Derived.Deep.Slices
set_option linter.unusedVariables false
set_option linter.defProp false
set_option maxHeartbeats 400000
set_option maxRecDepth 1000000
namespace Go.Proofs.YtlmcblcijndipaaGreatDoor
open RowKit
variable {B:Nat}{W w w1:World}
def bQ {a b:Bool}(h:a=b):Ending.returned a=.returned b:=by rw[h]
def ic (n lo hi:Int)(w:World):
  Calls Tz.prog 70 #[n,lo,hi] w λe w'=>e=.returned (.bool<|iL n lo hi)/\w'=w:=by
 go_enter Tz.func70,Tryz.ntmps70
 go_wp2;all_goals go_ret
 all_goals exact⟨bQ (by unfold iL;rw[Bool.eq_iff_iff];simp;omega),rfl⟩
def qc (n:Int)(w:World):
  Calls Tz.prog 135 #[n] w λe w'=>e=.returned (.bool<|iL n 1 3)/\w'=w:=by
 go_enter Tz.func135,Tryz.ntmps135
 go_wp2;all_goals go_ret
 all_goals exact⟨bQ (by unfold iL;rw[Bool.eq_iff_iff];simp;omega),rfl⟩
def Oj (a b:Int)(w:World):
  Calls Tz.prog 136 #[a,b] w λe w'=>e=.returned (.bool<|iL a 0 b&&decide (b<=10000))/\w'=w:=by
 go_enter Tz.func136,Tryz.ntmps136
 go_wp2;all_goals go_ret
 all_goals exact⟨bQ (by unfold iL;rw[Bool.eq_iff_iff];simp;omega),rfl⟩
def yx (r:Int)(w:World):
  Calls Tz.prog 154 #[.int .i32 r] w λe w'=>e=.returned (.bool<|FG r)/\w'=w:=by
 go_enter Tz.func154,Tryz.ntmps154
 go_wp2;all_goals go_ret
 all_goals exact⟨bQ (by unfold FG;rw[Bool.eq_iff_iff];simp;omega),rfl⟩
def EU (s:ByteArray)(w:World)(h:iL s.size 1 8=false):
  Calls Tz.prog 72 #[s] w λe w'=>e=.returned (.bool<|ik s)/\w'=w:=by
 have hn:ik s=false:=by
  unfold iL at h;by_cases h1:1<=s.size
  .exact xN (by simp at h;omega)
  .exact uQ h1
 go_enter Tz.func72,Tryz.ntmps72
 go_wp2_with(go_at_call 70;refine(ic _ _ _ _).mono ?_;rintro e w' ⟨rfl,rfl⟩)
 go_ret;exact⟨bQ hn.symm,rfl⟩
def CO (s:ByteArray)(w:World)(hs:s.size<=maxLen)(iv:iL s.size 1 8=true):
  Calls Tz.prog 72 #[s] w λe w'=>e=.returned (.bool<|ik s)/\w'=w:=by
 unfold maxLen at hs;have hb:1<=s.size/\s.size<=8:=by have UE:=iv;unfold iL at UE;simp at UE;omega
 go_enter Tz.func72,Tryz.ntmps72
 go_wp2_with(go_at_call 70;refine(ic _ _ _ _).mono ?_;rintro e w' ⟨rfl,rfl⟩)
 go_loop [3,4] (λi _=>∃k:Nat,k<=s.size/\i=.int .i64 k/\Kr s k) (λi _=>s.size-(intOf i).toNat)
 case atStart=>exact⟨0,ada _,rfl,AJ s⟩
 case round=>
  obtain⟨k,hk,rfl,ho⟩:=hrel;by_cases aB:k<s.size
  .go_wp2;all_goals first
    |(go_round
      case rel=>exact⟨k+1,aa,by go_num,AI ho aB<|by unfold FG;simp at*;omega⟩
      case measure=>simp[intOf];omega)
    |(go_ret
      exact⟨bQ (xO aB<|by unfold FG;simp at*;omega).symm,rfl⟩)
  .go_wp2;go_ret;exact⟨bQ (AE hb.1 hb.2<|by rw[show s.size=k by omega];exact ho).symm,rfl⟩
def CN (s:ByteArray)(w:World)(hs:s.size<=maxLen):
  Calls Tz.prog 72 #[s] w λe w'=>e=.returned (.bool<|ik s)/\w'=w:=by
 by_cases h:iL s.size 1 8=true
 .exact CO s w hs h
 .exact EU s w oO
def q9 (w:World)(s:ByteArray)(p:Nat):Below w w (w.iter s p):=
 (acW _ _).alloc (ac5 _) _
def Cn (s:ByteArray)(w:World)(hb:1<=s.size/\s.size<=8):
  Calls Tz.prog 134 #[s] w λe w'=>e=.returned (.bool<|ik s)/\Below w w w':=by
 go_enter Tz.func134,Tryz.ntmps134
 go_wp2;go_loopw [4] (λ_ w'=>∃pos:Nat,w'=w.iter s pos/\pos<=s.size/\Kr s pos) (λ_ w'=>s.size-w'.iterPos w.heap.size)
 case atStart=>exact⟨0,rfl,ada _,AJ s⟩
 case round=>
  obtain⟨pos,rfl,FC,ho⟩:=hrel;by_cases hp:pos<s.size
  .have hnx:∀ty,(Instr.next (.pointer w.heap.size) true ty).run Tz.prog (w.iter s pos)=_:=λty=>run_next_any w s pos ty hp
   by_cases ha:(s[pos]'hp).toNat<128
   .have hd:=decode_ascii s pos hp ha;rw[hd]at hnx;clear hd;by_cases ez:FG ((s[pos]'hp).toNat:Int)=true
    .go_wp2_with(go_at_call 154;refine(yx _ _).mono ?_;rintro e w' ⟨rfl,rfl⟩)
     go_roundw
     case rel=>exact⟨pos+1,rfl,aa,AI ho hp ez⟩
     case measure=>simp;omega
    .have Qt:FG ((s[pos]'hp).toNat:Int)=false:=by simpa using ez
     have WB:ik s=false:=xO hp Qt;clear ez;go_wp2_with(go_at_call 154;refine(yx _ _).mono ?_;rintro e w' ⟨rfl,rfl⟩)
     go_ret;exact⟨bQ WB.symm,q9 _ _ _⟩
   .have hh:=decode_high s pos hp aa;have pg:FG ((Utf8.decode s pos).1:Int)=false:=NJ aa;have WB:ik s=false:=xO hp<|NJ aa;go_wp2_with(go_at_call 154;refine(yx _ _).mono ?_;rintro e w' ⟨rfl,rfl⟩)
    go_ret;exact⟨bQ WB.symm,q9 _ _ _⟩
  .have hnx:∀ty,(Instr.next (.pointer w.heap.size) true ty).run Tz.prog (w.iter s pos)=_:=λty=>run_next_end w s pos ty hp
   go_wp2;go_ret;exact⟨bQ (AE hb.1 hb.2<|by rw[show s.size=pos by omega];exact ho).symm,q9 _ _ _⟩
def DZ (s:ByteArray)(w:World)(hb:¬(1<=s.size/\s.size<=8)):
  Calls Tz.prog 134 #[s] w λe w'=>e=.returned (.bool<|ik s)/\Below w w w':=by
 have hn:ik s=false:=by
  by_cases h1:1<=s.size
  .exact xN aa
  .exact uQ h1
 by_cases h1:1<=s.size
 .have h8:8<s.size:=by omega
  go_enter Tz.func134,Tryz.ntmps134
  go_wp2;go_ret;first|exact⟨bQ hn.symm,acW _ _⟩|exact⟨rfl,acW _ _⟩
 .go_enter Tz.func134,Tryz.ntmps134
  go_wp2;go_ret;first|exact⟨bQ hn.symm,acW _ _⟩|exact⟨rfl,acW _ _⟩
def Cm (s:ByteArray)(w:World):
  Calls Tz.prog 134 #[s] w λe w'=>e=.returned (.bool<|ik s)/\Below w w w':=by
 by_cases hb:1<=s.size/\s.size<=8
 .exact Cn s w hb
 .exact DZ s w hb
def nV (s:ByteArray)(l:Bool)(a b c d t:Int)(w:World):
  Calls Tz.prog 107 #[.agg #[s,l,a,b,c,d],t] w λe w'=>e=.returned (.bool<|iL t b c)/\Below w w w':=by
 go_enter Tz.func107,Tryz.ntmps107
 go_wp2;all_goals go_ret
 all_goals exact⟨bQ (by unfold iL;rw[Bool.eq_iff_iff];simp;omega),(acW _ _).alloc (ac5 _) _⟩
def EE (s:ByteArray)(l:Bool)(a b c d:Int)(w:World):
  Calls Tz.prog 137 #[.agg #[s,l,a,b,c,d]] w λe w'=>e=.returned (.bool<|xX b c d)/\Below w w w':=by
 by_cases hd:(d==-1)=true
 .go_enter Tz.func137,Tryz.ntmps137
  go_wp2;go_ret;exact⟨bQ (by unfold xX;rw[hd];rfl),(acW _ _).alloc (ac5 _) _⟩
 .have Ys:(d==-1)=false:=by simpa using hd
  clear hd;go_enter Tz.func137,Tryz.ntmps137
  go_wp2_with(go_at_call 107;refine(nV _ _ _ _ _ _ _ _).mono ?_;rintro e w' ⟨rfl,hb⟩)
  go_ret;exact⟨bQ (by unfold xX;rw[Ys];rfl),((acW _ _).alloc (ac5 _) _).trans<|hb.mono aF⟩
def jJ (hb:Below W W w1):(∀b o,b<W.heap.size->w1.cell? ⟨b,o,none⟩=W.cell? ⟨b,o,none⟩)/\(∀b o,b<W.heap.size->w1.frozen? ⟨b,o,none⟩=W.frozen? ⟨b,o,none⟩):=
 ⟨λb o h=>hb.cell (p:=⟨b,o,none⟩) h,λb o h=>hb.frozen (p:=⟨b,o,none⟩) h⟩
def lj (h:w.heap.size<W/\Below w w W)(hb:Below W W w1):w.heap.size<w1/\Below w w w1:=
 ⟨ac6 h.1 hb.size,h.2.trans<|hb.mono<|ado h.1⟩
def od (w:World)(o:Obj):w.heap.size<(w.alloc o).heap.size/\Below w w (w.alloc o):=⟨aF,(acW _ _).alloc (ac5 _) _⟩
def CM (s:ByteArray)(l:Bool)(a b c d:Int)(w:World)(hs:s.size<=maxLen):
  Calls Tz.prog 41 #[.agg #[s,l,a,b,c,d]] w λe w'=>e=.returned (.bool<|uu s a b c d)/\Below w w w':=by
 go_enter Tz.func41,Tryz.ntmps41
 go_wp2_with(first|(go_at_call 72;refine(CN _ _ hs).mono ?_;rintro e w' ⟨rfl,rfl⟩)|(go_at_call 70;refine(ic _ _ _ _).mono ?_;rintro e w' ⟨rfl,rfl⟩))
 all_goals go_ret
 all_goals exact⟨bQ (by unfold uu xX;simp[*]<;>omega),(acW _ _).alloc (ac5 _) _⟩
def Ck (s:ByteArray)(l:Bool)(a b c d:Int)(w:World):
  Calls Tz.prog 106 #[.agg #[s,l,a,b,c,d]] w λe w'=>e=.returned (.bool<|uu s a b c d)/\Below w w w':=by
 go_enter Tz.func106,Tryz.ntmps106
 go_wp2_with(first|(go_at_call 134;refine(Cm _ _).mono ?_;rintro e w1 ⟨rfl,bP⟩;let⟨kq,pE⟩:=jJ bP)|(go_at_call 135;refine(qc _ _).mono ?_;rintro e w' ⟨rfl,rfl⟩)|(go_at_call 136;refine(Oj _ _ _).mono ?_;rintro e w' ⟨rfl,rfl⟩)|(go_at_call 137;refine(EE _ _ _ _ _ _ _).mono ?_;rintro e w2 ⟨rfl,cP⟩))
 all_goals go_ret
 all_goals refine⟨bQ (by unfold uu;simp[*]),?_⟩
 all_goals first
  |exact((acW _ _).alloc (ac5 _) _).trans ((bP.mono aF).trans<|cP.mono (by have:=bP.size;simp at this;omega))
  |exact((acW _ _).alloc (ac5 _) _).trans<|bP.mono aF
section
variable {b:Nat}{w':World}
structure tH (w:World)(b o:Nat)(m:Mv):Prop where
 c0:w.cell? ⟨b,o,none⟩=some (.string m.name)
 c1:w.cell? ⟨b,o+1,none⟩=some (.bool m.aj)
 c2:w.cell? ⟨b,o+2,none⟩=some (.int .i64 m.ap)
 c3:w.cell? ⟨b,o+3,none⟩=some (.int .i64 m.aW)
 c4:w.cell? ⟨b,o+4,none⟩=some (.int .i64 m.late)
 c5:w.cell? ⟨b,o+5,none⟩=some (.int .i64 m.prom)
def aI (w:World)(b off n:Nat)(f:Nat->Mv):Prop:=∀i,i<n->tH w b (off+i*6) (f i)
def tH.below {o:Nat}{m:Mv}(h:tH w b o m)(hb:Below B w w')(hB:b<B):tH w' b o m:=
 ⟨(hb.cell hB).trans h.c0,(hb.cell hB).trans h.c1,(hb.cell hB).trans h.c2,(hb.cell hB).trans h.c3,(hb.cell hB).trans h.c4,(hb.cell hB).trans h.c5⟩
def aI.below {off n:Nat}{f:Nat->Mv}(h:aI w b off n f)(hb:Below B w w')(hB:b<B):aI w' b off n f:=
 λi hi=>(h i hi).below hb hB
end
section
variable {g:Nat}
def fq (w:World)(g o:Nat)(m:Mv):World:=
 (((((w.setCell ⟨g,o,none⟩ m.name).setCell ⟨g,o+1,none⟩ m.aj).setCell ⟨g,o+2,none⟩ m.ap).setCell ⟨g,o+3,none⟩ m.aW).setCell ⟨g,o+4,none⟩ m.late).setCell ⟨g,o+5,none⟩ m.prom
def jm (w:World)(a b:Addr)(v:Value)(h:a≠b):(w.setCell a v).cell? b=w.cell? b:=World.cell?_setCell_other w a b v h
def ES (w:World)(g o:Nat)(m:Mv)(j:Nat)(h:j<o\/o+6<=j):(fq w g o m).cell? ⟨g,j,none⟩=w.cell? ⟨g,j,none⟩:=by
 unfold fq;rw[jm _ _ _ _ qB,jm _ _ _ _ qB,jm _ _ _ _ qB,jm _ _ _ _ qB,jm _ _ _ _ qB,jm _ _ _ _ qB]
def gQ (w:World)(g o:Nat)(m:Mv)(cs:Array Value)(t:TypeId)(hg:w.heap[g]?=some (.cells cs t (0,0)))(hs:o+6<=cs.size):tH (fq w g o m) g o m:=by
 have h0:=hg;have h1:=heap_setCell_same _ _ o _ _ m.name h0;have h2:=heap_setCell_same _ _ (o+1) _ _ m.aj h1;have h3:=heap_setCell_same _ _ (o+2) _ _ m.ap h2;have h4:=heap_setCell_same _ _ (o+3) _ _ m.aW h3;have h5:=heap_setCell_same _ _ (o+4) _ _ m.late h4;have h6:=heap_setCell_same _ _ (o+5) _ _ m.prom h5;constructor<;>(unfold fq;rw[cell_of_row _ _ _ _ _ _ h6];simp[Array.getElem?_setIfInBounds];omega)
def va {a:World}(h:Below B a w)(hg:B<=g)(o:Nat)(m:Mv):Below B a (fq w g o m):=
 (((((h.setCell (by simpa using hg) _).setCell (by simpa using hg) _).setCell (by simpa using hg) _).setCell (by simpa using hg) _).setCell (by simpa using hg) _).setCell (by simpa using hg) _
def aak (w:World)(b n:Nat):Prop:=∃cs,w.heap[b]?=some (.cells cs 31 (0,0))/\cs.size=n*6
end
def de (m:Mv)(tick now:Int):Mv:=if tick<now+4 then{m with prom:=tick}else m
def CF (m:Mv)(tick now:Int)(w:World)(h0:0<=now)(h1:now<=20000):
  Calls Tz.prog 79 #[.agg #[m.name,m.aj,m.ap,m.aW,m.late,m.prom],tick,now] w λe w'=>e=.returned (.agg #[.string (de m tick now).name,.bool (de m tick now).aj,.int .i64 (de m tick now).ap,.int .i64 (de m tick now).aW,.int .i64 (de m tick now).late,.int .i64 (de m tick now).prom])/\Below w w w':=by
 have Ce:IntKind.i64.wrap (now+4)=now+4:=hZ;by_cases h:tick<now+4
 .have HP:Hid (de m tick now={m with prom:=tick}):=by
   have h:de m tick now={m with prom:=tick}:=by unfold de;rw[if_pos h]
   exact h
  go_enter Tz.func79,Tryz.ntmps79
  go_wp2;refine bodyPost_ret (v:=.agg #[m.name,m.aj,m.ap,m.aW,m.late,tick]) (by simp[results,Tryz.results79,go_sem]) rfl ⟨by rw[HP.out],?_⟩;repeat(first|exact acW _ _|refine ac0 ?_ qB _|refine acZ ?_ qB _)
 .have HP:Hid (de m tick now=m):=by
   have h:de m tick now=m:=by unfold de;rw[if_neg h]
   exact h
  go_enter Tz.func79,Tryz.ntmps79
  go_wp2;refine bodyPost_ret (v:=.agg #[m.name,m.aj,m.ap,m.aW,m.late,m.prom]) (by simp[results,Tryz.results79,go_sem]) rfl ⟨by rw[HP.out],?_⟩;repeat(first|exact acW _ _|refine ac0 ?_ qB _|refine acZ ?_ qB _)
