import Derived.Test.YtlmcblcijndipaaGreatDoorj05
import Derived.Test.YtlmcblcijndipaaGreatDoorj06
import Derived.ProofKit
import Derived.WalkLawsBesides
import Derived.Deep.RegionHeld3
import Derived.Deep.RegionLaw
import Derived.Deep.Slices
set_option linter.unusedVariables false
set_option linter.defProp false
set_option maxHeartbeats 400000
set_option maxRecDepth 1000000
namespace Go.Proofs.YtlmcblcijndipaaGreatDoor
open RowKit
variable {B:Nat}{W w w1:World}
def bQ {a b:Bool}(h:a=b):Ending.returned a=.returned b:=by rw[h]
def ig (n lo hi:Int)(w:World):
  Calls Tz.prog 70 #[n,lo,hi] w λe w'=>e=.returned (.bool<|iB n lo hi)/\w'=w:=by
 go_enter Tz.func70,Tryz.ntmps70
 go_wp2;all_goals go_ret
 all_goals exact⟨bQ (by unfold iB;rw[Bool.eq_iff_iff];simp;omega),rfl⟩
def qh (n:Int)(w:World):
  Calls Tz.prog 135 #[n] w λe w'=>e=.returned (.bool<|iB n 1 3)/\w'=w:=by
 go_enter Tz.func135,Tryz.ntmps135
 go_wp2;all_goals go_ret
 all_goals exact⟨bQ (by unfold iB;rw[Bool.eq_iff_iff];simp;omega),rfl⟩
def O5 (a b:Int)(w:World):
  Calls Tz.prog 136 #[a,b] w λe w'=>e=.returned (.bool<|iB a 0 b&&decide (b<=10000))/\w'=w:=by
 go_enter Tz.func136,Tryz.ntmps136
 go_wp2;all_goals go_ret
 all_goals exact⟨bQ (by unfold iB;rw[Bool.eq_iff_iff];simp;omega),rfl⟩
def yI (r:Int)(w:World):
  Calls Tz.prog 154 #[.int .i32 r] w λe w'=>e=.returned (.bool<|Ga r)/\w'=w:=by
 go_enter Tz.func154,Tryz.ntmps154
 go_wp2;all_goals go_ret
 all_goals exact⟨bQ (by unfold Ga;rw[Bool.eq_iff_iff];simp;omega),rfl⟩
def Fs (s:ByteArray)(w:World)(h:iB s.size 1 8=false):
  Calls Tz.prog 72 #[s] w λe w'=>e=.returned (.bool<|io s)/\w'=w:=by
 have hn:io s=false:=by
  unfold iB at h;by_cases h1:1<=s.size
  .exact ye (by simp at h;omega)
  .exact vj h1
 go_enter Tz.func72,Tryz.ntmps72
 go_wp2_with(go_at_call 70;refine(ig _ _ _ _).mono ?_;rintro e w' ⟨rfl,rfl⟩)
 go_ret;exact⟨bQ hn.symm,rfl⟩
def C7 (s:ByteArray)(w:World)(hs:s.size<=maxLen)(iA:iB s.size 1 8=true):
  Calls Tz.prog 72 #[s] w λe w'=>e=.returned (.bool<|io s)/\w'=w:=by
 unfold maxLen at hs;have hb:1<=s.size/\s.size<=8:=by have VD:=iA;unfold iB at VD;simp at VD;omega
 go_enter Tz.func72,Tryz.ntmps72
 go_wp2_with(go_at_call 70;refine(ig _ _ _ _).mono ?_;rintro e w' ⟨rfl,rfl⟩)
 go_loop [3,4] (λi _=>∃k:Nat,k<=s.size/\i=.int .i64 k/\K7 s k) (λi _=>s.size-(intOf i).toNat)
 case atStart=>exact⟨0,ac8 _,rfl,AO s⟩
 case round=>
  obtain⟨k,hk,rfl,ho⟩:=hrel;by_cases ay:k<s.size
  .go_wp2;all_goals first
    |(go_round
      case rel=>exact⟨k+1,ab,by go_num,AN ho ay<|by unfold Ga;simp at*;omega⟩
      case measure=>simp[intOf];omega)
    |(go_ret
      exact⟨bQ (yh ay<|by unfold Ga;simp at*;omega).symm,rfl⟩)
  .go_wp2;go_ret;exact⟨bQ (AK hb.1 hb.2<|by rw[show s.size=k by omega];exact ho).symm,rfl⟩
def C6 (s:ByteArray)(w:World)(hs:s.size<=maxLen):
  Calls Tz.prog 72 #[s] w λe w'=>e=.returned (.bool<|io s)/\w'=w:=by
 by_cases h:iB s.size 1 8=true
 .exact C7 s w hs h
 .exact Fs s w qJ
def rz (w:World)(s:ByteArray)(p:Nat):Below w w (w.iter s p):=
 (acU _ _).alloc (ac3 _) _
def Cz (s:ByteArray)(w:World)(hb:1<=s.size/\s.size<=8):
  Calls Tz.prog 134 #[s] w λe w'=>e=.returned (.bool<|io s)/\Below w w w':=by
 go_enter Tz.func134,Tryz.ntmps134
 go_wp2;go_loopw [4] (λ_ w'=>∃pos:Nat,w'=w.iter s pos/\pos<=s.size/\K7 s pos) (λ_ w'=>s.size-w'.iterPos w.heap.size)
 case atStart=>exact⟨0,rfl,ac8 _,AO s⟩
 case round=>
  obtain⟨pos,rfl,DC,ho⟩:=hrel;by_cases hp:pos<s.size
  .have XG:∀ty,(Instr.next (.pointer w.heap.size) true ty).run Tz.prog (w.iter s pos)=_:=λty=>run_next_any w s pos ty hp
   by_cases ha:(s[pos]'hp).toNat<128
   .have hd:=decode_ascii s pos hp ha;rw[hd]at XG;clear hd;by_cases eO:Ga ((s[pos]'hp).toNat:Int)=true
    .go_wp2_with(go_at_call 154;refine(yI _ _).mono ?_;rintro e w' ⟨rfl,rfl⟩)
     go_roundw
     case rel=>exact⟨pos+1,rfl,ab,AN ho hp eO⟩
     case measure=>simp;omega
    .have KL:Ga ((s[pos]'hp).toNat:Int)=false:=by simpa using eO
     have Tt:io s=false:=yh hp KL;clear eO;go_wp2_with(go_at_call 154;refine(yI _ _).mono ?_;rintro e w' ⟨rfl,rfl⟩)
     go_ret;exact⟨bQ Tt.symm,rz _ _ _⟩
   .have hh:=decode_high s pos hp ab;have lQ:Ga ((Utf8.decode s pos).1:Int)=false:=OC ab;have Tt:io s=false:=yh hp<|OC ab;go_wp2_with(go_at_call 154;refine(yI _ _).mono ?_;rintro e w' ⟨rfl,rfl⟩)
    go_ret;exact⟨bQ Tt.symm,rz _ _ _⟩
  .have XG:∀ty,(Instr.next (.pointer w.heap.size) true ty).run Tz.prog (w.iter s pos)=_:=λty=>run_next_end w s pos ty hp
   go_wp2;go_ret;exact⟨bQ (AK hb.1 hb.2<|by rw[show s.size=pos by omega];exact ho).symm,rz _ _ _⟩
def En (s:ByteArray)(w:World)(hb:¬(1<=s.size/\s.size<=8)):
  Calls Tz.prog 134 #[s] w λe w'=>e=.returned (.bool<|io s)/\Below w w w':=by
 have hn:io s=false:=by
  by_cases h1:1<=s.size
  .exact ye ab
  .exact vj h1
 by_cases h1:1<=s.size
 .have h8:8<s.size:=by omega
  go_enter Tz.func134,Tryz.ntmps134
  go_wp2;go_ret;first|exact⟨bQ hn.symm,acU _ _⟩|exact⟨rfl,acU _ _⟩
 .go_enter Tz.func134,Tryz.ntmps134
  go_wp2;go_ret;first|exact⟨bQ hn.symm,acU _ _⟩|exact⟨rfl,acU _ _⟩
def Cy (s:ByteArray)(w:World):
  Calls Tz.prog 134 #[s] w λe w'=>e=.returned (.bool<|io s)/\Below w w w':=by
 by_cases hb:1<=s.size/\s.size<=8
 .exact Cz s w hb
 .exact En s w hb
def oj (s:ByteArray)(l:Bool)(a b c d t:Int)(w:World):
  Calls Tz.prog 107 #[.agg #[s,l,a,b,c,d],t] w λe w'=>e=.returned (.bool<|iB t b c)/\Below w w w':=by
 go_enter Tz.func107,Tryz.ntmps107
 go_wp2;all_goals go_ret
 all_goals exact⟨bQ (by unfold iB;rw[Bool.eq_iff_iff];simp;omega),(acU _ _).alloc (ac3 _) _⟩
def Fd (s:ByteArray)(l:Bool)(a b c d:Int)(w:World):
  Calls Tz.prog 137 #[.agg #[s,l,a,b,c,d]] w λe w'=>e=.returned (.bool<|yv b c d)/\Below w w w':=by
 by_cases hd:(d==-1)=true
 .go_enter Tz.func137,Tryz.ntmps137
  go_wp2;go_ret;exact⟨bQ (by unfold yv;rw[hd];rfl),(acU _ _).alloc (ac3 _) _⟩
 .have Zd:(d==-1)=false:=by simpa using hd
  clear hd;go_enter Tz.func137,Tryz.ntmps137
  go_wp2_with(go_at_call 107;refine(oj _ _ _ _ _ _ _ _).mono ?_;rintro e w' ⟨rfl,hb⟩)
  go_ret;exact⟨bQ (by unfold yv;rw[Zd];rfl),((acU _ _).alloc (ac3 _) _).trans<|hb.mono aG⟩
def jF (hb:Below W W w1):(∀b o,b<W.heap.size->w1.cell? ⟨b,o,none⟩=W.cell? ⟨b,o,none⟩)/\(∀b o,b<W.heap.size->w1.frozen? ⟨b,o,none⟩=W.frozen? ⟨b,o,none⟩):=
 ⟨λb o h=>hb.cell (p:=⟨b,o,none⟩) h,λb o h=>hb.frozen (p:=⟨b,o,none⟩) h⟩
def lp (h:w.heap.size<W/\Below w w W)(hb:Below W W w1):w.heap.size<w1/\Below w w w1:=
 ⟨ac4 h.1 hb.size,h.2.trans<|hb.mono<|adm h.1⟩
def oF (w:World)(o:Obj):w.heap.size<(w.alloc o).heap.size/\Below w w (w.alloc o):=⟨aG,(acU _ _).alloc (ac3 _) _⟩
def C5 (s:ByteArray)(l:Bool)(a b c d:Int)(w:World)(hs:s.size<=maxLen):
  Calls Tz.prog 41 #[.agg #[s,l,a,b,c,d]] w λe w'=>e=.returned (.bool<|uF s a b c d)/\Below w w w':=by
 go_enter Tz.func41,Tryz.ntmps41
 go_wp2_with(first|(go_at_call 72;refine(C6 _ _ hs).mono ?_;rintro e w' ⟨rfl,rfl⟩)|(go_at_call 70;refine(ig _ _ _ _).mono ?_;rintro e w' ⟨rfl,rfl⟩))
 all_goals go_ret
 all_goals exact⟨bQ (by unfold uF yv;simp[*]<;>omega),(acU _ _).alloc (ac3 _) _⟩
def Cx (s:ByteArray)(l:Bool)(a b c d:Int)(w:World):
  Calls Tz.prog 106 #[.agg #[s,l,a,b,c,d]] w λe w'=>e=.returned (.bool<|uF s a b c d)/\Below w w w':=by
 go_enter Tz.func106,Tryz.ntmps106
 go_wp2_with(first|(go_at_call 134;refine(Cy _ _).mono ?_;rintro e w1 ⟨rfl,bI⟩;let⟨kY,pH⟩:=jF bI)|(go_at_call 135;refine(qh _ _).mono ?_;rintro e w' ⟨rfl,rfl⟩)|(go_at_call 136;refine(O5 _ _ _).mono ?_;rintro e w' ⟨rfl,rfl⟩)|(go_at_call 137;refine(Fd _ _ _ _ _ _ _).mono ?_;rintro e w2 ⟨rfl,cj⟩))
 all_goals go_ret
 all_goals refine⟨bQ (by unfold uF;simp[*]),?_⟩
 all_goals first
  |exact((acU _ _).alloc (ac3 _) _).trans ((bI.mono aG).trans<|cj.mono (by have:=bI.size;simp at this;omega))
  |exact((acU _ _).alloc (ac3 _) _).trans<|bI.mono aG
section
variable {b:Nat}{w':World}
structure tW (w:World)(b o:Nat)(m:Mv):Prop where
 c0:w.cell? ⟨b,o,none⟩=some (.string m.name)
 c1:w.cell? ⟨b,o+1,none⟩=some (.bool m.ak)
 c2:w.cell? ⟨b,o+2,none⟩=some (.int .i64 m.ap)
 c3:w.cell? ⟨b,o+3,none⟩=some (.int .i64 m.bF)
 c4:w.cell? ⟨b,o+4,none⟩=some (.int .i64 m.late)
 c5:w.cell? ⟨b,o+5,none⟩=some (.int .i64 m.prom)
def aJ (w:World)(b off n:Nat)(f:Nat->Mv):Prop:=∀i,i<n->tW w b (off+i*6) (f i)
def tW.below {o:Nat}{m:Mv}(h:tW w b o m)(hb:Below B w w')(hB:b<B):tW w' b o m:=
 ⟨(hb.cell hB).trans h.c0,(hb.cell hB).trans h.c1,(hb.cell hB).trans h.c2,(hb.cell hB).trans h.c3,(hb.cell hB).trans h.c4,(hb.cell hB).trans h.c5⟩
def aJ.below {off n:Nat}{f:Nat->Mv}(h:aJ w b off n f)(hb:Below B w w')(hB:b<B):aJ w' b off n f:=
 λi hi=>(h i hi).below hb hB
end
section
variable {g:Nat}
def nz (w:World)(g o:Nat)(m:Mv):World:=
 (((((w.setCell ⟨g,o,none⟩ m.name).setCell ⟨g,o+1,none⟩ m.ak).setCell ⟨g,o+2,none⟩ m.ap).setCell ⟨g,o+3,none⟩ m.bF).setCell ⟨g,o+4,none⟩ m.late).setCell ⟨g,o+5,none⟩ m.prom
def yK (w:World)(g o:Nat)(m:Mv)(cs:Array Value)(t:TypeId)(hg:w.heap[g]?=some (.cells cs t (0,0)))(hs:o+6<=cs.size):tW (nz w g o m) g o m:=by
 have h0:=hg;have h1:=heap_setCell_same _ _ o _ _ m.name h0;have h2:=heap_setCell_same _ _ (o+1) _ _ m.ak h1;have h3:=heap_setCell_same _ _ (o+2) _ _ m.ap h2;have h4:=heap_setCell_same _ _ (o+3) _ _ m.bF h3;have h5:=heap_setCell_same _ _ (o+4) _ _ m.late h4;have h6:=heap_setCell_same _ _ (o+5) _ _ m.prom h5;constructor<;>(unfold nz;rw[cell_of_row _ _ _ _ _ _ h6];simp[Array.getElem?_setIfInBounds];omega)
def Fq {a:World}(h:Below B a w)(hg:B<=g)(o:Nat)(m:Mv):Below B a (nz w g o m):=
 (((((h.setCell (by simpa using hg) _).setCell (by simpa using hg) _).setCell (by simpa using hg) _).setCell (by simpa using hg) _).setCell (by simpa using hg) _).setCell (by simpa using hg) _
def aav (w:World)(b n:Nat):Prop:=∃cs,w.heap[b]?=some (.cells cs 31 (0,0))/\cs.size=n*6
end
def bf (m:Mv)(tick now:Int):Mv:=if tick<now+4 then{m with prom:=tick}else m
def tC (m:Mv)(tick now:Int)(w:World)(h0:0<=now)(h1:now<=20000):
  Calls Tz.prog 79 #[.agg #[m.name,m.ak,m.ap,m.bF,m.late,m.prom],tick,now] w λe w'=>e=.returned (.agg #[.string (bf m tick now).name,.bool (bf m tick now).ak,.int .i64 (bf m tick now).ap,.int .i64 (bf m tick now).bF,.int .i64 (bf m tick now).late,.int .i64 (bf m tick now).prom])/\Below w w w':=by
 have xP:IntKind.i64.wrap (now+4)=now+4:=ia;by_cases h:tick<now+4
 .have HP:Hid (bf m tick now={m with prom:=tick}):=by
   have h:bf m tick now={m with prom:=tick}:=by unfold bf;rw[if_pos h]
   exact h
  go_enter Tz.func79,Tryz.ntmps79
  go_wp2;refine bodyPost_ret (v:=.agg #[m.name,m.ak,m.ap,m.bF,m.late,tick]) (by simp[results,Tryz.results79,go_sem]) rfl ⟨by rw[HP.out],?_⟩;repeat(first|exact acU _ _|refine acY ?_ zj _|refine acX ?_ zj _)
 .have HP:Hid (bf m tick now=m):=by
   have h:bf m tick now=m:=by unfold bf;rw[if_neg h]
   exact h
  go_enter Tz.func79,Tryz.ntmps79
  go_wp2;refine bodyPost_ret (v:=.agg #[m.name,m.ak,m.ap,m.bF,m.late,m.prom]) (by simp[results,Tryz.results79,go_sem]) rfl ⟨by rw[HP.out],?_⟩;repeat(first|exact acU _ _|refine acY ?_ zj _|refine acX ?_ zj _)
