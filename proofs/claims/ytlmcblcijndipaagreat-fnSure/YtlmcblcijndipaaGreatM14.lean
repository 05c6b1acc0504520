import Derived.Test.YtlmcblcijndipaaGreatChecked
import Derived.Test.YtlmcblcijndipaaGreatM12
import Derived.Test.YtlmcblcijndipaaGreatM13
import Derived.WalkKit
import Derived.ProofKit
import Derived.WalkLawsBesides
import Derived.Deep.RegionHeld3
import Derived.Deep.RegionLaw
import Derived.Deep.Slices
set_option linter.unusedVariables false
set_option maxHeartbeats 400000
set_option maxRecDepth 1000000
namespace Go.Proofs.YtlmcblcijndipaaGreat
open Go.RowKit
theorem aJ {a b:Bool}(h:a=b):Ending.returned (.bool a)=.returned (.bool b):=by rw[h]
theorem dC (n lo hi:Int)(w:World):
  Calls Tryz0.prog 27 #[.int .i64 n,.int .i64 lo,.int .i64 hi] w λe w'=>e=.returned (.bool (dU n lo hi))/\w'=w:=by
 go_enter Tryz0.func27,Tryz.ntmps27
 go_wp2;all_goals go_ret
 all_goals exact⟨aJ (by unfold dU;rw[Bool.eq_iff_iff];simp;omega),rfl⟩
theorem iN (n:Int)(w:World):
  Calls Tryz0.prog 84 #[.int .i64 n] w λe w'=>e=.returned (.bool (dU n 1 3))/\w'=w:=by
 go_enter Tryz0.func84,Tryz.ntmps84
 go_wp2;all_goals go_ret
 all_goals exact⟨aJ (by unfold dU;rw[Bool.eq_iff_iff];simp;omega),rfl⟩
theorem wK (a b:Int)(w:World):
  Calls Tryz0.prog 85 #[.int .i64 a,.int .i64 b] w λe w'=>e=.returned (.bool (dU a 0 b&&decide (b<=10000)))/\w'=w:=by
 go_enter Tryz0.func85,Tryz.ntmps85
 go_wp2;all_goals go_ret
 all_goals exact⟨aJ (by unfold dU;rw[Bool.eq_iff_iff];simp;omega),rfl⟩
theorem nv (r:Int)(w:World):
  Calls Tryz0.prog 135 #[.int .i32 r] w λe w'=>e=.returned (.bool (s9 r))/\w'=w:=by
 go_enter Tryz0.func135,Tryz.ntmps135
 go_wp2;all_goals go_ret
 all_goals exact⟨aJ (by unfold s9;rw[Bool.eq_iff_iff];simp;omega),rfl⟩
theorem rl (s:ByteArray)(w:World)(h:dU s.size 1 8=false):
  Calls Tryz0.prog 111 #[.string s] w λe w'=>e=.returned (.bool (dJ s))/\w'=w:=by
 have hn:dJ s=false:=by
  unfold dU at h;by_cases h1:1<=s.size
  .exact nu (by simp at h;omega)
  .exact lY h1
 go_enter Tryz0.func111,Tryz.ntmps111
 go_wp2_with(go_at_call 27;refine(dC _ _ _ _).mono ?_;rintro e w' ⟨rfl,rfl⟩)
 go_ret;exact⟨aJ hn.symm,rfl⟩
theorem qa (s:ByteArray)(w:World)(hs:s.size<=maxLen)(hin:dU s.size 1 8=true):
  Calls Tryz0.prog 111 #[.string s] w λe w'=>e=.returned (.bool (dJ s))/\w'=w:=by
 unfold maxLen at hs;have hb:1<=s.size/\s.size<=8:=by have hin':=hin;unfold dU at hin';simp at hin';omega
 go_enter Tryz0.func111,Tryz.ntmps111
 go_wp2_with(go_at_call 27;refine(dC _ _ _ _).mono ?_;rintro e w' ⟨rfl,rfl⟩)
 go_loop [3,4] (λi _=>∃k:Nat,k<=s.size/\i=.int .i64 k/\uX s k) (λi _=>s.size-(intOf i).toNat)
 case atStart=>exact⟨0,Nat.zero_le _,rfl,pj s⟩
 case round=>
  obtain⟨k,hk,rfl,ho⟩:=hrel;by_cases hlt:k<s.size
  .go_wp2;all_goals first
    |(go_round
      case rel=>exact⟨k+1,by omega,by go_num,pm ho hlt (by unfold s9;simp at*;omega)⟩
      case measure=>simp[intOf];omega)
    |(go_ret
      exact⟨aJ (nt hlt (by unfold s9;simp at*;omega)).symm,rfl⟩)
  .go_wp2;go_ret;exact⟨aJ (pn hb.1 hb.2 (by rw[show s.size=k by omega];exact ho)).symm,rfl⟩
theorem qb (s:ByteArray)(w:World)(hs:s.size<=maxLen):
  Calls Tryz0.prog 111 #[.string s] w λe w'=>e=.returned (.bool (dJ s))/\w'=w:=by
 by_cases h:dU s.size 1 8=true
 .exact qa s w hs h
 .exact rl s w (by simpa using h)
theorem jQ (w:World)(s:ByteArray)(p:Nat):Below w.heap.size w (w.iter s p):=
 (Below.refl _ _).alloc (Nat.le_refl _) _
theorem qc (s:ByteArray)(w:World)(hb:1<=s.size/\s.size<=8):
  Calls Tryz0.prog 83 #[.string s] w λe w'=>e=.returned (.bool (dJ s))/\Below w.heap.size w w':=by
 go_enter Tryz0.func83,Tryz.ntmps83
 go_wp2;go_loopw [4] (λ_ w'=>∃pos:Nat,w'=w.iter s pos/\pos<=s.size/\uX s pos) (λ_ w'=>s.size-w'.iterPos w.heap.size)
 case atStart=>exact⟨0,rfl,Nat.zero_le _,pj s⟩
 case round=>
  obtain⟨pos,rfl,hp0,ho⟩:=hrel;by_cases hp:pos<s.size
  .have hnx:∀ty,(Instr.next (.pointer (some ⟨w.heap.size,0,none⟩)) true ty).run Tryz0.prog (w.iter s pos)=_:=λty=>run_next_any w s pos ty hp
   by_cases ha:(s[pos]'hp).toNat<128
   .have hd:=decode_ascii s pos hp ha;rw[hd]at hnx;clear hd;by_cases hok:s9 ((s[pos]'hp).toNat:Int)=true
    .go_wp2_with(go_at_call 135;refine(nv _ _).mono ?_;rintro e w' ⟨rfl,rfl⟩)
     go_roundw
     case rel=>exact⟨pos+1,rfl,by omega,pm ho hp hok⟩
     case measure=>simp;omega
    .have hok':s9 ((s[pos]'hp).toNat:Int)=false:=by simpa using hok
     have hnn:dJ s=false:=nt hp hok';clear hok;go_wp2_with(go_at_call 135;refine(nv _ _).mono ?_;rintro e w' ⟨rfl,rfl⟩)
     go_ret;exact⟨aJ hnn.symm,jQ _ _ _⟩
   .have hh:=decode_high s pos hp (by omega);have hno:s9 ((Utf8.decode s pos).1:Int)=false:=wJ (by omega);have hnn:dJ s=false:=nt hp (wJ (by omega));go_wp2_with(go_at_call 135;refine(nv _ _).mono ?_;rintro e w' ⟨rfl,rfl⟩)
    go_ret;exact⟨aJ hnn.symm,jQ _ _ _⟩
  .have hnx:∀ty,(Instr.next (.pointer (some ⟨w.heap.size,0,none⟩)) true ty).run Tryz0.prog (w.iter s pos)=_:=λty=>run_next_end w s pos ty hp
   go_wp2;go_ret;exact⟨aJ (pn hb.1 hb.2 (by rw[show s.size=pos by omega];exact ho)).symm,jQ _ _ _⟩
theorem rm (s:ByteArray)(w:World)(hb:¬(1<=s.size/\s.size<=8)):
  Calls Tryz0.prog 83 #[.string s] w λe w'=>e=.returned (.bool (dJ s))/\Below w.heap.size w w':=by
 have hn:dJ s=false:=by
  by_cases h1:1<=s.size
  .exact nu (by omega)
  .exact lY h1
 by_cases h1:1<=s.size
 .have h8:8<s.size:=by omega
  go_enter Tryz0.func83,Tryz.ntmps83
  go_wp2;go_ret;first|exact⟨aJ hn.symm,Below.refl _ _⟩|exact⟨rfl,Below.refl _ _⟩
 .go_enter Tryz0.func83,Tryz.ntmps83
  go_wp2;go_ret;first|exact⟨aJ hn.symm,Below.refl _ _⟩|exact⟨rfl,Below.refl _ _⟩
theorem qd (s:ByteArray)(w:World):
  Calls Tryz0.prog 83 #[.string s] w λe w'=>e=.returned (.bool (dJ s))/\Below w.heap.size w w':=by
 by_cases hb:1<=s.size/\s.size<=8
 .exact qc s w hb
 .exact rm s w hb
theorem g9 (s:ByteArray)(l:Bool)(a b c d t:Int)(w:World):
  Calls Tryz0.prog 60 #[.agg #[.string s,.bool l,.int .i64 a,.int .i64 b,.int .i64 c,.int .i64 d],.int .i64 t] w λe w'=>e=.returned (.bool (dU t b c))/\Below w.heap.size w w':=by
 go_enter Tryz0.func60,Tryz.ntmps60
 go_wp2;all_goals go_ret
 all_goals exact⟨aJ (by unfold dU;rw[Bool.eq_iff_iff];simp;omega),(Below.refl _ _).alloc (Nat.le_refl _) _⟩
theorem rn (s:ByteArray)(l:Bool)(a b c d:Int)(w:World):
  Calls Tryz0.prog 86 #[.agg #[.string s,.bool l,.int .i64 a,.int .i64 b,.int .i64 c,.int .i64 d]] w λe w'=>e=.returned (.bool (ns b c d))/\Below w.heap.size w w':=by
 by_cases hd:(d==-1)=true
 .go_enter Tryz0.func86,Tryz.ntmps86
  go_wp2;go_ret;exact⟨aJ (by unfold ns;rw[hd];rfl),(Below.refl _ _).alloc (Nat.le_refl _) _⟩
 .have hd':(d==-1)=false:=by simpa using hd
  clear hd;go_enter Tryz0.func86,Tryz.ntmps86
  go_wp2_with(go_at_call 60;refine(g9 _ _ _ _ _ _ _ _).mono ?_;rintro e w' ⟨rfl,hb⟩)
  go_ret;exact⟨aJ (by unfold ns;rw[hd'];rfl),((Below.refl _ _).alloc (Nat.le_refl _) _).trans (hb.mono (by simp))⟩
theorem eV {W w1:World}(hb:Below W.heap.size W w1):(∀b o,b<W.heap.size->w1.cell? ⟨b,o,none⟩=W.cell? ⟨b,o,none⟩)/\(∀b o,b<W.heap.size->w1.frozen? ⟨b,o,none⟩=W.frozen? ⟨b,o,none⟩):=
 ⟨λb o h=>hb.cell (p:=⟨b,o,none⟩) h,λb o h=>hb.frozen (p:=⟨b,o,none⟩) h⟩
theorem fL {w W w1:World}(h:w.heap.size<W.heap.size/\Below w.heap.size w W)(hb:Below W.heap.size W w1):w.heap.size<w1.heap.size/\Below w.heap.size w w1:=
 ⟨Nat.lt_of_lt_of_le h.1 hb.size,h.2.trans (hb.mono (Nat.le_of_lt h.1))⟩
theorem hZ (w:World)(o:Obj):w.heap.size<(w.alloc o).heap.size/\Below w.heap.size w (w.alloc o):=⟨by simp,(Below.refl _ _).alloc (Nat.le_refl _) _⟩
theorem qe (s:ByteArray)(l:Bool)(a b c d:Int)(w:World)(hs:s.size<=maxLen):
  Calls Tryz0.prog 54 #[.agg #[.string s,.bool l,.int .i64 a,.int .i64 b,.int .i64 c,.int .i64 d]] w λe w'=>e=.returned (.bool (lW s a b c d))/\Below w.heap.size w w':=by
 go_enter Tryz0.func54,Tryz.ntmps54
 go_wp2_with(first|(go_at_call 111;refine(qb _ _ hs).mono ?_;rintro e w' ⟨rfl,rfl⟩)|(go_at_call 27;refine(dC _ _ _ _).mono ?_;rintro e w' ⟨rfl,rfl⟩))
 all_goals go_ret
 all_goals exact⟨aJ (by unfold lW ns;simp[*]<;>omega),(Below.refl _ _).alloc (Nat.le_refl _) _⟩
theorem qf (s:ByteArray)(l:Bool)(a b c d:Int)(w:World):
  Calls Tryz0.prog 45 #[.agg #[.string s,.bool l,.int .i64 a,.int .i64 b,.int .i64 c,.int .i64 d]] w λe w'=>e=.returned (.bool (lW s a b c d))/\Below w.heap.size w w':=by
 go_enter Tryz0.func45,Tryz.ntmps45
 go_wp2_with(first|(go_at_call 83;refine(qd _ _).mono ?_;rintro e w1 ⟨rfl,hb1⟩;obtain⟨hc1,hf1⟩:=eV hb1)|(go_at_call 84;refine(iN _ _).mono ?_;rintro e w' ⟨rfl,rfl⟩)|(go_at_call 85;refine(wK _ _ _).mono ?_;rintro e w' ⟨rfl,rfl⟩)|(go_at_call 86;refine(rn _ _ _ _ _ _ _).mono ?_;rintro e w2 ⟨rfl,hb2⟩))
 all_goals go_ret
 all_goals refine⟨aJ (by unfold lW;simp[*]),?_⟩
 all_goals first
  |exact((Below.refl _ _).alloc (Nat.le_refl _) _).trans ((hb1.mono (by simp)).trans (hb2.mono (by have:=hb1.size;simp at this;omega)))
  |exact((Below.refl _ _).alloc (Nat.le_refl _) _).trans (hb1.mono (by simp))
structure lA (w:World)(b o:Nat)(m:Mv):Prop where
 c0:w.cell? ⟨b,o,none⟩=some (.string m.name)
 c1:w.cell? ⟨b,o+1,none⟩=some (.bool m.lands)
 c2:w.cell? ⟨b,o+2,none⟩=some (.int .i64 m.wake)
 c3:w.cell? ⟨b,o+3,none⟩=some (.int .i64 m.est)
 c4:w.cell? ⟨b,o+4,none⟩=some (.int .i64 m.late)
 c5:w.cell? ⟨b,o+5,none⟩=some (.int .i64 m.prom)
def aw (w:World)(b off n:Nat)(f:Nat->Mv):Prop:=∀i,i<n->lA w b (off+i*6) (f i)
theorem lA.below {B:Nat}{w w':World}{b o:Nat}{m:Mv}(h:lA w b o m)(hb:Below B w w')(hB:b<B):lA w' b o m:=
 ⟨(hb.cell hB).trans h.c0,(hb.cell hB).trans h.c1,(hb.cell hB).trans h.c2,(hb.cell hB).trans h.c3,(hb.cell hB).trans h.c4,(hb.cell hB).trans h.c5⟩
theorem aw.below {B:Nat}{w w':World}{b off n:Nat}{f:Nat->Mv}(h:aw w b off n f)(hb:Below B w w')(hB:b<B):aw w' b off n f:=
 λi hi=>(h i hi).below hb hB
def setMv (w:World)(g o:Nat)(m:Mv):World:=
 (((((w.setCell ⟨g,o,none⟩ (.string m.name)).setCell ⟨g,o+1,none⟩ (.bool m.lands)).setCell ⟨g,o+2,none⟩ (.int .i64 m.wake)).setCell ⟨g,o+3,none⟩ (.int .i64 m.est)).setCell ⟨g,o+4,none⟩ (.int .i64 m.late)).setCell ⟨g,o+5,none⟩ (.int .i64 m.prom)
theorem eM (w:World)(a b:Addr)(v:Value)(h:a≠b):(w.setCell a v).cell? b=w.cell? b:=World.cell?_setCell_other w a b v h
theorem rG (w:World)(g o:Nat)(m:Mv)(j:Nat)(h:j<o\/o+6<=j):(setMv w g o m).cell? ⟨g,j,none⟩=w.cell? ⟨g,j,none⟩:=by
 unfold setMv;rw[eM _ _ _ _ (by simp<;>omega),eM _ _ _ _ (by simp<;>omega),eM _ _ _ _ (by simp<;>omega),eM _ _ _ _ (by simp<;>omega),eM _ _ _ _ (by simp<;>omega),eM _ _ _ _ (by simp<;>omega)]
theorem cP (w:World)(g o:Nat)(m:Mv)(cs:Array Value)(t:TypeId)(hg:w.heap[g]?=some (.cells cs t (0,0)))(hs:o+6<=cs.size):lA (setMv w g o m) g o m:=by
 have h0:=hg;have h1:=heap_setCell_same _ _ o _ _ (.string m.name) h0;have h2:=heap_setCell_same _ _ (o+1) _ _ (.bool m.lands) h1;have h3:=heap_setCell_same _ _ (o+2) _ _ (.int .i64 m.wake) h2;have h4:=heap_setCell_same _ _ (o+3) _ _ (.int .i64 m.est) h3;have h5:=heap_setCell_same _ _ (o+4) _ _ (.int .i64 m.late) h4;have h6:=heap_setCell_same _ _ (o+5) _ _ (.int .i64 m.prom) h5;constructor<;>(unfold setMv;rw[cell_of_row _ _ _ _ _ _ h6];simp[Array.getElem?_setIfInBounds];omega)
theorem mc {B:Nat}{a w:World}(h:Below B a w){g:Nat}(hg:B<=g)(o:Nat)(m:Mv):Below B a (setMv w g o m):=
 (((((h.setCell (by simpa using hg) _).setCell (by simpa using hg) _).setCell (by simpa using hg) _).setCell (by simpa using hg) _).setCell (by simpa using hg) _).setCell (by simpa using hg) _
def A5 (w:World)(b n:Nat):Prop:=∃cs,w.heap[b]?=some (.cells cs 42 (0,0))/\cs.size=n*6
def bU (m:Mv)(tick now:Int):Mv:=if tick<now+4 then{m with prom:=tick}else m
theorem qw (m:Mv)(tick now:Int)(w:World)(h0:0<=now)(h1:now<=20000):
  Calls Tryz0.prog 75 #[.agg #[.string m.name,.bool m.lands,.int .i64 m.wake,.int .i64 m.est,.int .i64 m.late,.int .i64 m.prom],.int .i64 tick,.int .i64 now] w λe w'=>e=.returned (.agg #[.string (bU m tick now).name,.bool (bU m tick now).lands,.int .i64 (bU m tick now).wake,.int .i64 (bU m tick now).est,.int .i64 (bU m tick now).late,.int .i64 (bU m tick now).prom])/\Below w.heap.size w w':=by
 have hwr:IntKind.i64.wrap (now+4)=now+4:=by rw[IntKind.wrap_i64];omega
 by_cases h:tick<now+4
 .have HP:Hid (bU m tick now={m with prom:=tick}):=by
   have h:bU m tick now={m with prom:=tick}:=by unfold bU;rw[if_pos h]
   exact h
  go_enter Tryz0.func75,Tryz.ntmps75
  go_wp2;refine bodyPost_ret (v:=.agg #[.string m.name,.bool m.lands,.int .i64 m.wake,.int .i64 m.est,.int .i64 m.late,.int .i64 tick]) (by simp[results,Tryz.results75,go_sem]) rfl ⟨by rw[HP.out],?_⟩;repeat(first|exact Below.refl _ _|refine Below.alloc ?_ (by simp<;>omega) _|refine Below.setCell ?_ (by simp<;>omega) _)
 .have HP:Hid (bU m tick now=m):=by
   have h:bU m tick now=m:=by unfold bU;rw[if_neg h]
   exact h
  go_enter Tryz0.func75,Tryz.ntmps75
  go_wp2;refine bodyPost_ret (v:=.agg #[.string m.name,.bool m.lands,.int .i64 m.wake,.int .i64 m.est,.int .i64 m.late,.int .i64 m.prom]) (by simp[results,Tryz.results75,go_sem]) rfl ⟨by rw[HP.out],?_⟩;repeat(first|exact Below.refl _ _|refine Below.alloc ?_ (by simp<;>omega) _|refine Below.setCell ?_ (by simp<;>omega) _)
end Go.Proofs.YtlmcblcijndipaaGreat
