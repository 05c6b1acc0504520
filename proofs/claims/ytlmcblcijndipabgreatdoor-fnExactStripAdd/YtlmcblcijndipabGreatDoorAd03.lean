import Derived.Test.YtlmcblcijndipabGreatDoorAd01
import Derived.Test.YtlmcblcijndipabGreatDoorAd02
import Derived.ProofKit
import Derived.WalkLawsBesides
import Derived.Deep.RegionHeld3
import Derived.Deep.RegionLaw
import Derived.Deep.Slices
set_option linter.unusedVariables false
set_option maxHeartbeats 400000
set_option maxRecDepth 1000000
namespace Go.Proofs.YtlmcblcijndipabGreatDoor
open Go.RowKit
theorem aK {a b:Bool}(h:a=b):Ending.returned (.bool a)=.returned (.bool b):=by rw[h]
theorem dQ (n lo hi:Int)(w:World):
  Calls Tz.prog 59 #[.int .i64 n,.int .i64 lo,.int .i64 hi] w λe w'=>e=.returned (.bool (dN n lo hi))/\w'=w:=by
 go_enter Tz.func59,Tryz.ntmps59
 go_wp2;all_goals go_ret
 all_goals exact⟨aK (by unfold dN;rw[Bool.eq_iff_iff];simp;omega),rfl⟩
theorem iR (n:Int)(w:World):
  Calls Tz.prog 177 #[.int .i64 n] w λe w'=>e=.returned (.bool (dN n 1 3))/\w'=w:=by
 go_enter Tz.func177,Tryz.ntmps177
 go_wp2;all_goals go_ret
 all_goals exact⟨aK (by unfold dN;rw[Bool.eq_iff_iff];simp;omega),rfl⟩
theorem yP (a b:Int)(w:World):
  Calls Tz.prog 178 #[.int .i64 a,.int .i64 b] w λe w'=>e=.returned (.bool (dN a 0 b&&decide (b<=10000)))/\w'=w:=by
 go_enter Tz.func178,Tryz.ntmps178
 go_wp2;all_goals go_ret
 all_goals exact⟨aK (by unfold dN;rw[Bool.eq_iff_iff];simp;omega),rfl⟩
theorem nC (r:Int)(w:World):
  Calls Tz.prog 197 #[.int .i32 r] w λe w'=>e=.returned (.bool (ux r))/\w'=w:=by
 go_enter Tz.func197,Tryz.ntmps197
 go_wp2;all_goals go_ret
 all_goals exact⟨aK (by unfold ux;rw[Bool.eq_iff_iff];simp;omega),rfl⟩
theorem sF (s:ByteArray)(w:World)(h:dN s.size 1 8=false):
  Calls Tz.prog 61 #[.string s] w λe w'=>e=.returned (.bool (dD s))/\w'=w:=by
 have hn:dD s=false:=by
  unfold dN at h;by_cases h1:1<=s.size
  .exact nB (by simp at h;omega)
  .exact my h1
 go_enter Tz.func61,Tryz.ntmps61
 go_wp2_with(go_at_call 59;refine(dQ _ _ _ _).mono ?_;rintro e w' ⟨rfl,rfl⟩)
 go_ret;exact⟨aK hn.symm,rfl⟩
theorem qL (s:ByteArray)(w:World)(hs:s.size<=maxLen)(hin:dN s.size 1 8=true):
  Calls Tz.prog 61 #[.string s] w λe w'=>e=.returned (.bool (dD s))/\w'=w:=by
 unfold maxLen at hs;have hb:1<=s.size/\s.size<=8:=by have hin':=hin;unfold dN at hin';simp at hin';omega
 go_enter Tz.func61,Tryz.ntmps61
 go_wp2_with(go_at_call 59;refine(dQ _ _ _ _).mono ?_;rintro e w' ⟨rfl,rfl⟩)
 go_loop [3,4] (λi _=>∃k:Nat,k<=s.size/\i=.int .i64 k/\xl s k) (λi _=>s.size-(intOf i).toNat)
 case atStart=>exact⟨0,Gs _,rfl,pO s⟩
 case round=>
  obtain⟨k,hk,rfl,ho⟩:=hrel;by_cases hlt:k<s.size
  .go_wp2;all_goals first
    |(go_round
      case rel=>exact⟨k+1,by omega,by go_num,pP ho hlt (by unfold ux;simp at*;omega)⟩
      case measure=>simp[intOf];omega)
    |(go_ret
      exact⟨aK (nA hlt (by unfold ux;simp at*;omega)).symm,rfl⟩)
  .go_wp2;go_ret;exact⟨aK (pQ hb.1 hb.2 (by rw[show s.size=k by omega];exact ho)).symm,rfl⟩
theorem qM (s:ByteArray)(w:World)(hs:s.size<=maxLen):
  Calls Tz.prog 61 #[.string s] w λe w'=>e=.returned (.bool (dD s))/\w'=w:=by
 by_cases h:dN s.size 1 8=true
 .exact qL s w hs h
 .exact sF s w (by simpa using h)
theorem j9 (w:World)(s:ByteArray)(p:Nat):Below w.heap.size w (w.iter s p):=
 (Gb _ _).alloc (Gm _) _
theorem qN (s:ByteArray)(w:World)(hb:1<=s.size/\s.size<=8):
  Calls Tz.prog 176 #[.string s] w λe w'=>e=.returned (.bool (dD s))/\Below w.heap.size w w':=by
 go_enter Tz.func176,Tryz.ntmps176
 go_wp2;go_loopw [4] (λ_ w'=>∃pos:Nat,w'=w.iter s pos/\pos<=s.size/\xl s pos) (λ_ w'=>s.size-w'.iterPos w.heap.size)
 case atStart=>exact⟨0,rfl,Gs _,pO s⟩
 case round=>
  obtain⟨pos,rfl,hp0,ho⟩:=hrel;by_cases hp:pos<s.size
  .have hnx:∀ty,(Instr.next (.pointer (some ⟨w.heap.size,0,none⟩)) true ty).run Tz.prog (w.iter s pos)=_:=λty=>run_next_any w s pos ty hp
   by_cases ha:(s[pos]'hp).toNat<128
   .have hd:=decode_ascii s pos hp ha;rw[hd]at hnx;clear hd;by_cases hok:ux ((s[pos]'hp).toNat:Int)=true
    .go_wp2_with(go_at_call 197;refine(nC _ _).mono ?_;rintro e w' ⟨rfl,rfl⟩)
     go_roundw
     case rel=>exact⟨pos+1,rfl,by omega,pP ho hp hok⟩
     case measure=>simp;omega
    .have hok':ux ((s[pos]'hp).toNat:Int)=false:=by simpa using hok
     have hnn:dD s=false:=nA hp hok';clear hok;go_wp2_with(go_at_call 197;refine(nC _ _).mono ?_;rintro e w' ⟨rfl,rfl⟩)
     go_ret;exact⟨aK hnn.symm,j9 _ _ _⟩
   .have hh:=decode_high s pos hp (by omega);have hno:ux ((Utf8.decode s pos).1:Int)=false:=yO (by omega);have hnn:dD s=false:=nA hp (yO (by omega));go_wp2_with(go_at_call 197;refine(nC _ _).mono ?_;rintro e w' ⟨rfl,rfl⟩)
    go_ret;exact⟨aK hnn.symm,j9 _ _ _⟩
  .have hnx:∀ty,(Instr.next (.pointer (some ⟨w.heap.size,0,none⟩)) true ty).run Tz.prog (w.iter s pos)=_:=λty=>run_next_end w s pos ty hp
   go_wp2;go_ret;exact⟨aK (pQ hb.1 hb.2 (by rw[show s.size=pos by omega];exact ho)).symm,j9 _ _ _⟩
theorem sG (s:ByteArray)(w:World)(hb:¬(1<=s.size/\s.size<=8)):
  Calls Tz.prog 176 #[.string s] w λe w'=>e=.returned (.bool (dD s))/\Below w.heap.size w w':=by
 have hn:dD s=false:=by
  by_cases h1:1<=s.size
  .exact nB (by omega)
  .exact my h1
 by_cases h1:1<=s.size
 .have h8:8<s.size:=by omega
  go_enter Tz.func176,Tryz.ntmps176
  go_wp2;go_ret;first|exact⟨aK hn.symm,Gb _ _⟩|exact⟨rfl,Gb _ _⟩
 .go_enter Tz.func176,Tryz.ntmps176
  go_wp2;go_ret;first|exact⟨aK hn.symm,Gb _ _⟩|exact⟨rfl,Gb _ _⟩
theorem qO (s:ByteArray)(w:World):
  Calls Tz.prog 176 #[.string s] w λe w'=>e=.returned (.bool (dD s))/\Below w.heap.size w w':=by
 by_cases hb:1<=s.size/\s.size<=8
 .exact qN s w hb
 .exact sG s w hb
theorem im (s:ByteArray)(l:Bool)(a b c d t:Int)(w:World):
  Calls Tz.prog 147 #[.agg #[.string s,.bool l,.int .i64 a,.int .i64 b,.int .i64 c,.int .i64 d],.int .i64 t] w λe w'=>e=.returned (.bool (dN t b c))/\Below w.heap.size w w':=by
 go_enter Tz.func147,Tryz.ntmps147
 go_wp2;all_goals go_ret
 all_goals exact⟨aK (by unfold dN;rw[Bool.eq_iff_iff];simp;omega),(Gb _ _).alloc (Gm _) _⟩
theorem sH (s:ByteArray)(l:Bool)(a b c d:Int)(w:World):
  Calls Tz.prog 179 #[.agg #[.string s,.bool l,.int .i64 a,.int .i64 b,.int .i64 c,.int .i64 d]] w λe w'=>e=.returned (.bool (nz b c d))/\Below w.heap.size w w':=by
 by_cases hd:(d==-1)=true
 .go_enter Tz.func179,Tryz.ntmps179
  go_wp2;go_ret;exact⟨aK (by unfold nz;rw[hd];rfl),(Gb _ _).alloc (Gm _) _⟩
 .have hd':(d==-1)=false:=by simpa using hd
  clear hd;go_enter Tz.func179,Tryz.ntmps179
  go_wp2_with(go_at_call 147;refine(im _ _ _ _ _ _ _ _).mono ?_;rintro e w' ⟨rfl,hb⟩)
  go_ret;exact⟨aK (by unfold nz;rw[hd'];rfl),((Gb _ _).alloc (Gm _) _).trans (hb.mono (by simp))⟩
theorem dE {W w1:World}(hb:Below W.heap.size W w1):(∀b o,b<W.heap.size->w1.cell? ⟨b,o,none⟩=W.cell? ⟨b,o,none⟩)/\(∀b o,b<W.heap.size->w1.frozen? ⟨b,o,none⟩=W.frozen? ⟨b,o,none⟩):=
 ⟨λb o h=>hb.cell (p:=⟨b,o,none⟩) h,λb o h=>hb.frozen (p:=⟨b,o,none⟩) h⟩
theorem fK {w W w1:World}(h:w.heap.size<W.heap.size/\Below w.heap.size w W)(hb:Below W.heap.size W w1):w.heap.size<w1.heap.size/\Below w.heap.size w w1:=
 ⟨Gn h.1 hb.size,h.2.trans (hb.mono (GF h.1))⟩
theorem io (w:World)(o:Obj):w.heap.size<(w.alloc o).heap.size/\Below w.heap.size w (w.alloc o):=⟨by simp,(Gb _ _).alloc (Gm _) _⟩
theorem qP (s:ByteArray)(l:Bool)(a b c d:Int)(w:World)(hs:s.size<=maxLen):
  Calls Tz.prog 32 #[.agg #[.string s,.bool l,.int .i64 a,.int .i64 b,.int .i64 c,.int .i64 d]] w λe w'=>e=.returned (.bool (mw s a b c d))/\Below w.heap.size w w':=by
 go_enter Tz.func32,Tryz.ntmps32
 go_wp2_with(first|(go_at_call 61;refine(qM _ _ hs).mono ?_;rintro e w' ⟨rfl,rfl⟩)|(go_at_call 59;refine(dQ _ _ _ _).mono ?_;rintro e w' ⟨rfl,rfl⟩))
 all_goals go_ret
 all_goals exact⟨aK (by unfold mw nz;simp[*]<;>omega),(Gb _ _).alloc (Gm _) _⟩
theorem qQ (s:ByteArray)(l:Bool)(a b c d:Int)(w:World):
  Calls Tz.prog 146 #[.agg #[.string s,.bool l,.int .i64 a,.int .i64 b,.int .i64 c,.int .i64 d]] w λe w'=>e=.returned (.bool (mw s a b c d))/\Below w.heap.size w w':=by
 go_enter Tz.func146,Tryz.ntmps146
 go_wp2_with(first|(go_at_call 176;refine(qO _ _).mono ?_;rintro e w1 ⟨rfl,hb1⟩;obtain⟨hc1,hf1⟩:=dE hb1)|(go_at_call 177;refine(iR _ _).mono ?_;rintro e w' ⟨rfl,rfl⟩)|(go_at_call 178;refine(yP _ _ _).mono ?_;rintro e w' ⟨rfl,rfl⟩)|(go_at_call 179;refine(sH _ _ _ _ _ _ _).mono ?_;rintro e w2 ⟨rfl,hb2⟩))
 all_goals go_ret
 all_goals refine⟨aK (by unfold mw;simp[*]),?_⟩
 all_goals first
  |exact((Gb _ _).alloc (Gm _) _).trans ((hb1.mono (by simp)).trans (hb2.mono (by have:=hb1.size;simp at this;omega)))
  |exact((Gb _ _).alloc (Gm _) _).trans (hb1.mono (by simp))
theorem uy (s:ByteArray)(l:Bool)(a b c d left:Int)(w:World)(hs:s.size<=maxLen)(h0:0<=left)(h1:left<=1048576):
  Calls Tz.prog 9 #[.agg #[.string s,.bool l,.int .i64 a,.int .i64 b,.int .i64 c,.int .i64 d],.int .i64 left] w λe w'=>e=.returned (.int .i64 (if left<s.size then -1 else left-s.size))/\Below w.heap.size w w':=by
 unfold maxLen at hs;by_cases h:left<s.size
 .rw[if_pos h];go_enter Tz.func9,Tryz.ntmps9
  go_wp2;go_ret;exact⟨rfl,(Gb _ _).alloc (Gm _) _⟩
 .rw[if_neg h];go_enter Tz.func9,Tryz.ntmps9
  go_wp2;go_ret;exact⟨rfl,(Gb _ _).alloc (Gm _) _⟩
theorem fo (s:ByteArray)(l:Bool)(a b c d:Int)(w:World):
  Calls Tz.prog 12 #[.agg #[.string s,.bool l,.int .i64 a,.int .i64 b,.int .i64 c,.int .i64 d]] w λe w'=>e=.returned (.agg #[.string s,.bool l,.int .i64 a,.int .i64 b,.int .i64 c,.int .i64 d])/\Below w.heap.size w w':=by
 go_enter Tz.func12,Tryz.ntmps12
 go_wp2;refine bodyPost_ret (v:=.agg #[.string s,.bool l,.int .i64 a,.int .i64 b,.int .i64 c,.int .i64 d]) (by simp[results,Tryz.results12,go_sem]) rfl ⟨rfl,?_⟩;repeat(first|exact Gb _ _|refine Gf ?_ (by simp<;>omega) _)
structure lF (w:World)(b o:Nat)(m:Mv):Prop where
 c0:w.cell? ⟨b,o,none⟩=some (.string m.name)
 c1:w.cell? ⟨b,o+1,none⟩=some (.bool m.lands)
 c2:w.cell? ⟨b,o+2,none⟩=some (.int .i64 m.wake)
 c3:w.cell? ⟨b,o+3,none⟩=some (.int .i64 m.est)
 c4:w.cell? ⟨b,o+4,none⟩=some (.int .i64 m.late)
 c5:w.cell? ⟨b,o+5,none⟩=some (.int .i64 m.prom)
def ak (w:World)(b off n:Nat)(f:Nat->Mv):Prop:=∀i,i<n->lF w b (off+i*6) (f i)
theorem lF.below {B:Nat}{w w':World}{b o:Nat}{m:Mv}(h:lF w b o m)(hb:Below B w w')(hB:b<B):lF w' b o m:=
 ⟨(hb.cell hB).trans h.c0,(hb.cell hB).trans h.c1,(hb.cell hB).trans h.c2,(hb.cell hB).trans h.c3,(hb.cell hB).trans h.c4,(hb.cell hB).trans h.c5⟩
theorem ak.below {B:Nat}{w w':World}{b off n:Nat}{f:Nat->Mv}(h:ak w b off n f)(hb:Below B w w')(hB:b<B):ak w' b off n f:=
 λi hi=>(h i hi).below hb hB
theorem AN (b off n cap:Nat)(f:Nat->Mv)(left:Int)(w:World)(hn:n<=maxLen)(hbs:b<w.heap.size)(hrow:ak w b off n f)(hf:∀i,i<n->(f i).Fits)(h0:0<=left)(h1:left<=1048576):
  Calls Tz.prog 28 #[.slice (some ⟨b,off,none⟩) n cap,.int .i64 left] w λe w'=>(∃r:Int,e=.returned (.int .i64 r)/\(r=-1\/0<=r/\r+n<=left))/\Below w.heap.size w w':=by
 unfold maxLen at hn;by_cases hl:left<n
 .go_enter Tz.func28,Tryz.ntmps28
  go_wp2;go_ret;exact⟨⟨-1,rfl,.inl rfl⟩,Gb _ _⟩
 .go_enter Tz.func28,Tryz.ntmps28
  go_wp2;go_loopw [1,5] (λl i w'=>∃(k:Nat) (t:Int),k<=n/\i=.int .i64 k/\l=.int .i64 t/\0<=t/\t+n<=left/\Below w.heap.size w w') (λ_ i _=>n-(intOf i).toNat)
  case atStart=>exact⟨0,left-n,Gs _,rfl,rfl,by omega,by omega,Gb _ _⟩
  case round=>
   obtain⟨k,t,hk,rfl,rfl,ht0,ht1,hB⟩:=hrel;by_cases hlt:k<n
   .obtain⟨c0,c1,c2,c3,c4,c5⟩:=(hrow.below hB hbs) k hlt;have hs:=(hf k hlt).name;by_cases hts:t<(f k).name.size
    .go_wp2_with(go_at_call 9;refine(uy _ _ _ _ _ _ _ _ hs (by omega) (by omega)).mono ?_;rintro e w1 ⟨rfl,hb1⟩)
     go_ret;exact⟨⟨-1,rfl,.inl rfl⟩,hB.trans (hb1.mono hB.size)⟩
    .go_wp2_with(go_at_call 9;refine(uy _ _ _ _ _ _ _ _ hs (by omega) (by omega)).mono ?_;rintro e w1 ⟨rfl,hb1⟩)
     go_roundw
     case rel=>exact⟨k+1,t-(f k).name.size,by omega,by go_num,by rw[if_neg (by omega)],by omega,by omega,hB.trans (hb1.mono hB.size)⟩
     case measure=>simp[intOf];omega
   .go_wp2;go_ret;exact⟨⟨t,rfl,.inr ⟨ht0,ht1⟩⟩,hB⟩
theorem yQ (a:Option Addr)(cap:Nat)(left:Int)(w:World)(h0:0<=left)(h1:left<=1048576):
  Calls Tz.prog 28 #[.slice a 0 cap,.int .i64 left] w λe w'=>(∃r:Int,e=.returned (.int .i64 r)/\(r=-1\/0<=r/\r+(0:Nat)<=left))/\Below w.heap.size w w':=by
 go_enter Tz.func28,Tryz.ntmps28
 go_wp2;go_loopw [1,5] (λl i w'=>i=.int .i64 0/\l=.int .i64 left/\w'=w) (λ_ _ _=>0)
 case atStart=>exact⟨rfl,rfl,rfl⟩
 case round=>
  obtain⟨rfl,rfl,rfl⟩:=hrel;go_wp2;go_ret;exact⟨⟨left,rfl,.inr ⟨h0,by omega⟩⟩,Gb _ _⟩
theorem xp:(Tz.prog.info? 36).map (λi=>(i.size,i.bytes,i.zero))=some (6,56,some (.agg #[.string ByteArray.empty,.bool false,.int .i64 0,.int .i64 0,.int .i64 0,.int .i64 0])):=by kernel_rfl
theorem nD (n:Nat)(hn:n<=1048576)(w:World):
  (Instr.makeSlice 30 (.int .i64 (n:Int)) (.int .i64 (n:Int))).run Tz.prog w=.ok (.slice (some ⟨w.heap.size,0,none⟩) n n) (w.alloc (.cells (madeCells #[.string ByteArray.empty,.bool false,.int .i64 0,.int .i64 0,.int .i64 0,.int .i64 0] (n*6)) 36)):=by
 have hi:=xp;cases hI:Tz.prog.info? 36 with
 |none=>rw[hI]at hi;simp at hi
 |some i=>
  rw[hI]at hi;simp only[Option.map_some,Option.some.injEq,Prod.mk.injEq]at hi;obtain⟨h6,h56,hz⟩:=hi;have:=run_make (P:=Tz.prog) w 30 36 i _ (Tz.tr_underlying Tryz.underlying30) hI hz .i64 .i64 n n (by omega) (by omega) (by rw[h56];omega) (by omega);rw[h6]at this;simpa[Value.cells]using this
def iK (w:World)(g o:Nat)(m:Mv):World:=
 (((((w.setCell ⟨g,o,none⟩ (.string m.name)).setCell ⟨g,o+1,none⟩ (.bool m.lands)).setCell ⟨g,o+2,none⟩ (.int .i64 m.wake)).setCell ⟨g,o+3,none⟩ (.int .i64 m.est)).setCell ⟨g,o+4,none⟩ (.int .i64 m.late)).setCell ⟨g,o+5,none⟩ (.int .i64 m.prom)
theorem nE (w:World)(g o:Nat)(m:Mv)(cs:Array Value)(t:TypeId)(hg:w.heap[g]?=some (.cells cs t (0,0))):
  ∃cs',(iK w g o m).heap[g]?=some (.cells cs' t (0,0))/\cs'.size=cs.size:=
 ⟨_,heap_setCell_same _ _ _ _ _ _ (heap_setCell_same _ _ _ _ _ _ (heap_setCell_same _ _ _ _ _ _ (heap_setCell_same _ _ _ _ _ _ (heap_setCell_same _ _ _ _ _ _ (heap_setCell_same _ _ _ _ _ _ hg))))),by simp⟩
theorem eI (w:World)(a b:Addr)(v:Value)(h:a≠b):(w.setCell a v).cell? b=w.cell? b:=World.cell?_setCell_other w a b v h
theorem df (w:World)(g o:Nat)(m:Mv)(j:Nat)(h:j<o\/o+6<=j):(iK w g o m).cell? ⟨g,j,none⟩=w.cell? ⟨g,j,none⟩:=by
 unfold iK;rw[eI _ _ _ _ (by simp<;>omega),eI _ _ _ _ (by simp<;>omega),eI _ _ _ _ (by simp<;>omega),eI _ _ _ _ (by simp<;>omega),eI _ _ _ _ (by simp<;>omega),eI _ _ _ _ (by simp<;>omega)]
theorem sI (w:World)(g o:Nat)(m:Mv)(cs:Array Value)(t:TypeId)(hg:w.heap[g]?=some (.cells cs t (0,0)))(hs:o+6<=cs.size):lF (iK w g o m) g o m:=by
 have h0:=hg;have h1:=heap_setCell_same _ _ o _ _ (.string m.name) h0;have h2:=heap_setCell_same _ _ (o+1) _ _ (.bool m.lands) h1;have h3:=heap_setCell_same _ _ (o+2) _ _ (.int .i64 m.wake) h2;have h4:=heap_setCell_same _ _ (o+3) _ _ (.int .i64 m.est) h3;have h5:=heap_setCell_same _ _ (o+4) _ _ (.int .i64 m.late) h4;have h6:=heap_setCell_same _ _ (o+5) _ _ (.int .i64 m.prom) h5;constructor<;>(unfold iK;rw[cell_of_row _ _ _ _ _ _ h6];simp[Array.getElem?_setIfInBounds];omega)
theorem mC {B:Nat}{a w:World}(h:Below B a w){g:Nat}(hg:B<=g)(o:Nat)(m:Mv):Below B a (iK w g o m):=
 (((((h.setCell (by simpa using hg) _).setCell (by simpa using hg) _).setCell (by simpa using hg) _).setCell (by simpa using hg) _).setCell (by simpa using hg) _).setCell (by simpa using hg) _
theorem xq {w:World}{g k:Nat}{f:Nat->Mv}{cs:Array Value}{t:TypeId}(hg:w.heap[g]?=some (.cells cs t (0,0)))(hs:k*6+6<=cs.size)(h:ak w g 0 k f):ak (iK w g (k*6) (f k)) g 0 (k+1) f:=by
 intro i hi;by_cases e:i=k
 .subst e;rw[Nat.zero_add];exact sI _ _ _ _ _ _ hg hs
 .have hl:i<k:=by omega
  obtain⟨c0,c1,c2,c3,c4,c5⟩:=h i hl;exact⟨(df _ _ _ _ _ (by omega)).trans c0,(df _ _ _ _ _ (by omega)).trans c1,(df _ _ _ _ _ (by omega)).trans c2,(df _ _ _ _ _ (by omega)).trans c3,(df _ _ _ _ _ (by omega)).trans c4,(df _ _ _ _ _ (by omega)).trans c5⟩
def fp (w:World)(b n:Nat):Prop:=∃cs,w.heap[b]?=some (.cells cs 36 (0,0))/\cs.size=n*6
theorem fp.lt {w:World}{b n:Nat}(h:fp w b n):b<w.heap.size:=by
 obtain⟨cs,h1,_⟩:=h;rcases Gv b w.heap.size with h|h
 .exact h
 .rw[Array.getElem?_eq_none h]at h1;cases h1
theorem AO (b off n cap:Nat)(f:Nat->Mv)(w:World)(hn:n<=1048576)(hbs:b<w.heap.size)(hrow:ak w b off n f):
  Calls Tz.prog 37 #[.slice (some ⟨b,off,none⟩) n cap] w λe w'=>e=.returned (.slice (some ⟨w.heap.size,0,none⟩) n n)/\ak w' w.heap.size 0 n f/\fp w' w.heap.size n/\Below w.heap.size w w':=by
 have hmk:=nD n hn;go_enter Tz.func37,Tryz.ntmps37
 go_wp2;go_loopw [4] (λi w'=>∃(k:Nat) (cs:Array Value),k<=n/\i=.int .i64 k/\w'.heap[w.heap.size]?=some (.cells cs 36 (0,0))/\cs.size=n*6/\ak w' w.heap.size 0 k f/\Below w.heap.size w w') (λi _=>n-(intOf i).toNat)
 case atStart=>exact⟨0,_,Gs _,rfl,heap_alloc_new _ _,size_madeCells _ _,λi hi=>absurd hi (Gr _),(Gb _ _).alloc (Gm _) _⟩
 case round=>
  obtain⟨k,cs,hk,rfl,hblk,hcs,hold,hB⟩:=hrel;by_cases hlt:k<n
  .obtain⟨c0,c1,c2,c3,c4,c5⟩:=(hrow.below hB hbs) k hlt;have hcell:∀j,j<n*6->∃v,wr.cell? ⟨w.heap.size,j,none⟩=some v:=λj hj=>by
    rw[cell_of_row wr _ j cs _ _ hblk];exact⟨_,Gu (by omega)⟩
   obtain⟨v0,e0⟩:=hcell (k*6) (by omega);obtain⟨v1,e1⟩:=hcell (k*6+1) (by omega);obtain⟨v2,e2⟩:=hcell (k*6+2) (by omega);obtain⟨v3,e3⟩:=hcell (k*6+3) (by omega);obtain⟨v4,e4⟩:=hcell (k*6+4) (by omega);obtain⟨v5,e5⟩:=hcell (k*6+5) (by omega);have hfz:∀j,wr.frozen? ⟨w.heap.size,j,none⟩=false:=λj=>frozen_of_row wr _ j cs _ hblk
   have hsz:w.heap.size<wr.heap.size:=block_lt_of_cell e0;go_wp2_with(go_at_call 12;refine(fo _ _ _ _ _ _ _).mono ?_;rintro e w1 ⟨rfl,hb1⟩;obtain⟨hc1,hf1⟩:=dE hb1)
   have hblk1:w1.heap[w.heap.size]?=some (.cells cs 36 (0,0)):=(hb1.block _ hsz).trans hblk;have hold1:ak w1 w.heap.size 0 k f:=hold.below hb1 hsz;obtain⟨cs',hcs',hsz'⟩:=nE w1 w.heap.size (k*6) (f k) cs _ hblk1;go_roundw
   case rel=>exact⟨k+1,cs',by omega,by go_num,hcs',by omega,xq hblk1 (by omega) hold1,mC (hB.trans (hb1.mono (by omega))) (Gm _) _ _⟩
   case measure=>simp[intOf];omega
  .go_wp2;go_ret;have hkn:k=n:=by omega
   subst hkn;exact⟨rfl,hold,⟨cs,hblk,hcs⟩,hB⟩
theorem sJ (a:Option Addr)(cap:Nat)(f:Nat->Mv)(w:World):
  Calls Tz.prog 37 #[.slice a 0 cap] w λe w'=>e=.returned (.slice (some ⟨w.heap.size,0,none⟩) 0 0)/\ak w' w.heap.size 0 0 f/\fp w' w.heap.size 0/\Below w.heap.size w w':=by
 have hmk:∀w,(Instr.makeSlice 30 (.int .i64 0) (.int .i64 0)).run Tz.prog w=.ok (.slice (some ⟨w.heap.size,0,none⟩) 0 0) (w.alloc (.cells (madeCells #[.string ByteArray.empty,.bool false,.int .i64 0,.int .i64 0,.int .i64 0,.int .i64 0] (0*6)) 36)):=nD 0 (by omega);go_enter Tz.func37,Tryz.ntmps37
 go_wp2;go_loopw [4] (λi w'=>i=.int .i64 0/\fp w' w.heap.size 0/\Below w.heap.size w w') (λ_ _=>0)
 case atStart=>exact⟨rfl,⟨_,heap_alloc_new _ _,size_madeCells _ _⟩,(Gb _ _).alloc (Gm _) _⟩
 case round=>
  obtain⟨rfl,hs,hB⟩:=hrel;go_wp2;go_ret;exact⟨rfl,λi hi=>absurd hi (Gr _),hs,hB⟩
def bV (m:Mv)(tick now:Int):Mv:=if tick<now+4 then{m with prom:=tick}else m
theorem rR (m:Mv)(tick now:Int)(w:World)(h0:0<=now)(h1:now<=20000):
  Calls Tz.prog 131 #[.agg #[.string m.name,.bool m.lands,.int .i64 m.wake,.int .i64 m.est,.int .i64 m.late,.int .i64 m.prom],.int .i64 tick,.int .i64 now] w λe w'=>e=.returned (.agg #[.string (bV m tick now).name,.bool (bV m tick now).lands,.int .i64 (bV m tick now).wake,.int .i64 (bV m tick now).est,.int .i64 (bV m tick now).late,.int .i64 (bV m tick now).prom])/\Below w.heap.size w w':=by
 have hwr:IntKind.i64.wrap (now+4)=now+4:=by rw[IntKind.wrap_i64];omega
 by_cases h:tick<now+4
 .have HP:Hid (bV m tick now={m with prom:=tick}):=by
   have h:bV m tick now={m with prom:=tick}:=by unfold bV;rw[if_pos h]
   exact h
  go_enter Tz.func131,Tryz.ntmps131
  go_wp2;refine bodyPost_ret (v:=.agg #[.string m.name,.bool m.lands,.int .i64 m.wake,.int .i64 m.est,.int .i64 m.late,.int .i64 tick]) (by simp[results,Tryz.results131,go_sem]) rfl ⟨by rw[HP.out],?_⟩;repeat(first|exact Gb _ _|refine Gf ?_ (by simp<;>omega) _|refine Ge ?_ (by simp<;>omega) _)
 .have HP:Hid (bV m tick now=m):=by
   have h:bV m tick now=m:=by unfold bV;rw[if_neg h]
   exact h
  go_enter Tz.func131,Tryz.ntmps131
  go_wp2;refine bodyPost_ret (v:=.agg #[.string m.name,.bool m.lands,.int .i64 m.wake,.int .i64 m.est,.int .i64 m.late,.int .i64 m.prom]) (by simp[results,Tryz.results131,go_sem]) rfl ⟨by rw[HP.out],?_⟩;repeat(first|exact Gb _ _|refine Gf ?_ (by simp<;>omega) _|refine Ge ?_ (by simp<;>omega) _)
