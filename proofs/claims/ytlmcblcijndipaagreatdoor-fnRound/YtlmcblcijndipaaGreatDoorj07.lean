import Derived.Test.YtlmcblcijndipaaGreatDoorj05
import Derived.Test.YtlmcblcijndipaaGreatDoorj06
import Derived.ProofKit
import Derived.WalkLawsBesides
import Derived.Deep.RegionHeld3
import Derived.Deep.RegionLaw
import Derived.Deep.Slices
set_option maxHeartbeats 400000
set_option maxRecDepth 1000000
namespace Go.Proofs.YtlmcblcijndipaaGreatDoor
section
open RowKit
theorem bN {a b:Bool}(h:a=b):Ending.returned a=.returned b:=by rw[h]
theorem gJ (n lo hi:Int)(w:World):
  Calls Tz.prog 70 #[n,lo,hi] w λe w'=>e=.returned (.bool (iu n lo hi))/\w'=w:=by
 go_enter Tz.func70,Tryz.ntmps70
 go_wp2;all_goals go_ret
 all_goals exact⟨bN (by unfold iu;rw[Bool.eq_iff_iff];simp;omega),rfl⟩
theorem pH (n:Int)(w:World):
  Calls Tz.prog 135 #[n] w λe w'=>e=.returned (.bool (iu n 1 3))/\w'=w:=by
 go_enter Tz.func135,Tryz.ntmps135
 go_wp2;all_goals go_ret
 all_goals exact⟨bN (by unfold iu;rw[Bool.eq_iff_iff];simp;omega),rfl⟩
theorem Mx (a b:Int)(w:World):
  Calls Tz.prog 136 #[a,b] w λe w'=>e=.returned (.bool (iu a 0 b&&decide (b<=10000)))/\w'=w:=by
 go_enter Tz.func136,Tryz.ntmps136
 go_wp2;all_goals go_ret
 all_goals exact⟨bN (by unfold iu;rw[Bool.eq_iff_iff];simp;omega),rfl⟩
theorem wX (r:Int)(w:World):
  Calls Tz.prog 154 #[.int .i32 r] w λe w'=>e=.returned (.bool (D6 r))/\w'=w:=by
 go_enter Tz.func154,Tryz.ntmps154
 go_wp2;all_goals go_ret
 all_goals exact⟨bN (by unfold D6;rw[Bool.eq_iff_iff];simp;omega),rfl⟩
theorem Di (s:ByteArray)(w:World)(h:iu s.size 1 8=false):
  Calls Tz.prog 72 #[s] w λe w'=>e=.returned (.bool (gM s))/\w'=w:=by
 have hn:gM s=false:=by
  unfold iu at h;by_cases h1:1<=s.size
  .exact wA (by simp at h;omega)
  .exact uq h1
 go_enter Tz.func72,Tryz.ntmps72
 go_wp2_with(go_at_call 70;refine(gJ _ _ _ _).mono ?_;rintro e w' ⟨rfl,rfl⟩)
 go_ret;exact⟨bN hn.symm,rfl⟩
theorem AU (s:ByteArray)(w:World)(hs:s.size<=maxLen)(gY:iu s.size 1 8=true):
  Calls Tz.prog 72 #[s] w λe w'=>e=.returned (.bool (gM s))/\w'=w:=by
 unfold maxLen at hs;have hb:1<=s.size/\s.size<=8:=by have SU:=gY;unfold iu at SU;simp at SU;omega
 go_enter Tz.func72,Tryz.ntmps72
 go_wp2_with(go_at_call 70;refine(gJ _ _ _ _).mono ?_;rintro e w' ⟨rfl,rfl⟩)
 go_loop [3,4] (λi _=>∃k:Nat,k<=s.size/\i=.int .i64 k/\IU s k) (λi _=>s.size-(intOf i).toNat)
 case atStart=>exact⟨0,acp _,rfl,zc s⟩
 case round=>
  obtain⟨k,hk,rfl,ho⟩:=hrel;by_cases aI:k<s.size
  .go_wp2;all_goals first
    |(go_round
      case rel=>exact⟨k+1,ab,by go_num,za ho aI (by unfold D6;simp at*;omega)⟩
      case measure=>simp[intOf];omega)
    |(go_ret
      exact⟨bN (wC aI (by unfold D6;simp at*;omega)).symm,rfl⟩)
  .go_wp2;go_ret;exact⟨bN (yX hb.1 hb.2 (by rw[show s.size=k by omega];exact ho)).symm,rfl⟩
theorem AS (s:ByteArray)(w:World)(hs:s.size<=maxLen):
  Calls Tz.prog 72 #[s] w λe w'=>e=.returned (.bool (gM s))/\w'=w:=by
 by_cases h:iu s.size 1 8=true
 .exact AU s w hs h
 .exact Di s w qg
theorem qD (w:World)(s:ByteArray)(p:Nat):Below w w (w.iter s p):=
 (aca _ _).alloc (ack _) _
theorem Av (s:ByteArray)(w:World)(hb:1<=s.size/\s.size<=8):
  Calls Tz.prog 134 #[s] w λe w'=>e=.returned (.bool (gM s))/\Below w w w':=by
 go_enter Tz.func134,Tryz.ntmps134
 go_wp2;go_loopw [4] (λ_ w'=>∃pos:Nat,w'=w.iter s pos/\pos<=s.size/\IU s pos) (λ_ w'=>s.size-w'.iterPos w.heap.size)
 case atStart=>exact⟨0,rfl,acp _,zc s⟩
 case round=>
  obtain⟨pos,rfl,DY,ho⟩:=hrel;by_cases hp:pos<s.size
  .have UI:∀ty,(Instr.next (.pointer w.heap.size) true ty).run Tz.prog (w.iter s pos)=_:=λty=>run_next_any w s pos ty hp
   by_cases ha:(s[pos]'hp).toNat<128
   .have hd:=decode_ascii s pos hp ha;rw[hd]at UI;clear hd;by_cases fw:D6 ((s[pos]'hp).toNat:Int)=true
    .go_wp2_with(go_at_call 154;refine(wX _ _).mono ?_;rintro e w' ⟨rfl,rfl⟩)
     go_roundw
     case rel=>exact⟨pos+1,rfl,ab,za ho hp fw⟩
     case measure=>simp;omega
    .have OR:D6 ((s[pos]'hp).toNat:Int)=false:=by simpa using fw
     have Qy:gM s=false:=wC hp OR;clear fw;go_wp2_with(go_at_call 154;refine(wX _ _).mono ?_;rintro e w' ⟨rfl,rfl⟩)
     go_ret;exact⟨bN Qy.symm,qD _ _ _⟩
   .have hh:=decode_high s pos hp ab;have lp:D6 ((Utf8.decode s pos).1:Int)=false:=L0 ab;have Qy:gM s=false:=wC hp (L0 ab);go_wp2_with(go_at_call 154;refine(wX _ _).mono ?_;rintro e w' ⟨rfl,rfl⟩)
    go_ret;exact⟨bN Qy.symm,qD _ _ _⟩
  .have UI:∀ty,(Instr.next (.pointer w.heap.size) true ty).run Tz.prog (w.iter s pos)=_:=λty=>run_next_end w s pos ty hp
   go_wp2;go_ret;exact⟨bN (yX hb.1 hb.2 (by rw[show s.size=pos by omega];exact ho)).symm,qD _ _ _⟩
theorem Cq (s:ByteArray)(w:World)(hb:¬(1<=s.size/\s.size<=8)):
  Calls Tz.prog 134 #[s] w λe w'=>e=.returned (.bool (gM s))/\Below w w w':=by
 have hn:gM s=false:=by
  by_cases h1:1<=s.size
  .exact wA ab
  .exact uq h1
 by_cases h1:1<=s.size
 .have h8:8<s.size:=by omega
  go_enter Tz.func134,Tryz.ntmps134
  go_wp2;go_ret;first|exact⟨bN hn.symm,aca _ _⟩|exact⟨rfl,aca _ _⟩
 .go_enter Tz.func134,Tryz.ntmps134
  go_wp2;go_ret;first|exact⟨bN hn.symm,aca _ _⟩|exact⟨rfl,aca _ _⟩
theorem Au (s:ByteArray)(w:World):
  Calls Tz.prog 134 #[s] w λe w'=>e=.returned (.bool (gM s))/\Below w w w':=by
 by_cases hb:1<=s.size/\s.size<=8
 .exact Av s w hb
 .exact Cq s w hb
theorem nv (s:ByteArray)(l:Bool)(a b c d t:Int)(w:World):
  Calls Tz.prog 107 #[.agg #[s,l,a,b,c,d],t] w λe w'=>e=.returned (.bool (iu t b c))/\Below w w w':=by
 go_enter Tz.func107,Tryz.ntmps107
 go_wp2;all_goals go_ret
 all_goals exact⟨bN (by unfold iu;rw[Bool.eq_iff_iff];simp;omega),(aca _ _).alloc (ack _) _⟩
theorem C4 (s:ByteArray)(l:Bool)(a b c d:Int)(w:World):
  Calls Tz.prog 137 #[.agg #[s,l,a,b,c,d]] w λe w'=>e=.returned (.bool (wM b c d))/\Below w w w':=by
 by_cases hd:(d==-1)=true
 .go_enter Tz.func137,Tryz.ntmps137
  go_wp2;go_ret;exact⟨bN (by unfold wM;rw[hd];rfl),(aca _ _).alloc (ack _) _⟩
 .have La:(d==-1)=false:=by simpa using hd
  clear hd;go_enter Tz.func137,Tryz.ntmps137
  go_wp2_with(go_at_call 107;refine(nv _ _ _ _ _ _ _ _).mono ?_;rintro e w' ⟨rfl,hb⟩)
  go_ret;exact⟨bN (by unfold wM;rw[La];rfl),((aca _ _).alloc (ack _) _).trans (hb.mono aH)⟩
end
section
open RowKit
variable {W w1:World}
theorem jr {W w1:World}(hb:Below W W w1):(∀b o,b<W.heap.size->w1.cell? ⟨b,o,none⟩=W.cell? ⟨b,o,none⟩)/\(∀b o,b<W.heap.size->w1.frozen? ⟨b,o,none⟩=W.frozen? ⟨b,o,none⟩):=
 ⟨λb o h=>hb.cell (p:=⟨b,o,none⟩) h,λb o h=>hb.frozen (p:=⟨b,o,none⟩) h⟩
theorem kQ {w:World}(h:w.heap.size<W/\Below w w W)(hb:Below W W w1):w.heap.size<w1/\Below w w w1:=
 ⟨acl h.1 hb.size,h.2.trans (hb.mono (acE h.1))⟩
theorem nG (w:World)(o:Obj):w.heap.size<(w.alloc o).heap.size/\Below w w (w.alloc o):=⟨aH,(aca _ _).alloc (ack _) _⟩
theorem AR (s:ByteArray)(l:Bool)(a b c d:Int)(w:World)(hs:s.size<=maxLen):
  Calls Tz.prog 41 #[.agg #[s,l,a,b,c,d]] w λe w'=>e=.returned (.bool (tU s a b c d))/\Below w w w':=by
 go_enter Tz.func41,Tryz.ntmps41
 go_wp2_with(first|(go_at_call 72;refine(AS _ _ hs).mono ?_;rintro e w' ⟨rfl,rfl⟩)|(go_at_call 70;refine(gJ _ _ _ _).mono ?_;rintro e w' ⟨rfl,rfl⟩))
 all_goals go_ret
 all_goals exact⟨bN (by unfold tU wM;simp[*]<;>omega),(aca _ _).alloc (ack _) _⟩
theorem As (s:ByteArray)(l:Bool)(a b c d:Int)(w:World):
  Calls Tz.prog 106 #[.agg #[s,l,a,b,c,d]] w λe w'=>e=.returned (.bool (tU s a b c d))/\Below w w w':=by
 go_enter Tz.func106,Tryz.ntmps106
 go_wp2_with(first|(go_at_call 134;refine(Au _ _).mono ?_;rintro e w1 ⟨rfl,bF⟩;obtain⟨kJ,uQ⟩:=jr bF)|(go_at_call 135;refine(pH _ _).mono ?_;rintro e w' ⟨rfl,rfl⟩)|(go_at_call 136;refine(Mx _ _ _).mono ?_;rintro e w' ⟨rfl,rfl⟩)|(go_at_call 137;refine(C4 _ _ _ _ _ _ _).mono ?_;rintro e w2 ⟨rfl,cH⟩))
 all_goals go_ret
 all_goals refine⟨bN (by unfold tU;simp[*]),?_⟩
 all_goals first
  |exact((aca _ _).alloc (ack _) _).trans ((bF.mono aH).trans (cH.mono (by have:=bF.size;simp at this;omega)))
  |exact((aca _ _).alloc (ack _) _).trans (bF.mono aH)
end
section
open RowKit
variable {B b:Nat}{w w':World}
structure ti (w:World)(b o:Nat)(m:Mv):Prop where
 c0:w.cell? ⟨b,o,none⟩=some (.string m.name)
 c1:w.cell? ⟨b,o+1,none⟩=some (.bool m.an)
 c2:w.cell? ⟨b,o+2,none⟩=some (.int .i64 m.aD)
 c3:w.cell? ⟨b,o+3,none⟩=some (.int .i64 m.ba)
 c4:w.cell? ⟨b,o+4,none⟩=some (.int .i64 m.late)
 c5:w.cell? ⟨b,o+5,none⟩=some (.int .i64 m.prom)
def aM (w:World)(b off n:Nat)(f:Nat->Mv):Prop:=∀i,i<n->ti w b (off+i*6) (f i)
theorem ti.below {o:Nat}{m:Mv}(h:ti w b o m)(hb:Below B w w')(hB:b<B):ti w' b o m:=
 ⟨(hb.cell hB).trans h.c0,(hb.cell hB).trans h.c1,(hb.cell hB).trans h.c2,(hb.cell hB).trans h.c3,(hb.cell hB).trans h.c4,(hb.cell hB).trans h.c5⟩
theorem aM.below {off n:Nat}{f:Nat->Mv}(h:aM w b off n f)(hb:Below B w w')(hB:b<B):aM w' b off n f:=
 λi hi=>(h i hi).below hb hB
end
section
open RowKit
variable {w:World}{g:Nat}
def eU (w:World)(g o:Nat)(m:Mv):World:=
 (((((w.setCell ⟨g,o,none⟩ m.name).setCell ⟨g,o+1,none⟩ m.an).setCell ⟨g,o+2,none⟩ m.aD).setCell ⟨g,o+3,none⟩ m.ba).setCell ⟨g,o+4,none⟩ m.late).setCell ⟨g,o+5,none⟩ m.prom
theorem iV (w:World)(a b:Addr)(v:Value)(h:a≠b):(w.setCell a v).cell? b=w.cell? b:=World.cell?_setCell_other w a b v h
theorem Dh (w:World)(g o:Nat)(m:Mv)(j:Nat)(h:j<o\/o+6<=j):(eU w g o m).cell? ⟨g,j,none⟩=w.cell? ⟨g,j,none⟩:=by
 unfold eU;rw[iV _ _ _ _ qf,iV _ _ _ _ qf,iV _ _ _ _ qf,iV _ _ _ _ qf,iV _ _ _ _ qf,iV _ _ _ _ qf]
theorem gu (w:World)(g o:Nat)(m:Mv)(cs:Array Value)(t:TypeId)(hg:w.heap[g]?=some (.cells cs t (0,0)))(hs:o+6<=cs.size):ti (eU w g o m) g o m:=by
 have h0:=hg;have h1:=heap_setCell_same _ _ o _ _ m.name h0;have h2:=heap_setCell_same _ _ (o+1) _ _ m.an h1;have h3:=heap_setCell_same _ _ (o+2) _ _ m.aD h2;have h4:=heap_setCell_same _ _ (o+3) _ _ m.ba h3;have h5:=heap_setCell_same _ _ (o+4) _ _ m.late h4;have h6:=heap_setCell_same _ _ (o+5) _ _ m.prom h5;constructor<;>(unfold eU;rw[cell_of_row _ _ _ _ _ _ h6];simp[Array.getElem?_setIfInBounds];omega)
theorem uw {B:Nat}{a:World}(h:Below B a w)(hg:B<=g)(o:Nat)(m:Mv):Below B a (eU w g o m):=
 (((((h.setCell (by simpa using hg) _).setCell (by simpa using hg) _).setCell (by simpa using hg) _).setCell (by simpa using hg) _).setCell (by simpa using hg) _).setCell (by simpa using hg) _
def ZZ (w:World)(b n:Nat):Prop:=∃cs,w.heap[b]?=some (.cells cs 31 (0,0))/\cs.size=n*6
end
section
open RowKit
def aX (m:Mv)(tick now:Int):Mv:=if tick<now+4 then{m with prom:=tick}else m
theorem sL (m:Mv)(tick now:Int)(w:World)(h0:0<=now)(h1:now<=20000):
  Calls Tz.prog 79 #[.agg #[m.name,m.an,m.aD,m.ba,m.late,m.prom],tick,now] w λe w'=>e=.returned (.agg #[.string (aX m tick now).name,.bool (aX m tick now).an,.int .i64 (aX m tick now).aD,.int .i64 (aX m tick now).ba,.int .i64 (aX m tick now).late,.int .i64 (aX m tick now).prom])/\Below w w w':=by
 have Ao:IntKind.i64.wrap (now+4)=now+4:=gH;by_cases h:tick<now+4
 .have HP:Hid (aX m tick now={m with prom:=tick}):=by
   have h:aX m tick now={m with prom:=tick}:=by unfold aX;rw[if_pos h]
   exact h
  go_enter Tz.func79,Tryz.ntmps79
  go_wp2;refine bodyPost_ret (v:=.agg #[m.name,m.an,m.aD,m.ba,m.late,tick]) (by simp[results,Tryz.results79,go_sem]) rfl ⟨by rw[HP.out],?_⟩;repeat(first|exact aca _ _|refine acf ?_ qf _|refine ace ?_ qf _)
 .have HP:Hid (aX m tick now=m):=by
   have h:aX m tick now=m:=by unfold aX;rw[if_neg h]
   exact h
  go_enter Tz.func79,Tryz.ntmps79
  go_wp2;refine bodyPost_ret (v:=.agg #[m.name,m.an,m.aD,m.ba,m.late,m.prom]) (by simp[results,Tryz.results79,go_sem]) rfl ⟨by rw[HP.out],?_⟩;repeat(first|exact aca _ _|refine acf ?_ qf _|refine ace ?_ qf _)
end
