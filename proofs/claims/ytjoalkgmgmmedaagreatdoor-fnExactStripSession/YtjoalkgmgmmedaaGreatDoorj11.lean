import Derived.Test.YtjoalkgmgmmedaaGreatDoorj05
import Derived.Test.YtjoalkgmgmmedaaGreatDoorj10
import Derived.ProofKit
import Derived.WalkLawsBesides
import Derived.Deep.RegionHeld3
import Derived.Deep.RegionLaw
import Derived.Deep.Slices
set_option linter.unusedVariables false
set_option linter.defProp false
set_option maxHeartbeats 400000
set_option maxRecDepth 1000000
open Go renaming World->ac,Calls->ai,maxLen->ao,bodyPost_ret->au
open Go.Ending renaming returned->aa
open Go.RowKit renaming Below->ad
namespace Go.Proofs.YtjoalkgmgmmedaaGreatDoor
open RowKit
variable {p:Prop}{W w w1:ac}
def cY {a b:Bool}(h:a=b):aa a=aa b:=by rw[h]
def H' (x9:p:=by
  go_wp2<;>go_ret<;>exact⟨cY (by unfold jj;rw[Bool.eq_iff_iff];simp;omega),rfl⟩):p:=x9
def gL (n a c:Int)(w):
  ai Tz.prog 59 #[n,a,c] w λe w'=>e=aa (jj n a c)/\w'=w:=by
 go_enter Tz.func59,Tryz.ntmps59
 exact H'
def AL (n:Int)(w):
  ai Tz.prog 162 #[n] w λe w'=>e=aa (jj n 1 3)/\w'=w:=by
 go_enter Tz.func162,Tryz.ntmps162
 exact H'
def Rc (a b:Int)(w):
  ai Tz.prog 163 #[a,b] w λe w'=>e=aa (.bool<|jj a 0 b&&decide (b<=10000))/\w'=w:=by
 go_enter Tz.func163,Tryz.ntmps163
 exact H'
def Ay r (w):
  ai Tz.prog 176 #[.int .i32 r] w λe w'=>e=aa (okB r)/\w'=w:=by
 go_enter Tz.func176,Tryz.ntmps176
 go_wp2<;>go_ret<;>exact⟨cY (by unfold okB;rw[Bool.eq_iff_iff];simp;omega),rfl⟩
def G6 (s:ByteArray)(w)(h:jj s.size 1 8=false):
  ai Tz.prog 61 #[s] w λe w'=>e=aa (jF s)/\w'=w:=by
 have a:jF s=false:=by
  unfold jj at h;exact if h1:1<=s.size then zW gC else wT h1
 go_enter Tz.func61,Tryz.ntmps61
 go_wp2_with(go_at_call 59;refine(gL _ _ _ _).mono ?_;rintro e w' ⟨rfl,rfl⟩)
 go_ret;simp_all
def EG (s:ByteArray)(w)(f:s.size<=ao)(j:jj s.size 1 8):
  ai Tz.prog 61 #[s] w λe w'=>e=aa (jF s)/\w'=w:=by
 unfold ao at f;have a:1<=s.size/\s.size<=8:=by have l:=j;grind [jj]
 go_enter Tz.func61,Tryz.ntmps61
 go_wp2_with(go_at_call 59;refine(gL _ _ _ _).mono ?_;rintro e w' ⟨rfl,rfl⟩)
 go_loop [3,4] (λi _=>∃k:Nat,k<=s.size/\i=.int .i64 k/\MY s k) (λi _=>s.size-(intOf i).toNat)
 .exact⟨0,afP _,rfl,CK s⟩
 obtain⟨k,m,rfl,c⟩:=hrel;by_cases d:k<s.size
 .go_wp2;all_goals first
   |(go_round
     case rel=>exact⟨k+1,ab,cO,CJ c d<|by grind [okB]⟩
     case measure=>simp[intOf];omega)
   |(go_ret
     exact⟨cY (zX d<|by unfold okB;simp at*;omega).symm,rfl⟩)
 go_wp2;go_ret;exact⟨cY (CI a.1 a.2<|by rw[show s.size=k by omega];exact c).symm,rfl⟩
def EF (s:ByteArray)(w)(a:s.size<=ao):
  ai Tz.prog 61 #[s] w λe w'=>e=aa (jF s)/\w'=w:=if h:jj s.size 1 8=true then EG s w a h else G6 s w Iv
def sH (w:ac)(s) p:ad w w (w.iter s p):=
 (afB _ _).alloc (afK _) _
def Ei (s:ByteArray)(w)(i:1<=s.size/\s.size<=8):
  ai Tz.prog 161 #[s] w λe w'=>e=aa (jF s)/\ad w w w':=by
 go_enter Tz.func161,Tryz.ntmps161
 go_wp2;go_loopw [4] (λ_ w'=>∃a:Nat,w'=w.iter s a/\a<=s.size/\MY s a) (λ_ w'=>s.size-w'.iterPos w.heap.size)
 .exact⟨0,rfl,afP _,CK s⟩
 obtain⟨a,rfl,k,j⟩:=hrel;by_cases c:a<s.size
 .have f:∀d,(Instr.next (.pointer w.heap.size) true d).run Tz.prog (w.iter s a)=_:=λd=>run_next_any w s a d c
  by_cases l:(s[a]'c).toNat<128
  .rw[(decode_ascii s a c l)]at f;by_cases m:okB ((s[a]'c).toNat:Int)=true
   .go_wp2_with(go_at_call 176;refine(Ay _ _).mono ?_;rintro e w' ⟨rfl,rfl⟩)
    go_roundw
    .exact⟨a+1,rfl,ab,CJ j c m⟩
    simp;omega
   have n:okB ((s[a]'c).toNat:Int)=false:=cO
   go_wp2_with(go_at_call 176;refine(Ay _ _).mono ?_;rintro e w' ⟨rfl,rfl⟩)
   go_ret;exact⟨cY (zX c n).symm,sH _ _ _⟩
  have o:=decode_high s a c ab;have q:okB ((Utf8.decode s a).1:Int)=false:=QE ab;go_wp2_with(go_at_call 176;refine(Ay _ _).mono ?_;rintro e w' ⟨rfl,rfl⟩)
  go_ret;exact⟨cY (zX c<|QE ab).symm,sH _ _ _⟩
 have f:∀d,(Instr.next (.pointer w.heap.size) true d).run Tz.prog (w.iter s a)=_:=λd=>run_next_end w s a d c
 go_wp2;go_ret;exact⟨cY (CI i.1 i.2<|by rw[show s.size=a by omega];exact j).symm,sH _ _ _⟩
def acp (x9:p:=by
  go_enter Tz.func161,Tryz.ntmps161
  go_wp2;go_ret;first|exact⟨cY hn.symm,afB _ _⟩|exact⟨rfl,afB _ _⟩):p:=x9
def FQ (s:ByteArray)(w)(c:¬(1<=s.size/\s.size<=8)):
  ai Tz.prog 161 #[s] w λe w'=>e=aa (jF s)/\ad w w w':=by
 have hn:jF s=false:=by
  exact if a:1<=s.size then zW ab else wT a
 by_cases a:1<=s.size
 .have d:8<s.size:=by omega
  exact acp
 exact acp
def Eh (s:ByteArray)(w):
  ai Tz.prog 161 #[s] w λe w'=>e=aa (jF s)/\ad w w w':=if hb:1<=s.size/\s.size<=8 then Ei s w hb else FQ s w hb
def zD (s:ByteArray)(l:Bool)(a b c d t:Int)(w):
  ai Tz.prog 138 #[.agg #[s,l,a,b,c,d],t] w λe w'=>e=aa (jj t b c)/\ad w w w':=by
 go_enter Tz.func138,Tryz.ntmps138
 go_wp2<;>go_ret<;>exact⟨cY (by unfold jj;rw[Bool.eq_iff_iff];simp;omega),(afB _ _).alloc ab _⟩
def GM (s:ByteArray)(l:Bool)(a b c d:Int)(w):
  ai Tz.prog 164 #[.agg #[s,l,a,b,c,d]] w λe w'=>e=aa (Ah b c d)/\ad w w w':=by
 by_cases q:(d==-1)=true
 .go_enter Tz.func164,Tryz.ntmps164
  go_wp2;go_ret;exact⟨cY<|by grind [Ah],(afB _ _).alloc ab _⟩
 have f:(d==-1)=false:=cO;go_enter Tz.func164,Tryz.ntmps164
 go_wp2_with(go_at_call 138;refine(zD _ _ _ _ _ _ _ _).mono ?_;rintro e w' ⟨rfl,hb⟩)
 go_ret;exact⟨cY<|by grind [Ah],((afB _ _).alloc ab _).trans<|hb.mono aP⟩
def mJ (c:ad W W w1):(∀b o,b<W.heap.size->w1.cell? ⟨b,o,none⟩=W.cell? ⟨b,o,none⟩)/\(∀b o,b<W.heap.size->w1.frozen? ⟨b,o,none⟩=W.frozen? ⟨b,o,none⟩):=
 ⟨λb o h=>c.cell (p:=⟨b,o,none⟩) h,λb o h=>c.frozen (p:=⟨b,o,none⟩) h⟩
def qG (h:w.heap.size<W/\ad w w W)(hb:ad W W w1):w.heap.size<w1/\ad w w w1:=
 ⟨afL h.1 hb.size,h.2.trans<|hb.mono<|af2 h.1⟩
def uG (w:ac)(o):w<(w.alloc o).heap.size/\ad w w (w.alloc o):=⟨aP,(afB _ _).alloc (afK _) _⟩
def EE (s:ByteArray)(l:Bool)(a b c d:Int)(w)(hs:s.size<=ao):
  ai Tz.prog 36 #[.agg #[s,l,a,b,c,d]] w λe w'=>e=aa (moveB s a b c d)/\ad w w w':=by
 go_enter Tz.func36,Tryz.ntmps36
 go_wp2_with(first|(go_at_call 61;refine(EF _ _ hs).mono ?_;rintro e w' ⟨rfl,rfl⟩)|(go_at_call 59;refine(gL _ _ _ _).mono ?_;rintro e w' ⟨rfl,rfl⟩))
 all_goals go_ret
 all_goals exact⟨cY<|by grind [moveB,Ah],(afB _ _).alloc (afK _) _⟩
def Eg (s:ByteArray)(l:Bool)(a b c d:Int)(w):
  ai Tz.prog 137 #[.agg #[s,l,a,b,c,d]] w λe w'=>e=aa (moveB s a b c d)/\ad w w w':=by
 go_enter Tz.func137,Tryz.ntmps137
 go_wp2_with(first|(go_at_call 161;refine(Eh _ _).mono ?_;rintro e w1 ⟨rfl,f⟩;let⟨q,r⟩:=mJ f)|(go_at_call 162;refine(AL _ _).mono ?_;rintro e w' ⟨rfl,rfl⟩)|(go_at_call 163;refine(Rc _ _ _).mono ?_;rintro e w' ⟨rfl,rfl⟩)|(go_at_call 164;refine(GM _ _ _ _ _ _ _).mono ?_;rintro e t ⟨rfl,dg⟩))
 all_goals go_ret
 all_goals refine⟨cY<|by grind [moveB],?_⟩
 all_goals first
  |exact((afB _ _).alloc ab _).trans ((f.mono aP).trans<|dg.mono (by have:=f.size;simp at this;omega))
  |exact((afB _ _).alloc ab _).trans<|f.mono aP
section
variable {B b:Nat}{w':ac}
structure xB (w:ac)(b o)(m:Mv):Prop where
 c0:w.cell? ⟨b,o,none⟩=some (.string m.name)
 c1:w.cell? ⟨b,o+1,none⟩=some (.bool m.ax)
 c2:w.cell? ⟨b,o+2,none⟩=some (.int .i64 m.aI)
 c3:w.cell? ⟨b,o+3,none⟩=some (.int .i64 m.cE)
 c4:w.cell? ⟨b,o+4,none⟩=some (.int .i64 m.late)
 c5:w.cell? ⟨b,o+5,none⟩=some (.int .i64 m.prom)
def aK (w:ac)(b off n:Nat)(f:Nat->Mv):Prop:=∀i,i<n->xB w b (off+i*6) (f i)
def xB.below {o m}(h:xB w b o m)(c:ad B w w')(d:b<B):xB w' b o m:=
 ⟨(c.cell d).trans h.c0,(c.cell d).trans h.c1,(c.cell d).trans h.c2,(c.cell d).trans h.c3,(c.cell d).trans h.c4,(c.cell d).trans h.c5⟩
def aK.below {off n f}(h:aK w b off n f)(hb:ad B w w')(r:b<B):aK w' b off n f:=
 λi s=>(h i s).below hb r
end
section
variable {g:Nat}
def aeu (w:ac)(g o:Nat)(m:Mv):World:=
 (((((w.setCell ⟨g,o,none⟩ m.name).setCell ⟨g,o+1,none⟩ m.ax).setCell ⟨g,o+2,none⟩ m.aI).setCell ⟨g,o+3,none⟩ m.cE).setCell ⟨g,o+4,none⟩ m.late).setCell ⟨g,o+5,none⟩ m.prom
def acL (w:ac)(b n:Nat):Prop:=∃a,w.heap[b]?=some (.cells a 55 (0,0))/\a.size=n*6
end
def bT (m:Mv)(a now:Int):Mv:=if a<now+4 then{m with prom:=a}else m
def XK (x9:p:=by
  repeat(first|exact afB _ _|refine afF ?_ LZ _|refine afE ?_ LZ _)):p:=x9
def uK (m)(a now:Int)(w)(d:0<=now)(f:now<=20000):
  ai Tz.prog 107 #[.agg #[m.name,m.ax,m.aI,m.cE,m.late,m.prom],a,now] w λe w'=>e=aa (.agg #[.string (bT m a now).name,.bool (bT m a now).ax,.int .i64 (bT m a now).aI,.int .i64 (bT m a now).cE,.int .i64 (bT m a now).late,.int .i64 (bT m a now).prom])/\ad w w w':=by
 have i:IntKind.i64.wrap (now+4)=now+4:=kw;by_cases h:a<now+4
 .have c:Hid (bT m a now={m with prom:=a}):=by
   have h:bT m a now={m with prom:=a}:=by unfold bT;grind
   exact h
  go_enter Tz.func107,Tryz.ntmps107
  go_wp2;refine au (v:=.agg #[m.name,m.ax,m.aI,m.cE,m.late,a]) (by simp[results,go_sem]) rfl ⟨by rw[c.out],?_⟩;exact XK
 have c:Hid (bT m a now=m):=by
  have h:bT m a now=m:=by unfold bT;grind
  exact h
 go_enter Tz.func107,Tryz.ntmps107
 go_wp2;refine au (v:=.agg #[m.name,m.ax,m.aI,m.cE,m.late,m.prom]) (by simp[results,Tryz.results107,go_sem]) rfl ⟨by rw[c.out],?_⟩;exact XK
