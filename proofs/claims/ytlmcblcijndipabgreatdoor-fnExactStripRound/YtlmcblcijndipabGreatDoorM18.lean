import Derived.Test.YtlmcblcijndipabGreatDoorM10
import Derived.Test.YtlmcblcijndipabGreatDoorM11
import Derived.Deep.Slices
import Derived.Test.YtlmcblcijndipabGreatDoorRows
import Derived.Test.YtlmcblcijndipabGreatDoorM15
import Derived.OpenShut
import Derived.ShutString
import Derived.ChangeOld
import Derived.Below
set_option linter.unusedVariables false
set_option maxHeartbeats 1000000
set_option maxRecDepth 100000
namespace Go.Proofs.YtlmcblcijndipabGreatDoor
open Go.RowKit
theorem vr (m:Mv)(w:World):
  Calls Tryz0.prog 67 #[.agg #[.string m.name,.bool m.lands,.int .i64 m.wake,.int .i64 m.est,.int .i64 m.late,.int .i64 m.prom],.agg #[.string m.name,.bool m.lands,.int .i64 m.wake,.int .i64 m.est,.int .i64 m.late,.int .i64 m.prom]] w λe w'=>e=.returned (.bool true)/\Below w.heap.size w w':=by
 go_enter Tryz0.func67,Tryz.ntmps67
 go_wp2;go_ret;exact⟨rfl,((Below.refl _ _).alloc (Nat.le_refl _) _).alloc (by simp) _⟩
theorem xJ (b off cap b' off' cap' n:Nat)(f:Nat->Mv)(w:World)(hn:n<=1048576)(hbs:b<w.heap.size)(hrow:an w b off n f)(hbs':b'<w.heap.size)(hrow':an w b' off' n f):
  Calls Tryz0.prog 40 #[.slice (some ⟨b,off,none⟩) n cap,.slice (some ⟨b',off',none⟩) n cap'] w λe w'=>e=.returned (.bool true)/\Below w.heap.size w w':=by
 go_enter Tryz0.func40,Tryz.ntmps40
 go_wp2;go_loopw [5] (λi w'=>∃k:Nat,k<=n/\i=.int .i64 k/\Below w.heap.size w w') (λi _=>n-(intOf i).toNat)
 case atStart=>exact⟨0,Nat.zero_le _,rfl,Below.refl _ _⟩
 case round=>
  obtain⟨k,hk,rfl,hB⟩:=hrel;by_cases hlt:k<n
  .have hr:=hrow.below hB hbs k hlt;have hr':=hrow'.below hB hbs' k hlt;have hlt':(k:Int)<n:=by omega
   have hne:=aq wr;have c0:=λx:ag wr=>x.cell hr.c0
   have c1:=λx:ag wr=>x.cell hr.c1
   have c2:=λx:ag wr=>x.cell hr.c2
   have c3:=λx:ag wr=>x.cell hr.c3
   have c4:=λx:ag wr=>x.cell hr.c4
   have c5:=λx:ag wr=>x.cell hr.c5
   have d0:=λx:ag wr=>x.cell hr'.c0
   have d1:=λx:ag wr=>x.cell hr'.c1
   have d2:=λx:ag wr=>x.cell hr'.c2
   have d3:=λx:ag wr=>x.cell hr'.c3
   have d4:=λx:ag wr=>x.cell hr'.c4
   have d5:=λx:ag wr=>x.cell hr'.c5
   go_wp2;refine ae (by kernel_rfl) (by kernel_rfl) ?_;repeat(go_big_quiet_step ((go_at_call 67;exact aA (vr (f k) _))))
   refine wpQuiet_nil (ak ?_);intro w1 hb1;go_wp2;go_roundw
   case rel=>exact⟨k+1,by omega,by go_num,hB.trans (hb1.mono hB.size)⟩
   case measure=>simp[intOf];omega
  .go_wp2;go_ret;exact⟨rfl,hB⟩
end Go.Proofs.YtlmcblcijndipabGreatDoor
namespace Go.Proofs.YtlmcblcijndipabGreatDoor
open Go.ChangeShapes Go.WideShapes Go.RowKit Go.Deep
theorem nu:Tryz.prog.cellsOf 27=6:=by kernel_rfl
theorem qb:Tryz.prog.cellsOf 9=1:=by kernel_rfl
theorem tj:Tryz.prog.cellsOf 4=1:=by kernel_rfl
theorem iT:Tryz.prog.cellsOf 3=1:=by kernel_rfl
section
variable {H:Type}{enc:TypeId×Value->H}{w:World}{base:Nat}{spare:Nat->Bool}{held:Bool}
theorem vt {n:Nat}{cs:List Value}{x:DataW H×List MemPlace}(h:DataW.trod enc Tryz.prog w base spare held n 27 cs=some x):
  ∃m:Mv,m.Fits/\cs=m.cells.toList:=by
 obtain⟨xs,k,_,rfl,hl,hlen,hf⟩:=DataW.trod_struct Tryz.underlying27 h;rw[nu]at hl;match cs,hl with
 |[c0,c1,c2,c3,c4,c5],_=>
 match xs,hlen with
 |[y0,y1,y2,y3,y4,y5],_=>
 have h0:=hf 0 _ rfl;have h1:=hf 1 _ rfl;have h2:=hf 2 _ rfl;have h3:=hf 3 _ rfl;have h4:=hf 4 _ rfl;have h5:=hf 5 _ rfl;simp[qb,tj,iT]at h0 h1 h2 h3 h4 h5;obtain⟨s,e0,_,hs⟩:=DataW.trod_string Tryz.underlying9 h0;obtain⟨l,e1,_⟩:=DataW.trod_bool Tryz.underlying4 h1;obtain⟨a,e2,_,ha⟩:=DataW.trod_int Tryz.underlying3 h2;obtain⟨b,e3,_,hb⟩:=DataW.trod_int Tryz.underlying3 h3;obtain⟨c,e4,_,hc⟩:=DataW.trod_int Tryz.underlying3 h4;obtain⟨d,e5,_,hd⟩:=DataW.trod_int Tryz.underlying3 h5;simp at e0 e1 e2 e3 e4 e5;subst e0 e1 e2 e3 e4 e5;exact⟨⟨s,l,a,b,c,d⟩,⟨hs,ha,hb,hc,hd⟩,rfl⟩
end
end Go.Proofs.YtlmcblcijndipabGreatDoor
namespace Go.Proofs.YtlmcblcijndipabGreatDoor
open Go.ChangeShapes Go.WideShapes Go.ChangeAt Go.RowKit
theorem own:ownKnob Tryz.prog.godebug=none:=by kernel_rfl
theorem uk:laidOutB Tryz.prog=true:=by kernel_rfl
def dR (w:World)(a:Option Addr)(n cap:Nat)(f:Nat->Mv):Prop:=
 n<=maxLen/\(n=0\/∃b off,a=some ⟨b,off,none⟩/\b<w.heap.size/\an w b off n f)/\∀i,i<n->(f i).Fits
theorem y9 (a:Option Addr)(n cap:Nat)(f:Nat->Mv)(left:Int)(w:World)(h:dR w a n cap f)(h0:0<=left)(h1:left<=1048576):
  Calls Tryz0.prog 28 #[.slice a n cap,.int .i64 left] w λe w'=>(∃r:Int,e=.returned (.int .i64 r)/\(r=-1\/0<=r/\r+n<=left))/\Below w.heap.size w w':=by
 obtain⟨hn,hz|⟨b,off,rfl,hb,hrow⟩,hf⟩:=h
 .subst hz;exact wK a cap left w h0 h1
 .exact yD b off n cap f left w hn hb hrow hf h0 h1
theorem tl (a:Option Addr)(n cap:Nat)(f:Nat->Mv)(w:World)(h:dR w a n cap f)(hn:n<=1048576):
  Calls Tryz0.prog 37 #[.slice a n cap] w λe w'=>e=.returned (.slice (some ⟨w.heap.size,0,none⟩) n n)/\an w' w.heap.size 0 n f/\eD w' w.heap.size n/\Below w.heap.size w w':=by
 obtain⟨_,hz|⟨b,off,rfl,hb,hrow⟩,hf⟩:=h
 .subst hz;exact qQ a cap f w
 .exact yI b off n cap f w hn hb hrow
theorem dR.below {w w':World}{a:Option Addr}{n cap:Nat}{f:Nat->Mv}(h:dR w a n cap f)(hb:Below w.heap.size w w'):dR w' a n cap f:=by
 obtain⟨hn,hz|⟨b,off,rfl,hlt,hrow⟩,hf⟩:=h
 .exact⟨hn,.inl hz,hf⟩
 .exact⟨hn,.inr ⟨b,off,rfl,Nat.lt_of_lt_of_le hlt hb.size,hrow.below hb hlt⟩,hf⟩
theorem tm {H:Type}{enc:TypeId×Value->H}{w:World}{a:Option Addr}{n cap:Nat}{d:DataW H}{p:List MemPlace}(h:DataW.Trod enc Tryz.prog w 0 (λ_=>true) true 22 (.slice a n cap) d p):
  ∃f,dR w a n cap f:=by
 obtain⟨fuel,hf⟩:=h;rcases Deep.open_slice Tryz.underlying22 hf with⟨hcs,_⟩|⟨x,l,c,m,k,D,Pl,hcs,_,hl,hm,hmm,_,hel⟩
 .simp[Value.cells]at hcs;obtain⟨rfl,rfl,rfl⟩:=hcs;exact⟨λ_=>⟨ByteArray.empty,false,0,0,0,0⟩,Nat.zero_le _,.inl rfl,λi hi=>absurd hi (Nat.not_lt_zero _)⟩
 .simp[Value.cells]at hcs;obtain⟨rfl,rfl,rfl⟩:=hcs;simp only[if_true]at hmm;subst hmm;have hi:Inhabited Mv:=⟨⟨ByteArray.empty,false,0,0,0,0⟩⟩;have hall:∀i,i<n->∃m:Mv,m.Fits/\w.cells? 0 (x.add (i*6)) 6=some m.cells.toList:=by
   intro i hin;obtain⟨cs',h1,h2⟩:=hel i (by omega);obtain⟨m,hm,rfl⟩:=vt h2;rw[nu]at h1;exact⟨m,hm,h1⟩
  obtain⟨f,hf'⟩:=Deep.choose_lt hall;refine⟨f,by omega,?_,λi hin=>(hf' i hin).1⟩;by_cases hz:n=0
  .exact .inl hz
  .right;obtain⟨b,off,spot⟩:=x;have hc:∀i,i<n->∀j,j<6->w.cell? ((Addr.mk b off spot).add (i*6)|>.add j)=(f i).cells.toList[j]?:=by
    intro i hin j hj;obtain⟨_,hlen,hcell⟩:=World.cells?_some (hf' i hin).2;exact hcell j hj
   have h00:=hc 0 (by omega) 0 (by omega);have hspot:spot=none:=by
    have:=World.cell?_spot (a:=(Addr.mk b off spot)) (v:=.string (f 0).name) (by simpa[Addr.add]using h00);simpa using this
   subst hspot;refine⟨b,off,rfl,?_,?_⟩
   .have:=block_lt_of_cell (w:=w) (a:=⟨b,off,none⟩) (v:=.string (f 0).name) (by simpa[Addr.add]using h00);exact this
   .intro i hin;have q:∀j,j<6->w.cell? ⟨b,off+i*6+j,none⟩=(f i).cells.toList[j]?:=by
     intro j hj;have:=hc i hin j hj;rw[Deep.add_add]at this;simpa[add_plain,Nat.add_assoc]using this
    exact⟨q 0 (by omega),q 1 (by omega),q 2 (by omega),q 3 (by omega),q 4 (by omega),q 5 (by omega)⟩
theorem vu {H:Type}{enc:TypeId×Value->H}{w:World}{a:Option Addr}{n cap:Nat}{d:DataW H}{p:List MemPlace}(h:DataW.Trod enc Tryz.prog w 0 (λ_=>true) true 23 (.slice a n cap) d p):
  ∃g,cI w a n g:=by
 obtain⟨fuel,hf⟩:=h;rcases Deep.open_slice1 Tryz.underlying23 iT hf with⟨hcs,_⟩|⟨x,l,c,m,k,V,D,Pl,hcs,_,hl,hm,hmm,_,hel⟩
 .simp[Value.cells]at hcs;obtain⟨rfl,rfl,rfl⟩:=hcs;exact⟨λ_=>0,Nat.zero_le _,.inl rfl,λi hi=>absurd hi (Nat.not_lt_zero _)⟩
 .simp[Value.cells]at hcs;obtain⟨rfl,rfl,rfl⟩:=hcs;simp only[if_true]at hmm;subst hmm;have hall:∀i,i<n->∃z:Int,w.cell? (x.add i)=some (.int .i64 z)/\(Lit.int .i64 z).wf=true:=by
   intro i hin;obtain⟨h1,h2⟩:=hel i (by omega);obtain⟨z,hz,_,hwf⟩:=DataW.trod_int Tryz.underlying3 h2;simp at hz;exact⟨z,by rw[h1,hz],hwf⟩
  obtain⟨g,hg⟩:=Deep.choose_lt hall;refine⟨g,by omega,?_,λi hi=>(hg i hi).2⟩;by_cases hz:n=0
  .exact .inl hz
  .right;obtain⟨b,off,spot⟩:=x;have h00:=(hg 0 (by omega)).1;have hspot:spot=none:=by
    have:=World.cell?_spot (a:=(Addr.mk b off spot)) (v:=.int .i64 (g 0)) (by simpa[Addr.add]using h00);simpa using this
   subst hspot;refine⟨b,off,rfl,?_,?_⟩
   .exact block_lt_of_cell (w:=w) (a:=⟨b,off,none⟩) (v:=.int .i64 (g 0)) (by simpa[Addr.add]using h00)
   .intro i hin;have:=(hg i hin).1;simpa[add_plain]using this
end Go.Proofs.YtlmcblcijndipabGreatDoor
