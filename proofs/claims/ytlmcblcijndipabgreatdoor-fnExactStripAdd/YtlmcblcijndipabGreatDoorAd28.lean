import Derived.Test.YtlmcblcijndipabGreatDoorAd23
import Derived.Test.YtlmcblcijndipabGreatDoorAd18
import Derived.Test.YtlmcblcijndipabGreatDoorRows
import Derived.OpenShut
import Derived.ShutString
set_option linter.unusedVariables false
set_option maxHeartbeats 1000000
set_option maxRecDepth 100000
namespace Go.Proofs.YtlmcblcijndipabGreatDoor
section
open Go.RowKit
theorem yv (m:Mv)(w:World):
  Calls Tz.prog 67 #[.agg #[.string m.name,.bool m.lands,.int .i64 m.wake,.int .i64 m.est,.int .i64 m.late,.int .i64 m.prom],.agg #[.string m.name,.bool m.lands,.int .i64 m.wake,.int .i64 m.est,.int .i64 m.late,.int .i64 m.prom]] w λe w'=>e=.returned (.bool true)/\Below w.heap.size w w':=by
 go_enter Tz.func67,Tryz.ntmps67
 go_wp2;go_ret;exact⟨rfl,((Gb _ _).alloc (Gm _) _).alloc (by simp) _⟩
theorem Au (b off cap b' off' cap' n:Nat)(f:Nat->Mv)(w:World)(hn:n<=1048576)(hbs:b<w.heap.size)(hrow:ak w b off n f)(hbs':b'<w.heap.size)(hrow':ak w b' off' n f):
  Calls Tz.prog 40 #[.slice (some ⟨b,off,none⟩) n cap,.slice (some ⟨b',off',none⟩) n cap'] w λe w'=>e=.returned (.bool true)/\Below w.heap.size w w':=by
 go_enter Tz.func40,Tryz.ntmps40
 go_wp2;go_loopw [5] (λi w'=>∃k:Nat,k<=n/\i=.int .i64 k/\Below w.heap.size w w') (λi _=>n-(intOf i).toNat)
 case atStart=>exact⟨0,Gs _,rfl,Gb _ _⟩
 case round=>
  obtain⟨k,hk,rfl,hB⟩:=hrel;by_cases hlt:k<n
  .have hr:=hrow.below hB hbs k hlt;have hr':=hrow'.below hB hbs' k hlt;have hlt':(k:Int)<n:=by omega
   have hne:=ay wr;have c0:=λx:ag wr=>x.cell hr.c0
   have c1:=λx:ag wr=>x.cell hr.c1
   have c2:=λx:ag wr=>x.cell hr.c2
   have c3:=λx:ag wr=>x.cell hr.c3
   have c4:=λx:ag wr=>x.cell hr.c4
   have c5:=λx:ag wr=>x.cell hr.c5
   have d0:=λx:ag wr=>x.cell hr'.c0
   have d1:=λx:ag wr=>x.cell hr'.c1
   have d2:=λx:ag wr=>x.cell hr'.c2
   have d3:=λx:ag wr=>x.cell hr'.c3
   have d4:=λx:ag wr=>x.cell hr'.c4
   have d5:=λx:ag wr=>x.cell hr'.c5
   go_wp2;refine af (by kernel_rfl) (by kernel_rfl) ?_;repeat(go_big_quiet_step ((go_at_call 67;exact aE (yv (f k) _))))
   refine wpQuiet_nil (ai ?_);intro w1 hb1;go_wp2;go_roundw
   case rel=>exact⟨k+1,by omega,by go_num,hB.trans (hb1.mono hB.size)⟩
   case measure=>simp[intOf];omega
  .go_wp2;go_ret;exact⟨rfl,hB⟩
end
section
open Go.ChangeShapes Go.WideShapes Go.RowKit Go.Deep
theorem pn:Tryz.prog.cellsOf 27=6:=by kernel_rfl
theorem sr:Tryz.prog.cellsOf 9=1:=by kernel_rfl
theorem vH:Tryz.prog.cellsOf 4=1:=by kernel_rfl
theorem jN:Tryz.prog.cellsOf 3=1:=by kernel_rfl
section
variable {H:Type}{enc:TypeId×Value->H}{w:World}{base:Nat}{spare:Nat->Bool}{held:Bool}
theorem qH {n:Nat}{cs:List Value}{x:DataW H×List MemPlace}(h:DataW.trod enc Tryz.prog w base spare held n 27 cs=some x):
  ∃m:Mv,m.Fits/\cs=m.cells.toList:=by
 obtain⟨xs,k,_,rfl,hl,hlen,hf⟩:=DataW.trod_struct Tryz.underlying27 h;rw[pn]at hl;match cs,hl with
 |[c0,c1,c2,c3,c4,c5],_=>
 match xs,hlen with
 |[y0,y1,y2,y3,y4,y5],_=>
 have h0:=hf 0 _ rfl;have h1:=hf 1 _ rfl;have h2:=hf 2 _ rfl;have h3:=hf 3 _ rfl;have h4:=hf 4 _ rfl;have h5:=hf 5 _ rfl;simp[sr,vH,jN]at h0 h1 h2 h3 h4 h5;obtain⟨s,e0,_,hs⟩:=DataW.trod_string Tryz.underlying9 h0;obtain⟨l,e1,_⟩:=DataW.trod_bool Tryz.underlying4 h1;obtain⟨a,e2,_,ha⟩:=DataW.trod_int Tryz.underlying3 h2;obtain⟨b,e3,_,hb⟩:=DataW.trod_int Tryz.underlying3 h3;obtain⟨c,e4,_,hc⟩:=DataW.trod_int Tryz.underlying3 h4;obtain⟨d,e5,_,hd⟩:=DataW.trod_int Tryz.underlying3 h5;simp at e0 e1 e2 e3 e4 e5;subst e0 e1 e2 e3 e4 e5;exact⟨⟨s,l,a,b,c,d⟩,⟨hs,ha,hb,hc,hd⟩,rfl⟩
theorem yw {v:Value}{d:DataW H}{p:List MemPlace}{r:Reach}{b0:Nat}(hv:Value.okWide Tryz.prog w r b0 27 v)(h:DataW.Trod enc Tryz.prog w base spare held 27 v d p):
  ∃m:Mv,m.Fits/\v=.agg m.cells:=by
 obtain⟨cs,rfl,hsz⟩:=okWide_struct Tryz.underlying27 hv;obtain⟨n,hn⟩:=h;obtain⟨m,hm,he⟩:=qH hn;refine⟨m,hm,?_⟩;simp only[Value.cells]at he;congr 1;exact Array.toList_inj.mp he
end
end
section
open Go.ChangeShapes Go.WideShapes Go.ChangeAt Go.RowKit
theorem own:ownKnob Tryz.prog.godebug=none:=by kernel_rfl
theorem wW:laidOutB Tryz.prog=true:=by kernel_rfl
def dp (w:World)(a:Option Addr)(n cap:Nat)(f:Nat->Mv):Prop:=
 n<=maxLen/\(n=0\/∃b off,a=some ⟨b,off,none⟩/\b<w.heap.size/\ak w b off n f)/\∀i,i<n->(f i).Fits
theorem Cc (a:Option Addr)(n cap:Nat)(f:Nat->Mv)(left:Int)(w:World)(h:dp w a n cap f)(h0:0<=left)(h1:left<=1048576):
  Calls Tz.prog 28 #[.slice a n cap,.int .i64 left] w λe w'=>(∃r:Int,e=.returned (.int .i64 r)/\(r=-1\/0<=r/\r+n<=left))/\Below w.heap.size w w':=by
 obtain⟨hn,hz|⟨b,off,rfl,hb,hrow⟩,hf⟩:=h
 .subst hz;exact yQ a cap left w h0 h1
 .exact AN b off n cap f left w hn hb hrow hf h0 h1
theorem vI (a:Option Addr)(n cap:Nat)(f:Nat->Mv)(w:World)(h:dp w a n cap f)(hn:n<=1048576):
  Calls Tz.prog 37 #[.slice a n cap] w λe w'=>e=.returned (.slice (some ⟨w.heap.size,0,none⟩) n n)/\ak w' w.heap.size 0 n f/\fp w' w.heap.size n/\Below w.heap.size w w':=by
 obtain⟨_,hz|⟨b,off,rfl,hb,hrow⟩,hf⟩:=h
 .subst hz;exact sJ a cap f w
 .exact AO b off n cap f w hn hb hrow
theorem dp.below {w w':World}{a:Option Addr}{n cap:Nat}{f:Nat->Mv}(h:dp w a n cap f)(hb:Below w.heap.size w w'):dp w' a n cap f:=by
 obtain⟨hn,hz|⟨b,off,rfl,hlt,hrow⟩,hf⟩:=h
 .exact⟨hn,.inl hz,hf⟩
 .exact⟨hn,.inr ⟨b,off,rfl,Gn hlt hb.size,hrow.below hb hlt⟩,hf⟩
theorem vJ {H:Type}{enc:TypeId×Value->H}{w:World}{a:Option Addr}{n cap:Nat}{d:DataW H}{p:List MemPlace}(h:DataW.Trod enc Tryz.prog w 0 (λ_=>true) true 22 (.slice a n cap) d p):
  ∃f,dp w a n cap f:=by
 obtain⟨fuel,hf⟩:=h;rcases Deep.open_slice Tryz.underlying22 hf with⟨hcs,_⟩|⟨x,l,c,m,k,D,Pl,hcs,_,hl,hm,hmm,_,hel⟩
 .simp[Value.cells]at hcs;obtain⟨rfl,rfl,rfl⟩:=hcs;exact⟨λ_=>⟨ByteArray.empty,false,0,0,0,0⟩,Gs _,.inl rfl,λi hi=>absurd hi (Gr _)⟩
 .simp[Value.cells]at hcs;obtain⟨rfl,rfl,rfl⟩:=hcs;simp only[if_true]at hmm;subst hmm;have hi:Inhabited Mv:=⟨⟨ByteArray.empty,false,0,0,0,0⟩⟩;have hall:∀i,i<n->∃m:Mv,m.Fits/\w.cells? 0 (x.add (i*6)) 6=some m.cells.toList:=by
   intro i hin;obtain⟨cs',h1,h2⟩:=hel i (by omega);obtain⟨m,hm,rfl⟩:=qH h2;rw[pn]at h1;exact⟨m,hm,h1⟩
  obtain⟨f,hf'⟩:=Deep.choose_lt hall;refine⟨f,by omega,?_,λi hin=>(hf' i hin).1⟩;by_cases hz:n=0
  .exact .inl hz
  .right;obtain⟨b,off,spot⟩:=x;have hc:∀i,i<n->∀j,j<6->w.cell? ((Addr.mk b off spot).add (i*6)|>.add j)=(f i).cells.toList[j]?:=by
    intro i hin j hj;obtain⟨_,hlen,hcell⟩:=World.cells?_some (hf' i hin).2;exact hcell j hj
   have h00:=hc 0 (by omega) 0 (by omega);have hspot:spot=none:=by
    have:=World.cell?_spot (a:=(Addr.mk b off spot)) (v:=.string (f 0).name) (by simpa[Addr.add]using h00);simpa using this
   subst hspot;refine⟨b,off,rfl,?_,?_⟩
   .have:=block_lt_of_cell (w:=w) (a:=⟨b,off,none⟩) (v:=.string (f 0).name) (by simpa[Addr.add]using h00);exact this
   .intro i hin;have q:∀j,j<6->w.cell? ⟨b,off+i*6+j,none⟩=(f i).cells.toList[j]?:=by
     intro j hj;have:=hc i hin j hj;rw[Deep.add_add]at this;simpa[add_plain,Nat.add_assoc]using this
    exact⟨q 0 (by omega),q 1 (by omega),q 2 (by omega),q 3 (by omega),q 4 (by omega),q 5 (by omega)⟩
theorem yx {H:Type}{enc:TypeId×Value->H}{w:World}{a:Option Addr}{n cap:Nat}{d:DataW H}{p:List MemPlace}(h:DataW.Trod enc Tryz.prog w 0 (λ_=>true) true 23 (.slice a n cap) d p):
  ∃g,cp w a n g:=by
 obtain⟨fuel,hf⟩:=h;rcases Deep.open_slice1 Tryz.underlying23 jN hf with⟨hcs,_⟩|⟨x,l,c,m,k,V,D,Pl,hcs,_,hl,hm,hmm,_,hel⟩
 .simp[Value.cells]at hcs;obtain⟨rfl,rfl,rfl⟩:=hcs;exact⟨λ_=>0,Gs _,.inl rfl,λi hi=>absurd hi (Gr _)⟩
 .simp[Value.cells]at hcs;obtain⟨rfl,rfl,rfl⟩:=hcs;simp only[if_true]at hmm;subst hmm;have hall:∀i,i<n->∃z:Int,w.cell? (x.add i)=some (.int .i64 z)/\(Lit.int .i64 z).wf=true:=by
   intro i hin;obtain⟨h1,h2⟩:=hel i (by omega);obtain⟨z,hz,_,hwf⟩:=DataW.trod_int Tryz.underlying3 h2;simp at hz;exact⟨z,by rw[h1,hz],hwf⟩
  obtain⟨g,hg⟩:=Deep.choose_lt hall;refine⟨g,by omega,?_,λi hi=>(hg i hi).2⟩;by_cases hz:n=0
  .exact .inl hz
  .right;obtain⟨b,off,spot⟩:=x;have h00:=(hg 0 (by omega)).1;have hspot:spot=none:=by
    have:=World.cell?_spot (a:=(Addr.mk b off spot)) (v:=.int .i64 (g 0)) (by simpa[Addr.add]using h00);simpa using this
   subst hspot;refine⟨b,off,rfl,?_,?_⟩
   .exact block_lt_of_cell (w:=w) (a:=⟨b,off,none⟩) (v:=.int .i64 (g 0)) (by simpa[Addr.add]using h00)
   .intro i hin;have:=(hg i hin).1;simpa[add_plain]using this
end
section
open Go.RowKit
theorem ak.same {w w':World}{b off n:Nat}{f:Nat->Mv}(h:ak w b off n f)(e:w'.heap[b]?=w.heap[b]?):ak w' b off n f:=λi hi=>by
 obtain⟨c0,c1,c2,c3,c4,c5⟩:=h i hi;have o:∀j,w'.cell? ⟨b,j,none⟩=w.cell? ⟨b,j,none⟩:=λj=>Gi (a:=⟨b,j,none⟩) e
 exact⟨(o _).trans c0,(o _).trans c1,(o _).trans c2,(o _).trans c3,(o _).trans c4,(o _).trans c5⟩
theorem fp.same {w w':World}{b n:Nat}(h:fp w b n)(e:w'.heap[b]?=w.heap[b]?):fp w' b n:=by
 obtain⟨cs,h1,h2⟩:=h;exact⟨cs,e.trans h1,h2⟩
theorem an.same {w w':World}{b n:Nat}{g:Nat->Int}(h:an w b n g)(e:w'.heap[b]?=w.heap[b]?):an w' b n g:=by
 obtain⟨⟨cs,h1,h2⟩,h3⟩:=h;exact⟨⟨cs,e.trans h1,h2⟩,λi hi=>(Gi (a:=⟨b,0+i,none⟩) e).trans (h3 i hi)⟩
theorem eR (now shift:Int)(a:Option Addr)(n cap:Nat)(f:Nat->Mv)(a':Option Addr)(m cap':Nat)(t:Nat->Int)(w:World)(h:dp w a n cap f)(hn:n<=1048576)(h':cp w a' m t)(hm:m<=1048576):
  Calls Tz.prog 11 #[.agg #[.int .i64 now,.int .i64 shift,.slice a n cap,.slice a' m cap']] w λe w'=>(∃BM BT,e=.returned (.agg #[.int .i64 now,.int .i64 shift,.slice (some ⟨BM,0,none⟩) n n,.slice (some ⟨BT,0,none⟩) m m])/\w.heap.size<=BM/\BM<BT/\ak w' BM 0 n f/\fp w' BM n/\an w' BT m t)/\Below w.heap.size w w':=by
 have hB0:∀o1 o2 o3,Below w.heap.size w (((w.alloc o1).alloc o2).alloc o3):=λo1 o2 o3=>(((Gb _ w).alloc (Gm _) _).alloc (by simp) _).alloc (by simp;omega) _
 have hN:∀o1 o2 c3 T3,(((w.alloc o1).alloc o2).alloc (.cells c3 T3)).heap[w.heap.size+1+1]?=some (.cells c3 T3 (0,0)):=λo1 o2 c3 T3=>by have:=heap_alloc_new ((w.alloc o1).alloc o2) (.cells c3 T3);simpa using this
 have hN1:∀o1 c2 T2 o3,(((w.alloc o1).alloc (.cells c2 T2)).alloc o3).heap[w.heap.size+1]?=some (.cells c2 T2 (0,0)):=λo1 c2 T2 o3=>(Gc _ _ _ (by simp)).trans (by have:=heap_alloc_new (w.alloc o1) (.cells c2 T2);simpa using this)
 have HS:∀W,Below w.heap.size w W->Calls Tz.prog 37 #[.slice a n cap] W λe w'=>e=.returned (.slice (some ⟨W.heap.size,0,none⟩) n n)/\ak w' W.heap.size 0 n f/\fp w' W.heap.size n/\Below W.heap.size W w':=λW hW=>vI a n cap f W (h.below hW) hn
 have HI:∀W,Below w.heap.size w W->Calls Tz.prog 38 #[.slice a' m cap'] W λe w'=>e=.returned (.slice (some ⟨W.heap.size,0,none⟩) m m)/\an w' W.heap.size m t/\Below W.heap.size W w':=λW hW=>AR a' m cap' t W (h'.below hW) hm
 clear h h';go_enter Tz.func11,Tryz.ntmps11
 go_wp2_with(first
  |(go_at_call 37;refine(HS _ (hB0 _ _ _)).mono ?_;clear HS;rintro e w1 ⟨rfl,r1,o1,b1⟩;have B1:=(hB0 _ _ _).trans (b1.mono (hB0 _ _ _).size);have z1:=o1.lt;have g2:=(b1.block (w.heap.size+1+1) (by simp)).trans (hN _ _ _ _);have g1:=(b1.block (w.heap.size+1) (by simp)).trans (hN1 _ _ _ _);have g0:=b1.cell (p:=⟨w.heap.size,3,none⟩) (by simp;omega);simp at z1 g0 r1 o1;clear b1 hB0 hN hN1;have p2:=cell_of_row w1 _ 2 _ _ _ g2;have p2f:=frozen_of_row w1 _ 2 _ _ g2;simp at p2;have g2':=heap_setCell_same w1 _ 2 _ _ (.slice (some ⟨w.heap.size+1+1+1,0,none⟩) n n) g2;simp at g2')
  |(go_at_call 38;refine(HI _ (B1.setCell (by simp;omega) _)).mono ?_;clear HI;rintro e w2 ⟨rfl,i2,b2⟩;have z2:=i2.lt;have B2:=(B1.setCell (by simp;omega) _).trans (b2.mono (by have:=B1.size;simpa using this));have k2:=(b2.block (w.heap.size+1+1) (by simp;omega)).trans g2';have k1:=(b2.block (w.heap.size+1) (by simp;omega)).trans ((Gd w1 _ _ _ (by simp)).trans g1);simp at z2 i2;have e1:w2.heap[w.heap.size+1+1+1]?=w1.heap[w.heap.size+1+1+1]?:=(b2.block _ (by simp;omega)).trans (Gd w1 _ _ _ (by simp));clear b2;have f2:=λj=>frozen_of_row w2 _ j _ _ k2;have f1:=λj=>frozen_of_row w2 _ j _ _ k1;have x0:=cell_of_row w2 _ 0 _ _ _ k2;have x1:=cell_of_row w2 _ 1 _ _ _ k2;have x2:=cell_of_row w2 _ 2 _ _ _ k2;have x3:=cell_of_row w2 _ 3 _ _ _ k2;have y0:=cell_of_row w2 _ 0 _ _ _ k1;have y1:=cell_of_row w2 _ 1 _ _ _ k1;have y2:=cell_of_row w2 _ 2 _ _ _ k1;have y3:=cell_of_row w2 _ 3 _ _ _ k1;simp at x0 x1 x2 x3 y0 y1 y2 y3))
 have eW:∀k,k≠w.heap.size+1->k≠w.heap.size+1+1->(((((w2.setCell ⟨w.heap.size+1+1,3,none⟩ (.slice (some ⟨w1.heap.size,0,none⟩) m m)).setCell ⟨w.heap.size+1,0,none⟩ (.int .i64 now)).setCell ⟨w.heap.size+1,1,none⟩ (.int .i64 shift)).setCell ⟨w.heap.size+1,2,none⟩ (.slice (some ⟨w.heap.size+1+1+1,0,none⟩) n n)).setCell ⟨w.heap.size+1,3,none⟩ (.slice (some ⟨w1.heap.size,0,none⟩) m m)).heap[k]?=w2.heap[k]?:=λk h1 h2=>by
  rw[Gd _ _ _ _ (by simpa using h1),Gd _ _ _ _ (by simpa using h1),Gd _ _ _ _ (by simpa using h1),Gd _ _ _ _ (by simpa using h1),Gd _ _ _ _ (by simpa using h2)]
 refine bodyPost_ret (v:=.agg #[.int .i64 now,.int .i64 shift,.slice (some ⟨w.heap.size+1+1+1,0,none⟩) n n,.slice (some ⟨w1.heap.size,0,none⟩) m m]) (by simp[results,Tryz.results11,go_sem,y0,y1,y2,y3]) rfl ⟨⟨w.heap.size+1+1+1,w1.heap.size,rfl,by omega,z1,?_,?_,?_⟩,?_⟩
 .exact(r1.same e1).same (eW _ (by omega) (by omega))
 .exact(o1.same e1).same (eW _ (by omega) (by omega))
 .exact i2.same (eW _ (by omega) (by omega))
 .exact((((B2.setCell (by simp;omega) _).setCell (by simp) _).setCell (by simp) _).setCell (by simp) _).setCell (by simp) _
theorem Cd (a:Option Addr)(n cap:Nat)(left:Int)(w:World)(hn:n<=maxLen)(h0:0<=left)(h1:left<=1048576):
  Calls Tz.prog 29 #[.slice a n cap,.int .i64 left] w λe w'=>e=.returned (.int .i64 (if left<n then -1 else left-n))/\w'=w:=by
 unfold maxLen at hn;by_cases hl:left<n
 .rw[if_pos hl];go_enter Tz.func29,Tryz.ntmps29
  go_wp2;go_ret;exact⟨rfl,rfl⟩
 .rw[if_neg hl];go_enter Tz.func29,Tryz.ntmps29
  go_wp2;go_ret;exact⟨rfl,rfl⟩
theorem vK (now shift:Int)(a:Option Addr)(n cap:Nat)(f:Nat->Mv)(a':Option Addr)(m cap':Nat)(t:Nat->Int)(left:Int)(w:World)(h:dp w a n cap f)(h':cp w a' m t)(h0:0<=left)(h1:left<=1048576):
  Calls Tz.prog 8 #[.agg #[.int .i64 now,.int .i64 shift,.slice a n cap,.slice a' m cap'],.int .i64 left] w λe w'=>(∃r:Int,e=.returned (.int .i64 r)/\(r=-1\/0<=r/\r+n<=left/\r+m<=left))/\Below w.heap.size w w':=by
 have bA:∀o,Below w.heap.size w (w.alloc o):=λo=>(Gb _ w).alloc (Gm _) _
 have hm:=h'.1;have H1:∀o,Calls Tz.prog 28 #[.slice a n cap,.int .i64 left] (w.alloc o) λe w'=>(∃r:Int,e=.returned (.int .i64 r)/\(r=-1\/0<=r/\r+n<=left))/\Below (w.alloc o).heap.size (w.alloc o) w':=λo=>Cc a n cap f left _ (h.below (bA o)) h0 h1
 go_enter Tz.func8,Tryz.ntmps8
 go_wp2_with(first
  |(go_at_call 28;refine(H1 _).mono ?_;clear H1;rintro e w1 ⟨⟨r,rfl,hr⟩,b1⟩;obtain⟨hc1,hf1⟩:=dE b1)
  |(go_at_call 29;refine(Cd _ _ _ _ _ hm (by omega) (by omega)).mono ?_;rintro e w' ⟨rfl,rfl⟩))
 .go_ret;exact⟨⟨-1,rfl,.inl rfl⟩,(bA _).trans (b1.mono (bA _).size)⟩
 .go_ret;exact⟨⟨-1,rfl,.inl rfl⟩,(bA _).trans (b1.mono (bA _).size)⟩
 .go_ret;exact⟨⟨_,rfl,.inr (by omega)⟩,(bA _).trans (b1.mono (bA _).size)⟩
end
section
open Go.ChangeShapes Go.WideShapes Go.ChangeAt Go.RowKit
theorem vZ:Tryz.prog.cellsOf 25=4:=by kernel_rfl
theorem uu:Tryz.prog.cellsOf 22=1:=by kernel_rfl
theorem wc:Tryz.prog.cellsOf 23=1:=by kernel_rfl
theorem yL {H:Type}{enc:TypeId×Value->H}{w:World}{v:Value}{d:DataW H}{p:List MemPlace}{r:Reach}{b0:Nat}(hv:Value.okWide Tryz.prog w r b0 25 v)(h:DataW.Trod enc Tryz.prog w 0 (λ_=>true) true 25 v d p):
  ∃now shift a n cap f a' m cap' t,v=.agg #[.int .i64 now,.int .i64 shift,.slice a n cap,.slice a' m cap']/\dp w a n cap f/\cp w a' m t:=by
 obtain⟨cs,rfl,hsz⟩:=okWide_struct Tryz.underlying25 hv;obtain⟨k,hk⟩:=h;obtain⟨xs,k',_,_,hl,hlen,hf⟩:=DataW.trod_struct Tryz.underlying25 hk;rw[vZ]at hl;obtain⟨l⟩:=cs;simp only[Value.cells]at hl hf hk;match l,hl with
 |[c0,c1,c2,c3],_=>
 match xs,hlen with
 |[y0,y1,y2,y3],_=>
 have h0:=hf 0 _ rfl;have h1:=hf 1 _ rfl;have h2:=hf 2 _ rfl;have h3:=hf 3 _ rfl;simp[jN,uu,wc]at h0 h1 h2 h3;obtain⟨now,e0,_,_⟩:=DataW.trod_int Tryz.underlying3 h0;obtain⟨shift,e1,_,_⟩:=DataW.trod_int Tryz.underlying3 h1;have q2:∃a n cap,c2=.slice a n cap:=by
  rcases Deep.open_slice Tryz.underlying22 h2 with⟨hcs,_⟩|⟨x,l,c,m,k,D,Pl,hcs,_⟩
  .simp at hcs;exact⟨_,_,_,hcs⟩
  .simp at hcs;exact⟨_,_,_,hcs⟩
 have q3:∃a n cap,c3=.slice a n cap:=by
  rcases Deep.open_slice1 Tryz.underlying23 jN h3 with⟨hcs,_⟩|⟨x,l,c,m,k,V,D,Pl,hcs,_⟩
  .simp at hcs;exact⟨_,_,_,hcs⟩
  .simp at hcs;exact⟨_,_,_,hcs⟩
 obtain⟨a,n,cap,rfl⟩:=q2;obtain⟨a',m,cap',rfl⟩:=q3;simp at e0 e1;subst e0 e1;obtain⟨f,hf2⟩:=vJ (a:=a) (n:=n) (cap:=cap) (d:=y2.1) (p:=y2.2) ⟨k',by simpa[Value.cells]using h2⟩;obtain⟨t,ht⟩:=yx (a:=a') (n:=m) (cap:=cap') (d:=y3.1) (p:=y3.2) ⟨k',by simpa[Value.cells]using h3⟩;exact⟨now,shift,a,n,cap,f,a',m,cap',t,rfl,hf2,ht⟩
end
