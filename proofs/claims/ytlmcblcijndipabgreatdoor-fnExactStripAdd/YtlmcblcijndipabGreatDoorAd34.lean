import Derived.Test.YtlmcblcijndipabGreatDoorAd31
import Derived.Test.YtlmcblcijndipabGreatDoorAd17d
import Derived.Test.YtlmcblcijndipabGreatDoorAd33
import Derived.Test.YtlmcblcijndipabGreatDoorAd22
set_option linter.unusedVariables false
set_option maxHeartbeats 4000000
set_option maxRecDepth 100000
namespace Go.Proofs.YtlmcblcijndipabGreatDoor
open Go.RowKit Go.Shelf
attribute [local go_sem] Oper.semAt_some
set_option linter.unusedVariables false
def ey (W:World)(n lo:Nat)(vals:List Value)(L:List (List Nat)):Prop:=
 ∀(i:Nat) (lst:List Nat),L[i]?=some lst->∃tb tc,vals[i]?=some (Value.slice (some ⟨tb,0,none⟩) n tc)/\n<=tc/\lo<=tb/\dY W tb/\al W tb 0 n (λi=>((pl lst i:Nat):Int))
theorem dY.lt {W:World}{b:Nat}(h:dY W b):b<W.heap.size:=by obtain⟨cs,h1,_⟩:=h;exact(Gp.1 h1).1
theorem dY.same {W W':World}{b:Nat}(h:dY W b)(e:W'.heap[b]?=W.heap[b]?):dY W' b:=by obtain⟨cs,h1,h2⟩:=h;exact⟨cs,e.trans h1,h2⟩
theorem ey.same {W W':World}{n lo:Nat}{vals:List Value}{L:List (List Nat)}(h:ey W n lo vals L)(e:∀b,lo<=b->dY W b->W'.heap[b]?=W.heap[b]?):ey W' n lo vals L:=λi lst hi=>by
 obtain⟨tb,tc,h1,h2,h3,h4,h5⟩:=h i lst hi;exact⟨tb,tc,h1,h2,h3,h4.same (e tb h3 h4),h5.same (e tb h3 h4)⟩
theorem ey.low {W:World}{n lo lo':Nat}{vals:List Value}{L:List (List Nat)}(h:ey W n lo vals L)(hl:lo'<=lo):ey W n lo' vals L:=λi lst hi=>by
 obtain⟨tb,tc,h1,h2,h3,h4⟩:=h i lst hi;exact⟨tb,tc,h1,h2,Gq hl h3,h4⟩
theorem ey.snoc {W:World}{n lo C c:Nat}{vals:List Value}{L:List (List Nat)}{lst:List Nat}(h:ey W n lo vals L)(hl:vals.length=L.length)(h2:n<=c)(h3:lo<=C)(h4:dY W C)(h5:al W C 0 n (λi=>((pl lst i:Nat):Int))):
  ey W n lo (vals++[.slice (some ⟨C,0,none⟩) n c]) (L++[lst]):=λi l hi=>by
 by_cases hlt:i<L.length
 .rw[Gy hlt]at hi;obtain⟨tb,tc,g1,g2⟩:=h i l hi;exact⟨tb,tc,by rw[Gy (by omega)];exact g1,g2⟩
 .rw[Gz (by omega)]at hi;have hi0:i-L.length=0:=by
   have:=(Gw.1 hi).1;simp at this;omega
  rw[hi0]at hi;simp at hi;subst hi;exact⟨C,c,by rw[Gz (by omega),hl,hi0];rfl,h2,h3,h4,h5⟩
theorem rL {W:World}{b:Nat}(h:dY W b){base size k:Nat}{v:Value}{xs:List Value}(hr:W.ownsRow base 164 size v k xs):some b≠v.ownBlock:=by
 obtain⟨cs,h1,_⟩:=h;rcases hr.2 with⟨rfl,_⟩|⟨g,cap,cur,rfl,_,hgb,_⟩
 .simp[Value.ownBlock]
 .intro e';obtain rfl:b=g:=by simpa[Value.ownBlock]using e'
  rw[h1]at hgb;simp at hgb
structure jJ (W:World)(n lo BN:Nat)(L:List (List Nat)):Prop where
 ex:∃v vals,Boxed W BN 224 v/\W.ownsRow lo 164 1 v L.length vals/\ey W n lo vals L
theorem jJ.same {W W':World}{n lo BN:Nat}{L:List (List Nat)}(h:jJ W n lo BN L)(hN:W'.heap[BN]?=W.heap[BN]?)(e:∀b,lo<=b->b<W.heap.size->W'.heap[b]?=W.heap[b]?):jJ W' n lo BN L:=by
 obtain⟨v,vals,h1,h2,h3⟩:=h.ex;refine⟨v,vals,hN.trans h1,?_,h3.same λb hb hi=>e b hb hi.lt⟩;obtain⟨g1,g2|⟨g,cap,cur,rfl,g3,g4,g5⟩⟩:=h2
 .exact⟨g1,.inl g2⟩
 .exact⟨g1,.inr ⟨g,cap,cur,rfl,g3,(e g g3 (Gp.1 g4).1).trans g4,g5⟩⟩
theorem pL {W w1:World}{n lo BN C c:Nat}{v v':Value}{vals:List Value}{L:List (List Nat)}{lst:List Nat}{tmp:Obj}(hv:Boxed W BN 224 v)(hr:W.ownsRow lo 164 1 v L.length vals)(hin:ey W n lo vals L)
  (h2:n<=c)(h3:lo<=C)(h4:dY W C)(h5:al W C 0 n (λi=>((pl lst i:Nat):Int)))
  (hown:w1.ownsRow lo 164 1 v' (L.length+1) (vals++[.slice (some ⟨C,0,none⟩) n c]))(hg:(W.alloc tmp).grownBy w1 v.ownBlock):
  Boxed w1 BN 224 v/\jJ (w1.setCell ⟨BN,0,none⟩ v') n lo BN (L++[lst])/\(∀b,b<W.heap.size->b≠BN->some b≠v.ownBlock->(w1.setCell ⟨BN,0,none⟩ v').heap[b]?=W.heap[b]?)/\W.heap.size<=(w1.setCell ⟨BN,0,none⟩ v').heap.size:=by
 have hte:(224:TypeId)≠164:=by decide
 have hv1:Boxed w1 BN 224 v:=(hv.alloc tmp).kept hg (hv.not_row hte hr);have hsame:∀b,b<W.heap.size->b≠BN->some b≠v.ownBlock->(w1.setCell ⟨BN,0,none⟩ v').heap[b]?=W.heap[b]?:=λb hb hne ho=>by
  rw[Gd _ _ _ b hne,hg.block b (by simp;omega) ho];exact Gc _ _ _ hb
 refine⟨hv1,⟨v',vals++[.slice (some ⟨C,0,none⟩) n c],hv1.set v',?_,?_⟩,hsame,?_⟩
 .rw[List.length_append];exact hown.kept (grownBy_setCell' w1 BN v') (.inr (hv1.not_row hte hown).symm)
 .have hk:∀b,dY W b->(w1.setCell ⟨BN,0,none⟩ v').heap[b]?=W.heap[b]?:=λb hb=>by
   refine hsame b hb.lt (λe=>?_) (rL hb hr);obtain⟨cs,g1,_⟩:=hb;rw[e,show W.heap[BN]?=_ from hv]at g1;simp at g1
  have hl:vals.length=L.length:=by have:=hr.1;omega
  exact(hin.same λb _ hb=>hk b hb).snoc hl h2 h3 (h4.same (hk C h4)) (h5.same (hk C h4))
 .have:=hg.size;simp at this⊢;omega
theorem mQ (p:List Nat->Bool){A:List (List Nat)}{k:Nat}{l:List Nat}(h:A[k]?=some l):(A.take (k+1)).filter p=(A.take k).filter p++(if p l then[l]else[]):=by
 rw[List.take_add_one,h,List.filter_append];simp[List.filter_cons]
theorem mS {P:Program}{f:FuncId}{args:Array Value}{w:World}{R:Ending->World->Prop}(h:Calls P f args w R):∃e w',R e w':=by
 obtain⟨e,w',fr,hR,_⟩:=h [];exact⟨e,w',hR⟩
theorem yk {W:World}{b cap b' cap' n:Nat}{g h:Nat->Int}{r:Int}(hr:bO g h n r)(hn:n<=1048576)(hbs:b<W.heap.size)(hrow:al W b 0 n g)(hord:eG g n n)(hbs':b'<W.heap.size)(hrow':al W b' 0 n h)(hord':eG h n n)(x:ag W):
  Calls Tz.prog 207 #[.slice (some ⟨b,0,none⟩) n cap,.slice (some ⟨b',0,none⟩) n cap'] x.at_ λe w'=>e=.returned (.int .i64 r)/\Below x.at_.heap.size x.at_ w':=by
 have hb:=x.below;refine(jX b 0 n cap b' 0 cap' g h x.at_ hn (Gn hbs hb.size) (hrow.below hb hbs) hord (Gn hbs' hb.size) (hrow'.below hb hbs') hord').mono ?_;rintro e w' ⟨⟨s,rfl,hs⟩,h2⟩;exact⟨by rw[hs.unique hr],h2⟩
theorem D8 {n:Nat}{l:List Nat}(h:l∈az n):eG (λi=>((pl l i:Nat):Int)) n n:=
 ⟨λi hi=>by have:=(dV h).2.1 i hi;dsimp only;omega,λi j hij hj=>by have:=(dV h).2.2 i j hij hj;dsimp only;omega⟩
theorem vt:Tz.prog.underlying 224=some (.slice 164):=by kernel_rfl
theorem tV:(Tz.prog.info? 164).map (λi=>(i.size,i.bytes,i.zero))=some (1,24,some (.slice none 0 0)):=by kernel_rfl
theorem Ab (b off n cap:Nat)(f:Nat->Mv)(shift:Int)(w:World)(hm:aw f n=true)(hbs:b<w.heap.size)(hrow:ak w b off n f)(p:List Nat->Bool)
  (hp:∀g,bg f n g->∀l∈az n,∀r,bO (λi=>((pl l i:Nat):Int)) (λi=>((g i:Nat):Int)) n r->(p l=true<->r<=shift)):
  Calls Tz.prog 182 #[.slice (some ⟨b,off,none⟩) n cap,.int .i64 shift] w λe w'=>(∃v vals,e=.returned v/\w'.ownsRow w.heap.size 164 1 v ((az n).filter p).length vals/\ey w' n w.heap.size vals ((az n).filter p))/\Below w.heap.size w w':=by
 have h6:=aN hm;have hn:n<=1048576:=by omega
 have hB0:∀o1,Below w.heap.size w (w.alloc o1):=λo1=>(Gb _ w).alloc (Gm _) _
 refine(callsIn_wide (n:=9)).1 ?_;refine callsIn_of_wp_marks Tz.func182 rfl trivial ?_ rfl;simp only[Tryz.ntmps182,List.size_toArray,List.length_cons,List.length_nil,Nat.reduceAdd,Nat.reduceSub,Array.replicate_succ,Array.replicate_zero,List.push_toArray,List.append_toArray,List.nil_append,List.cons_append];gi_wp2_with (first|(refine⟨trivial,?_⟩;refine(callsIn_wide.2 (pK _ _ _ _ f _ hn (by simp;omega) (hrow.below (hB0 _) hbs))).mono ?_;rintro e w1 ⟨⟨g,B,cap1,hg,hB1,rfl,own1⟩,b1⟩)|(refine⟨trivial,?_⟩;refine(callsIn_wide.2 (vp _ _)).mono ?_;rintro e w' ⟨rfl,rfl⟩))
 have hz1:w.heap.size+1<=w1.heap.size:=by have:=b1.size;simpa using this
 have hBw1:Below w.heap.size w w1:=(hB0 _).trans (b1.mono (by simp));have hBlt:=own1.lt;obtain⟨WS,hWS⟩:∃WS,((w1.alloc (.cells #[.slice (some ⟨B,0,none⟩) n cap1] 164)).alloc (.cells #[.slice none 0 0] 224)).alloc (.cells #[.int .i64 (n:Int)] 3)=WS:=⟨_,rfl⟩;have hL:Below w1.heap.size w1 WS:=hWS▸(((Gb _ w1).alloc (Gm _) _).alloc (by simp) _).alloc (by simp;omega) _;have hzS:WS.heap.size=w1.heap.size+3:=by rw[<-hWS];simp
 have c0:w1.cell? ⟨w.heap.size,0,none⟩=some (.int .i64 shift):=(b1.cell (p:=⟨w.heap.size,0,none⟩) (by simp)).trans (by simp);have cS:WS.cell? ⟨w.heap.size,0,none⟩=some (.int .i64 shift):=(hL.cell (p:=⟨w.heap.size,0,none⟩) (by simp;omega)).trans c0;have cF:WS.cell? ⟨w1.heap.size,0,none⟩=some (.slice (some ⟨B,0,none⟩) n cap1):=by rw[<-hWS];simp[go_sem]
 have cN:Boxed WS (w1.heap.size+1) 224 (.slice none 0 0):=by
  have h1:Boxed ((w1.alloc (.cells #[.slice (some ⟨B,0,none⟩) n cap1] 164)).alloc (.cells #[.slice none 0 0] 224)) (w1.heap.size+1) 224 (.slice none 0 0):=by
   have:=Boxed.new (w1.alloc (.cells #[.slice (some ⟨B,0,none⟩) n cap1] 164)) 224 (.slice none 0 0);simpa using this
  rw[<-hWS];exact h1.alloc _
 have cL:WS.cell? ⟨w1.heap.size+1+1,0,none⟩=some (.int .i64 (n:Int)):=by rw[<-hWS];simp[go_sem]
 have ownS:=own1.below hL hBlt;have hBwS:Below w.heap.size w WS:=hBw1.trans (hL.mono hBw1.size);rw[hWS];clear hWS c0 hL own1;refine tT (Bn:=w1.heap.size+1+1) (n:=n) (by omega) rfl h6 (by omega) cL rfl
  (λk W=>Below w.heap.size w W/\fL (w1.heap.size+1) WS W/\jJ W n (WS.heap.size+3) (w1.heap.size+1) (((az n).take k).filter p)) ?hI ?h0 ?a1 ?assign ?body ?done
 case hI=>
  rintro k W1 W2 ⟨i1,i2,i3⟩ hs;refine⟨⟨hs.os.trans i1.os,hs.tape.trans i1.tape,hs.output.trans i1.output,Gq i1.size hs.size,λj hj=>(hs.block j (by have:=i1.size;omega) (by omega)).trans (i1.block j hj)⟩,⟨Gq i2.size hs.size,λj hj hne=>(hs.block j (by have:=i2.size;omega) (by omega)).trans (i2.block j hj hne)⟩,i3.same (hs.block _ (by have:=i2.size;omega) (by omega)) λb hb hlt=>hs.block b hlt (by omega)⟩
 case h0=>exact⟨hBwS,fL.refl _ _,⟨.slice none 0 0,[],cN,World.ownsRow_nil _ _ _ _,λi lst hi=>by simp at hi⟩⟩
 case assign=>
  intro l x W K hK;gi_wp2
  exact hK
 case body=>
  rintro l k lst W0 W C c hlst ⟨i1,i2,i3⟩ hlt hsv hC hC' hcc hC3 hC4;have hmem:lst∈az n:=List.mem_of_getElem? hlst;have j1:Below w.heap.size w W:=⟨hsv.os.trans i1.os,hsv.tape.trans i1.tape,hsv.output.trans i1.output,Gq i1.size hsv.size,λj hj=>(hsv.block j (by have:=i1.size;omega) (by omega)).trans (i1.block j hj)⟩;have j2:fL (w1.heap.size+1) WS W:=⟨Gq i2.size hsv.size,λj hj hne=>(hsv.block j (by have:=i2.size;omega) (by omega)).trans (i2.block j hj hne)⟩;have j3:jJ W n (WS.heap.size+3) (w1.heap.size+1) (((az n).take k).filter p):=i3.same (hsv.block _ (by have:=i2.size;omega) (by omega)) λb hb hlt=>hsv.block b hlt (by omega)
  clear i1 i2 i3;have hzW:=j2.size;have dS:W.cell? ⟨w.heap.size,0,none⟩=some (.int .i64 shift):=by have:=j2.block w.heap.size (by omega) (by omega);simp only[World.cell?,this]at cS⊢;exact cS
  have dF:W.cell? ⟨w1.heap.size,0,none⟩=some (.slice (some ⟨B,0,none⟩) n cap1):=by have:=j2.block w1.heap.size (by omega) (by omega);simp only[World.cell?,this]at cF⊢;exact cF
  have ownW:=ownS.but j2 (by omega);have hordg:=hg.ord;have hordl:=D8 hmem;obtain⟨r,hr⟩:∃r,bO (λi=>((pl lst i:Nat):Int)) (λi=>((g i:Nat):Int)) n r:=by
   obtain⟨e,w',⟨r,_,hr⟩,_⟩:=mS (jX C 0 n c B 0 cap1 _ _ W hn hC' hC4 hordl ownW.lt ownW.2 hordg);exact⟨r,hr⟩
  have hpr:=hp g hg lst hmem r hr;have HS:=λx=>yk (cap:=c) (cap':=cap1) hr hn hC' hC4 hordl ownW.lt ownW.2 hordg x
  have hne:=ay W;have q0:=λx:ag W=>x.cell dS
  have q1:=λx:ag W=>x.cell dF
  have HR:Hid (p lst=true<->r<=shift):=hpr;clear hpr hr hordg hordl;by_cases hle:r<=shift
  .gi_wp2
   refine hZ (iD _ _) (by kernel_rfl) (by kernel_rfl) (by kernel_rfl) ?_;repeat(go_big_quiet_step ((go_at_call 207;exact aE (HS _))))
   refine wpQuiet_nil (ai ?_);intro w2 hb2;have hf:Hid (((az n).take (k+1)).filter p=((az n).take k).filter p++[lst]):=by
    rw[mQ p hlst,if_pos (HR.out.2 hle)];exact rfl
   rw[hzS]at j3;obtain⟨v,vals,m1,m2,m3⟩:=(j3.same (W':=w2) (hb2.block _ (by omega)) λb hb hlt=>hb2.block b hlt).ex;have hC4':=hC4.below hb2 hC';have hC3':=hC3.below hb2 hC';have hvc:=m1.cell;clear j3 hC3 hC4 hne q0 q1 HS dS dF ownW;have hzw2:=hb2.size;obtain⟨i0,hI,hz0,hz1,hz2⟩:∃i0,Tz.prog.info? 164=some i0/\i0.zero=some (.slice none 0 0)/\i0.size=1/\i0.bytes=24:=by
    have h:=tV;cases hI:Tz.prog.info? 164 with
    |none=>rw[hI]at h;simp at h
    |some i0=>rw[hI]at h;simp only[Option.map_some,Option.some.injEq,Prod.mk.injEq]at h;exact⟨i0,rfl,h.2.2,h.1,h.2.1⟩
   have hlen:(((az n).take k).filter p).length<=720:=Gq (List.length_filter_le _ _) (by have:=(fd n h6).1;simp;omega);gi_wp2_with (
    refine wpListIn_append_own _ rfl (.tmp 19) (.tmp 21) 224 rfl (w1.heap.size+3+3) 164 i0 (.slice none 0 0) 1 24 vt hI hz0 hz1 hz2 rfl (by decide) v (((az n).take k).filter p).length vals (by rfl) (m2.alloc _) ⟨_,0,none⟩ 1 1 [.slice (some ⟨C,0,none⟩) n c] (by rfl) rfl (ie (heap_alloc_new w2 _)) (by simp[Value.oneCell']) (by unfold maxLen;omega) (by omega) (by simp;omega) ?_;intro v' w3 own3 gr3 hnn;obtain⟨G,gc,rfl⟩:=ownsRow_succ own3;obtain⟨o1,o2,o3,o4⟩:=pL m1 m2 m3 hcc (by omega) hC3' hC4' own3 gr3;have hvc3:=o1.cell;have hvf3:=o1.frozen)
   have hob:∀b,b<w1.heap.size+3+3->some b≠v.ownBlock:=λb hb e=>by have:=dK m2 b e.symm;omega
   have hz0w:=j1.size;have o5:w2.heap.size<=w3.heap.size:=by have:=gr3.size;simp at this;omega
   refine⟨⟨⟨gr3.os.trans (hb2.os.trans j1.os),gr3.tape.trans (hb2.tape.trans j1.tape),gr3.output.trans (hb2.output.trans j1.output),by omega,λb hb=>(o3 b (by omega) (by omega) (hob b (by omega))).trans ((hb2.block b (by omega)).trans (j1.block b hb))⟩,
    ⟨by omega,λb hb hne=>(o3 b (by omega) hne (hob b (by omega))).trans ((hb2.block b (by omega)).trans (j2.block b hb hne))⟩,?_⟩,by omega,λb h1 h2=>(o3 b (by omega) (by omega) (hob b (by omega))).trans (hb2.block b (by omega))⟩
   rw[hf.out];exact o2
  .gi_wp2
   refine hZ (iD _ _) (by kernel_rfl) (by kernel_rfl) (by kernel_rfl) ?_;repeat(go_big_quiet_step ((go_at_call 207;exact aE (HS _))))
   refine wpQuiet_nil (ai ?_);intro w2 hb2;have hf:Hid (((az n).take (k+1)).filter p=((az n).take k).filter p):=by
    rw[mQ p hlst,if_neg (λh=>by have:=HR.out.1 h;omega)];exact List.append_nil _
   gi_wp2
   rw[hzS]at j3;refine⟨⟨j1.trans (hb2.mono j1.size),j2.trans (fL.of hb2),?_⟩,hb2.size,λb h1 h2=>hb2.block b (by omega)⟩;rw[hf.out];exact j3.same (hb2.block _ (by omega)) λb hb hlt=>hb2.block b hlt
 case done=>
  rintro D W hD ⟨i1,i2,i3⟩ hK;rw[List.take_length]at i3;obtain⟨v,vals,j1,j2,j3⟩:=i3.ex;have cv:=j1.cell;gi_wp2
  refine⟨by simp,.inl ⟨_,_,rfl,run_takeDeferred hK,?_⟩⟩;refine⟨v,?_,⟨v,vals,rfl,fj (ownsRow_putObj j2 _ hK rfl) (by omega),?_⟩,i1.trans (belowK_b (w:=w) (Gm _) W D _ _ (by omega) hK rfl rfl)⟩
  .simp[results,Tryz.f182,go_sem]
  .refine(j3.same (W':=W.putObj D (.deferred none)) λb hb hi=>World.putObj_heap_other λe=>?_).low (by omega);obtain⟨cs,g1,_⟩:=hi;rw[e,hK]at g1;simp at g1
end Go.Proofs.YtlmcblcijndipabGreatDoor
namespace Go.Proofs.YtlmcblcijndipabGreatDoor
open Go.RowKit
theorem oL (b off n cap:Nat)(f:Nat->Mv)(B1 c1 B2 c2:Nat)(T S:Nat->Int)(w:World)(h6:n<=6)(hbs:b<w.heap.size)(hrow:ak w b off n f)(hb1:B1<w.heap.size)(hT:al w B1 0 n T)(hbT:eu f T n)(hb2:B2<w.heap.size)(hS:al w B2 0 n S)(hbS:eu f S n):
  Calls Tz.prog 89 #[.slice (some ⟨b,off,none⟩) n cap,.slice (some ⟨B1,0,none⟩) n c1,.slice (some ⟨B2,0,none⟩) n c2] w λe w'=>e=.returned (.bool (dw (dn f n T) (dn f n S)))/\Below w.heap.size w w':=by
 have H1:=fB b off n cap f B1 0 n c1 T w h6 (Gm _) hbs hrow hb1 hT hbT;have HK:dw (dn f n T) (dn f n S)=if sumTo f T n=sumTo f S n then(if ba f T n=ba f S n then dw (eF T n 0) (eF S n 0)else decide (ba f T n<ba f S n))else decide (sumTo f T n<sumTo f S n):=rfl
 obtain⟨R,hR⟩:∃R,dw (dn f n T) (dn f n S)=R:=⟨_,rfl⟩;rw[hR]at HK;rw[hR];clear hR;obtain⟨s1,e1⟩:∃s1,sumTo f T n=s1:=⟨_,rfl⟩;obtain⟨s2,e2⟩:∃s2,sumTo f S n=s2:=⟨_,rfl⟩;obtain⟨t1,e3⟩:∃t1,ba f T n=t1:=⟨_,rfl⟩;obtain⟨t2,e4⟩:∃t2,ba f S n=t2:=⟨_,rfl⟩;rw[e1,e2,e3,e4]at HK;by_cases hs:s1=s2
 .rw[if_pos hs]at HK;have hs':(s1 !=s2)=false:=by simp[hs]
  clear hs;by_cases ht:t1=t2
  .rw[if_pos ht]at HK;have ht':(t1 !=t2)=false:=by simp[ht]
   clear ht;have HK:Hid _:=HK;go_enter Tz.func89,Tryz.ntmps89
   go_wp2_with(first|(go_at_call 110;refine H1.mono ?_;clear H1;rintro e w1 ⟨rfl,hbw1⟩;rw[e1,e3])|(go_at_call 110;refine(fB b off n cap f B2 0 n c2 S _ h6 (Gm _) (Gn hbs hbw1.size) (hrow.below hbw1 hbs) (Gn hb2 hbw1.size) (hS.below hbw1 hb2) hbS).mono ?_;rintro e w2 ⟨rfl,hbw2⟩;rw[e2,e4]))
   have hB2:Below w.heap.size w w2:=hbw1.trans (hbw2.mono hbw1.size);clear hbw1 hbw2;go_loopw [11] (λi wr=>∃k:Nat,k<=n/\i=.int .i64 k/\dw (eF T n 0) (eF S n 0)=dw (eF T (n-k) k) (eF S (n-k) k)/\Below w.heap.size w wr) (λi _=>n-(intOf i).toNat)
   case atStart=>exact⟨0,Gs _,rfl,rfl,hB2⟩
   case round=>
    obtain⟨k,hk,rfl,hlx,hB⟩:=hrel;by_cases hlt:k<n
    .have hlt':(k:Int)<n:=by omega
     have cT:=hT.below hB hb1 k hlt;have cS:=hS.below hB hb2 k hlt;simp only[Nat.zero_add]at cT cS;have hx:dw (eF T (n-k) k) (eF S (n-k) k)=if T k=S k then dw (eF T (n-(k+1)) (k+1)) (eF S (n-(k+1)) (k+1))else decide (T k<S k):=by
      rw[show n-k=(n-(k+1))+1 by omega];rfl
     by_cases he:T k=S k
     .rw[if_pos he]at hx;have he':(T k !=S k)=false:=by simp[he]
      have HX:Hid _:=hlx.trans hx;clear hlx hx he;go_wp2;go_quiet (fail)
      go_wp2;go_roundw
      case rel=>exact⟨k+1,by omega,by go_num,HX.out,ce hB _⟩
      case measure=>simp[intOf];omega
     .rw[if_neg he]at hx;have he':(T k !=S k)=true:=by simp[he]
      have HX:Hid _:=HK.out.trans (hlx.trans hx);clear hlx hx he HK;go_wp2;go_quiet (fail)
      go_wp2;go_quiet (fail)
      go_wp2;go_ret;exact⟨aK HX.out.symm,ce (ce hB _) _⟩
    .obtain rfl:k=n:=by omega
     rw[Nat.sub_self]at hlx;have HX:Hid _:=HK.out.trans hlx;clear hlx HK;go_wp2;go_ret;exact⟨aK HX.out.symm,hB⟩
  .rw[if_neg ht]at HK;have ht':(t1 !=t2)=true:=by simp[ht]
   clear ht;have HK:Hid _:=HK;go_enter Tz.func89,Tryz.ntmps89
   go_wp2_with(first|(go_at_call 110;refine H1.mono ?_;clear H1;rintro e w1 ⟨rfl,hbw1⟩;rw[e1,e3])|(go_at_call 110;refine(fB b off n cap f B2 0 n c2 S _ h6 (Gm _) (Gn hbs hbw1.size) (hrow.below hbw1 hbs) (Gn hb2 hbw1.size) (hS.below hbw1 hb2) hbS).mono ?_;rintro e w2 ⟨rfl,hbw2⟩;rw[e2,e4]))
   go_ret;exact⟨aK HK.out.symm,hbw1.trans (hbw2.mono hbw1.size)⟩
 .rw[if_neg hs]at HK;have hs':(s1 !=s2)=true:=by simp[hs]
  clear hs;have HK:Hid _:=HK;go_enter Tz.func89,Tryz.ntmps89
  go_wp2_with(first|(go_at_call 110;refine H1.mono ?_;clear H1;rintro e w1 ⟨rfl,hbw1⟩;rw[e1,e3])|(go_at_call 110;refine(fB b off n cap f B2 0 n c2 S _ h6 (Gm _) (Gn hbs hbw1.size) (hrow.below hbw1 hbs) (Gn hb2 hbw1.size) (hS.below hbw1 hb2) hbS).mono ?_;rintro e w2 ⟨rfl,hbw2⟩;rw[e2,e4]))
  go_ret;exact⟨aK HK.out.symm,hbw1.trans (hbw2.mono hbw1.size)⟩
theorem vw (f:Nat->Mv)(n:Nat)(L:List (List Nat))(l:List Nat):dc f n (L++[l])=ck f n (dc f n L) l:=by simp[dc,List.foldl_append]
theorem lq (p:List Nat->Bool){A:List (List Nat)}{k:Nat}{l:List Nat}(h:A[k]?=some l):(A.take (k+1)).filter p=(A.take k).filter p++(if p l then[l]else[]):=by
 rw[List.take_add_one,h,List.filter_append];simp[List.filter_cons]
def rO (r:Option (Nat->Int))(f:Nat->Mv)(n lo:Nat)(v fv:Value)(wr:World):Prop:=
 match r with
 |some T=>fv=.bool true/\eu f T n/\∃B c,v=.slice (some ⟨B,0,none⟩) n c/\lo<=B/\an wr B n T/\n<=c
 |none=>fv=.bool false/\∃a c,v=.slice a 0 c
theorem rO.later {r:Option (Nat->Int)}{f:Nat->Mv}{n lo:Nat}{v fv:Value}{wr wr':World}(h:rO r f n lo v fv wr)(hb:Below wr.heap.size wr wr'):rO r f n lo v fv wr':=by
 cases r with
 |none=>exact h
 |some T=>obtain⟨h1,h2,B,c,h3,h4,h5,h6⟩:=h;exact⟨h1,h2,B,c,h3,h4,h5.below hb h5.lt,h6⟩
theorem vy (b off n cap:Nat)(f:Nat->Mv)(shift:Int)(w:World)(hm:aw f n=true)(hbs:b<w.heap.size)(hrow:ak w b off n f)(p:List Nat->Bool)
  (hp:∀g,bg f n g->∀l∈az n,∀r,bO (λi=>((pl l i:Nat):Int)) (λi=>((g i:Nat):Int)) n r->(p l=true<->r<=shift)):
  Calls Tz.prog 63 #[.slice (some ⟨b,off,none⟩) n cap,.int .i64 shift] w λe w'=>gZ (dc f n ((az n).filter p)) n w e w'/\Below w.heap.size w w':=by
 have h6:=aN hm;obtain⟨hN720,hN0⟩:=fd n h6;have hB0:∀o1,Below w.heap.size w (w.alloc o1):=λo1=>(Gb _ w).alloc (Gm _) _
 have H1:=λo1=>jY b off n cap f (w.alloc o1) (by omega) (by simp;omega) (hrow.below (hB0 o1) hbs)
 go_enter Tz.func63,Tryz.ntmps63
 go_wp2_with(first|(go_at_call 85;refine(H1 _).mono ?_;clear H1;rintro e w1 ⟨⟨g,FB,Fc,hg,rfl,hFB,hFr⟩,b1⟩)|(go_at_call 86;refine(qv n _ h6).mono ?_;rintro e w2 ⟨⟨vL,vals,rfl,own2,rows2⟩,b2⟩;obtain⟨M,hM⟩:∃M,(az n).length=M+1:=⟨(az n).length-1,by omega⟩;rw[hM]at own2;obtain⟨LB,Lc,rfl⟩:=jt own2))
 have hBw1:Below w.heap.size w w1:=(hB0 _).trans (b1.mono (by simp));have hBw2:Below w.heap.size w w2:=hBw1.trans (b2.mono hBw1.size);have hFr2:=hFr.below b2 hFB;have hFB2:FB<w2.heap.size:=Gn hFB b2.size;have hLB1:=(oG own2).1;have hall:∀(I:Nat) (lst:List Nat),(az n)[I]?=some lst->∃tb tc,w2.cell? ⟨LB,I,none⟩=some (.slice (some ⟨tb,0,none⟩) n tc)/\tb<w2.heap.size/\al w2 tb 0 n (λi=>((pl lst i:Nat):Int)):=λI lst hI=>by
  obtain⟨tb,tc,h1,h2,⟨cs,h3⟩,h4⟩:=rows2 I lst hI;have hlt:=(Gw.1 hI).1;exact⟨tb,tc,by rw[own2.cellAt I (by omega)];exact h1,(Gp.1 h3).1,h4⟩
 clear own2 rows2 hFr hFB b1 b2;have HM:Hid _:=hm;clear hm;go_loopw [6,7,10] (λv fv x wr=>∃I:Nat,I<=(az n).length/\x=.int .i64 I/\rO (dc f n (((az n).take I).filter p)) f n w.heap.size v fv wr/\Below w2.heap.size w2 wr) (λ_ _ x _=>(az n).length-(intOf x).toNat)
 case atStart=>exact⟨0,Gs _,rfl,⟨rfl,_,_,rfl⟩,Gb _ _⟩
 case round=>
  obtain⟨I,hI,rfl,hbest,hB⟩:=hrel;by_cases hlI:I<(az n).length
  .obtain⟨lst,hlst⟩:∃x,(az n)[I]?=some x:=⟨_,GI hlI⟩;have hlI':(I:Int)<(M:Int)+1:=by omega
   have hmem:=List.mem_of_getElem? hlst;obtain⟨tb,tc,hc1,ht2,hr1⟩:=hall I lst hlst;obtain⟨hll,hlow,hdif⟩:=dV hmem;have hc2:wr.cell? ⟨LB,I,none⟩=some (.slice (some ⟨tb,0,none⟩) n tc):=(hB.cell (p:=⟨LB,I,none⟩) hLB1).trans hc1;have hz2:=hB.size;have hBwr:Below w.heap.size w wr:=hBw2.trans (hB.mono hBw2.size);have H2:=pM tb 0 n tc FB 0 n Fc (λi=>((pl lst i:Nat):Int)) (λi=>((g i:Nat):Int)) wr (by omega) (by omega) (by omega) (hr1.below hB ht2) (by omega) (hFr2.below hB hFB2);have hordl:eG (λi=>((pl lst i:Nat):Int)) n n:=⟨λi hi=>by have:=hlow i hi;dsimp only;omega,λi j hij hj=>by have:=hdif i j hij hj;dsimp only;omega⟩;have hsh:∀r,bE (λi=>((pl lst i:Nat):Int)) n (λi=>((g i:Nat):Int)) n r->(p lst=true<->r<=shift):=λr hr=>by
    unfold bE at hr;rw[if_pos ⟨rfl,nJ hordl,nJ hg.ord⟩]at hr;exact hp g hg lst hmem r hr
   have hsn:=λ(h:p lst=true)=>(by rw[lq p hlst,if_pos h,vw]:dc f n (((az n).take (I+1)).filter p)=ck f n (dc f n (((az n).take I).filter p)) lst)
   have hsn':=λ(h:p lst=false)=>(by rw[lq p hlst,if_neg (by simp[h]),List.append_nil]:dc f n (((az n).take (I+1)).filter p)=dc f n (((az n).take I).filter p))
   cases hpl:p lst with
   |false=>
    have hE:=hsn' hpl;have HE:Hid _:=hE;clear hsn hsn' hE;rw[hpl]at hsh;have HSH:Hid _:=hsh;clear hsh;go_wp2_with(go_at_call 87;refine H2.mono ?_;clear H2;rintro e w3 ⟨⟨r,rfl,hr⟩,b3⟩;have hrs:shift<r:=(by have:=(HSH.out r hr);simp at this;exact this))
    go_roundw
    case rel=>exact⟨I+1,by omega,by go_num,by rw[HE.out];exact hbest.later b3,hB.trans (b3.mono hB.size)⟩
    case measure=>simp[intOf];omega
   |true=>
    have hE:=hsn hpl;clear hsn hsn';rw[hpl]at hsh;have HSH:Hid _:=hsh;clear hsh;cases hEa:bK f (pl lst) n with
    |none=>
     have HE:Hid (dc f n (((az n).take (I+1)).filter p)=dc f n (((az n).take I).filter p)):=by rw[hE];unfold ck;rw[hEa];exact rfl
     clear hE;go_wp2_with(first|(go_at_call 87;refine H2.mono ?_;clear H2;rintro e w3 ⟨⟨r,rfl,hr⟩,b3⟩;have hrs:r<=shift:=(by have:=(HSH.out r hr);simp at this;exact this);have hc3:w3.cell? ⟨LB,I,none⟩=some (.slice (some ⟨tb,0,none⟩) n tc):=(b3.cell (p:=⟨LB,I,none⟩) (by simp;omega)).trans hc2)|(go_at_call 88;refine(gt b off n cap f tb 0 tc (pl lst) w3 HM.out hlow (by have:=b3.size;have:=hBwr.size;omega) (hrow.below (hBwr.trans (b3.mono hBwr.size)) hbs) (by have:=b3.size;omega) ((hr1.below hB ht2).below b3 (by omega))).mono ?_;rintro e w4 ⟨hs4,b4⟩;rw[hEa]at hs4;obtain⟨ta,tcc,rfl⟩:=hs4))
     go_roundw
     case rel=>exact⟨I+1,by omega,by go_num,by rw[HE.out];exact(hbest.later b3).later b4,(hB.trans (b3.mono hB.size)).trans (b4.mono (by have:=hB.size;have:=b3.size;omega))⟩
     case measure=>simp[intOf];omega
    |some T=>
     have hlT:eu f T n:=eu.fits HM.out (qm HM.out hlow hdif hEa).fit;cases hres:dc f n (((az n).take I).filter p)with
     |none=>
      have HE:Hid (dc f n (((az n).take (I+1)).filter p)=some T):=by rw[hE,hres];unfold ck;rw[hEa];exact rfl
      clear hE;rw[hres]at hbest;obtain⟨rfl,a,c,rfl⟩:=hbest;go_wp2_with(first|(go_at_call 87;refine H2.mono ?_;clear H2;rintro e w3 ⟨⟨r,rfl,hr⟩,b3⟩;have hrs:r<=shift:=(by have:=(HSH.out r hr);simp at this;exact this);have hc3:w3.cell? ⟨LB,I,none⟩=some (.slice (some ⟨tb,0,none⟩) n tc):=(b3.cell (p:=⟨LB,I,none⟩) (by simp;omega)).trans hc2)|(go_at_call 88;refine(gt b off n cap f tb 0 tc (pl lst) w3 HM.out hlow (by have:=b3.size;have:=hBwr.size;omega) (hrow.below (hBwr.trans (b3.mono hBwr.size)) hbs) (by have:=b3.size;omega) ((hr1.below hB ht2).below b3 (by omega))).mono ?_;rintro e w4 ⟨hs4,b4⟩;rw[hEa]at hs4;obtain⟨TB,Tc,hTB,rfl,hTo,hTc⟩:=hs4))
      go_roundw
      case rel=>exact⟨I+1,by omega,by go_num,by rw[HE.out];exact⟨rfl,hlT,TB,Tc,rfl,by have:=b3.size;have:=hBwr.size;omega,hTo,hTc⟩,(hB.trans (b3.mono hB.size)).trans (b4.mono (by have:=hB.size;have:=b3.size;omega))⟩
      case measure=>simp[intOf];omega
     |some S=>
      rw[hres]at hbest;obtain⟨rfl,hlS,B,c,rfl,hBl,hown,hcb⟩:=hbest;cases hlx:dw (dn f n T) (dn f n S)with
      |true=>
       have h0:dc f n (((az n).take (I+1)).filter p)=some T:=by rw[hE,hres];unfold ck;rw[hEa];simp[hlx]
       have HE:Hid _:=h0;clear h0;clear hE;go_wp2_with(first|(go_at_call 87;refine H2.mono ?_;clear H2;rintro e w3 ⟨⟨r,rfl,hr⟩,b3⟩;have hrs:r<=shift:=(by have:=(HSH.out r hr);simp at this;exact this);have hc3:w3.cell? ⟨LB,I,none⟩=some (.slice (some ⟨tb,0,none⟩) n tc):=(b3.cell (p:=⟨LB,I,none⟩) (by simp;omega)).trans hc2)|(go_at_call 88;refine(gt b off n cap f tb 0 tc (pl lst) w3 HM.out hlow (by have:=b3.size;have:=hBwr.size;omega) (hrow.below (hBwr.trans (b3.mono hBwr.size)) hbs) (by have:=b3.size;omega) ((hr1.below hB ht2).below b3 (by omega))).mono ?_;rintro e w4 ⟨hs4,b4⟩;rw[hEa]at hs4;obtain⟨TB,Tc,hTB,rfl,hTo,hTc⟩:=hs4)|(go_at_call 89;refine(oL b off n cap f TB Tc B c T S w4 h6 (by have:=b3.size;have:=b4.size;have:=hBwr.size;omega) (hrow.below ((hBwr.trans (b3.mono hBwr.size)).trans (b4.mono (by have:=b3.size;have:=hBwr.size;omega))) hbs) hTo.lt hTo.2 hlT (by have:=hown.lt;have:=b3.size;have:=b4.size;omega) ((hown.below b3 hown.lt).below b4 (Gn hown.lt b3.size)).2 hlS).mono ?_;rintro e w5 ⟨rfl,b5⟩;rw[hlx]))
       go_roundw
       case rel=>exact⟨I+1,by omega,by go_num,by rw[HE.out];exact⟨rfl,hlT,TB,Tc,rfl,by have:=b3.size;have:=hBwr.size;omega,hTo.below b5 hTo.lt,hTc⟩,((hB.trans (b3.mono hB.size)).trans (b4.mono (by have:=hB.size;have:=b3.size;omega))).trans (b5.mono (by have:=hB.size;have:=b3.size;have:=b4.size;omega))⟩
       case measure=>simp[intOf];omega
      |false=>
       have h0:dc f n (((az n).take (I+1)).filter p)=some S:=by rw[hE,hres];unfold ck;rw[hEa];simp[hlx]
       have HE:Hid _:=h0;clear h0;clear hE;go_wp2_with(first|(go_at_call 87;refine H2.mono ?_;clear H2;rintro e w3 ⟨⟨r,rfl,hr⟩,b3⟩;have hrs:r<=shift:=(by have:=(HSH.out r hr);simp at this;exact this);have hc3:w3.cell? ⟨LB,I,none⟩=some (.slice (some ⟨tb,0,none⟩) n tc):=(b3.cell (p:=⟨LB,I,none⟩) (by simp;omega)).trans hc2)|(go_at_call 88;refine(gt b off n cap f tb 0 tc (pl lst) w3 HM.out hlow (by have:=b3.size;have:=hBwr.size;omega) (hrow.below (hBwr.trans (b3.mono hBwr.size)) hbs) (by have:=b3.size;omega) ((hr1.below hB ht2).below b3 (by omega))).mono ?_;rintro e w4 ⟨hs4,b4⟩;rw[hEa]at hs4;obtain⟨TB,Tc,hTB,rfl,hTo,hTc⟩:=hs4)|(go_at_call 89;refine(oL b off n cap f TB Tc B c T S w4 h6 (by have:=b3.size;have:=b4.size;have:=hBwr.size;omega) (hrow.below ((hBwr.trans (b3.mono hBwr.size)).trans (b4.mono (by have:=b3.size;have:=hBwr.size;omega))) hbs) hTo.lt hTo.2 hlT (by have:=hown.lt;have:=b3.size;have:=b4.size;omega) ((hown.below b3 hown.lt).below b4 (Gn hown.lt b3.size)).2 hlS).mono ?_;rintro e w5 ⟨rfl,b5⟩;rw[hlx]))
       go_roundw
       case rel=>exact⟨I+1,by omega,by go_num,by rw[HE.out];exact⟨rfl,hlS,B,c,rfl,hBl,((hown.below b3 hown.lt).below b4 (Gn hown.lt b3.size)).below b5 (by have:=hown.lt;have:=b3.size;have:=b4.size;omega),hcb⟩,((hB.trans (b3.mono hB.size)).trans (b4.mono (by have:=hB.size;have:=b3.size;omega))).trans (b5.mono (by have:=hB.size;have:=b3.size;have:=b4.size;omega))⟩
       case measure=>simp[intOf];omega
  .obtain rfl:I=(az n).length:=by omega
   have hlI':¬(((az n).length:Nat):Int)<(M:Int)+1:=by omega
   rw[List.take_length]at hbest;cases hres:dc f n ((az n).filter p)with
   |none=>
    rw[hres]at hbest;obtain⟨rfl,a,c,rfl⟩:=hbest;go_wp2;go_ret2
    exact⟨⟨a,c,rfl⟩,hBw2.trans (hB.mono hBw2.size)⟩
   |some T=>
    rw[hres]at hbest;obtain⟨rfl,_,B,c,rfl,hBl,hown,hcb⟩:=hbest;go_wp2;go_ret2
    exact⟨⟨B,c,hBl,rfl,hown,hcb⟩,hBw2.trans (hB.mono hBw2.size)⟩
def jZ (f:Nat->Mv)(n:Nat)(shift:Int)(p:List Nat->Bool):Option (Nat->Int):=if aw f n=true/\0<=shift/\shift<=6 then dc f n ((az n).filter p)else none
def wN (f:Nat->Mv)(n:Nat)(shift:Int)(p:List Nat->Bool):Prop:=∀g,bg f n g->∀l∈az n,∀r,bO (λi=>((pl l i:Nat):Int)) (λi=>((g i:Nat):Int)) n r->(p l=true<->r<=shift)
theorem yp {r:Option (Nat->Int)}{n:Nat}{w:World}{e:Ending}{w':World}(h:gZ r n w e w'):∃a k c bo,e=.returned (.tuple #[.slice a k c,.bool bo]):=by
 cases r with
 |none=>obtain⟨a,c,rfl⟩:=h;exact⟨a,0,c,false,rfl⟩
 |some T=>obtain⟨B,c,_,rfl,_⟩:=h;exact⟨_,n,c,true,rfl⟩
theorem Ah {r:Option (Nat->Int)}{n:Nat}{w w1:World}{e:Ending}{w':World}(h:gZ r n w1 e w')(hl:w.heap.size<=w1.heap.size):gZ r n w e w':=by
 cases r with
 |none=>exact h
 |some T=>obtain⟨B,c,h1,h2⟩:=h;exact⟨B,c,Gq hl h1,h2⟩
