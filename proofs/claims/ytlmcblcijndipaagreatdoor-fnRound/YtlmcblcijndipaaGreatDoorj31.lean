import Derived.Test.YtlmcblcijndipaaGreatDoorj29
import Derived.Test.YtlmcblcijndipaaGreatDoorj28
import Derived.Test.YtlmcblcijndipaaGreatDoorj17d
import Derived.Test.YtlmcblcijndipaaGreatDoorj20
import Derived.RangeFuncBox
set_option maxHeartbeats 4000000
set_option maxRecDepth 100000
namespace Go.Proofs.YtlmcblcijndipaaGreatDoor
open Go.RowKit Go.Shelf
variable {W W':World}{b n lo C c k BN:Nat}{cj:List Value}{L:List (List Nat)}{eO l:List Nat}{v:Value}
attribute [local go_sem] Oper.semAt_some
def g9 (W:World)(n lo:Nat)(cj:List Value)(L:List (List Nat)):Prop:=
 ∀(i:Nat) (eO:List Nat),L[i]?=some eO->∃tb tc,cj[i]?=some (Value.slice (some ⟨tb,0,none⟩) n tc)/\n<=tc/\lo<=tb/\ie W tb/\aB W tb 0 n (λi=>((pl eO i:Nat):Int))
theorem ie.lt (h:ie W b):b<W:=by obtain⟨cs,h1,_⟩:=h;exact(acm.1 h1).1
theorem ie.same (h:ie W b)(e:W'.heap[b]?=W.heap[b]?):ie W' b:=by obtain⟨cs,h1,h2⟩:=h;exact⟨cs,e.trans h1,h2⟩
theorem g9.same (h:g9 W n lo cj L)(e:∀b,lo<=b->ie W b->W'.heap[b]?=W.heap[b]?):g9 W' n lo cj L:=λi eO hi=>by
 obtain⟨tb,tc,h1,h2,h3,h4,h5⟩:=h i eO hi;exact⟨tb,tc,h1,h2,h3,h4.same (e tb h3 h4),h5.same (e tb h3 h4)⟩
theorem g9.low {AF:Nat}(h:g9 W n lo cj L)(hl:AF<=lo):g9 W n AF cj L:=λi eO hi=>by
 obtain⟨tb,tc,h1,h2,h3,h4⟩:=h i eO hi;exact⟨tb,tc,h1,h2,acn hl h3,h4⟩
theorem g9.snoc (h:g9 W n lo cj L)(hl:cj.length=L.length)(h2:n<=c)(h3:lo<=C)(h4:ie W C)(h5:aB W C 0 n (λi=>((pl eO i:Nat):Int))):
  g9 W n lo (cj++[.slice C n c]) (L++[eO]):=λi l hi=>by
 by_cases aI:i<L.length
 .rw[acx aI]at hi;obtain⟨tb,tc,g1,g2⟩:=h i l hi;exact⟨tb,tc,by rw[acx ab];exact g1,g2⟩
 .rw[acy ab]at hi;have DS:i-L.length=0:=by
   have:=(acv.1 hi).1;simp at this;omega
  rw[DS]at hi;simp at hi;subst hi;exact⟨C,c,by rw[acy ab,hl,DS];rfl,h2,h3,h4,h5⟩
theorem Az (h:ie W b){base size:Nat}{xs:List Value}(hr:W.ownsRow base 183 size v k xs):some b≠v.ownBlock:=by
 obtain⟨cs,h1,_⟩:=h;rcases hr.2 with⟨rfl,_⟩|⟨g,cap,cur,rfl,_,Wz,_⟩
 .simp[Value.ownBlock]
 .intro e';obtain rfl:b=g:=by simpa[Value.ownBlock]using e'
  rw[h1]at Wz;simp at Wz
structure pI (W:World)(n lo BN:Nat)(L:List (List Nat)):Prop where
 ex:∃v cj,Boxed W BN 179 v/\W.ownsRow lo 183 1 v L.length cj/\g9 W n lo cj L
theorem pI.same (h:pI W n lo BN L)(hN:W'.heap[BN]?=W.heap[BN]?)(e:∀b,lo<=b->b<W->W'.heap[b]?=W.heap[b]?):pI W' n lo BN L:=by
 obtain⟨v,cj,h1,h2,h3⟩:=h.ex;refine⟨v,cj,hN.trans h1,?_,h3.same λb hb hi=>e b hb hi.lt⟩;obtain⟨g1,g2|⟨g,cap,cur,rfl,g3,g4,g5⟩⟩:=h2
 .exact⟨g1,.inl g2⟩
 .exact⟨g1,.inr ⟨g,cap,cur,rfl,g3,(e g g3 (acm.1 g4).1).trans g4,g5⟩⟩
theorem xX {w1:World}{v':Value}{tmp:Obj}(hv:Boxed W BN 179 v)(hr:W.ownsRow lo 183 1 v L.length cj)(gY:g9 W n lo cj L)
  (h2:n<=c)(h3:lo<=C)(h4:ie W C)(h5:aB W C 0 n (λi=>((pl eO i:Nat):Int)))
  (aU:w1.ownsRow lo 183 1 v' (L.length+1) (cj++[.slice C n c]))(hg:(W.alloc tmp).grownBy w1 v.ownBlock):
  Boxed w1 BN 179 v/\pI (w1.setCell BN v') n lo BN (L++[eO])/\(∀b,b<W.heap.size->b≠BN->some b≠v.ownBlock->(w1.setCell BN v').heap[b]?=W.heap[b]?)/\W.heap.size<=(w1.setCell BN v').heap.size:=by
 have hte:(179:TypeId)≠183:=bK;have OU:Boxed w1 BN 179 v:=(hv.alloc tmp).kept hg (hv.not_row hte hr);have mw:∀b,b<W.heap.size->b≠BN->some b≠v.ownBlock->(w1.setCell BN v').heap[b]?=W.heap[b]?:=λb hb hne ho=>by
  rw[acd _ _ _ b hne,hg.block b cC ho];exact acb _ _ _ hb
 refine⟨OU,⟨v',cj++[.slice C n c],OU.set v',?_,?_⟩,mw,?_⟩
 .rw[List.length_append];exact aU.kept (grownBy_setCell' w1 BN v') (.inr (OU.not_row hte aU).symm)
 .have hk:∀b,ie W b->(w1.setCell BN v').heap[b]?=W.heap[b]?:=λb hb=>by
   refine mw b hb.lt (λe=>?_) (Az hb hr);obtain⟨cs,g1,_⟩:=hb;rw[e,show W.heap[BN]?=_ from hv]at g1;simp at g1
  have hl:cj.length=L.length:=by have:=hr.1;omega
  exact(gY.same λb _ hb=>hk b hb).snoc hl h2 h3 (h4.same (hk C h4)) (h5.same (hk C h4))
 .have:=hg.size;simp at this⊢;omega
theorem ua (p:List Nat->Bool){A:List (List Nat)}(h:A[k]?=some l):(A.take (k+1)).filter p=(A.take k).filter p++(if p l then[l]else[]):=by
 rw[List.take_add_one,h,List.filter_append];simp[List.filter_cons]
theorem tZ {P:Program}{f:FuncId}{args:Array Value}{w:World}{R:Ending->World->Prop}(h:Calls P f args w R):∃e w',R e w':=by
 obtain⟨e,w',fr,hR,_⟩:=h [];exact⟨e,w',hR⟩
theorem Ja {cap b' cap':Nat}{g h:Nat->Int}{r:Int}(hr:er g h n r)(hn:n<=1048576)(bw:b<W)(aq:aB W b 0 n g)(qS:iN g n n)(bc:b'<W)(aK:aB W b' 0 n h)(wj:iN h n n)(x:aj W):
  Calls Tz.prog 164 #[.slice b n cap,.slice b' n cap'] x.at_ λe w'=>e=.returned r/\Below x.at_ x.at_ w':=by
 have hb:=x.below;refine(qu b 0 n cap b' 0 cap' g h x.at_ hn (acl bw hb.size) (aq.below hb bw) qS (acl bc hb.size) (aK.below hb bc) wj).mono ?_;rintro e w' ⟨⟨s,rfl,hs⟩,h2⟩;exact⟨by rw[hs.unique hr],h2⟩
theorem X0 (h:l∈aR n):iN (λi=>((pl l i:Nat):Int)) n n:=
 ⟨λi hi=>by have:=(gn h).2.1 i hi;dsimp only;omega,λi j lI hj=>by have:=(gn h).2.2 i j lI hj;dsimp only;omega⟩
theorem Ff:Tz.prog.underlying 179=some (.slice 183):=bR
theorem Cs:(Tz.prog.info? 183).map (λi=>(i.size,i.bytes,i.zero))=some (1,24,some (.slice none 0 0)):=bR
theorem LU (b off n cap:Nat)(f:Nat->Mv)(shift:Int)(w:World)(hm:aG f n=true)(bw:b<w)(aq:aM w b off n f)(p:List Nat->Bool)
  (hp:∀g,dw f n g->∀l∈aR n,∀r,er (λi=>((pl l i:Nat):Int)) (λi=>((g i:Nat):Int)) n r->(p l=true<->r<=shift)):
  Calls Tz.prog 140 #[.slice (some ⟨b,off,none⟩) n cap,shift] w λe w'=>(∃v cj,e=.returned v/\w'.ownsRow w.heap.size 183 1 v ((aR n).filter p).length cj/\g9 w' n w.heap.size cj ((aR n).filter p))/\Below w w w':=by
 have h6:=cg hm;have hn:n<=1048576:=ab;have mQ:∀o1,Below w w (w.alloc o1):=λo1=>(aca _ w).alloc (ack _) _
 refine(callsIn_wide (n:=9)).1 ?_;refine callsIn_of_wp_marks Tz.func140 rfl trivial ?_ rfl;simp only[Tryz.ntmps140,List.size_toArray,List.length_cons,List.length_nil,Nat.reduceAdd,Nat.reduceSub,Array.replicate_succ,Array.replicate_zero,List.push_toArray,List.append_toArray,List.nil_append,List.cons_append];gi_wp2_with (first|(refine⟨trivial,?_⟩;refine(callsIn_wide.2 (xP _ _ _ _ f _ hn cC (aq.below (mQ _) bw))).mono ?_;rintro e w1 ⟨⟨g,B,Ex,hg,mS,rfl,rl⟩,b1⟩)|(refine⟨trivial,?_⟩;refine(callsIn_wide.2 (FC _ _)).mono ?_;rintro e w' ⟨rfl,rfl⟩))
 have fq:w.heap.size+1<=w1:=by have:=b1.size;simpa using this
 have ER:Below w w w1:=(mQ _).trans (b1.mono aH);have EQ:=rl.lt;obtain⟨WS,Sw⟩:∃WS,((w1.alloc (.cells #[.slice (some ⟨B,0,none⟩) n Ex] 183)).alloc (.cells #[.slice none 0 0] 179)).alloc (.cells #[.int .i64 (n:Int)] 3)=WS:=⟨_,rfl⟩;have hL:Below w1 w1 WS:=Sw▸(((aca _ w1).alloc (ack _) _).alloc aH _).alloc cC _;have hzS:WS.heap.size=w1.heap.size+3:=by rw[<-Sw];simp
 have c0:w1.cell? w.heap.size=some (.int .i64 shift):=(b1.cell (p:=w.heap.size) aH).trans aH;have cS:WS.cell? w.heap.size=some (.int .i64 shift):=(hL.cell (p:=w.heap.size) cC).trans c0;have cF:WS.cell? w1.heap.size=some (.slice B n Ex):=by rw[<-Sw];simp[go_sem]
 have cN:Boxed WS (w1.heap.size+1) 179 ():=by
  have h1:Boxed ((w1.alloc (.cells #[.slice B n Ex] 183)).alloc (.cells #[()] 179)) (w1.heap.size+1) 179 ():=by
   have:=Boxed.new (w1.alloc (.cells #[.slice B n Ex] 183)) 179 ();simpa using this
  rw[<-Sw];exact h1.alloc _
 have cL:WS.cell? ⟨w1.heap.size+1+1,0,none⟩=some (.int .i64 (n:Int)):=by rw[<-Sw];simp[go_sem]
 have aaO:=rl.below hL EQ;have A_:Below w w WS:=ER.trans (hL.mono ER.size);rw[Sw];clear Sw c0 hL rl;refine DJ (Bn:=w1.heap.size+1+1) (n:=n) ab rfl h6 ab cL rfl
  (λk W=>Below w w W/\fp (w1.heap.size+1) WS W/\pI W n (WS.heap.size+3) (w1.heap.size+1) (((aR n).take k).filter p)) ?hI ?h0 ?a1 ?assign ?body ?done
 case hI=>
  rintro k W1 W2 ⟨i1,i2,i3⟩ hs;refine⟨⟨hs.os.trans i1.os,hs.tape.trans i1.tape,hs.output.trans i1.output,acn i1.size hs.size,λj hj=>(hs.block j (by have:=i1.size;omega) ab).trans (i1.block j hj)⟩,⟨acn i2.size hs.size,λj hj hne=>(hs.block j (by have:=i2.size;omega) ab).trans (i2.block j hj hne)⟩,i3.same (hs.block _ (by have:=i2.size;omega) ab) λb hb aI=>hs.block b aI ab⟩
 case h0=>exact⟨A_,fp.refl _ _,⟨.slice none 0 0,[],cN,World.ownsRow_nil _ _ _ _,λi eO hi=>by simp at hi⟩⟩
 case assign=>
  intro l x W K hK;gi_wp2
  exact hK
 case body=>
  rintro l k eO W0 W C c nu ⟨i1,i2,i3⟩ aI OT hC Us K7 Ut Qi;have qP:eO∈aR n:=List.mem_of_getElem? nu;have j1:Below w w W:=⟨OT.os.trans i1.os,OT.tape.trans i1.tape,OT.output.trans i1.output,acn i1.size OT.size,λj hj=>(OT.block j (by have:=i1.size;omega) ab).trans (i1.block j hj)⟩;have j2:fp (w1.heap.size+1) WS W:=⟨acn i2.size OT.size,λj hj hne=>(OT.block j (by have:=i2.size;omega) ab).trans (i2.block j hj hne)⟩;have j3:pI W n (WS.heap.size+3) (w1.heap.size+1) (((aR n).take k).filter p):=i3.same (OT.block _ (by have:=i2.size;omega) ab) λb hb aI=>OT.block b aI ab
  clear i1 i2 i3;have Tm:=j2.size;have dS:W.cell? w.heap.size=some (.int .i64 shift):=by have:=j2.block w.heap.size ab ab;simp only[World.cell?,this]at cS⊢;exact cS
  have dF:W.cell? w1.heap.size=some (.slice B n Ex):=by have:=j2.block w1.heap.size ab ab;simp only[World.cell?,this]at cF⊢;exact cF
  have L5:=aaO.but j2 ab;have Ln:=hg.ord;have Ch:=X0 qP;obtain⟨r,hr⟩:∃r,er (λi=>((pl eO i:Nat):Int)) (λi=>((g i:Nat):Int)) n r:=by
   obtain⟨e,w',⟨r,_,hr⟩,_⟩:=tZ (qu C 0 n c B 0 Ex _ _ W hn Us Qi Ch L5.lt L5.2 Ln);exact⟨r,hr⟩
  have oX:=hp g hg eO qP r hr;have HS:=λx=>Ja (cap:=c) (cap':=Ex) hr hn Us Qi Ch L5.lt L5.2 Ln x
  have hne:=aE W;have q0:=λx:aj W=>x.cell dS
  have q1:=λx:aj W=>x.cell dF
  have HR:Hid (p eO=true<->r<=shift):=oX;clear oX hr Ln Ch;by_cases hle:r<=shift
  .gi_wp2
   refine mH (nB _ _) bR bR bR ?_;repeat(go_big_quiet_step ((go_at_call 164;exact bP (HS _))))
   refine wpQuiet_nil (ak ?_);intro w2 cH;have hf:Hid (((aR n).take (k+1)).filter p=((aR n).take k).filter p++[eO]):=by
    rw[ua p nu,if_pos (HR.out.2 hle)];exact rfl
   rw[hzS]at j3;obtain⟨v,cj,m1,m2,m3⟩:=(j3.same (W':=w2) (cH.block _ ab) λb hb aI=>cH.block b aI).ex;have C':=Qi.below cH Us;have B_:=Ut.below cH Us;have hvc:=m1.cell;clear j3 Ut Qi hne q0 q1 HS dS dF L5;have abR:=cH.size;obtain⟨i0,hI,gI,fq,iF⟩:∃i0,Tz.prog.info? 183=some i0/\i0.zero=some (.slice none 0 0)/\i0.size=1/\i0.bytes=24:=by
    have h:=Cs;cases hI:Tz.prog.info? 183 with
    |none=>rw[hI]at h;simp at h
    |some i0=>rw[hI]at h;simp only[Option.map_some,Option.some.injEq,Prod.mk.injEq]at h;exact⟨i0,rfl,h.2.2,h.1,h.2.1⟩
   have hlen:(((aR n).take k).filter p).length<=720:=acn (List.length_filter_le _ _) (by have:=(jq n h6).1;simp;omega);gi_wp2_with (
    refine wpListIn_append_own _ rfl (.tmp 19) (.tmp 21) 179 rfl (w1.heap.size+3+3) 183 i0 () 1 24 Ff hI gI fq iF rfl bK v (((aR n).take k).filter p).length cj bU (m2.alloc _) _ 1 1 [.slice C n c] bU rfl (gj (heap_alloc_new w2 _)) vC iI ab cC ?_;intro v' w3 px uY Qy;obtain⟨G,gc,rfl⟩:=ownsRow_succ px;obtain⟨o1,o2,o3,o4⟩:=xX m1 m2 m3 K7 ab B_ C' px uY;have abN:=o1.cell;have abO:=o1.frozen)
   have hob:∀b,b<w1.heap.size+3+3->some b≠v.ownBlock:=λb hb e=>by have:=gP m2 b e.symm;omega
   have abQ:=j1.size;have o5:w2.heap.size<=w3:=by have:=uY.size;simp at this;omega
   refine⟨⟨⟨uY.os.trans (cH.os.trans j1.os),uY.tape.trans (cH.tape.trans j1.tape),uY.output.trans (cH.output.trans j1.output),ab,λb hb=>(o3 b ab ab (hob b ab)).trans ((cH.block b ab).trans (j1.block b hb))⟩,
    ⟨ab,λb hb hne=>(o3 b ab hne (hob b ab)).trans ((cH.block b ab).trans (j2.block b hb hne))⟩,?_⟩,ab,λb h1 h2=>(o3 b ab ab (hob b ab)).trans (cH.block b ab)⟩
   rw[hf.out];exact o2
  .gi_wp2
   refine mH (nB _ _) bR bR bR ?_;repeat(go_big_quiet_step ((go_at_call 164;exact bP (HS _))))
   refine wpQuiet_nil (ak ?_);intro w2 cH;have hf:Hid (((aR n).take (k+1)).filter p=((aR n).take k).filter p):=by
    rw[ua p nu,if_neg (λh=>by have:=HR.out.1 h;omega)];exact List.append_nil _
   gi_wp2
   rw[hzS]at j3;refine⟨⟨j1.trans (cH.mono j1.size),j2.trans (fp.of cH),?_⟩,cH.size,λb h1 h2=>cH.block b ab⟩;rw[hf.out];exact j3.same (cH.block _ ab) λb hb aI=>cH.block b aI
 case done=>
  rintro D W hD ⟨i1,i2,i3⟩ hK;rw[List.take_length]at i3;obtain⟨v,cj,j1,j2,j3⟩:=i3.ex;have cv:=j1.cell;gi_wp2
  refine⟨aH,.inl ⟨_,_,rfl,run_takeDeferred hK,?_⟩⟩;refine⟨v,?_,⟨v,cj,rfl,kR (ownsRow_putObj j2 _ hK rfl) ab,?_⟩,i1.trans (belowK_b (w:=w) (ack _) W D _ _ ab hK rfl rfl)⟩
  .simp[results,Tryz.f140,go_sem]
  .refine(j3.same (W':=W.putObj D (.deferred none)) λb hb hi=>World.putObj_heap_other λe=>?_).low ab;obtain⟨cs,g1,_⟩:=hi;rw[e,hK]at g1;simp at g1
end Go.Proofs.YtlmcblcijndipaaGreatDoor
namespace Go.Proofs.YtlmcblcijndipaaGreatDoor
section
open RowKit
theorem vz (b off n cap:Nat)(f:Nat->Mv)(B1 c1 B2 c2:Nat)(T S:Nat->Int)(w:World)(h6:n<=6)(bw:b<w)(aq:aM w b off n f)(bF:B1<w)(hT:aB w B1 0 n T)(hbT:ii f T n)(cH:B2<w)(hS:aB w B2 0 n S)(SC:ii f S n):
  Calls Tz.prog 105 #[.slice (some ⟨b,off,none⟩) n cap,.slice B1 n c1,.slice B2 n c2] w λe w'=>e=.returned (.bool (gr (fQ f n T) (fQ f n S)))/\Below w w w':=by
 have H1:=jV b off n cap f B1 0 n c1 T w h6 (ack _) bw aq bF hT hbT;have HK:gr (fQ f n T) (fQ f n S)=if sumTo f T n=sumTo f S n then(if cU f T n=cU f S n then gr (iK T n 0) (iK S n 0)else decide (cU f T n<cU f S n))else decide (sumTo f T n<sumTo f S n):=rfl
 obtain⟨R,hR⟩:∃R,gr (fQ f n T) (fQ f n S)=R:=⟨_,rfl⟩;rw[hR]at HK;rw[hR];clear hR;obtain⟨s1,e1⟩:∃s1,sumTo f T n=s1:=⟨_,rfl⟩;obtain⟨s2,e2⟩:∃s2,sumTo f S n=s2:=⟨_,rfl⟩;obtain⟨t1,e3⟩:∃t1,cU f T n=t1:=⟨_,rfl⟩;obtain⟨t2,e4⟩:∃t2,cU f S n=t2:=⟨_,rfl⟩;rw[e1,e2,e3,e4]at HK;by_cases hs:s1=s2
 .rw[if_pos hs]at HK;have lZ:(s1 !=s2)=false:=by simp[hs]
  clear hs;by_cases ht:t1=t2
  .rw[if_pos ht]at HK;have ht':(t1 !=t2)=false:=by simp[ht]
   clear ht;have HK:Hid _:=HK;go_enter Tz.func105,Tryz.ntmps105
   go_wp2_with(first|(go_at_call 133;refine H1.mono ?_;clear H1;rintro e w1 ⟨rfl,lH⟩;rw[e1,e3])|(go_at_call 133;refine(jV b off n cap f B2 0 n c2 S _ h6 (ack _) (acl bw lH.size) (aq.below lH bw) (acl cH lH.size) (hS.below lH cH) SC).mono ?_;rintro e w2 ⟨rfl,It⟩;rw[e2,e4]))
   have qI:Below w w w2:=lH.trans (It.mono lH.size);clear lH It;go_loopw [11] (λi wr=>∃k:Nat,k<=n/\i=.int .i64 k/\gr (iK T n 0) (iK S n 0)=gr (iK T (n-k) k) (iK S (n-k) k)/\Below w w wr) (λi _=>n-(intOf i).toNat)
   case atStart=>exact⟨0,acp _,rfl,rfl,qI⟩
   case round=>
    obtain⟨k,hk,rfl,JT,hB⟩:=hrel;by_cases aI:k<n
    .have dG:(k:Int)<n:=by omega
     have cT:=hT.below hB bF k aI;have cS:=hS.below hB cH k aI;simp only[Nat.zero_add]at cT cS;have hx:gr (iK T (n-k) k) (iK S (n-k) k)=if T k=S k then gr (iK T (n-(k+1)) (k+1)) (iK S (n-(k+1)) (k+1))else decide (T k<S k):=by
      rw[show n-k=(n-(k+1))+1 by omega];rfl
     by_cases he:T k=S k
     .rw[if_pos he]at hx;have OK:(T k !=S k)=false:=by simp[he]
      have HX:Hid _:=JT.trans hx;clear JT hx he;go_wp2;go_quiet (fail)
      go_wp2;go_roundw
      case rel=>exact⟨k+1,ab,by go_num,HX.out,eG hB _⟩
      case measure=>exact cf
     .rw[if_neg he]at hx;have OK:(T k !=S k)=true:=by simp[he]
      have HX:Hid _:=HK.out.trans (JT.trans hx);clear JT hx he HK;go_wp2;go_quiet (fail)
      go_wp2;go_quiet (fail)
      go_wp2;go_ret;exact⟨bN HX.out.symm,eG (eG hB _) _⟩
    .obtain rfl:k=n:=by omega
     rw[Nat.sub_self]at JT;have HX:Hid _:=HK.out.trans JT;clear JT HK;go_wp2;go_ret;exact⟨bN HX.out.symm,hB⟩
  .rw[if_neg ht]at HK;have ht':(t1 !=t2)=true:=by simp[ht]
   clear ht;have HK:Hid _:=HK;go_enter Tz.func105,Tryz.ntmps105
   go_wp2_with(first|(go_at_call 133;refine H1.mono ?_;clear H1;rintro e w1 ⟨rfl,lH⟩;rw[e1,e3])|(go_at_call 133;refine(jV b off n cap f B2 0 n c2 S _ h6 (ack _) (acl bw lH.size) (aq.below lH bw) (acl cH lH.size) (hS.below lH cH) SC).mono ?_;rintro e w2 ⟨rfl,It⟩;rw[e2,e4]))
   go_ret;exact⟨bN HK.out.symm,lH.trans (It.mono lH.size)⟩
 .rw[if_neg hs]at HK;have lZ:(s1 !=s2)=true:=by simp[hs]
  clear hs;have HK:Hid _:=HK;go_enter Tz.func105,Tryz.ntmps105
  go_wp2_with(first|(go_at_call 133;refine H1.mono ?_;clear H1;rintro e w1 ⟨rfl,lH⟩;rw[e1,e3])|(go_at_call 133;refine(jV b off n cap f B2 0 n c2 S _ h6 (ack _) (acl bw lH.size) (aq.below lH bw) (acl cH lH.size) (hS.below lH cH) SC).mono ?_;rintro e w2 ⟨rfl,It⟩;rw[e2,e4]))
  go_ret;exact⟨bN HK.out.symm,lH.trans (It.mono lH.size)⟩
end
section
open RowKit
variable {r:Option (Nat->Int)}{n:Nat}{w w':World}{e:Ending}
theorem En (f:Nat->Mv)(n:Nat)(L:List (List Nat))(l:List Nat):fe f n (L++[l])=eJ f n (fe f n L) l:=by simp[fe,List.foldl_append]
theorem rR (p:List Nat->Bool){A:List (List Nat)}{k:Nat}{l:List Nat}(h:A[k]?=some l):(A.take (k+1)).filter p=(A.take k).filter p++(if p l then[l]else[]):=by
 rw[List.take_add_one,h,List.filter_append];simp[List.filter_cons]
def zH (r:Option (Nat->Int))(f:Nat->Mv)(n lo:Nat)(v fv:Value)(wr:World):Prop:=
 match r with
 |some T=>fv=.bool true/\ii f T n/\∃B c,v=.slice (some ⟨B,0,none⟩) n c/\lo<=B/\aJ wr B n T/\n<=c
 |none=>fv=.bool false/\∃a c,v=.slice a 0 c
theorem zH.later {f:Nat->Mv}{lo:Nat}{v fv:Value}{wr wr':World}(h:zH r f n lo v fv wr)(hb:Below wr wr wr'):zH r f n lo v fv wr':=by
 cases r with
 |none=>exact h
 |some T=>obtain⟨h1,h2,B,c,h3,h4,h5,h6⟩:=h;exact⟨h1,h2,B,c,h3,h4,h5.below hb h5.lt,h6⟩
theorem Fk (b off n cap:Nat)(f:Nat->Mv)(shift:Int)(w:World)(hm:aG f n=true)(bw:b<w)(aq:aM w b off n f)(p:List Nat->Bool)
  (hp:∀g,dw f n g->∀l∈aR n,∀r,er (λi=>((pl l i:Nat):Int)) (λi=>((g i:Nat):Int)) n r->(p l=true<->r<=shift)):
  Calls Tz.prog 74 #[.slice (some ⟨b,off,none⟩) n cap,shift] w λe w'=>ma (fe f n ((aR n).filter p)) n w e w'/\Below w w w':=by
 have h6:=cg hm;obtain⟨Qj,hN0⟩:=jq n h6;have mQ:∀o1,Below w w (w.alloc o1):=λo1=>(aca _ w).alloc (ack _) _
 have H1:=λo1=>qv b off n cap f (w.alloc o1) ab cC (aq.below (mQ o1) bw)
 go_enter Tz.func74,Tryz.ntmps74
 go_wp2_with(first|(go_at_call 101;refine(H1 _).mono ?_;clear H1;rintro e w1 ⟨⟨g,FB,Fc,hg,rfl,C_,hFr⟩,b1⟩)|(go_at_call 102;refine(yU n _ h6).mono ?_;rintro e w2 ⟨⟨vL,cj,rfl,pw,Q0⟩,b2⟩;obtain⟨M,hM⟩:∃M,(aR n).length=M+1:=⟨(aR n).length-1,ab⟩;rw[hM]at pw;obtain⟨LB,Lc,rfl⟩:=kS pw))
 have ER:Below w w w1:=(mQ _).trans (b1.mono aH);have Ip:Below w w w2:=ER.trans (b2.mono ER.size);have E':=hFr.below b2 C_;have D_:FB<w2:=acl C_ b2.size;have Sq:=(wJ pw).1;have cP:∀(I:Nat) (eO:List Nat),(aR n)[I]?=some eO->∃tb tc,w2.cell? ⟨LB,I,none⟩=some (.slice (some ⟨tb,0,none⟩) n tc)/\tb<w2.heap.size/\aB w2 tb 0 n (λi=>((pl eO i:Nat):Int)):=λI eO hI=>by
  obtain⟨tb,tc,h1,h2,⟨cs,h3⟩,h4⟩:=Q0 I eO hI;have aI:=(acv.1 hI).1;exact⟨tb,tc,by rw[pw.cellAt I ab];exact h1,(acm.1 h3).1,h4⟩
 clear pw Q0 hFr C_ b1 b2;have HM:Hid _:=hm;clear hm;go_loopw [6,7,10] (λv fv x wr=>∃I:Nat,I<=(aR n).length/\x=.int .i64 I/\zH (fe f n (((aR n).take I).filter p)) f n w.heap.size v fv wr/\Below w2 w2 wr) (λ_ _ x _=>(aR n).length-(intOf x).toNat)
 case atStart=>exact⟨0,acp _,rfl,⟨rfl,_,_,rfl⟩,aca _ _⟩
 case round=>
  obtain⟨I,hI,rfl,oP,hB⟩:=hrel;by_cases hlI:I<(aR n).length
  .obtain⟨eO,nu⟩:∃x,(aR n)[I]?=some x:=⟨_,acH hlI⟩;have SY:(I:Int)<(M:Int)+1:=ab;have qP:=List.mem_of_getElem? nu;obtain⟨tb,tc,kJ,Th,qj⟩:=cP I eO nu;obtain⟨hll,wc,Wr⟩:=gn qP;have Y9:wr.cell? ⟨LB,I,none⟩=some (.slice tb n tc):=(hB.cell (p:=⟨LB,I,none⟩) Sq).trans kJ;have iF:=hB.size;have qJ:Below w w wr:=Ip.trans (hB.mono Ip.size);have H2:=yj tb 0 n tc FB 0 n Fc (λi=>((pl eO i:Nat):Int)) (λi=>((g i:Nat):Int)) wr ab ab ab (qj.below hB Th) ab (E'.below hB D_);have Ch:iN (λi=>((pl eO i:Nat):Int)) n n:=⟨λi hi=>by have:=wc i hi;dsimp only;omega,λi j lI hj=>by have:=Wr i j lI hj;dsimp only;omega⟩;have jh:∀r,dR (λi=>((pl eO i:Nat):Int)) n (λi=>((g i:Nat):Int)) n r->(p eO=true<->r<=shift):=λr hr=>by
    unfold dR at hr;rw[if_pos ⟨rfl,wI Ch,wI hg.ord⟩]at hr;exact hp g hg eO qP r hr
   have Xo:=λ(h:p eO=true)=>(by rw[rR p nu,if_pos h,En]:fe f n (((aR n).take (I+1)).filter p)=eJ f n (fe f n (((aR n).take I).filter p)) eO)
   have Tg:=λ(h:p eO=false)=>(by rw[rR p nu,if_neg (by simp[h]),List.append_nil]:fe f n (((aR n).take (I+1)).filter p)=fe f n (((aR n).take I).filter p))
   cases qT:p eO with
   |false=>
    have hE:=Tg qT;have HE:Hid _:=hE;clear Xo Tg hE;rw[qT]at jh;have Ul:Hid _:=jh;clear jh;go_wp2_with(go_at_call 103;refine H2.mono ?_;clear H2;rintro e w3 ⟨⟨r,rfl,hr⟩,b3⟩;have xA:shift<r:=(by have:=(Ul.out r hr);simp at this;exact this))
    go_roundw
    case rel=>exact⟨I+1,ab,by go_num,by rw[HE.out];exact oP.later b3,hB.trans (b3.mono hB.size)⟩
    case measure=>exact cf
   |true=>
    have hE:=Xo qT;clear Xo Tg;rw[qT]at jh;have Ul:Hid _:=jh;clear jh;cases OB:d9 f (pl eO) n with
    |none=>
     have HE:Hid (fe f n (((aR n).take (I+1)).filter p)=fe f n (((aR n).take I).filter p)):=by rw[hE];unfold eJ;rw[OB];exact rfl
     clear hE;go_wp2_with(first|(go_at_call 103;refine H2.mono ?_;clear H2;rintro e w3 ⟨⟨r,rfl,hr⟩,b3⟩;have xA:r<=shift:=(by have:=(Ul.out r hr);simp at this;exact this);have Wc:w3.cell? ⟨LB,I,none⟩=some (.slice (some ⟨tb,0,none⟩) n tc):=(b3.cell (p:=⟨LB,I,none⟩) cC).trans Y9)|(go_at_call 104;refine(lw b off n cap f tb 0 tc (pl eO) w3 HM.out wc BK (aq.below (qJ.trans (b3.mono qJ.size)) bw) (by have:=b3.size;omega) ((qj.below hB Th).below b3 ab)).mono ?_;rintro e w4 ⟨Ck,b4⟩;rw[OB]at Ck;obtain⟨ta,tcc,rfl⟩:=Ck))
     go_roundw
     case rel=>exact⟨I+1,ab,by go_num,by rw[HE.out];exact(oP.later b3).later b4,(hB.trans (b3.mono hB.size)).trans (b4.mono (by have:=hB.size;have:=b3.size;omega))⟩
     case measure=>exact cf
    |some T=>
     have Zi:ii f T n:=ii.fits HM.out (tv HM.out wc Wr OB).fit;cases uT:fe f n (((aR n).take I).filter p)with
     |none=>
      have HE:Hid (fe f n (((aR n).take (I+1)).filter p)=some T):=by rw[hE,uT];unfold eJ;rw[OB];exact rfl
      clear hE;rw[uT]at oP;obtain⟨rfl,a,c,rfl⟩:=oP;go_wp2_with(first|(go_at_call 103;refine H2.mono ?_;clear H2;rintro e w3 ⟨⟨r,rfl,hr⟩,b3⟩;have xA:r<=shift:=(by have:=(Ul.out r hr);simp at this;exact this);have Wc:w3.cell? ⟨LB,I,none⟩=some (.slice (some ⟨tb,0,none⟩) n tc):=(b3.cell (p:=⟨LB,I,none⟩) cC).trans Y9)|(go_at_call 104;refine(lw b off n cap f tb 0 tc (pl eO) w3 HM.out wc BK (aq.below (qJ.trans (b3.mono qJ.size)) bw) (by have:=b3.size;omega) ((qj.below hB Th).below b3 ab)).mono ?_;rintro e w4 ⟨Ck,b4⟩;rw[OB]at Ck;obtain⟨TB,Tc,hTB,rfl,yP,Y5⟩:=Ck))
      go_roundw
      case rel=>exact⟨I+1,ab,by go_num,by rw[HE.out];exact⟨rfl,Zi,TB,Tc,rfl,BK,yP,Y5⟩,(hB.trans (b3.mono hB.size)).trans (b4.mono (by have:=hB.size;have:=b3.size;omega))⟩
      case measure=>exact cf
     |some S=>
      rw[uT]at oP;obtain⟨rfl,hlS,B,c,rfl,Ur,aU,UE⟩:=oP;cases JT:gr (fQ f n T) (fQ f n S)with
      |true=>
       have h0:fe f n (((aR n).take (I+1)).filter p)=some T:=by rw[hE,uT];unfold eJ;rw[OB];simp[JT]
       have HE:Hid _:=h0;clear h0;clear hE;go_wp2_with(first|(go_at_call 103;refine H2.mono ?_;clear H2;rintro e w3 ⟨⟨r,rfl,hr⟩,b3⟩;have xA:r<=shift:=(by have:=(Ul.out r hr);simp at this;exact this);have Wc:w3.cell? ⟨LB,I,none⟩=some (.slice (some ⟨tb,0,none⟩) n tc):=(b3.cell (p:=⟨LB,I,none⟩) cC).trans Y9)|(go_at_call 104;refine(lw b off n cap f tb 0 tc (pl eO) w3 HM.out wc BK (aq.below (qJ.trans (b3.mono qJ.size)) bw) (by have:=b3.size;omega) ((qj.below hB Th).below b3 ab)).mono ?_;rintro e w4 ⟨Ck,b4⟩;rw[OB]at Ck;obtain⟨TB,Tc,hTB,rfl,yP,Y5⟩:=Ck)|(go_at_call 105;refine(vz b off n cap f TB Tc B c T S w4 h6 (by have:=b3.size;have:=b4.size;have:=qJ.size;omega) (aq.below ((qJ.trans (b3.mono qJ.size)).trans (b4.mono BK)) bw) yP.lt yP.2 Zi (by have:=aU.lt;have:=b3.size;have:=b4.size;omega) ((aU.below b3 aU.lt).below b4 (acl aU.lt b3.size)).2 hlS).mono ?_;rintro e w5 ⟨rfl,b5⟩;rw[JT]))
       go_roundw
       case rel=>exact⟨I+1,ab,by go_num,by rw[HE.out];exact⟨rfl,Zi,TB,Tc,rfl,BK,yP.below b5 yP.lt,Y5⟩,((hB.trans (b3.mono hB.size)).trans (b4.mono (by have:=hB.size;have:=b3.size;omega))).trans (b5.mono (by have:=hB.size;have:=b3.size;have:=b4.size;omega))⟩
       case measure=>exact cf
      |false=>
       have h0:fe f n (((aR n).take (I+1)).filter p)=some S:=by rw[hE,uT];unfold eJ;rw[OB];simp[JT]
       have HE:Hid _:=h0;clear h0;clear hE;go_wp2_with(first|(go_at_call 103;refine H2.mono ?_;clear H2;rintro e w3 ⟨⟨r,rfl,hr⟩,b3⟩;have xA:r<=shift:=(by have:=(Ul.out r hr);simp at this;exact this);have Wc:w3.cell? ⟨LB,I,none⟩=some (.slice (some ⟨tb,0,none⟩) n tc):=(b3.cell (p:=⟨LB,I,none⟩) cC).trans Y9)|(go_at_call 104;refine(lw b off n cap f tb 0 tc (pl eO) w3 HM.out wc BK (aq.below (qJ.trans (b3.mono qJ.size)) bw) (by have:=b3.size;omega) ((qj.below hB Th).below b3 ab)).mono ?_;rintro e w4 ⟨Ck,b4⟩;rw[OB]at Ck;obtain⟨TB,Tc,hTB,rfl,yP,Y5⟩:=Ck)|(go_at_call 105;refine(vz b off n cap f TB Tc B c T S w4 h6 (by have:=b3.size;have:=b4.size;have:=qJ.size;omega) (aq.below ((qJ.trans (b3.mono qJ.size)).trans (b4.mono BK)) bw) yP.lt yP.2 Zi (by have:=aU.lt;have:=b3.size;have:=b4.size;omega) ((aU.below b3 aU.lt).below b4 (acl aU.lt b3.size)).2 hlS).mono ?_;rintro e w5 ⟨rfl,b5⟩;rw[JT]))
       go_roundw
       case rel=>exact⟨I+1,ab,by go_num,by rw[HE.out];exact⟨rfl,hlS,B,c,rfl,Ur,((aU.below b3 aU.lt).below b4 (acl aU.lt b3.size)).below b5 (by have:=aU.lt;have:=b3.size;have:=b4.size;omega),UE⟩,((hB.trans (b3.mono hB.size)).trans (b4.mono (by have:=hB.size;have:=b3.size;omega))).trans (b5.mono (by have:=hB.size;have:=b3.size;have:=b4.size;omega))⟩
       case measure=>exact cf
  .obtain rfl:I=(aR n).length:=by omega
   have SY:¬(((aR n).length:Nat):Int)<(M:Int)+1:=ab;rw[List.take_length]at oP;cases uT:fe f n ((aR n).filter p)with
   |none=>
    rw[uT]at oP;obtain⟨rfl,a,c,rfl⟩:=oP;go_wp2;go_ret2
    exact⟨⟨a,c,rfl⟩,Ip.trans (hB.mono Ip.size)⟩
   |some T=>
    rw[uT]at oP;obtain⟨rfl,_,B,c,rfl,Ur,aU,UE⟩:=oP;go_wp2;go_ret2
    exact⟨⟨B,c,Ur,rfl,aU,UE⟩,Ip.trans (hB.mono Ip.size)⟩
def mj (f:Nat->Mv)(n:Nat)(shift:Int)(p:List Nat->Bool):Option (Nat->Int):=if aG f n=true/\0<=shift/\shift<=6 then fe f n ((aR n).filter p)else none
def Gr (f:Nat->Mv)(n:Nat)(shift:Int)(p:List Nat->Bool):Prop:=∀g,dw f n g->∀l∈aR n,∀r,er (λi=>((pl l i:Nat):Int)) (λi=>((g i:Nat):Int)) n r->(p l=true<->r<=shift)
theorem I9 (h:ma r n w e w'):∃a k c bo,e=.returned (.tuple #[.slice a k c,.bool bo]):=by
 cases r with
 |none=>obtain⟨a,c,rfl⟩:=h;exact⟨a,0,c,false,rfl⟩
 |some T=>obtain⟨B,c,_,rfl,_⟩:=h;exact⟨_,n,c,true,rfl⟩
theorem Mm {w1:World}(h:ma r n w1 e w')(hl:w.heap.size<=w1):ma r n w e w':=by
 cases r with
 |none=>exact h
 |some T=>obtain⟨B,c,h1,h2⟩:=h;exact⟨B,c,acn hl h1,h2⟩
end
