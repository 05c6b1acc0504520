import Derived.Test.YtlmcblcijndipaaGreatDoorj43
set_option linter.unusedVariables false
set_option linter.unusedSectionVars false
set_option maxHeartbeats 4000000
set_option maxRecDepth 100000
namespace Go.Proofs.YtlmcblcijndipaaGreatDoor
section
open RowKit
theorem IF (g:Value)(w:World):Calls Tz.prog 280 #[(),g] w λe w'=>e=.returned (.int .i64 (-1))/\Below w w w':=by
 go_enter Tz.func280,Tryz.ntmps280
 go_wp2;go_loopw [8] (λi w'=>i=.int .i64 0/\Below w w w') (λ_ _=>0)
 case atStart=>exact⟨rfl,aca _ _⟩
 case round=>
  obtain⟨rfl,hB⟩:=hrel;go_wp2;go_ret;exact⟨rfl,hB⟩
theorem C0 (ao:Option Addr)(n cap:Nat)(f:Nat->Mv)(name:ByteArray)(w:World)(hn:n<=6)(hv:ik w ao n cap f):
  Calls Tz.prog 278 #[.slice ao n cap,name] w λe w'=>(∃k:Int,e=.returned (.int .i64 k)/\ij f n name k)/\Below w w w':=by
 cases ao with
 |some ad=>
  obtain⟨b,rfl,hb,hr⟩:=hv.2 _ rfl;exact CZ b 0 n cap f name w ab hb hr
 |none=>
  obtain⟨rfl,rfl⟩:=hv.1 rfl;have b0:Below w w (w.alloc (.cells #[name] 9)):=(aca _ w).alloc (ack _) _;have hI:=λg=>IF g (w.alloc (.cells #[name] 9))
  go_enter Tz.func278,Tryz.ntmps278
  go_wp2_with(go_at_call 280;refine(hI _).mono ?_;rintro e w1 ⟨rfl,b1⟩)
  go_ret;exact⟨⟨-1,rfl,.inl ⟨rfl,λi hi=>absurd hi (aco _)⟩⟩,b0.trans (b1.mono b0.size)⟩
theorem Gt (t ty e:TypeId)(i:TypeInfo)(ht:Tz.prog.underlying t=some (.slice e))(hi:Tz.prog.info? e=some i)(s:Option Addr)(c:Nat)(w:World):(Builtin.append_ #[t,t] ty #[(),.slice s 0 c]).run Tz.prog w=.ok () w:=by
 cases s<;>simp[Builtin.append_,run_underlying ht,sizeOf,typeInfo,hi,Builtin.lenOf,Builtin.firstCells,loadCells,loadCellsFrom]
theorem EE (now shift:Int)(ao:Option Addr)(ca:Nat)(bo:Option Addr)(da:Nat)(w:World):Calls Tz.prog 69 #[.agg #[now,shift,.slice ao 0 ca,.slice bo 0 da]] w λe w'=>e=.returned (.agg #[now,shift,(),()])/\Below w w w':=by
 obtain⟨iM,hI,gI,fq,iF⟩:=info_parts Ay;obtain⟨i0,GB,ID,D0,E9⟩:=info_parts LF;have a1:=λty s c W=>Gt 23 ty _ _ (Tz.az Tryz.underlying23) hI s c W
 have a2:=λty s c W=>Gt 27 ty _ _ (Tz.az Tryz.underlying27) GB s c W
 have qI:∀o1 o2,Below w w ((w.alloc o1).alloc o2):=λo1 o2=>((aca _ w).alloc (ack _) _).alloc aH _
 cases ao<;>cases bo
 all_goals
  go_enter Tz.func69,Tryz.ntmps69
  go_wp2;refine bodyPost_ret (v:=.agg #[now,shift,(),()]) (by simp[results,Tryz.results69,go_sem]) rfl ⟨rfl,?_⟩;exact qI _ _
theorem vN (now shift:Int)(ao:Option Addr)(n cap:Nat)(f:Nat->Mv)(bo:Option Addr)(m cap':Nat)(t:Nat->Int)(w:World)(hn:n<=6)(hm:m<=6)(hv:ik w ao n cap f)(hu:jG w bo m cap' t)(h2:ao=none\/bo=none->n=0/\m=0):
  Calls Tz.prog 69 #[.agg #[now,shift,.slice ao n cap,.slice bo m cap']] w λe w'=>(∃v u,e=.returned (N6 now shift v u)/\w'.ownsRow w.heap.size 31 6 v n (fh f n)/\w'.ownsRow w.heap.size 3 1 u m (eN t m))/\Below w w w':=by
 by_cases h:ao=none\/bo=none
 .obtain⟨rfl,rfl⟩:=h2 h;refine(EE now shift ao cap bo cap' w).mono ?_;rintro e w' ⟨rfl,hb⟩;exact⟨⟨_,_,rfl,⟨rfl,.inl ⟨rfl,rfl⟩⟩,⟨rfl,.inl ⟨rfl,rfl⟩⟩⟩,hb⟩
 .cases ao with
  |none=>exact absurd (.inl rfl) h
  |some ad=>
   cases bo with
   |none=>exact absurd (.inr rfl) h
   |some ad'=>
    obtain⟨b,rfl,hb,hr⟩:=hv.2 _ rfl;obtain⟨b',rfl,cZ,eM⟩:=hu.2 _ rfl;exact ED now shift b 0 n cap f b' 0 m cap' t w ab ab hb hr cZ eM
theorem CF (now shift tick:Int)(ao:Option Addr)(ca:Nat)(bo:Option Addr)(da:Nat)(w:World):Calls Tz.prog 47 #[.agg #[now,shift,.slice ao 0 ca,.slice bo 0 da],tick] w λe w'=>e=.returned ()/\Below w w w':=by
 have b0:Below w w (w.alloc (.cells #[now,shift,.slice ao 0 ca,.slice bo 0 da] 29)):=(aca _ w).alloc (ack _) _;go_enter Tz.func47,Tryz.ntmps47
 go_wp2;go_loopw [5,11] (λs i w'=>s=()/\i=.int .i64 0/\Below w w w') (λ_ _ _=>0)
 case atStart=>exact⟨rfl,rfl,b0⟩
 case round=>
  obtain⟨rfl,rfl,hB⟩:=hrel;go_wp2;go_ret;exact⟨rfl,hB⟩
theorem CG (now shift tick:Int)(ao:Option Addr)(n cap:Nat)(f:Nat->Mv)(bo:Option Addr)(cap':Nat)(t:Nat->Int)(w:World)(hn:n<=6)(hv:ik w ao n cap f)(hu:jG w bo n cap' t)(h2:ao=none\/bo=none->n=0):
  Calls Tz.prog 47 #[.agg #[now,shift,.slice ao n cap,.slice bo n cap'],tick] w λe w'=>(∃s,e=.returned s/\w'.ownsRow w.heap.size 9 1 s (gone tick t n).length (jM f (gone tick t n)))/\Below w w w':=by
 by_cases h:ao=none\/bo=none
 .obtain rfl:=h2 h;refine(CF now shift tick ao cap bo cap' w).mono ?_;rintro e w' ⟨rfl,hb⟩;exact⟨⟨_,rfl,⟨rfl,.inl ⟨rfl,rfl⟩⟩⟩,hb⟩
 .cases ao with
  |none=>exact absurd (.inl rfl) h
  |some ad=>
   cases bo with
   |none=>exact absurd (.inr rfl) h
   |some ad'=>
    obtain⟨b,rfl,hb,hr⟩:=hv.2 _ rfl;obtain⟨b',rfl,cZ,eM⟩:=hu.2 _ rfl;exact CE now shift tick b 0 n cap f b' 0 cap' t w hn hb hr cZ eM
end
section
open Conc RowKit
theorem sz {w w':World}{b n:Nat}{t:Nat->Int}(h:aB w b 0 n t)(e:w'.heap[b]?=w.heap[b]?):aB w' b 0 n t:=λi hi=>by
 have:=h i hi;simp only[World.cell?,e]at this⊢;exact this
theorem ik.bl {w W:World}{ao:Option Addr}{n c:Nat}{f:Nat->Mv}(h:ik w ao n c f)(hb:Bl w w W):ik W ao n c f:=
 ⟨h.1,λad had=>by obtain⟨b,e,hl,hr⟩:=h.2 ad had;exact⟨b,e,acl hl hb.size,dm hr (hb.block b hl)⟩⟩
theorem jG.bl {w W:World}{ao:Option Addr}{n c:Nat}{t:Nat->Int}(h:jG w ao n c t)(hb:Bl w w W):jG W ao n c t:=
 ⟨h.1,λad had=>by obtain⟨b,e,hl,hr⟩:=h.2 ad had;exact⟨b,e,acl hl hb.size,sz hr (hb.block b hl)⟩⟩
structure Bq (w:World)(now shift:Int)(ao:Option Addr)(n cp:Nat)(f:Nat->Mv)(bo:Option Addr)(m dp:Nat)(t:Nat->Int):Prop where
 n6:n<=6
 m6:m<=6
 sm:ik w ao n cp f
 si:jG w bo m dp t
 two:ao=none\/bo=none->n=0/\m=0/\(0<=now/\now<=10000)/\0<=shift/\shift<=6
 fit:∀i,i<n->(f i).Fits
section
variable {w W:World}{now shift:Int}{ao:Option Addr}{n cp:Nat}{f:Nat->Mv}{bo:Option Addr}{m dp:Nat}{t:Nat->Int}
theorem Bq.bl (h:Bq w now shift ao n cp f bo m dp t)(hb:Bl w w W):Bq W now shift ao n cp f bo m dp t:=⟨h.n6,h.m6,h.sm.bl hb,h.si.bl hb,h.two,h.fit⟩
theorem Bq.cases (h:Bq w now shift ao n cp f bo m dp t){P:Prop}(h0:n=0->m=0->0<=now/\now<=10000->0<=shift/\shift<=6->P)(h1:∀b b',ao=some ⟨b,0,none⟩->bo=some ⟨b',0,none⟩->b<w.heap.size->aM w b 0 n f->b'<w.heap.size->aB w b' 0 m t->P):P:=by
 by_cases hh:ao=none\/bo=none
 .obtain⟨e1,e2,e3,e4⟩:=h.two hh;exact h0 e1 e2 e3 e4
 .cases ao with
  |none=>exact absurd (.inl rfl) hh
  |some ad=>
   cases bo with
   |none=>exact absurd (.inr rfl) hh
   |some ad'=>
    obtain⟨b,rfl,hb,hr⟩:=h.sm.2 _ rfl;obtain⟨b',rfl,cZ,eM⟩:=h.si.2 _ rfl;exact h1 b b' rfl rfl hb hr cZ eM
theorem Bq.ib (h:Bq w now shift ao n cp f bo m dp t):Calls Tz.prog 16 #[.agg #[now,shift,.slice ao n cp,.slice bo m dp]] w λe w'=>e=.returned (.bool (bp now shift f n t m))/\Below w w w':=by
 have h6:=h.n6;have hm6:=h.m6;refine h.cases (λe1 e2 r1 r2=>?_) (λb b' e1 e2 hb hr cZ eM=>?_)
 .subst e1 e2;rw[pL r1 r2];exact so now shift w r1 r2
 .subst e1 e2;exact sw now shift b 0 n cp f b' 0 m dp t w ab iI hb hr cZ eM
theorem Bq.sk (h:Bq w now shift ao n cp f bo m dp t):Calls Tz.prog 39 #[.agg #[now,shift,.slice ao n cp,.slice bo m dp]] w λe w'=>e=.returned (.bool (bp now shift f n t m))/\Below w w w':=by
 have h6:=h.n6;have hm6:=h.m6;refine h.cases (λe1 e2 r1 r2=>?_) (λb b' e1 e2 hb hr cZ eM=>?_)
 .subst e1 e2;rw[pL r1 r2];exact nL now shift w r1 r2
 .subst e1 e2;exact nM now shift b 0 n cp f b' 0 m dp t w ab iI hb hr h.fit cZ eM
theorem zB (r1:0<=now/\now<=10000)(r2:0<=shift/\shift<=6):eX now shift f 0 t 0=true:=p9 (pL r1 r2) λp hp=>absurd hp (aco _)
theorem Bq.su (h:Bq w now shift ao n cp f bo m dp t):Calls Tz.prog 26 #[.agg #[now,shift,.slice ao n cp,.slice bo m dp]] w λe w'=>e=.returned (.bool (eX now shift f n t m))/\Below w w w':=by
 have h6:=h.n6;have hm6:=h.m6;refine h.cases (λe1 e2 r1 r2=>?_) (λb b' e1 e2 hb hr cZ eM=>?_)
 .subst e1 e2;rw[zB r1 r2];exact AV now shift w r1 r2
 .subst e1 e2;exact nN now shift b n cp f b' m dp t w ab iI hb hr h.fit cZ eM
end
def Uj (now shift:Int)(f:Nat->Mv)(n:Nat)(t:Nat->Int)(m N:Nat)(y:Value)(W:World):Prop:=∃v u,y=N6 now shift v u/\W.ownsRow N 31 6 v n (fh f n)/\W.ownsRow N 3 1 u m (eN t m)
theorem cpp (now shift:Int)(f:Nat->Mv)(n:Nat)(t:Nat->Int)(m:Nat):Uk (Uj now shift f n t m) now shift where
 is:=λ⟨v,u,e,h1,h2⟩=>by
  obtain⟨a,cc,rfl⟩:=je h1;obtain⟨a',c',rfl⟩:=je h2;exact⟨_,_,_,_,_,_,e⟩
 to:=λ⟨v,u,e,h1,h2⟩ hN h=>⟨v,u,e,bG (ay h1 λB hB=>h B (h1.lt B hB).1 (h1.lt B hB).2) hN,bG (ay h2 λB hB=>h B (h2.lt B hB).1 (h2.lt B hB).2) hN⟩
noncomputable def fS (f:Nat->Mv)(n:Nat)(t:Nat->Int)(now k:Int):Int ⊕ Nat×(Nat->Int):=
 if k<0 then .inl 3 else if(f k.toNat).an=false then .inl 3 else if t k.toNat=now then(match dc f n t k.toNat with|none=>.inl 5|some T=>.inr (k.toNat,T))else .inl 6
def Um (now shift:Int)(f:Nat->Mv)(n:Nat)(t:Nat->Int)(name:ByteArray)(N:Nat)(y e:Value)(W:World):Prop:=∃k,ij f n name k/\match fS f n t now k with
 |.inl cd=>y=.agg #[.int .i64 0,.int .i64 0,.slice none 0 0,.slice none 0 0]/\e=.iface 131 (.agg #[.int .i64 cd])
 |.inr (p,T)=>e=.nilIface/\∃BN c2 BT c3,y=.agg #[.int .i64 now,.int .i64 shift,.slice (some ⟨BN,0,none⟩) (al f t p n).length c2,.slice (some ⟨BT,0,none⟩) (al f t p n).length c3]/\N<=BN/\N<=BT/\Gq W BN (al f t p n).length (iy (al f t p n))/\aJ W BT (al f t p n).length T
theorem FF {f:Nat->Mv}{n:Nat}{t:Nat->Int}{now k cd:Int}(h:fS f n t now k=.inl cd):1<cd:=by
 unfold fS at h;split at h
 .cases h;omega
 .split at h
  .cases h;omega
  .split at h
   .split at h<;>cases h;omega
   .cases h;omega
theorem mpr (now shift:Int)(f:Nat->Mv)(n:Nat)(t:Nat->Int)(name:ByteArray):P9 (Um now shift f n t name) where
 is:=λ⟨k,hk,h⟩=>by
  cases hr:fS f n t now k with
  |inl cd=>rw[hr]at h;exact .inr ⟨cd,FF hr,h.2,h.1⟩
  |inr x=>rw[hr]at h;obtain⟨h1,BN,c2,BT,c3,h2,_⟩:=h;exact .inl ⟨h1,_,_,_,_,_,_,_,_,h2⟩
 to:=λ⟨k,hk,h⟩ hN e=>⟨k,hk,by
  cases hr:fS f n t now k with
  |inl cd=>rw[hr]at h;exact h
  |inr x=>
   rw[hr]at h;obtain⟨h1,BN,c2,BT,c3,h2,h3,h4,h5,h6⟩:=h;exact⟨h1,BN,c2,BT,c3,h2,acn hN h3,acn hN h4,h5.same (e BN h3 h5.lt),mG h6 (e BT h4 h6.lt)⟩⟩
theorem N8 (w:World)(cs:Array Value)(T:TypeId):∃W,w.alloc (.cells cs T)=W/\W.heap[w.heap.size]?=some (.cells cs T (0,0))/\Below w w W:=⟨_,rfl,heap_alloc_new w _,(aca _ w).alloc (ack _) _⟩
section
variable [Gl]{ok:Ctx}{c r0:Frame}{cs:List Frame}{V:World}{Q:Value->World->Prop}{now shift:Int}{ao:Option Addr}{n cp:Nat}{f:Nat->Mv}{bo:Option Addr}{m dp:Nat}{t:Nat->Int}
theorem xq (E:eI Tz.prog ok c dt)(nk:ok.bI 18=true)(ub:ok.bI 52=true)(xJ:ok.bI 80=true)(qK:ok.bI 111=true)(Ca:ok.bI 139=false)(jR:ok.bI r0.fn=true)(h:Bq V now shift ao n cp f bo m dp t)
  (bh:∀V',Bl V V V'->aF Tz.prog ok c dt Q ⟨r0.finish (.bool (eX now shift f n t m)),cs,V'⟩):aF Tz.prog ok c dt Q ⟨Frame.enter Tz.prog 18 #[.agg #[now,shift,.slice ao n cp,.slice bo m dp]] .normal,r0::cs,V⟩:=by
 have h6:=h.n6;have hm6:=h.m6;refine h.cases (λe1 e2 r1 r2=>?_) (λb b' e1 e2 hb hr cZ eM=>?_)
 .subst e1 e2;rw[zB r1 r2]at bh;refine aF.calls E jR (R:=λv W=>v=true/\Bl V V W) (λτ d=>(Aw now shift _ r1 r2).mono ?_) ?_
  .rintro e w' ⟨rfl,hb⟩;exact⟨_,rfl,rfl,Bl.pu hb⟩
  .rintro _ W ⟨rfl,hb⟩;exact bh W hb
 .subst e1 e2;exact P2 E nk ub xJ qK Ca jR ab iI hb hr cZ eM bh
theorem Nb {name:ByteArray}(E:eI Tz.prog ok c dt)(rT:ok.bI 292=true)(ub:ok.bI 52=true)(xJ:ok.bI 80=true)(qK:ok.bI 111=true)(Ca:ok.bI 139=false)(jR:ok.bI r0.fn=true)(hB:Bq V now shift ao n cp f bo m dp t)(np:bp now shift f n t m=true)
  (bh:∀y e W',Bl V V W'->Um now shift f n t name V.heap.size y e W'->aF Tz.prog ok c dt Q ⟨r0.finish (.tuple #[y,e]),cs,W'⟩):
  aF Tz.prog ok c dt Q ⟨Frame.enter Tz.prog 292 #[.agg #[name],.agg #[now,shift,.slice ao n cp,.slice bo m dp]] .normal,r0::cs,V⟩:=by
 obtain⟨hm,uR,hf⟩:=cE np;subst uR;replace bh:Hid _:=bh;have h6:=hB.n6;refine aF.en Tz.func292 rfl Tryz.ntmps292 H0 ?_;refine aF.ck E rT [_,_] _ λK R τ0 uN hK hR=>?_
 obtain⟨W1,e1,k1,b1⟩:=N8 (re V τ0 uN) #[.string name] 77;obtain⟨W2,e2,k2,b2,-⟩:=cI W1 now shift ao m cp bo m dp;obtain⟨W3,e3,k3,b3,-⟩:=cI W2 0 0 none 0 0 none 0 0;have bW:=Bl.pu ((b1.trans (b2.mono b1.size)).trans (b3.mono (acn b1.size b2.size)));have p2:=k2.same (b3.block _ k2.lt);obtain⟨y0,y1,y2,y3,y4⟩:=p2.cells;have n1:W3.cell? ⟨(re V τ0 uN).heap.size,0,none⟩=some (.string name):=by
  have h:W3.heap[(re V τ0 uN).heap.size]?=_:=(b3.block _ (acl (acm.1 k1).1 b2.size)).trans ((b2.block _ (acm.1 k1).1).trans k1);simp[World.cell?,h]
 have H1:=C0 ao m cp f name W3 h6 (hB.bl bW).sm;have o2:V.heap.size<=W1:=b1.size;have o3:W1.heap.size<W2:=k2.lt;simp only[aP];go_wp2_with(go_at_call 278;refine H1.mono ?_;clear H1;rintro e w4 ⟨⟨k,rfl,hk⟩,b4⟩)
 refine hK.out _ _ ?_;have p2:=p2.same (b4.block _ p2.lt);have p3:=k3.same (b4.block _ k3.lt);have bV:Bl V V w4:=bW.trans (Bl.of b4) bW.size;clear hK hR K R e1 e2 e3 k1 k2 k3 b1 b2 b3 b4 y0 y1 y2 y3 y4 n1 bW;have lp:∀cd W,fS f m t now k=.inl cd->Um now shift f m t name V.heap.size (.agg #[.int .i64 0,.int .i64 0,(),()]) (.iface 131 (.agg #[.int .i64 cd])) W:=λcd W h=>⟨k,hk,by rw[h];exact⟨rfl,rfl⟩⟩
 have Co:∀p T BN c2 BT c3 W,fS f m t now k=.inr (p,T)->V.heap.size<=BN->V.heap.size<=BT->Gq W BN (al f t p m).length (iy (al f t p m))->aJ W BT (al f t p m).length T->Um now shift f m t name V.heap.size (.agg #[now,shift,.slice (some ⟨BN,0,none⟩) (al f t p m).length c2,.slice (some ⟨BT,0,none⟩) (al f t p m).length c3]) .nilIface W:=λp T BN c2 BT c3 W h h1 h2 h3 h4=>⟨k,hk,by rw[h];exact⟨rfl,_,_,_,_,rfl,h1,h2,h3,h4⟩⟩
 replace lp:Hid _:=lp;replace Co:Hid _:=Co;have z4:=bV.size;have l3:=p3.lt;have back:∀{W8:World},W8.heap.size=w4.heap.size->(∀k,k≠W2.heap.size->W8.heap[k]?=w4.heap[k]?)->Bl V V W8:=λh1 h2=>⟨ab,λk hk=>(h2 k ab).trans (bV.block k hk)⟩
 replace back:Hid _:=@back;rcases hk with⟨rfl,hn⟩|⟨j,rfl,hj,mw,Lf⟩
 .refine aF.ck E rT [_] _ λK R τ d hK hR=>?_
  obtain⟨x0,x1,x2,x3,x4⟩:=(show am (re w4 τ d) _ _ _ _ _ from p3).cells;obtain⟨W8,e8,k8,-,z8,o8⟩:=bT (show am (re w4 τ d) _ _ _ _ _ from p3) (aca 0 _) (acp _) 0 0 none 0 0 none 0 0;replace z8:Hid _:=z8;simp only[aP];go_wp2;exact hR.out _ _ λtodo=>aF.lv E jR Tz.func292 (λτ d=>fT rfl rfl rfl (show am (re W8 τ d) _ _ _ _ _ from k8)) (bh.out _ _ _ (back.out z8.out o8) (lp.out 3 W8 (by simp[fS])))
 .obtain⟨b,rfl,hb,aq⟩:=hB.sm.pos ab;obtain⟨b',rfl,cZ,aK⟩:=hB.si.pos ab;have hj':(j:Int)<m:=ab;have hj0:¬(j:Int)<0:=ab;have c1:=(dm aq (bV.block b hb) j hj).c1;rw[Nat.zero_add]at c1;cases hl:(f j).an with
  |false=>
   rw[hl]at c1;refine aF.ck E rT [_] _ λK R τ d hK hR=>?_
   have Nj:(re w4 τ d).cell? _=_:=c1;obtain⟨y0,y1,y2,y3,y4⟩:=(show am (re w4 τ d) _ _ _ _ _ from p2).cells;obtain⟨x0,x1,x2,x3,x4⟩:=(show am (re w4 τ d) _ _ _ _ _ from p3).cells;obtain⟨W8,e8,k8,-,z8,o8⟩:=bT (show am (re w4 τ d) _ _ _ _ _ from p3) (aca 0 _) (acp _) 0 0 none 0 0 none 0 0;replace z8:Hid _:=z8;simp only[aP];go_wp2;exact hR.out _ _ λtodo=>aF.lv E jR Tz.func292 (λτ d=>fT rfl rfl rfl (show am (re W8 τ d) _ _ _ _ _ from k8)) (bh.out _ _ _ (back.out z8.out o8) (lp.out 3 W8 (by simp[fS,hl])))
  |true=>
   rw[hl]at c1;refine aF.ck E rT [_,_] _ λK R τ d hK hR=>?_
   have Nj:(re w4 τ d).cell? _=_:=c1;have hp2:am (re w4 τ d) _ _ _ _ _:=p2;obtain⟨y0,y1,y2,y3,y4⟩:=hp2.cells;have tj:(re w4 τ d).cell? ⟨b',j,none⟩=some (.int .i64 (t j)):=by
    have:=sz aK (bV.block b' cZ) j hj;rw[Nat.zero_add]at this;exact this
   simp only[aP];go_wp2;have hne:=aE (re w4 τ d);have u0:=λx:aj (re w4 τ d)=>x.cell y0
   have u3:=λx:aj (re w4 τ d)=>x.cell y3
   have u5:=λx:aj (re w4 τ d)=>x.cell tj
   refine ah ?_;repeat(go_big_quiet_step (fail))
   refine wpQuiet_nil (ak ?_);intro w6 b6;clear hne u0 u3 u5 tj y0 y1 y2 y3 y4 Nj;have p3:=p3.same (b6.block _ l3);have p2:=p2.same (b6.block _ p2.lt);have z6:w4.heap.size<=w6:=b6.size;have bV:Bl V V w6:=⟨ab,λk hk=>(b6.block k (by show k<w4.heap.size;omega)).trans (bV.block k hk)⟩;clear back c1;by_cases ht:t j=now
   .have hq:(t j !=now)=false:=by simp[ht]
    replace ht:Hid _:=ht;go_wp2;refine hK.out _ _ ?_;have r6:=dm aq (bV.block b hb);have s6:=sz aK (bV.block b' cZ);have l6:b<w6:=acl hb bV.size;have l6':b'<w6:=acl cZ bV.size;clear hK hR K R hp2 b6;refine aF.seq E rT (aF.rg E rT (aF.oc E rT 0 2 λK τ d hK=>?_));obtain⟨y0,y1,y2,y3,y4⟩:=(show am (re w6 τ d) _ _ _ _ _ from p2).cells;simp only[List.drop_zero,List.take_succ_cons,List.take_zero];go_wp2;refine hK.out _ _ (aF.un ?_);clear hK K y0 y1 y2 y3 y4;refine aF.fX E (i:=2) rfl rfl ub (λw=>Ia) (DI (now:=now) (shift:=shift) (cap:=cp) (cap':=dp) E ub xJ qK Ca rT hm hf hj l6 r6 l6' s6 ?_);rintro v V7 ⟨⟨x0,x1,x2,l2,c2,x3,l3',c3,rfl,hT⟩,b7⟩;replace hT:Hid _:=hT;rw[dO rfl];have l36:=p3.lt;have p3:=p3.same (b7.block _ l36);have z7:=b7.size;have z0:=bV.size;have bV:=bV.trans b7 z0;obtain⟨br,uc⟩:∃br,(dc f m t j).isSome=br:=⟨_,rfl⟩;rw[uc];replace uc:Hid _:=uc;refine aF.oc E rT 3 6 λK τ' d' hK=>?_
    simp only[List.drop_succ_cons,List.drop_zero,List.take_succ_cons,List.take_zero,Act.put];go_wp2;refine hK.out _ _ (aF.regionEnd E rT ?_);clear hK K;obtain⟨W5,e5,k5,b5,-⟩:=cI (re V7 τ' d') x0 x1 x2 l2 c2 x3 l3' c3;rw[e5];clear e5;have p3:=p3.same (b5.block _ p3.lt);have z5:V7.heap.size<=W5:=b5.size;cases br with
    |false=>
     refine aF.ck E rT [_] _ λK R τ d hK hR=>?_
     obtain⟨x0,x1,x2,x3,x4⟩:=(show am (re W5 τ d) _ _ _ _ _ from p3).cells;obtain⟨W8,e8,k8,-,z8,o8⟩:=bT (show am (re W5 τ d) _ _ _ _ _ from p3) (aca 0 _) (acp _) 0 0 none 0 0 none 0 0;replace z8:Hid _:=z8;simp only[aP];go_wp2;have z8:W8.heap.size=W5.heap.size:=z8.out;have Qy:dc f m t j=none:=by have:=uc.out;cases h:dc f m t j<;>simp_all
     exact hR.out _ _ λtodo=>aF.lv E jR Tz.func292 (λτ d=>fT rfl rfl rfl (show am (re W8 τ d) _ _ _ _ _ from k8)) (bh.out _ _ _ ⟨ab,λk hk=>(o8 k ab).trans ((b5.block k (by show k<V7.heap.size;omega)).trans (bV.block k hk))⟩ (lp.out 5 W8 (by simp[fS,hl,ht.out,Qy])))
    |true=>
     obtain⟨T,hrT⟩:=Option.isSome_iff_exists.1 uc.out;obtain⟨BN,BT,h1,h2,e1,e2,rfl,rfl,rfl,rfl,hM,hO⟩:=hT.out T hrT;rw[ht.out]at e1;obtain rfl:=e1.symm;obtain rfl:=e2.symm;refine aF.ck E rT [_,_] _ λK R τ d hK hR=>?_
     obtain⟨y0,y1,y2,y3,y4⟩:=(show am (re W5 τ d) _ _ _ _ _ from k5).cells;obtain⟨x0,x1,x2,x3,x4⟩:=(show am (re W5 τ d) _ _ _ _ _ from p3).cells;obtain⟨W8,e8,k8,-,z8,o8⟩:=bT (show am (re W5 τ d) _ _ _ _ _ from p3) (aca 0 _) (acp _) now shift (some ⟨BN,0,none⟩) (al f t j m).length c2 (some ⟨BT,0,none⟩) (al f t j m).length c3;replace z8:Hid _:=z8;simp only[aP];go_wp2;have z8:W8.heap.size=W5.heap.size:=z8.out;have lM:=hM.lt;have lO:=hO.lt;exact hK.out _ _ (aF.ret E rT (aF.lv E jR Tz.func292 (λτ d=>fT rfl rfl rfl (show am (re W8 τ d) _ _ _ _ _ from k8)) (bh.out _ _ _ ⟨ab,λk hk=>(o8 k ab).trans ((b5.block k (by show k<V7.heap.size;omega)).trans (bV.block k hk))⟩ (Co.out j T BN c2 BT c3 W8 (by simp[fS,hl,ht.out,hrT]) ab ab (hM.same ((o8 _ ab).trans (b5.block _ lM))) (mG hO ((o8 _ ab).trans (b5.block _ lO)))))))
   .have hq:(t j !=now)=true:=by simp[ht]
    obtain⟨x0,x1,x2,x3,x4⟩:=p3.cells;obtain⟨W8,e8,k8,-,z8,o8⟩:=bT p3 (aca 0 _) (acp _) 0 0 none 0 0 none 0 0;replace z8:Hid _:=z8;go_wp2;have z8:W8.heap.size=w6.heap.size:=z8.out;exact hR.out _ _ λtodo=>aF.lv E jR Tz.func292 (λτ d=>fT rfl rfl rfl (show am (re W8 τ d) _ _ _ _ _ from k8)) (bh.out _ _ _ ⟨by have:=bV.size;omega,λk hk=>(o8 k ab).trans (bV.block k hk)⟩ (lp.out 6 W8 (by simp[fS,hl,ht])))
end
end
