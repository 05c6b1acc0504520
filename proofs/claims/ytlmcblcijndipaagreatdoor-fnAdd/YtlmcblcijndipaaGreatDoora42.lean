import Derived.Test.YtlmcblcijndipaaGreatDoora41
set_option linter.defProp false
set_option linter.unusedSectionVars false
set_option linter.unusedVariables false
set_option maxHeartbeats 4000000
set_option maxRecDepth 100000
namespace Go.Proofs.YtlmcblcijndipaaGreatDoor
open Conc RowKit
variable {ops:Array Oper}{xs:Array Value}{bb:Bool}{ok:Ctx}{c r0:Frame}{fn:Func}{cd now shift:Int}{cs:List Frame}{N b cp dp m n:Nat}{t:Nat->Int}{f:Nat->Mv}{MP:Nat->Value->Value->World->Prop}{CP:Nat->Value->World->Prop}{ao bo:Option Addr}{u v y:Value}{Q:Value->World->Prop}{V W w:World}
section
variable [Gl]{P0:Program}{Dr:FuncId->Array Value->World->(Value->World->Prop)->Prop}{b:Frame}{a:Act}{k:List Item}
def ak.un {fr:Frame}{τ:Nat->Question->Nat}{d:Nat}(h:ak P0 ok c Dr Q ⟨fr,cs,V⟩):ak P0 ok c Dr Q ⟨fr,cs,re V τ d⟩:=λτ' d'=>h τ' d'
def ak.oc (E:ee P0 ok c Dr)(hb:ok.bh b.fn=true)(j m:Nat)
  (h:∀(K:Act->World->Prop) τ d,Hid (∀a' w',ak P0 ok c Dr Q ⟨b.at a'<|.inRegion ops (List.range' (j+m)<|ops.size-(j+m))::k,cs,w'⟩->K a' w')->wpList P0 ops (λe a w=>e=.normal/\K a w) ((ops.toList.drop j).take m) a (re V τ d))(hm:j+m<=ops.size:=by simp):
  ak P0 ok c Dr Q ⟨b.at a<|.inRegion ops (List.range' j<|ops.size-j)::k,cs,V⟩:=
 ak.kw E hb j m hm _ (λτ d=>h _ τ d λ_ _ x=>x) λ_ _ x=>x
def ak.rg (E:ee P0 ok c Dr)(hb:ok.bh b.fn=true){id:Nat}(h:ak P0 ok c Dr Q ⟨b.at a<|.inRegion ops (List.range' 0<|ops.size-0)::k,cs,V⟩):ak P0 ok c Dr Q ⟨b.at a<|.code (.region id ops false)::k,cs,V⟩:=by
 rw[<-lp]at h;exact ak.region E hb h
def ak.ck (E:ee P0 ok c Dr)(hb:ok.bh b.fn=true)(ss:List Code)(T:Code)
  (h:∀(K R:Act->World->Prop) τ d,Hid (∀a' w',ak P0 ok c Dr Q ⟨b.at a'<|.code T::k,cs,w'⟩->K a' w')->Hid (∀a' w',(∀todo,ak P0 ok c Dr Q ⟨{b.at a' todo with mode:=.returning},cs,w'⟩)->R a' w')->aD P0 (Mh K R) ss a (re V τ d)):
  ak P0 ok c Dr Q ⟨b.at a<|.code (Proofs.YtlmcblcijndipaaGreatDoor.chain ss T)::k,cs,V⟩:=
 ak.BE E hb ss T _ _ (λτ d=>h _ _ τ d (λ_ _ x=>x) λ_ _ x=>x) (λ_ _ x=>x) λ_ _ todo x=>x todo
def ak.en {f:FuncId}{code:Code}{t:Array Value}(hf:P0.funcs[f]?=some fn)(hc:fn.body=some code)(hn:fn.ntmps=n)(ht:xs++Array.replicate (n-xs.size) undef=t)(h:ak P0 ok c Dr Q ⟨(base f).at ⟨t,[]⟩ [.code code],cs,V⟩):ak P0 ok c Dr Q ⟨Frame.enter P0 f xs .normal,cs,V⟩:=by
 rw[enter_at xs hf hc,hn,ht];exact h
def ak.lv (E:ee P0 ok c Dr)(hr:ok.bh r0.fn=true){f:FuncId}{t:Array Value}{todo:List Item}(hf:P0.funcs[f]?=some fn)(hv:∀τ d,(results fn t).run P0 (re V τ d)=.ok v (re V τ d))(h:ak P0 ok c Dr Q ⟨r0.finish v,cs,V⟩):ak P0 ok c Dr Q ⟨{(base f).at ⟨t,[]⟩ todo with mode:=.returning},r0::cs,V⟩:=
 ak.leave E hr (λτ d=>⟨rfl,rfl,rfl,_,hf,hv τ d⟩) h
def ak.calls (E:ee P0 ok c Dr)(hr:ok.bh r0.fn=true){f:FuncId}{R:Value->World->Prop}(hc:∀τ d,Calls P0 f xs (re V τ d) λe w'=>∃v,e=.returned v/\R v w')(h:∀v V',R v V'->ak P0 ok c Dr Q ⟨r0.finish v,cs,V'⟩):ak P0 ok c Dr Q ⟨Frame.enter P0 f xs .normal,r0::cs,V⟩:=by
 refine ak.of_steps E.pair E.shut E.floor (λs1=>∃v V',R v V'/\s1=⟨r0.finish v,cs,V'⟩) ?_ (λτ d=>?_) ?_
 .rintro _ ⟨v,V',_,rfl⟩;show ok.bh (r0.finish v).fn=true;have sz:(r0.finish v).fn=r0.fn:=by
   cases r0 with|mk fn tmps todo defers mode kind roundOf=>cases todo with
    |nil=>rfl
    |cons x l=>cases x<;>first|rfl|(rename_i ops l2;cases l2<;>rfl)
  rw[sz];exact hr
 .obtain⟨e,w',fr,⟨v,rfl,hR⟩,hs,_,hl⟩:=hc τ d<|r0::(cs++[c]);exact⟨_,⟨v,w',hR,rfl⟩,Steps.trans hs<|.one<|step_leave_returned hl⟩
 .rintro _ ⟨v,V',hR,rfl⟩;exact h v V' hR
def ak.cut {X T:Code}(P:Act->World->Prop)(h1:∀a' W',P a' W'->ak P0 ok c Dr Q ⟨b.at a'<|.code T::k,cs,W'⟩)(h2:Hid (∀a' W',P a' W'->ak P0 ok c Dr Q ⟨b.at a'<|.code T::k,cs,W'⟩)->ak P0 ok c Dr Q ⟨b.at a<|.code X::.code T::k,cs,V⟩):ak P0 ok c Dr Q ⟨b.at a<|.code X::.code T::k,cs,V⟩:=h2 h1
omit [Gl] in
def uX (W:World)(τ:Nat->Question->Nat)(d:Nat):Bl W.heap.size W (re W τ d):=⟨ac5 _,λ_ _=>rfl⟩
end
def aH.r (h:aH w b now shift v u)(τ:Nat->Question->Nat)(d:Nat):aH (re w τ d) b now shift v u:=h
def aH.rc (h:aH w b now shift v u)(τ:Nat->Question->Nat)(d:Nat):type_of%(h.r τ d).cells:=h.cells
def Chg (cv c0:Value)(fm:FuncId):Prop:=(∃name,cv=.iface 77 (.agg #[.string name])/\c0=.agg #[.string name]/\fm=292)\/(cv=.iface 71 (.agg #[])/\c0=.agg #[]/\fm=291)\/∃name,cv=.iface 67 (.agg #[.string name])/\c0=.agg #[.string name]/\fm=287
def g_ (v:Value)(w:World):(Instr.typeAssert (.iface 77 v) 104 134 true).run Tz.prog w=.ok (.tuple #[.nilIface,false]) w:=run_typeAssert_lacksB (Tz.aR Tryz.underlying134) bD bD v 104 w
def f_ (v:Value)(w:World):(Instr.typeAssert (.iface 71 v) 104 134 true).run Tz.prog w=.ok (.tuple #[.nilIface,false]) w:=run_typeAssert_lacksB (Tz.aR Tryz.underlying134) bD bD v 104 w
def e_ (v:Value)(w:World):(Instr.typeAssert (.iface 67 v) 104 134 true).run Tz.prog w=.ok (.tuple #[.nilIface,false]) w:=run_typeAssert_lacksB (Tz.aR Tryz.underlying134) bD bD v 104 w
def dm {i j:Nat}(hr:fn.results=#[.cell i 29,.tmp j]){t:Array Value}{B:Nat}{e:Value}(h1:t[i]?=some (.pointer B))(h2:t[j]?=some e){a0 a1:Int}(hB:aH W B a0 a1 v u):
  (results fn t).run Tz.prog W=.ok (.tuple #[.agg #[a0,a1,v,u],e]) W:=by
 let⟨q0,q1,q2,q3,_⟩:=hB.cells;simp[results,hr,go_sem,q0,q1,q2,q3,h1,h2]
structure RO (MP:Nat->Value->Value->World->Prop):Prop where
 is:∀{N y e W},MP N y e W->(e=.nilIface/\∃a0 a1 s2 l2 c2 s3 l3 c3,y=.agg #[.int .i64 a0,.int .i64 a1,.slice s2 l2 c2,.slice s3 l3 c3])\/∃cd,1<cd/\e=.iface 131 (.agg #[.int .i64 cd])/\y=.agg #[(0:Int),(0:Int),(),()]
 to:∀{N N' y e W W'},MP N y e W->N'<=N->(∀k,N<=k->k<W.heap.size->W'.heap[k]?=W.heap[k]?)->MP N' y e W'
section
variable [Gl]{cv c0:Value}{fm:FuncId}
def K4 (E:ee Tz.prog ok c cX)(jU:ok.bh 67=true)(ig:ok.bh r0.fn=true)(hc:Chg cv c0 fm)(hfm:ok.bh fm=true)
  (XU:∀W,Bl V V W->Calls Tz.prog 16 #[.agg #[now,shift,.slice ao n cp,.slice bo m dp]] W λe w'=>e=.returned bb/\Below W.heap.size W w')(J2:RO MP)
  (jO:bb=true->∀{W:World} {r:Frame} {cs:List Frame},ok.bh r.fn=true->Bl V V W->(∀y e W',Bl W.heap.size W W'->MP W.heap.size y e W'->ak Tz.prog ok c cX Q ⟨r.finish<|.tuple #[y,e],cs,W'⟩)->ak Tz.prog ok c cX Q ⟨Frame.enter Tz.prog fm #[c0,.agg #[now,shift,.slice ao n cp,.slice bo m dp]] .normal,r::cs,W⟩)
  (aT:∀y e W',Bl V V W'->(bb=false/\y=.agg #[(0:Int),(0:Int),(),()]/\e=.iface 131 (.agg #[(1:Int)])\/bb=true/\MP V.heap.size y e W')->ak Tz.prog ok c cX Q ⟨r0.finish<|.tuple #[y,e],cs,W'⟩):
  ak Tz.prog ok c cX Q ⟨Frame.enter Tz.prog 67 #[.agg #[now,shift,.slice ao n cp,.slice bo m dp],cv] .normal,r0::cs,V⟩:=by
 replace jO:Hid _:=jO;replace aT:Hid _:=aT;replace XU:Hid _:=XU;refine ak.en Tz.func67 rfl Tryz.ntmps67 BA ?_;refine ak.ck E jU [_,_] _ λK R τ d hK hR=>?_
 obtain⟨W1,e1,k2,b1,-⟩:=cr (re V τ d) now shift ao n cp bo m dp;obtain⟨W2,e2,k4,b2,-⟩:=cr W1 0 0 none 0 0 none 0 0;have bW:=b1.trans<|b2.mono b1.size;have H1:=XU.out W2<|Bl.lZ bW;have yy:=(k2.same<|b2.block _ k2.lt).cells;simp only[aD];rcases Bool.eq_false_or_eq_true bb with hb|hb;all_goals rw[hb]at H1
 rotate_left
 .replace hb:Hid _:=hb;go_wp2_with(go_at_call 16;refine H1.mono ?_;clear H1;rintro e w3 ⟨rfl,b3⟩;have j4:=k4.same<|b3.block _ k4.lt;let⟨z0,z1,z2,z3,z4⟩:=j4.cells;have bV:=bW.trans<|b3.mono bW.size;obtain⟨W5,e5,k5,b5,-,o5⟩:=bJ j4 bV b1.size 0 0 none 0 0 none 0 0)
  refine hR.out _ _ λtodo=>?_
  exact ak.lv E ig Tz.func67 (λτ d=>dm rfl rfl rfl<|k5.r τ d)<|aT.out _ _ _ (Bl.lZ b5)<|.inl ⟨hb.out,rfl,rfl⟩
 replace hb:Hid _:=hb;go_wp2_with(go_at_call 16;refine H1.mono ?_;clear H1;rintro e w3 ⟨rfl,b3⟩)
 refine hK.out _ _ ?_;have p2:=(k2.same<|b2.block _ k2.lt).same<|b3.block _<|ac6 k2.lt b2.size;have p4:=k4.same<|b3.block _ k4.lt;have bV:=Bl.lZ<|bW.trans<|b3.mono bW.size;have o4:V.heap.size<W1:=k2.lt;clear hK hR K R k2 k4 b1 b2 b3 bW yy e1 e2;refine ak.seq E jU<|ak.rg E jU<|ak.oc E jU 0 2 λK τ d hK=>?_;have yy:=p2.rc τ d;simp only[aN];go_wp2;refine hK.out _ _<|ak.un ?_;clear hK K yy;refine ak.ey E (i:=2) rfl rfl hfm (λw=>by rcases hc with⟨name,rfl,rfl,rfl⟩|⟨rfl,rfl,rfl⟩|⟨name,rfl,rfl,rfl⟩<;>kernel_rfl)<|jO.out hb.out jU bV ?_;rintro y e W4 b4 hy;rw[cO rfl];have hTA:∀w,(Instr.typeAssert cv 104 134 true).run Tz.prog w=.ok (.tuple #[.nilIface,false]) w:=by rcases hc with⟨name,rfl,rfl,rfl⟩|⟨rfl,rfl,rfl⟩|⟨name,rfl,rfl,rfl⟩<;>intro w<;>first|exact g_ _ w|exact f_ _ w|exact e_ _ w
 have l3:=p4.lt;have p4:=p4.same<|b4.block _ l3;have l4:=p4.lt;have z4:=b4.size;have z0:=bV.size;have bV:=bV.trans b4 z0;rcases J2.is hy with⟨rfl,a0,a1,s2,l2,c2,s3,l3,c3,rfl⟩|⟨cd,Uv,rfl,rfl⟩;all_goals
  refine ak.oc E jU 3 6 λK τ d hK=>?_
  simp only[aN,Act.put];go_wp2;refine hK.out _ _<|ak.regionEnd E jU ?_;clear hK K
 .obtain⟨W5,e5,k5,b5,-⟩:=cr (re W4 τ d) a0 a1 s2 l2 c2 s3 l3 c3;rw[e5];clear e5;have p4:=p4.same<|b5.block _ l4;refine ak.ck E jU [_,_,_] _ λK R τ d hK hR=>?_
  have yy:=k5.rc τ d;have xx:=p4.rc τ d;obtain⟨W8,e8,k8,-,z8,o8⟩:=bJ (p4.r τ d) (acW 0 _) (ada _) a0 a1 s2 l2 c2 s3 l3 c3;replace z8:Hid _:=z8;simp only[aD];go_wp2;have z5:W4.heap.size<=W5:=b5.size;have z8:W8.heap.size=W5.heap.size:=z8.out;refine hK.out _ _<|ak.ret E jU<|ak.lv E ig Tz.func67 (λτ d=>dm rfl rfl rfl<|k8.r τ d)<|aT.out _ _ _ ⟨aa,λk hk=>(o8 k aa).trans<|(b5.block k (by show k<W4.heap.size;omega)).trans<|bV.block k hk⟩<|.inr ⟨hb.out,J2.to hy aa λk h1 h2=>(o8 k aa).trans<|b5.block k h2⟩
 .have b5:Bl W4 W4 ((re W4 τ d).alloc<|.cells #[(0:Int),(0:Int),(),()] 29):=⟨by show W4.heap.size<=(W4.heap.push _).size;simp,λk hk=>acX _ _ _ hk⟩;revert b5;generalize (re W4 τ d).alloc _=W5;intro b5;have p4:=p4.same<|b5.block _ l4;refine ak.ck E jU [_] _ λK R τ d hK hR=>?_
  have xx:=p4.rc τ d;obtain⟨W8,e8,k8,-,z8,o8⟩:=bJ (p4.r τ d) (acW 0 _) (ada _) 0 0 none 0 0 none 0 0;replace z8:Hid _:=z8;simp only[aD];go_wp2;have z5:=b5.size;have z8:W8.heap.size=W5.heap.size:=z8.out;exact hR.out _ _ λtodo=>ak.lv E ig Tz.func67 (λτ d=>dm rfl rfl rfl<|k8.r τ d)<|aT.out _ _ _ ⟨aa,λk hk=>(o8 k aa).trans<|(b5.block k aa).trans<|bV.block k hk⟩<|.inr ⟨hb.out,J2.to hy aa λk h1 h2=>(o8 k aa).trans<|b5.block k h2⟩
def K6 (MP:Nat->Value->Value->World->Prop)(CP:Nat->Value->World->Prop)(bb:Bool)(N:Nat)(y:Value)(cd:Int)(W:World):Prop:=
 bb=false/\y=.agg #[(0:Int),(0:Int),(),()]/\cd=1\/bb=true/\((MP N y .nilIface W/\cd=0)\/1<cd/\(∃W' N',MP N' (.agg #[(0:Int),(0:Int),(),()]) (.iface 131<|.agg #[cd]) W')/\CP N y W)
structure Xf (CP:Nat->Value->World->Prop)(now shift:Int):Prop where
 is:∀{N y W},CP N y W->∃s2 l2 c2 s3 l3 c3,y=.agg #[now,shift,.slice s2 l2 c2,.slice s3 l3 c3]
 to:∀{N N' y W W'},CP N y W->N'<=N->(∀k,N<=k->k<W.heap.size->W'.heap[k]?=W.heap[k]?)->CP N' y W'
def vj (E:ee Tz.prog ok c cX)(wW:ok.bh 38=true)(jU:ok.bh 67=true)(Ub:ok.bh 68=false)(ig:ok.bh r0.fn=true)(J2:RO MP)
  (hT:∀{W:World} {r:Frame} {cs:List Frame},ok.bh r.fn=true->Bl V V W->(∀y e W',Bl W W W'->(bb=false/\y=.agg #[(0:Int),(0:Int),(),()]/\e=.iface 131 (.agg #[(1:Int)])\/bb=true/\MP W.heap.size y e W')->ak Tz.prog ok c cX Q ⟨r.finish<|.tuple #[y,e],cs,W'⟩)->ak Tz.prog ok c cX Q ⟨Frame.enter Tz.prog 67 #[.agg #[now,shift,.slice ao n cp,.slice bo m dp],cv] .normal,r::cs,W⟩)
  (R9:Xf CP now shift)(XX:∀W,Bl V V W->Calls Tz.prog 69 #[.agg #[now,shift,.slice ao n cp,.slice bo m dp]] W λe w'=>(∃y,e=.returned y/\CP W.heap.size y w')/\Below W.heap.size W w')
  (aT:∀y cd W',Bl V V W'->K6 MP CP bb V.heap.size y cd W'->ak Tz.prog ok c cX Q ⟨r0.finish<|.tuple #[y,.int .i64 cd],cs,W'⟩):
  ak Tz.prog ok c cX Q ⟨Frame.enter Tz.prog 38 #[.agg #[now,shift,.slice ao n cp,.slice bo m dp],cv] .normal,r0::cs,V⟩:=by
 replace hT:Hid _:=@hT;replace aT:Hid _:=aT;replace XX:Hid _:=XX;refine ak.en Tz.func38 rfl Tryz.ntmps38 BA ?_;refine ak.ck E wW [_] _ λK R τ d hK hR=>?_
 obtain⟨W1,e1,k2,b1,-⟩:=cr (re V τ d) now shift ao n cp bo m dp;obtain⟨W2,e2,k4,b2,-⟩:=cr W1 0 0 none 0 0 none 0 0;have bW:=Bl.lZ<|b1.trans<|b2.mono b1.size;simp only[aD];go_wp2;refine hK.out _ _ ?_;have p2:=k2.same<|b2.block _ k2.lt;have o4:V.heap.size<W1:=k2.lt;clear hK hR K R k2 b1 b2 e1 e2;refine ak.seq E wW<|ak.rg E wW<|ak.oc E wW 0 2 λK τ d hK=>?_;have yy:=p2.rc τ d;simp only[aN];go_wp2;refine hK.out _ _<|ak.un ?_;clear hK K yy;refine ak.ey E (i:=2) rfl rfl jU (λw=>C8)<|hT.out wW bW ?_;rintro y e W4 b4 hy;rw[cO rfl];have l2:=k4.lt;have k4:=k4.same<|b4.block _ l2;have p2:=p2.same<|b4.block _ p2.lt;have l4:=k4.lt;have z0:=bW.size;have z4:=b4.size;have bV:=bW.trans b4 z0;obtain⟨a0,a1,s2,l2,c2,s3,l3,c3,cd,rfl,he,h1,h2⟩:∃a0 a1 s2 l2 c2 s3 l3 c3 cd,y=.agg #[.int .i64 a0,.int .i64 a1,.slice s2 l2 c2,.slice s3 l3 c3]/\IY e cd/\(¬1<cd->K6 MP CP bb W2.heap.size y cd W4)/\(1<cd->bb=true/\MP W2.heap.size (.agg #[(0:Int),(0:Int),.slice none 0 0,.slice none 0 0]) (.iface 131<|.agg #[.int .i64 cd]) W4):=by
  rcases hy with⟨h0,rfl,rfl⟩|⟨h0,hy⟩
  .exact⟨_,_,_,_,_,_,_,_,1,rfl,.inr rfl,λ_=>.inl ⟨h0,rfl,rfl⟩,λh=>aa⟩
  .rcases J2.is hy with⟨rfl,a0,a1,s2,l2,c2,s3,l3,c3,rfl⟩|⟨cd,Uv,rfl,rfl⟩
   .exact⟨_,_,_,_,_,_,_,_,0,rfl,.inl ⟨rfl,rfl⟩,λ_=>.inr ⟨h0,.inl ⟨hy,rfl⟩⟩,λh=>aa⟩
   .exact⟨_,_,_,_,_,_,_,_,cd,rfl,.inr rfl,λh=>absurd Uv h,λ_=>⟨h0,hy⟩⟩
 replace h1:Hid _:=h1;replace h2:Hid _:=h2;clear hy;refine ak.oc E wW 3 6 λK τ d hK=>?_
 simp only[aN,Act.put];go_wp2;refine hK.out _ _<|ak.regionEnd E wW ?_;clear hK K;obtain⟨W5,e5,k5,b5,-⟩:=cr (re W4 τ d) a0 a1 s2 l2 c2 s3 l3 c3;rw[e5];clear e5;have k4:=k4.same<|b5.block _ l4;have p2:=p2.same<|b5.block _ p2.lt;refine ak.seq E wW<|ak.rg E wW<|ak.oc E wW 0 1 λK τ d hK=>?_;simp only[aN];go_wp2;refine hK.out _ _<|ak.un ?_;clear hK K;refine ak.L8 E (i:=1) rfl rfl Ub (λw=>C8) (λτ d=>.inr ⟨rfl,e,cd,rfl,he,rfl⟩) ?_;rintro τ d _ _ ⟨rfl,rfl⟩;refine ak.un<|ak.oc E wW 2 1 λK τ d hK=>?_;simp only[aN,Act.put];go_wp2;refine hK.out _ _<|ak.un<|ak.regionEnd E wW ?_;clear hK K;have z5:W4.heap.size<=W5:=b5.size;by_cases Uv:1<cd
 .refine ak.ck E wW [_] _ λK R τ d hK hR=>?_
  have bV5:Bl V V (re W5 τ d):=⟨by show V.heap.size<=W5.heap.size;omega,λk hk=>(b5.block k (by show k<W4.heap.size;omega)).trans<|bV.block k hk⟩;have H1:=XX.out _ bV5;have yy:=p2.rc τ d;have q4:aH (re W5 τ d) _ _ _ _ _:=k4;simp only[aD];go_wp2_with(go_at_call 69;refine H1.mono ?_;clear H1;rintro e w6 ⟨⟨y,rfl,hy⟩,b6⟩;obtain⟨s2,l2,c2,s3,l3,c3,rfl⟩:=R9.is hy;have j4:=q4.same<|b6.block _ q4.lt;have xx:=j4.cells;obtain⟨W8,e8,k8,-,z8,o8⟩:=bJ j4 (acW 0 _) (ada _) now shift s2 l2 c2 s3 l3 c3;replace z8:Hid _:=z8)
  have z8:W8.heap.size=w6.heap.size:=z8.out;have z6:W5.heap.size<=w6:=b6.size;exact hR.out _ _ λtodo=>ak.lv E ig Tz.func38 (λτ d=>dm rfl rfl rfl<|k8.r τ d)<|aT.out _ _ _ ⟨aa,λk hk=>(o8 k aa).trans<|(b6.block k (by show k<W5.heap.size;omega)).trans<|bV5.block k hk⟩<|.inr ⟨(h2.out Uv).1,.inr ⟨Uv,⟨_,_,(h2.out Uv).2⟩,R9.to hy (by show V.heap.size<=W5.heap.size;omega) λk g1 g2=>o8 k (by have g1:W5.heap.size<=k:=g1;omega)⟩⟩
 .refine ak.ck E wW [_,_] _ λK R τ d hK hR=>?_
  have yy:=k5.rc τ d;have xx:=k4.rc τ d;obtain⟨W8,e8,k8,-,z8,o8⟩:=bJ (k4.r τ d) (acW 0 _) (ada _) a0 a1 s2 l2 c2 s3 l3 c3;replace z8:Hid _:=z8;simp only[aD];go_wp2;have z8:W8.heap.size=W5.heap.size:=z8.out;refine hK.out _ _<|ak.ret E wW<|ak.lv E ig Tz.func38 (λτ d=>dm rfl rfl rfl<|k8.r τ d)<|aT.out _ _ _ ⟨aa,λk hk=>(o8 k aa).trans<|(b5.block k (by show k<W4.heap.size;omega)).trans<|bV.block k hk⟩ ?_;rcases h1.out aa with h|⟨h0,⟨hy,rfl⟩|⟨h,_⟩⟩
  .exact .inl h
  .exact .inr ⟨h0,.inl ⟨J2.to hy z0 λk g1 g2=>(o8 k aa).trans<|b5.block k g2,rfl⟩⟩
  .omega
def Fj (E:ee Tz.prog ok c cX)(wW:ok.bh 38=true)(jU:ok.bh 67=true)(Ub:ok.bh 68=false)(ig:ok.bh r0.fn=true)(hc:Chg cv c0 fm)(hfm:ok.bh fm=true)
  (XU:∀W,Bl V V W->Calls Tz.prog 16 #[.agg #[now,shift,.slice ao n cp,.slice bo m dp]] W λe w'=>e=.returned bb/\Below W.heap.size W w')(J2:RO MP)
  (jO:bb=true->∀{W:World} {r:Frame} {cs:List Frame},ok.bh r.fn=true->Bl V V W->(∀y e W',Bl W.heap.size W W'->MP W.heap.size y e W'->ak Tz.prog ok c cX Q ⟨r.finish<|.tuple #[y,e],cs,W'⟩)->ak Tz.prog ok c cX Q ⟨Frame.enter Tz.prog fm #[c0,.agg #[now,shift,.slice ao n cp,.slice bo m dp]] .normal,r::cs,W⟩)
  (R9:Xf CP now shift)(XX:∀W,Bl V V W->Calls Tz.prog 69 #[.agg #[now,shift,.slice ao n cp,.slice bo m dp]] W λe w'=>(∃y,e=.returned y/\CP W.heap.size y w')/\Below W.heap.size W w')
  (aT:∀y cd W',Bl V V W'->K6 MP CP bb V.heap.size y cd W'->ak Tz.prog ok c cX Q ⟨r0.finish<|.tuple #[y,.int .i64 cd],cs,W'⟩):
  ak Tz.prog ok c cX Q ⟨Frame.enter Tz.prog 38 #[.agg #[now,shift,.slice ao n cp,.slice bo m dp],cv] .normal,r0::cs,V⟩:=
 vj E wW jU Ub ig J2 (λhr hW h=>K4 E jU hr hc hfm (λW' X9=>XU W'<|hW.trans X9 hW.size) J2 (λh W' r' cs' gG X9=>jO h gG<|hW.trans X9 hW.size) h) R9 XX aT
end
section
variable [Gl]
def K6.is (h:K6 MP CP bb N y cd W)(J2:RO MP)(R9:Xf CP now shift):∃a0 a1 s2 l2 c2 s3 l3 c3,y=.agg #[.int .i64 a0,.int .i64 a1,.slice s2 l2 c2,.slice s3 l3 c3]:=by
 rcases h with⟨_,rfl,_⟩|⟨_,⟨h,_⟩|⟨_,_,h⟩⟩
 .exact⟨_,_,_,_,_,_,_,_,rfl⟩
 .rcases J2.is h with⟨_,h⟩|⟨_,_,h,_⟩
  .exact h
  .cases h
 .obtain⟨_,_,_,_,_,_,rfl⟩:=R9.is h;exact⟨_,_,_,_,_,_,_,_,rfl⟩
def K6.to {N':Nat}{W':World}(h:K6 MP CP bb N y cd W)(J2:RO MP)(R9:Xf CP now shift)(hN:N'<=N)(e:∀k,N<=k->k<W.heap.size->W'.heap[k]?=W.heap[k]?):K6 MP CP bb N' y cd W':=by
 rcases h with h|⟨h0,⟨h,h1⟩|⟨h1,h2,h⟩⟩
 .exact .inl h
 .exact .inr ⟨h0,.inl ⟨J2.to h hN e,h1⟩⟩
 .exact .inr ⟨h0,.inr ⟨h1,h2,R9.to h hN e⟩⟩
end
def Ki (g:Value)(w:World):Calls Tz.prog 280 #[(),g] w λe w'=>e=.returned (.int .i64 (-1))/\Below w w w':=by
 go_enter Tz.func280,Tryz.ntmps280
 go_wp2;go_loopw [8] (λi w'=>i=.int .i64 0/\Below w w w') (λ_ _=>0)
 case atStart=>exact⟨rfl,acW _ _⟩
 case round=>
  obtain⟨rfl,hB⟩:=hrel;go_wp2;go_ret;exact⟨rfl,hB⟩
def uT (ao:Option Addr)(n cap:Nat)(f:Nat->Mv)(name:ByteArray)(w:World)(hn:n<=6)(hv:gw w ao n cap f):
  Calls Tz.prog 278 #[.slice ao n cap,name] w λe w'=>(∃k:Int,e=.returned (.int .i64 k)/\eX f n name k)/\Below w w w':=by
 cases ao with
 |some ad=>
  obtain⟨b,rfl,hb,hr⟩:=hv.2 _ rfl;exact EB b 0 n cap f name w aa hb hr
 |none=>
  obtain⟨rfl,rfl⟩:=hv.1 rfl;have b0:Below w w (w.alloc<|.cells #[name] 9):=(acW _ w).alloc (ac5 _) _;have hI:=λg=>Ki g<|w.alloc<|.cells #[name] 9
  go_enter Tz.func278,Tryz.ntmps278
  go_wp2_with(go_at_call 280;refine(hI _).mono ?_;rintro e w1 ⟨rfl,b1⟩)
  go_ret;exact⟨⟨-1,rfl,.inl ⟨rfl,λi hi=>absurd hi<|ac9 _⟩⟩,b0.trans<|b1.mono b0.size⟩
def In (t ty e:TypeId)(i:TypeInfo)(ht:Tz.prog.underlying t=some (.slice e))(hi:Tz.prog.info? e=some i)(s:Option Addr)(c:Nat)(w:World):(Builtin.append_ #[t,t] ty #[(),.slice s 0 c]).run Tz.prog w=.ok () w:=by
 cases s<;>simp[Builtin.append_,run_underlying ht,sizeOf,typeInfo,hi,Builtin.lenOf,Builtin.firstCells,loadCells,loadCellsFrom]
def Ga (now shift:Int)(ao:Option Addr)(ca:Nat)(bo:Option Addr)(da:Nat)(w:World):Calls Tz.prog 69 #[.agg #[now,shift,.slice ao 0 ca,.slice bo 0 da]] w λe w'=>e=.returned (.agg #[now,shift,(),()])/\Below w w w':=by
 let⟨iM,hI,gj,eO,gM⟩:=info_parts IV;let⟨i0,Lb,Ng,IT,Ke⟩:=info_parts No;have a1:=λty s c W=>In 23 ty _ _ (Tz.aR Tryz.underlying23) hI s c W
 have a2:=λty s c W=>In 27 ty _ _ (Tz.aR Tryz.underlying27) Lb s c W
 have rl:∀o1 o2,Below w w ((w.alloc o1).alloc o2):=λo1 o2=>((acW _ w).alloc (ac5 _) _).alloc aF _
 cases ao<;>cases bo
 all_goals
  go_enter Tz.func69,Tryz.ntmps69
  go_wp2;refine bodyPost_ret (v:=.agg #[now,shift,(),()]) (by simp[results,Tryz.results69,go_sem]) rfl ⟨rfl,?_⟩;exact rl _ _
def Gb (now shift:Int)(ao:Option Addr)(n cap:Nat)(f:Nat->Mv)(bo:Option Addr)(m cap':Nat)(t:Nat->Int)(w:World)(hn:n<=6)(hm:m<=6)(hv:gw w ao n cap f)(hu:ja w bo m cap' t)(h2:ao=none\/bo=none->n=0/\m=0):
  Calls Tz.prog 69 #[.agg #[now,shift,.slice ao n cap,.slice bo m cap']] w λe w'=>(∃v u,e=.returned (VZ now shift v u)/\w'.ownsRow w.heap.size 31 6 v n (gH f n)/\w'.ownsRow w.heap.size 3 1 u m (dX t m))/\Below w w w':=by
 by_cases h:ao=none\/bo=none
 .obtain⟨rfl,rfl⟩:=h2 h;refine(Ga now shift ao cap bo cap' w).mono ?_;rintro e w' ⟨rfl,hb⟩;exact⟨⟨_,_,rfl,⟨rfl,.inl ⟨rfl,rfl⟩⟩,⟨rfl,.inl ⟨rfl,rfl⟩⟩⟩,hb⟩
 .cases ao with
  |none=>exact absurd (.inl rfl) h
  |some ad=>
   cases bo with
   |none=>exact absurd (.inr rfl) h
   |some ad'=>
    obtain⟨b,rfl,hb,hr⟩:=hv.2 _ rfl;obtain⟨b',rfl,dw,gG⟩:=hu.2 _ rfl;exact wM now shift b 0 n cap f b' 0 m cap' t w aa aa hb hr dw gG
def xE {w':World}(h:aA w b 0 n t)(e:w'.heap[b]?=w.heap[b]?):aA w' b 0 n t:=λi hi=>by
 have:=h i hi;simp only[World.cell?,e]at this⊢;exact this
def gw.bl {c:Nat}(h:gw w ao n c f)(hb:Bl w w W):gw W ao n c f:=
 ⟨h.1,λad had=>by let⟨b,e,hl,hr⟩:=h.2 ad had;exact⟨b,e,ac6 hl hb.size,dL hr<|hb.block b hl⟩⟩
def ja.bl {c:Nat}(h:ja w ao n c t)(hb:Bl w w W):ja W ao n c t:=
 ⟨h.1,λad had=>by let⟨b,e,hl,hr⟩:=h.2 ad had;exact⟨b,e,ac6 hl hb.size,xE hr<|hb.block b hl⟩⟩
structure Bq (w:World)(now shift:Int)(ao:Option Addr)(n cp:Nat)(f:Nat->Mv)(bo:Option Addr)(m dp:Nat)(t:Nat->Int):Prop where
 n6:n<=6
 m6:m<=6
 sm:gw w ao n cp f
 si:ja w bo m dp t
 two:ao=none\/bo=none->n=0/\m=0/\(0<=now/\now<=10000)/\0<=shift/\shift<=6
 fit:∀i,i<n->(f i).Fits
def Bq.bl (h:Bq w now shift ao n cp f bo m dp t)(hb:Bl w w W):Bq W now shift ao n cp f bo m dp t:=⟨h.n6,h.m6,h.sm.bl hb,h.si.bl hb,h.two,h.fit⟩
def Bq.cases (h:Bq w now shift ao n cp f bo m dp t){P:Prop}(h0:n=0->m=0->0<=now/\now<=10000->0<=shift/\shift<=6->P)(h1:∀b b',ao=some ⟨b,0,none⟩->bo=some ⟨b',0,none⟩->b<w.heap.size->aI w b 0 n f->b'<w.heap.size->aA w b' 0 m t->P):P:=by
 by_cases hh:ao=none\/bo=none
 .let⟨e1,e2,e3,e4⟩:=h.two hh;exact h0 e1 e2 e3 e4
 .cases ao with
  |none=>exact absurd (.inl rfl) hh
  |some ad=>
   cases bo with
   |none=>exact absurd (.inr rfl) hh
   |some ad'=>
    obtain⟨b,rfl,hb,hr⟩:=h.sm.2 _ rfl;obtain⟨b',rfl,dw,gG⟩:=h.si.2 _ rfl;exact h1 b b' rfl rfl hb hr dw gG
def Bq.ib (h:Bq w now shift ao n cp f bo m dp t):Calls Tz.prog 16 #[.agg #[now,shift,.slice ao n cp,.slice bo m dp]] w λe w'=>e=.returned (.bool<|aX now shift f n t m)/\Below w w w':=by
 have h6:=h.n6;have hm6:=h.m6;refine h.cases (λe1 e2 r1 r2=>?_) λb b' e1 e2 hb hr dw gG=>?_
 .subst e1 e2;rw[Ag r1 r2];exact Cf now shift w r1 r2
 .subst e1 e2;exact Cg now shift b 0 n cp f b' 0 m dp t w aa jl hb hr dw gG
def Bq.sk (h:Bq w now shift ao n cp f bo m dp t):Calls Tz.prog 39 #[.agg #[now,shift,.slice ao n cp,.slice bo m dp]] w λe w'=>e=.returned (.bool<|aX now shift f n t m)/\Below w w w':=by
 have h6:=h.n6;have hm6:=h.m6;refine h.cases (λe1 e2 r1 r2=>?_) λb b' e1 e2 hb hr dw gG=>?_
 .subst e1 e2;rw[Ag r1 r2];exact CJ now shift w r1 r2
 .subst e1 e2;exact tj now shift b 0 n cp f b' 0 m dp t w aa jl hb hr h.fit dw gG
def Ti (now shift:Int)(f:Nat->Mv)(n:Nat)(t:Nat->Int)(m N:Nat)(y:Value)(W:World):Prop:=∃v u,y=VZ now shift v u/\W.ownsRow N 31 6 v n (gH f n)/\W.ownsRow N 3 1 u m (dX t m)
def V0 (now shift:Int)(f:Nat->Mv)(n:Nat)(t:Nat->Int)(m:Nat):Xf (Ti now shift f n t m) now shift where
 is:=λ⟨v,u,e,h1,h2⟩=>by
  obtain⟨a,cc,rfl⟩:=ua h1;obtain⟨a',c',rfl⟩:=ua h2;exact⟨_,_,_,_,_,_,e⟩
 to:=λ⟨v,u,e,h1,h2⟩ hN h=>⟨v,u,e,bY (az h1 λB hB=>h B (h1.lt B hB).1 (h1.lt B hB).2) hN,bY (az h2 λB hB=>h B (h2.lt B hB).1 (h2.lt B hB).2) hN⟩
noncomputable def kx (f:Nat->Mv)(n:Nat)(t:Nat->Int)(now k:Int):Int ⊕ Nat×(Nat->Int):=
 if k<0 then .inl 3 else if(f k.toNat).aj=false then .inl 3 else if t k.toNat=now then(match dV f n t k.toNat with|none=>.inl 5|some T=>.inr (k.toNat,T))else .inl 6
def MPr (now shift:Int)(f:Nat->Mv)(n:Nat)(t:Nat->Int)(name:ByteArray)(N:Nat)(y e:Value)(W:World):Prop:=∃k,eX f n name k/\match kx f n t now k with
 |.inl cd=>y=.agg #[(0:Int),(0:Int),.slice none 0 0,.slice none 0 0]/\e=.iface 131 (.agg #[.int .i64 cd])
 |.inr (p,T)=>e=.nilIface/\∃BN c2 BT c3,y=.agg #[.int .i64 now,.int .i64 shift,.slice (some ⟨BN,0,none⟩) (al f t p n).length c2,.slice (some ⟨BT,0,none⟩) (al f t p n).length c3]/\N<=BN/\N<=BT/\C7 W BN (al f t p n).length (jz<|al f t p n)/\aC W BT (al f t p n).length T
def Vt {k:Int}(h:kx f n t now k=.inl cd):1<cd:=by
 unfold kx at h;split at h
 .cases h;omega
 .split at h
  .cases h;omega
  .split at h
   .split at h<;>cases h;omega
   .cases h;omega
def mpr (now shift:Int)(f:Nat->Mv)(n:Nat)(t:Nat->Int)(name:ByteArray):RO (MPr now shift f n t name) where
 is:=λ⟨k,hk,h⟩=>by
  cases hr:kx f n t now k with
  |inl cd=>rw[hr]at h;exact .inr ⟨cd,Vt hr,h.2,h.1⟩
  |inr x=>rw[hr]at h;let⟨h1,BN,c2,BT,c3,h2,_⟩:=h;exact .inl ⟨h1,_,_,_,_,_,_,_,_,h2⟩
 to:=λ⟨k,hk,h⟩ hN e=>⟨k,hk,by
  cases hr:kx f n t now k with
  |inl cd=>rw[hr]at h;exact h
  |inr x=>
   rw[hr]at h;let⟨h1,BN,c2,BT,c3,h2,h3,h4,h5,h6⟩:=h;exact⟨h1,BN,c2,BT,c3,h2,ac8 hN h3,ac8 hN h4,h5.same<|e BN h3 h5.lt,fD h6<|e BT h4 h6.lt⟩⟩
def PJ (w:World)(cs:Array Value)(T:TypeId):∃W,w.alloc (.cells cs T)=W/\W.heap[w.heap.size]?=some (.cells cs T (0,0))/\Below w w W:=⟨_,rfl,heap_alloc_new w _,(acW _ w).alloc (ac5 _) _⟩
section
variable [Gl]
def qd (E:ee Tz.prog ok c cX)(kG:ok.bh 18=true)(tS:ok.bh 52=true)(yZ:ok.bh 80=true)(sx:ok.bh 111=true)(Fu:ok.bh 139=false)(ig:ok.bh r0.fn=true)(h:Bq V now shift ao n cp f bo m dp t)
  (aT:∀V',Bl V V V'->ak Tz.prog ok c cX Q ⟨r0.finish<|.bool<|fi now shift f n t m,cs,V'⟩):ak Tz.prog ok c cX Q ⟨Frame.enter Tz.prog 18 #[.agg #[now,shift,.slice ao n cp,.slice bo m dp]] .normal,r0::cs,V⟩:=by
 have zg:Hid (∀(x:Act) (w':World) (todo:List Item),Bl V V w'->x.defers=[]->x.tmps[2]?=some (.bool<|fi now shift f n t m)->ak Tz.prog ok c cX Q ⟨{(base 18).at x todo with mode:=.returning},r0::cs,w'⟩):=by
  rintro x w' todo h1 h2 h3;refine ak.leave E ig (λτ d=>⟨rfl,h2,rfl,_,Tz.func18,?_⟩)<|aT _ h1;have:=results_tmp (fn:=Tryz.f18) rfl x.tmps Tz.prog<|re w' τ d;rw[kh h3]at this;exact this
 clear aT;refine ak.en Tz.func18 rfl Tryz.ntmps18 BA ?_;refine ak.ck E kG [_,_] _ λK R τ d hK hR=>?_
 obtain⟨W1,e1,k1,b1,-⟩:=cr (re V τ d) now shift ao n cp bo m dp;have H1:=(h.bl<|Bl.lZ b1).ib;have yy:=k1.cells;simp only[aD];cases hb:aX now shift f n t m with
 |false=>
  rw[hb]at H1;replace h:Hid _:=h;go_wp2_with(go_at_call 16;refine H1.mono ?_;clear H1;rintro e w1 ⟨rfl,b2⟩)
  refine hR.out _ _ λtodo=>zg.out _ _ _ (Bl.lZ<|b1.trans<|b2.mono b1.size) rfl ?_
  rw[E9 hb];rfl
 |true=>
  rw[hb]at H1;replace h:Hid _:=h;go_wp2_with(go_at_call 16;refine H1.mono ?_;clear H1;rintro e w1 ⟨rfl,b2⟩)
  refine hK.out _ _ ?_;have bV:=Bl.lZ<|b1.trans<|b2.mono b1.size;replace k1:=k1.same<|b2.block _ k1.lt;clear hK hR K R b1 b2 e1 yy;replace h:=h.out.bl bV;revert k1;generalize (re V τ d).heap.size=B1;intro k1;let⟨hm,Av,hf⟩:=cK hb;subst Av;have h6:=bZ hm;refine ak.seq E kG<|ak.ck E kG [_] _ λK R τ d hK hR=>?_;have yy:=k1.rc τ d;replace h:Hid _:=h;simp only[aD];go_wp2;refine hK.out _ _ ?_;clear hK hR K R yy;refine ak.block E kG<|ak.loop E kG ?_;refine ak.QC E kG (λj a' w'=>∃k:Nat,k+j=m/\Bl w1.heap.size w1 w'/\(∀p,p<k->(f p).aj=true->(dV f m t p).isSome=true)/\gZ a' (rW 30 [(1,.pointer<|some ⟨B1,0,none⟩),(11,.slice ao m cp),(12,.int .i64 m),(13,.int .i64 k)])) ?_ m _ _ ⟨0,aa,⟨ac5 _,λ_ _=>rfl⟩,λp hp=>absurd hp<|ac9 _,rfl,rfl⟩;rintro j a' W ⟨k,hkj,bW,cE,fu⟩ IH;replace IH:Hid _:=IH;obtain⟨u,rfl⟩:=fu.open;clear fu;refine ak.ck E kG [_] _ λK R τ d hK hR=>?_
  simp only[aD];go_wp2;refine hK.out _ _<|ak.un ?_;clear hK hR K R;refine ak.seq E kG ?_;refine ak.cond E kG (t:=decide (k<m)) rfl ?_;by_cases aB:k<m
  .rw[if_pos cU];have dr:(k:Int)<m:=aa;obtain⟨b,rfl,bP,nD⟩:=h.out.sm.pos aa;obtain⟨b',rfl,cP,Y9⟩:=h.out.si.pos aa;refine ak.skip E kG<|ak.seq E kG ?_;refine ak.cut (λa' w'=>Bl w1.heap.size w1 w'/\((f k).aj=true->(dV f m t k).isSome=true)/\gZ a' (rW 30 [(1,.pointer<|some ⟨B1,0,none⟩),(11,.slice (some ⟨b,0,none⟩) m cp),(12,.int .i64 m),(13,.int .i64 k)])) ?_ λxj=>?_
   .rintro a' w' ⟨bW,Fx,fu⟩;obtain⟨u,rfl⟩:=fu.open;refine ak.rg E kG<|ak.oc E kG 0 2 λK τ d hK=>?_;have Ce:IntKind.i64.wrap ((k:Int)+1)=(k:Int)+1:=hZ;simp only[aN];go_wp2;refine hK.out _ _<|ak.regionEnd E kG<|IH.out (j-1) aa _ _ ⟨k+1,aa,bW.trans ⟨ac5 _,λ_ _=>rfl⟩ bW.size,λp hp hl=>?_,rfl,by simp;rfl⟩;by_cases e:p=k
    .subst e;exact Fx hl
    .exact cE p aa hl
   refine ak.block E kG ?_;refine ak.ck E kG [_] _ λK R τ d hK hR=>?_
   have bR:=bW.trans (M:=W.heap.size) (c:=re W τ d) ⟨ac5 _,λ_ _=>rfl⟩ bW.size;let⟨c0,c1,c2,c3,c4,c5⟩:=dL (w':=re W τ d) nD (bR.block _ bP) k aB;simp only[Nat.zero_add]at c0 c1 c2 c3 c4 c5;let⟨W2,e2,k2,b2⟩:=PJ (re W τ d) (f k).cells 31;simp only[aD];go_wp2;refine hK.out _ _ ?_;clear hK hR K R e2 c0 c1 c2 c3 c4 c5;replace bW:=bR.trans (Bl.of b2) bR.size;clear b2 bR;revert k2;generalize (re W τ d).heap.size=B4;intro k2;refine ak.seq E kG<|ak.ck E kG [_] _ λK R τ d hK hR=>?_;let⟨z0,z1,z2,z3,z4,z5⟩:=PI (w:=re W2 τ d) k2;simp only[aD];cases hl:(f k).aj with
   |false=>
    rw[hl]at z1;go_wp2;refine hK.out _ _ ?_;refine ak.cond E kG (t:=true) rfl ?_;rw[if_pos rfl];exact ak.exit E kG (k':=_) rfl (xj.out _ _ ⟨⟨bW.size,bW.block⟩,(λh=>by rw[hl]at h;cases h),rfl,rfl⟩)
   |true=>
    rw[hl]at z1;go_wp2;refine hK.out _ _<|ak.un ?_;refine ak.cond E kG (t:=false) rfl ?_;rw[if_neg Bool.false_ne_true];clear hK hR K R z0 z1 z2 z3 z4 z5 k2;refine ak.skip E kG<|ak.seq E kG<|ak.rg E kG<|ak.oc E kG 0 2 λK τ d hK=>?_;have yy:=(show aH (re W2 τ d) _ _ _ _ _ from k1.same (bW.block _ k1.lt)).cells;simp only[aN];go_wp2;refine hK.out _ _<|ak.un ?_;clear hK K yy;refine ak.ey E (i:=2) rfl rfl tS (λw=>C8)<|OU (now:=now) (shift:=shift) (cap:=cp) (cap':=dp) E tS yZ sx Fu kG hm hf aB (ac6 bP bW.size) (dL nD<|bW.block _ bP) (ac6 cP bW.size) (λi hi=>bW.cell cP<|Y9 i hi) ?_;rintro _ W3 ⟨⟨x0,x1,x2,l2,c2,x3,l3,c3,rfl,-⟩,b3⟩;rw[cO rfl];replace bW:=bW.trans b3 bW.size;generalize nR:(dV f m t k).isSome=br;refine ak.oc E kG 3 6 λK τ d hK=>?_
    obtain⟨W4,e4,-,b4,-⟩:=cr (re W3 τ d) x0 x1 x2 l2 c2 x3 l3 c3;simp only[aN,Act.put];go_wp2;refine hK.out _ _<|ak.regionEnd E kG ?_;clear hK K e4;replace bW:=bW.trans (Bl.lZ b4) bW.size;refine ak.ck E kG [_] _ λK R τ d hK hR=>?_
    simp only[aD];go_wp2;refine hK.out _ _<|ak.un ?_;clear hK hR K R;cases br with
    |true=>
     refine ak.cond E kG (t:=false) rfl ?_;rw[if_neg Bool.false_ne_true];exact ak.skip E kG (ak.inBlock E kG<|xj.out _ _ ⟨bW,λ_=>nR,rfl,rfl⟩)
    |false=>
     refine ak.cond E kG (t:=true) rfl ?_;rw[if_pos rfl];refine ak.ck E kG [_] _ λK R τ d hK hR=>?_
     simp only[aD];go_wp2;refine hK.out _ _<|ak.ret E kG<|zg.out _ _ _ ⟨(bV.trans bW bV.size).size,(bV.trans bW bV.size).block⟩ rfl ?_;rw[A5 λh=>by have:=h k aB hl;rw[nR]at this;cases this];rfl
  .rw[if_neg cU];refine ak.exit E kG (k':=[.code _]) rfl ?_;refine ak.ck E kG [_] _ λK R τ d hK hR=>?_
   simp only[aD];go_wp2;refine hK.out _ _<|ak.ret E kG<|zg.out _ _ _ ⟨(bV.trans bW bV.size).size,(bV.trans bW bV.size).block⟩ rfl ?_;rw[uo hb λp hp=>cE p aa];rfl
end
