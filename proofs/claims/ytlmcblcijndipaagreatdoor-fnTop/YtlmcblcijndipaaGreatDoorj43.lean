import Derived.Test.YtlmcblcijndipaaGreatDoorj42
set_option linter.defProp false
set_option linter.unusedSectionVars false
set_option linter.unusedVariables false
set_option maxHeartbeats 4000000
set_option maxRecDepth 100000
namespace Go.Proofs.YtlmcblcijndipaaGreatDoor
open Conc RowKit
variable {ops:Array Oper}{xs:Array Value}{bb:Bool}{name:ByteArray}{ok:Ctx}{c r0:Frame}{fn:Func}{a0 a1 cd now shift:Int}{cs:List Frame}{B N b cp dp i j m n:Nat}{t:Nat->Int}{f:Nat->Mv}{MP:Nat->Value->Value->World->Prop}{CP:Nat->Value->World->Prop}{ao bo:Option Addr}{e u v y:Value}{Q:Value->World->Prop}{V W w:World}
section
variable [Gl]{P0:Program}{Dr:FuncId->Array Value->World->(Value->World->Prop)->Prop}{b:Frame}{a:Act}{k:List Item}
def aj.un {fr:Frame}{τ:Nat->Question->Nat}{d:Nat}(h:aj P0 ok c Dr Q ⟨fr,cs,V⟩):aj P0 ok c Dr Q ⟨fr,cs,re V τ d⟩:=λτ' d'=>h τ' d'
def aj.oc (E:dM P0 ok c Dr)(hb:ok.aX b.fn=true)(j m:Nat)
  (h:∀(K:Act->World->Prop) τ d,Hid (∀a' w',aj P0 ok c Dr Q ⟨b.at a'<|.inRegion ops (List.range' (j+m)<|ops.size-(j+m))::k,cs,w'⟩->K a' w')->wpList P0 ops (λe a w=>e=.normal/\K a w) ((ops.toList.drop j).take m) a (re V τ d))(hm:j+m<=ops.size:=by simp):
  aj P0 ok c Dr Q ⟨b.at a<|.inRegion ops (List.range' j<|ops.size-j)::k,cs,V⟩:=
 aj.kv E hb j m hm _ (λτ d=>h _ τ d λ_ _ x=>x) λ_ _ x=>x
def aj.rg (E:dM P0 ok c Dr)(hb:ok.aX b.fn=true){id:Nat}(h:aj P0 ok c Dr Q ⟨b.at a<|.inRegion ops (List.range' 0<|ops.size-0)::k,cs,V⟩):aj P0 ok c Dr Q ⟨b.at a<|.code (.region id ops false)::k,cs,V⟩:=by
 rw[<-lw]at h;exact aj.region E hb h
def aj.ck (E:dM P0 ok c Dr)(hb:ok.aX b.fn=true)(ss:List Code)(T:Code)
  (h:∀(K R:Act->World->Prop) τ d,Hid (∀a' w',aj P0 ok c Dr Q ⟨b.at a'<|.code T::k,cs,w'⟩->K a' w')->Hid (∀a' w',(∀todo,aj P0 ok c Dr Q ⟨{b.at a' todo with mode:=.returning},cs,w'⟩)->R a' w')->aD P0 (Nf K R) ss a (re V τ d)):
  aj P0 ok c Dr Q ⟨b.at a<|.code (Proofs.YtlmcblcijndipaaGreatDoor.chain ss T)::k,cs,V⟩:=
 aj.BL E hb ss T _ _ (λτ d=>h _ _ τ d (λ_ _ x=>x) λ_ _ x=>x) (λ_ _ x=>x) λ_ _ todo x=>x todo
def aj.en {f:FuncId}{code:Code}{t:Array Value}(hf:P0.funcs[f]?=some fn)(hc:fn.body=some code)(hn:fn.ntmps=n)(ht:xs++Array.replicate (n-xs.size) undef=t)(h:aj P0 ok c Dr Q ⟨(base f).at ⟨t,[]⟩ [.code code],cs,V⟩):aj P0 ok c Dr Q ⟨Frame.enter P0 f xs .normal,cs,V⟩:=by
 rw[enter_at xs hf hc,hn,ht];exact h
def aj.lv (E:dM P0 ok c Dr)(hr:ok.aX r0.fn=true){f:FuncId}{t:Array Value}{todo:List Item}(hf:P0.funcs[f]?=some fn)(hv:∀τ d,(results fn t).run P0 (re V τ d)=.ok v (re V τ d))(h:aj P0 ok c Dr Q ⟨r0.finish v,cs,V⟩):aj P0 ok c Dr Q ⟨{(base f).at ⟨t,[]⟩ todo with mode:=.returning},r0::cs,V⟩:=
 aj.leave E hr (λτ d=>⟨rfl,rfl,rfl,_,hf,hv τ d⟩) h
def aj.calls (E:dM P0 ok c Dr)(hr:ok.aX r0.fn=true){f:FuncId}{R:Value->World->Prop}(hc:∀τ d,Calls P0 f xs (re V τ d) λe w'=>∃v,e=.returned v/\R v w')(h:∀v V',R v V'->aj P0 ok c Dr Q ⟨r0.finish v,cs,V'⟩):aj P0 ok c Dr Q ⟨Frame.enter P0 f xs .normal,r0::cs,V⟩:=by
 refine aj.of_steps E.pair E.shut E.floor (λs1=>∃v V',R v V'/\s1=⟨r0.finish v,cs,V'⟩) ?_ (λτ d=>?_) ?_
 .rintro _ ⟨v,V',_,rfl⟩;show ok.aX (r0.finish v).fn=true;have sJ:(r0.finish v).fn=r0.fn:=by
   cases r0 with|mk fn tmps todo defers mode kind roundOf=>cases todo with
    |nil=>rfl
    |cons x l=>cases x<;>first|rfl|(rename_i ops l2;cases l2<;>rfl)
  rw[sJ];exact hr
 .obtain⟨e,w',fr,⟨v,rfl,hR⟩,hs,_,hl⟩:=hc τ d<|r0::(cs++[c]);exact⟨_,⟨v,w',hR,rfl⟩,Steps.trans hs<|.one<|step_leave_returned hl⟩
 .rintro _ ⟨v,V',hR,rfl⟩;exact h v V' hR
def aj.cut {X T:Code}(P:Act->World->Prop)(h1:∀a' W',P a' W'->aj P0 ok c Dr Q ⟨b.at a'<|.code T::k,cs,W'⟩)(h2:Hid (∀a' W',P a' W'->aj P0 ok c Dr Q ⟨b.at a'<|.code T::k,cs,W'⟩)->aj P0 ok c Dr Q ⟨b.at a<|.code X::.code T::k,cs,V⟩):aj P0 ok c Dr Q ⟨b.at a<|.code X::.code T::k,cs,V⟩:=h2 h1
omit [Gl] in
def gu (W:World)(τ:Nat->Question->Nat)(d:Nat):Bl W.heap.size W (re W τ d):=⟨ac3 _,λ_ _=>rfl⟩
end
def aT.r (h:aT w b now shift v u)(τ:Nat->Question->Nat)(d:Nat):aT (re w τ d) b now shift v u:=h
def aT.rc (h:aT w b now shift v u)(τ:Nat->Question->Nat)(d:Nat):type_of% (h.r τ d).cells:=h.cells
def Chg (cv c0:Value)(fm:FuncId):Prop:=(∃name,cv=.iface 77 (.agg #[.string name])/\c0=.agg #[.string name]/\fm=292)\/(cv=.iface 71 (.agg #[])/\c0=.agg #[]/\fm=291)\/∃name,cv=.iface 67 (.agg #[.string name])/\c0=.agg #[.string name]/\fm=287
def aab (v:Value)(w:World):(Instr.typeAssert (.iface 77 v) 104 134 true).run Tz.prog w=.ok (.tuple #[.nilIface,false]) w:=run_typeAssert_lacksB (Tz.aE Tryz.underlying134) bj bj v 104 w
def aaa (v:Value)(w:World):(Instr.typeAssert (.iface 71 v) 104 134 true).run Tz.prog w=.ok (.tuple #[.nilIface,false]) w:=run_typeAssert_lacksB (Tz.aE Tryz.underlying134) bj bj v 104 w
def Z_ (v:Value)(w:World):(Instr.typeAssert (.iface 67 v) 104 134 true).run Tz.prog w=.ok (.tuple #[.nilIface,false]) w:=run_typeAssert_lacksB (Tz.aE Tryz.underlying134) bj bj v 104 w
def cg (hr:fn.results=#[.cell i 29,.tmp j]){t:Array Value}(h1:t[i]?=some (.pointer B))(h2:t[j]?=some e)(hB:aT W B a0 a1 v u):
  (results fn t).run Tz.prog W=.ok (.tuple #[.agg #[a0,a1,v,u],e]) W:=by
 let⟨q0,q1,q2,q3,_⟩:=hB.cells;simp[results,hr,go_sem,q0,q1,q2,q3,h1,h2]
structure Mw (MP:Nat->Value->Value->World->Prop):Prop where
 is:∀{N y e W},MP N y e W->(e=.nilIface/\∃a0 a1 s2 l2 c2 s3 l3 c3,y=.agg #[.int .i64 a0,.int .i64 a1,.slice s2 l2 c2,.slice s3 l3 c3])\/∃cd,1<cd/\e=.iface 131 (.agg #[.int .i64 cd])/\y=.agg #[(0:Int),(0:Int),(),()]
 to:∀{N N' y e W W'},MP N y e W->N'<=N->(∀k,N<=k->k<W.heap.size->W'.heap[k]?=W.heap[k]?)->MP N' y e W'
section
variable [Gl]{cv c0:Value}{fm:FuncId}
def LV (E:dM Tz.prog ok c bY)(jf:ok.aX 67=true)(f7:ok.aX r0.fn=true)(hc:Chg cv c0 fm)(Vy:ok.aX fm=true)
  (Kw:∀W,Bl V V W->Calls Tz.prog 16 #[.agg #[now,shift,.slice ao n cp,.slice bo m dp]] W λe w'=>e=.returned bb/\Below W.heap.size W w')(xv:Mw MP)
  (fZ:bb=true->∀{W:World} {r:Frame} {cs:List Frame},ok.aX r.fn=true->Bl V V W->(∀y e W',Bl W.heap.size W W'->MP W.heap.size y e W'->aj Tz.prog ok c bY Q ⟨r.finish<|.tuple #[y,e],cs,W'⟩)->aj Tz.prog ok c bY Q ⟨Frame.enter Tz.prog fm #[c0,.agg #[now,shift,.slice ao n cp,.slice bo m dp]] .normal,r::cs,W⟩)
  (aH:∀y e W',Bl V V W'->(bb=false/\y=.agg #[(0:Int),(0:Int),(),()]/\e=.iface 131 (.agg #[(1:Int)])\/bb=true/\MP V.heap.size y e W')->aj Tz.prog ok c bY Q ⟨r0.finish<|.tuple #[y,e],cs,W'⟩):
  aj Tz.prog ok c bY Q ⟨Frame.enter Tz.prog 67 #[.agg #[now,shift,.slice ao n cp,.slice bo m dp],cv] .normal,r0::cs,V⟩:=by
 replace fZ:Hid _:=fZ;replace aH:Hid _:=aH;replace Kw:Hid _:=Kw;refine aj.en Tz.func67 rfl Tryz.ntmps67 vH ?_;refine aj.ck E jf [_,_] _ λK R τ d hK hR=>?_
 obtain⟨W1,e1,k2,b1,-⟩:=cI (re V τ d) now shift ao n cp bo m dp;obtain⟨W2,e2,k4,b2,-⟩:=cI W1 0 0 none 0 0 none 0 0;have bW:=b1.trans<|b2.mono b1.size;have H1:=Kw.out W2<|Bl.nP bW;have yy:=(k2.same<|b2.block _ k2.lt).cells;simp only[aD];rcases Bool.eq_false_or_eq_true bb with hb|hb;all_goals rw[hb]at H1
 rotate_left
 .replace hb:Hid _:=hb;go_wp2_with(go_at_call 16;refine H1.mono ?_;clear H1;rintro e w3 ⟨rfl,b3⟩;have j4:=k4.same<|b3.block _ k4.lt;let⟨z0,z1,z2,z3,z4⟩:=j4.cells;have bV:=bW.trans<|b3.mono bW.size;obtain⟨W5,e5,k5,b5,-,o5⟩:=aV j4 bV b1.size 0 0 none 0 0 none 0 0)
  refine hR.out _ _ λtodo=>?_
  exact aj.lv E f7 Tz.func67 (λτ d=>cg rfl rfl rfl<|k5.r τ d)<|aH.out _ _ _ (Bl.nP b5)<|.inl ⟨hb.out,rfl,rfl⟩
 replace hb:Hid _:=hb;go_wp2_with(go_at_call 16;refine H1.mono ?_;clear H1;rintro e w3 ⟨rfl,b3⟩)
 refine hK.out _ _ ?_;have p2:=(k2.same<|b2.block _ k2.lt).same<|b3.block _<|ac4 k2.lt b2.size;have p4:=k4.same<|b3.block _ k4.lt;have bV:=Bl.nP<|bW.trans<|b3.mono bW.size;have o4:V.heap.size<W1:=k2.lt;clear hK hR K R k2 k4 b1 b2 b3 bW yy e1 e2;refine aj.seq E jf<|aj.rg E jf<|aj.oc E jf 0 2 λK τ d hK=>?_;have yy:=p2.rc τ d;simp only[aK];go_wp2;refine hK.out _ _<|aj.un ?_;clear hK K yy;refine aj.dO E (i:=2) rfl rfl Vy (λw=>by rcases hc with⟨name,rfl,rfl,rfl⟩|⟨rfl,rfl,rfl⟩|⟨name,rfl,rfl,rfl⟩<;>kernel_rfl)<|fZ.out hb.out jf bV ?_;rintro y e W4 b4 hy;rw[bT rfl];have hTA:∀w,(Instr.typeAssert cv 104 134 true).run Tz.prog w=.ok (.tuple #[.nilIface,false]) w:=by rcases hc with⟨name,rfl,rfl,rfl⟩|⟨rfl,rfl,rfl⟩|⟨name,rfl,rfl,rfl⟩<;>intro w<;>first|exact aab _ w|exact aaa _ w|exact Z_ _ w
 have l3:=p4.lt;have p4:=p4.same<|b4.block _ l3;have l4:=p4.lt;have z4:=b4.size;have z0:=bV.size;have bV:=bV.trans b4 z0;rcases xv.is hy with⟨rfl,a0,a1,s2,l2,c2,s3,l3,c3,rfl⟩|⟨cd,PW,rfl,rfl⟩;all_goals
  refine aj.oc E jf 3 6 λK τ d hK=>?_
  simp only[aK,Act.put];go_wp2;refine hK.out _ _<|aj.regionEnd E jf ?_;clear hK K
 .obtain⟨W5,e5,k5,b5,-⟩:=cI (re W4 τ d) a0 a1 s2 l2 c2 s3 l3 c3;rw[e5];clear e5;have p4:=p4.same<|b5.block _ l4;refine aj.ck E jf [_,_,_] _ λK R τ d hK hR=>?_
  have yy:=k5.rc τ d;have xx:=p4.rc τ d;obtain⟨W8,e8,k8,-,z8,o8⟩:=aV (p4.r τ d) (acU 0 _) (ac8 _) a0 a1 s2 l2 c2 s3 l3 c3;replace z8:Hid _:=z8;simp only[aD];go_wp2;have z5:W4.heap.size<=W5:=b5.size;have z8:W8.heap.size=W5.heap.size:=z8.out;refine hK.out _ _<|aj.ret E jf<|aj.lv E f7 Tz.func67 (λτ d=>cg rfl rfl rfl<|k8.r τ d)<|aH.out _ _ _ ⟨ab,λk hk=>(o8 k ab).trans<|(b5.block k (by show k<W4.heap.size;omega)).trans<|bV.block k hk⟩<|.inr ⟨hb.out,xv.to hy ab λk h1 h2=>(o8 k ab).trans<|b5.block k h2⟩
 .have b5:Bl W4 W4 ((re W4 τ d).alloc<|.cells #[(0:Int),(0:Int),(),()] 29):=⟨by show W4.heap.size<=(W4.heap.push _).size;simp,λk hk=>acV _ _ _ hk⟩;revert b5;generalize (re W4 τ d).alloc _=W5;intro b5;have p4:=p4.same<|b5.block _ l4;refine aj.ck E jf [_] _ λK R τ d hK hR=>?_
  have xx:=p4.rc τ d;obtain⟨W8,e8,k8,-,z8,o8⟩:=aV (p4.r τ d) (acU 0 _) (ac8 _) 0 0 none 0 0 none 0 0;replace z8:Hid _:=z8;simp only[aD];go_wp2;have z5:=b5.size;have z8:W8.heap.size=W5.heap.size:=z8.out;exact hR.out _ _ λtodo=>aj.lv E f7 Tz.func67 (λτ d=>cg rfl rfl rfl<|k8.r τ d)<|aH.out _ _ _ ⟨ab,λk hk=>(o8 k ab).trans<|(b5.block k ab).trans<|bV.block k hk⟩<|.inr ⟨hb.out,xv.to hy ab λk h1 h2=>(o8 k ab).trans<|b5.block k h2⟩
def zZ (MP:Nat->Value->Value->World->Prop)(CP:Nat->Value->World->Prop)(bb:Bool)(N:Nat)(y:Value)(cd:Int)(W:World):Prop:=
 bb=false/\y=.agg #[(0:Int),(0:Int),(),()]/\cd=1\/bb=true/\((MP N y .nilIface W/\cd=0)\/1<cd/\(∃W' N',MP N' (.agg #[(0:Int),(0:Int),(),()]) (.iface 131<|.agg #[cd]) W')/\CP N y W)
structure Ul (CP:Nat->Value->World->Prop)(now shift:Int):Prop where
 is:∀{N y W},CP N y W->∃s2 l2 c2 s3 l3 c3,y=.agg #[now,shift,.slice s2 l2 c2,.slice s3 l3 c3]
 to:∀{N N' y W W'},CP N y W->N'<=N->(∀k,N<=k->k<W.heap.size->W'.heap[k]?=W.heap[k]?)->CP N' y W'
def vC (E:dM Tz.prog ok c bY)(sW:ok.aX 38=true)(jf:ok.aX 67=true)(Ns:ok.aX 68=false)(f7:ok.aX r0.fn=true)(xv:Mw MP)
  (hT:∀{W:World} {r:Frame} {cs:List Frame},ok.aX r.fn=true->Bl V V W->(∀y e W',Bl W W W'->(bb=false/\y=.agg #[(0:Int),(0:Int),(),()]/\e=.iface 131 (.agg #[(1:Int)])\/bb=true/\MP W.heap.size y e W')->aj Tz.prog ok c bY Q ⟨r.finish<|.tuple #[y,e],cs,W'⟩)->aj Tz.prog ok c bY Q ⟨Frame.enter Tz.prog 67 #[.agg #[now,shift,.slice ao n cp,.slice bo m dp],cv] .normal,r::cs,W⟩)
  (Dx:Ul CP now shift)(KA:∀W,Bl V V W->Calls Tz.prog 69 #[.agg #[now,shift,.slice ao n cp,.slice bo m dp]] W λe w'=>(∃y,e=.returned y/\CP W.heap.size y w')/\Below W.heap.size W w')
  (aH:∀y cd W',Bl V V W'->zZ MP CP bb V.heap.size y cd W'->aj Tz.prog ok c bY Q ⟨r0.finish<|.tuple #[y,.int .i64 cd],cs,W'⟩):
  aj Tz.prog ok c bY Q ⟨Frame.enter Tz.prog 38 #[.agg #[now,shift,.slice ao n cp,.slice bo m dp],cv] .normal,r0::cs,V⟩:=by
 replace hT:Hid _:=@hT;replace aH:Hid _:=aH;replace KA:Hid _:=KA;refine aj.en Tz.func38 rfl Tryz.ntmps38 vH ?_;refine aj.ck E sW [_] _ λK R τ d hK hR=>?_
 obtain⟨W1,e1,k2,b1,-⟩:=cI (re V τ d) now shift ao n cp bo m dp;obtain⟨W2,e2,k4,b2,-⟩:=cI W1 0 0 none 0 0 none 0 0;have bW:=Bl.nP<|b1.trans<|b2.mono b1.size;simp only[aD];go_wp2;refine hK.out _ _ ?_;have p2:=k2.same<|b2.block _ k2.lt;have o4:V.heap.size<W1:=k2.lt;clear hK hR K R k2 b1 b2 e1 e2;refine aj.seq E sW<|aj.rg E sW<|aj.oc E sW 0 2 λK τ d hK=>?_;have yy:=p2.rc τ d;simp only[aK];go_wp2;refine hK.out _ _<|aj.un ?_;clear hK K yy;refine aj.dO E (i:=2) rfl rfl jf (λw=>y7)<|hT.out sW bW ?_;rintro y e W4 b4 hy;rw[bT rfl];have l2:=k4.lt;have k4:=k4.same<|b4.block _ l2;have p2:=p2.same<|b4.block _ p2.lt;have l4:=k4.lt;have z0:=bW.size;have z4:=b4.size;have bV:=bW.trans b4 z0;obtain⟨a0,a1,s2,l2,c2,s3,l3,c3,cd,rfl,he,h1,h2⟩:∃a0 a1 s2 l2 c2 s3 l3 c3 cd,y=.agg #[.int .i64 a0,.int .i64 a1,.slice s2 l2 c2,.slice s3 l3 c3]/\Jv e cd/\(¬1<cd->zZ MP CP bb W2.heap.size y cd W4)/\(1<cd->bb=true/\MP W2.heap.size (.agg #[(0:Int),(0:Int),.slice none 0 0,.slice none 0 0]) (.iface 131<|.agg #[.int .i64 cd]) W4):=by
  rcases hy with⟨h0,rfl,rfl⟩|⟨h0,hy⟩
  .exact⟨_,_,_,_,_,_,_,_,1,rfl,.inr rfl,λ_=>.inl ⟨h0,rfl,rfl⟩,λh=>ab⟩
  .rcases xv.is hy with⟨rfl,a0,a1,s2,l2,c2,s3,l3,c3,rfl⟩|⟨cd,PW,rfl,rfl⟩
   .exact⟨_,_,_,_,_,_,_,_,0,rfl,.inl ⟨rfl,rfl⟩,λ_=>.inr ⟨h0,.inl ⟨hy,rfl⟩⟩,λh=>ab⟩
   .exact⟨_,_,_,_,_,_,_,_,cd,rfl,.inr rfl,λh=>absurd PW h,λ_=>⟨h0,hy⟩⟩
 replace h1:Hid _:=h1;replace h2:Hid _:=h2;clear hy;refine aj.oc E sW 3 6 λK τ d hK=>?_
 simp only[aK,Act.put];go_wp2;refine hK.out _ _<|aj.regionEnd E sW ?_;clear hK K;obtain⟨W5,e5,k5,b5,-⟩:=cI (re W4 τ d) a0 a1 s2 l2 c2 s3 l3 c3;rw[e5];clear e5;have k4:=k4.same<|b5.block _ l4;have p2:=p2.same<|b5.block _ p2.lt;refine aj.seq E sW<|aj.rg E sW<|aj.oc E sW 0 1 λK τ d hK=>?_;simp only[aK];go_wp2;refine hK.out _ _<|aj.un ?_;clear hK K;refine aj.M9 E (i:=1) rfl rfl Ns (λw=>y7) (λτ d=>.inr ⟨rfl,e,cd,rfl,he,rfl⟩) ?_;rintro τ d _ _ ⟨rfl,rfl⟩;refine aj.un<|aj.oc E sW 2 1 λK τ d hK=>?_;simp only[aK,Act.put];go_wp2;refine hK.out _ _<|aj.un<|aj.regionEnd E sW ?_;clear hK K;have z5:W4.heap.size<=W5:=b5.size;by_cases PW:1<cd
 .refine aj.ck E sW [_] _ λK R τ d hK hR=>?_
  have bV5:Bl V V (re W5 τ d):=⟨by show V.heap.size<=W5.heap.size;omega,λk hk=>(b5.block k (by show k<W4.heap.size;omega)).trans<|bV.block k hk⟩;have H1:=KA.out _ bV5;have yy:=p2.rc τ d;have q4:aT (re W5 τ d) _ _ _ _ _:=k4;simp only[aD];go_wp2_with(go_at_call 69;refine H1.mono ?_;clear H1;rintro e w6 ⟨⟨y,rfl,hy⟩,b6⟩;obtain⟨s2,l2,c2,s3,l3,c3,rfl⟩:=Dx.is hy;have j4:=q4.same<|b6.block _ q4.lt;have xx:=j4.cells;obtain⟨W8,e8,k8,-,z8,o8⟩:=aV j4 (acU 0 _) (ac8 _) now shift s2 l2 c2 s3 l3 c3;replace z8:Hid _:=z8)
  have z8:W8.heap.size=w6.heap.size:=z8.out;have z6:W5.heap.size<=w6:=b6.size;exact hR.out _ _ λtodo=>aj.lv E f7 Tz.func38 (λτ d=>cg rfl rfl rfl<|k8.r τ d)<|aH.out _ _ _ ⟨ab,λk hk=>(o8 k ab).trans<|(b6.block k (by show k<W5.heap.size;omega)).trans<|bV5.block k hk⟩<|.inr ⟨(h2.out PW).1,.inr ⟨PW,⟨_,_,(h2.out PW).2⟩,Dx.to hy (by show V.heap.size<=W5.heap.size;omega) λk g1 g2=>o8 k (by have g1:W5.heap.size<=k:=g1;omega)⟩⟩
 .refine aj.ck E sW [_,_] _ λK R τ d hK hR=>?_
  have yy:=k5.rc τ d;have xx:=k4.rc τ d;obtain⟨W8,e8,k8,-,z8,o8⟩:=aV (k4.r τ d) (acU 0 _) (ac8 _) a0 a1 s2 l2 c2 s3 l3 c3;replace z8:Hid _:=z8;simp only[aD];go_wp2;have z8:W8.heap.size=W5.heap.size:=z8.out;refine hK.out _ _<|aj.ret E sW<|aj.lv E f7 Tz.func38 (λτ d=>cg rfl rfl rfl<|k8.r τ d)<|aH.out _ _ _ ⟨ab,λk hk=>(o8 k ab).trans<|(b5.block k (by show k<W4.heap.size;omega)).trans<|bV.block k hk⟩ ?_;rcases h1.out ab with h|⟨h0,⟨hy,rfl⟩|⟨h,_⟩⟩
  .exact .inl h
  .exact .inr ⟨h0,.inl ⟨xv.to hy z0 λk g1 g2=>(o8 k ab).trans<|b5.block k g2,rfl⟩⟩
  .omega
def qi (E:dM Tz.prog ok c bY)(sW:ok.aX 38=true)(jf:ok.aX 67=true)(Ns:ok.aX 68=false)(f7:ok.aX r0.fn=true)(hc:Chg cv c0 fm)(Vy:ok.aX fm=true)
  (Kw:∀W,Bl V V W->Calls Tz.prog 16 #[.agg #[now,shift,.slice ao n cp,.slice bo m dp]] W λe w'=>e=.returned bb/\Below W.heap.size W w')(xv:Mw MP)
  (fZ:bb=true->∀{W:World} {r:Frame} {cs:List Frame},ok.aX r.fn=true->Bl V V W->(∀y e W',Bl W.heap.size W W'->MP W.heap.size y e W'->aj Tz.prog ok c bY Q ⟨r.finish<|.tuple #[y,e],cs,W'⟩)->aj Tz.prog ok c bY Q ⟨Frame.enter Tz.prog fm #[c0,.agg #[now,shift,.slice ao n cp,.slice bo m dp]] .normal,r::cs,W⟩)
  (Dx:Ul CP now shift)(KA:∀W,Bl V V W->Calls Tz.prog 69 #[.agg #[now,shift,.slice ao n cp,.slice bo m dp]] W λe w'=>(∃y,e=.returned y/\CP W.heap.size y w')/\Below W.heap.size W w')
  (aH:∀y cd W',Bl V V W'->zZ MP CP bb V.heap.size y cd W'->aj Tz.prog ok c bY Q ⟨r0.finish<|.tuple #[y,.int .i64 cd],cs,W'⟩):
  aj Tz.prog ok c bY Q ⟨Frame.enter Tz.prog 38 #[.agg #[now,shift,.slice ao n cp,.slice bo m dp],cv] .normal,r0::cs,V⟩:=
 vC E sW jf Ns f7 xv (λhr hW h=>LV E jf hr hc Vy (λW' YX=>Kw W'<|hW.trans YX hW.size) xv (λh W' r' cs' fH YX=>fZ h fH<|hW.trans YX hW.size) h) Dx KA aH
end
section
variable [Gl]
def zZ.is (h:zZ MP CP bb N y cd W)(xv:Mw MP)(Dx:Ul CP now shift):∃a0 a1 s2 l2 c2 s3 l3 c3,y=.agg #[.int .i64 a0,.int .i64 a1,.slice s2 l2 c2,.slice s3 l3 c3]:=by
 rcases h with⟨_,rfl,_⟩|⟨_,⟨h,_⟩|⟨_,_,h⟩⟩
 .exact⟨_,_,_,_,_,_,_,_,rfl⟩
 .rcases xv.is h with⟨_,h⟩|⟨_,_,h,_⟩
  .exact h
  .cases h
 .obtain⟨_,_,_,_,_,_,rfl⟩:=Dx.is h;exact⟨_,_,_,_,_,_,_,_,rfl⟩
def zZ.to {N':Nat}{W':World}(h:zZ MP CP bb N y cd W)(xv:Mw MP)(Dx:Ul CP now shift)(hN:N'<=N)(e:∀k,N<=k->k<W.heap.size->W'.heap[k]?=W.heap[k]?):zZ MP CP bb N' y cd W':=by
 rcases h with h|⟨h0,⟨h,h1⟩|⟨h1,h2,h⟩⟩
 .exact .inl h
 .exact .inr ⟨h0,.inl ⟨xv.to h hN e,h1⟩⟩
 .exact .inr ⟨h0,.inr ⟨h1,h2,Dx.to h hN e⟩⟩
def LT (E:dM Tz.prog ok c bY)(Cg:ok.aX 20=true)(sW:ok.aX 38=true)(jf:ok.aX 67=true)(Ns:ok.aX 68=false)(f7:ok.aX r0.fn=true)(Vy:ok.aX 292=true)
  (Kw:∀W,Bl V V W->Calls Tz.prog 16 #[.agg #[now,shift,.slice ao n cp,.slice bo m dp]] W λe w'=>e=.returned bb/\Below W.heap.size W w')(xv:Mw MP)
  (fZ:bb=true->∀{W:World} {r:Frame} {cs:List Frame},ok.aX r.fn=true->Bl V V W->(∀y e W',Bl W.heap.size W W'->MP W.heap.size y e W'->aj Tz.prog ok c bY Q ⟨r.finish<|.tuple #[y,e],cs,W'⟩)->aj Tz.prog ok c bY Q ⟨Frame.enter Tz.prog 292 #[.agg #[name],.agg #[now,shift,.slice ao n cp,.slice bo m dp]] .normal,r::cs,W⟩)
  (Dx:Ul CP now shift)(KA:∀W,Bl V V W->Calls Tz.prog 69 #[.agg #[now,shift,.slice ao n cp,.slice bo m dp]] W λe w'=>(∃y,e=.returned y/\CP W.heap.size y w')/\Below W.heap.size W w')
  (aH:∀y cd W',Bl V V W'->zZ MP CP bb V.heap.size y cd W'->aj Tz.prog ok c bY Q ⟨r0.finish<|.tuple #[y,.int .i64 cd],cs,W'⟩):
  aj Tz.prog ok c bY Q ⟨Frame.enter Tz.prog 20 #[.agg #[now,shift,.slice ao n cp,.slice bo m dp],name] .normal,r0::cs,V⟩:=by
 replace fZ:Hid _:=@fZ;replace aH:Hid _:=aH;replace Kw:Hid _:=Kw;replace KA:Hid _:=KA;refine aj.en Tz.func20 rfl Tryz.ntmps20 vH ?_;refine aj.ck E Cg [_] _ λK R τ0 kW hK hR=>?_
 obtain⟨W1,e1,k2,b1,-⟩:=cI (re V τ0 kW) now shift ao n cp bo m dp;obtain⟨W2,e2,k4,b2,-⟩:=cI W1 0 0 none 0 0 none 0 0;have bW:=Bl.nP<|b1.trans<|b2.mono b1.size;simp only[aD];go_wp2;refine hK.out _ _ ?_;have p2:=k2.same<|b2.block _ k2.lt;have o4:V.heap.size<W1:=k2.lt;clear hK hR K R k2 b1 b2 e1 e2;refine aj.seq E Cg<|aj.rg E Cg<|aj.oc E Cg 0 4 λK τ d hK=>?_;have yy:=p2.rc τ d;simp only[aK];go_wp2;refine hK.out _ _<|aj.un ?_;clear hK K yy;refine aj.dO E (i:=4) rfl rfl sW (λw=>y7)<|qi E sW jf Ns Cg (.inl ⟨name,rfl,rfl,rfl⟩) Vy (λW hW=>Kw.out W<|bW.trans hW bW.size) xv (λh W r cs hr hW=>fZ.out h hr<|bW.trans hW bW.size) Dx (λW hW=>KA.out W<|bW.trans hW bW.size) ?_;rintro y cd W4 b4 hy;rw[bT rfl];obtain⟨a0,a1,s2,l2,c2,s3,l3,c3,rfl⟩:=hy.is xv Dx;have VY:=k4.lt;have k4:=k4.same<|b4.block _ VY;have z0:=bW.size;have z4:=b4.size;have bV:=bW.trans b4 z0;refine aj.oc E Cg 5 4 λK τ d hK=>?_
 have xx:=k4.rc τ d;obtain⟨W8,e8,k8,-,z8,o8⟩:=aV (k4.r τ d) (acU 0 _) (ac8 _) a0 a1 s2 l2 c2 s3 l3 c3;replace z8:Hid _:=z8;simp only[aK,Act.put];go_wp2;have z8:W8.heap.size=W4.heap.size:=z8.out;exact hK.out _ _<|aj.regionEnd E Cg<|aj.ret E Cg<|aj.lv E f7 Tz.func20 (λτ d=>cg rfl rfl rfl<|k8.r τ d)<|aH.out _ _ _ ⟨ab,λk hk=>(o8 k ab).trans<|bV.block k hk⟩<|hy.to xv Dx z0 λk g1 g2=>o8 k ab
def AY {l:Nat}(hr:fn.results=#[.cell i 29,.tmp j,.tmp l]){t:Array Value}{e':Value}(h1:t[i]?=some (.pointer B))(h2:t[j]?=some e)(h3:t[l]?=some e')(hB:aT W B a0 a1 v u):
  (results fn t).run Tz.prog W=.ok (.tuple #[.agg #[a0,a1,v,u],e,e']) W:=by
 let⟨q0,q1,q2,q3,_⟩:=hB.cells;simp[results,hr,go_sem,q0,q1,q2,q3,h1,h2,h3]
def PJ (E:dM Tz.prog ok c bY)(Cg:ok.aX 13=true)(sW:ok.aX 38=true)(jf:ok.aX 67=true)(Ns:ok.aX 68=false)(f7:ok.aX r0.fn=true)(Vy:ok.aX 291=true)
  (Kw:∀W,Bl V V W->Calls Tz.prog 16 #[.agg #[now,shift,.slice ao n cp,.slice bo m dp]] W λe w'=>e=.returned bb/\Below W.heap.size W w')(xv:Mw MP)
  (fZ:bb=true->∀{W:World} {r:Frame} {cs:List Frame},ok.aX r.fn=true->Bl V V W->(∀y e W',Bl W.heap.size W W'->MP W.heap.size y e W'->aj Tz.prog ok c bY Q ⟨r.finish<|.tuple #[y,e],cs,W'⟩)->aj Tz.prog ok c bY Q ⟨Frame.enter Tz.prog 291 #[.agg #[],.agg #[now,shift,.slice ao n cp,.slice bo m dp]] .normal,r::cs,W⟩)
  (Dx:Ul CP now shift)(KA:∀W,Bl V V W->Calls Tz.prog 69 #[.agg #[now,shift,.slice ao n cp,.slice bo m dp]] W λe w'=>(∃y,e=.returned y/\CP W.heap.size y w')/\Below W.heap.size W w')
  {NP:Nat->Option Addr->Nat->Nat->World->Prop}(hNt:∀{N N' s l k W W'},NP N s l k W->N'<=N->(∀k,N<=k->k<W.heap.size->W'.heap[k]?=W.heap[k]?)->NP N' s l k W')(Rf:bb=true->∀W,Bl V V W->Calls Tz.prog 47 #[.agg #[now,shift,.slice ao n cp,.slice bo m dp],now] W λe w'=>(∃s l k,e=.returned (.slice s l k)/\NP W.heap.size s l k w')/\Below W.heap.size W w')
  (aH:∀y s l k cd W',Bl V V W'->zZ MP CP bb V.heap.size y cd W'->(cd=0/\NP V.heap.size s l k W'\/cd≠0/\s=none/\l=0/\k=0)->aj Tz.prog ok c bY Q ⟨r0.finish<|.tuple #[y,.slice s l k,.int .i64 cd],cs,W'⟩):
  aj Tz.prog ok c bY Q ⟨Frame.enter Tz.prog 13 #[.agg #[now,shift,.slice ao n cp,.slice bo m dp]] .normal,r0::cs,V⟩:=by
 replace fZ:Hid _:=@fZ;replace aH:Hid _:=aH;replace Kw:Hid _:=Kw;replace KA:Hid _:=KA;replace Rf:Hid _:=Rf;replace hNt:Hid _:=@hNt;refine aj.en Tz.func13 rfl Tryz.ntmps13 vH ?_;refine aj.ck E Cg [_] _ λK R τ0 kW hK hR=>?_
 obtain⟨W1,e1,k2,b1,-⟩:=cI (re V τ0 kW) now shift ao n cp bo m dp;obtain⟨W2,e2,k4,b2,-⟩:=cI W1 0 0 none 0 0 none 0 0;have bW:=Bl.nP<|b1.trans<|b2.mono b1.size;simp only[aD];go_wp2;refine hK.out _ _ ?_;have p2:=k2.same<|b2.block _ k2.lt;have o4:V.heap.size<W1:=k2.lt;clear hK hR K R k2 b1 b2 e1 e2;refine aj.seq E Cg<|aj.rg E Cg<|aj.oc E Cg 0 3 λK τ d hK=>?_;have yy:=p2.rc τ d;simp only[aK];go_wp2;refine hK.out _ _<|aj.un ?_;clear hK K yy;refine aj.dO E (i:=3) rfl rfl sW (λw=>y7)<|qi E sW jf Ns Cg (.inr<|.inl ⟨rfl,rfl,rfl⟩) Vy (λW hW=>Kw.out W<|bW.trans hW bW.size) xv (λh W r cs hr hW=>fZ.out h hr<|bW.trans hW bW.size) Dx (λW hW=>KA.out W<|bW.trans hW bW.size) ?_;rintro y cd W4 b4 hy;rw[bT rfl];obtain⟨a0,a1,s2,l2,c2,s3,l3,c3,rfl⟩:=hy.is xv Dx;have VY:=k4.lt;have k4:=k4.same<|b4.block _ VY;have p2:=p2.same<|b4.block _ p2.lt;have z0:=bW.size;have z4:=b4.size;have bV:=bW.trans b4 z0;refine aj.oc E Cg 4 6 λK τ' d' hK=>?_
 simp only[aK,Act.put];go_wp2;refine hK.out _ _<|aj.regionEnd E Cg ?_;clear hK K;obtain⟨W5,e5,k5,b5,-⟩:=cI (re W4 τ' d') a0 a1 s2 l2 c2 s3 l3 c3;rw[e5];clear e5;have l4:=k4.lt;have k4:=k4.same<|b5.block _ l4;have p2:=p2.same<|b5.block _ p2.lt;have hy:=hy.to xv Dx (ac3 _) λk _ hk=>b5.block k hk
 have z5:W4.heap.size<=W5:=b5.size;replace bV:Bl V V W5:=⟨ab,λk hk=>(b5.block k (by show k<W4.heap.size;omega)).trans<|bV.block k hk⟩;by_cases PW:cd=0
 .subst PW;have hbb:bb=true:=by
   rcases hy with⟨_,_,h⟩|⟨h,_⟩
   .cases h
   .exact h
  replace hbb:Hid _:=hbb;refine aj.ck E Cg [_,_] _ λK R τ d hK hR=>?_
  have yy:=k5.rc τ d;have xx:=p2.rc τ d;have q4:aT (re W5 τ d) _ _ _ _ _:=k4;have q5:aT (re W5 τ d) _ _ _ _ _:=k5;have q2:aT (re W5 τ d) _ _ _ _ _:=p2;have n5:(re W4 τ' d').heap.size≠W1.heap.size:=by show W4.heap.size≠_;omega
  have n2:(re V τ0 kW).heap.size≠W1.heap.size:=by show V.heap.size≠_;omega
  have H1:=Rf.out hbb.out (re W5 τ d).drew ⟨bV.size,bV.block⟩;simp only[aD];go_wp2;go_region_held3 (λw'=>(w'.cell? ⟨(re W4 τ' d').heap.size,0,none⟩=some (.int .i64 a0)/\w'.cell? ⟨(re W4 τ' d').heap.size,1,none⟩=some (.int .i64 a1)/\w'.cell? ⟨(re W4 τ' d').heap.size,2,none⟩=some (.slice s2 l2 c2)/\w'.cell? ⟨(re W4 τ' d').heap.size,3,none⟩=some (.slice s3 l3 c3))/\w'.cell? ⟨(re V τ0 kW).heap.size,0,none⟩=some (.int .i64 now)/\w'.cell? ⟨(re V τ0 kW).heap.size,1,none⟩=some (.int .i64 shift)/\w'.cell? ⟨(re V τ0 kW).heap.size,2,none⟩=some (.slice ao n cp)/\w'.cell? ⟨(re V τ0 kW).heap.size,3,none⟩=some (.slice bo m dp)) (go_keep)
   (first
    |(go_at_call 47;refine H1.mono ?_;clear H1;rintro e w6 ⟨⟨s,l,k,rfl,hs⟩,b6⟩;have j4:=q4.same<|b6.block _ q4.lt;let⟨r0,r1,r2,r3,r4⟩:=j4.cells;have j5:=q5.same<|b6.block _ q5.lt;have j2:=q2.same<|b6.block _ q2.lt;have uu:=j5.cells;have tt:=j2.cells;obtain⟨W8,e8,k8,-,z8,o8⟩:=aV j4 (acU 0 _) (ac8 _) a0 a1 s2 l2 c2 s3 l3 c3;replace z8:Hid _:=z8;have vv:=(j5.same<|o8 _ n5).cells;let⟨g0,g1,g2,g3,g4⟩:=(j2.same<|o8 _ n2).cells))
  rename_i hh;clear hh;have z8:W8.heap.size=w6.heap.size:=z8.out;have z6:W5.heap.size<=w6:=b6.size;have zV:=bV.size;refine hK.out _ _<|aj.ret E Cg<|aj.lv E f7 Tz.func13 (λτ d=>AY rfl rfl rfl rfl<|k8.r τ d)<|aH.out _ _ _ _ _ _ ⟨ab,λk hk=>(o8 k ab).trans<|(b6.block k (by show k<W5.heap.size;omega)).trans<|bV.block k hk⟩ (hy.to xv Dx z0 λk g1 g2=>(o8 k ab).trans<|b6.block k g2)<|.inl ⟨rfl,hNt.out hs (by show V.heap.size<=W5.heap.size;omega) λk g1 g2=>o8 k (by have g1:W5.heap.size<=k:=g1;omega)⟩
 .refine aj.ck E Cg [_] _ λK R τ d hK hR=>?_
  have yy:=k5.rc τ d;have xx:=k4.rc τ d;obtain⟨W8,e8,k8,-,z8,o8⟩:=aV (k4.r τ d) (acU 0 _) (ac8 _) a0 a1 s2 l2 c2 s3 l3 c3;replace z8:Hid _:=z8;simp only[aD];go_wp2;have z8:W8.heap.size=W5.heap.size:=z8.out;have zV:=bV.size;exact hR.out _ _ λtodo=>aj.lv E f7 Tz.func13 (λτ d=>AY rfl rfl rfl rfl<|k8.r τ d)<|aH.out _ _ _ _ _ _ ⟨ab,λk hk=>(o8 k ab).trans<|bV.block k hk⟩ (hy.to xv Dx z0 λk g1 g2=>o8 k ab)<|.inr ⟨PW,rfl,rfl,rfl⟩
end
def KT (g:Value)(w:World):Calls Tz.prog 280 #[(),g] w λe w'=>e=.returned (.int .i64 (-1))/\Below w w w':=by
 go_enter Tz.func280,Tryz.ntmps280
 go_wp2;go_loopw [8] (λi w'=>i=.int .i64 0/\Below w w w') (λ_ _=>0)
 case atStart=>exact⟨rfl,acU _ _⟩
 case round=>
  obtain⟨rfl,hB⟩:=hrel;go_wp2;go_ret;exact⟨rfl,hB⟩
def p6 (ao:Option Addr)(n cap:Nat)(f:Nat->Mv)(name:ByteArray)(w:World)(hn:n<=6)(hv:fL w ao n cap f):
  Calls Tz.prog 278 #[.slice ao n cap,name] w λe w'=>(∃k:Int,e=.returned (.int .i64 k)/\eI f n name k)/\Below w w w':=by
 cases ao with
 |some ad=>
  obtain⟨b,rfl,hb,hr⟩:=hv.2 _ rfl;exact E9 b 0 n cap f name w ab hb hr
 |none=>
  obtain⟨rfl,rfl⟩:=hv.1 rfl;have b0:Below w w (w.alloc<|.cells #[name] 9):=(acU _ w).alloc (ac3 _) _;have hI:=λg=>KT g<|w.alloc<|.cells #[name] 9
  go_enter Tz.func278,Tryz.ntmps278
  go_wp2_with(go_at_call 280;refine(hI _).mono ?_;rintro e w1 ⟨rfl,b1⟩)
  go_ret;exact⟨⟨-1,rfl,.inl ⟨rfl,λi hi=>absurd hi<|ac7 _⟩⟩,b0.trans<|b1.mono b0.size⟩
def IW (t ty e:TypeId)(i:TypeInfo)(ht:Tz.prog.underlying t=some (.slice e))(hi:Tz.prog.info? e=some i)(s:Option Addr)(c:Nat)(w:World):(Builtin.append_ #[t,t] ty #[(),.slice s 0 c]).run Tz.prog w=.ok () w:=by
 cases s<;>simp[Builtin.append_,run_underlying ht,sizeOf,typeInfo,hi,Builtin.lenOf,Builtin.firstCells,loadCells,loadCellsFrom]
def GE (now shift:Int)(ao:Option Addr)(ca:Nat)(bo:Option Addr)(da:Nat)(w:World):Calls Tz.prog 69 #[.agg #[now,shift,.slice ao 0 ca,.slice bo 0 da]] w λe w'=>e=.returned (.agg #[now,shift,(),()])/\Below w w w':=by
 let⟨iM,hI,gE,eG,ga⟩:=info_parts wj;let⟨i0,I4,KP,F8,G8⟩:=info_parts Of;have a1:=λty s c W=>IW 23 ty _ _ (Tz.aE Tryz.underlying23) hI s c W
 have a2:=λty s c W=>IW 27 ty _ _ (Tz.aE Tryz.underlying27) I4 s c W
 have qp:∀o1 o2,Below w w ((w.alloc o1).alloc o2):=λo1 o2=>((acU _ w).alloc (ac3 _) _).alloc aG _
 cases ao<;>cases bo
 all_goals
  go_enter Tz.func69,Tryz.ntmps69
  go_wp2;refine bodyPost_ret (v:=.agg #[now,shift,(),()]) (by simp[results,Tryz.results69,go_sem]) rfl ⟨rfl,?_⟩;exact qp _ _
def rB (now shift:Int)(ao:Option Addr)(n cap:Nat)(f:Nat->Mv)(bo:Option Addr)(m cap':Nat)(t:Nat->Int)(w:World)(hn:n<=6)(hm:m<=6)(hv:fL w ao n cap f)(hu:gF w bo m cap' t)(h2:ao=none\/bo=none->n=0/\m=0):
  Calls Tz.prog 69 #[.agg #[now,shift,.slice ao n cap,.slice bo m cap']] w λe w'=>(∃v u,e=.returned (QD now shift v u)/\w'.ownsRow w.heap.size 31 6 v n (eh f n)/\w'.ownsRow w.heap.size 3 1 u m (ee t m))/\Below w w w':=by
 by_cases h:ao=none\/bo=none
 .obtain⟨rfl,rfl⟩:=h2 h;refine(GE now shift ao cap bo cap' w).mono ?_;rintro e w' ⟨rfl,hb⟩;exact⟨⟨_,_,rfl,⟨rfl,.inl ⟨rfl,rfl⟩⟩,⟨rfl,.inl ⟨rfl,rfl⟩⟩⟩,hb⟩
 .cases ao with
  |none=>exact absurd (.inl rfl) h
  |some ad=>
   cases bo with
   |none=>exact absurd (.inr rfl) h
   |some ad'=>
    obtain⟨b,rfl,hb,hr⟩:=hv.2 _ rfl;obtain⟨b',rfl,dt,fH⟩:=hu.2 _ rfl;exact xd now shift b 0 n cap f b' 0 m cap' t w ab ab hb hr dt fH
def EI (now shift tick:Int)(ao:Option Addr)(ca:Nat)(bo:Option Addr)(da:Nat)(w:World):Calls Tz.prog 47 #[.agg #[now,shift,.slice ao 0 ca,.slice bo 0 da],tick] w λe w'=>e=.returned ()/\Below w w w':=by
 have b0:Below w w (w.alloc<|.cells #[now,shift,.slice ao 0 ca,.slice bo 0 da] 29):=(acU _ w).alloc (ac3 _) _;go_enter Tz.func47,Tryz.ntmps47
 go_wp2;go_loopw [5,11] (λs i w'=>s=()/\i=.int .i64 0/\Below w w w') (λ_ _ _=>0)
 case atStart=>exact⟨rfl,rfl,b0⟩
 case round=>
  obtain⟨rfl,rfl,hB⟩:=hrel;go_wp2;go_ret;exact⟨rfl,hB⟩
def EJ (now shift tick:Int)(ao:Option Addr)(n cap:Nat)(f:Nat->Mv)(bo:Option Addr)(cap':Nat)(t:Nat->Int)(w:World)(hn:n<=6)(hv:fL w ao n cap f)(hu:gF w bo n cap' t)(h2:ao=none\/bo=none->n=0):
  Calls Tz.prog 47 #[.agg #[now,shift,.slice ao n cap,.slice bo n cap'],tick] w λe w'=>(∃s,e=.returned s/\w'.ownsRow w.heap.size 9 1 s (gone tick t n).length (ng f<|gone tick t n))/\Below w w w':=by
 by_cases h:ao=none\/bo=none
 .obtain rfl:=h2 h;refine(EI now shift tick ao cap bo cap' w).mono ?_;rintro e w' ⟨rfl,hb⟩;exact⟨⟨_,rfl,⟨rfl,.inl ⟨rfl,rfl⟩⟩⟩,hb⟩
 .cases ao with
  |none=>exact absurd (.inl rfl) h
  |some ad=>
   cases bo with
   |none=>exact absurd (.inr rfl) h
   |some ad'=>
    obtain⟨b,rfl,hb,hr⟩:=hv.2 _ rfl;obtain⟨b',rfl,dt,fH⟩:=hu.2 _ rfl;exact EH now shift tick b 0 n cap f b' 0 cap' t w hn hb hr dt fH
def th {w':World}(h:aA w b 0 n t)(e:w'.heap[b]?=w.heap[b]?):aA w' b 0 n t:=λi hi=>by
 have:=h i hi;simp only[World.cell?,e]at this⊢;exact this
def fL.bl {c:Nat}(h:fL w ao n c f)(hb:Bl w w W):fL W ao n c f:=
 ⟨h.1,λad had=>by let⟨b,e,hl,hr⟩:=h.2 ad had;exact⟨b,e,ac4 hl hb.size,dA hr<|hb.block b hl⟩⟩
def gF.bl {c:Nat}(h:gF w ao n c t)(hb:Bl w w W):gF W ao n c t:=
 ⟨h.1,λad had=>by let⟨b,e,hl,hr⟩:=h.2 ad had;exact⟨b,e,ac4 hl hb.size,th hr<|hb.block b hl⟩⟩
structure Bq (w:World)(now shift:Int)(ao:Option Addr)(n cp:Nat)(f:Nat->Mv)(bo:Option Addr)(m dp:Nat)(t:Nat->Int):Prop where
 n6:n<=6
 m6:m<=6
 sm:fL w ao n cp f
 si:gF w bo m dp t
 two:ao=none\/bo=none->n=0/\m=0/\(0<=now/\now<=10000)/\0<=shift/\shift<=6
 fit:∀i,i<n->(f i).Fits
def Bq.bl (h:Bq w now shift ao n cp f bo m dp t)(hb:Bl w w W):Bq W now shift ao n cp f bo m dp t:=⟨h.n6,h.m6,h.sm.bl hb,h.si.bl hb,h.two,h.fit⟩
def Bq.cases (h:Bq w now shift ao n cp f bo m dp t){P:Prop}(h0:n=0->m=0->0<=now/\now<=10000->0<=shift/\shift<=6->P)(h1:∀b b',ao=some ⟨b,0,none⟩->bo=some ⟨b',0,none⟩->b<w.heap.size->aJ w b 0 n f->b'<w.heap.size->aA w b' 0 m t->P):P:=by
 by_cases hh:ao=none\/bo=none
 .let⟨e1,e2,e3,e4⟩:=h.two hh;exact h0 e1 e2 e3 e4
 .cases ao with
  |none=>exact absurd (.inl rfl) hh
  |some ad=>
   cases bo with
   |none=>exact absurd (.inr rfl) hh
   |some ad'=>
    obtain⟨b,rfl,hb,hr⟩:=h.sm.2 _ rfl;obtain⟨b',rfl,dt,fH⟩:=h.si.2 _ rfl;exact h1 b b' rfl rfl hb hr dt fH
def Bq.ib (h:Bq w now shift ao n cp f bo m dp t):Calls Tz.prog 16 #[.agg #[now,shift,.slice ao n cp,.slice bo m dp]] w λe w'=>e=.returned (.bool<|aM now shift f n t m)/\Below w w w':=by
 have h6:=h.n6;have hm6:=h.m6;refine h.cases (λe1 e2 r1 r2=>?_) λb b' e1 e2 hb hr dt fH=>?_
 .subst e1 e2;rw[t6 r1 r2];exact Cs now shift w r1 r2
 .subst e1 e2;exact Ct now shift b 0 n cp f b' 0 m dp t w ab ie hb hr dt fH
def Bq.sk (h:Bq w now shift ao n cp f bo m dp t):Calls Tz.prog 39 #[.agg #[now,shift,.slice ao n cp,.slice bo m dp]] w λe w'=>e=.returned (.bool<|aM now shift f n t m)/\Below w w w':=by
 have h6:=h.n6;have hm6:=h.m6;refine h.cases (λe1 e2 r1 r2=>?_) λb b' e1 e2 hb hr dt fH=>?_
 .subst e1 e2;rw[t6 r1 r2];exact C1 now shift w r1 r2
 .subst e1 e2;exact tG now shift b 0 n cp f b' 0 m dp t w ab ie hb hr h.fit dt fH
def LH (r1:0<=now/\now<=10000)(r2:0<=shift/\shift<=6):dG now shift f 0 t 0=true:=nE (t6 r1 r2) λp hp=>absurd hp<|ac7 _
def IN (now shift:Int)(f:Nat->Mv)(n:Nat)(t:Nat->Int)(m N:Nat)(y:Value)(W:World):Prop:=∃v u,y=QD now shift v u/\W.ownsRow N 31 6 v n (eh f n)/\W.ownsRow N 3 1 u m (ee t m)
def zc (now shift:Int)(f:Nat->Mv)(n:Nat)(t:Nat->Int)(m:Nat):Ul (IN now shift f n t m) now shift where
 is:=λ⟨v,u,e,h1,h2⟩=>by
  obtain⟨a,cc,rfl⟩:=gr h1;obtain⟨a',c',rfl⟩:=gr h2;exact⟨_,_,_,_,_,_,e⟩
 to:=λ⟨v,u,e,h1,h2⟩ hN h=>⟨v,u,e,cJ (aB h1 λB hB=>h B (h1.lt B hB).1 (h1.lt B hB).2) hN,cJ (aB h2 λB hB=>h B (h2.lt B hB).1 (h2.lt B hB).2) hN⟩
noncomputable def mE (f:Nat->Mv)(n:Nat)(t:Nat->Int)(now k:Int):Int ⊕ Nat×(Nat->Int):=
 if k<0 then .inl 3 else if(f k.toNat).ak=false then .inl 3 else if t k.toNat=now then(match cY f n t k.toNat with|none=>.inl 5|some T=>.inr (k.toNat,T))else .inl 6
def Up (now shift:Int)(f:Nat->Mv)(n:Nat)(t:Nat->Int)(name:ByteArray)(N:Nat)(y e:Value)(W:World):Prop:=∃k,eI f n name k/\match mE f n t now k with
 |.inl cd=>y=.agg #[(0:Int),(0:Int),.slice none 0 0,.slice none 0 0]/\e=.iface 131 (.agg #[.int .i64 cd])
 |.inr (p,T)=>e=.nilIface/\∃BN c2 BT c3,y=.agg #[.int .i64 now,.int .i64 shift,.slice (some ⟨BN,0,none⟩) (al f t p n).length c2,.slice (some ⟨BT,0,none⟩) (al f t p n).length c3]/\N<=BN/\N<=BT/\BE W BN (al f t p n).length (im<|al f t p n)/\aC W BT (al f t p n).length T
def OO {k:Int}(h:mE f n t now k=.inl cd):1<cd:=by
 unfold mE at h;split at h
 .cases h;omega
 .split at h
  .cases h;omega
  .split at h
   .split at h<;>cases h;omega
   .cases h;omega
def mpr (now shift:Int)(f:Nat->Mv)(n:Nat)(t:Nat->Int)(name:ByteArray):Mw (Up now shift f n t name) where
 is:=λ⟨k,hk,h⟩=>by
  cases hr:mE f n t now k with
  |inl cd=>rw[hr]at h;exact .inr ⟨cd,OO hr,h.2,h.1⟩
  |inr x=>rw[hr]at h;let⟨h1,BN,c2,BT,c3,h2,_⟩:=h;exact .inl ⟨h1,_,_,_,_,_,_,_,_,h2⟩
 to:=λ⟨k,hk,h⟩ hN e=>⟨k,hk,by
  cases hr:mE f n t now k with
  |inl cd=>rw[hr]at h;exact h
  |inr x=>
   rw[hr]at h;let⟨h1,BN,c2,BT,c3,h2,h3,h4,h5,h6⟩:=h;exact⟨h1,BN,c2,BT,c3,h2,ac6 hN h3,ac6 hN h4,h5.same<|e BN h3 h5.lt,fi h6<|e BT h4 h6.lt⟩⟩
def DS (w:World)(cs:Array Value)(T:TypeId):∃W,w.alloc (.cells cs T)=W/\W.heap[w.heap.size]?=some (.cells cs T (0,0))/\Below w w W:=⟨_,rfl,heap_alloc_new w _,(acU _ w).alloc (ac3 _) _⟩
section
variable [Gl]
def yX (E:dM Tz.prog ok c bY)(kB:ok.aX 18=true)(sI:ok.aX 52=true)(xw:ok.aX 80=true)(uO:ok.aX 111=true)(Dz:ok.aX 139=false)(f7:ok.aX r0.fn=true)(h:Bq V now shift ao n cp f bo m dp t)
  (aH:∀V',Bl V V V'->aj Tz.prog ok c bY Q ⟨r0.finish<|.bool<|dG now shift f n t m,cs,V'⟩):aj Tz.prog ok c bY Q ⟨Frame.enter Tz.prog 18 #[.agg #[now,shift,.slice ao n cp,.slice bo m dp]] .normal,r0::cs,V⟩:=by
 have G6:Hid (∀(x:Act) (w':World) (todo:List Item),Bl V V w'->x.defers=[]->x.tmps[2]?=some (.bool<|dG now shift f n t m)->aj Tz.prog ok c bY Q ⟨{(base 18).at x todo with mode:=.returning},r0::cs,w'⟩):=by
  rintro x w' todo h1 h2 h3;refine aj.leave E f7 (λτ d=>⟨rfl,h2,rfl,_,Tz.func18,?_⟩)<|aH _ h1;have:=results_tmp (fn:=Tryz.f18) rfl x.tmps Tz.prog<|re w' τ d;rw[kg h3]at this;exact this
 clear aH;refine aj.en Tz.func18 rfl Tryz.ntmps18 vH ?_;refine aj.ck E kB [_,_] _ λK R τ d hK hR=>?_
 obtain⟨W1,e1,k1,b1,-⟩:=cI (re V τ d) now shift ao n cp bo m dp;have H1:=(h.bl<|Bl.nP b1).ib;have yy:=k1.cells;simp only[aD];cases hb:aM now shift f n t m with
 |false=>
  rw[hb]at H1;replace h:Hid _:=h;go_wp2_with(go_at_call 16;refine H1.mono ?_;clear H1;rintro e w1 ⟨rfl,b2⟩)
  refine hR.out _ _ λtodo=>G6.out _ _ _ (Bl.nP<|b1.trans<|b2.mono b1.size) rfl ?_
  rw[FH hb];rfl
 |true=>
  rw[hb]at H1;replace h:Hid _:=h;go_wp2_with(go_at_call 16;refine H1.mono ?_;clear H1;rintro e w1 ⟨rfl,b2⟩)
  refine hK.out _ _ ?_;have bV:=Bl.nP<|b1.trans<|b2.mono b1.size;replace k1:=k1.same<|b2.block _ k1.lt;clear hK hR K R b1 b2 e1 yy;replace h:=h.out.bl bV;revert k1;generalize (re V τ d).heap.size=B1;intro k1;let⟨hm,uU,hf⟩:=bG hb;subst uU;have h6:=bP hm;refine aj.seq E kB<|aj.ck E kB [_] _ λK R τ d hK hR=>?_;have yy:=k1.rc τ d;replace h:Hid _:=h;simp only[aD];go_wp2;refine hK.out _ _ ?_;clear hK hR K R yy;refine aj.block E kB<|aj.loop E kB ?_;refine aj.CJ E kB (λj a' w'=>∃k:Nat,k+j=m/\Bl w1.heap.size w1 w'/\(∀p,p<k->(f p).ak=true->(cY f m t p).isSome=true)/\iz a' (rW 30 [(1,.pointer<|some ⟨B1,0,none⟩),(11,.slice ao m cp),(12,.int .i64 m),(13,.int .i64 k)])) ?_ m _ _ ⟨0,ab,⟨ac3 _,λ_ _=>rfl⟩,λp hp=>absurd hp<|ac7 _,rfl,rfl⟩;rintro j a' W ⟨k,hkj,bW,cD,fM⟩ IH;replace IH:Hid _:=IH;obtain⟨u,rfl⟩:=fM.open;clear fM;refine aj.ck E kB [_] _ λK R τ d hK hR=>?_
  simp only[aD];go_wp2;refine hK.out _ _<|aj.un ?_;clear hK hR K R;refine aj.seq E kB ?_;refine aj.cond E kB (t:=decide (k<m)) rfl ?_;by_cases ay:k<m
  .rw[if_pos cH];have dq:(k:Int)<m:=ab;obtain⟨b,rfl,bI,nL⟩:=h.out.sm.pos ab;obtain⟨b',rfl,cj,TG⟩:=h.out.si.pos ab;refine aj.skip E kB<|aj.seq E kB ?_;refine aj.cut (λa' w'=>Bl w1.heap.size w1 w'/\((f k).ak=true->(cY f m t k).isSome=true)/\iz a' (rW 30 [(1,.pointer<|some ⟨B1,0,none⟩),(11,.slice (some ⟨b,0,none⟩) m cp),(12,.int .i64 m),(13,.int .i64 k)])) ?_ λpK=>?_
   .rintro a' w' ⟨bW,PX,fM⟩;obtain⟨u,rfl⟩:=fM.open;refine aj.rg E kB<|aj.oc E kB 0 2 λK τ d hK=>?_;have xP:IntKind.i64.wrap ((k:Int)+1)=(k:Int)+1:=ia;simp only[aK];go_wp2;refine hK.out _ _<|aj.regionEnd E kB<|IH.out (j-1) ab _ _ ⟨k+1,ab,bW.trans ⟨ac3 _,λ_ _=>rfl⟩ bW.size,λp hp hl=>?_,rfl,by simp;rfl⟩;by_cases e:p=k
    .subst e;exact PX hl
    .exact cD p ab hl
   refine aj.block E kB ?_;refine aj.ck E kB [_] _ λK R τ d hK hR=>?_
   have bR:=bW.trans (M:=W.heap.size) (c:=re W τ d) ⟨ac3 _,λ_ _=>rfl⟩ bW.size;let⟨c0,c1,c2,c3,c4,c5⟩:=dA (w':=re W τ d) nL (bR.block _ bI) k ay;simp only[Nat.zero_add]at c0 c1 c2 c3 c4 c5;let⟨W2,e2,k2,b2⟩:=DS (re W τ d) (f k).cells 31;simp only[aD];go_wp2;refine hK.out _ _ ?_;clear hK hR K R e2 c0 c1 c2 c3 c4 c5;replace bW:=bR.trans (Bl.of b2) bR.size;clear b2 bR;revert k2;generalize (re W τ d).heap.size=B4;intro k2;refine aj.seq E kB<|aj.ck E kB [_] _ λK R τ d hK hR=>?_;let⟨z0,z1,z2,z3,z4,z5⟩:=QE (w:=re W2 τ d) k2;simp only[aD];cases hl:(f k).ak with
   |false=>
    rw[hl]at z1;go_wp2;refine hK.out _ _ ?_;refine aj.cond E kB (t:=true) rfl ?_;rw[if_pos rfl];exact aj.exit E kB (k':=_) rfl (pK.out _ _ ⟨⟨bW.size,bW.block⟩,(λh=>by rw[hl]at h;cases h),rfl,rfl⟩)
   |true=>
    rw[hl]at z1;go_wp2;refine hK.out _ _<|aj.un ?_;refine aj.cond E kB (t:=false) rfl ?_;rw[if_neg Bool.false_ne_true];clear hK hR K R z0 z1 z2 z3 z4 z5 k2;refine aj.skip E kB<|aj.seq E kB<|aj.rg E kB<|aj.oc E kB 0 2 λK τ d hK=>?_;have yy:=(show aT (re W2 τ d) _ _ _ _ _ from k1.same (bW.block _ k1.lt)).cells;simp only[aK];go_wp2;refine hK.out _ _<|aj.un ?_;clear hK K yy;refine aj.dO E (i:=2) rfl rfl sI (λw=>y7)<|FO (now:=now) (shift:=shift) (cap:=cp) (cap':=dp) E sI xw uO Dz kB hm hf ay (ac4 bI bW.size) (dA nL<|bW.block _ bI) (ac4 cj bW.size) (λi hi=>bW.cell cj<|TG i hi) ?_;rintro _ W3 ⟨⟨x0,x1,x2,l2,c2,x3,l3,c3,rfl,-⟩,b3⟩;rw[bT rfl];replace bW:=bW.trans b3 bW.size;generalize lP:(cY f m t k).isSome=br;refine aj.oc E kB 3 6 λK τ d hK=>?_
    obtain⟨W4,e4,-,b4,-⟩:=cI (re W3 τ d) x0 x1 x2 l2 c2 x3 l3 c3;simp only[aK,Act.put];go_wp2;refine hK.out _ _<|aj.regionEnd E kB ?_;clear hK K e4;replace bW:=bW.trans (Bl.nP b4) bW.size;refine aj.ck E kB [_] _ λK R τ d hK hR=>?_
    simp only[aD];go_wp2;refine hK.out _ _<|aj.un ?_;clear hK hR K R;cases br with
    |true=>
     refine aj.cond E kB (t:=false) rfl ?_;rw[if_neg Bool.false_ne_true];exact aj.skip E kB (aj.inBlock E kB<|pK.out _ _ ⟨bW,λ_=>lP,rfl,rfl⟩)
    |false=>
     refine aj.cond E kB (t:=true) rfl ?_;rw[if_pos rfl];refine aj.ck E kB [_] _ λK R τ d hK hR=>?_
     simp only[aD];go_wp2;refine hK.out _ _<|aj.ret E kB<|G6.out _ _ _ ⟨(bV.trans bW bV.size).size,(bV.trans bW bV.size).block⟩ rfl ?_;rw[Be λh=>by have:=h k ay hl;rw[lP]at this;cases this];rfl
  .rw[if_neg cH];refine aj.exit E kB (k':=[.code _]) rfl ?_;refine aj.ck E kB [_] _ λK R τ d hK hR=>?_
   simp only[aD];go_wp2;refine hK.out _ _<|aj.ret E kB<|G6.out _ _ _ ⟨(bV.trans bW bV.size).size,(bV.trans bW bV.size).block⟩ rfl ?_;rw[nE hb λp hp=>cD p ab];rfl
def PG (E:dM Tz.prog ok c bY)(fZ:ok.aX 292=true)(sI:ok.aX 52=true)(xw:ok.aX 80=true)(uO:ok.aX 111=true)(Dz:ok.aX 139=false)(f7:ok.aX r0.fn=true)(hB:Bq V now shift ao n cp f bo m dp t)(nI:aM now shift f n t m=true)
  (aH:∀y e W',Bl V V W'->Up now shift f n t name V.heap.size y e W'->aj Tz.prog ok c bY Q ⟨r0.finish<|.tuple #[y,e],cs,W'⟩):
  aj Tz.prog ok c bY Q ⟨Frame.enter Tz.prog 292 #[.agg #[name],.agg #[now,shift,.slice ao n cp,.slice bo m dp]] .normal,r0::cs,V⟩:=by
 let⟨hm,uU,hf⟩:=bG nI;subst uU;replace aH:Hid _:=aH;have h6:=hB.n6;refine aj.en Tz.func292 rfl Tryz.ntmps292 vH ?_;refine aj.ck E fZ [_,_] _ λK R τ0 kW hK hR=>?_
 let⟨W1,e1,k1,b1⟩:=DS (re V τ0 kW) #[.string name] 77;obtain⟨W2,e2,k2,b2,-⟩:=cI W1 now shift ao m cp bo m dp;obtain⟨W3,e3,k3,b3,-⟩:=cI W2 0 0 none 0 0 none 0 0;have bW:=Bl.nP<|(b1.trans<|b2.mono b1.size).trans<|b3.mono<|ac6 b1.size b2.size;have p2:=k2.same<|b3.block _ k2.lt;let⟨y0,y1,y2,y3,y4⟩:=p2.cells;have n1:W3.cell? ⟨(re V τ0 kW).heap.size,0,none⟩=some (.string name):=by
  have h:W3.heap[(re V τ0 kW).heap.size]?=_:=(b3.block _<|ac4 (ac5.1 k1).1 b2.size).trans<|(b2.block _ (ac5.1 k1).1).trans k1;simp[World.cell?,h]
 have H1:=p6 ao m cp f name W3 h6 (hB.bl bW).sm;have o2:V.heap.size<=W1:=b1.size;have o3:W1.heap.size<W2:=k2.lt;simp only[aD];go_wp2_with(go_at_call 278;refine H1.mono ?_;clear H1;rintro e w4 ⟨⟨k,rfl,hk⟩,b4⟩)
 refine hK.out _ _ ?_;have p2:=p2.same<|b4.block _ p2.lt;have p3:=k3.same<|b4.block _ k3.lt;have bV:Bl V V w4:=bW.trans (Bl.of b4) bW.size;clear hK hR K R e1 e2 e3 k1 k2 k3 b1 b2 b3 b4 y0 y1 y2 y3 y4 n1 bW;have lQ:∀cd W,mE f m t now k=.inl cd->Up now shift f m t name V.heap.size (.agg #[(0:Int),(0:Int),(),()]) (.iface 131<|.agg #[.int .i64 cd]) W:=λcd W h=>⟨k,hk,by rw[h];exact⟨rfl,rfl⟩⟩
 have KQ:∀p T BN c2 BT c3 W,mE f m t now k=.inr (p,T)->V.heap.size<=BN->V.heap.size<=BT->BE W BN (al f t p m).length (im<|al f t p m)->aC W BT (al f t p m).length T->Up now shift f m t name V.heap.size (.agg #[now,shift,.slice (some ⟨BN,0,none⟩) (al f t p m).length c2,.slice (some ⟨BT,0,none⟩) (al f t p m).length c3]) .nilIface W:=λp T BN c2 BT c3 W h h1 h2 h3 h4=>⟨k,hk,by rw[h];exact⟨rfl,_,_,_,_,rfl,h1,h2,h3,h4⟩⟩
 replace lQ:Hid _:=lQ;replace KQ:Hid _:=KQ;have z4:=bV.size;have l3:=p3.lt;have back:∀{W8:World},W8.heap.size=w4.heap.size->(∀k,k≠W2.heap.size->W8.heap[k]?=w4.heap[k]?)->Bl V V W8:=λh1 h2=>⟨ab,λk hk=>(h2 k ab).trans<|bV.block k hk⟩
 replace back:Hid _:=@back;rcases hk with⟨rfl,hn⟩|⟨j,rfl,hj,lg,Cj⟩
 .refine aj.ck E fZ [_] _ λK R τ d hK hR=>?_
  let⟨x0,x1,x2,x3,x4⟩:=p3.rc τ d;obtain⟨W8,e8,k8,-,z8,o8⟩:=aV (p3.r τ d) (acU 0 _) (ac8 _) 0 0 none 0 0 none 0 0;replace z8:Hid _:=z8;simp only[aD];go_wp2;exact hR.out _ _ λtodo=>aj.lv E f7 Tz.func292 (λτ d=>cg rfl rfl rfl<|k8.r τ d)<|aH.out _ _ _ (back.out z8.out o8)<|lQ.out 3 W8<|by simp[mE]
 .obtain⟨b,rfl,hb,am⟩:=hB.sm.pos ab;obtain⟨b',rfl,dt,aP⟩:=hB.si.pos ab;have hj':(j:Int)<m:=ab;have hj0:¬(j:Int)<0:=ab;have c1:=(dA am (bV.block b hb) j hj).c1;rw[Nat.zero_add]at c1;cases hl:(f j).ak with
  |false=>
   rw[hl]at c1;refine aj.ck E fZ [_] _ λK R τ d hK hR=>?_
   have PP:(re w4 τ d).cell? _=_:=c1;let⟨y0,y1,y2,y3,y4⟩:=p2.rc τ d;let⟨x0,x1,x2,x3,x4⟩:=p3.rc τ d;obtain⟨W8,e8,k8,-,z8,o8⟩:=aV (p3.r τ d) (acU 0 _) (ac8 _) 0 0 none 0 0 none 0 0;replace z8:Hid _:=z8;simp only[aD];go_wp2;exact hR.out _ _ λtodo=>aj.lv E f7 Tz.func292 (λτ d=>cg rfl rfl rfl<|k8.r τ d) (aH.out _ _ _ (back.out z8.out o8)<|lQ.out 3 W8<|by simp[mE,hl])
  |true=>
   rw[hl]at c1;refine aj.ck E fZ [_,_] _ λK R τ d hK hR=>?_
   have PP:(re w4 τ d).cell? _=_:=c1;have hp2:aT (re w4 τ d) _ _ _ _ _:=p2;let⟨y0,y1,y2,y3,y4⟩:=hp2.cells;have tj:(re w4 τ d).cell? ⟨b',j,none⟩=some (.int .i64<|t j):=by
    have:=th aP (bV.block b' dt) j hj;rw[Nat.zero_add]at this;exact this
   simp only[aD];go_wp2;have hne:=aF<|re w4 τ d;have u0:=λx:ai (re w4 τ d)=>x.cell y0
   have u3:=λx:ai (re w4 τ d)=>x.cell y3
   have u5:=λx:ai (re w4 τ d)=>x.cell tj
   refine jR ?_;intro w6 b6;clear hne u0 u3 u5 tj y0 y1 y2 y3 y4 PP;have p3:=p3.same<|b6.block _ l3;have p2:=p2.same<|b6.block _ p2.lt;have z6:w4.heap.size<=w6:=b6.size;have bV:Bl V V w6:=⟨ab,λk hk=>(b6.block k (by show k<w4.heap.size;omega)).trans<|bV.block k hk⟩;clear back c1;by_cases ht:t j=now
   .have hq:(t j !=now)=false:=by simp[ht]
    replace ht:Hid _:=ht;go_wp2;refine hK.out _ _ ?_;have r6:=dA am<|bV.block b hb;have s6:=th aP<|bV.block b' dt;have l6:b<w6:=ac4 hb bV.size;have l6':b'<w6:=ac4 dt bV.size;clear hK hR K R hp2 b6;refine aj.seq E fZ<|aj.rg E fZ<|aj.oc E fZ 0 2 λK τ d hK=>?_;let⟨y0,y1,y2,y3,y4⟩:=p2.rc τ d;simp only[aK];go_wp2;refine hK.out _ _<|aj.un ?_;clear hK K y0 y1 y2 y3 y4;refine aj.dO E (i:=2) rfl rfl sI (λw=>y7)<|FO (now:=now) (shift:=shift) (cap:=cp) (cap':=dp) E sI xw uO Dz fZ hm hf hj l6 r6 l6' s6 ?_;rintro v V7 ⟨⟨x0,x1,x2,l2,c2,x3,l3',c3,rfl,hT⟩,b7⟩;replace hT:Hid _:=hT;rw[bT rfl];have l36:=p3.lt;have p3:=p3.same<|b7.block _ l36;have z7:=b7.size;have z0:=bV.size;have bV:=bV.trans b7 z0;obtain⟨br,lP⟩:∃br,(cY f m t j).isSome=br:=⟨_,rfl⟩;rw[lP];replace lP:Hid _:=lP;refine aj.oc E fZ 3 6 λK τ' d' hK=>?_
    simp only[aK,Act.put];go_wp2;refine hK.out _ _<|aj.regionEnd E fZ ?_;clear hK K;obtain⟨W5,e5,k5,b5,-⟩:=cI (re V7 τ' d') x0 x1 x2 l2 c2 x3 l3' c3;rw[e5];clear e5;have p3:=p3.same<|b5.block _ p3.lt;have z5:V7.heap.size<=W5:=b5.size;cases br with
    |false=>
     refine aj.ck E fZ [_] _ λK R τ d hK hR=>?_
     let⟨x0,x1,x2,x3,x4⟩:=p3.rc τ d;obtain⟨W8,e8,k8,-,z8,o8⟩:=aV (p3.r τ d) (acU 0 _) (ac8 _) 0 0 none 0 0 none 0 0;replace z8:Hid _:=z8;simp only[aD];go_wp2;have z8:W8.heap.size=W5.heap.size:=z8.out;have Tt:cY f m t j=none:=by have:=lP.out;cases h:cY f m t j<;>simp_all
     exact hR.out _ _ λtodo=>aj.lv E f7 Tz.func292 (λτ d=>cg rfl rfl rfl<|k8.r τ d) (aH.out _ _ _ ⟨ab,λk hk=>(o8 k ab).trans<|(b5.block k (by show k<V7.heap.size;omega)).trans<|bV.block k hk⟩<|lQ.out 5 W8<|by simp[mE,hl,ht.out,Tt])
    |true=>
     let⟨T,hrT⟩:=Option.isSome_iff_exists.1 lP.out;obtain⟨BN,BT,h1,h2,e1,e2,rfl,rfl,rfl,rfl,hM,hO⟩:=hT.out T hrT;rw[ht.out]at e1;obtain rfl:=e1.symm;obtain rfl:=e2.symm;refine aj.ck E fZ [_,_] _ λK R τ d hK hR=>?_
     let⟨y0,y1,y2,y3,y4⟩:=k5.rc τ d;let⟨x0,x1,x2,x3,x4⟩:=p3.rc τ d;obtain⟨W8,e8,k8,-,z8,o8⟩:=aV (p3.r τ d) (acU 0 _) (ac8 _) now shift (some ⟨BN,0,none⟩) (al f t j m).length c2 (some ⟨BT,0,none⟩) (al f t j m).length c3;replace z8:Hid _:=z8;simp only[aD];go_wp2;have z8:W8.heap.size=W5.heap.size:=z8.out;have lM:=hM.lt;have lO:=hO.lt;exact hK.out _ _<|aj.ret E fZ<|aj.lv E f7 Tz.func292 (λτ d=>cg rfl rfl rfl<|k8.r τ d)<|aH.out _ _ _ ⟨ab,λk hk=>(o8 k ab).trans<|(b5.block k (by show k<V7.heap.size;omega)).trans<|bV.block k hk⟩<|KQ.out j T BN c2 BT c3 W8 (by simp[mE,hl,ht.out,hrT]) ab ab (hM.same<|(o8 _ ab).trans<|b5.block _ lM)<|fi hO<|(o8 _ ab).trans<|b5.block _ lO
   .have hq:(t j !=now)=true:=by simp[ht]
    let⟨x0,x1,x2,x3,x4⟩:=p3.cells;obtain⟨W8,e8,k8,-,z8,o8⟩:=aV p3 (acU 0 _) (ac8 _) 0 0 none 0 0 none 0 0;replace z8:Hid _:=z8;go_wp2;have z8:W8.heap.size=w6.heap.size:=z8.out;exact hR.out _ _ λtodo=>aj.lv E f7 Tz.func292 (λτ d=>cg rfl rfl rfl<|k8.r τ d)<|aH.out _ _ _ ⟨by have:=bV.size;omega,λk hk=>(o8 k ab).trans<|bV.block k hk⟩<|lQ.out 6 W8<|by simp[mE,hl,ht]
end
