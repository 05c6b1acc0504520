import Derived.Test.YtjoalkgmgmmedaaGreatDoorj30
import Derived.Test.YtjoalkgmgmmedaaGreatDoorj39
set_option linter.defProp false
set_option linter.unusedSectionVars false
set_option linter.unusedVariables false
set_option maxHeartbeats 4000000
set_option maxRecDepth 100000
open Go renaming World->av,Value->aI,Calls->a3,run_typeAssert_lacksB->a6,Frame->a9,Addr->bi,results->bj,TypeId->bp,info_parts->bs
open Go.Act renaming put->a8
open Go.Ending renaming returned->ac
open Go.Frame renaming enter->au
open Go.Instr renaming typeAssert->a4
open Go.RowKit renaming Below->ay
open Go.Value renaming slice->aa,agg->ai,tuple->aL,int->a5,pointer->bk,string->bm,bool->bn
open Or renaming inl->a7,inr->be
namespace Go.Proofs.YtjoalkgmgmmedaaGreatDoor
open Conc RowKit
variable {bb:Bool}{name:ByteArray}{ok:Ctx}{c r0:a9}{fn:Func}{a0 a1 cd now shift:Int}{cs:List a9}{B N b cp A i j m n:Nat}{t:Nat->Int}{f:Nat->Mv}{x:Nat->aI->aI->av->Prop}{C:Nat->aI->av->Prop}{ao bo:Option bi}{ty:bp}{e u v y:aI}{Q:aI->av->Prop}{V W w:av}
def aR.r (h:aR w b now shift v u ty)(τ:Nat->Question->Nat)(d):aR (re w τ d) b now shift v u ty:=h
def aR.rc (h:aR w b now shift v u ty)(τ:Nat->Question->Nat)(d):type_of%(h.r τ d).cells:=h.cells
def Chg (q c0:aI)(s:FuncId):Prop:=(∃name,q=.iface 99 (ai #[bm name])/\c0=ai #[bm name]/\s=253)\/(q=.iface 100 (ai #[])/\c0=ai #[]/\s=254)\/∃name,q=.iface 98 (ai #[bm name])/\c0=ai #[bm name]/\s=246
def abZ (v:aI)(w:av):(a4 (.iface 99 v) 122 146 true).run Tz.prog w=.ok (aL #[.nilIface,false]) w:=a6 (Tz.al Tryz.underlying146) aO aO v 122 w
def abY (v:aI)(w:av):(a4 (.iface 100 v) 122 146 true).run Tz.prog w=.ok (aL #[.nilIface,false]) w:=a6 (Tz.al Tryz.underlying146) aO aO v 122 w
def abX (v:aI)(w:av):(a4 (.iface 98 v) 122 146 true).run Tz.prog w=.ok (aL #[.nilIface,false]) w:=a6 (Tz.al Tryz.underlying146) aO aO v 122 w
def cH (a:fn.results=#[.cell i 29,.tmp j]){t:Array aI}(d:t[i]?=some (bk B))(g:t[j]?=some e)(h:aR W B a0 a1 v u):
  (bj fn t).run Tz.prog W=.ok (aL #[ai #[a0,a1,v,u],e]) W:=by
 let⟨k,l,o,p,_⟩:=h.cells;simp[bj,a,go_sem,k,l,o,p,d,g]
structure Oy (x:Nat->aI->aI->av->Prop):Prop where
 is:∀{N y e W},x N y e W->(e=.nilIface/\∃a0 a1 s2 l2 c2 s3 l3 c3,y=ai #[a5 .i64 a0,a5 .i64 a1,aa s2 l2 c2,aa s3 l3 c3])\/∃cd,1<cd/\e=.iface 143 (ai #[a5 .i64 cd])/\y=ai #[(0:Int),(0:Int),(),()]
 to:∀{N N' y e W W'},x N y e W->N'<=N->(∀k,N<=k->k<W.heap.size->W'.heap[k]?=W.heap[k]?)->x N' y e W'
section
variable [Gl]{q c0:aI}{s:FuncId}
def NW (E:dB Tz.prog ok c aS)(J:ok.aN 94=true)(eN:ok.aN r0.fn=true)(hc:Chg q c0 s)(Zj:ok.aN s=true)
  (Ml:∀W,Bl V V W->a3 Tz.prog 80 #[ai #[now,shift,aa ao n cp,aa bo m A]] W λe w'=>e=ac bb/\ay W.heap.size W w')(zf:Oy x)
  (gp:bb=true->∀{W:av} {r:a9} {cs:List a9},ok.aN r.fn=true->Bl V V W->(∀y e W',Bl W.heap.size W W'->x W.heap.size y e W'->ae Tz.prog ok c aS Q ⟨r.finish<|aL #[y,e],cs,W'⟩)->ae Tz.prog ok c aS Q ⟨au Tz.prog s #[c0,ai #[now,shift,aa ao n cp,aa bo m A]] .normal,r::cs,W⟩)
  (aE:∀y e W',Bl V V W'->(bb=false/\y=ai #[(0:Int),(0:Int),(),()]/\e=.iface 143 (ai #[(1:Int)])\/bb=true/\x V.heap.size y e W')->ae Tz.prog ok c aS Q ⟨r0.finish<|aL #[y,e],cs,W'⟩):
  ae Tz.prog ok c aS Q ⟨au Tz.prog 94 #[ai #[now,shift,aa ao n cp,aa bo m A],q] .normal,r0::cs,V⟩:=by
 replace gp:Hid _:=gp;replace aE:Hid _:=aE;replace Ml:Hid _:=Ml;refine ae.en Tz.func94 rfl Tryz.ntmps94 iE<|ae.ck E J [_,_] _ λK R τ d U hR=>?_
 obtain⟨W1,e1,Z,b1,-⟩:=boxed (re V τ d) now shift ao n cp bo m A;obtain⟨W2,e2,k4,b2,-⟩:=boxed W1 0 0 none 0 0 none 0 0;have bW:=b1.trans<|b2.mono b1.size;have H1:=Ml.out W2<|Bl.kH bW;have yy:=(Z.same<|b2.block _ Z.lt).cells;simp only[ak];rcases Bool.eq_false_or_eq_true bb with hb|hb;all_goals rw[hb]at H1
 rotate_left
 .replace hb:Hid _:=hb;go_wp2_with(go_at_call 80;refine H1.mono ?_;clear H1;rintro e w3 ⟨rfl,b3⟩;have j4:=k4.same<|b3.block _ k4.lt;let⟨z0,z1,z2,z3,z4⟩:=j4.cells;have Y:=bW.trans<|b3.mono bW.size;obtain⟨W5,e5,k5,z,-,o5⟩:=aJ j4 Y b1.size 0 0 none 0 0 none 0 0)
  exact hR.out _ _ λad=>ae.lv E eN Tz.func94 (λτ d=>cH rfl rfl rfl<|k5.r τ d)<|aE.out _ _ _ (Bl.kH z)<|a7 ⟨hb.out,rfl,rfl⟩
 replace hb:Hid _:=hb;go_wp2_with(go_at_call 80;refine H1.mono ?_;clear H1;rintro e w3 ⟨rfl,b3⟩)
 refine U.out _ _ ?_;have p2:=(Z.same<|b2.block _ Z.lt).same<|b3.block _<|afL Z.lt b2.size;have D:=k4.same<|b3.block _ k4.lt;have Y:=Bl.kH<|bW.trans<|b3.mono bW.size;have o4:V.heap.size<W1:=Z.lt;refine ae.seq E J<|ae.rg E J<|ae.oc E J 0 2 λK τ d U=>?_;have yy:=p2.rc τ d;simp only[ap];go_wp2;refine U.out _ _<|ae.un<|ae.aZ E rfl rfl Zj (λw=>by rcases hc with⟨name,rfl,rfl,rfl⟩|⟨rfl,rfl,rfl⟩|⟨name,rfl,rfl,rfl⟩<;>kernel_rfl)<|gp.out hb.out J Y ?_;rintro y e O b4 hy;rw[ar rfl];have ax:∀w,(a4 q 122 146 true).run Tz.prog w=.ok (aL #[.nilIface,false]) w:=by rcases hc with⟨name,rfl,rfl,rfl⟩|⟨rfl,rfl,rfl⟩|⟨name,rfl,rfl,rfl⟩<;>intro w<;>first|exact abZ _ w|exact abY _ w|exact abX _ w
 have l3:=D.lt;have D:=D.same<|b4.block _ l3;have l4:=D.lt;have z4:=b4.size;have z0:=Y.size;have Y:=Y.trans b4 z0;rcases zf.is hy with⟨rfl,a0,a1,s2,l2,c2,s3,l3,c3,rfl⟩|⟨cd,So,rfl,rfl⟩;all_goals
  refine ae.oc E J 3 6 λK τ d U=>?_
  simp only[ap,a8];go_wp2;refine U.out _ _<|ae.regionEnd E J ?_
 .obtain⟨W5,e5,k5,z,-⟩:=boxed (re O τ d) a0 a1 s2 l2 c2 s3 l3 c3;rw[e5];have D:=D.same<|z.block _ l4;refine ae.ck E J [_,_,_] _ λK R τ d U hR=>?_
  have yy:=k5.rc τ d;have xx:=D.rc τ d;obtain⟨W8,e8,k8,-,T,o8⟩:=aJ (D.r τ d) (afB 0 _) ab a0 a1 s2 l2 c2 s3 l3 c3;replace T:Hid _:=T;simp only[ak];go_wp2;have z5:O.heap.size<=W5:=z.size;have T:W8.heap.size=W5.heap.size:=T.out;refine U.out _ _<|ae.ret E J<|ae.lv E eN Tz.func94 (λτ d=>cH rfl rfl rfl<|k8.r τ d)<|aE.out _ _ _ ⟨ab,λk hk=>(o8 k ab).trans<|(z.block k (by show k<O.heap.size;omega)).trans<|Y.block k hk⟩<|be ⟨hb.out,zf.to hy ab λk h1 h2=>(o8 k ab).trans<|z.block k h2⟩
 have z:Bl O O ((re O τ d).alloc<|.cells #[(0:Int),(0:Int),(),()] 29):=⟨by show O.heap.size<=(O.heap.push _).size;simp,λk hk=>afC _ _ _ hk⟩;revert z;generalize (re O τ d).alloc _=W5;intro z;have D:=D.same<|z.block _ l4;refine ae.ck E J [_] _ λK R τ d U hR=>?_
 have xx:=D.rc τ d;obtain⟨W8,e8,k8,-,T,o8⟩:=aJ (D.r τ d) (afB 0 _) ab 0 0 none 0 0 none 0 0;replace T:Hid _:=T;simp only[ak];go_wp2;have z5:=z.size;have T:W8.heap.size=W5.heap.size:=T.out;exact hR.out _ _ λad=>ae.lv E eN Tz.func94 (λτ d=>cH rfl rfl rfl<|k8.r τ d)<|aE.out _ _ _ ⟨ab,λk hk=>(o8 k ab).trans<|(z.block k ab).trans<|Y.block k hk⟩<|be ⟨hb.out,zf.to hy ab λk h1 h2=>(o8 k ab).trans<|z.block k h2⟩
def EZ (x:Nat->aI->aI->av->Prop)(C:Nat->aI->av->Prop)(bb:Bool)(N:Nat)(y:aI)(cd:Int)(W:av):Prop:=
 bb=false/\y=ai #[(0:Int),(0:Int),(),()]/\cd=1\/bb=true/\((x N y .nilIface W/\cd=0)\/1<cd/\(∃a d,x d (ai #[(0:Int),(0:Int),(),()]) (.iface 143<|ai #[cd]) a)/\C N y W)
structure Yg (C:Nat->aI->av->Prop)(now shift:Int):Prop where
 is:∀{N y W},C N y W->∃s2 l2 c2 s3 l3 c3,y=ai #[now,shift,aa s2 l2 c2,aa s3 l3 c3]
 to:∀{N N' y W W'},C N y W->N'<=N->(∀k,N<=k->k<W.heap.size->W'.heap[k]?=W.heap[k]?)->C N' y W'
def xu (E:dB Tz.prog ok c aS)(z:ok.aN 70=true)(jA:ok.aN 94=true)(Pp:ok.aN 95=false)(eN:ok.aN r0.fn=true)(zf:Oy x)
  (hT:∀{W:av} {r:a9} {cs:List a9},ok.aN r.fn=true->Bl V V W->(∀y e W',Bl W W W'->(bb=false/\y=ai #[(0:Int),(0:Int),(),()]/\e=.iface 143 (ai #[(1:Int)])\/bb=true/\x W.heap.size y e W')->ae Tz.prog ok c aS Q ⟨r.finish<|aL #[y,e],cs,W'⟩)->ae Tz.prog ok c aS Q ⟨au Tz.prog 94 #[ai #[now,shift,aa ao n cp,aa bo m A],q] .normal,r::cs,W⟩)
  (E2:Yg C now shift)(Mn:∀W,Bl V V W->a3 Tz.prog 96 #[ai #[now,shift,aa ao n cp,aa bo m A]] W λe w'=>(∃y,e=ac y/\C W.heap.size y w')/\ay W.heap.size W w')
  (aE:∀y cd W',Bl V V W'->EZ x C bb V.heap.size y cd W'->ae Tz.prog ok c aS Q ⟨r0.finish<|aL #[y,a5 .i64 cd],cs,W'⟩):
  ae Tz.prog ok c aS Q ⟨au Tz.prog 70 #[ai #[now,shift,aa ao n cp,aa bo m A],q] .normal,r0::cs,V⟩:=by
 replace hT:Hid _:=@hT;replace aE:Hid _:=aE;replace Mn:Hid _:=Mn;refine ae.en Tz.func70 rfl Tryz.ntmps70 iE<|ae.ck E z [_] _ λK R τ d D hR=>?_
 obtain⟨W1,e1,k2,b1,-⟩:=boxed (re V τ d) now shift ao n cp bo m A;obtain⟨W2,e2,O,b2,-⟩:=boxed W1 0 0 none 0 0 none 0 0;have bW:=Bl.kH<|b1.trans<|b2.mono b1.size;simp only[ak];go_wp2;refine D.out _ _ ?_;have Z:=k2.same<|b2.block _ k2.lt;have o4:V.heap.size<W1:=k2.lt;refine ae.seq E z<|ae.rg E z<|ae.oc E z 0 2 λK τ d D=>?_;have yy:=Z.rc τ d;simp only[ap];go_wp2;refine D.out _ _<|ae.un<|ae.aZ E rfl rfl jA (λw=>od)<|hT.out z bW ?_;rintro y e W4 b4 J;rw[ar rfl];have T:=O.lt;have O:=O.same<|b4.block _ T;have Z:=Z.same<|b4.block _ Z.lt;have l4:=O.lt;have z0:=bW.size;have z4:=b4.size;have bV:=bW.trans b4 z0;obtain⟨a0,a1,s2,T,c2,s3,l3,c3,cd,rfl,he,h1,h2⟩:∃a0 a1 s2 T c2 s3 l3 c3 cd,y=ai #[a5 .i64 a0,a5 .i64 a1,aa s2 T c2,aa s3 l3 c3]/\K2 e cd/\(¬1<cd->EZ x C bb W2.heap.size y cd W4)/\(1<cd->bb=true/\x W2.heap.size (ai #[(0:Int),(0:Int),aa none 0 0,aa none 0 0]) (.iface 143<|ai #[a5 .i64 cd]) W4):=by
  rcases J with⟨h0,rfl,rfl⟩|⟨h0,J⟩
  .exact⟨_,_,_,_,_,_,_,_,1,rfl,be rfl,λ_=>a7 ⟨h0,rfl,rfl⟩,λh=>ab⟩
  rcases zf.is J with⟨rfl,a0,a1,s2,T,c2,s3,l3,c3,rfl⟩|⟨cd,So,rfl,rfl⟩
  .exact⟨_,_,_,_,_,_,_,_,0,rfl,a7 ⟨rfl,rfl⟩,λ_=>be ⟨h0,a7 ⟨J,rfl⟩⟩,λh=>ab⟩
  exact⟨_,_,_,_,_,_,_,_,cd,rfl,be rfl,λh=>absurd So h,λ_=>⟨h0,J⟩⟩
 replace h1:Hid _:=h1;replace h2:Hid _:=h2;refine ae.oc E z 3 6 λK τ d D=>?_
 simp only[ap,a8];go_wp2;refine D.out _ _<|ae.regionEnd E z ?_;obtain⟨U,e5,k5,b5,-⟩:=boxed (re W4 τ d) a0 a1 s2 T c2 s3 l3 c3;rw[e5];have O:=O.same<|b5.block _ l4;have Z:=Z.same<|b5.block _ Z.lt;refine ae.seq E z<|ae.rg E z<|ae.oc E z 0 1 λK τ d D=>?_;simp only[ap];go_wp2;refine D.out _ _<|ae.un ?_;clear D K;refine ae.O4 E rfl rfl Pp (λw=>od) (λτ d=>be ⟨rfl,e,cd,rfl,he,rfl⟩) ?_;rintro τ d _ _ ⟨rfl,rfl⟩;refine ae.un<|ae.oc E z 2 1 λK τ d D=>?_;simp only[ap,a8];go_wp2;refine D.out _ _<|ae.un<|ae.regionEnd E z ?_;clear D K;have z5:W4.heap.size<=U:=b5.size;by_cases So:1<cd
 .refine ae.ck E z [_] _ λK R τ d D hR=>?_
  have ad:Bl V V (re U τ d):=⟨by show V.heap.size<=U.heap.size;omega,λk hk=>(b5.block k (by show k<W4.heap.size;omega)).trans<|bV.block k hk⟩;have H1:=Mn.out _ ad;have yy:=Z.rc τ d;have q4:aR (re U τ d) _ _ _ _ _:=O;simp only[ak];go_wp2_with(go_at_call 96;refine H1.mono ?_;clear H1;rintro e w6 ⟨⟨y,rfl,J⟩,b6⟩;obtain⟨s2,T,c2,s3,l3,c3,rfl⟩:=E2.is J;have j4:=q4.same<|b6.block _ q4.lt;have xx:=j4.cells;obtain⟨W8,e8,k8,-,Y,o8⟩:=aJ j4 (afB 0 _) ab now shift s2 T c2 s3 l3 c3;replace Y:Hid _:=Y)
  have Y:W8.heap.size=w6.heap.size:=Y.out;have z6:U.heap.size<=w6:=b6.size;exact hR.out _ _ λax=>ae.lv E eN Tz.func70 (λτ d=>cH rfl rfl rfl<|k8.r τ d)<|aE.out _ _ _ ⟨ab,λk hk=>(o8 k ab).trans<|(b6.block k (by show k<U.heap.size;omega)).trans<|ad.block k hk⟩<|be ⟨(h2.out So).1,be ⟨So,⟨_,_,(h2.out So).2⟩,E2.to J (by show V.heap.size<=U.heap.size;omega) λk g1 g2=>o8 k (by have g1:U.heap.size<=k:=g1;omega)⟩⟩
 refine ae.ck E z [_,_] _ λK R τ d D hR=>?_
 have yy:=k5.rc τ d;have xx:=O.rc τ d;obtain⟨W8,e8,k8,-,Y,o8⟩:=aJ (O.r τ d) (afB 0 _) ab a0 a1 s2 T c2 s3 l3 c3;replace Y:Hid _:=Y;simp only[ak];go_wp2;have Y:W8.heap.size=U.heap.size:=Y.out;refine D.out _ _<|ae.ret E z<|ae.lv E eN Tz.func70 (λτ d=>cH rfl rfl rfl<|k8.r τ d)<|aE.out _ _ _ ⟨ab,λk hk=>(o8 k ab).trans<|(b5.block k (by show k<W4.heap.size;omega)).trans<|bV.block k hk⟩ ?_;rcases h1.out ab with h|⟨h0,⟨J,rfl⟩|⟨h,_⟩⟩
 .exact a7 h
 .exact be ⟨h0,a7 ⟨zf.to J z0 λk g1 g2=>(o8 k ab).trans<|b5.block k g2,rfl⟩⟩
 omega
def qW (E:dB Tz.prog ok c aS)(J:ok.aN 70=true)(z:ok.aN 94=true)(O:ok.aN 95=false)(R:ok.aN r0.fn=true)(hc:Chg q c0 s)(T:ok.aN s=true)
  (U:∀W,Bl V V W->a3 Tz.prog 80 #[ai #[now,shift,aa ao n cp,aa bo m A]] W λe w'=>e=ac bb/\ay W.heap.size W w')(D:Oy x)
  (Y:bb=true->∀{W:av} {r:a9} {cs:List a9},ok.aN r.fn=true->Bl V V W->(∀y e W',Bl W.heap.size W W'->x W.heap.size y e W'->ae Tz.prog ok c aS Q ⟨r.finish<|aL #[y,e],cs,W'⟩)->ae Tz.prog ok c aS Q ⟨au Tz.prog s #[c0,ai #[now,shift,aa ao n cp,aa bo m A]] .normal,r::cs,W⟩)
  (Z:Yg C now shift)(Mn:∀W,Bl V V W->a3 Tz.prog 96 #[ai #[now,shift,aa ao n cp,aa bo m A]] W λe w'=>(∃y,e=ac y/\C W.heap.size y w')/\ay W.heap.size W w')
  (aE:∀y cd W',Bl V V W'->EZ x C bb V.heap.size y cd W'->ae Tz.prog ok c aS Q ⟨r0.finish<|aL #[y,a5 .i64 cd],cs,W'⟩):
  ae Tz.prog ok c aS Q ⟨au Tz.prog 70 #[ai #[now,shift,aa ao n cp,aa bo m A],q] .normal,r0::cs,V⟩:=
 xu E J z O R D (λhr hW h=>NW E z hr hc T (λW' p=>U W'<|hW.trans p hW.size) D (λh W' r' ad gh p=>Y h gh<|hW.trans p hW.size) h) Z Mn aE
end
section
variable [Gl]
def EZ.is (h:EZ x C bb N y cd W)(a:Oy x)(d:Yg C now shift):∃a0 a1 g k l o p r,y=ai #[a5 .i64 a0,a5 .i64 a1,aa g k l,aa o p r]:=by
 rcases h with⟨_,rfl,_⟩|⟨_,⟨h,_⟩|⟨_,_,h⟩⟩
 .grind
 .rcases a.is h with⟨_,h⟩|⟨_,_,h,_⟩;all_goals grind
 obtain⟨_,_,_,_,_,_,rfl⟩:=d.is h;grind
def EZ.to {d W'}(h:EZ x C bb N y cd W)(o:Oy x)(p:Yg C now shift)(g:d<=N)(e:∀k,N<=k->k<W.heap.size->W'.heap[k]?=W.heap[k]?):EZ x C bb d y cd W':=by
 rcases h with h|⟨l,⟨h,a⟩|⟨a,r,h⟩⟩
 .exact a7 h
 .exact be ⟨l,a7 ⟨o.to h g e,a⟩⟩
 exact be ⟨l,be ⟨a,r,p.to h g e⟩⟩
def NU (E:dB Tz.prog ok c aS)(z:ok.aN 50=true)(t8:ok.aN 70=true)(jA:ok.aN 94=true)(Pp:ok.aN 95=false)(eN:ok.aN r0.fn=true)(Zj:ok.aN 253=true)
  (Y:∀W,Bl V V W->a3 Tz.prog 80 #[ai #[now,shift,aa ao n cp,aa bo m A]] W λe w'=>e=ac bb/\ay W.heap.size W w')(Z:Oy x)
  (gp:bb=true->∀{W:av} {r:a9} {cs:List a9},ok.aN r.fn=true->Bl V V W->(∀y e W',Bl W.heap.size W W'->x W.heap.size y e W'->ae Tz.prog ok c aS Q ⟨r.finish<|aL #[y,e],cs,W'⟩)->ae Tz.prog ok c aS Q ⟨au Tz.prog 253 #[ai #[name],ai #[now,shift,aa ao n cp,aa bo m A]] .normal,r::cs,W⟩)
  (E2:Yg C now shift)(Mn:∀W,Bl V V W->a3 Tz.prog 96 #[ai #[now,shift,aa ao n cp,aa bo m A]] W λe w'=>(∃y,e=ac y/\C W.heap.size y w')/\ay W.heap.size W w')
  (aE:∀y cd W',Bl V V W'->EZ x C bb V.heap.size y cd W'->ae Tz.prog ok c aS Q ⟨r0.finish<|aL #[y,a5 .i64 cd],cs,W'⟩):
  ae Tz.prog ok c aS Q ⟨au Tz.prog 50 #[ai #[now,shift,aa ao n cp,aa bo m A],name] .normal,r0::cs,V⟩:=by
 replace gp:Hid _:=@gp;replace aE:Hid _:=aE;replace Y:Hid _:=Y;replace Mn:Hid _:=Mn;refine ae.en Tz.func50 rfl Tryz.ntmps50 iE<|ae.ck E z [_] _ λK R ad mC J hR=>?_
 obtain⟨W1,e1,k2,b1,-⟩:=boxed (re V ad mC) now shift ao n cp bo m A;obtain⟨W2,e2,O,b2,-⟩:=boxed W1 0 0 none 0 0 none 0 0;have D:=Bl.kH<|b1.trans<|b2.mono b1.size;simp only[ak];go_wp2;refine J.out _ _ ?_;have p2:=k2.same<|b2.block _ k2.lt;have o4:V.heap.size<W1:=k2.lt;refine ae.seq E z<|ae.rg E z<|ae.oc E z 0 4 λK τ d J=>?_;have yy:=p2.rc τ d;simp only[ap];go_wp2;refine J.out _ _<|ae.un<|ae.aZ E (i:=4) rfl rfl t8 (λw=>od)<|qW E t8 jA Pp z (a7 ⟨name,rfl,rfl,rfl⟩) Zj (λW T=>Y.out W<|D.trans T D.size) Z (λh W r cs hr T=>gp.out h hr<|D.trans T D.size) E2 (λW T=>Mn.out W<|D.trans T D.size) ?_;rintro y cd W4 b4 hy;rw[ar rfl];obtain⟨a0,a1,s2,l2,c2,s3,l3,c3,rfl⟩:=hy.is Z E2;have ZM:=O.lt;have O:=O.same<|b4.block _ ZM;have z0:=D.size;have z4:=b4.size;have bV:=D.trans b4 z0;refine ae.oc E z 5 4 λK τ d J=>?_
 have xx:=O.rc τ d;obtain⟨W8,e8,k8,-,U,o8⟩:=aJ (O.r τ d) (afB 0 _) ab a0 a1 s2 l2 c2 s3 l3 c3;replace U:Hid _:=U;simp only[ap,a8];go_wp2;have U:W8.heap.size=W4.heap.size:=U.out;exact J.out _ _<|ae.regionEnd E z<|ae.ret E z<|ae.lv E eN Tz.func50 (λτ d=>cH rfl rfl rfl<|k8.r τ d)<|aE.out _ _ _ ⟨ab,λk hk=>(o8 k ab).trans<|bV.block k hk⟩<|hy.to Z E2 z0 λk g1 g2=>o8 k ab
def CX {l:Nat}(d:fn.results=#[.cell i 29,.tmp j,.tmp l]){t:Array aI}{a:aI}(g:t[i]?=some (bk B))(h:t[j]?=some e)(k:t[l]?=some a)(o:aR W B a0 a1 v u):
  (bj fn t).run Tz.prog W=.ok (aL #[ai #[a0,a1,v,u],e,a]) W:=by
 let⟨p,r,z,D,_⟩:=o.cells;simp[bj,d,go_sem,p,r,z,D,g,h,k]
def R4 (E:dB Tz.prog ok c aS)(T:ok.aN 52=true)(t8:ok.aN 70=true)(jA:ok.aN 94=true)(Pp:ok.aN 95=false)(eN:ok.aN r0.fn=true)(Zj:ok.aN 254=true)
  (Ml:∀W,Bl V V W->a3 Tz.prog 80 #[ai #[now,shift,aa ao n cp,aa bo m A]] W λe w'=>e=ac bb/\ay W.heap.size W w')(zf:Oy x)
  (gp:bb=true->∀{W:av} {r:a9} {cs:List a9},ok.aN r.fn=true->Bl V V W->(∀y e W',Bl W.heap.size W W'->x W.heap.size y e W'->ae Tz.prog ok c aS Q ⟨r.finish<|aL #[y,e],cs,W'⟩)->ae Tz.prog ok c aS Q ⟨au Tz.prog 254 #[ai #[],ai #[now,shift,aa ao n cp,aa bo m A]] .normal,r::cs,W⟩)
  (E2:Yg C now shift)(Mn:∀W,Bl V V W->a3 Tz.prog 96 #[ai #[now,shift,aa ao n cp,aa bo m A]] W λe w'=>(∃y,e=ac y/\C W.heap.size y w')/\ay W.heap.size W w')
  {NP:Nat->Option bi->Nat->Nat->av->Prop}(hNt:∀{N N' s l k W W'},NP N s l k W->N'<=N->(∀k,N<=k->k<W.heap.size->W'.heap[k]?=W.heap[k]?)->NP N' s l k W')(T3:bb=true->∀W,Bl V V W->a3 Tz.prog 72 #[ai #[now,shift,aa ao n cp,aa bo m A],now] W λe w'=>(∃s l k,e=ac (aa s l k)/\NP W.heap.size s l k w')/\ay W.heap.size W w')
  (aE:∀y s l k cd W',Bl V V W'->EZ x C bb V.heap.size y cd W'->(cd=0/\NP V.heap.size s l k W'\/cd≠0/\s=none/\l=0/\k=0)->ae Tz.prog ok c aS Q ⟨r0.finish<|aL #[y,aa s l k,a5 .i64 cd],cs,W'⟩):
  ae Tz.prog ok c aS Q ⟨au Tz.prog 52 #[ai #[now,shift,aa ao n cp,aa bo m A]] .normal,r0::cs,V⟩:=by
 replace gp:Hid _:=@gp;replace aE:Hid _:=aE;replace Ml:Hid _:=Ml;replace Mn:Hid _:=Mn;replace T3:Hid _:=T3;replace hNt:Hid _:=@hNt;refine ae.en Tz.func52 rfl Tryz.ntmps52 iE ?_;refine ae.ck E T [_] _ λK R z mC J hR=>?_
 obtain⟨W1,e1,k2,b1,-⟩:=boxed (re V z mC) now shift ao n cp bo m A;obtain⟨W2,e2,U,b2,-⟩:=boxed W1 0 0 none 0 0 none 0 0;have bW:=Bl.kH<|b1.trans<|b2.mono b1.size;simp only[ak];go_wp2;refine J.out _ _ ?_;have Y:=k2.same<|b2.block _ k2.lt;have o4:V.heap.size<W1:=k2.lt;clear J hR K R k2 b1 b2 e1 e2;refine ae.seq E T<|ae.rg E T<|ae.oc E T 0 3 λK τ d J=>?_;have yy:=Y.rc τ d;simp only[ap];go_wp2;refine J.out _ _<|ae.un ?_;clear J K yy;refine ae.aZ E (i:=3) rfl rfl t8 (λw=>od)<|qW E t8 jA Pp T (be<|a7 ⟨rfl,rfl,rfl⟩) Zj (λW hW=>Ml.out W<|bW.trans hW bW.size) zf (λh W r cs hr hW=>gp.out h hr<|bW.trans hW bW.size) E2 (λW hW=>Mn.out W<|bW.trans hW bW.size) ?_;rintro y cd Z b4 hy;rw[ar rfl];obtain⟨a0,a1,s2,l2,c2,s3,l3,c3,rfl⟩:=hy.is zf E2;have ZM:=U.lt;have U:=U.same<|b4.block _ ZM;have Y:=Y.same<|b4.block _ Y.lt;have z0:=bW.size;have z4:=b4.size;have bV:=bW.trans b4 z0;refine ae.oc E T 4 6 λK D d' J=>?_
 simp only[ap,a8];go_wp2;refine J.out _ _<|ae.regionEnd E T ?_;clear J K;obtain⟨O,e5,k5,b5,-⟩:=boxed (re Z D d') a0 a1 s2 l2 c2 s3 l3 c3;rw[e5];clear e5;have l4:=U.lt;have U:=U.same<|b5.block _ l4;have Y:=Y.same<|b5.block _ Y.lt;have hy:=hy.to zf E2 (afK _) λk _ hk=>b5.block k hk
 have z5:Z.heap.size<=O:=b5.size;replace bV:Bl V V O:=⟨ab,λk hk=>(b5.block k (by show k<Z.heap.size;omega)).trans<|bV.block k hk⟩;by_cases So:cd=0
 .subst So;have ad:bb=true:=by
   rcases hy with⟨_,_,h⟩|⟨h,_⟩
   .cases h
   .exact h
  replace ad:Hid _:=ad;refine ae.ck E T [_,_] _ λK R τ d J hR=>?_
  have yy:=k5.rc τ d;have xx:=Y.rc τ d;have q4:aR (re O τ d) _ _ _ _ _:=U;have q5:aR (re O τ d) _ _ _ _ _:=k5;have q2:aR (re O τ d) _ _ _ _ _:=Y;have n5:(re Z D d').heap.size≠W1.heap.size:=by show Z.heap.size≠_;omega
  have n2:(re V z mC).heap.size≠W1.heap.size:=by show V.heap.size≠_;omega
  have H1:=T3.out ad.out (re O τ d).drew ⟨bV.size,bV.block⟩;simp only[ak];go_wp2;go_region_held3 (λw'=>(w'.cell? ⟨(re Z D d').heap.size,0,none⟩=some (a5 .i64 a0)/\w'.cell? ⟨(re Z D d').heap.size,1,none⟩=some (a5 .i64 a1)/\w'.cell? ⟨(re Z D d').heap.size,2,none⟩=some (aa s2 l2 c2)/\w'.cell? ⟨(re Z D d').heap.size,3,none⟩=some (aa s3 l3 c3))/\w'.cell? ⟨(re V z mC).heap.size,0,none⟩=some (a5 .i64 now)/\w'.cell? ⟨(re V z mC).heap.size,1,none⟩=some (a5 .i64 shift)/\w'.cell? ⟨(re V z mC).heap.size,2,none⟩=some (aa ao n cp)/\w'.cell? ⟨(re V z mC).heap.size,3,none⟩=some (aa bo m A)) (go_keep)
   (first
    |(go_at_call 72;refine H1.mono ?_;clear H1;rintro e w6 ⟨⟨s,l,k,rfl,hs⟩,b6⟩;have j4:=q4.same<|b6.block _ q4.lt;let⟨r0,r1,r2,r3,r4⟩:=j4.cells;have j5:=q5.same<|b6.block _ q5.lt;have j2:=q2.same<|b6.block _ q2.lt;have uu:=j5.cells;have tt:=j2.cells;obtain⟨W8,e8,k8,-,z8,o8⟩:=aJ j4 (afB 0 _) ab a0 a1 s2 l2 c2 s3 l3 c3;replace z8:Hid _:=z8;have vv:=(j5.same<|o8 _ n5).cells;let⟨g0,g1,g2,g3,g4⟩:=(j2.same<|o8 _ n2).cells))
  rename_i hh;clear hh;have z8:W8.heap.size=w6.heap.size:=z8.out;have z6:O.heap.size<=w6:=b6.size;have zV:=bV.size;refine J.out _ _<|ae.ret E T<|ae.lv E eN Tz.func52 (λτ d=>CX rfl rfl rfl rfl<|k8.r τ d)<|aE.out _ _ _ _ _ _ ⟨ab,λk hk=>(o8 k ab).trans<|(b6.block k (by show k<O.heap.size;omega)).trans<|bV.block k hk⟩ (hy.to zf E2 z0 λk g1 g2=>(o8 k ab).trans<|b6.block k g2)<|a7 ⟨rfl,hNt.out hs (by show V.heap.size<=O.heap.size;omega) λk g1 g2=>o8 k (by have g1:O.heap.size<=k:=g1;omega)⟩
 refine ae.ck E T [_] _ λK R τ d J hR=>?_
 have yy:=k5.rc τ d;have xx:=U.rc τ d;obtain⟨W8,e8,k8,-,z8,o8⟩:=aJ (U.r τ d) (afB 0 _) ab a0 a1 s2 l2 c2 s3 l3 c3;replace z8:Hid _:=z8;simp only[ak];go_wp2;have z8:W8.heap.size=O.heap.size:=z8.out;have zV:=bV.size;exact hR.out _ _ λax=>ae.lv E eN Tz.func52 (λτ d=>CX rfl rfl rfl rfl<|k8.r τ d)<|aE.out _ _ _ _ _ _ ⟨ab,λk hk=>(o8 k ab).trans<|bV.block k hk⟩ (hy.to zf E2 z0 λk g1 g2=>o8 k ab)<|be ⟨So,rfl,rfl,rfl⟩
end
def MF g (w:av):a3 Tz.prog 251 #[(),g] w λe w'=>e=ac (a5 .i64 (-1))/\ay w w w':=by
 go_enter Tz.func251,Tryz.ntmps251
 go_wp2;go_loopw [8] (λi w'=>i=a5 .i64 0/\ay w w w') (λ_ _=>0)
 .exact⟨rfl,afB _ _⟩
 obtain⟨rfl,a⟩:=hrel;exact Ho
def qJ (ao:Option bi)(n cap:Nat)(f:Nat->Mv)(name:ByteArray)(w:av)(U:n<=6)(r:qe w ao n cap f):
  a3 Tz.prog 247 #[aa ao n cap,name] w λe w'=>(∃k,e=ac (a5 .i64 k)/\ew f n name k)/\ay w w w':=by
 cases ao with
 |some Y=>
  obtain⟨b,rfl,hb,J⟩:=r.2 _ rfl;exact GI b 0 n cap f name w ab hb J
 |none=>
  obtain⟨rfl,rfl⟩:=r.1 rfl;have D:ay w w (w.alloc<|.cells #[name] 9):=(afB _ w).alloc ab _;have O:=λg=>MF g<|w.alloc<|.cells #[name] 9
  go_enter Tz.func247,Tryz.ntmps247
  go_wp2_with(go_at_call 251;refine(O _).mono ?_;rintro e Z ⟨rfl,R⟩)
  go_ret;exact⟨⟨-1,rfl,a7 ⟨rfl,λi T=>absurd T ab⟩⟩,D.trans<|R.mono D.size⟩
def KB (t ty e:bp)(i:TypeInfo)(ht:Tz.prog.underlying t=some (.slice e))(hi:Tz.prog.info? e=some i)(s:Option bi) c (w:av):(Builtin.append_ #[t,t] ty #[(),.slice s 0 c]).run Tz.prog w=.ok () w:=by
 cases s<;>simp[Builtin.append_,run_underlying ht,sizeOf,typeInfo,hi,Builtin.lenOf,Builtin.firstCells,loadCells,loadCellsFrom]
def ID (now shift:Int)(ao:Option bi) ca (bo:Option bi) da (w:av):a3 Tz.prog 96 #[ai #[now,shift,aa ao 0 ca,aa bo 0 da]] w λe w'=>e=ac (ai #[now,shift,(),()])/\ay w w w':=by
 let⟨R,D,T,U,Y⟩:=bs Ek;let⟨Z,J,MD,I8,I9⟩:=bs Qb;have a1:=λty s c W=>KB 26 ty _ _ (Tz.al Tryz.underlying26) D s c W
 have a2:=λty s c W=>KB 27 ty _ _ (Tz.al Tryz.underlying27) J s c W
 have O:∀r z,ay w w ((w.alloc r).alloc z):=λr z=>((afB _ w).alloc ab _).alloc aP _
 cases ao<;>cases bo
 all_goals
  go_enter Tz.func96,Tryz.ntmps96
  go_wp2;exact bodyPost_ret (by simp[bj,Tryz.results96,go_sem]) rfl ⟨rfl,O _ _⟩
def sM (now shift:Int)(ao:Option bi)(n cap:Nat)(f:Nat->Mv)(bo:Option bi)(m cap':Nat)(t:Nat->Int)(w:av)(Z:n<=6)(hm:m<=6)(r:qe w ao n cap f)(D:pN w bo m cap' t)(J:ao=none\/bo=none->n=0/\m=0):
  a3 Tz.prog 96 #[ai #[now,shift,aa ao n cap,aa bo m cap']] w λe w'=>(∃v u,e=ac (Ta now shift v u)/\w'.ownsRow w 55 6 v n (fR f n)/\w'.ownsRow w 3 1 u m (eG t m))/\ay w w w':=by
 by_cases h:ao=none\/bo=none
 .obtain⟨rfl,rfl⟩:=J h;apply(ID now shift ao cap bo cap' w).mono;rintro e w' ⟨rfl,hb⟩;exact⟨⟨_,_,rfl,⟨rfl,a7 ⟨rfl,rfl⟩⟩,⟨rfl,a7 ⟨rfl,rfl⟩⟩⟩,hb⟩
 cases ao with
 |none=>exact absurd (a7 rfl) h
 |some ad=>
  cases bo with
  |none=>exact absurd (be rfl) h
  |some O=>
   obtain⟨b,rfl,hb,R⟩:=r.2 _ rfl;obtain⟨T,rfl,U,Y⟩:=D.2 _ rfl;exact yX now shift b 0 n cap f T 0 m cap' t w ab ab hb R U Y
def Gm (now shift a:Int)(ao:Option bi) ca (bo:Option bi) da (w:av):a3 Tz.prog 72 #[ai #[now,shift,aa ao 0 ca,aa bo 0 da],a] w λe w'=>e=ac ()/\ay w w w':=by
 have d:ay w w (w.alloc<|.cells #[now,shift,aa ao 0 ca,aa bo 0 da] 29):=(afB _ w).alloc ab _;go_enter Tz.func72,Tryz.ntmps72
 go_wp2;go_loopw [5,11] (λs i w'=>s=()/\i=a5 .i64 0/\ay w w w') (λ_ _ _=>0)
 .grind
 obtain⟨rfl,rfl,g⟩:=hrel;exact Ho
def Gn (now shift r:Int)(ao:Option bi)(n cap:Nat)(f:Nat->Mv)(bo:Option bi) cap' (t:Nat->Int)(w:av)(D:n<=6)(J:qe w ao n cap f)(O:pN w bo n cap' t)(R:ao=none\/bo=none->n=0):
  a3 Tz.prog 72 #[ai #[now,shift,aa ao n cap,aa bo n cap'],r] w λe w'=>(∃s,e=ac s/\w'.ownsRow w 9 1 s (gone r t n).length (nL f<|gone r t n))/\ay w w w':=by
 by_cases h:ao=none\/bo=none
 .obtain rfl:=R h;apply(Gm now shift r ao cap bo cap' w).mono;rintro e w' ⟨rfl,hb⟩;exact⟨⟨_,rfl,⟨rfl,a7 ⟨rfl,rfl⟩⟩⟩,hb⟩
 cases ao with
 |none=>exact absurd (a7 rfl) h
 |some ad=>
  cases bo with
  |none=>exact absurd (be rfl) h
  |some T=>
   obtain⟨b,rfl,hb,U⟩:=J.2 _ rfl;obtain⟨Y,rfl,Z,gh⟩:=O.2 _ rfl;exact Gk now shift r b 0 n cap f Y 0 cap' t w D hb U Z gh
def lZ {w'}(h:aD w b 0 n t)(e:w'.heap[b]?=w.heap[b]?):aD w' b 0 n t:=λi a=>by
 have:=h i a;simp[World.cell?,e]at this⊢;exact this
def qe.bl {c}(h:qe w ao n c f)(hb:Bl w w W):qe W ao n c f:=
 ⟨h.1,λJ r=>by let⟨b,e,D,O⟩:=h.2 J r;exact⟨b,e,afL D hb.size,dJ O<|hb.block b D⟩⟩
def pN.bl {c}(h:pN w ao n c t)(hb:Bl w w W):pN W ao n c t:=
 ⟨h.1,λz p=>by let⟨b,e,r,D⟩:=h.2 z p;exact⟨b,e,afL r hb.size,lZ D<|hb.block b r⟩⟩
structure Bq (w:av)(now shift:Int)(ao:Option bi)(n cp:Nat)(f:Nat->Mv)(bo:Option bi)(m A:Nat)(t:Nat->Int):Prop where
 n6:n<=6
 m6:m<=6
 sm:qe w ao n cp f
 si:pN w bo m A t
 two:ao=none\/bo=none->n=0/\m=0/\(0<=now/\now<=10000)/\0<=shift/\shift<=6
 fit:∀i,i<n->(f i).Fits
def Bq.bl (h:Bq w now shift ao n cp f bo m A t)(hb:Bl w w W):Bq W now shift ao n cp f bo m A t:=⟨h.n6,h.m6,h.sm.bl hb,h.si.bl hb,h.two,h.fit⟩
def Bq.cases (h:Bq w now shift ao n cp f bo m A t){P:Prop}(O:n=0->m=0->0<=now/\now<=10000->0<=shift/\shift<=6->P)(R:∀b r,ao=some ⟨b,0,none⟩->bo=some ⟨r,0,none⟩->b<w.heap.size->aK w b 0 n f->r<w.heap.size->aD w r 0 m t->P):P:=by
 by_cases D:ao=none\/bo=none
 .let⟨T,U,Y,Z⟩:=h.two D;grind
 cases ao with
 |none=>grind
 |some ad=>
  cases bo with
  |none=>grind
  |some J=>
   obtain⟨b,rfl,hb,hr⟩:=h.sm.2 _ rfl;obtain⟨r,rfl,dl,gh⟩:=h.si.2 _ rfl;grind
def Bq.ib (h:Bq w now shift ao n cp f bo m A t):a3 Tz.prog 80 #[ai #[now,shift,aa ao n cp,aa bo m A]] w λe w'=>e=ac (bn<|aY now shift f n t m)/\ay w w w':=by
 have h6:=h.n6;have R:=h.m6;refine h.cases (λr D J O=>?_) λb T r D hb U Y Z=>?_
 .subst r D;rw[q8 J O];exact Ed now shift w J O
 subst r D;exact Ee now shift b 0 n cp f T 0 m A t w ab iN hb U Y Z
def Bq.sk (h:Bq w now shift ao n cp f bo m A t):a3 Tz.prog 34 #[ai #[now,shift,aa ao n cp,aa bo m A]] w λe w'=>e=ac (bn<|aY now shift f n t m)/\ay w w w':=by
 have h6:=h.n6;have R:=h.m6;refine h.cases (λr D J O=>?_) λb T r D hb U Y Z=>?_
 .subst r D;rw[q8 J O];exact uR now shift w J O
 subst r D;exact uS now shift b 0 n cp f T 0 m A t w ab iN hb U h.fit Y Z
def NI (r:0<=now/\now<=10000)(D:0<=shift/\shift<=6):fD now shift f 0 t 0=true:=vX (q8 r D) λp J=>absurd J<|afO _
def Bq.su (h:Bq w now shift ao n cp f bo m A t):a3 Tz.prog 21 #[ai #[now,shift,aa ao n cp,aa bo m A]] w λe w'=>e=ac (bn<|fD now shift f n t m)/\ay w w w':=by
 have h6:=h.n6;have R:=h.m6;refine h.cases (λr D J O=>?_) λb T r D hb U Y Z=>?_
 .subst r D;rw[NI J O];exact EH now shift w J O
 subst r D;exact pv now shift b n cp f T m A t w ab iN hb U h.fit Y Z
def R9 (now shift:Int)(f:Nat->Mv)(n:Nat)(t:Nat->Int)(m N:Nat)(y:aI)(W:av):Prop:=∃v u,y=Ta now shift v u/\W.ownsRow N 55 6 v n (fR f n)/\W.ownsRow N 3 1 u m (eG t m)
def Wd (now shift f n t m):Yg (R9 now shift f n t m) now shift where
 is:=λ⟨v,u,e,r,D⟩=>by
  obtain⟨a,R,rfl⟩:=mh r;obtain⟨a',T,rfl⟩:=mh D;exact⟨_,_,_,_,_,_,e⟩
 to:=λ⟨v,u,e,r,D⟩ O h=>⟨v,u,e,cg (az r λB J=>h B (r.lt B J).1 (r.lt B J).2) O,cg (az D λB J=>h B (D.lt B J).1 (D.lt B J).2) O⟩
noncomputable def gD (f:Nat->Mv)(n:Nat)(t:Nat->Int)(now k:Int):Int ⊕ Nat×(Nat->Int):=
 if k<0 then .inl 3 else if(f k.toNat).ax=false then .inl 3 else if t k.toNat=now then(match dG f n t k.toNat with|none=>.inl 5|some T=>.inr (k.toNat,T))else .inl 6
def R_ (now shift:Int)(f:Nat->Mv)(n:Nat)(t:Nat->Int)(name:ByteArray)(N:Nat)(y e:aI)(W:av):Prop:=∃k,ew f n name k/\match gD f n t now k with
 |.inl cd=>y=.agg #[(0:Int),(0:Int),.slice none 0 0,.slice none 0 0]/\e=.iface 143 (.agg #[.int .i64 cd])
 |.inr (p,T)=>e=.nilIface/\∃BN c2 BT c3,y=.agg #[.int .i64 now,.int .i64 shift,.slice (some ⟨BN,0,none⟩) (aw f t p n).length c2,.slice (some ⟨BT,0,none⟩) (aw f t p n).length c3]/\N<=BN/\N<=BT/\Dw W BN (aw f t p n).length (jO<|aw f t p n)/\aC W BT (aw f t p n).length T
def f_ {k:Int}(h:gD f n t now k=.inl cd):1<cd:=by
 grind [gD]
def mpr (now shift f n t name):Oy (R_ now shift f n t name) where
 is:=λ⟨k,hk,h⟩=>by
  cases r:gD f n t now k with
  |inl cd=>rw[r]at h;exact be ⟨cd,f_ r,h.2,h.1⟩
  |inr x=>rw[r]at h;let⟨D,J,R,BT,T,O,_⟩:=h;exact a7 ⟨D,_,_,_,_,_,_,_,_,O⟩
 to:=λ⟨k,hk,h⟩ U e=>⟨k,hk,by
  cases r:gD f n t now k with
  |inl cd=>rw[r]at h;exact h
  |inr x=>
   rw[r]at h;let⟨D,J,R,BT,T,O,Y,Z,h5,h6⟩:=h;exact⟨D,J,R,BT,T,O,afN U Y,afN U Z,h5.same<|e J Y h5.lt,fT h6<|e BT Z h6.lt⟩⟩
def DB (w:av)(cs T):∃W,w.alloc (.cells cs T)=W/\W.heap[w.heap.size]?=some (.cells cs T (0,0))/\ay w w W:=⟨_,rfl,heap_alloc_new w _,(afB _ w).alloc (afK _) _⟩
section
variable [Gl]
def AN (E:dB Tz.prog ok c aS)(r:ok.aN 57=true)(tK:ok.aN 81=true)(zg:ok.aN 108=true)(ww:ok.aN 142=true)(E3:ok.aN 166=false)(eN:ok.aN r0.fn=true)(h:Bq V now shift ao n cp f bo m A t)
  (aE:∀V',Bl V V V'->ae Tz.prog ok c aS Q ⟨r0.finish<|bn<|fD now shift f n t m,cs,V'⟩):ae Tz.prog ok c aS Q ⟨au Tz.prog 57 #[ai #[now,shift,aa ao n cp,aa bo m A]] .normal,r0::cs,V⟩:=by
 have MB:Hid (∀(x:Act) (w':av) (O:List Item),Bl V V w'->x.defers=[]->x.tmps[2]?=some (bn<|fD now shift f n t m)->ae Tz.prog ok c aS Q ⟨{(base 57).at x O with mode:=.returning},r0::cs,w'⟩):=by
  rintro x w' O h1 h2 h3;refine ae.leave E eN (λτ d=>⟨rfl,h2,rfl,_,Tz.func57,?_⟩)<|aE _ h1;have:=results_tmp (fn:=Tryz.f57) rfl x.tmps Tz.prog<|re w' τ d;rw[mN h3]at this;exact this
 clear aE;refine ae.en Tz.func57 rfl Tryz.ntmps57 iE ?_;refine ae.ck E r [_,_] _ λK R τ d hK J=>?_
 obtain⟨W1,e1,T,Z,-⟩:=boxed (re V τ d) now shift ao n cp bo m A;have H1:=(h.bl<|Bl.kH Z).ib;have yy:=T.cells;simp only[ak];cases hb:aY now shift f n t m with
 |false=>
  rw[hb]at H1;replace h:Hid _:=h;go_wp2_with(go_at_call 80;refine H1.mono ?_;clear H1;rintro e w1 ⟨rfl,Y⟩)
  refine J.out _ _ λO=>MB.out _ _ _ (Bl.kH<|Z.trans<|Y.mono Z.size) rfl ?_
  grind [Hk]
 |true=>
  rw[hb]at H1;replace h:Hid _:=h;go_wp2_with(go_at_call 80;refine H1.mono ?_;clear H1;rintro e w1 ⟨rfl,Y⟩)
  refine hK.out _ _ ?_;have U:=Bl.kH<|Z.trans<|Y.mono Z.size;replace T:=T.same<|Y.block _ T.lt;clear hK J K R Z Y e1 yy;replace h:=h.out.bl U;revert T;generalize (re V τ d).heap.size=B1;intro T;let⟨hm,A5,hf⟩:=bK hb;subst A5;have h6:=bX hm;refine ae.seq E r<|ae.ck E r [_] _ λK R τ d hK J=>?_;have yy:=T.rc τ d;replace h:Hid _:=h;simp only[ak];go_wp2;refine hK.out _ _ ?_;clear hK J K R yy;refine ae.block E r<|ae.loop E r ?_;refine ae.uy E r (λj a' w'=>∃k:Nat,k+j=m/\Bl w1.heap.size w1 w'/\(∀p,p<k->(f p).ax=true->(dG f m t p).isSome=true)/\jI a' (rW 30 [(1,bk<|some ⟨B1,0,none⟩),(11,aa ao m cp),(12,a5 .i64 m),(13,a5 .i64 k)])) ?_ m _ _ ⟨0,ab,⟨afK _,λ_ _=>rfl⟩,λp hp=>absurd hp<|afO _,rfl,rfl⟩;rintro j a' W ⟨k,ad,D,dw,jB⟩ IH;replace IH:Hid _:=IH;obtain⟨u,rfl⟩:=jB.open;clear jB;refine ae.ck E r [_] _ λK R τ d hK J=>?_
  simp only[ak];go_wp2;refine hK.out _ _<|ae.un ?_;clear hK J K R;refine ae.seq E r<|ae.cond E r (t:=decide (k<m)) rfl ?_;by_cases aF:k<m
  .rw[if_pos dj];have dV:(k:Int)<m:=ab;obtain⟨b,rfl,bL,pR⟩:=h.out.sm.pos ab;obtain⟨b',rfl,dg,Sv⟩:=h.out.si.pos ab;refine ae.skip E r<|ae.seq E r ?_;refine ae.cut (λa' w'=>Bl w1.heap.size w1 w'/\((f k).ax=true->(dG f m t k).isSome=true)/\jI a' (rW 30 [(1,bk<|some ⟨B1,0,none⟩),(11,aa (some ⟨b,0,none⟩) m cp),(12,a5 .i64 m),(13,a5 .i64 k)])) ?_ λzq=>?_
   .rintro a' w' ⟨D,A3,jB⟩;obtain⟨u,rfl⟩:=jB.open;refine ae.rg E r<|ae.oc E r 0 2 λK τ d hK=>?_;have H5:IntKind.i64.wrap ((k:Int)+1)=(k:Int)+1:=kw;simp only[ap];go_wp2;refine hK.out _ _<|ae.regionEnd E r<|IH.out (j-1) ab _ _ ⟨k+1,ab,D.trans ⟨afK _,λ_ _=>rfl⟩ D.size,λp hp hl=>?_,rfl,by simp;rfl⟩;grind
   refine ae.block E r ?_;refine ae.ck E r [_] _ λK R τ d hK J=>?_
   have bR:=D.trans (M:=W.heap.size) (c:=re W τ d) ⟨afK _,λ_ _=>rfl⟩ D.size;let⟨c0,c1,c2,c3,c4,c5⟩:=dJ (w':=re W τ d) pR (bR.block _ bL) k aF;simp only[Nat.zero_add]at c0 c1 c2 c3 c4 c5;let⟨W2,e2,k2,Y⟩:=DB (re W τ d) (f k).cells 55;simp only[ak];go_wp2;refine hK.out _ _ ?_;clear hK J K R e2 c0 c1 c2 c3 c4 c5;replace D:=bR.trans (Bl.of Y) bR.size;clear Y bR;revert k2;generalize (re W τ d).heap.size=B4;intro k2;refine ae.seq E r<|ae.ck E r [_] _ λK R τ d hK J=>?_;let⟨z0,z1,z2,z3,z4,z5⟩:=Te (w:=re W2 τ d) k2;simp only[ak];cases hl:(f k).ax with
   |false=>
    rw[hl]at z1;go_wp2;refine hK.out _ _<|ae.cond E r (t:=true) rfl ?_;rw[if_pos rfl];exact ae.exit E r (k':=_) rfl (zq.out _ _ ⟨⟨D.size,D.block⟩,(λh=>cO),rfl,rfl⟩)
   |true=>
    rw[hl]at z1;go_wp2;refine hK.out _ _<|ae.un<|ae.cond E r (t:=false) rfl ?_;rw[if_neg Bool.false_ne_true];refine ae.skip E r<|ae.seq E r<|ae.rg E r<|ae.oc E r 0 2 λK τ d hK=>?_;have yy:=(show aR (re W2 τ d) _ _ _ _ _ from T.same (D.block _ T.lt)).cells;simp only[ap];go_wp2;refine hK.out _ _<|ae.un<|ae.aZ E (i:=2) rfl rfl tK (λw=>od)<|Ht (now:=now) (shift:=shift) (cap:=cp) (cap':=A) E tK zg ww E3 r hm hf aF (afL bL D.size) (dJ pR<|D.block _ bL) (afL dg D.size) (λi hi=>D.cell dg<|Sv i hi) ?_;rintro _ W3 ⟨⟨x0,x1,x2,l2,c2,x3,l3,c3,rfl,-⟩,b3⟩;rw[ar rfl];replace D:=D.trans b3 D.size;generalize oh:(dG f m t k).isSome=br;refine ae.oc E r 3 6 λK τ d hK=>?_
    obtain⟨W4,e4,-,b4,-⟩:=boxed (re W3 τ d) x0 x1 x2 l2 c2 x3 l3 c3;simp only[ap,a8];go_wp2;refine hK.out _ _<|ae.regionEnd E r ?_;clear hK K e4;replace D:=D.trans (Bl.kH b4) D.size;refine ae.ck E r [_] _ λK R τ d hK J=>?_
    simp only[ak];go_wp2;refine hK.out _ _<|ae.un ?_;clear hK J K R;cases br with
    |true=>
     refine ae.cond E r (t:=false) rfl ?_;rw[if_neg Bool.false_ne_true];exact ae.skip E r (ae.inBlock E r<|zq.out _ _ ⟨D,λ_=>oh,rfl,rfl⟩)
    |false=>
     refine ae.cond E r (t:=true) rfl ?_;rw[if_pos rfl];refine ae.ck E r [_] _ λK R τ d hK J=>?_
     simp only[ak];go_wp2;refine hK.out _ _<|ae.ret E r<|MB.out _ _ _ ⟨(U.trans D U.size).size,(U.trans D U.size).block⟩ rfl ?_;rw[Dh λh=>by have:=h k aF hl;rw[oh]at this;cases this];rfl
  .rw[if_neg dj];refine ae.exit E r (k':=[.code _]) rfl<|ae.ck E r [_] _ λK R τ d hK J=>?_
   simp only[ak];go_wp2;refine hK.out _ _<|ae.ret E r<|MB.out _ _ _ ⟨(U.trans D U.size).size,(U.trans D U.size).block⟩ rfl ?_;rw[vX hb λp hp=>dw p ab];rfl
def acf {p:Prop}(x9:p:=by
  have h:W3.heap[(re V τ0 mC).heap.size]?=_:=(b3.block _<|afL (afM.1 k1).1 b2.size).trans<|(b2.block _ (afM.1 k1).1).trans k1;simp[World.cell?,h]):p:=x9
def R1 (E:dB Tz.prog ok c aS)(Y:ok.aN 253=true)(tK:ok.aN 81=true)(zg:ok.aN 108=true)(ww:ok.aN 142=true)(E3:ok.aN 166=false)(eN:ok.aN r0.fn=true)(hB:Bq V now shift ao n cp f bo m A t)(p7:aY now shift f n t m=true)
  (aE:∀y e W',Bl V V W'->R_ now shift f n t name V.heap.size y e W'->ae Tz.prog ok c aS Q ⟨r0.finish<|.tuple #[y,e],cs,W'⟩):
  ae Tz.prog ok c aS Q ⟨au Tz.prog 253 #[.agg #[name],.agg #[now,shift,.slice ao n cp,.slice bo m A]] .normal,r0::cs,V⟩:=by
 let⟨hm,A5,hf⟩:=bK p7;subst A5;replace aE:Hid _:=aE;have h6:=hB.n6;refine ae.en Tz.func253 rfl Tryz.ntmps253 iE ?_;refine ae.ck E Y [_,_] _ λK R τ0 mC hK hR=>?_
 let⟨W1,e1,k1,b1⟩:=DB (re V τ0 mC) #[.string name] 99;obtain⟨W2,e2,k2,b2,-⟩:=boxed W1 now shift ao m cp bo m A;obtain⟨W3,e3,k3,b3,-⟩:=boxed W2 0 0 none 0 0 none 0 0;have bW:=Bl.kH<|(b1.trans<|b2.mono b1.size).trans<|b3.mono<|afN b1.size b2.size;have p2:=k2.same<|b3.block _ k2.lt;let⟨y0,y1,y2,y3,y4⟩:=p2.cells;have n1:W3.cell? ⟨(re V τ0 mC).heap.size,0,none⟩=some (.string name):=by
  exact acf
 have H1:=qJ ao m cp f name W3 h6 (hB.bl bW).sm;have o2:V.heap.size<=W1:=b1.size;have o3:W1.heap.size<W2:=k2.lt;simp only[ak];go_wp2_with(go_at_call 247;refine H1.mono ?_;clear H1;rintro e Z ⟨⟨k,rfl,hk⟩,b4⟩)
 refine hK.out _ _ ?_;have p2:=p2.same<|b4.block _ p2.lt;have J:=k3.same<|b4.block _ k3.lt;have O:Bl V V Z:=bW.trans (Bl.of b4) bW.size;clear hK hR K R e1 e2 e3 k1 k2 k3 b1 b2 b3 b4 y0 y1 y2 y3 y4 n1 bW;have kY:∀cd W,gD f m t now k=.inl cd->R_ now shift f m t name V.heap.size (.agg #[(0:Int),(0:Int),(),()]) (.iface 143<|.agg #[.int .i64 cd]) W:=λcd W h=>⟨k,hk,cO⟩
 have xK:∀p T BN c2 BT c3 W,gD f m t now k=.inr (p,T)->V.heap.size<=BN->V.heap.size<=BT->Dw W BN (aw f t p m).length (jO<|aw f t p m)->aC W BT (aw f t p m).length T->R_ now shift f m t name V.heap.size (.agg #[now,shift,.slice (some ⟨BN,0,none⟩) (aw f t p m).length c2,.slice (some ⟨BT,0,none⟩) (aw f t p m).length c3]) .nilIface W:=λp T BN c2 BT c3 W h h1 h2 h3 h4=>⟨k,hk,gC⟩
 replace kY:Hid _:=kY;replace xK:Hid _:=xK;have z4:=O.size;have l3:=J.lt;have back:∀{U:av},U.heap.size=Z.heap.size->(∀k,k≠W2.heap.size->U.heap[k]?=Z.heap[k]?)->Bl V V U:=λh1 h2=>⟨ab,λk hk=>(h2 k ab).trans<|O.block k hk⟩
 replace back:Hid _:=@back;rcases hk with⟨rfl,hn⟩|⟨j,rfl,hj,FL,D0⟩
 .refine ae.ck E Y [_] _ λK R τ d hK hR=>?_
  let⟨x0,x1,x2,x3,x4⟩:=J.rc τ d;obtain⟨U,e8,k8,-,D,o8⟩:=aJ (J.r τ d) (afB 0 _) (afP _) 0 0 none 0 0 none 0 0;replace D:Hid _:=D;simp only[ak];go_wp2;exact hR.out _ _ λad=>ae.lv E eN Tz.func253 (λτ d=>cH rfl rfl rfl<|k8.r τ d)<|aE.out _ _ _ (back.out D.out o8)<|kY.out 3 U<|by simp[gD]
 .obtain⟨b,rfl,hb,aB⟩:=hB.sm.pos ab;obtain⟨b',rfl,dl,aV⟩:=hB.si.pos ab;have bA:(j:Int)<m:=ab;have bB:¬(j:Int)<0:=ab;have c1:=(dJ aB (O.block b hb) j hj).c1;rw[Nat.zero_add]at c1;cases hl:(f j).ax with
  |false=>
   rw[hl]at c1;refine ae.ck E Y [_] _ λK R τ d hK hR=>?_
   have Sb:(re Z τ d).cell? _=_:=c1;let⟨y0,y1,y2,y3,y4⟩:=p2.rc τ d;let⟨x0,x1,x2,x3,x4⟩:=J.rc τ d;obtain⟨U,e8,k8,-,D,o8⟩:=aJ (J.r τ d) (afB 0 _) (afP _) 0 0 none 0 0 none 0 0;replace D:Hid _:=D;simp only[ak];go_wp2;exact hR.out _ _ λad=>ae.lv E eN Tz.func253 (λτ d=>cH rfl rfl rfl<|k8.r τ d) (aE.out _ _ _ (back.out D.out o8)<|kY.out 3 U<|by simp[gD,hl])
  |true=>
   rw[hl]at c1;refine ae.ck E Y [_,_] _ λK R τ d hK hR=>?_
   have Sb:(re Z τ d).cell? _=_:=c1;have aF:aR (re Z τ d) _ _ _ _ _:=p2;let⟨y0,y1,y2,y3,y4⟩:=aF.cells;have tj:(re Z τ d).cell? ⟨b',j,none⟩=some (.int .i64<|t j):=by
    have:=lZ aV (O.block b' dl) j hj;rw[Nat.zero_add]at this;exact this
   simp only[ak];go_wp2;have a2:=aM<|re Z τ d;have u0:=λx:an (re Z τ d)=>x.cell y0
   have u3:=λx:an (re Z τ d)=>x.cell y3
   have u5:=λx:an (re Z τ d)=>x.cell tj
   refine nl ?_;intro w6 b6;clear a2 u0 u3 u5 tj y0 y1 y2 y3 y4 Sb;have J:=J.same<|b6.block _ l3;have p2:=p2.same<|b6.block _ p2.lt;have z6:Z.heap.size<=w6:=b6.size;have O:Bl V V w6:=⟨ab,λk hk=>(b6.block k (by show k<Z.heap.size;omega)).trans<|O.block k hk⟩;clear back c1;by_cases ht:t j=now
   .have hq:(t j !=now)=false:=cO;replace ht:Hid _:=ht;go_wp2;refine hK.out _ _ ?_;have r6:=dJ aB<|O.block b hb;have s6:=lZ aV<|O.block b' dl;have l6:b<w6:=afL hb O.size;have bq:b'<w6:=afL dl O.size;clear hK hR K R aF b6;refine ae.seq E Y<|ae.rg E Y<|ae.oc E Y 0 2 λK τ d hK=>?_;let⟨y0,y1,y2,y3,y4⟩:=p2.rc τ d;simp only[ap];go_wp2;refine hK.out _ _<|ae.un ?_;clear hK K y0 y1 y2 y3 y4;refine ae.aZ E (i:=2) rfl rfl tK (λw=>od)<|Ht (now:=now) (shift:=shift) (cap:=cp) (cap':=A) E tK zg ww E3 Y hm hf hj l6 r6 bq s6 ?_;rintro v V7 ⟨⟨x0,x1,x2,l2,c2,x3,bt,c3,rfl,hT⟩,b7⟩;replace hT:Hid _:=hT;rw[ar rfl];have bv:=J.lt;have J:=J.same<|b7.block _ bv;have z7:=b7.size;have z0:=O.size;have O:=O.trans b7 z0;obtain⟨br,oh⟩:∃br,(dG f m t j).isSome=br:=⟨_,rfl⟩;rw[oh];replace oh:Hid _:=oh;refine ae.oc E Y 3 6 λK bx d' hK=>?_
    simp only[ap,a8];go_wp2;refine hK.out _ _<|ae.regionEnd E Y ?_;clear hK K;obtain⟨W5,e5,k5,b5,-⟩:=boxed (re V7 bx d') x0 x1 x2 l2 c2 x3 bt c3;rw[e5];clear e5;have J:=J.same<|b5.block _ J.lt;have z5:V7.heap.size<=W5:=b5.size;cases br with
    |false=>
     refine ae.ck E Y [_] _ λK R τ d hK hR=>?_
     let⟨x0,x1,x2,x3,x4⟩:=J.rc τ d;obtain⟨U,e8,k8,-,D,o8⟩:=aJ (J.r τ d) (afB 0 _) (afP _) 0 0 none 0 0 none 0 0;replace D:Hid _:=D;simp only[ak];go_wp2;have D:U.heap.size=W5.heap.size:=D.out;have bE:dG f m t j=none:=by have:=oh.out;simp_all
     exact hR.out _ _ λad=>ae.lv E eN Tz.func253 (λτ d=>cH rfl rfl rfl<|k8.r τ d) (aE.out _ _ _ ⟨ab,λk hk=>(o8 k ab).trans<|(b5.block k (by show k<V7.heap.size;omega)).trans<|O.block k hk⟩<|kY.out 5 U<|by grind [gD])
    |true=>
     let⟨T,bz⟩:=Option.isSome_iff_exists.1 oh.out;obtain⟨BN,BT,h1,h2,e1,e2,rfl,rfl,rfl,rfl,hM,hO⟩:=hT.out T bz;rw[ht.out]at e1;obtain rfl:=e1.symm;obtain rfl:=e2.symm;refine ae.ck E Y [_,_] _ λK R τ d hK hR=>?_
     let⟨y0,y1,y2,y3,y4⟩:=k5.rc τ d;let⟨x0,x1,x2,x3,x4⟩:=J.rc τ d;obtain⟨U,e8,k8,-,D,o8⟩:=aJ (J.r τ d) (afB 0 _) (afP _) now shift (some ⟨BN,0,none⟩) (aw f t j m).length c2 (some ⟨BT,0,none⟩) (aw f t j m).length c3;replace D:Hid _:=D;simp only[ak];go_wp2;have D:U.heap.size=W5.heap.size:=D.out;have lM:=hM.lt;have lO:=hO.lt;exact hK.out _ _<|ae.ret E Y<|ae.lv E eN Tz.func253 (λτ d=>cH rfl rfl rfl<|k8.r τ d)<|aE.out _ _ _ ⟨ab,λk hk=>(o8 k ab).trans<|(b5.block k (by show k<V7.heap.size;omega)).trans<|O.block k hk⟩<|xK.out j T BN c2 BT c3 U (by grind [gD]) ab ab (hM.same<|(o8 _ ab).trans<|b5.block _ lM)<|fT hO<|(o8 _ ab).trans<|b5.block _ lO
   .have hq:(t j !=now)=true:=cO;let⟨x0,x1,x2,x3,x4⟩:=J.cells;obtain⟨U,e8,k8,-,D,o8⟩:=aJ J (afB 0 _) (afP _) 0 0 none 0 0 none 0 0;replace D:Hid _:=D;go_wp2;have D:U.heap.size=w6.heap.size:=D.out;exact hR.out _ _ λad=>ae.lv E eN Tz.func253 (λτ d=>cH rfl rfl rfl<|k8.r τ d)<|aE.out _ _ _ ⟨ab,λk hk=>(o8 k ab).trans<|O.block k hk⟩<|kY.out 6 U<|by simp[gD,hl,ht]
end
