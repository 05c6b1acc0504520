import Derived.Test.YtlmcblcijndipaaGreatDoora28
import Derived.Test.YtlmcblcijndipaaGreatDoora26
import Derived.Test.YtlmcblcijndipaaGreatDoora33
set_option linter.unusedVariables false
set_option linter.defProp false
set_option linter.unusedSectionVars false
set_option maxHeartbeats 4000000
set_option maxRecDepth 100000
namespace Go.Proofs.YtlmcblcijndipaaGreatDoor
open Conc RowKit
variable {a:Act}{ops:Array Oper}{ok:Ctx}{c r0:Frame}{iV shift:Int}{cs:List Frame}{k:List Item}{r seq:List Nat}{p:List Nat->Bool}{m:Mv}{b cap i lo n off:Nat}{f g h:Nat->Mv}{o:Nat->Nat}{v:Value}{Q:Value->World->Prop}{V V' w w':World}{x:aJ}
def wJ (g h:Nat->Int)(n:Nat):∀f k,k+f=n->decide (jo g h n n f k<0)=gO (jc g f k) (jc h f k)
 |0,k,_=>by simp[jo,jc,gO]
 |f+1,k,e=>by
  rw[jo,if_neg aa,jc,jc,gO];unfold kg;by_cases h1:g k=h k
  .rw[h1];simp only[Int.lt_irrefl,if_false,if_true];exact wJ g h n f (k+1) aa
  .rw[if_neg h1];by_cases h2:g k<h k
   .rw[if_pos h2];simp[h2]
   .have h3:h k<g k:=by omega
    rw[if_neg h2,if_pos h3];simp[h2]
def aJ.key (x:aJ):Option (List Int):=if x.ok=true then some (x.sum::x.most::jc x.g x.n 0)else none
def jF (n:Nat)(x:aJ):Prop:=if x.ok=true then x.n=n else x.sum=0/\x.most=0/\x.n=0
def jF.len (h:jF n x):∀l,x.key=some l->l.length=n+2:=by
 intro l hl;unfold aJ.key at hl;unfold jF at h;split at hl
 .rename_i e;rw[if_pos e]at h;obtain rfl:=adb hl;simp[pZ,h]
 .cases hl
def Qa (n:Nat):jF n d7:=by simp[jF,d7]
def QP (a b c:Int):decide (I5 a b c<0)=if a=0 then(if b=0 then decide (c<0)else decide (b<0))else decide (a<0):=by
 unfold I5;split<;>(try split)<;>rfl
def JJ {a b:Int}:kg a b=0<->a=b:=by unfold kg;split<;>(try split)<;>omega
def L3 {a b:Int}:kg a b<0<->a<b:=by unfold kg;split<;>(try split)<;>omega
def AD {y:aJ}(hx:jF n x)(hy:jF n y):qP x y=dD x.key y.key:=by
 unfold qP nL aJ.key;unfold jF at hx hy;cases h1:x.ok<;>cases h2:y.ok<;>simp only[h1,h2,if_true,if_false,Bool.false_eq_true,Bool.true_eq_false,dD]at hx hy⊢
 .rw[hx.1,hx.2.1,hx.2.2,hy.1,hy.2.1,hy.2.2];simp[I5,kg,jo]
 .simp
 .simp
 .rw[hx,hy,QP,wJ _ _ _ n 0 aa,gO,gO];simp only[JJ,L3]
def fo.DM (h:fo f n o x):jF n x:=by
 unfold fo at h;unfold jF;split at h
 .rw[if_pos h.1];exact h.2.2.2.1
 .rw[if_neg (by rw[h.1];simp)];exact⟨h.2.1,h.2.2.1,h.2.2.2.1⟩
def fo.key (h:fo f n o x):x.key=(er f o n).map (f7 f n):=by
 unfold fo at h;unfold aJ.key;split at h
 .rename_i T e;rw[if_pos h.1,h.2.1,h.2.2.1,h.2.2.2.1,yq n 0 (λi _ hi=>h.2.2.2.2.2.1 i aa),e];rfl
 .rename_i e;rw[if_neg (by rw[h.1];simp),e];rfl
structure Ig (J:Jb)(n:Nat)(seq:List Nat)(x:aJ):Prop where
 is:x=d7\/∃i∈seq,J.Is i x
 all:∀i∈seq,∃y,J.Is i y/\dD y.key x.key=false
section
variable {J:Jb}{o:Nat->Nat->Nat}(aB:J.lt=qP)(Ld:J.Is=λi x=>fo f n (o i) x)
include aB Ld
theorem Ig.DM (h:Ig J n seq x):jF n x:=by
 rcases h.is with rfl|⟨i,_,hi⟩
 .exact Qa n
 .rw[Ld]at hi;exact fo.DM hi
theorem zt (h:wc J seq x):Ig J n seq x:=by
 induction h with
 |nil=>exact⟨.inl rfl,λi hi=>by simp at hi⟩
 |@snoc seq i x y hb hi ih=>
  have gx:=ih.DM aB Ld;have gy:jF n y:=by rw[Ld]at hi;exact fo.DM hi
  have hk:J.lt y x=dD y.key x.key:=by rw[aB];exact AD gy gx
  unfold Jb.pick;rw[hk];by_cases hp:dD y.key x.key=true
  .rw[if_pos hp];refine⟨.inr ⟨i,aF,hi⟩,λk hk=>?_⟩;rcases adx.1 hk with hk|hk
   .let⟨z,hz,Lp⟩:=ih.all k hk;have gz:jF n z:=by rw[Ld]at hz;exact fo.DM hz
    exact⟨z,hz,Ks gx.len gy.len Lp hp gz.len⟩
   .simp at hk;subst hk;exact⟨y,hi,fh _⟩
  .rw[if_neg hp];refine⟨?_,λk hk=>?_⟩
   .rcases ih.is with e|⟨k,hk,e⟩
    .exact .inl e
    .exact .inr ⟨k,by simp[hk],e⟩
   .rcases adx.1 hk with hk|hk
    .exact ih.all k hk
    .simp at hk;subst hk;exact⟨y,hi,by simpa using hp⟩
theorem rK:∀(xs:List aJ) (x:aJ),jF n x->(∀y∈xs,jF n y)->jF n (xs.foldl J.pick x)/\(xs.foldl J.pick x=x\/xs.foldl J.pick x∈xs)/\dD x.key (xs.foldl J.pick x).key=false/\∀y∈xs,dD y.key (xs.foldl J.pick x).key=false
 |[],x,gx,_=>⟨gx,.inl rfl,fh _,λy hy=>by simp at hy⟩
 |y::xs,x,gx,h=>by
  have gy:=h y aF;have hk:J.lt y x=dD y.key x.key:=by rw[aB];exact AD gy gx
  rw[List.foldl_cons];by_cases hp:dD y.key x.key=true
  .have e:J.pick x y=y:=by unfold Jb.pick;rw[hk,if_pos hp]
   rw[e];let⟨a,b,c,d⟩:=rK xs y gy λz hz=>h z<|by simp[hz]
   refine⟨a,b.elim (λe=>.inr<|by simp[e]) λe=>.inr<|by simp[e],?_,λz hz=>?_⟩
   .cases hx:dD x.key (xs.foldl J.pick y).key with
    |false=>rfl
    |true=>rw[pT hp hx]at c;cases c
   .rcases List.mem_cons.1 hz with rfl|hz
    .exact c
    .exact d z hz
  .have e:J.pick x y=x:=by unfold Jb.pick;rw[hk,if_neg hp]
   rw[e];let⟨a,b,c,d⟩:=rK xs x gx λz hz=>h z<|by simp[hz]
   refine⟨a,b.elim .inl λe=>.inr<|by simp[e],c,λz hz=>?_⟩;rcases List.mem_cons.1 hz with rfl|hz
   .exact oe gy.len gx.len a.len (by simpa using hp) c
   .exact d z hz
end
def JC {nn:Nat}{o:Nat->Nat->Nat}(h:r_ qP (λi x=>fo f n (o i) x) nn x):
  (x=d7\/∃k,k<nn/\fo f n (o k) x)/\∀k,k<nn->dD ((er f (o k) n).map<|f7 f n) x.key=false:=by
 obtain⟨J,xs,seq,aB,Ld,h4,hB,cE,xf,rfl⟩:=h;have hL:∀i y,xs[i]?=some y->Ig J n (seq i) y:=λi y hy=>zt aB Ld<|hB i y hy
 have hg:∀y∈xs,jF n y:=λy hy=>by
  let⟨i,hi⟩:=List.getElem?_of_mem hy;exact(hL i y hi).DM aB Ld
 match xs,h4,hL,hg with
 |x::r,h4,hL,hg=>
  let⟨a,b,c,d⟩:=rK aB Ld r x (hg x aF) λy hy=>hg y<|by simp[hy]
  have hle:∀y∈x::r,dD y.key (r.foldl J.pick x).key=false:=λy hy=>by
   rcases List.mem_cons.1 hy with rfl|hy
   .exact c
   .exact d y hy
  have pG:r.foldl J.pick x∈x::r:=b.elim (λe=>by rw[e];simp) (λe=>by simp[e]);refine⟨?_,λk hk=>?_⟩
  .let⟨i,hi⟩:=List.getElem?_of_mem pG;have hi4:i<4:=by have:=(adf.1 hi).1;omega
   rcases(hL i _ hi).is with e|⟨k,hk,e⟩
   .exact .inl e
   .rw[Ld]at e;exact .inr ⟨k,xf i hi4 k hk,e⟩
  .let⟨i,hi,hm⟩:=cE k hk;obtain⟨y,hy⟩:∃y,(x::r)[i]?=some y:=⟨_,adr aa⟩;have hyL:=hL i y hy;let⟨z,hz,Lp⟩:=hyL.all k hm;rw[Ld]at hz;rw[<-fo.key hz];exact oe (fo.DM hz).len (hyL.DM aB Ld).len a.len Lp<|hle y<|List.mem_of_getElem? hy
def LH {L:List (List Nat)}(h:r_ qP (λi x=>fo f n (pl<|L.getD i []) x) L.length x):
  match eY f n L with
  |some T=>x.ok=true/\x.n=n/\x.cap=n/\x.a≠none/\∀i,i<n->x.g i=T i
  |none=>x.ok=false/\x.n=0/\x.cap=0/\x.a=none:=by
 let⟨h1,h2⟩:=JC (o:=λi=>pl<|L.getD i []) h;let⟨k1,_,k3⟩:=sF f n L none;change (eY f n L=none\/∃l∈L,eY f n L=er f (pl l) n)at k1;change ∀l∈L,dD _ ((eY f n L).map<|f7 f n)=false at k3;have hG:∀k,k<L.length->L.getD k []∈L:=λk hk=>by simp[hk]
 have hI:∀l∈L,∃k,k<L.length/\L.getD k []=l:=λl hl=>by
  let⟨k,hk⟩:=List.getElem?_of_mem hl;exact⟨k,(adf.1 hk).1,by simp[List.getD,hk]⟩
 have pg:x.ok=false->x.n=0/\x.cap=0/\x.a=none/\x.key=none:=λe=>by
  refine and_assoc.1 (and_assoc.1 ⟨?_,by simp[aJ.key,e]⟩)|>λh=>h
  rcases h1 with rfl|⟨k,hk,h1⟩
  .exact⟨⟨rfl,rfl⟩,rfl⟩
  .unfold fo at h1;split at h1
   .rw[h1.1]at e;cases e
   .exact⟨⟨h1.2.2.2.1,h1.2.2.2.2.1⟩,h1.2.2.2.2.2⟩
 cases hb:eY f n L with
 |none=>
  cases hx:x.ok with
  |false=>let⟨a,b,c,d⟩:=pg hx;exact⟨rfl,a,b,c⟩
  |true=>
   exfalso;rcases h1 with rfl|⟨k,hk,h1⟩
   .simp[d7]at hx
   .have:=k3 _<|hG k hk;rw[hb]at this;unfold fo at h1;split at h1
    .rename_i T e;try dsimp only at e
     rw[e]at this;simp[dD]at this
    .rw[h1.1]at hx;cases hx
 |some T=>
  rw[hb]at k1 k3;let⟨l,hl,e⟩:=k1.resolve_left aF;let⟨k,hk,e2⟩:=hI l hl;have h3:=h2 k hk;try dsimp only at h3
  rw[e2,<-e]at h3;cases hx:x.ok with
  |false=>rw[(pg hx).2.2.2]at h3;simp[dD]at h3
  |true=>
   rcases h1 with rfl|⟨q,hq,h1⟩
   .simp[d7]at hx
   .have Qp:=fo.key h1;have h4:=k3 _<|hG q hq;rw[<-Qp]at h4;unfold fo at h1;split at h1
    .rename_i S e3;try dsimp only at e3
     try dsimp only at Qp
     rw[e3]at Qp;rw[Qp]at h3 h4;have:=xL (by rw[pM,pM]) h3 h4;unfold f7 at this;simp only[List.cons.injEq]at this;have hi:=EO n 0 this.2.2;exact⟨rfl,h1.2.2.2.1,h1.2.2.2.2.1,h1.2.2.2.2.2.2,λi oH=>(h1.2.2.2.2.2.1 i oH).trans (hi i aa aa).symm⟩
    .rw[h1.1]at hx;cases hx
def dL (h:aI w b off n f)(e:w'.heap[b]?=w.heap[b]?):aI w' b off n f:=λi hi=>by
 let⟨c0,c1,c2,c3,c4,c5⟩:=h i hi;have k:∀{j:Nat} {v:Value},w.cell? ⟨b,j,none⟩=some v->w'.cell? ⟨b,j,none⟩=some v:=λ{j v} hv=>by simp only[World.cell?,e]at hv⊢;exact hv
 exact⟨k c0,k c1,k c2,k c3,k c4,k c5⟩
def fD {g:Nat->Int}(h:aC w b n g)(e:w'.heap[b]?=w.heap[b]?):aC w' b n g:=by
 let⟨⟨cs,h1,h2⟩,h3⟩:=h;exact⟨⟨cs,e.trans h1,h2⟩,λi hi=>by have:=h3 i hi;simp only[World.cell?,e]at this⊢;exact this⟩
def xW (h:cg w b)(e:w'.heap[b]?=w.heap[b]?):cg w' b:=by
 let⟨cs,t,h1,h2⟩:=h;exact⟨cs,t,e.trans h1,h2⟩
def kh {a:Array Value}(h:a[i]?=some v):a.getD i undef=v:=by simp[Array.getD_eq_getD_getElem?,h]
def f8 (r:Option (Nat->Int))(n:Nat)(V:World)(v:Value)(V':World):Prop:=
 (match r with
 |some T=>∃B c,(V.heap.size<=B/\n<=c)/\v=.tuple #[.slice (some ⟨B,0,none⟩) n c,.bool true]/\aC V' B n T
 |none=>∃a c,v=.tuple #[.slice a 0 c,.bool false])/\Bl V.heap.size V V'
def ND {cap:Nat}(hn:n<=1048576)(bH:b<w)(aq:aI w b off n f)(hp:Ih f n shift p)(h0:0<=shift):0<((aQ n).filter p).length:=by
 let⟨e,w',⟨g,_,_,hg,_⟩,_⟩:=uy<|qT b off n cap f w hn bH aq;let⟨l,hl,Fv⟩:=wo (n:=n) (g:=g) hg.low hg.inj;have hs:ew (λi=>((pl l i:Nat):Int)) (λi=>((g i:Nat):Int)) n 0:=by
  refine⟨Int.le_refl _,aa,λi k hi hk he=>?_,.inl rfl⟩;rw[Fv i hi]at he;have:i=k:=by
   rcases Nat.lt_trichotomy i k with h|h|h
   .exact absurd aa (hg.inj i k h hk)
   .exact h
   .exact absurd aa (hg.inj k i h hi)
  omega
 have:=(hp g hg l hl 0 hs).2 h0;exact List.length_pos_of_mem<|List.mem_filter.2 ⟨hl,this⟩
def T4 {NB nc:Nat}{cm:List Value}(hm:aE f n=true)(aq:aI w b off n f)(pH:cg w b)(gF:0<((aQ n).filter p).length)
  (own:w.ownsRow lo 183 1 (.slice NB ((aQ n).filter p).length nc) ((aQ n).filter p).length cm)(rows:iy w n lo cm ((aQ n).filter p)):
  ∃tb toff tc,Xh w b off n NB 0 ((aQ n).filter p).length f tb toff tc (λi=>pl<|((aQ n).filter p).getD i []):=by
 have h6:=bZ hm;have hx:∀i,∃q:Nat×Nat,i<((aQ n).filter p).length->cm[i]?=some (Value.slice (some ⟨q.1,0,none⟩) n q.2)/\n<=q.2/\iA w q.1/\aA w q.1 0 n (λj=>((pl (((aQ n).filter p).getD i []) j:Nat):Int)):=λi=>by
  by_cases hi:i<((aQ n).filter p).length
  .let⟨tb,tc,h1,h2,h3,h4,h5⟩:=rows i (((aQ n).filter p).getD i []) (by simp[hi]);exact⟨(tb,tc),λ_=>⟨h1,h2,h4,h5⟩⟩
  .exact⟨(0,0),λh=>absurd h hi⟩
 have pG:∀i,i<((aQ n).filter p).length->((aQ n).filter p).getD i []∈aQ n:=λi hi=>by
  have:((aQ n).filter p).getD i []∈(aQ n).filter p:=by simp only[List.getD_eq_getElem?_getD,List.getElem?_eq_getElem hi,Option.getD_some];exact List.getElem_mem hi
  exact(List.mem_filter.1 this).1
 refine⟨λi=>(hx i).choose.1,λ_=>0,λi=>(hx i).choose.2,⟨hm,aq,pH,λi hi=>?_,λi hi=>?_,λi hi=>((hx i).choose_spec hi).2.1,λi hi=>((hx i).choose_spec hi).2.2.2,λi hi=>(gI<|pG i hi).2.1,λi hi=>(gI<|pG i hi).2.2,?_,gF⟩⟩
 .rw[Nat.zero_add,own.cellAt i aa];exact((hx i).choose_spec hi).1
 .let⟨cs,g1,g2⟩:=((hx i).choose_spec hi).2.2.1;exact⟨cs,_,g1,λv hv=>.inr<|.inl (by obtain⟨x,rfl⟩:=g2 v hv;exact⟨_,_,rfl⟩)⟩
 .have h1:=(jI n h6).1;have h2:=List.length_filter_le p<|aQ n;omega
section
variable [Gl]{Dr:FuncId->Array Value->World->(Value->World->Prop)->Prop}{P0:Program}
def ak.ret {b:Frame}(E:ee P0 ok c Dr)(hb:ok.bh b.fn=true)(h:ak P0 ok c Dr Q ⟨{b.at a (.code .ret::k)with mode:=.returning},cs,V⟩):ak P0 ok c Dr Q ⟨b.at a<|.code .ret::k,cs,V⟩:=
 ak.of_steps E.pair E.shut E.floor (λs1=>∃τ d,s1=St.re ⟨{b.at a (.code .ret::k)with mode:=.returning},cs,V⟩ τ d) (by rintro _ ⟨τ,d,rfl⟩;exact hb) (λτ d=>⟨_,⟨τ,d,rfl⟩,.one step_ret⟩) (by rintro _ ⟨τ,d,rfl⟩;exact λτ' d'=>h τ' d')
def ak.last {b:Frame}(E:ee P0 ok c Dr)(hb:ok.bh b.fn=true)(ss:List Code)(R:Act->World->Prop)
  (h:∀τ d,aD P0 (λe a w=>(e=.normal/\R a w)\/(e=.ret/\R a w)) ss a<|re V τ d)(hR:∀a' w' todo,R a' w'->ak P0 ok c Dr Q ⟨{b.at a' todo with mode:=.returning},cs,w'⟩):
  ak P0 ok c Dr Q ⟨b.at a<|.code (Proofs.YtlmcblcijndipaaGreatDoor.chain ss .ret)::k,cs,V⟩:=
 ak.chain E hb ss .ret R R h (λa' w' h'=>ak.ret E hb<|hR a' w' _ h') hR
def ak.kw {b:Frame}(E:ee P0 ok c Dr)(hb:ok.bh b.fn=true)(j m:Nat)(hm:j+m<=ops.size)(K:Act->World->Prop)
  (h:∀τ d,wpList P0 ops (λe a w=>e=.normal/\K a w) ((ops.toList.drop j).take m) a<|re V τ d)(hK:∀a' w',K a' w'->ak P0 ok c Dr Q ⟨b.at a'<|.inRegion ops (List.range' (j+m)<|ops.size-(j+m))::k,cs,w'⟩):
  ak P0 ok c Dr Q ⟨b.at a<|.inRegion ops (List.range' j<|ops.size-j)::k,cs,V⟩:=by
 have hl:((ops.toList.drop j).take m).length=m:=cU;have e:List.range' j (ops.size-j)=List.range' j ((ops.toList.drop j).take m).length++List.range' (j+m) (ops.size-(j+m)):=by
  rw[hl,List.range'_append_1];congr 1;omega
 rw[e];refine ak.ops E hb j _ _ K (λi hi=>?_) h hK;rw[hl]at hi;rw[List.getElem?_take,if_pos hi,List.getElem?_drop];simp
def lp:List.range ops.size=List.range' 0 (ops.size-0):=by rw[List.range_eq_range'];rfl
def RH (E:ee Tz.prog ok c cX)(sx:ok.bh 111=true)(Fu:ok.bh 139=false)(ig:ok.bh r0.fn=true)
  (hn:n<=1048576)(bH:b<V.heap.size)(aq:aI V b off n f)(pH:cg V b)(hp:Ih f n shift p)
  (aT:∀v V',f8 (lP f n shift p) n V v V'->ak Tz.prog ok c cX Q ⟨r0.finish v,cs,V'⟩):
  ak Tz.prog ok c cX Q ⟨Frame.enter Tz.prog 111 #[.slice (some ⟨b,off,none⟩) n cap,.int .i64 shift] .normal,r0::cs,V⟩:=by
 have hE:=enter_at (P:=Tz.prog) #[.slice (some ⟨b,off,none⟩) n cap,.int .i64 shift] Tz.func111 rfl;simp only[Tryz.ntmps111,List.size_toArray,List.length_cons,List.length_nil,Nat.reduceAdd,Nat.reduceSub,Array.replicate_succ,Array.replicate_zero,List.push_toArray,List.append_toArray,List.nil_append,List.cons_append]at hE;rw[hE];by_cases hg:aE f n=true/\0<=shift/\shift<=6
 .let⟨hm,SE,DX⟩:=hg;have acu:¬shift<0:=aa;have acv:¬6<shift:=aa;refine ak.chain E sx [_,_] _ (λa w=>Bl V.heap.size V w/\∃u2 u3 u4 u5 u6 u7 u8 u9 Pf S2 Pg Pi Pj Pk u16 Pm VR Pn Po j_ S3 S4 S5 S6 S7,a=⟨#[.slice (some ⟨b,off,none⟩) n cap,.int .i64 shift,u2,u3,u4,u5,u6,u7,u8,u9,Pf,S2,Pg,Pi,Pj,Pk,u16,Pm,VR,Pn,Po,j_,S3,S4,S5,S6,S7],[]⟩) (λ_ _=>False) ?_ ?_ (λ_ _ _ h=>h.elim)
  .intro τ d;have H1:=fS b off n cap f (re V τ d) hn bH<|dL aq rfl;rw[hm]at H1;simp only[aD];clear hE;go_wp2_with(go_at_call 75;refine H1.mono ?_;clear H1;rintro e w1 ⟨rfl,b1⟩)
   left;refine⟨PK,Bl.lZ b1,?_⟩;repeat apply Exists.intro
   rfl
  .rintro a w1 ⟨bP,u2,u3,u4,u5,u6,u7,u8,u9,Pf,S2,Pg,Pi,Pj,Pk,u16,Pm,VR,Pn,Po,j_,S3,S4,S5,S6,S7,rfl⟩;refine ak.seq E sx<|ak.region E sx ?_;rw[lp];have M9:=dL aq<|bP.block b bH;have eO:=bP.size;have gF:=ND (cap:=cap) hn bH aq hp SE;refine ak.kw E sx 0 4 aF (λa w=>Bl w1.heap.size w1 w/\(∃NB nc cm,w.ownsRow w1.heap.size 183 1 (.slice (some ⟨NB,0,none⟩) ((aQ n).filter p).length nc) ((aQ n).filter p).length cm/\iy w n w1.heap.size cm ((aQ n).filter p)/\∃u2 u3 u4 u5 u6 u7 u8 u9 Pf S2 Pg Pi Pj Pk u16 Pm Pn Po S3 S4 S5 S6 S7,a=⟨#[.slice (some ⟨b,off,none⟩) n cap,.int .i64 shift,u2,u3,u4,u5,u6,u7,u8,u9,Pf,S2,Pg,Pi,Pj,Pk,u16,Pm,.slice (some ⟨b,off,none⟩) n cap,Pn,Po,.slice (some ⟨NB,0,none⟩) ((aQ n).filter p).length nc,S3,S4,S5,S6,S7],[]⟩)) ?_ ?_
   .intro τ d;have H2:=NE b off n cap f shift (re w1 τ d) hm (by show b<w1.heap.size;omega) (dL M9 rfl) p hp;clear hE;simp only[aN];go_wp2_with(go_at_call 140;refine H2.mono ?_;clear H2;rintro e w2 ⟨⟨v,cm,rfl,o2,r2⟩,b2⟩)
    obtain⟨M,hM⟩:∃M,((aQ n).filter p).length=M+1:=⟨((aQ n).filter p).length-1,aa⟩;obtain⟨NB,nc,rfl⟩:∃NB nc,v=.slice (some ⟨NB,0,none⟩) ((aQ n).filter p).length nc:=by rw[hM]at o2⊢;exact pW o2
    exact⟨Bl.lZ b2,NB,nc,cm,o2,r2,rfl⟩
   .rintro a w2 ⟨cP,NB,nc,cm,o2,r2,u2,u3,u4,u5,u6,u7,u8,u9,Pf,S2,Pg,Pi,Pj,Pk,u16,Pm,Pn,Po,S3,S4,S5,S6,S7,rfl⟩;have Un:Bl V.heap.size V w2:=bP.trans cP eO;have gM:=cP.size;let⟨tb,toff,tc,aaP⟩:=T4 hm (dL aq<|Un.block b bH) (xW pH<|Un.block b bH) gF o2 r2;refine ak.L8 E (i:=4) rfl rfl Fu (λw=>?_) (λτ d=>.inl ⟨rfl,b,off,n,cap,NB,0,_,nc,f,tb,toff,tc,_,rfl,aaP.re τ d,rfl⟩) ?_
    .simp[execOp,resolve,invoke,Act.eval,go_sem]
    .rintro τ d v V3 ⟨x,aL,hA,haL,rfl,fu⟩;have MI:=LH hA;have JX:Bl w2.heap.size w2 V3:=by
      rcases fu with⟨_,_,rfl⟩|⟨cs,_,rfl,_⟩
      .exact⟨ac5 _,λ_ _=>rfl⟩
      .exact⟨by simp[re],λk hk=>acX _ _ _ hk⟩
     have aaw:Bl V.heap.size V V3:=Un.trans JX aa;have Nj:=JX.size;have fO:∀w',Bl V3.heap.size V3 w'->f8 (lP f n shift p) n V (.tuple #[.slice aL x.n x.cap,.bool x.ok]) w':=λw' hw'=>by
      refine⟨?_,aaw.trans hw' aa⟩;unfold lP;rw[if_pos ⟨hm,SE,DX⟩];cases hO:eY f n ((aQ n).filter p)with
      |none=>
       rw[hO]at MI;let⟨h1,h2,h3,h4⟩:=MI;exact⟨aL,x.cap,by rw[h1,h2]⟩
      |some T=>
       rw[hO]at MI;let⟨h1,h2,h3,h4,h5⟩:=MI;rcases fu with⟨h,_⟩|⟨cs,ha,rfl,hi,Ze,_,jQ⟩
       .exact absurd (haL.2 h) h4
       .replace ha:aL=some ⟨w2.heap.size,0,none⟩:=ha;replace jQ:cs.size=x.n:=jQ;have oU:((re w2 τ d).alloc<|.cells cs 3).heap[w2.heap.size]?=some (.cells cs 3 (0,0)):=heap_alloc_new (re w2 τ d) _;have DV:aA ((re w2 τ d).alloc<|.cells cs 3) w2.heap.size 0 n T:=by
         rcases Ze with h|⟨b5,o5,h,hr⟩
         .replace h:x.n=0:=h;intro i oH;omega
         .replace h:aL=some ⟨b5,o5,none⟩:=h;rw[ha]at h;simp only[Option.some.injEq,Addr.mk.injEq]at h;obtain⟨rfl,rfl,_⟩:=h;intro i oH;have:=hr i (by show i<x.n;omega);rw[this];exact congrArg (λz=>some<|Value.int .i64 z)<|h5 i oH
        refine⟨w2.heap.size,x.cap,⟨aa,aa⟩,by rw[h1,h2,ha],?_⟩;have aB:w2.heap.size<((re w2 τ d).alloc<|.cells cs 3).heap.size:=by simp[re]
        exact fD ⟨⟨cs,oU,aa⟩,DV⟩<|hw'.block _ aB
     clear hA MI fu;refine ak.kw E sx 5 2 aF (λa w=>Bl V3.heap.size V3 w/\∃B6,w.cell? ⟨B6,0,none⟩=some (.bool x.ok)/\w.cell? ⟨B6,3,none⟩=some (.slice aL x.n x.cap)/\∃u0 u1 u2 u3 u4 u5 u7 u8 u9 Pf S2 Pg Pi Pj Pk u16 Pm VR Pn Po j_ S3 S4 S5 S6 S7,a=⟨#[u0,u1,u2,u3,u4,u5,.pointer<|some ⟨B6,0,none⟩,u7,u8,u9,Pf,S2,Pg,Pi,Pj,Pk,u16,Pm,VR,Pn,Po,j_,S3,S4,S5,S6,S7],[]⟩) ?_ ?_
     .intro τ' d';clear hE fO;simp only[aN,Act.put,aJ.val];go_wp2;exact⟨by simp[re],λk hk=>acX _ _ _ hk⟩
     .rintro a w4 ⟨Ft,B6,c0,c3,u0,u1,u2,u3,u4,u5,u7,u8,u9,Pf,S2,Pg,Pi,Pj,Pk,u16,Pm,VR,Pn,Po,j_,S3,S4,S5,S6,S7,rfl⟩;refine ak.regionEnd E sx ?_;refine ak.last E sx [_] (λa w=>Bl V3.heap.size V3 w/\a.defers=[]/\a.tmps[4]?=some (.slice aL x.n x.cap)/\a.tmps[5]?=some (.bool x.ok)) ?_ ?_
      .intro τ' d';have c0':(re w4 τ' d').cell? ⟨B6,0,none⟩=some (.bool x.ok):=c0;have c3':(re w4 τ' d').cell? ⟨B6,3,none⟩=some (.slice aL x.n x.cap):=c3;clear hE fO c0 c3;simp only[aD];go_quiet (fail)
       left;refine⟨PK,Ft.trans (M:=w4.heap.size) ⟨ac5 _,λ_ _=>rfl⟩ Ft.size,?_⟩;first|exact⟨rfl,rfl,rfl⟩|simp
      .rintro a w5 todo ⟨h1,h2,h3,h4⟩;refine ak.leave E ig (v:=.tuple #[.slice aL x.n x.cap,.bool x.ok]) (λτ d=>⟨rfl,h2,rfl,_,Tz.func111,?_⟩)<|aT _ _<|fO _ h1;have:=results_tmp2 (fn:=Tryz.f111) rfl a.tmps Tz.prog<|re w5 τ d;rw[kh h3,kh h4]at this;exact this
 .refine ak.chain E sx [_,_] _ (λ_ _=>False) (λa w=>Bl V.heap.size V w/\a.defers=[]/\a.tmps[4]?=some (.slice none 0 0)/\a.tmps[5]?=some (.bool false)) ?_ (λ_ _ h=>h.elim) ?_
  .intro τ d;have H1:=fS b off n cap f (re V τ d) hn bH<|dL aq rfl;simp only[aD];cases hm:aE f n with
   |false=>
    rw[hm]at H1;clear hE;go_wp2_with(go_at_call 75;refine H1.mono ?_;clear H1;rintro e w1 ⟨rfl,b1⟩)
    right;refine⟨PK,Bl.lZ b1,?_⟩;first|exact⟨rfl,rfl,rfl⟩|simp
   |true=>
    rw[hm]at H1;by_cases h0:shift<0
    .clear hE;go_wp2_with(go_at_call 75;refine H1.mono ?_;clear H1;rintro e w1 ⟨rfl,b1⟩)
     right;refine⟨PK,Bl.lZ b1,?_⟩;first|exact⟨rfl,rfl,rfl⟩|simp
    .have h6:6<shift:=by have:¬(0<=shift/\shift<=6):=λh=>hg ⟨hm,h⟩;omega
     have h0':0<=shift:=aa;clear hE;go_wp2_with(go_at_call 75;refine H1.mono ?_;clear H1;rintro e w1 ⟨rfl,b1⟩)
     right;refine⟨PK,Bl.lZ b1,?_⟩;first|exact⟨rfl,rfl,rfl⟩|simp
  .rintro a w todo ⟨h1,h2,h3,h4⟩;refine ak.leave E ig (v:=.tuple #[.slice none 0 0,.bool false]) (λτ d=>⟨rfl,h2,rfl,_,Tz.func111,?_⟩)<|aT _ _ ⟨by unfold lP;rw[if_neg hg];exact⟨none,0,rfl⟩,h1⟩;have:=results_tmp2 (fn:=Tryz.f111) rfl a.tmps Tz.prog<|re w τ d;rw[kh h3,kh h4]at this;exact this
end
def WV:List (Nat×Value)->Value->Nat->Value
 |[],d,_=>d
 |(j,v)::l,d,i=>if i=j then v else WV l d i
def Xb (l:List (Nat×Value))(u:Nat->Value):Nat->Nat->List Value
 |_,0=>[]
 |i,k+1=>WV l (u i) i::Xb l u (i+1) k
def rW (n:Nat)(l:List (Nat×Value))(u:Nat->Value):Array Value:=(Xb l u 0 n).toArray
@[go_sem] def abQ (n:Nat) (l:List (Nat×Value)) (u:Nat->Value):rW n l u=(Xb l u 0 n).toArray:=rfl
@[go_sem] def abS (l:List (Nat×Value)) (u:Nat->Value) (i k:Nat):Xb l u i (k+1)=WV l (u i) i::Xb l u (i+1) k:=rfl
@[go_sem] def abT (l:List (Nat×Value)) (u:Nat->Value) (i:Nat):Xb l u i 0=[]:=rfl
@[go_sem] def abO (j:Nat) (v:Value) (l:List (Nat×Value)) (d:Value) (i:Nat):WV ((j,v)::l) d i=if i=j then v else WV l d i:=rfl
@[go_sem] def abP (d:Value) (i:Nat):WV [] d i=d:=rfl
def gZ (a:Act)(s:(Nat->Value)->Array Value):Prop:=a.defers=[]/\a.tmps=s (λi=>a.tmps.getD i undef)
def gZ.open {s:(Nat->Value)->Array Value}(h:gZ a s):∃u,a=⟨s u,[]⟩:=by
 let⟨h1,h2⟩:=h;refine⟨λi=>a.tmps.getD i undef,?_⟩;rw[<-h2,<-h1]
def cO {b:Frame}{o:Oper}(ho:ops[i]?=some o)(v:Value):(b.at a<|.inRegion ops (i::r)::k).finish v=b.at (a.put o.dst v) (.inRegion ops r::k):=by
 rw[Frame.finish_at,ho];rfl
section
variable [Gl]
def ak.Tw (E:ee Tz.prog ok c cX)(sx:ok.bh 111=true)(Fu:ok.bh 139=false){b:Frame}(hb:ok.bh b.fn=true){o:Oper}(ho:ops[i]?=some o)(hw:Region.wanted o (yielded ops a.tmps)=true)
  {B:Nat}(hx:∀w,(execOp a.eval o).run Tz.prog w=.ok (.enter 111 #[.slice (some ⟨B,off,none⟩) n cap,shift]) w)
  (hn:n<=1048576)(bH:B<V)(aq:aI V B off n f)(pH:cg V B)(hp:Ih f n shift p)
  (aT:∀v V',f8 (lP f n shift p) n V v V'->ak Tz.prog ok c cX Q ⟨b.at (a.put o.dst v)<|.inRegion ops r::k,cs,V'⟩):ak Tz.prog ok c cX Q ⟨b.at a<|.inRegion ops (i::r)::k,cs,V⟩:=
 ak.ey E ho hw sx hx (RH E sx Fu (r0:=b.at a<|.inRegion ops (i::r)::k) hb hn bH aq pH hp λv V' hv=>by rw[cO ho];exact aT v V' hv)
end
section
variable {r:Option (Nat->Int)}{m:Nat}
def Tk (r:Option (Nat->Int))(m lo:Nat)(w:World)(v:Value):Prop:=
 match r with
 |some T=>∃B c,lo<=B/\v=.slice (some ⟨B,0,none⟩) m c/\aC w B m T
 |none=>∃a c,v=.slice a 0 c
def Tk.same (h:Tk r m lo w v)(e:∀b,lo<=b->b<w.heap.size->w'.heap[b]?=w.heap[b]?):Tk r m lo w' v:=by
 cases r with
 |none=>exact h
 |some T=>let⟨B,c,h1,h2,h3⟩:=h;exact⟨B,c,h1,h2,fD h3<|e B h1 h3.lt⟩
def vP (h:f8 r m V v V'):∃v5,v=.tuple #[v5,r.isSome]/\Tk r m V.heap.size V' v5/\Bl V V V':=by
 cases r with
 |none=>obtain⟨⟨a,c,rfl⟩,hb⟩:=h;exact⟨_,rfl,⟨a,c,rfl⟩,hb⟩
 |some T=>obtain⟨⟨B,c,h1,rfl,h2⟩,hb⟩:=h;exact⟨_,rfl,⟨B,c,h1.1,rfl,h2⟩,hb⟩
def ED {b:Value}(h:f8 r m V (.tuple #[v,b]) V'){a:Option Addr}{l c:Nat}(e:v=.slice a l c):l<=c:=by
 subst e;cases r with
 |none=>let⟨⟨a',c',h⟩,_⟩:=h;simp at h;omega
 |some T=>let⟨⟨B,c',h1,h,_⟩,_⟩:=h;simp at h;omega
end
def Jh {k:Nat}(hr:aI w b 0 n h)(hk:k<n)(x:Int):aI (w.setCell ⟨b,k*6+3,none⟩<|.int .i64 x) b 0 n (λi=>if i=k then{h k with aW:=x}else h i):=λi hi=>by
 let⟨c0,c1,c2,c3,c4,c5⟩:=hr i hi;have o:∀j,j≠k*6+3->(w.setCell ⟨b,k*6+3,none⟩<|.int .i64 x).cell? ⟨b,j,none⟩=w.cell? ⟨b,j,none⟩:=λj hj=>World.cell?_setCell_other _ _ _ _ (by intro e;cases e;exact hj rfl)
 by_cases e:i=k
 .subst e;simp only[if_true];have c3':w.cell? ⟨b,i*6+3,none⟩=some (.int .i64 (h i).aW):=by rw[<-c3];congr 2;omega
  have s:(w.setCell ⟨b,i*6+3,none⟩<|.int .i64 x).cell? ⟨b,i*6+3,none⟩=some (.int .i64 x):=World.cell?_setCell_same' _ _ _ (by rw[c3'];rfl);exact⟨(o _ aa).trans c0,(o _ aa).trans c1,(o _ aa).trans c2,by rw[<-s];congr 2;omega,(o _ aa).trans c4,(o _ aa).trans c5⟩
 .simp only[if_neg e];exact⟨(o _ aa).trans c0,(o _ aa).trans c1,(o _ aa).trans c2,(o _ aa).trans c3,(o _ aa).trans c4,(o _ aa).trans c5⟩
def aI.nO {h':Nat->Mv}(hr:aI w b off n h)(e:∀i,i<n->h i=h' i):aI w b off n h':=λi hi=>by rw[<-e i hi];exact hr i hi
def EC (h:cg w b)(j:Nat):w.frozen? ⟨b,j,none⟩=false:=by let⟨cs,e,h1,_⟩:=h;exact frozen_of_row _ _ j _ _ h1
def f8.re {r:Option (Nat->Int)}(h:f8 r n V v V')(τ:Nat->Question->Nat)(d:Nat):f8 r n V v (re V' τ d):=by
 let⟨h1,h2⟩:=h;refine⟨?_,⟨h2.size,h2.block⟩⟩;cases r with
 |none=>exact h1
 |some T=>let⟨B,c,k1,k2,k3⟩:=h1;exact⟨B,c,k1,k2,fD k3 rfl⟩
def eb (g:Nat->Mv)(iV:Int)(k i:Nat):Mv:=if i<k then jA (g i) iV else g i
def tf {k:Nat}(h:¬(g k).prom=-1)(i:Nat):eb g iV k i=eb g iV (k+1) i:=by
 unfold eb;by_cases e:i=k
 .subst e;rw[if_neg aa,if_pos aa];unfold jA;rw[if_neg h]
 .by_cases h1:i<k
  .rw[if_pos h1,if_pos aa]
  .rw[if_neg h1,if_neg aa]
def yd {x:Int}{k:Nat}(h:(g k).prom=-1)(hx:max (g k).aW iV=x)(i:Nat):(if i=k then{eb g iV k k with aW:=x}else eb g iV k i)=eb g iV (k+1) i:=by
 unfold eb;by_cases e:i=k
 .subst e;rw[if_pos rfl,if_neg aa,if_pos aa];unfold jA;rw[if_pos h,hx]
 .rw[if_neg e];by_cases h1:i<k
  .rw[if_pos h1,if_pos aa]
  .rw[if_neg h1,if_neg aa]
def ll (h:m.prom=-1):eD m iV=decide (iV<=m.late):=by unfold eD;simp[h]
def xZ (h:¬m.prom=-1):eD m iV=true:=by unfold eD;simp[h]
section
variable [Gl]
def C5 (E:ee Tz.prog ok c cX)(yZ:ok.bh 80=true)(sx:ok.bh 111=true)(Fu:ok.bh 139=false)(ig:ok.bh r0.fn=true)
  {now:Int}(hn:n<=6)(hg:∀i,i<n->(g i).ok=true)(h0:0<=now)(h1:now<=20000)(bH:b<V)(aq:aI V b 0 n g)
  (aT:∀v V',f8 (fQ g n now shift) n V v V'->ak Tz.prog ok c cX Q ⟨r0.finish v,cs,V'⟩):
  ak Tz.prog ok c cX Q ⟨Frame.enter Tz.prog 80 #[.slice (some ⟨b,0,none⟩) n cap,.int .i64 now,.int .i64 shift] .normal,r0::cs,V⟩:=by
 have hE:=enter_at (P:=Tz.prog) #[.slice b n cap,now,shift] Tz.func80 rfl;simp only[Tryz.ntmps80,List.size_toArray,List.length_cons,List.length_nil,Nat.reduceAdd,Nat.reduceSub,Array.replicate_succ,Array.replicate_zero,List.push_toArray,List.append_toArray,List.nil_append,List.cons_append]at hE;rw[hE];clear hE;refine ak.chain E yZ [_,_,_] _ (λa' w'=>(∀i,i<n->eD (g i) (now+4)=true)/\Bl V.heap.size V w'/\∃B c8,V.heap.size<=B/\aI w' B 0 n (eB g<|now+4)/\cg w' B/\gZ a' (rW 46 [(2,.int .i64 shift),(8,.slice (some ⟨B,0,none⟩) n c8)])) (λa' w'=>(¬∀i,i<n->eD (g i) (now+4)=true)/\Bl V.heap.size V w'/\a'.defers=[]/\a'.tmps[6]?=some (.slice none 0 0)/\a'.tmps[7]?=some (.bool false)) ?_ ?_ ?_
 .intro τ d;have H1:=wH b n cap g (re V τ d) aa bH<|dL aq rfl;have xb:∀W,Below (re V τ d).heap.size (re V τ d) W->Bl V V W:=λW h=>Bl.lZ h
  have gj:(re V τ d).heap.size=V.heap.size:=rfl;clear aT aq;simp only[aD];go_wp2_with(go_at_call 110;refine H1.mono ?_;clear H1;rintro e w1 ⟨B,c8,rfl,ow,ZV,b1⟩;have yj:=dK ow;have mF:=(ow.lt B rfl).1;clear ow)
  have Ce:IntKind.i64.wrap (now+4)=now+4:=hZ;go_loopw [15,9,10] (λx _ _ W=>∃k:Nat,x=.int .i64 k/\k<=n/\Below (re V τ d).heap.size (re V τ d) W/\aI W B 0 n (eb g (now+4) k)/\cg W B/\∀i,i<k->eD (g i) (now+4)=true) (λx _ _ _=>n-(intOf x).toNat)
  case atStart=>exact⟨0,rfl,ada _,b1,yj.nO λi _=>by unfold eb;rw[if_neg aa],ZV,λi hi=>absurd hi<|ac9 _⟩
  case round=>
   clear yj ZV b1;obtain⟨k,rfl,hk,gK,Nb,oW,cE⟩:=hrel;by_cases aB:k<n
   .have dr:(k:Int)<n:=by omega
    have YE:eb g (now+4) k k=g k:=by unfold eb;rw[if_neg (Nat.lt_irrefl _)]
    have ez:=Mv.fX<|hg k aB;let⟨c0,c1,c2,c3,c4,c5⟩:=Nb k aB;rw[YE]at c0 c1 c2 c3 c4 c5;simp only[Nat.zero_add]at c0 c1 c2 c3 c4 c5;have hlB:=oW.lt;have bA:=jK wr<|g k;have hMi:=px wr<|g k;by_cases hp:(g k).prom=-1
    .obtain⟨x,hx⟩:∃x,max (g k).aW (now+4)=x:=⟨_,rfl⟩;have Yx:=EC oW<|k*6+3;go_wp2;all_goals try omega
     try rw[hx]
     have rS:=(Jh Nb aB x).nO λi _=>yd hp hx i;have pS:cg (wr.setCell ⟨B,k*6+3,none⟩ x) B:=oW.set<|.inr<|.inl ⟨_,_,rfl⟩;have bS:=gK.setCell (p:=⟨B,k*6+3,none⟩) (by show(re V τ d).heap.size<=B;omega) x;have eS:(wr.setCell ⟨B,k*6+3,none⟩ x).cell? ⟨B,k*6+3,none⟩=some (.int .i64 x):=World.cell?_setCell_same' _ _ _ (by rw[c3];rfl);have zS:(wr.setCell ⟨B,k*6+3,none⟩ x).heap.size=wr.heap.size:=aF;revert rS pS bS eS zS;generalize wr.setCell ⟨B,k*6+3,none⟩ (.int .i64 x)=W0;intro rS pS bS eS zS;have bB:Below W0 W0 (W0.alloc<|.cells #[.string (g k).name,.bool (g k).aj,.int .i64 (g k).ap,.int .i64 (g k).aW,.int .i64 (g k).late,.int .i64 (-1)] 31):=(acW _ _).alloc (ac5 _) _;have e1:=(bB.cell (p:=⟨B,k*6+3,none⟩) pS.lt).trans eS;have l1:(W0.alloc<|.cells #[.string (g k).name,.bool (g k).aj,.int .i64 (g k).ap,.int .i64 (g k).aW,.int .i64 (g k).late,.int .i64 (-1)] 31).cell? ⟨wr.heap.size,4,none⟩=some (.int .i64 (g k).late):=by rw[<-zS];simp
     have r1:=rS.below bB pS.lt;have p1:=pS.same<|bB.block B pS.lt;have b1:=bS.trans<|bB.mono bS.size;revert e1 l1 r1 p1 b1;generalize (W0.alloc<|.cells #[.string (g k).name,.bool (g k).aj,.int .i64 (g k).ap,.int .i64 (g k).aW,.int .i64 (g k).late,.int .i64 (-1)] 31)=W1;intro e1 l1 r1 p1 b1;clear rS pS bS eS zS bB Nb oW gK c0 c1 c2 c3 c4 c5 bA hMi Yx;by_cases hle:x<=(g k).late
     .have IJ:¬(g k).late<x:=by omega
      have hdl:decide ((g k).late<x)=false:=by simpa using IJ
      have hne:=aG W1;have x0:=λx:ai W1=>x.cell e1
      have x1:=λx:ai W1=>x.cell l1
      refine kI ?_;intro w2 cP;clear hne x0 x1;go_wp2;all_goals try omega
      go_roundw
      case rel=>exact⟨k+1,by go_num,aa,b1.trans<|cP.mono b1.size,r1.below cP p1.lt,p1.same<|cP.block B p1.lt,λi hi=>by
       by_cases e:i=k
       .subst e;rw[ll hp];simp;omega
       .exact cE i aa⟩
      case measure=>exact cI
     .have IJ:(g k).late<x:=by omega
      have pg:¬∀i,i<n->eD (g i) (now+4)=true:=λh=>by
       have:=h k aB;rw[ll hp]at this;simp at this;omega
      have hdl:decide ((g k).late<x)=true:=by simpa using IJ
      have hne:=aG W1;have x0:=λx:ai W1=>x.cell e1
      have x1:=λx:ai W1=>x.cell l1
      refine kI ?_;intro w2 cP;clear hne x0 x1;have ml:=xb _<|b1.trans<|cP.mono b1.size;go_wp2;all_goals try omega
      first
       |exact⟨pg,ml⟩
       |(right;exact⟨rfl,pg,ml,rfl,rfl,rfl⟩)
       |trace_state
    .go_wp2;go_roundw
     case rel=>exact⟨k+1,by go_num,aa,gK.trans<|bA.mono gK.size,(Nb.below bA hlB).nO λi _=>tf hp i,oW.same<|bA.block B hlB,λi hi=>by
      by_cases e:i=k
      .subst e;exact xZ hp
      .exact cE i aa⟩
     case measure=>exact cI
   .have dr:¬(k:Int)<n:=by omega
    have tD:k=n:=aa;subst tD;go_wp2;exact⟨cE,xb _ gK,B,aa,Nb.nO (λi hi=>by unfold eb eB;rw[if_pos hi]),oW,c8,rfl,rfl⟩
 .rintro a' w1 ⟨cE,bP,B,c8,mF,yj,ZV,fu⟩;obtain⟨u,rfl⟩:=fu.open;clear fu;have hP:fQ g n now shift=lP (eB g<|now+4) n shift (fW (eB g<|now+4) n shift):=by unfold fQ;rw[if_pos cE]
  have eO:=bP.size;refine ak.seq E yZ<|ak.region E yZ ?_;rw[lp];refine ak.kw E yZ 0 2 aF (λa' w'=>(∃τ d,w'=re w1 τ d)/\gZ a' (rW 46 [(2,shift),(8,.slice B n c8),(41,.slice B n c8),(42,shift)])) ?_ ?_
  .intro τ d;clear aT;simp only[aN];go_wp2;exact⟨⟨τ,d,rfl⟩,rfl,rfl⟩
  rintro a' w' ⟨⟨τ,d,rfl⟩,fu⟩;clear u;obtain⟨u,rfl⟩:=fu.open;clear fu;refine ak.Tw E sx Fu yZ (i:=2) rfl rfl (B:=B) (off:=0) (n:=n) (cap:=c8) (f:=eB g<|now+4) (shift:=shift) (λw=>C8) aa ZV.lt (dL yj rfl) (xW ZV rfl) (xP _ n shift) ?_;intro v V2 fO;have M7:f8 (fQ g n now shift) n V v V2:=by
   rw[hP];refine⟨?_,⟨ac8 bP.size fO.2.size,λk hk=>(fO.2.block k (by show k<w1.heap.size;omega)).trans<|bP.block k hk⟩⟩;have:=fO.1;revert this;cases lP (eB g<|now+4) n shift (fW (eB g<|now+4) n shift)with
   |none=>exact id
   |some T=>rintro⟨B',c',h1,h2⟩;exact⟨B',c',⟨ac8 eO h1.1,h1.2⟩,h2⟩
  obtain⟨v5,rfl,t5,aaH⟩:=vP fO;obtain⟨br,nR⟩:∃br,(lP (eB g<|now+4) n shift<|fW (eB g<|now+4) n shift).isSome=br:=⟨_,rfl⟩;rw[nR]at M7⊢;have hco:=aT;clear aT fO aaH t5;refine ak.kw E yZ 3 4 aF (λa' w'=>(∃τ d,w'=re V2 τ d)/\gZ a' (rW 46 [(6,v5),(7,br)])) ?_ ?_
  .intro τ d;clear hco;simp only[aN,Act.put];go_wp2;exact⟨⟨τ,d,rfl⟩,rfl,rfl⟩
  rintro a' w' ⟨⟨q_,d2,rfl⟩,fu⟩;clear u;obtain⟨u,rfl⟩:=fu.open;clear fu;refine ak.regionEnd E yZ<|ak.ret E yZ ?_;refine ak.leave E ig (v:=.tuple #[v5,br]) (λτ d=>⟨rfl,rfl,rfl,_,Tz.func80,?_⟩)<|hco (.tuple #[v5,br]) _<|M7.re q_ d2;have:=results_tmp2 (fn:=Tryz.f80) rfl ((rW 46 [(6,v5),(7,br)]) u) Tz.prog<|re (re V2 q_ d2) τ d;exact this
 .rintro a w todo ⟨h2,h3,h4,h5,h6⟩;refine ak.leave E ig (v:=.tuple #[(),false]) (λτ d=>⟨rfl,h4,rfl,_,Tz.func80,?_⟩)<|aT _ _ ⟨by unfold fQ;rw[if_neg h2];exact⟨none,0,rfl⟩,h3⟩;have:=results_tmp2 (fn:=Tryz.f80) rfl a.tmps Tz.prog<|re w τ d;rw[kh h5,kh h6]at this;exact this
end
