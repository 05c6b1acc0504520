import Derived.Test.YtlmcblcijndipaaGreatDoorj30
import Derived.Test.YtlmcblcijndipaaGreatDoorj33
set_option linter.unusedVariables false
set_option linter.defProp false
set_option linter.unusedSectionVars false
set_option maxHeartbeats 4000000
set_option maxRecDepth 100000
namespace Go.Proofs.YtlmcblcijndipaaGreatDoor
open Conc RowKit
variable {a:Act}{ops:Array Oper}{ok:Ctx}{c r0:Frame}{gZ shift:Int}{cs:List Frame}{k:List Item}{r seq:List Nat}{p:List Nat->Bool}{m:Mv}{b cap i lo n off:Nat}{f g h:Nat->Mv}{o:Nat->Nat}{v:Value}{Q:Value->World->Prop}{V V' w w':World}{x:aN}
def xb (g h:Nat->Int)(n:Nat):∀f k,k+f=n->decide (jk g h n n f k<0)=gS (iZ g f k) (iZ h f k)
 |0,k,_=>by simp[jk,iZ,gS]
 |f+1,k,e=>by
  rw[jk,if_neg ab,iZ,iZ,gS];unfold j9;by_cases h1:g k=h k
  .rw[h1];simp only[Int.lt_irrefl,if_false,if_true];exact xb g h n f (k+1) ab
  .rw[if_neg h1];by_cases h2:g k<h k
   .rw[if_pos h2];simp[h2]
   .have h3:h k<g k:=by omega
    rw[if_neg h2,if_pos h3];simp[h2]
def aN.key (x:aN):Option (List Int):=if x.ok=true then some (x.sum::x.most::iZ x.g x.n 0)else none
def jB (n:Nat)(x:aN):Prop:=if x.ok=true then x.n=n else x.sum=0/\x.most=0/\x.n=0
def jB.len (h:jB n x):∀l,x.key=some l->l.length=n+2:=by
 intro l hl;unfold aN.key at hl;unfold jB at h;split at hl
 .rename_i e;rw[if_pos e]at h;obtain rfl:=ac9 hl;simp[p9,h]
 .cases hl
def Q7 (n:Nat):jB n ep:=by simp[jB,ep]
def RU (a b c:Int):decide (JB a b c<0)=if a=0 then(if b=0 then decide (c<0)else decide (b<0))else decide (a<0):=by
 unfold JB;split<;>(try split)<;>rfl
def Ki {a b:Int}:j9 a b=0<->a=b:=by unfold j9;split<;>(try split)<;>omega
def MY {a b:Int}:j9 a b<0<->a<b:=by unfold j9;split<;>(try split)<;>omega
def AJ {y:aN}(hx:jB n x)(hy:jB n y):qX x y=dD x.key y.key:=by
 unfold qX nW aN.key;unfold jB at hx hy;cases h1:x.ok<;>cases h2:y.ok<;>simp only[h1,h2,if_true,if_false,Bool.false_eq_true,Bool.true_eq_false,dD]at hx hy⊢
 .rw[hx.1,hx.2.1,hx.2.2,hy.1,hy.2.1,hy.2.2];simp[JB,j9,jk]
 .simp
 .simp
 .rw[hx,hy,RU,xb _ _ _ n 0 ab,gS,gS];simp only[Ki,MY]
def fk.Eb (h:fk f n o x):jB n x:=by
 unfold fk at h;unfold jB;split at h
 .rw[if_pos h.1];exact h.2.2.2.1
 .rw[if_neg (by rw[h.1];simp)];exact⟨h.2.1,h.2.2.1,h.2.2.2.1⟩
def fk.key (h:fk f n o x):x.key=(eB f o n).map (ge f n):=by
 unfold fk at h;unfold aN.key;split at h
 .rename_i T e;rw[if_pos h.1,h.2.1,h.2.2.1,h.2.2.2.1,yF n 0 (λi _ hi=>h.2.2.2.2.2.1 i ab),e];rfl
 .rename_i e;rw[if_neg (by rw[h.1];simp),e];rfl
structure IQ (J:Jb)(n:Nat)(seq:List Nat)(x:aN):Prop where
 is:x=ep\/∃i∈seq,J.Is i x
 all:∀i∈seq,∃y,J.Is i y/\dD y.key x.key=false
section
variable {J:Jb}{o:Nat->Nat->Nat}(ay:J.lt=qX)(LZ:J.Is=λi x=>fk f n (o i) x)
include ay LZ
theorem IQ.Eb (h:IQ J n seq x):jB n x:=by
 rcases h.is with rfl|⟨i,_,hi⟩
 .exact Q7 n
 .rw[LZ]at hi;exact fk.Eb hi
theorem zD (h:wI J seq x):IQ J n seq x:=by
 induction h with
 |nil=>exact⟨.inl rfl,λi hi=>by simp at hi⟩
 |@snoc seq i x y hb hi ih=>
  have gx:=ih.Eb ay LZ;have gy:jB n y:=by rw[LZ]at hi;exact fk.Eb hi
  have hk:J.lt y x=dD y.key x.key:=by rw[ay];exact AJ gy gx
  unfold Jb.pick;rw[hk];by_cases hp:dD y.key x.key=true
  .rw[if_pos hp];refine⟨.inr ⟨i,aG,hi⟩,λk hk=>?_⟩;rcases adv.1 hk with hk|hk
   .let⟨z,hz,Ma⟩:=ih.all k hk;have gz:jB n z:=by rw[LZ]at hz;exact fk.Eb hz
    exact⟨z,hz,K8 gx.len gy.len Ma hp gz.len⟩
   .simp at hk;subst hk;exact⟨y,hi,fh _⟩
  .rw[if_neg hp];refine⟨?_,λk hk=>?_⟩
   .rcases ih.is with e|⟨k,hk,e⟩
    .exact .inl e
    .exact .inr ⟨k,by simp[hk],e⟩
   .rcases adv.1 hk with hk|hk
    .exact ih.all k hk
    .simp at hk;subst hk;exact⟨y,hi,by simpa using hp⟩
theorem rY:∀(xs:List aN) (x:aN),jB n x->(∀y∈xs,jB n y)->jB n (xs.foldl J.pick x)/\(xs.foldl J.pick x=x\/xs.foldl J.pick x∈xs)/\dD x.key (xs.foldl J.pick x).key=false/\∀y∈xs,dD y.key (xs.foldl J.pick x).key=false
 |[],x,gx,_=>⟨gx,.inl rfl,fh _,λy hy=>by simp at hy⟩
 |y::xs,x,gx,h=>by
  have gy:=h y aG;have hk:J.lt y x=dD y.key x.key:=by rw[ay];exact AJ gy gx
  rw[List.foldl_cons];by_cases hp:dD y.key x.key=true
  .have e:J.pick x y=y:=by unfold Jb.pick;rw[hk,if_pos hp]
   rw[e];let⟨a,b,c,d⟩:=rY xs y gy λz hz=>h z<|by simp[hz]
   refine⟨a,b.elim (λe=>.inr<|by simp[e]) λe=>.inr<|by simp[e],?_,λz hz=>?_⟩
   .cases hx:dD x.key (xs.foldl J.pick y).key with
    |false=>rfl
    |true=>rw[pX hp hx]at c;cases c
   .rcases List.mem_cons.1 hz with rfl|hz
    .exact c
    .exact d z hz
  .have e:J.pick x y=x:=by unfold Jb.pick;rw[hk,if_neg hp]
   rw[e];let⟨a,b,c,d⟩:=rY xs x gx λz hz=>h z<|by simp[hz]
   refine⟨a,b.elim .inl λe=>.inr<|by simp[e],c,λz hz=>?_⟩;rcases List.mem_cons.1 hz with rfl|hz
   .exact oG gy.len gx.len a.len (by simpa using hp) c
   .exact d z hz
end
def Kb {nn:Nat}{o:Nat->Nat->Nat}(h:Ans qX (λi x=>fk f n (o i) x) nn x):
  (x=ep\/∃k,k<nn/\fk f n (o k) x)/\∀k,k<nn->dD ((eB f (o k) n).map<|ge f n) x.key=false:=by
 obtain⟨J,xs,seq,ay,LZ,h4,hB,cD,xG,rfl⟩:=h;have hL:∀i y,xs[i]?=some y->IQ J n (seq i) y:=λi y hy=>zD ay LZ<|hB i y hy
 have hg:∀y∈xs,jB n y:=λy hy=>by
  let⟨i,hi⟩:=List.getElem?_of_mem hy;exact(hL i y hi).Eb ay LZ
 match xs,h4,hL,hg with
 |x::r,h4,hL,hg=>
  let⟨a,b,c,d⟩:=rY ay LZ r x (hg x aG) λy hy=>hg y<|by simp[hy]
  have hle:∀y∈x::r,dD y.key (r.foldl J.pick x).key=false:=λy hy=>by
   rcases List.mem_cons.1 hy with rfl|hy
   .exact c
   .exact d y hy
  have pJ:r.foldl J.pick x∈x::r:=b.elim (λe=>by rw[e];simp) (λe=>by simp[e]);refine⟨?_,λk hk=>?_⟩
  .let⟨i,hi⟩:=List.getElem?_of_mem pJ;have hi4:i<4:=by have:=(adc.1 hi).1;omega
   rcases(hL i _ hi).is with e|⟨k,hk,e⟩
   .exact .inl e
   .rw[LZ]at e;exact .inr ⟨k,xG i hi4 k hk,e⟩
  .let⟨i,hi,hm⟩:=cD k hk;obtain⟨y,hy⟩:∃y,(x::r)[i]?=some y:=⟨_,adp ab⟩;have hyL:=hL i y hy;let⟨z,hz,Ma⟩:=hyL.all k hm;rw[LZ]at hz;rw[<-fk.key hz];exact oG (fk.Eb hz).len (hyL.Eb ay LZ).len a.len Ma<|hle y<|List.mem_of_getElem? hy
def MC {L:List (List Nat)}(h:Ans qX (λi x=>fk f n (pl<|L.getD i []) x) L.length x):
  match fd f n L with
  |some T=>x.ok=true/\x.n=n/\x.cap=n/\x.a≠none/\∀i,i<n->x.g i=T i
  |none=>x.ok=false/\x.n=0/\x.cap=0/\x.a=none:=by
 let⟨h1,h2⟩:=Kb (o:=λi=>pl<|L.getD i []) h;let⟨k1,_,k3⟩:=sQ f n L none;change (fd f n L=none\/∃l∈L,fd f n L=eB f (pl l) n)at k1;change ∀l∈L,dD _ ((fd f n L).map<|ge f n)=false at k3;have hG:∀k,k<L.length->L.getD k []∈L:=λk hk=>by simp[hk]
 have hI:∀l∈L,∃k,k<L.length/\L.getD k []=l:=λl hl=>by
  let⟨k,hk⟩:=List.getElem?_of_mem hl;exact⟨k,(adc.1 hk).1,by simp[List.getD,hk]⟩
 have lQ:x.ok=false->x.n=0/\x.cap=0/\x.a=none/\x.key=none:=λe=>by
  refine and_assoc.1 (and_assoc.1 ⟨?_,by simp[aN.key,e]⟩)|>λh=>h
  rcases h1 with rfl|⟨k,hk,h1⟩
  .exact⟨⟨rfl,rfl⟩,rfl⟩
  .unfold fk at h1;split at h1
   .rw[h1.1]at e;cases e
   .exact⟨⟨h1.2.2.2.1,h1.2.2.2.2.1⟩,h1.2.2.2.2.2⟩
 cases hb:fd f n L with
 |none=>
  cases hx:x.ok with
  |false=>let⟨a,b,c,d⟩:=lQ hx;exact⟨rfl,a,b,c⟩
  |true=>
   exfalso;rcases h1 with rfl|⟨k,hk,h1⟩
   .simp[ep]at hx
   .have:=k3 _<|hG k hk;rw[hb]at this;unfold fk at h1;split at h1
    .rename_i T e;try dsimp only at e
     rw[e]at this;simp[dD]at this
    .rw[h1.1]at hx;cases hx
 |some T=>
  rw[hb]at k1 k3;let⟨l,hl,e⟩:=k1.resolve_left aG;let⟨k,hk,e2⟩:=hI l hl;have h3:=h2 k hk;try dsimp only at h3
  rw[e2,<-e]at h3;cases hx:x.ok with
  |false=>rw[(lQ hx).2.2.2]at h3;simp[dD]at h3
  |true=>
   rcases h1 with rfl|⟨q,hq,h1⟩
   .simp[ep]at hx
   .have Rs:=fk.key h1;have h4:=k3 _<|hG q hq;rw[<-Rs]at h4;unfold fk at h1;split at h1
    .rename_i S e3;try dsimp only at e3
     try dsimp only at Rs
     rw[e3]at Rs;rw[Rs]at h3 h4;have:=x9 (by rw[pQ,pQ]) h3 h4;unfold ge at this;simp only[List.cons.injEq]at this;have hi:=Fm n 0 this.2.2;exact⟨rfl,h1.2.2.2.1,h1.2.2.2.2.1,h1.2.2.2.2.2.2,λi nJ=>(h1.2.2.2.2.2.1 i nJ).trans (hi i ab ab).symm⟩
    .rw[h1.1]at hx;cases hx
def dA (h:aJ w b off n f)(e:w'.heap[b]?=w.heap[b]?):aJ w' b off n f:=λi hi=>by
 let⟨c0,c1,c2,c3,c4,c5⟩:=h i hi;have k:∀{j:Nat} {v:Value},w.cell? ⟨b,j,none⟩=some v->w'.cell? ⟨b,j,none⟩=some v:=λ{j v} hv=>by simp only[World.cell?,e]at hv⊢;exact hv
 exact⟨k c0,k c1,k c2,k c3,k c4,k c5⟩
def fi {g:Nat->Int}(h:aC w b n g)(e:w'.heap[b]?=w.heap[b]?):aC w' b n g:=by
 let⟨⟨cs,h1,h2⟩,h3⟩:=h;exact⟨⟨cs,e.trans h1,h2⟩,λi hi=>by have:=h3 i hi;simp only[World.cell?,e]at this⊢;exact this⟩
def yu (h:ce w b)(e:w'.heap[b]?=w.heap[b]?):ce w' b:=by
 let⟨cs,t,h1,h2⟩:=h;exact⟨cs,t,e.trans h1,h2⟩
def kg {a:Array Value}(h:a[i]?=some v):a.getD i undef=v:=by simp[Array.getD_eq_getD_getElem?,h]
def gh (r:Option (Nat->Int))(n:Nat)(V:World)(v:Value)(V':World):Prop:=
 (match r with
 |some T=>∃B c,(V.heap.size<=B/\n<=c)/\v=.tuple #[.slice (some ⟨B,0,none⟩) n c,.bool true]/\aC V' B n T
 |none=>∃a c,v=.tuple #[.slice a 0 c,.bool false])/\Bl V.heap.size V V'
def Ov {cap:Nat}(hn:n<=1048576)(bz:b<w)(am:aJ w b off n f)(hp:IR f n shift p)(h0:0<=shift):0<((aS n).filter p).length:=by
 let⟨e,w',⟨g,_,_,hg,_⟩,_⟩:=uM<|q9 b off n cap f w hn bz am;let⟨l,hl,F0⟩:=wO (n:=n) (g:=g) hg.low hg.inj;have hs:eH (λi=>((pl l i:Nat):Int)) (λi=>((g i:Nat):Int)) n 0:=by
  refine⟨Int.le_refl _,ab,λi k hi hk he=>?_,.inl rfl⟩;rw[F0 i hi]at he;have:i=k:=by
   rcases Nat.lt_trichotomy i k with h|h|h
   .exact absurd ab (hg.inj i k h hk)
   .exact h
   .exact absurd ab (hg.inj k i h hi)
  omega
 have:=(hp g hg l hl 0 hs).2 h0;exact List.length_pos_of_mem<|List.mem_filter.2 ⟨hl,this⟩
def U2 {NB nc:Nat}{cf:List Value}(hm:az f n=true)(am:aJ w b off n f)(pL:ce w b)(gO:0<((aS n).filter p).length)
  (own:w.ownsRow lo 183 1 (.slice NB ((aS n).filter p).length nc) ((aS n).filter p).length cf)(rows:iD w n lo cf ((aS n).filter p)):
  ∃tb toff tc,X8 w b off n NB 0 ((aS n).filter p).length f tb toff tc (λi=>pl<|((aS n).filter p).getD i []):=by
 have h6:=bP hm;have hx:∀i,∃q:Nat×Nat,i<((aS n).filter p).length->cf[i]?=some (Value.slice (some ⟨q.1,0,none⟩) n q.2)/\n<=q.2/\iE w q.1/\aA w q.1 0 n (λj=>((pl (((aS n).filter p).getD i []) j:Nat):Int)):=λi=>by
  by_cases hi:i<((aS n).filter p).length
  .let⟨tb,tc,h1,h2,h3,h4,h5⟩:=rows i (((aS n).filter p).getD i []) (by simp[hi]);exact⟨(tb,tc),λ_=>⟨h1,h2,h4,h5⟩⟩
  .exact⟨(0,0),λh=>absurd h hi⟩
 have pJ:∀i,i<((aS n).filter p).length->((aS n).filter p).getD i []∈aS n:=λi hi=>by
  have:((aS n).filter p).getD i []∈(aS n).filter p:=by simp only[List.getD_eq_getElem?_getD,List.getElem?_eq_getElem hi,Option.getD_some];exact List.getElem_mem hi
  exact(List.mem_filter.1 this).1
 refine⟨λi=>(hx i).choose.1,λ_=>0,λi=>(hx i).choose.2,⟨hm,am,pL,λi hi=>?_,λi hi=>?_,λi hi=>((hx i).choose_spec hi).2.1,λi hi=>((hx i).choose_spec hi).2.2.2,λi hi=>(gj<|pJ i hi).2.1,λi hi=>(gj<|pJ i hi).2.2,?_,gO⟩⟩
 .rw[Nat.zero_add,own.cellAt i ab];exact((hx i).choose_spec hi).1
 .let⟨cs,g1,g2⟩:=((hx i).choose_spec hi).2.2.1;exact⟨cs,_,g1,λv hv=>.inr<|.inl (by obtain⟨x,rfl⟩:=g2 v hv;exact⟨_,_,rfl⟩)⟩
 .have h1:=(jE n h6).1;have h2:=List.length_filter_le p<|aS n;omega
section
variable [Gl]{Dr:FuncId->Array Value->World->(Value->World->Prop)->Prop}{P0:Program}
def aj.ret {b:Frame}(E:dM P0 ok c Dr)(hb:ok.aX b.fn=true)(h:aj P0 ok c Dr Q ⟨{b.at a (.code .ret::k)with mode:=.returning},cs,V⟩):aj P0 ok c Dr Q ⟨b.at a<|.code .ret::k,cs,V⟩:=
 aj.of_steps E.pair E.shut E.floor (λs1=>∃τ d,s1=St.re ⟨{b.at a (.code .ret::k)with mode:=.returning},cs,V⟩ τ d) (by rintro _ ⟨τ,d,rfl⟩;exact hb) (λτ d=>⟨_,⟨τ,d,rfl⟩,.one step_ret⟩) (by rintro _ ⟨τ,d,rfl⟩;exact λτ' d'=>h τ' d')
def aj.last {b:Frame}(E:dM P0 ok c Dr)(hb:ok.aX b.fn=true)(ss:List Code)(R:Act->World->Prop)
  (h:∀τ d,aD P0 (λe a w=>(e=.normal/\R a w)\/(e=.ret/\R a w)) ss a<|re V τ d)(hR:∀a' w' todo,R a' w'->aj P0 ok c Dr Q ⟨{b.at a' todo with mode:=.returning},cs,w'⟩):
  aj P0 ok c Dr Q ⟨b.at a<|.code (Proofs.YtlmcblcijndipaaGreatDoor.chain ss .ret)::k,cs,V⟩:=
 aj.chain E hb ss .ret R R h (λa' w' h'=>aj.ret E hb<|hR a' w' _ h') hR
def aj.kv {b:Frame}(E:dM P0 ok c Dr)(hb:ok.aX b.fn=true)(j m:Nat)(hm:j+m<=ops.size)(K:Act->World->Prop)
  (h:∀τ d,wpList P0 ops (λe a w=>e=.normal/\K a w) ((ops.toList.drop j).take m) a<|re V τ d)(hK:∀a' w',K a' w'->aj P0 ok c Dr Q ⟨b.at a'<|.inRegion ops (List.range' (j+m)<|ops.size-(j+m))::k,cs,w'⟩):
  aj P0 ok c Dr Q ⟨b.at a<|.inRegion ops (List.range' j<|ops.size-j)::k,cs,V⟩:=by
 have hl:((ops.toList.drop j).take m).length=m:=cH;have e:List.range' j (ops.size-j)=List.range' j ((ops.toList.drop j).take m).length++List.range' (j+m) (ops.size-(j+m)):=by
  rw[hl,List.range'_append_1];congr 1;omega
 rw[e];refine aj.ops E hb j _ _ K (λi hi=>?_) h hK;rw[hl]at hi;rw[List.getElem?_take,if_pos hi,List.getElem?_drop];simp
def lw:List.range ops.size=List.range' 0 (ops.size-0):=by rw[List.range_eq_range'];rfl
def SJ (E:dM Tz.prog ok c bY)(uO:ok.aX 111=true)(Dz:ok.aX 139=false)(f7:ok.aX r0.fn=true)
  (hn:n<=1048576)(bz:b<V.heap.size)(am:aJ V b off n f)(pL:ce V b)(hp:IR f n shift p)
  (aH:∀v V',gh (kR f n shift p) n V v V'->aj Tz.prog ok c bY Q ⟨r0.finish v,cs,V'⟩):
  aj Tz.prog ok c bY Q ⟨Frame.enter Tz.prog 111 #[.slice (some ⟨b,off,none⟩) n cap,.int .i64 shift] .normal,r0::cs,V⟩:=by
 have hE:=enter_at (P:=Tz.prog) #[.slice (some ⟨b,off,none⟩) n cap,.int .i64 shift] Tz.func111 rfl;simp only[Tryz.ntmps111,List.size_toArray,List.length_cons,List.length_nil,Nat.reduceAdd,Nat.reduceSub,Array.replicate_succ,Array.replicate_zero,List.push_toArray,List.append_toArray,List.nil_append,List.cons_append]at hE;rw[hE];by_cases hg:az f n=true/\0<=shift/\shift<=6
 .let⟨hm,NY,G2⟩:=hg;have acu:¬shift<0:=ab;have acv:¬6<shift:=ab;refine aj.chain E uO [_,_] _ (λa w=>Bl V.heap.size V w/\∃u2 u3 u4 u5 u6 u7 u8 u9 Qc T9 Qd Qe Qf Qg u16 Qh Xe Qi Qj u21 Ua Ub Uc Ud Ue,a=⟨#[.slice (some ⟨b,off,none⟩) n cap,.int .i64 shift,u2,u3,u4,u5,u6,u7,u8,u9,Qc,T9,Qd,Qe,Qf,Qg,u16,Qh,Xe,Qi,Qj,u21,Ua,Ub,Uc,Ud,Ue],[]⟩) (λ_ _=>False) ?_ ?_ (λ_ _ _ h=>h.elim)
  .intro τ d;have H1:=fW b off n cap f (re V τ d) hn bz<|dA am rfl;rw[hm]at H1;simp only[aD];clear hE;go_wp2_with(go_at_call 75;refine H1.mono ?_;clear H1;rintro e w1 ⟨rfl,b1⟩)
   left;refine⟨QG,Bl.nP b1,?_⟩;repeat apply Exists.intro
   rfl
  .rintro a w1 ⟨bI,u2,u3,u4,u5,u6,u7,u8,u9,Qc,T9,Qd,Qe,Qf,Qg,u16,Qh,Xe,Qi,Qj,u21,Ua,Ub,Uc,Ud,Ue,rfl⟩;refine aj.seq E uO<|aj.region E uO ?_;rw[lw];have NU:=dA am<|bI.block b bz;have eG:=bI.size;have gO:=Ov (cap:=cap) hn bz am hp NY;refine aj.kv E uO 0 4 aG (λa w=>Bl w1.heap.size w1 w/\(∃NB nc cf,w.ownsRow w1.heap.size 183 1 (.slice (some ⟨NB,0,none⟩) ((aS n).filter p).length nc) ((aS n).filter p).length cf/\iD w n w1.heap.size cf ((aS n).filter p)/\∃u2 u3 u4 u5 u6 u7 u8 u9 Qc T9 Qd Qe Qf Qg u16 Qh Qi Qj Ua Ub Uc Ud Ue,a=⟨#[.slice (some ⟨b,off,none⟩) n cap,.int .i64 shift,u2,u3,u4,u5,u6,u7,u8,u9,Qc,T9,Qd,Qe,Qf,Qg,u16,Qh,.slice (some ⟨b,off,none⟩) n cap,Qi,Qj,.slice (some ⟨NB,0,none⟩) ((aS n).filter p).length nc,Ua,Ub,Uc,Ud,Ue],[]⟩)) ?_ ?_
   .intro τ d;have H2:=Ow b off n cap f shift (re w1 τ d) hm (by show b<w1.heap.size;omega) (dA NU rfl) p hp;clear hE;simp only[aK];go_wp2_with(go_at_call 140;refine H2.mono ?_;clear H2;rintro e w2 ⟨⟨v,cf,rfl,o2,r2⟩,b2⟩)
    obtain⟨M,hM⟩:∃M,((aS n).filter p).length=M+1:=⟨((aS n).filter p).length-1,ab⟩;obtain⟨NB,nc,rfl⟩:∃NB nc,v=.slice (some ⟨NB,0,none⟩) ((aS n).filter p).length nc:=by rw[hM]at o2⊢;exact lq o2
    exact⟨Bl.nP b2,NB,nc,cf,o2,r2,rfl⟩
   .rintro a w2 ⟨cj,NB,nc,cf,o2,r2,u2,u3,u4,u5,u6,u7,u8,u9,Qc,T9,Qd,Qe,Qf,Qg,u16,Qh,Qi,Qj,Ua,Ub,Uc,Ud,Ue,rfl⟩;have Vm:Bl V.heap.size V w2:=bI.trans cj eG;have ga:=cj.size;let⟨tb,toff,tc,aaW⟩:=U2 hm (dA am<|Vm.block b bz) (yu pL<|Vm.block b bz) gO o2 r2;refine aj.M9 E (i:=4) rfl rfl Dz (λw=>?_) (λτ d=>.inl ⟨rfl,b,off,n,cap,NB,0,_,nc,f,tb,toff,tc,_,rfl,aaW.re τ d,rfl⟩) ?_
    .simp[execOp,resolve,invoke,Act.eval,go_sem]
    .rintro τ d v V3 ⟨x,aL,hA,haL,rfl,fM⟩;have NA:=MC hA;have Kt:Bl w2.heap.size w2 V3:=by
      rcases fM with⟨_,_,rfl⟩|⟨cs,_,rfl,_⟩
      .exact⟨ac3 _,λ_ _=>rfl⟩
      .exact⟨by simp[re],λk hk=>acV _ _ _ hk⟩
     have aaH:Bl V.heap.size V V3:=Vm.trans Kt ab;have Oa:=Kt.size;have fQ:∀w',Bl V3.heap.size V3 w'->gh (kR f n shift p) n V (.tuple #[.slice aL x.n x.cap,.bool x.ok]) w':=λw' hw'=>by
      refine⟨?_,aaH.trans hw' ab⟩;unfold kR;rw[if_pos ⟨hm,NY,G2⟩];cases hO:fd f n ((aS n).filter p)with
      |none=>
       rw[hO]at NA;let⟨h1,h2,h3,h4⟩:=NA;exact⟨aL,x.cap,by rw[h1,h2]⟩
      |some T=>
       rw[hO]at NA;let⟨h1,h2,h3,h4,h5⟩:=NA;rcases fM with⟨h,_⟩|⟨cs,ha,rfl,hi,ZX,_,jw⟩
       .exact absurd (haL.2 h) h4
       .replace ha:aL=some ⟨w2.heap.size,0,none⟩:=ha;replace jw:cs.size=x.n:=jw;have pi:((re w2 τ d).alloc<|.cells cs 3).heap[w2.heap.size]?=some (.cells cs 3 (0,0)):=heap_alloc_new (re w2 τ d) _;have ZY:aA ((re w2 τ d).alloc<|.cells cs 3) w2.heap.size 0 n T:=by
         rcases ZX with h|⟨b5,o5,h,hr⟩
         .replace h:x.n=0:=h;intro i nJ;omega
         .replace h:aL=some ⟨b5,o5,none⟩:=h;rw[ha]at h;simp only[Option.some.injEq,Addr.mk.injEq]at h;obtain⟨rfl,rfl,_⟩:=h;intro i nJ;have:=hr i (by show i<x.n;omega);rw[this];exact congrArg (λz=>some<|Value.int .i64 z)<|h5 i nJ
        refine⟨w2.heap.size,x.cap,⟨ab,ab⟩,by rw[h1,h2,ha],?_⟩;have ay:w2.heap.size<((re w2 τ d).alloc<|.cells cs 3).heap.size:=by simp[re]
        exact fi ⟨⟨cs,pi,ab⟩,ZY⟩<|hw'.block _ ay
     clear hA NA fM;refine aj.kv E uO 5 2 aG (λa w=>Bl V3.heap.size V3 w/\∃B6,w.cell? ⟨B6,0,none⟩=some (.bool x.ok)/\w.cell? ⟨B6,3,none⟩=some (.slice aL x.n x.cap)/\∃u0 u1 u2 u3 u4 u5 u7 u8 u9 Qc T9 Qd Qe Qf Qg u16 Qh Xe Qi Qj u21 Ua Ub Uc Ud Ue,a=⟨#[u0,u1,u2,u3,u4,u5,.pointer<|some ⟨B6,0,none⟩,u7,u8,u9,Qc,T9,Qd,Qe,Qf,Qg,u16,Qh,Xe,Qi,Qj,u21,Ua,Ub,Uc,Ud,Ue],[]⟩) ?_ ?_
     .intro τ' d';clear hE fQ;simp only[aK,Act.put,aN.val];go_wp2;exact⟨by simp[re],λk hk=>acV _ _ _ hk⟩
     .rintro a w4 ⟨FZ,B6,c0,c3,u0,u1,u2,u3,u4,u5,u7,u8,u9,Qc,T9,Qd,Qe,Qf,Qg,u16,Qh,Xe,Qi,Qj,u21,Ua,Ub,Uc,Ud,Ue,rfl⟩;refine aj.regionEnd E uO ?_;refine aj.last E uO [_] (λa w=>Bl V3.heap.size V3 w/\a.defers=[]/\a.tmps[4]?=some (.slice aL x.n x.cap)/\a.tmps[5]?=some (.bool x.ok)) ?_ ?_
      .intro τ' d';have c0':(re w4 τ' d').cell? ⟨B6,0,none⟩=some (.bool x.ok):=c0;have UC:(re w4 τ' d').cell? ⟨B6,3,none⟩=some (.slice aL x.n x.cap):=c3;clear hE fQ c0 c3;simp only[aD];go_quiet (fail)
       left;refine⟨QG,FZ.trans (M:=w4.heap.size) ⟨ac3 _,λ_ _=>rfl⟩ FZ.size,?_⟩;first|exact⟨rfl,rfl,rfl⟩|simp
      .rintro a w5 todo ⟨h1,h2,h3,h4⟩;refine aj.leave E f7 (v:=.tuple #[.slice aL x.n x.cap,.bool x.ok]) (λτ d=>⟨rfl,h2,rfl,_,Tz.func111,?_⟩)<|aH _ _<|fQ _ h1;have:=results_tmp2 (fn:=Tryz.f111) rfl a.tmps Tz.prog<|re w5 τ d;rw[kg h3,kg h4]at this;exact this
 .refine aj.chain E uO [_,_] _ (λ_ _=>False) (λa w=>Bl V.heap.size V w/\a.defers=[]/\a.tmps[4]?=some (.slice none 0 0)/\a.tmps[5]?=some (.bool false)) ?_ (λ_ _ h=>h.elim) ?_
  .intro τ d;have H1:=fW b off n cap f (re V τ d) hn bz<|dA am rfl;simp only[aD];cases hm:az f n with
   |false=>
    rw[hm]at H1;clear hE;go_wp2_with(go_at_call 75;refine H1.mono ?_;clear H1;rintro e w1 ⟨rfl,b1⟩)
    right;refine⟨QG,Bl.nP b1,?_⟩;first|exact⟨rfl,rfl,rfl⟩|simp
   |true=>
    rw[hm]at H1;by_cases h0:shift<0
    .clear hE;go_wp2_with(go_at_call 75;refine H1.mono ?_;clear H1;rintro e w1 ⟨rfl,b1⟩)
     right;refine⟨QG,Bl.nP b1,?_⟩;first|exact⟨rfl,rfl,rfl⟩|simp
    .have h6:6<shift:=by have:¬(0<=shift/\shift<=6):=λh=>hg ⟨hm,h⟩;omega
     have h0':0<=shift:=ab;clear hE;go_wp2_with(go_at_call 75;refine H1.mono ?_;clear H1;rintro e w1 ⟨rfl,b1⟩)
     right;refine⟨QG,Bl.nP b1,?_⟩;first|exact⟨rfl,rfl,rfl⟩|simp
  .rintro a w todo ⟨h1,h2,h3,h4⟩;refine aj.leave E f7 (v:=.tuple #[.slice none 0 0,.bool false]) (λτ d=>⟨rfl,h2,rfl,_,Tz.func111,?_⟩)<|aH _ _ ⟨by unfold kR;rw[if_neg hg];exact⟨none,0,rfl⟩,h1⟩;have:=results_tmp2 (fn:=Tryz.f111) rfl a.tmps Tz.prog<|re w τ d;rw[kg h3,kg h4]at this;exact this
end
def XX:List (Nat×Value)->Value->Nat->Value
 |[],d,_=>d
 |(j,v)::l,d,i=>if i=j then v else XX l d i
def X4 (l:List (Nat×Value))(u:Nat->Value):Nat->Nat->List Value
 |_,0=>[]
 |i,k+1=>XX l (u i) i::X4 l u (i+1) k
def rW (n:Nat)(l:List (Nat×Value))(u:Nat->Value):Array Value:=(X4 l u 0 n).toArray
@[go_sem] def N_ (n:Nat) (l:List (Nat×Value)) (u:Nat->Value):rW n l u=(X4 l u 0 n).toArray:=rfl
@[go_sem] def aag (l:List (Nat×Value)) (u:Nat->Value) (i k:Nat):X4 l u i (k+1)=XX l (u i) i::X4 l u (i+1) k:=rfl
@[go_sem] def aah (l:List (Nat×Value)) (u:Nat->Value) (i:Nat):X4 l u i 0=[]:=rfl
@[go_sem] def s_ (j:Nat) (v:Value) (l:List (Nat×Value)) (d:Value) (i:Nat):XX ((j,v)::l) d i=if i=j then v else XX l d i:=rfl
@[go_sem] def t_ (d:Value) (i:Nat):XX [] d i=d:=rfl
def iz (a:Act)(s:(Nat->Value)->Array Value):Prop:=a.defers=[]/\a.tmps=s (λi=>a.tmps.getD i undef)
def iz.open {s:(Nat->Value)->Array Value}(h:iz a s):∃u,a=⟨s u,[]⟩:=by
 let⟨h1,h2⟩:=h;refine⟨λi=>a.tmps.getD i undef,?_⟩;rw[<-h2,<-h1]
def bT {b:Frame}{o:Oper}(ho:ops[i]?=some o)(v:Value):(b.at a<|.inRegion ops (i::r)::k).finish v=b.at (a.put o.dst v) (.inRegion ops r::k):=by
 rw[Frame.finish_at,ho];rfl
section
variable [Gl]
def aj.Ux (E:dM Tz.prog ok c bY)(uO:ok.aX 111=true)(Dz:ok.aX 139=false){b:Frame}(hb:ok.aX b.fn=true){o:Oper}(ho:ops[i]?=some o)(hw:Region.wanted o (yielded ops a.tmps)=true)
  {B:Nat}(hx:∀w,(execOp a.eval o).run Tz.prog w=.ok (.enter 111 #[.slice (some ⟨B,off,none⟩) n cap,shift]) w)
  (hn:n<=1048576)(bz:B<V)(am:aJ V B off n f)(pL:ce V B)(hp:IR f n shift p)
  (aH:∀v V',gh (kR f n shift p) n V v V'->aj Tz.prog ok c bY Q ⟨b.at (a.put o.dst v)<|.inRegion ops r::k,cs,V'⟩):aj Tz.prog ok c bY Q ⟨b.at a<|.inRegion ops (i::r)::k,cs,V⟩:=
 aj.dO E ho hw uO hx (SJ E uO Dz (r0:=b.at a<|.inRegion ops (i::r)::k) hb hn bz am pL hp λv V' hv=>by rw[bT ho];exact aH v V' hv)
end
section
variable {r:Option (Nat->Int)}{m:Nat}
def Tk (r:Option (Nat->Int))(m lo:Nat)(w:World)(v:Value):Prop:=
 match r with
 |some T=>∃B c,lo<=B/\v=.slice (some ⟨B,0,none⟩) m c/\aC w B m T
 |none=>∃a c,v=.slice a 0 c
def Tk.same (h:Tk r m lo w v)(e:∀b,lo<=b->b<w.heap.size->w'.heap[b]?=w.heap[b]?):Tk r m lo w' v:=by
 cases r with
 |none=>exact h
 |some T=>let⟨B,c,h1,h2,h3⟩:=h;exact⟨B,c,h1,h2,fi h3<|e B h1 h3.lt⟩
def wu (h:gh r m V v V'):∃v5,v=.tuple #[v5,r.isSome]/\Tk r m V.heap.size V' v5/\Bl V V V':=by
 cases r with
 |none=>obtain⟨⟨a,c,rfl⟩,hb⟩:=h;exact⟨_,rfl,⟨a,c,rfl⟩,hb⟩
 |some T=>obtain⟨⟨B,c,h1,rfl,h2⟩,hb⟩:=h;exact⟨_,rfl,⟨B,c,h1.1,rfl,h2⟩,hb⟩
def Fb {b:Value}(h:gh r m V (.tuple #[v,b]) V'){a:Option Addr}{l c:Nat}(e:v=.slice a l c):l<=c:=by
 subst e;cases r with
 |none=>let⟨⟨a',c',h⟩,_⟩:=h;simp at h;omega
 |some T=>let⟨⟨B,c',h1,h,_⟩,_⟩:=h;simp at h;omega
end
def JO {k:Nat}(hr:aJ w b 0 n h)(hk:k<n)(x:Int):aJ (w.setCell ⟨b,k*6+3,none⟩<|.int .i64 x) b 0 n (λi=>if i=k then{h k with bF:=x}else h i):=λi hi=>by
 let⟨c0,c1,c2,c3,c4,c5⟩:=hr i hi;have o:∀j,j≠k*6+3->(w.setCell ⟨b,k*6+3,none⟩<|.int .i64 x).cell? ⟨b,j,none⟩=w.cell? ⟨b,j,none⟩:=λj hj=>World.cell?_setCell_other _ _ _ _ (by intro e;cases e;exact hj rfl)
 by_cases e:i=k
 .subst e;simp only[if_true];have UC:w.cell? ⟨b,i*6+3,none⟩=some (.int .i64 (h i).bF):=by rw[<-c3];congr 2;omega
  have s:(w.setCell ⟨b,i*6+3,none⟩<|.int .i64 x).cell? ⟨b,i*6+3,none⟩=some (.int .i64 x):=World.cell?_setCell_same' _ _ _ (by rw[UC];rfl);exact⟨(o _ ab).trans c0,(o _ ab).trans c1,(o _ ab).trans c2,by rw[<-s];congr 2;omega,(o _ ab).trans c4,(o _ ab).trans c5⟩
 .simp only[if_neg e];exact⟨(o _ ab).trans c0,(o _ ab).trans c1,(o _ ab).trans c2,(o _ ab).trans c3,(o _ ab).trans c4,(o _ ab).trans c5⟩
def aJ.nX {h':Nat->Mv}(hr:aJ w b off n h)(e:∀i,i<n->h i=h' i):aJ w b off n h':=λi hi=>by rw[<-e i hi];exact hr i hi
def Fa (h:ce w b)(j:Nat):w.frozen? ⟨b,j,none⟩=false:=by let⟨cs,e,h1,_⟩:=h;exact frozen_of_row _ _ j _ _ h1
def gh.re {r:Option (Nat->Int)}(h:gh r n V v V')(τ:Nat->Question->Nat)(d:Nat):gh r n V v (re V' τ d):=by
 let⟨h1,h2⟩:=h;refine⟨?_,⟨h2.size,h2.block⟩⟩;cases r with
 |none=>exact h1
 |some T=>let⟨B,c,k1,k2,k3⟩:=h1;exact⟨B,c,k1,k2,fi k3 rfl⟩
def ey (g:Nat->Mv)(gZ:Int)(k i:Nat):Mv:=if i<k then ft (g i) gZ else g i
def tE {k:Nat}(h:¬(g k).prom=-1)(i:Nat):ey g gZ k i=ey g gZ (k+1) i:=by
 unfold ey;by_cases e:i=k
 .subst e;rw[if_neg ab,if_pos ab];unfold ft;rw[if_neg h]
 .by_cases h1:i<k
  .rw[if_pos h1,if_pos ab]
  .rw[if_neg h1,if_neg ab]
def yx {x:Int}{k:Nat}(h:(g k).prom=-1)(hx:max (g k).bF gZ=x)(i:Nat):(if i=k then{ey g gZ k k with bF:=x}else ey g gZ k i)=ey g gZ (k+1) i:=by
 unfold ey;by_cases e:i=k
 .subst e;rw[if_pos rfl,if_neg ab,if_pos ab];unfold ft;rw[if_pos h,hx]
 .rw[if_neg e];by_cases h1:i<k
  .rw[if_pos h1,if_pos ab]
  .rw[if_neg h1,if_neg ab]
def lu (h:m.prom=-1):d7 m gZ=decide (gZ<=m.late):=by unfold d7;simp[h]
def yw (h:¬m.prom=-1):d7 m gZ=true:=by unfold d7;simp[h]
section
variable [Gl]
def Dq (E:dM Tz.prog ok c bY)(xw:ok.aX 80=true)(uO:ok.aX 111=true)(Dz:ok.aX 139=false)(f7:ok.aX r0.fn=true)
  {now:Int}(hn:n<=6)(hg:∀i,i<n->(g i).ok=true)(h0:0<=now)(h1:now<=20000)(bz:b<V)(am:aJ V b 0 n g)
  (aH:∀v V',gh (fI g n now shift) n V v V'->aj Tz.prog ok c bY Q ⟨r0.finish v,cs,V'⟩):
  aj Tz.prog ok c bY Q ⟨Frame.enter Tz.prog 80 #[.slice (some ⟨b,0,none⟩) n cap,.int .i64 now,.int .i64 shift] .normal,r0::cs,V⟩:=by
 have hE:=enter_at (P:=Tz.prog) #[.slice b n cap,now,shift] Tz.func80 rfl;simp only[Tryz.ntmps80,List.size_toArray,List.length_cons,List.length_nil,Nat.reduceAdd,Nat.reduceSub,Array.replicate_succ,Array.replicate_zero,List.push_toArray,List.append_toArray,List.nil_append,List.cons_append]at hE;rw[hE];clear hE;refine aj.chain E xw [_,_,_] _ (λa' w'=>(∀i,i<n->d7 (g i) (now+4)=true)/\Bl V.heap.size V w'/\∃B c8,V.heap.size<=B/\aJ w' B 0 n (er g<|now+4)/\ce w' B/\iz a' (rW 46 [(2,.int .i64 shift),(8,.slice (some ⟨B,0,none⟩) n c8)])) (λa' w'=>(¬∀i,i<n->d7 (g i) (now+4)=true)/\Bl V.heap.size V w'/\a'.defers=[]/\a'.tmps[6]?=some (.slice none 0 0)/\a'.tmps[7]?=some (.bool false)) ?_ ?_ ?_
 .intro τ d;have H1:=wY b n cap g (re V τ d) ab bz<|dA am rfl;have xC:∀W,Below (re V τ d).heap.size (re V τ d) W->Bl V V W:=λW h=>Bl.nP h
  have gE:(re V τ d).heap.size=V.heap.size:=rfl;clear aH am;simp only[aD];go_wp2_with(go_at_call 110;refine H1.mono ?_;clear H1;rintro e w1 ⟨B,c8,rfl,ow,K_,b1⟩;have yB:=dW ow;have lY:=(ow.lt B rfl).1;clear ow)
  have xP:IntKind.i64.wrap (now+4)=now+4:=ia;go_loopw [15,9,10] (λx _ _ W=>∃k:Nat,x=.int .i64 k/\k<=n/\Below (re V τ d).heap.size (re V τ d) W/\aJ W B 0 n (ey g (now+4) k)/\ce W B/\∀i,i<k->d7 (g i) (now+4)=true) (λx _ _ _=>n-(intOf x).toNat)
  case atStart=>exact⟨0,rfl,ac8 _,b1,yB.nX λi _=>by unfold ey;rw[if_neg ab],K_,λi hi=>absurd hi<|ac7 _⟩
  case round=>
   clear yB K_ b1;obtain⟨k,rfl,hk,gD,NW,oh,cD⟩:=hrel;by_cases ay:k<n
   .have dq:(k:Int)<n:=by omega
    have Zp:ey g (now+4) k k=g k:=by unfold ey;rw[if_neg (Nat.lt_irrefl _)]
    have eO:=Mv.fp<|hg k ay;let⟨c0,c1,c2,c3,c4,c5⟩:=NW k ay;rw[Zp]at c0 c1 c2 c3 c4 c5;simp only[Nat.zero_add]at c0 c1 c2 c3 c4 c5;have hlB:=oh.lt;have bA:=fG wr<|g k;have Ve:=jH wr<|g k;by_cases hp:(g k).prom=-1
    .obtain⟨x,hx⟩:∃x,max (g k).bF (now+4)=x:=⟨_,rfl⟩;have Zi:=Fa oh<|k*6+3;go_wp2;all_goals try omega
     try rw[hx]
     have rS:=(JO NW ay x).nX λi _=>yx hp hx i;have pS:ce (wr.setCell ⟨B,k*6+3,none⟩ x) B:=oh.set<|.inr<|.inl ⟨_,_,rfl⟩;have bS:=gD.setCell (p:=⟨B,k*6+3,none⟩) (by show(re V τ d).heap.size<=B;omega) x;have eS:(wr.setCell ⟨B,k*6+3,none⟩ x).cell? ⟨B,k*6+3,none⟩=some (.int .i64 x):=World.cell?_setCell_same' _ _ _ (by rw[c3];rfl);have zS:(wr.setCell ⟨B,k*6+3,none⟩ x).heap.size=wr.heap.size:=aG;revert rS pS bS eS zS;generalize wr.setCell ⟨B,k*6+3,none⟩ (.int .i64 x)=W0;intro rS pS bS eS zS;have bB:Below W0 W0 (W0.alloc<|.cells #[.string (g k).name,.bool (g k).ak,.int .i64 (g k).ap,.int .i64 (g k).bF,.int .i64 (g k).late,.int .i64 (-1)] 31):=(acU _ _).alloc (ac3 _) _;have e1:=(bB.cell (p:=⟨B,k*6+3,none⟩) pS.lt).trans eS;have l1:(W0.alloc<|.cells #[.string (g k).name,.bool (g k).ak,.int .i64 (g k).ap,.int .i64 (g k).bF,.int .i64 (g k).late,.int .i64 (-1)] 31).cell? ⟨wr.heap.size,4,none⟩=some (.int .i64 (g k).late):=by rw[<-zS];simp
     have r1:=rS.below bB pS.lt;have p1:=pS.same<|bB.block B pS.lt;have b1:=bS.trans<|bB.mono bS.size;revert e1 l1 r1 p1 b1;generalize (W0.alloc<|.cells #[.string (g k).name,.bool (g k).ak,.int .i64 (g k).ap,.int .i64 (g k).bF,.int .i64 (g k).late,.int .i64 (-1)] 31)=W1;intro e1 l1 r1 p1 b1;clear rS pS bS eS zS bB NW oh gD c0 c1 c2 c3 c4 c5 bA Ve Zi;by_cases hle:x<=(g k).late
     .have KI:¬(g k).late<x:=by omega
      have hdl:decide ((g k).late<x)=false:=by simpa using KI
      have hne:=aF W1;have x0:=λx:ai W1=>x.cell e1
      have x1:=λx:ai W1=>x.cell l1
      refine jR ?_;intro w2 cj;clear hne x0 x1;go_wp2;all_goals try omega
      go_roundw
      case rel=>exact⟨k+1,by go_num,ab,b1.trans<|cj.mono b1.size,r1.below cj p1.lt,p1.same<|cj.block B p1.lt,λi hi=>by
       by_cases e:i=k
       .subst e;rw[lu hp];simp;omega
       .exact cD i ab⟩
      case measure=>exact bZ
     .have KI:(g k).late<x:=by omega
      have lQ:¬∀i,i<n->d7 (g i) (now+4)=true:=λh=>by
       have:=h k ay;rw[lu hp]at this;simp at this;omega
      have hdl:decide ((g k).late<x)=true:=by simpa using KI
      have hne:=aF W1;have x0:=λx:ai W1=>x.cell e1
      have x1:=λx:ai W1=>x.cell l1
      refine jR ?_;intro w2 cj;clear hne x0 x1;have kh:=xC _<|b1.trans<|cj.mono b1.size;go_wp2;all_goals try omega
      first
       |exact⟨lQ,kh⟩
       |(right;exact⟨rfl,lQ,kh,rfl,rfl,rfl⟩)
       |trace_state
    .go_wp2;go_roundw
     case rel=>exact⟨k+1,by go_num,ab,gD.trans<|bA.mono gD.size,(NW.below bA hlB).nX λi _=>tE hp i,oh.same<|bA.block B hlB,λi hi=>by
      by_cases e:i=k
      .subst e;exact yw hp
      .exact cD i ab⟩
     case measure=>exact bZ
   .have dq:¬(k:Int)<n:=by omega
    have tS:k=n:=ab;subst tS;go_wp2;exact⟨cD,xC _ gD,B,ab,NW.nX (λi hi=>by unfold ey er;rw[if_pos hi]),oh,c8,rfl,rfl⟩
 .rintro a' w1 ⟨cD,bI,B,c8,lY,yB,K_,fM⟩;obtain⟨u,rfl⟩:=fM.open;clear fM;have hP:fI g n now shift=kR (er g<|now+4) n shift (fS (er g<|now+4) n shift):=by unfold fI;rw[if_pos cD]
  have eG:=bI.size;refine aj.seq E xw<|aj.region E xw ?_;rw[lw];refine aj.kv E xw 0 2 aG (λa' w'=>(∃τ d,w'=re w1 τ d)/\iz a' (rW 46 [(2,shift),(8,.slice B n c8),(41,.slice B n c8),(42,shift)])) ?_ ?_
  .intro τ d;clear aH;simp only[aK];go_wp2;exact⟨⟨τ,d,rfl⟩,rfl,rfl⟩
  rintro a' w' ⟨⟨τ,d,rfl⟩,fM⟩;clear u;obtain⟨u,rfl⟩:=fM.open;clear fM;refine aj.Ux E uO Dz xw (i:=2) rfl rfl (B:=B) (off:=0) (n:=n) (cap:=c8) (f:=er g<|now+4) (shift:=shift) (λw=>y7) ab K_.lt (dA yB rfl) (yu K_ rfl) (yj _ n shift) ?_;intro v V2 fQ;have NT:gh (fI g n now shift) n V v V2:=by
   rw[hP];refine⟨?_,⟨ac6 bI.size fQ.2.size,λk hk=>(fQ.2.block k (by show k<w1.heap.size;omega)).trans<|bI.block k hk⟩⟩;have:=fQ.1;revert this;cases kR (er g<|now+4) n shift (fS (er g<|now+4) n shift)with
   |none=>exact id
   |some T=>rintro⟨B',c',h1,h2⟩;exact⟨B',c',⟨ac6 eG h1.1,h1.2⟩,h2⟩
  obtain⟨v5,rfl,t5,aaR⟩:=wu fQ;obtain⟨br,lP⟩:∃br,(kR (er g<|now+4) n shift<|fS (er g<|now+4) n shift).isSome=br:=⟨_,rfl⟩;rw[lP]at NT⊢;have hco:=aH;clear aH fQ aaR t5;refine aj.kv E xw 3 4 aG (λa' w'=>(∃τ d,w'=re V2 τ d)/\iz a' (rW 46 [(6,v5),(7,br)])) ?_ ?_
  .intro τ d;clear hco;simp only[aK,Act.put];go_wp2;exact⟨⟨τ,d,rfl⟩,rfl,rfl⟩
  rintro a' w' ⟨⟨τ2,d2,rfl⟩,fM⟩;clear u;obtain⟨u,rfl⟩:=fM.open;clear fM;refine aj.regionEnd E xw<|aj.ret E xw ?_;refine aj.leave E f7 (v:=.tuple #[v5,br]) (λτ d=>⟨rfl,rfl,rfl,_,Tz.func80,?_⟩)<|hco (.tuple #[v5,br]) _<|NT.re τ2 d2;have:=results_tmp2 (fn:=Tryz.f80) rfl ((rW 46 [(6,v5),(7,br)]) u) Tz.prog<|re (re V2 τ2 d2) τ d;exact this
 .rintro a w todo ⟨h2,h3,h4,h5,h6⟩;refine aj.leave E f7 (v:=.tuple #[(),false]) (λτ d=>⟨rfl,h4,rfl,_,Tz.func80,?_⟩)<|aH _ _ ⟨by unfold fI;rw[if_neg h2];exact⟨none,0,rfl⟩,h3⟩;have:=results_tmp2 (fn:=Tryz.f80) rfl a.tmps Tz.prog<|re w τ d;rw[kg h5,kg h6]at this;exact this
end
