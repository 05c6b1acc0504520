import Derived.Test.YtlmcblcijndipabGreatDoorAd36
import Derived.Test.YtlmcblcijndipabGreatDoorAd40
set_option linter.unusedVariables false
set_option linter.unusedSectionVars false
set_option maxHeartbeats 4000000
set_option maxRecDepth 100000
namespace Go.Proofs.YtlmcblcijndipabGreatDoor
section
open Go Go.RowKit
theorem oE (g h:Nat->Int)(n:Nat):∀f k,k+f=n->decide (eP g h n n f k<0)=dw (eF g f k) (eF h f k)
 |0,k,_=>by simp[eP,eF,dw]
 |f+1,k,e=>by
  rw[eP,if_neg (by omega),eF,eF,dw];unfold fg;by_cases h1:g k=h k
  .rw[h1];simp only[Int.lt_irrefl,if_false,if_true];exact oE g h n f (k+1) (by omega)
  .rw[if_neg h1];by_cases h2:g k<h k
   .rw[if_pos h2];simp[h2]
   .have h3:h k<g k:=by omega
    rw[if_neg h2,if_pos h3];simp[h2]
def TryV.key (x:TryV):Option (List Int):=if x.ok=true then some (x.sum::x.most::eF x.g x.n 0)else none
def fi (n:Nat)(x:TryV):Prop:=if x.ok=true then x.n=n else x.sum=0/\x.most=0/\x.n=0
theorem fi.len {n:Nat}{x:TryV}(h:fi n x):∀l,x.key=some l->l.length=n+2:=by
 intro l hl;unfold TryV.key at hl;unfold fi at h;split at hl
 .rename_i e;rw[if_pos e]at h;obtain rfl:=Gt hl;simp[jo,h]
 .cases hl
theorem BG (n:Nat):fi n noTry:=by simp[fi,noTry]
theorem BH (a b c:Int):decide (wF a b c<0)=if a=0 then(if b=0 then decide (c<0)else decide (b<0))else decide (a<0):=by
 unfold wF;split<;>(try split)<;>rfl
theorem yd {a b:Int}:fg a b=0<->a=b:=by unfold fg;split<;>(try split)<;>omega
theorem zQ {a b:Int}:fg a b<0<->a<b:=by unfold fg;split<;>(try split)<;>omega
theorem qr {n:Nat}{x y:TryV}(hx:fi n x)(hy:fi n y):ltTry x y=bw x.key y.key:=by
 unfold ltTry iB TryV.key;unfold fi at hx hy;cases h1:x.ok<;>cases h2:y.ok<;>simp only[h1,h2,if_true,if_false,Bool.false_eq_true,Bool.true_eq_false,bw]at hx hy⊢
 .rw[hx.1,hx.2.1,hx.2.2,hy.1,hy.2.1,hy.2.2];simp[wF,fg,eP]
 .simp
 .simp
 .rw[hx,hy,BH,oE _ _ _ n 0 (by omega),dw,dw];simp only[yd,zQ]
theorem cE.good {f:Nat->Mv}{n:Nat}{o:Nat->Nat}{x:TryV}(h:cE f n o x):fi n x:=by
 unfold cE at h;unfold fi;split at h
 .rw[if_pos h.1];exact h.2.2.2.1
 .rw[if_neg (by rw[h.1];simp)];exact⟨h.2.1,h.2.2.1,h.2.2.2.1⟩
theorem cE.key {f:Nat->Mv}{n:Nat}{o:Nat->Nat}{x:TryV}(h:cE f n o x):x.key=(bK f o n).map (dn f n):=by
 unfold cE at h;unfold TryV.key;split at h
 .rename_i T e;rw[if_pos h.1,h.2.1,h.2.2.1,h.2.2.2.1,oD n 0 (λi _ hi=>h.2.2.2.2.2.1 i (by omega)),e];rfl
 .rename_i e;rw[if_neg (by rw[h.1];simp),e];rfl
structure wJ (J:Jb)(n:Nat)(seq:List Nat)(x:TryV):Prop where
 is:x=noTry\/∃i∈seq,J.Is i x
 all:∀i∈seq,∃y,J.Is i y/\bw y.key x.key=false
section
variable {J:Jb}{f:Nat->Mv}{n:Nat}{o:Nat->Nat->Nat}(hlt:J.lt=ltTry)(hIs:J.Is=λi x=>cE f n (o i) x)
include hlt hIs
theorem wJ.good {seq:List Nat}{x:TryV}(h:wJ J n seq x):fi n x:=by
 rcases h.is with rfl|⟨i,_,hi⟩
 .exact BG n
 .rw[hIs]at hi;exact cE.good hi
theorem pI {seq:List Nat}{x:TryV}(h:n9 J seq x):wJ J n seq x:=by
 induction h with
 |nil=>exact⟨.inl rfl,λi hi=>by simp at hi⟩
 |@snoc seq i x y hb hi ih=>
  have gx:=ih.good hlt hIs;have gy:fi n y:=by rw[hIs]at hi;exact cE.good hi
  have hk:J.lt y x=bw y.key x.key:=by rw[hlt];exact qr gy gx
  unfold Jb.pick;rw[hk];by_cases hp:bw y.key x.key=true
  .rw[if_pos hp];refine⟨.inr ⟨i,by simp,hi⟩,λk hk=>?_⟩;rcases GO.1 hk with hk|hk
   .obtain⟨z,hz,hz'⟩:=ih.all k hk;have gz:fi n z:=by rw[hIs]at hz;exact cE.good hz
    exact⟨z,hz,yb gx.len gy.len hz' hp gz.len⟩
   .simp at hk;subst hk;exact⟨y,hi,cj _⟩
  .rw[if_neg hp];refine⟨?_,λk hk=>?_⟩
   .rcases ih.is with e|⟨k,hk,e⟩
    .exact .inl e
    .exact .inr ⟨k,by simp[hk],e⟩
   .rcases GO.1 hk with hk|hk
    .exact ih.all k hk
    .simp at hk;subst hk;exact⟨y,hi,by simpa using hp⟩
theorem kB:∀(xs:List TryV) (x:TryV),fi n x->(∀y∈xs,fi n y)->fi n (xs.foldl J.pick x)/\(xs.foldl J.pick x=x\/xs.foldl J.pick x∈xs)/\bw x.key (xs.foldl J.pick x).key=false/\∀y∈xs,bw y.key (xs.foldl J.pick x).key=false
 |[],x,gx,_=>⟨gx,.inl rfl,cj _,λy hy=>by simp at hy⟩
 |y::xs,x,gx,h=>by
  have gy:=h y (by simp);have hk:J.lt y x=bw y.key x.key:=by rw[hlt];exact qr gy gx
  rw[List.foldl_cons];by_cases hp:bw y.key x.key=true
  .have e:J.pick x y=y:=by unfold Jb.pick;rw[hk,if_pos hp]
   rw[e];obtain⟨a,b,c,d⟩:=kB xs y gy λz hz=>h z (by simp[hz])
   refine⟨a,b.elim (λe=>.inr (by simp[e])) (λe=>.inr (by simp[e])),?_,λz hz=>?_⟩
   .cases hx:bw x.key (xs.foldl J.pick y).key with
    |false=>rfl
    |true=>rw[jm hp hx]at c;cases c
   .rcases List.mem_cons.1 hz with rfl|hz
    .exact c
    .exact d z hz
  .have e:J.pick x y=x:=by unfold Jb.pick;rw[hk,if_neg hp]
   rw[e];obtain⟨a,b,c,d⟩:=kB xs x gx λz hz=>h z (by simp[hz])
   refine⟨a,b.elim .inl (λe=>.inr (by simp[e])),c,λz hz=>?_⟩;rcases List.mem_cons.1 hz with rfl|hz
   .exact iE gy.len gx.len a.len (by simpa using hp) c
   .exact d z hz
end
theorem ye {f:Nat->Mv}{n nn:Nat}{o:Nat->Nat->Nat}{x:TryV}(h:Ej ltTry (λi x=>cE f n (o i) x) nn x):
  (x=noTry\/∃k,k<nn/\cE f n (o k) x)/\∀k,k<nn->bw ((bK f (o k) n).map (dn f n)) x.key=false:=by
 obtain⟨J,xs,seq,hlt,hIs,h4,hB,hall,hlow,rfl⟩:=h;have hL:∀i y,xs[i]?=some y->wJ J n (seq i) y:=λi y hy=>pI hlt hIs (hB i y hy)
 have hg:∀y∈xs,fi n y:=λy hy=>by
  obtain⟨i,hi⟩:=List.getElem?_of_mem hy;exact(hL i y hi).good hlt hIs
 match xs,h4,hL,hg with
 |x::r,h4,hL,hg=>
  obtain⟨a,b,c,d⟩:=kB hlt hIs r x (hg x (by simp)) λy hy=>hg y (by simp[hy])
  have hle:∀y∈x::r,bw y.key (r.foldl J.pick x).key=false:=λy hy=>by
   rcases List.mem_cons.1 hy with rfl|hy
   .exact c
   .exact d y hy
  have hmem:r.foldl J.pick x∈x::r:=b.elim (λe=>by rw[e];simp) (λe=>by simp[e]);refine⟨?_,λk hk=>?_⟩
  .obtain⟨i,hi⟩:=List.getElem?_of_mem hmem;have hi4:i<4:=by have:=(Gw.1 hi).1;omega
   rcases(hL i _ hi).is with e|⟨k,hk,e⟩
   .exact .inl e
   .rw[hIs]at e;exact .inr ⟨k,hlow i hi4 k hk,e⟩
  .obtain⟨i,hi,hm⟩:=hall k hk;obtain⟨y,hy⟩:∃y,(x::r)[i]?=some y:=⟨_,GI (by omega)⟩;have hyL:=hL i y hy;obtain⟨z,hz,hz'⟩:=hyL.all k hm;rw[hIs]at hz;rw[<-cE.key hz];exact iE (cE.good hz).len (hyL.good hlt hIs).len a.len hz' (hle y (List.mem_of_getElem? hy))
theorem zR {f:Nat->Mv}{n:Nat}{L:List (List Nat)}{x:TryV}(h:Ej ltTry (λi x=>cE f n (pl (L.getD i [])) x) L.length x):
  match dc f n L with
  |some T=>x.ok=true/\x.n=n/\x.cap=n/\x.a≠none/\∀i,i<n->x.g i=T i
  |none=>x.ok=false/\x.n=0/\x.cap=0/\x.a=none:=by
 obtain⟨h1,h2⟩:=ye (o:=λi=>pl (L.getD i [])) h;obtain⟨k1,_,k3⟩:=tS f n L none;change (dc f n L=none\/∃l∈L,dc f n L=bK f (pl l) n)at k1;change ∀l∈L,bw _ ((dc f n L).map (dn f n))=false at k3;have hG:∀k,k<L.length->L.getD k []∈L:=λk hk=>by simp[hk]
 have hI:∀l∈L,∃k,k<L.length/\L.getD k []=l:=λl hl=>by
  obtain⟨k,hk⟩:=List.getElem?_of_mem hl;exact⟨k,(Gw.1 hk).1,by simp[List.getD,hk]⟩
 have hno:x.ok=false->x.n=0/\x.cap=0/\x.a=none/\x.key=none:=λe=>by
  refine and_assoc.1 (and_assoc.1 ⟨?_,by simp[TryV.key,e]⟩)|>λh=>h
  rcases h1 with rfl|⟨k,hk,h1⟩
  .exact⟨⟨rfl,rfl⟩,rfl⟩
  .unfold cE at h1;split at h1
   .rw[h1.1]at e;cases e
   .exact⟨⟨h1.2.2.2.1,h1.2.2.2.2.1⟩,h1.2.2.2.2.2⟩
 cases hb:dc f n L with
 |none=>
  cases hx:x.ok with
  |false=>obtain⟨a,b,c,d⟩:=hno hx;exact⟨rfl,a,b,c⟩
  |true=>
   exfalso;rcases h1 with rfl|⟨k,hk,h1⟩
   .simp[noTry]at hx
   .have:=k3 _ (hG k hk);rw[hb]at this;unfold cE at h1;split at h1
    .rename_i T e;try dsimp only at e
     rw[e]at this;simp[bw]at this
    .rw[h1.1]at hx;cases hx
 |some T=>
  rw[hb]at k1 k3;obtain⟨l,hl,e⟩:=k1.resolve_left (by simp);obtain⟨k,hk,e2⟩:=hI l hl;have h3:=h2 k hk;try dsimp only at h3
  rw[e2,<-e]at h3;cases hx:x.ok with
  |false=>rw[(hno hx).2.2.2]at h3;simp[bw]at h3
  |true=>
   rcases h1 with rfl|⟨q,hq,h1⟩
   .simp[noTry]at hx
   .have hkey:=cE.key h1;have h4:=k3 _ (hG q hq);rw[<-hkey]at h4;unfold cE at h1;split at h1
    .rename_i S e3;try dsimp only at e3
     try dsimp only at hkey
     rw[e3]at hkey;rw[hkey]at h3 h4;have:=oC (by rw[jp,jp]) h3 h4;unfold dn at this;simp only[List.cons.injEq]at this;have hi:=tR n 0 this.2.2;exact⟨rfl,h1.2.2.2.1,h1.2.2.2.2.1,h1.2.2.2.2.2.2,λi hi'=>(h1.2.2.2.2.2.1 i hi').trans (hi i (by omega) (by omega)).symm⟩
    .rw[h1.1]at hx;cases hx
end
section
open Go Go.Conc Go.RowKit
theorem aI {w w':World}{b off n:Nat}{f:Nat->Mv}(h:ak w b off n f)(e:w'.heap[b]?=w.heap[b]?):ak w' b off n f:=λi hi=>by
 obtain⟨c0,c1,c2,c3,c4,c5⟩:=h i hi;have k:∀{j:Nat} {v:Value},w.cell? ⟨b,j,none⟩=some v->w'.cell? ⟨b,j,none⟩=some v:=λ{j v} hv=>by simp only[World.cell?,e]at hv⊢;exact hv
 exact⟨k c0,k c1,k c2,k c3,k c4,k c5⟩
theorem ju {w w':World}{b n:Nat}{g:Nat->Int}(h:an w b n g)(e:w'.heap[b]?=w.heap[b]?):an w' b n g:=by
 obtain⟨⟨cs,h1,h2⟩,h3⟩:=h;exact⟨⟨cs,e.trans h1,h2⟩,λi hi=>by have:=h3 i hi;simp only[World.cell?,e]at this⊢;exact this⟩
theorem oN {w w':World}{b:Nat}(h:aQ w b)(e:w'.heap[b]?=w.heap[b]?):aQ w' b:=by
 obtain⟨cs,t,h1,h2⟩:=h;exact⟨cs,t,e.trans h1,h2⟩
theorem fC {a:Array Value}{i:Nat}{v:Value}(h:a[i]?=some v):a.getD i undef=v:=by simp[Array.getD_eq_getD_getElem?,h]
def dy (r:Option (Nat->Int))(n:Nat)(V:World)(v:Value)(V':World):Prop:=
 (match r with
 |some T=>∃B c,V.heap.size<=B/\v=.tuple #[.slice (some ⟨B,0,none⟩) n c,.bool true]/\an V' B n T
 |none=>∃a c,v=.tuple #[.slice a 0 c,.bool false])/\Bl V.heap.size V V'
theorem Ai {b off n cap:Nat}{f:Nat->Mv}{shift:Int}{w:World}(hn:n<=1048576)(hbs:b<w.heap.size)(hrow:ak w b off n f){p:List Nat->Bool}(hp:wN f n shift p)(h0:0<=shift):0<((az n).filter p).length:=by
 obtain⟨e,w',⟨g,_,_,hg,_⟩,_⟩:=mS (jY b off n cap f w hn hbs hrow);obtain⟨l,hl,hgl⟩:=sU (n:=n) (g:=g) hg.low hg.inj;have hs:bO (λi=>((pl l i:Nat):Int)) (λi=>((g i:Nat):Int)) n 0:=by
  refine⟨Int.le_refl _,by omega,λi k hi hk he=>?_,.inl rfl⟩;rw[hgl i hi]at he;have:i=k:=by
   rcases Nat.lt_trichotomy i k with h|h|h
   .exact absurd (by omega) (hg.inj i k h hk)
   .exact h
   .exact absurd (by omega) (hg.inj k i h hi)
  omega
 have:=(hp g hg l hl 0 hs).2 h0;exact List.length_pos_of_mem (List.mem_filter.2 ⟨hl,this⟩)
theorem Dy {w:World}{b off n NB nc:Nat}{f:Nat->Mv}{p:List Nat->Bool}{vals:List Value}{lo:Nat}(hm:aw f n=true)(hrow:ak w b off n f)(hplain:aQ w b)(hpos:0<((az n).filter p).length)
  (own:w.ownsRow lo 164 1 (.slice (some ⟨NB,0,none⟩) ((az n).filter p).length nc) ((az n).filter p).length vals)(rows:ey w n lo vals ((az n).filter p)):
  ∃tb toff tc,D5 w b off n NB 0 ((az n).filter p).length f tb toff tc (λi=>pl (((az n).filter p).getD i [])):=by
 have h6:=aN hm;have hx:∀i,∃q:Nat×Nat,i<((az n).filter p).length->vals[i]?=some (Value.slice (some ⟨q.1,0,none⟩) n q.2)/\n<=q.2/\dY w q.1/\al w q.1 0 n (λj=>((pl (((az n).filter p).getD i []) j:Nat):Int)):=λi=>by
  by_cases hi:i<((az n).filter p).length
  .obtain⟨tb,tc,h1,h2,h3,h4,h5⟩:=rows i (((az n).filter p).getD i []) (by simp[hi]);exact⟨(tb,tc),λ_=>⟨h1,h2,h4,h5⟩⟩
  .exact⟨(0,0),λh=>absurd h hi⟩
 have hmem:∀i,i<((az n).filter p).length->((az n).filter p).getD i []∈az n:=λi hi=>by
  have:((az n).filter p).getD i []∈(az n).filter p:=by simp only[List.getD_eq_getElem?_getD,List.getElem?_eq_getElem hi,Option.getD_some];exact List.getElem_mem hi
  exact(List.mem_filter.1 this).1
 refine⟨λi=>(hx i).choose.1,λ_=>0,λi=>(hx i).choose.2,⟨hm,hrow,hplain,λi hi=>?_,λi hi=>?_,λi hi=>((hx i).choose_spec hi).2.1,λi hi=>((hx i).choose_spec hi).2.2.2,λi hi=>(dV (hmem i hi)).2.1,λi hi=>(dV (hmem i hi)).2.2,?_,hpos⟩⟩
 .rw[Nat.zero_add,own.cellAt i (by omega)];exact((hx i).choose_spec hi).1
 .obtain⟨cs,g1,g2⟩:=((hx i).choose_spec hi).2.2.1;exact⟨cs,_,g1,λv hv=>.inr (.inl (by obtain⟨x,rfl⟩:=g2 v hv;exact⟨_,_,rfl⟩))⟩
 .have h1:=(fd n h6).1;have h2:=List.length_filter_le p (az n);omega
section
variable [Gl]{ok:Ctx}{c:Frame}{Dr:FuncId->Array Value->World->(Value->World->Prop)->Prop}{Q:Value->World->Prop}{P0:Program}
theorem ap.ret {b:Frame}{a:Act}{k:List Item}{cs:List Frame}{V:World}(E:bG P0 ok c Dr)(hb:ok.inn b.fn=true)(h:ap P0 ok c Dr Q ⟨{b.at a (.code .ret::k)with mode:=.returning},cs,V⟩):ap P0 ok c Dr Q ⟨b.at a (.code .ret::k),cs,V⟩:=
 ap.of_steps E.pair E.shut E.floor (λs1=>∃τ d,s1=St.re ⟨{b.at a (.code .ret::k)with mode:=.returning},cs,V⟩ τ d) (by rintro _ ⟨τ,d,rfl⟩;exact hb) (λτ d=>⟨_,⟨τ,d,rfl⟩,.one step_ret⟩) (by rintro _ ⟨τ,d,rfl⟩;exact λτ' d'=>h τ' d')
theorem ap.last {b:Frame}{a:Act}{k:List Item}{cs:List Frame}{V:World}(E:bG P0 ok c Dr)(hb:ok.inn b.fn=true)(ss:List Code)(R:Act->World->Prop)
  (h:∀τ d,aD P0 (λe a w=>(e=.normal/\R a w)\/(e=.ret/\R a w)) ss a (re V τ d))(hR:∀a' w' todo,R a' w'->ap P0 ok c Dr Q ⟨{b.at a' todo with mode:=.returning},cs,w'⟩):
  ap P0 ok c Dr Q ⟨b.at a (.code (Proofs.YtlmcblcijndipabGreatDoor.chain ss .ret)::k),cs,V⟩:=
 ap.chain E hb ss .ret R R h (λa' w' h'=>ap.ret E hb (hR a' w' _ h')) hR
theorem ap.opsFrom {b:Frame}{a:Act}{k:List Item}{cs:List Frame}{V:World}(E:bG P0 ok c Dr)(hb:ok.inn b.fn=true){ops:Array Oper}(j m:Nat)(hm:j+m<=ops.size)(K:Act->World->Prop)
  (h:∀τ d,wpList P0 ops (λe a w=>e=.normal/\K a w) ((ops.toList.drop j).take m) a (re V τ d))(hK:∀a' w',K a' w'->ap P0 ok c Dr Q ⟨b.at a' (.inRegion ops (List.range' (j+m) (ops.size-(j+m)))::k),cs,w'⟩):
  ap P0 ok c Dr Q ⟨b.at a (.inRegion ops (List.range' j (ops.size-j))::k),cs,V⟩:=by
 have hl:((ops.toList.drop j).take m).length=m:=by simp;omega
 have e:List.range' j (ops.size-j)=List.range' j ((ops.toList.drop j).take m).length++List.range' (j+m) (ops.size-(j+m)):=by
  rw[hl,List.range'_append_1];congr 1;omega
 rw[e];refine ap.ops E hb j _ _ K (λi hi=>?_) h hK;rw[hl]at hi;rw[List.getElem?_take,if_pos hi,List.getElem?_drop];simp
theorem bh {ops:Array Oper}:List.range ops.size=List.range' 0 (ops.size-0):=by rw[List.range_eq_range'];rfl
theorem BL (E:bG Tz.prog ok c Dr24)(hSB:ok.inn 151=true)(hbt:ok.inn 181=false){r0:Frame}{cs:List Frame}{V:World}(hr0:ok.inn r0.fn=true)
  {b off n cap:Nat}{f:Nat->Mv}{shift:Int}(hn:n<=1048576)(hbs:b<V.heap.size)(hrow:ak V b off n f)(hplain:aQ V b){p:List Nat->Bool}(hp:wN f n shift p)
  (hcont:∀v V',dy (jZ f n shift p) n V v V'->ap Tz.prog ok c Dr24 Q ⟨r0.finish v,cs,V'⟩):
  ap Tz.prog ok c Dr24 Q ⟨Frame.enter Tz.prog 151 #[.slice (some ⟨b,off,none⟩) n cap,.int .i64 shift] .normal,r0::cs,V⟩:=by
 have hE:=enter_at (P:=Tz.prog) #[.slice (some ⟨b,off,none⟩) n cap,.int .i64 shift] Tz.func151 rfl;simp only[Tryz.ntmps151,List.size_toArray,List.length_cons,List.length_nil,Nat.reduceAdd,Nat.reduceSub,Array.replicate_succ,Array.replicate_zero,List.push_toArray,List.append_toArray,List.nil_append,List.cons_append]at hE;rw[hE];by_cases hg:aw f n=true/\0<=shift/\shift<=6
 .obtain⟨hm,hs0,hs6⟩:=hg;have hs0':¬shift<0:=by omega
  have hs6':¬6<shift:=by omega
  refine ap.chain E hSB [_,_] _ (λa w=>Bl V.heap.size V w/\∃u2 u3 u4 u5 u6 u7 u8 u9 u10 u11 u12 u13 u14 u15 u16 u17 u18 u19 u20 u21 u22 u23 u24 u25 u26,a=⟨#[.slice (some ⟨b,off,none⟩) n cap,.int .i64 shift,u2,u3,u4,u5,u6,u7,u8,u9,u10,u11,u12,u13,u14,u15,u16,u17,u18,u19,u20,u21,u22,u23,u24,u25,u26],[]⟩) (λ_ _=>False) ?_ ?_ (λ_ _ _ h=>h.elim)
  .intro τ d;have H1:=c9 b off n cap f (re V τ d) hn hbs (aI hrow rfl);rw[hm]at H1;simp only[aD];clear hE;go_wp2_with(go_at_call 127;refine H1.mono ?_;clear H1;rintro e w1 ⟨rfl,b1⟩)
   left;refine⟨by first|rfl|trivial,Bl.ofR b1,?_⟩;repeat apply Exists.intro
   rfl
  .rintro a w1 ⟨hb1,u2,u3,u4,u5,u6,u7,u8,u9,u10,u11,u12,u13,u14,u15,u16,u17,u18,u19,u20,u21,u22,u23,u24,u25,u26,rfl⟩;refine ap.seq E hSB (ap.region E hSB ?_);rw[bh];have hrow1:=aI hrow (hb1.block b hbs);have hz1:=hb1.size;have hpos:=Ai (cap:=cap) hn hbs hrow hp hs0;refine ap.opsFrom E hSB 0 4 (by simp) (λa w=>Bl w1.heap.size w1 w/\(∃NB nc vals,w.ownsRow w1.heap.size 164 1 (.slice (some ⟨NB,0,none⟩) ((az n).filter p).length nc) ((az n).filter p).length vals/\ey w n w1.heap.size vals ((az n).filter p)/\∃u2 u3 u4 u5 u6 u7 u8 u9 u10 u11 u12 u13 u14 u15 u16 u17 u19 u20 u22 u23 u24 u25 u26,a=⟨#[.slice (some ⟨b,off,none⟩) n cap,.int .i64 shift,u2,u3,u4,u5,u6,u7,u8,u9,u10,u11,u12,u13,u14,u15,u16,u17,.slice (some ⟨b,off,none⟩) n cap,u19,u20,.slice (some ⟨NB,0,none⟩) ((az n).filter p).length nc,u22,u23,u24,u25,u26],[]⟩)) ?_ ?_
   .intro τ d;have H2:=Ab b off n cap f shift (re w1 τ d) hm (by show b<w1.heap.size;omega) (aI hrow1 rfl) p hp;clear hE;simp only[List.drop_zero,List.take_succ_cons,List.take_zero];go_wp2_with(go_at_call 182;refine H2.mono ?_;clear H2;rintro e w2 ⟨⟨v,vals,rfl,o2,r2⟩,b2⟩)
    obtain⟨M,hM⟩:∃M,((az n).filter p).length=M+1:=⟨((az n).filter p).length-1,by omega⟩;obtain⟨NB,nc,rfl⟩:∃NB nc,v=.slice (some ⟨NB,0,none⟩) ((az n).filter p).length nc:=by rw[hM]at o2⊢;exact jt o2
    exact⟨Bl.ofR b2,NB,nc,vals,o2,r2,rfl⟩
   .rintro a w2 ⟨hb2,NB,nc,vals,o2,r2,u2,u3,u4,u5,u6,u7,u8,u9,u10,u11,u12,u13,u14,u15,u16,u17,u19,u20,u22,u23,u24,u25,u26,rfl⟩;have hb12:Bl V.heap.size V w2:=hb1.trans hb2 hz1;have hz2:=hb2.size;obtain⟨tb,toff,tc,hfed⟩:=Dy hm (aI hrow (hb12.block b hbs)) (oN hplain (hb12.block b hbs)) hpos o2 r2;refine ap.doorOp E (i:=4) rfl rfl hbt (λw=>?_) (λτ d=>.inl ⟨rfl,b,off,n,cap,NB,0,_,nc,f,tb,toff,tc,_,rfl,hfed.re τ d,rfl⟩) ?_
    .simp[execOp,resolve,invoke,Act.eval,go_sem]
    .rintro τ d v V3 ⟨x,aL,hA,haL,rfl,hfr⟩;have hbst:=zR hA;have hB3:Bl w2.heap.size w2 V3:=by
      rcases hfr with⟨_,_,rfl⟩|⟨cs,_,rfl,_⟩
      .exact⟨Gm _,λ_ _=>rfl⟩
      .exact⟨by simp[re],λk hk=>Gc _ _ _ hk⟩
     have hB03:Bl V.heap.size V V3:=hb12.trans hB3 (by omega);have hz3:=hB3.size;have hpost:∀w',Bl V3.heap.size V3 w'->dy (jZ f n shift p) n V (.tuple #[.slice aL x.n x.cap,.bool x.ok]) w':=λw' hw'=>by
      refine⟨?_,hB03.trans hw' (by omega)⟩;unfold jZ;rw[if_pos ⟨hm,hs0,hs6⟩];cases hO:dc f n ((az n).filter p)with
      |none=>
       rw[hO]at hbst;obtain⟨h1,h2,h3,h4⟩:=hbst;exact⟨aL,x.cap,by rw[h1,h2]⟩
      |some T=>
       rw[hO]at hbst;obtain⟨h1,h2,h3,h4,h5⟩:=hbst;rcases hfr with⟨h,_⟩|⟨cs,ha,rfl,hi,hrow3,_,hsz⟩
       .exact absurd (haL.2 h) h4
       .replace ha:aL=some ⟨w2.heap.size,0,none⟩:=ha;replace hsz:cs.size=x.n:=hsz;have hnew:((re w2 τ d).alloc (.cells cs 3)).heap[w2.heap.size]?=some (.cells cs 3 (0,0)):=heap_alloc_new (re w2 τ d) _;have hrow4:al ((re w2 τ d).alloc (.cells cs 3)) w2.heap.size 0 n T:=by
         rcases hrow3 with h|⟨b5,o5,h,hr⟩
         .replace h:x.n=0:=h;intro i hi';omega
         .replace h:aL=some ⟨b5,o5,none⟩:=h;rw[ha]at h;simp only[Option.some.injEq,Addr.mk.injEq]at h;obtain⟨rfl,rfl,_⟩:=h;intro i hi';have:=hr i (by show i<x.n;omega);rw[this];exact congrArg (λz=>some (Value.int .i64 z)) (h5 i hi')
        refine⟨w2.heap.size,x.cap,by omega,by rw[h1,h2,ha],?_⟩;have hlt:w2.heap.size<((re w2 τ d).alloc (.cells cs 3)).heap.size:=by simp[re]
        exact ju ⟨⟨cs,hnew,by omega⟩,hrow4⟩ (hw'.block _ hlt)
     clear hA hbst hfr;refine ap.opsFrom E hSB 5 2 (by simp) (λa w=>Bl V3.heap.size V3 w/\∃B6,w.cell? ⟨B6,0,none⟩=some (.bool x.ok)/\w.cell? ⟨B6,3,none⟩=some (.slice aL x.n x.cap)/\∃u0 u1 u2 u3 u4 u5 u7 u8 u9 u10 u11 u12 u13 u14 u15 u16 u17 u18 u19 u20 u21 u22 u23 u24 u25 u26,a=⟨#[u0,u1,u2,u3,u4,u5,.pointer (some ⟨B6,0,none⟩),u7,u8,u9,u10,u11,u12,u13,u14,u15,u16,u17,u18,u19,u20,u21,u22,u23,u24,u25,u26],[]⟩) ?_ ?_
     .intro τ' d';clear hE hpost;simp only[List.drop_succ_cons,List.drop_zero,List.take_succ_cons,List.take_zero,Act.put,TryV.val];go_wp2;exact⟨by simp[re],λk hk=>Gc _ _ _ hk⟩
     .rintro a w4 ⟨hb4,B6,c0,c3,u0,u1,u2,u3,u4,u5,u7,u8,u9,u10,u11,u12,u13,u14,u15,u16,u17,u18,u19,u20,u21,u22,u23,u24,u25,u26,rfl⟩;refine ap.regionEnd E hSB ?_;refine ap.last E hSB [_] (λa w=>Bl V3.heap.size V3 w/\a.defers=[]/\a.tmps[4]?=some (.slice aL x.n x.cap)/\a.tmps[5]?=some (.bool x.ok)) ?_ ?_
      .intro τ' d';have c0':(re w4 τ' d').cell? ⟨B6,0,none⟩=some (.bool x.ok):=c0;have c3':(re w4 τ' d').cell? ⟨B6,3,none⟩=some (.slice aL x.n x.cap):=c3;clear hE hpost c0 c3;simp only[aD];go_quiet (fail)
       left;refine⟨by first|rfl|trivial,hb4.trans (M:=w4.heap.size) ⟨Gm _,λ_ _=>rfl⟩ hb4.size,?_⟩;first|exact⟨rfl,rfl,rfl⟩|simp
      .rintro a w5 todo ⟨h1,h2,h3,h4⟩;refine ap.leave E hr0 (v:=.tuple #[.slice aL x.n x.cap,.bool x.ok]) (λτ d=>⟨rfl,h2,rfl,_,Tz.func151,?_⟩) (hcont _ _ (hpost _ h1));have:=results_tmp2 (fn:=Tryz.f151) rfl a.tmps Tz.prog (re w5 τ d);rw[fC h3,fC h4]at this;exact this
 .refine ap.chain E hSB [_,_] _ (λ_ _=>False) (λa w=>Bl V.heap.size V w/\a.defers=[]/\a.tmps[4]?=some (.slice none 0 0)/\a.tmps[5]?=some (.bool false)) ?_ (λ_ _ h=>h.elim) ?_
  .intro τ d;have H1:=c9 b off n cap f (re V τ d) hn hbs (aI hrow rfl);simp only[aD];cases hm:aw f n with
   |false=>
    rw[hm]at H1;clear hE;go_wp2_with(go_at_call 127;refine H1.mono ?_;clear H1;rintro e w1 ⟨rfl,b1⟩)
    right;refine⟨by first|rfl|trivial,Bl.ofR b1,?_⟩;first|exact⟨rfl,rfl,rfl⟩|simp
   |true=>
    rw[hm]at H1;by_cases h0:shift<0
    .clear hE;go_wp2_with(go_at_call 127;refine H1.mono ?_;clear H1;rintro e w1 ⟨rfl,b1⟩)
     right;refine⟨by first|rfl|trivial,Bl.ofR b1,?_⟩;first|exact⟨rfl,rfl,rfl⟩|simp
    .have h6:6<shift:=by have:¬(0<=shift/\shift<=6):=λh=>hg ⟨hm,h⟩;omega
     have h0':0<=shift:=by omega
     clear hE;go_wp2_with(go_at_call 127;refine H1.mono ?_;clear H1;rintro e w1 ⟨rfl,b1⟩)
     right;refine⟨by first|rfl|trivial,Bl.ofR b1,?_⟩;first|exact⟨rfl,rfl,rfl⟩|simp
  .rintro a w todo ⟨h1,h2,h3,h4⟩;refine ap.leave E hr0 (v:=.tuple #[.slice none 0 0,.bool false]) (λτ d=>⟨rfl,h2,rfl,_,Tz.func151,?_⟩) (hcont _ _ ⟨by unfold jZ;rw[if_neg hg];exact⟨none,0,rfl⟩,h1⟩);have:=results_tmp2 (fn:=Tryz.f151) rfl a.tmps Tz.prog (re w τ d);rw[fC h3,fC h4]at this;exact this
end
def DQ:List (Nat×Value)->Value->Nat->Value
 |[],d,_=>d
 |(j,v)::l,d,i=>if i=j then v else DQ l d i
def DR (l:List (Nat×Value))(u:Nat->Value):Nat->Nat->List Value
 |_,0=>[]
 |i,k+1=>DQ l (u i) i::DR l u (i+1) k
def rW (n:Nat)(l:List (Nat×Value))(u:Nat->Value):Array Value:=(DR l u 0 n).toArray
@[go_sem] theorem EC (n:Nat) (l:List (Nat×Value)) (u:Nat->Value):rW n l u=(DR l u 0 n).toArray:=rfl
@[go_sem] theorem ED (l:List (Nat×Value)) (u:Nat->Value) (i k:Nat):DR l u i (k+1)=DQ l (u i) i::DR l u (i+1) k:=rfl
@[go_sem] theorem EE (l:List (Nat×Value)) (u:Nat->Value) (i:Nat):DR l u i 0=[]:=rfl
@[go_sem] theorem EF (j:Nat) (v:Value) (l:List (Nat×Value)) (d:Value) (i:Nat):DQ ((j,v)::l) d i=if i=j then v else DQ l d i:=rfl
@[go_sem] theorem EG (d:Value) (i:Nat):DQ [] d i=d:=rfl
def aZ (a:Act)(s:(Nat->Value)->Array Value):Prop:=a.defers=[]/\a.tmps=s (λi=>a.tmps.getD i undef)
theorem aZ.open {a:Act}{s:(Nat->Value)->Array Value}(h:aZ a s):∃u,a=⟨s u,[]⟩:=by
 obtain⟨h1,h2⟩:=h;refine⟨λi=>a.tmps.getD i undef,?_⟩;rw[<-h2,<-h1]
theorem cD {b:Frame}{a:Act}{ops:Array Oper}{i:Nat}{r:List Nat}{k:List Item}{o:Oper}(ho:ops[i]?=some o)(v:Value):(b.at a (.inRegion ops (i::r)::k)).finish v=b.at (a.put o.dst v) (.inRegion ops r::k):=by
 rw[Frame.finish_at,ho];rfl
section
variable [Gl]{ok:Ctx}{c:Frame}
theorem ap.bestOp {Q:Value->World->Prop}(E:bG Tz.prog ok c Dr24)(hSB:ok.inn 151=true)(hbt:ok.inn 181=false){b:Frame}{a:Act}{k:List Item}{cs:List Frame}{V:World}(hb:ok.inn b.fn=true){ops:Array Oper}{i:Nat}{r:List Nat}{o:Oper}(ho:ops[i]?=some o)(hw:Region.wanted o (yielded ops a.tmps)=true)
  {B off n cap:Nat}{f:Nat->Mv}{shift:Int}(hx:∀w,(execOp a.eval o).run Tz.prog w=.ok (.enter 151 #[.slice (some ⟨B,off,none⟩) n cap,.int .i64 shift]) w)
  (hn:n<=1048576)(hbs:B<V.heap.size)(hrow:ak V B off n f)(hplain:aQ V B){p:List Nat->Bool}(hp:wN f n shift p)
  (hcont:∀v V',dy (jZ f n shift p) n V v V'->ap Tz.prog ok c Dr24 Q ⟨b.at (a.put o.dst v) (.inRegion ops r::k),cs,V'⟩):ap Tz.prog ok c Dr24 Q ⟨b.at a (.inRegion ops (i::r)::k),cs,V⟩:=
 ap.enterOp E ho hw hSB hx (BL E hSB hbt (r0:=b.at a (.inRegion ops (i::r)::k)) hb hn hbs hrow hplain hp (λv V' hv=>by rw[cD ho];exact hcont v V' hv))
end
def Tk (r:Option (Nat->Int))(m lo:Nat)(w:World)(v:Value):Prop:=
 match r with
 |some T=>∃B c,lo<=B/\v=.slice (some ⟨B,0,none⟩) m c/\an w B m T
 |none=>∃a c,v=.slice a 0 c
theorem Tk.same {r:Option (Nat->Int)}{m lo:Nat}{w w':World}{v:Value}(h:Tk r m lo w v)(e:∀b,lo<=b->b<w.heap.size->w'.heap[b]?=w.heap[b]?):Tk r m lo w' v:=by
 cases r with
 |none=>exact h
 |some T=>obtain⟨B,c,h1,h2,h3⟩:=h;exact⟨B,c,h1,h2,ju h3 (e B h1 h3.lt)⟩
theorem rV {r:Option (Nat->Int)}{m:Nat}{V V':World}{v:Value}(h:dy r m V v V'):∃v5,v=.tuple #[v5,.bool r.isSome]/\Tk r m V.heap.size V' v5/\Bl V.heap.size V V':=by
 cases r with
 |none=>obtain⟨⟨a,c,rfl⟩,hb⟩:=h;exact⟨_,rfl,⟨a,c,rfl⟩,hb⟩
 |some T=>obtain⟨⟨B,c,h1,rfl,h2⟩,hb⟩:=h;exact⟨_,rfl,⟨B,c,h1,rfl,h2⟩,hb⟩
theorem wR {w:World}{b n k:Nat}{h:Nat->Mv}(hr:ak w b 0 n h)(hk:k<n)(x:Int):ak (w.setCell ⟨b,k*6+3,none⟩ (.int .i64 x)) b 0 n (λi=>if i=k then{h k with est:=x}else h i):=λi hi=>by
 obtain⟨c0,c1,c2,c3,c4,c5⟩:=hr i hi;have o:∀j,j≠k*6+3->(w.setCell ⟨b,k*6+3,none⟩ (.int .i64 x)).cell? ⟨b,j,none⟩=w.cell? ⟨b,j,none⟩:=λj hj=>World.cell?_setCell_other _ _ _ _ (by intro e;cases e;exact hj rfl)
 by_cases e:i=k
 .subst e;simp only[if_true];have c3':w.cell? ⟨b,i*6+3,none⟩=some (.int .i64 (h i).est):=by rw[<-c3];congr 2;omega
  have s:(w.setCell ⟨b,i*6+3,none⟩ (.int .i64 x)).cell? ⟨b,i*6+3,none⟩=some (.int .i64 x):=World.cell?_setCell_same' _ _ _ (by rw[c3'];rfl);exact⟨(o _ (by omega)).trans c0,(o _ (by omega)).trans c1,(o _ (by omega)).trans c2,by rw[<-s];congr 2;omega,(o _ (by omega)).trans c4,(o _ (by omega)).trans c5⟩
 .simp only[if_neg e];exact⟨(o _ (by omega)).trans c0,(o _ (by omega)).trans c1,(o _ (by omega)).trans c2,(o _ (by omega)).trans c3,(o _ (by omega)).trans c4,(o _ (by omega)).trans c5⟩
theorem ak.fcongr {w:World}{b off n:Nat}{h h':Nat->Mv}(hr:ak w b off n h)(e:∀i,i<n->h i=h' i):ak w b off n h':=λi hi=>by rw[<-e i hi];exact hr i hi
theorem t6 {w:World}{b:Nat}(h:aQ w b)(j:Nat):w.frozen? ⟨b,j,none⟩=false:=by obtain⟨cs,e,h1,_⟩:=h;exact frozen_of_row _ _ j _ _ h1
theorem dy.re {r:Option (Nat->Int)}{n:Nat}{V V':World}{v:Value}(h:dy r n V v V')(τ:Nat->Question->Nat)(d:Nat):dy r n V v (re V' τ d):=by
 obtain⟨h1,h2⟩:=h;refine⟨?_,⟨h2.size,h2.block⟩⟩;cases r with
 |none=>exact h1
 |some T=>obtain⟨B,c,k1,k2,k3⟩:=h1;exact⟨B,c,k1,k2,ju k3 rfl⟩
def bF (g:Nat->Mv)(frm:Int)(k i:Nat):Mv:=if i<k then eX (g i) frm else g i
theorem lw {g:Nat->Mv}{frm:Int}{k:Nat}(h:¬(g k).prom=-1)(i:Nat):bF g frm k i=bF g frm (k+1) i:=by
 unfold bF;by_cases e:i=k
 .subst e;rw[if_neg (by omega),if_pos (by omega)];unfold eX;rw[if_neg h]
 .by_cases h1:i<k
  .rw[if_pos h1,if_pos (by omega)]
  .rw[if_neg h1,if_neg (by omega)]
theorem oW {g:Nat->Mv}{frm x:Int}{k:Nat}(h:(g k).prom=-1)(hx:max (g k).est frm=x)(i:Nat):(if i=k then{bF g frm k k with est:=x}else bF g frm k i)=bF g frm (k+1) i:=by
 unfold bF;by_cases e:i=k
 .subst e;rw[if_pos rfl,if_neg (by omega),if_pos (by omega)];unfold eX;rw[if_pos h,hx]
 .rw[if_neg e];by_cases h1:i<k
  .rw[if_pos h1,if_pos (by omega)]
  .rw[if_neg h1,if_neg (by omega)]
theorem fX {m:Mv}{frm:Int}(h:m.prom=-1):bQ m frm=decide (frm<=m.late):=by unfold bQ;simp[h]
theorem oX {m:Mv}{frm:Int}(h:¬m.prom=-1):bQ m frm=true:=by unfold bQ;simp[h]
section
variable [Gl]{ok:Ctx}{c:Frame}{Q:Value->World->Prop}
theorem BO (E:bG Tz.prog ok c Dr24)(hPl:ok.inn 132=true)(hSB:ok.inn 151=true)(hbt:ok.inn 181=false){r0:Frame}{cs:List Frame}{V:World}(hr0:ok.inn r0.fn=true)
  {b n cap:Nat}{g:Nat->Mv}{now shift:Int}(hn:n<=6)(hg:∀i,i<n->(g i).ok=true)(h0:0<=now)(h1:now<=20000)(hbs:b<V.heap.size)(hrow:ak V b 0 n g)
  (hcont:∀v V',dy (eA g n now shift) n V v V'->ap Tz.prog ok c Dr24 Q ⟨r0.finish v,cs,V'⟩):
  ap Tz.prog ok c Dr24 Q ⟨Frame.enter Tz.prog 132 #[.slice (some ⟨b,0,none⟩) n cap,.int .i64 now,.int .i64 shift] .normal,r0::cs,V⟩:=by
 have hE:=enter_at (P:=Tz.prog) #[.slice (some ⟨b,0,none⟩) n cap,.int .i64 now,.int .i64 shift] Tz.func132 rfl;simp only[Tryz.ntmps132,List.size_toArray,List.length_cons,List.length_nil,Nat.reduceAdd,Nat.reduceSub,Array.replicate_succ,Array.replicate_zero,List.push_toArray,List.append_toArray,List.nil_append,List.cons_append]at hE;rw[hE];clear hE;refine ap.chain E hPl [_,_,_] _ (λa' w'=>(∀i,i<n->bQ (g i) (now+4)=true)/\Bl V.heap.size V w'/\∃B c8,V.heap.size<=B/\ak w' B 0 n (bY g (now+4))/\aQ w' B/\aZ a' (rW 46 [(2,.int .i64 shift),(8,.slice (some ⟨B,0,none⟩) n c8)])) (λa' w'=>(¬∀i,i<n->bQ (g i) (now+4)=true)/\Bl V.heap.size V w'/\a'.defers=[]/\a'.tmps[6]?=some (.slice none 0 0)/\a'.tmps[7]?=some (.bool false)) ?_ ?_ ?_
 .intro τ d;have H1:=nM b n cap g (re V τ d) (by omega) hbs (aI hrow rfl);have hbl0:∀W,Below (re V τ d).heap.size (re V τ d) W->Bl V.heap.size V W:=λW h=>Bl.ofR h
  have hz0:(re V τ d).heap.size=V.heap.size:=rfl;clear hcont hrow;simp only[aD];go_wp2_with(go_at_call 150;refine H1.mono ?_;clear H1;rintro e w1 ⟨B,c8,rfl,ow,pl1,b1⟩;have row1:=dg ow;have hB0:=(ow.lt B rfl).1;clear ow)
  have hwr:IntKind.i64.wrap (now+4)=now+4:=by rw[IntKind.wrap_i64];omega
  go_loopw [15,9,10] (λx _ _ W=>∃k:Nat,x=.int .i64 k/\k<=n/\Below (re V τ d).heap.size (re V τ d) W/\ak W B 0 n (bF g (now+4) k)/\aQ W B/\∀i,i<k->bQ (g i) (now+4)=true) (λx _ _ _=>n-(intOf x).toNat)
  case atStart=>exact⟨0,rfl,Gs _,b1,row1.fcongr λi _=>by unfold bF;rw[if_neg (by omega)],pl1,λi hi=>absurd hi (Gr _)⟩
  case round=>
   clear row1 pl1 b1;obtain⟨k,rfl,hk,hBr,hrw,hpl,hall⟩:=hrel;by_cases hlt:k<n
   .have hlt':(k:Int)<n:=by omega
    have hgk:bF g (now+4) k k=g k:=by unfold bF;rw[if_neg (Nat.lt_irrefl _)]
    have hok:=Mv.ok_bd (hg k hlt);obtain⟨c0,c1,c2,c3,c4,c5⟩:=hrw k hlt;rw[hgk]at c0 c1 c2 c3 c4 c5;simp only[Nat.zero_add]at c0 c1 c2 c3 c4 c5;have hlB:=hpl.lt;have bA:=fh wr (g k);have hMi:=jl wr (g k);by_cases hp:(g k).prom=-1
    .obtain⟨x,hx⟩:∃x,max (g k).est (now+4)=x:=⟨_,rfl⟩;have hfr3:=t6 hpl (k*6+3);go_wp2;all_goals first|(exfalso;omega)|skip
     try rw[hx]
     have rS:=(wR hrw hlt x).fcongr (λi _=>oW hp hx i);have pS:aQ (wr.setCell ⟨B,k*6+3,none⟩ (.int .i64 x)) B:=hpl.set (.inr (.inl ⟨_,_,rfl⟩));have bS:=hBr.setCell (p:=⟨B,k*6+3,none⟩) (by show(re V τ d).heap.size<=B;omega) (.int .i64 x);have eS:(wr.setCell ⟨B,k*6+3,none⟩ (.int .i64 x)).cell? ⟨B,k*6+3,none⟩=some (.int .i64 x):=World.cell?_setCell_same' _ _ _ (by rw[c3];rfl);have zS:(wr.setCell ⟨B,k*6+3,none⟩ (.int .i64 x)).heap.size=wr.heap.size:=by simp
     revert rS pS bS eS zS;generalize wr.setCell ⟨B,k*6+3,none⟩ (.int .i64 x)=W0;intro rS pS bS eS zS;have bB:Below W0.heap.size W0 (W0.alloc (.cells #[.string (g k).name,.bool (g k).lands,.int .i64 (g k).wake,.int .i64 (g k).est,.int .i64 (g k).late,.int .i64 (-1)] 36)):=(Gb _ _).alloc (Gm _) _;have e1:=(bB.cell (p:=⟨B,k*6+3,none⟩) pS.lt).trans eS;have l1:(W0.alloc (.cells #[.string (g k).name,.bool (g k).lands,.int .i64 (g k).wake,.int .i64 (g k).est,.int .i64 (g k).late,.int .i64 (-1)] 36)).cell? ⟨wr.heap.size,4,none⟩=some (.int .i64 (g k).late):=by rw[<-zS];simp
     have r1:=rS.below bB pS.lt;have p1:=pS.same (bB.block B pS.lt);have b1:=bS.trans (bB.mono bS.size);revert e1 l1 r1 p1 b1;generalize (W0.alloc (.cells #[.string (g k).name,.bool (g k).lands,.int .i64 (g k).wake,.int .i64 (g k).est,.int .i64 (g k).late,.int .i64 (-1)] 36))=W1;intro e1 l1 r1 p1 b1;clear rS pS bS eS zS bB hrw hpl hBr c0 c1 c2 c3 c4 c5 bA hMi hfr3;by_cases hle:x<=(g k).late
     .have hnl:¬(g k).late<x:=by omega
      have hdl:decide ((g k).late<x)=false:=by simpa using hnl
      have hne:=ay W1;have x0:=λx:ag W1=>x.cell e1
      have x1:=λx:ag W1=>x.cell l1
      refine af (by kernel_rfl) (by kernel_rfl) ?_;repeat(go_big_quiet_step (fail))
      refine wpQuiet_nil (ai ?_);intro w2 hb2;clear hne x0 x1;go_wp2;all_goals first|(exfalso;omega)|skip
      go_roundw
      case rel=>exact⟨k+1,by go_num,by omega,b1.trans (hb2.mono b1.size),r1.below hb2 p1.lt,p1.same (hb2.block B p1.lt),λi hi=>by
       by_cases e:i=k
       .subst e;rw[fX hp];simp;omega
       .exact hall i (by omega)⟩
      case measure=>simp[intOf];omega
     .have hnl:(g k).late<x:=by omega
      have hno:¬∀i,i<n->bQ (g i) (now+4)=true:=λh=>by
       have:=h k hlt;rw[fX hp]at this;simp at this;omega
      have hdl:decide ((g k).late<x)=true:=by simpa using hnl
      have hne:=ay W1;have x0:=λx:ag W1=>x.cell e1
      have x1:=λx:ag W1=>x.cell l1
      refine af (by kernel_rfl) (by kernel_rfl) ?_;repeat(go_big_quiet_step (fail))
      refine wpQuiet_nil (ai ?_);intro w2 hb2;clear hne x0 x1;have hend:=hbl0 _ (b1.trans (hb2.mono b1.size));go_wp2;all_goals first|(exfalso;omega)|skip
      first
       |exact⟨hno,hend⟩
       |(right;exact⟨rfl,hno,hend,rfl,rfl,rfl⟩)
       |trace_state
    .go_wp2;go_roundw
     case rel=>exact⟨k+1,by go_num,by omega,hBr.trans (bA.mono hBr.size),(hrw.below bA hlB).fcongr (λi _=>lw hp i),hpl.same (bA.block B hlB),λi hi=>by
      by_cases e:i=k
      .subst e;exact oX hp
      .exact hall i (by omega)⟩
     case measure=>simp[intOf];omega
   .have hlt':¬(k:Int)<n:=by omega
    have hkn:k=n:=by omega
    subst hkn;go_wp2;exact⟨hall,hbl0 _ hBr,B,by omega,hrw.fcongr (λi hi=>by unfold bF bY;rw[if_pos hi]),hpl,c8,rfl,rfl⟩
 .rintro a' w1 ⟨hall,hb1,B,c8,hB0,row1,pl1,hfr⟩;obtain⟨u,rfl⟩:=hfr.open;clear hfr;have hP:eA g n now shift=jZ (bY g (now+4)) n shift (jv (bY g (now+4)) n shift):=by unfold eA;rw[if_pos hall]
  have hz1:=hb1.size;refine ap.seq E hPl (ap.region E hPl ?_);rw[bh];refine ap.opsFrom E hPl 0 2 (by simp) (λa' w'=>(∃τ d,w'=re w1 τ d)/\aZ a' (rW 46 [(2,.int .i64 shift),(8,.slice (some ⟨B,0,none⟩) n c8),(41,.slice (some ⟨B,0,none⟩) n c8),(42,.int .i64 shift)])) ?_ ?_
  .intro τ d;clear hcont;simp only[List.drop_zero,List.take_succ_cons,List.take_zero];go_wp2;exact⟨⟨τ,d,rfl⟩,rfl,rfl⟩
  rintro a' w' ⟨⟨τ,d,rfl⟩,hfr⟩;clear u;obtain⟨u,rfl⟩:=hfr.open;clear hfr;refine ap.bestOp E hSB hbt hPl (i:=2) rfl rfl (B:=B) (off:=0) (n:=n) (cap:=c8) (f:=bY g (now+4)) (shift:=shift) (λw=>by simp[execOp,resolve,invoke,Act.eval,go_sem]) (by omega) pl1.lt (aI row1 rfl) (oN pl1 rfl) (oO _ n shift) ?_;intro v V2 hpost;have hpost0:dy (eA g n now shift) n V v V2:=by
   rw[hP];refine⟨?_,⟨Gq hb1.size hpost.2.size,λk hk=>(hpost.2.block k (by show k<w1.heap.size;omega)).trans (hb1.block k hk)⟩⟩;have:=hpost.1;revert this;cases jZ (bY g (now+4)) n shift (jv (bY g (now+4)) n shift)with
   |none=>exact id
   |some T=>rintro⟨B',c',h1,h2⟩;exact⟨B',c',Gq hz1 h1,h2⟩
  obtain⟨v5,rfl,t5,hb2'⟩:=rV hpost;obtain⟨br,hbr⟩:∃br,(jZ (bY g (now+4)) n shift (jv (bY g (now+4)) n shift)).isSome=br:=⟨_,rfl⟩;rw[hbr]at hpost0⊢;have hco:=hcont;clear hcont hpost hb2' t5;refine ap.opsFrom E hPl 3 4 (by simp) (λa' w'=>(∃τ d,w'=re V2 τ d)/\aZ a' (rW 46 [(6,v5),(7,.bool br)])) ?_ ?_
  .intro τ d;clear hco;simp only[List.drop_succ_cons,List.drop_zero,List.take_succ_cons,List.take_zero,Act.put];go_wp2;exact⟨⟨τ,d,rfl⟩,rfl,rfl⟩
  rintro a' w' ⟨⟨τ2,d2,rfl⟩,hfr⟩;clear u;obtain⟨u,rfl⟩:=hfr.open;clear hfr;refine ap.regionEnd E hPl (ap.ret E hPl ?_);refine ap.leave E hr0 (v:=.tuple #[v5,.bool br]) (λτ d=>⟨rfl,rfl,rfl,_,Tz.func132,?_⟩) (hco (.tuple #[v5,.bool br]) _ (hpost0.re τ2 d2));have:=results_tmp2 (fn:=Tryz.f132) rfl ((rW 46 [(6,v5),(7,.bool br)]) u) Tz.prog (re (re V2 τ2 d2) τ d);exact this
 .rintro a w todo ⟨h2,h3,h4,h5,h6⟩;refine ap.leave E hr0 (v:=.tuple #[.slice none 0 0,.bool false]) (λτ d=>⟨rfl,h4,rfl,_,Tz.func132,?_⟩) (hcont _ _ ⟨by unfold eA;rw[if_neg h2];exact⟨none,0,rfl⟩,h3⟩);have:=results_tmp2 (fn:=Tryz.f132) rfl a.tmps Tz.prog (re w τ d);rw[fC h5,fC h6]at this;exact this
end
end
