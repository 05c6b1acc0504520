import Derived.Test.YtlmcblcijndipabGreatDoorAd32
import Derived.Test.YtlmcblcijndipabGreatDoorAd10
import Derived.Laws.CopyOwn
set_option linter.unusedVariables false
set_option maxHeartbeats 1000000
namespace Go.Proofs.YtlmcblcijndipabGreatDoor
section
open Go Go.RowKit
def EK {α:Type}(f:Nat->α)(k i:Nat):α:=if i<k then f i else f (i+1)
theorem cG (B:Nat)(T:TypeId):∀(vs:List Value) (o:Nat) (w:World) (cur:Array Value),w.heap[B]?=some (.cells cur T (0,0))->∃cur',(w.setCells B o vs).heap[B]?=some (.cells cur' T (0,0))/\cur'.size=cur.size
 |[],o,w,cur,h=>⟨cur,h,rfl⟩
 |v::vs,o,w,cur,h=>by
  obtain⟨c,h1,h2⟩:=cG B T vs (o+1) (w.setCell ⟨B,o,none⟩ v) _ (heap_setCell_same w B o cur T v h);exact⟨c,h1,by simpa using h2⟩
theorem dt (B:Nat):∀(vs:List Value) (o:Nat) (w:World),(w.setCells B o vs).heap.size=w.heap.size
 |[],_,_=>rfl
 |v::vs,o,w=>by show((w.setCell _ v).setCells B (o+1) vs).heap.size=_;rw[dt B vs];simp
theorem cR (B:Nat):∀(vs:List Value) (o:Nat) (w:World) (i:Nat),i≠B->(w.setCells B o vs).heap[i]?=w.heap[i]?
 |[],_,_,_,_=>rfl
 |v::vs,o,w,i,h=>(cR B vs (o+1) (w.setCell ⟨B,o,none⟩ v) i h).trans (Gd w _ _ _ (by simpa using h))
theorem py {w:World}{N B c n s:Nat}{T:TypeId}{xs:List Value}{cur:Array Value}(hb:N<=B)(hg:w.heap[B]?=some (.cells cur T (0,0)))(hcur:cur.size=c*s)(hn:n<=c)(hc:c<=maxLen)(hl:xs.length=n*s)(h:∀j u,xs[j]?=some u->w.cell? ⟨B,j,none⟩=some u):
  w.ownsRow N T s (.slice (some ⟨B,0,none⟩) n c) n xs:=by
 refine⟨hl,.inr ⟨B,c,cur,rfl,hb,hg,hn,hc,hcur,?_⟩⟩;have hle:n*s<=c*s:=Nat.mul_le_mul_right s hn;apply List.ext_getElem?;intro j;by_cases hj:j<n*s
 .obtain⟨u,hu⟩:∃u,xs[j]?=some u:=⟨_,GI (by omega)⟩;have:=h j u hu;simp only[World.cell?,hg]at this;rw[hu,List.getElem?_take,if_pos hj];simpa using this
 .rw[Gx (by simp;omega),Gx (by omega)]
theorem cr {w:World}{N B c n s:Nat}{T:TypeId}{xs:List Value}(h:w.ownsRow N T s (.slice (some ⟨B,0,none⟩) n c) n xs):∃cur,w.heap[B]?=some (.cells cur T (0,0))/\n<=c/\c<=maxLen/\cur.size=c*s/\N<=B/\∀j u,xs[j]?=some u->w.cell? ⟨B,j,none⟩=some u:=by
 obtain⟨h1,⟨h2,_⟩|⟨g,cap,cur,h2,h3,h4,h5,h6,h7,h8⟩⟩:=h
 .cases h2
 .cases h2;refine⟨cur,h4,h5,h6,h7,h3,λj u hu=>?_⟩;rw[<-h8,List.getElem?_take]at hu;split at hu
  .simp only[World.cell?,h4];simpa using hu
  .cases hu
theorem sY (f:Nat->Mv){k n j:Nat}(hk:k<=n)(hj:j<k*6):(aG f n)[j]?=(aG f k)[j]?:=by
 have h1:=iS f n (j/6) (j%6) (by omega) (by omega);have h2:=iS f k (j/6) (j%6) (by omega) (by omega);rw[show j/6*6+j%6=j by omega]at h1 h2;rw[h1,h2]
theorem lJ {w:World}{b n k:Nat}{f:Nat->Mv}(h:ak w b 0 n f)(hk:k<=n):ak w b (k*6) (n-k) (λj=>f (k+j)):=λi hi=>by
 have:=h (k+i) (by omega);rw[show 0+(k+i)*6=k*6+i*6 by omega]at this;exact this
theorem gA {P:Program}(w:World)(dT sT ty e:TypeId)(i:TypeInfo)(size:Nat)(ht:P.underlying dT=some (.slice e))(hi:P.info? e=some i)(hs:i.size=size)(b off dLen dCap:Nat)(ad:Addr)(sLen sCap:Nat)(cs:List Value)(hn:cs.length=Nat.min sLen dLen*size)
  (hc:∀j u,cs[j]?=some u->w.cell? (ad.add j)=some u)(h1:∀u∈cs,u.oneCell'=true)(hd:∀j,j<cs.length->(w.cell? ⟨b,off+j,none⟩).isSome=true)(hf:∀j,j<cs.length->w.frozen? ⟨b,off+j,none⟩=false):
  (Builtin.copy_ #[dT,sT] ty #[.slice (some ⟨b,off,none⟩) dLen dCap,.slice (some ad) sLen sCap]).run P w=.ok (goInt (Nat.min sLen dLen)) (w.setCells b off cs):=by
 subst hs;have hl:=run_loadCells_list (P:=P) w ad cs hc;have hst:=run_storeCells_cells (P:=P) b off cs 0 w (by simpa using hd) (by simpa using hf) h1;simp only[Nat.add_zero]at hst;simp[Builtin.copy_,run_underlying ht,Builtin.lenOf,Builtin.firstCells,sizeOf,typeInfo,hi,<-hn,hl,hst]
theorem iX {P:Program}{ops:Array Oper}{o:Oper}{a:Act}{w:World}{K:Act->World->Prop}{Q:Exit->Act->World->Prop}{E:Prop}(hgd:o.guard=none)(d s:Operand)(dT sT:TypeId)
  (ho:o.op=.call {callee:=.builtin .copy,args:=#[d,s],argTypes:=#[dT,sT]})(e:TypeId)(i:TypeInfo)(size:Nat)(ht:P.underlying dT=some (.slice e))(hi:P.info? e=some i)(hs:i.size=size)
  (b off dLen dCap:Nat)(ad:Addr)(sLen sCap:Nat)(hd:a.eval d=.slice (some ⟨b,off,none⟩) dLen dCap)(hsv:a.eval s=.slice (some ad) sLen sCap)(cs:List Value)(hn:cs.length=Nat.min sLen dLen*size)
  (hc:∀j u,cs[j]?=some u->w.cell? (ad.add j)=some u)(h1:∀u∈cs,u.oneCell'=true)(hdd:∀j,j<cs.length->(w.cell? ⟨b,off+j,none⟩).isSome=true)(hf:∀j,j<cs.length->w.frozen? ⟨b,off+j,none⟩=false)
  (hK:K (a.put o.dst (goInt (Nat.min sLen dLen))) (w.setCells b off cs)):
  if Region.wanted o (yielded ops a.tmps)=true then Oper.wp P o a w K Q else E:=by
 have hw:Region.wanted o (yielded ops a.tmps)=true:=by simp[Region.wanted,hgd]
 rw[if_pos hw];have hrun:=gA (P:=P) w dT sT o.type e i size ht hi hs b off dLen dCap ad sLen sCap cs hn hc h1 hdd hf;unfold Oper.wp;simp[execOp,ho,resolve,invoke,builtin,hd,hsv,hrun,Result.andThen];exact hK
end
section
open Go.RowKit
def jO (f:Nat->Mv)(n:Nat)(name:ByteArray)(k:Int):Prop:=k=-1/\(∀i,i<n->aX (f i).name name=false)\/∃j:Nat,k=(j:Int)/\j<n/\aX (f j).name name=true/\∀i,i<j->aX (f i).name name=false
theorem pp (m:Mv)(B:Nat)(name:ByteArray)(w:World)(hB:B<w.heap.size)(hc:w.cell? ⟨B,0,none⟩=some (.string name)):
  Calls Tz.prog 276 #[.agg #[.string m.name,.bool m.lands,.int .i64 m.wake,.int .i64 m.est,.int .i64 m.late,.int .i64 m.prom],.pointer (some ⟨B,0,none⟩)] w λe w'=>e=.returned (.bool (aX m.name name))/\Below w.heap.size w w':=by
 have hc':(w.alloc (.cells #[.string m.name,.bool m.lands,.int .i64 m.wake,.int .i64 m.est,.int .i64 m.late,.int .i64 m.prom] 36)).cell? ⟨B,0,none⟩=some (.string name):=by
  rw[Gk _ _ ⟨B,0,none⟩ hB];exact hc
 go_enter Tz.func276,Tryz.ntmps276
 go_wp2;go_ret;exact⟨rfl,(Gb _ w).alloc (Gm _) _⟩
theorem yF (b off n cap:Nat)(f:Nat->Mv)(B:Nat)(name:ByteArray)(w:World)(hn:n<=1048576)(hbs:b<w.heap.size)(hrow:ak w b off n f)(hB:B<w.heap.size)(hc:w.cell? ⟨B,0,none⟩=some (.string name)):
  Calls Tz.prog 275 #[.slice (some ⟨b,off,none⟩) n cap,.func (.func 276) #[] #[.pointer (some ⟨B,0,none⟩)]] w λe w'=>(∃k:Int,e=.returned (.int .i64 k)/\jO f n name k)/\Below w.heap.size w w':=by
 go_enter Tz.func275,Tryz.ntmps275
 go_wp2;go_loopw [8] (λx W=>∃k:Nat,x=.int .i64 k/\k<=n/\Below w.heap.size w W/\∀i,i<k->aX (f i).name name=false) (λx _=>n-(intOf x).toNat)
 case atStart=>exact⟨0,rfl,Gs _,Gb _ _,λi hi=>absurd hi (Gr _)⟩
 case round=>
  obtain⟨k,rfl,hk,hb,hall⟩:=hrel;by_cases hlt:k<n
  .have hlt':(k:Int)<n:=by omega
   have hr:=hrow.below hb hbs k hlt;obtain⟨c0,c1,c2,c3,c4,c5⟩:=hr;have H1:=λ(w1:World)=>pp (f k) B name w1
   cases he:aX (f k).name name with
   |true=>
    go_wp2_with(go_at_call 276;refine(pp (f k) B name wr (Gn hB hb.size) ((hb.cell (p:=⟨B,0,none⟩) hB).trans hc)).mono ?_;rintro e w1 ⟨rfl,b1⟩;rw[he])
    all_goals first|(exfalso;omega)|skip
    go_ret;exact⟨⟨k,rfl,.inr ⟨k,rfl,hlt,he,hall⟩⟩,hb.trans (b1.mono hb.size)⟩
   |false=>
    go_wp2_with(go_at_call 276;refine(pp (f k) B name wr (Gn hB hb.size) ((hb.cell (p:=⟨B,0,none⟩) hB).trans hc)).mono ?_;rintro e w1 ⟨rfl,b1⟩;rw[he])
    all_goals first|(exfalso;omega)|skip
    go_roundw
    case rel=>exact⟨k+1,by go_num,by omega,hb.trans (b1.mono hb.size),λi hi=>by
     by_cases e:i=k
     .subst e;exact he
     .exact hall i (by omega)⟩
    case measure=>simp[intOf];omega
  .have hlt':¬(k:Int)<n:=by omega
   go_wp2;all_goals first|(exfalso;omega)|skip
   go_ret;exact⟨⟨-1,rfl,.inl ⟨rfl,λi hi=>hall i (by omega)⟩⟩,hb⟩
theorem uk (b off n cap:Nat)(f:Nat->Mv)(name:ByteArray)(w:World)(hn:n<=1048576)(hbs:b<w.heap.size)(hrow:ak w b off n f):
  Calls Tz.prog 273 #[.slice (some ⟨b,off,none⟩) n cap,.string name] w λe w'=>(∃k:Int,e=.returned (.int .i64 k)/\jO f n name k)/\Below w.heap.size w w':=by
 have b0:Below w.heap.size w (w.alloc (.cells #[.string name] 9)):=(Gb _ w).alloc (Gm _) _;have hI:=yF b off n cap f w.heap.size name (w.alloc (.cells #[.string name] 9)) hn (by simp;omega) (hrow.below b0 hbs) (by simp) (by simp);go_enter Tz.func273,Tryz.ntmps273
 go_wp2_with(go_at_call 275;refine hI.mono ?_;rintro e w1 ⟨⟨k,rfl,hk⟩,b1⟩)
 go_ret;exact⟨⟨k,rfl,hk⟩,b0.trans (b1.mono b0.size)⟩
end
