import Derived.Test.YtlmcblcijndipaaGreatDoorj37
import Derived.Test.YtlmcblcijndipaaGreatDoorj42
set_option linter.unusedVariables false
set_option linter.unusedSimpArgs false
set_option maxHeartbeats 8000000
set_option maxRecDepth 10000
namespace Go.Proofs.YtlmcblcijndipaaGreatDoor
open RowKit
theorem cJ.keep {w w':World}{b:Nat}{m:Mv}(h:cJ w b m)(e:w'.heap[b]?=w.heap[b]?):cJ w' b m:=e.trans h
structure ZH (B:Nat)(m:Mv)(W:World):Prop where
 c0:W.cell? B=some (.string m.name)
 c1:W.cell? ⟨B,1,none⟩=some (.bool m.an)
 c2:W.cell? ⟨B,2,none⟩=some (.int .i64 m.aD)
 c3:W.cell? ⟨B,3,none⟩=some (.int .i64 m.ba)
 c4:W.cell? ⟨B,4,none⟩=some (.int .i64 m.late)
 c5:W.cell? ⟨B,5,none⟩=some (.int .i64 m.prom)
theorem ly {W:World}{B:Nat}{m:Mv}(h:cJ W B m):ZH B m W:=by
 obtain⟨c0,c1,c2,c3,c4,c5⟩:=h.at_;exact⟨c0,c1,c2,c3,c4,c5⟩
structure Pu (w:World)(m:Mv)(v:Value)(n:Nat)(xs:List Value)(o:Option Nat)(W:World):Prop where
 below:Below w w W
 own:W.ownsRow w.heap.size 31 6 v n xs
 one:∀Y,o=some Y->W.heap[Y]?=some (.cells m.cells 31 (0,0))
section
variable {w:World}{m:Mv}{v:Value}{n:Nat}{xs:List Value}{o:Option Nat}{W:World}
theorem Pu.at_ {B:Nat}(h:Pu w m v n xs o W)(hm:cJ w B m)(hB:B<w):ZH B m W:=ly (hm.keep (h.below.block B hB))
theorem Pu.XP (h:Pu w m v n xs o W):Pu w m (.slice W.heap.size 0 0) 0 [] o (W.alloc (.cells #[] 31)):=
 ⟨h.below.alloc h.below.size _,sO h.below.size,λY hY=>(acb _ _ _ (acm.1 (h.one Y hY)).1).trans (h.one Y hY)⟩
theorem Pu.Tu (h:Pu w m v n xs o W):Pu w m v n xs (some W.heap.size) (W.alloc (.cells #[m.name,m.an,m.aD,m.ba,m.late,m.prom] 31)):=
 ⟨h.below.alloc h.below.size _,ay h.own (λB hB=>acb _ _ _ (h.own.lt B hB).2),λY hY=>by cases hY;exact heap_alloc_new W _⟩
theorem Pu.app (h:Pu w m v n xs o W){v':Value}{n':Nat}{x':List Value}{W':World}(ho:W'.ownsRow w.heap.size 31 6 v' n' x')(g:W.grownBy W' v.ownBlock)(hs:∀Y,o=some Y->v.ownBlock≠some Y):Pu w m v' n' x' o W':=
 ⟨h.below.grown g h.below.size (λq hq=>(h.own.lt q hq).1),ho,λY hY=>(g.block Y (acm.1 (h.one Y hY)).1 (λe=>hs Y hY e.symm)).trans (h.one Y hY)⟩
theorem Pu.RC (h:Pu w m v n xs o W){v':Value}{n':Nat}{x':List Value}{W':World}(ho:W'.ownsRow w.heap.size 31 6 v' n' x')(g:W.grownBy W' v.ownBlock):Pu w m v' n' x' none W':=
 ⟨h.below.grown g h.below.size (λq hq=>(h.own.lt q hq).1),ho,λY hY=>by cases hY⟩
end
def NS (f:Nat->Mv)(n:Nat)(m:Mv)(w:World)(e:Ending)(w':World):Prop:=∃B c k,e=.returned (.slice (some ⟨B,0,none⟩) (n+1) c)/\k<=n/\(∀j,j<k->cQ (f j).name m.name=true)/\(k<n->cQ (f k).name m.name=false)/\w'.ownsRow w.heap.size 31 6 (.slice (some ⟨B,0,none⟩) (n+1) c) (n+1) (cG (lQ f k m) (n+1))
theorem IN (b n cap:Nat)(f:Nat->Mv)(m:Mv)(w:World)(hn:n<=6)(uP:n<=cap)(bw:b<w)(aq:aM w b 0 n f):
  Calls Tz.prog 43 #[.slice b n cap,.agg #[m.name,m.an,m.aD,m.ba,m.late,m.prom]] w λe w'=>NS f n m w e w'/\Below w w w':=by
 obtain⟨iM,hI,gI,fq,iF⟩:=jA;have bA:Below w w (w.alloc (.cells #[m.name,m.an,m.aD,m.ba,m.late,m.prom] 31)):=(aca _ w).alloc (ack _) _;have mA:cJ (w.alloc (.cells #[m.name,m.an,m.aD,m.ba,m.late,m.prom] 31)) w.heap.size m:=heap_alloc_new _ _;go_enter Tz.func43,Tryz.ntmps43
 go_wp2;go_loopw [5] (λx W=>∃k:Nat,x=.int .i64 k/\k<=n/\Below w w W/\cJ W w.heap.size m/\∀j,j<k->cQ (f j).name m.name=true) (λx _=>n-(intOf x).toNat)
 case atStart=>exact⟨0,rfl,acp _,bA,mA,λj hj=>absurd hj (aco _)⟩
 case round=>
  clear bA mA;obtain⟨k,rfl,hk,hB,hm,n8⟩:=hrel;have lb:=acl bw hB.size;have lm:w.heap.size<wr:=(acm.1 hm).1;have hne:=aE wr;have x1:=λx:aj wr=>x.cell (ly hm).c0
  by_cases hgo:k<n/\cQ (f k).name m.name=true
  .obtain⟨aI,hL⟩:=hgo;have dG:(k:Int)<n:=ab;have hL':Op.bytesLess (f k).name.toList m.name.toList=true:=hL;have c0:=(aq.below hB bw k aI).c0;simp only[Nat.zero_add]at c0;have x0:=λx:aj wr=>x.cell c0
   go_wp2;refine ah ?_;repeat(go_big_quiet_step (fail))
   refine wpQuiet_nil (ak ?_);intro w2 cH;go_wp2;all_goals try(exfalso;omega)
   go_roundw
   case rel=>exact⟨k+1,by go_num,ab,hB.trans (cH.mono hB.size),hm.keep (cH.block _ lm),λj hj=>by
    by_cases e:j=k
    .subst e;exact hL
    .exact n8 j ab⟩
   case measure=>exact cf
  have dJ:k<n->cQ (f k).name m.name=false:=λh=>by
   cases hL:cQ (f k).name m.name with
   |false=>rfl
   |true=>exact absurd ⟨h,hL⟩ hgo
  by_cases aI:k<n;focus
   have dG:(k:Int)<n:=ab;have hL':Op.bytesLess (f k).name.toList m.name.toList=false:=dJ aI;have c0:=(aq.below hB bw k aI).c0;simp only[Nat.zero_add]at c0;have x0:=λx:aj wr=>x.cell c0
   go_wp2;refine ah ?_;repeat(go_big_quiet_step (fail))
   refine wpQuiet_nil (ak ?_);intro w2 cH;go_wp2;all_goals try(exfalso;omega)
  rotate_left;focus
   have dG:¬(k:Int)<n:=ab;have hz:decide (k<n)=false:=by simpa using aI
   go_wp2;refine ah ?_;repeat(go_big_quiet_step (fail))
   refine wpQuiet_nil (ak ?_);intro w2 cH;go_wp2;all_goals try(exfalso;omega)
  all_goals
   have qI:Below w w w2.drew:=(hB.trans (cH.mono hB.size)).drew;have rZ:cJ w2.drew w.heap.size m:=hm.keep (cH.block _ lm);have I8:aM w2.drew b 0 n f:=aq.below qI bw;have Nw:b<w2.drew:=acl bw qI.size;have qO:w.heap.size<w2.drew:=(acm.1 rZ).1;refine wp_region_held_drew (S:=ZH w.heap.size m) bR (ly rZ) (λhHeld=>?_);revert hHeld qI rZ I8 Nw qO;generalize w2.drew=w3;intro qI rZ I8 Nw qO hHeld;have hkc:(k:Int)<=cap:=ab;have uZ:(0:Int)<=k:=ab;have qo:(k:Int)<=n:=ab;have hCl:∀W,Below w3 w3 W->∀ad,(if cap=k then some (b:Addr)else some ⟨b,k*6,none⟩)=some ad->∀j u,(cG (λj=>f (k+j)) (n-k))[j]?=some u->W.cell? (ad.add j)=some u:=λW hW ad had=>by
    split at had
    .have:n-k=0:=by omega
     rw[this];intro j u h;simp[cG]at h
    .cases had;exact eQ ((zq I8 hk).below hW Nw)
   have hC:Pu w3 m () 0 [] none w3:=⟨aca _ _,⟨rfl,.inl ⟨rfl,rfl⟩⟩,λY hY=>by cases hY⟩;refine aS 1 (.slice b n cap) 23 rfl Ua hHeld ?_;refine aS 2 (.int .i64 (k:Int)) 24 rfl Ua hHeld ?_;refine aS 3 (.slice b k cap) 25 rfl Ua hHeld ?_;refine aS 5 (.agg #[m.name,m.an,m.aD,m.ba,m.late,m.prom]) 27 rfl Ua hHeld ?_;refine aS 8 (.slice b n cap) 30 rfl Ua hHeld ?_;refine aS 9 (.int .i64 (k:Int)) 31 rfl Ua hHeld ?_;refine aS 10 (.slice (if cap=k then some ⟨b,0,none⟩else some ⟨b,k*6,none⟩) (n-k) (cap-k)) 32 rfl Ua hHeld ?_;refine Po 0 6 rfl rfl (λK hK=>?_) (λK hK=>?_);focus
    go_simp
    have hC:=hC.XP;try simp only[World.size_alloc,World.size_drew]at hC
    refine hK.out _ _ (hC.at_ rZ qO) (λhHeld=>?_);clear hK K;refine Po 4 6 rfl rfl (λK hK=>?_) (λK hK=>?_);focus
     refine aZ rfl (.tmp 22) (.tmp 25) 23 rfl 31 iM _ 6 56 bz hI gI fq iF rfl bK w3.heap.size _ 0 [] bU hC.own m8 b k cap (cG f k) bU (dL f k) m8 (λad had=>by cases had;exact eQ ((pX I8 hk).below hC.below Nw)) (fE f k) iI ab hC.below.size ?_;intro v4 w4 DW Ck GG;simp only[Nat.zero_add,List.nil_append]at DW;have hC:=hC.app DW GG (by intro Y hY;cases hY);clear DW GG;refine hK.out _ _ (hC.at_ rZ qO) (λhHeld=>?_);clear hK K;refine jE 6 rfl (λK hK=>?_);go_simp
     have hC:=hC.Tu;try simp only[World.size_alloc,World.size_drew]at hC
     refine hK.out _ _ (hC.at_ rZ qO) (λhHeld=>?_);clear hK K;refine jE 7 rfl (λK hK=>?_);refine aZ rfl (.tmp 26) (.tmp 28) 23 rfl 31 iM _ 6 56 bz hI gI fq iF rfl bK w3.heap.size v4 k (cG f k) bU hC.own Ck _ 1 1 m.cells.toList bU rfl m8 (λad had=>by cases had;exact AG (hC.one _ rfl)) (ji m) iI ab hC.below.size ?_;intro v5 w5 DX te GH;have hC:=hC.RC DX GH;clear DX GH;refine hK.out _ _ (hC.at_ rZ qO) (λhHeld=>?_);clear hK K
    rotate_left;focus
     go_simp
     have hC:=hC.Tu;try simp only[World.size_alloc,World.size_drew]at hC
     refine hK.out _ _ (hC.at_ rZ qO) (λhHeld=>?_);clear hK K;refine jE 4 rfl (λK hK=>?_);refine aZ rfl (.tmp 22) (.tmp 25) 23 rfl 31 iM _ 6 56 bz hI gI fq iF rfl bK w3.heap.size _ 0 [] bU hC.own m8 b k cap (cG f k) bU (dL f k) m8 (λad had=>by cases had;exact eQ ((pX I8 hk).below hC.below Nw)) (fE f k) iI ab hC.below.size ?_;intro v4 w4 DW Ck GG;simp only[Nat.zero_add,List.nil_append]at DW;have hC:=hC.app DW GG (by intro Y hY;cases hY;simp[Value.ownBlock]);clear DW GG;refine hK.out _ _ (hC.at_ rZ qO) (λhHeld=>?_);clear hK K;refine jE 7 rfl (λK hK=>?_);refine aZ rfl (.tmp 26) (.tmp 28) 23 rfl 31 iM _ 6 56 bz hI gI fq iF rfl bK w3.heap.size v4 k (cG f k) bU hC.own Ck _ 1 1 m.cells.toList bU rfl m8 (λad had=>by cases had;exact AG (hC.one _ rfl)) (ji m) iI ab hC.below.size ?_;intro v5 w5 DX te GH;have hC:=hC.RC DX GH;clear DX GH;refine hK.out _ _ (hC.at_ rZ qO) (λhHeld=>?_);clear hK K
   rotate_left 2;focus
    go_simp
    have hC:=hC.Tu;try simp only[World.size_alloc,World.size_drew]at hC
    refine hK.out _ _ (hC.at_ rZ qO) (λhHeld=>?_);clear hK K;refine jE 0 rfl (λK hK=>?_);go_simp
    have hC:=hC.XP;try simp only[World.size_alloc,World.size_drew]at hC
    refine hK.out _ _ (hC.at_ rZ qO) (λhHeld=>?_);clear hK K;refine jE 4 rfl (λK hK=>?_);refine aZ rfl (.tmp 22) (.tmp 25) 23 rfl 31 iM _ 6 56 bz hI gI fq iF rfl bK w3.heap.size _ 0 [] bU hC.own m8 b k cap (cG f k) bU (dL f k) m8 (λad had=>by cases had;exact eQ ((pX I8 hk).below hC.below Nw)) (fE f k) iI ab hC.below.size ?_;intro v4 w4 DW Ck GG;simp only[Nat.zero_add,List.nil_append]at DW;have hC:=hC.app DW GG (by intro Y hY;cases hY;simp[Value.ownBlock]);clear DW GG;refine hK.out _ _ (hC.at_ rZ qO) (λhHeld=>?_);clear hK K;refine jE 7 rfl (λK hK=>?_);refine aZ rfl (.tmp 26) (.tmp 28) 23 rfl 31 iM _ 6 56 bz hI gI fq iF rfl bK w3.heap.size v4 k (cG f k) bU hC.own Ck _ 1 1 m.cells.toList bU rfl m8 (λad had=>by cases had;exact AG (hC.one _ rfl)) (ji m) iI ab hC.below.size ?_;intro v5 w5 DX te GH;have hC:=hC.RC DX GH;clear DX GH;refine hK.out _ _ (hC.at_ rZ qO) (λhHeld=>?_);clear hK K
   all_goals
    refine jE 11 rfl (λK hK=>?_);refine aZ rfl (.tmp 29) (.tmp 32) 23 rfl 31 iM _ 6 56 bz hI gI fq iF rfl bK w3.heap.size v5 (k+1) (cG f k++m.cells.toList) bU hC.own te (if cap=k then some ⟨b,0,none⟩else some ⟨b,k*6,none⟩) (n-k) (cap-k) (cG (λj=>f (k+j)) (n-k)) bU (dL _ _) (by split<;>(intro h;cases h)) (hCl _ hC.below) (fE _ _) iI ab hC.below.size ?_;intro v6 w6 S7 Cm Zb;rw[Md f k n m hk,show k+1+(n-k)=n+1 by omega]at S7;have B6:Below w3 w3 w6:=hC.below.grown Zb hC.below.size (λq hq=>(hC.own.lt q hq).1);obtain⟨b6,c6,rfl⟩:=pA S7 Cm;refine hK.out _ _ (ly (cJ.keep rZ (B6.block _ qO))) (λhHeld=>?_);clear hK K;refine jE 12 rfl (λK hK=>?_);go_simp
    refine hK.out _ _ (ly (cJ.keep rZ (B6.block _ qO))) (λhHeld=>?_);clear hK K;refine wpAnyH_done bR ?_ _;clear hHeld;go_wp2;all_goals go_ret
    all_goals exact⟨⟨b6,c6,k,rfl,hk,n8,dJ,bG S7 qI.size⟩,qI.trans (B6.mono qI.size)⟩
theorem AI {m:Mv}(h:m.ok=true):Good m:=by
 have b:=Mv.fR h;exact⟨G2 h,b.2.2.2.2,⟨b.1,b.2.1,b.2.2.1⟩,ab⟩
structure nV (w:World)(lo:Nat)(now shift:Int)(ao:Option Addr)(n c:Nat)(f:Nat->Mv)(bo:Option Addr)(d:Nat)(t:Nat->Int):Prop where
 now:0<=now/\now<=10000
 sh:0<=shift/\shift<=6
 tK:n<=6
 ok:∀i,i<n->(f i).ok=true
 mem:(ao=none/\bo=none/\n=0/\c=0/\d=0)\/∃b b',ao=some ⟨b,0,none⟩/\bo=some ⟨b',0,none⟩/\w.ownsRow lo 31 6 (.slice (some ⟨b,0,none⟩) n c) n (cG f n)/\n<=d/\ky w lo b' n t
section
variable {w w':World}{lo:Nat}{now shift:Int}{ao:Option Addr}{n c:Nat}{f:Nat->Mv}{bo:Option Addr}{d:Nat}{t:Nat->Int}
theorem nV.A0 (h:nV w lo now shift ao n c f bo d t):ik w ao n c f:=by
 rcases h.mem with⟨rfl,rfl,rfl,rfl,rfl⟩|⟨b,b',rfl,rfl,o1,hd,o2⟩
 .exact⟨λ_=>⟨rfl,rfl⟩,λad had=>by cases had⟩
 .exact⟨(λh=>nomatch h),λad had=>by cases had;exact⟨b,rfl,(ee o1).2.1,dM o1⟩⟩
theorem nV.Jo (h:nV w lo now shift ao n c f bo d t):jG w bo n d t:=by
 rcases h.mem with⟨rfl,rfl,rfl,rfl,rfl⟩|⟨b,b',rfl,rfl,o1,hd,o2⟩
 .exact⟨λ_=>⟨rfl,rfl⟩,λad had=>by cases had⟩
 .exact⟨(λh=>nomatch h),λad had=>by cases had;exact⟨b',rfl,o2.lt,o2.2.2⟩⟩
theorem nV.same (h:nV w lo now shift ao n c f bo d t)(e:∀b,lo<=b->b<w.heap.size->w'.heap[b]?=w.heap[b]?):nV w' lo now shift ao n c f bo d t:=by
 refine⟨h.now,h.sh,h.tK,h.ok,?_⟩;rcases h.mem with hm|⟨b,b',h1,h2,o1,hd,o2⟩
 .exact .inl hm
 .exact .inr ⟨b,b',h1,h2,ay o1 (λB hB=>e B (o1.lt B hB).1 (o1.lt B hB).2),hd,o2.same (e b' o2.1 o2.lt)⟩
theorem nV.below (h:nV w lo now shift ao n c f bo d t)(hb:Below w w w'):nV w' lo now shift ao n c f bo d t:=h.same λb _ hl=>hb.block b hl
theorem nV.mono (h:nV w lo now shift ao n c f bo d t){AF:Nat}(hl:AF<=lo):nV w AF now shift ao n c f bo d t:=by
 refine⟨h.now,h.sh,h.tK,h.ok,?_⟩;rcases h.mem with hm|⟨b,b',h1,h2,o1,hd,o2⟩
 .exact .inl hm
 .exact .inr ⟨b,b',h1,h2,bG o1 hl,hd,acn hl o2.1,o2.2⟩
theorem pL (h0:0<=now/\now<=10000)(h1:0<=shift/\shift<=6):bp now shift f 0 t 0=true:=
 ml (fL.mpr h0) (fL.mpr h1) ((fY (by simp[aG])).mpr (vp f t)) (by simp[mJ])
theorem nV.book (h:nV w lo now shift ao n c f bo d t):
  Calls Tz.prog 39 #[.agg #[now,shift,.slice ao n c,.slice bo n d]] w λe w'=>e=.returned (.bool (bp now shift f n t n))/\Below w w w':=by
 rcases h.mem with⟨rfl,rfl,rfl,rfl,rfl⟩|⟨b,b',rfl,rfl,o1,hd,o2⟩
 .rw[pL h.now h.sh];exact nL now shift w h.now h.sh
 .exact nM now shift b 0 n c f b' 0 n d t w (by have:=h.tK;omega) (by have:=h.tK;unfold maxLen;omega) (ee o1).2.1 (dM o1) (λi hi=>pU (h.ok i hi)) o2.lt o2.2.2
end
def Ev (w:World)(e:Ending)(w':World):Prop:=∃(now shift:Int) (ao:Option Addr) (n c:Nat) (f:Nat->Mv) (bo:Option Addr) (d:Nat) (t:Nat->Int) (k:Int),e=.returned (.tuple #[.agg #[now,shift,.slice ao n c,.slice bo n d],k])/\nV w' w.heap.size now shift ao n c f bo d t
theorem LX (w:World)(lo:Nat):nV w lo 0 0 none 0 0 (λ_=>rH) none 0 (λ_=>0):=⟨ab,ab,ab,λi hi=>absurd hi (aco _),.inl ⟨rfl,rfl,rfl,rfl,rfl⟩⟩
end Go.Proofs.YtlmcblcijndipaaGreatDoor
namespace Go.Proofs.YtlmcblcijndipaaGreatDoor
open RowKit
section
variable {w:World}{now shift:Int}{ao:Option Addr}{n c:Nat}{bo:Option Addr}{d R X Bx cx Bi ci:Nat}{f:Nat->Mv}{t:Nat->Int}{W W':World}
theorem Ad.ev (h:Ad w now shift ao n c bo d R X Bx cx Bi ci f t W)(S3:0<=now/\now<=10000)(Nt:0<=shift/\shift<=6)(h6:n<=6)(fw:∀i,i<n->(f i).ok=true)(e:∀k,k≠R->W'.heap[k]?=W.heap[k]?)(k:Int):Ev w (.returned (.tuple #[.agg #[now,shift,.slice Bx n cx,.slice Bi n ci],.int .i64 k])) W':=by
 have h1:=h.hR;exact⟨now,shift,_,n,cx,f,_,ci,t,k,rfl,S3,Nt,h6,fw,.inr ⟨Bx,Bi,rfl,rfl,bG (ay h.om (λB hB=>e B (by have:=(h.om.lt B hB).1;omega))) ab,(ee h.oi).2.2,ky.of (bG (ay h.oi (λB hB=>e B (by have:=(h.oi.lt B hB).1;omega))) ab)⟩⟩
end
theorem NY {lo:Nat}(now shift:Int)(ao:Option Addr)(n c:Nat)(f:Nat->Mv)(bo:Option Addr)(d:Nat)(t:Nat->Int)(m:Mv)(w:World)(hB:nV w lo now shift ao n c f bo d t)(hf:m.Fits):
  Calls Tz.prog 9 #[.agg #[now,shift,.slice ao n c,.slice bo n d],.agg #[m.name,m.an,m.aD,m.ba,m.late,m.prom]] w λe w'=>Ev w e w'/\Below w w w':=by
 obtain⟨W0,iP⟩:∃W,W=((w.alloc (.cells #[.int .i64 now,.int .i64 shift,.slice ao n c,.slice bo n d] 29)).alloc (.cells #[.string m.name,.bool m.an,.int .i64 m.aD,.int .i64 m.ba,.int .i64 m.late,.int .i64 m.prom] 31)).alloc (.cells #[.int .i64 0,.int .i64 0,.slice none 0 0,.slice none 0 0] 29):=⟨_,rfl⟩;have b0:Below w w W0:=by rw[iP];exact(((aca _ w).alloc (ack _) _).alloc aH _).alloc cC _
 have tm:am W0 w.heap.size now shift (.slice ao n c) (.slice bo n d):=by rw[iP];exact(acb _ _ _ cC).trans ((acb _ _ _ aH).trans (heap_alloc_new _ _))
 have mv0:cJ W0 (w.heap.size+1) m:=by rw[iP];exact(acb _ _ _ aH).trans (di _ _ _)
 have qs:am W0 (w.heap.size+1+1) 0 0 () ():=by
  rw[iP];have:=di (w.alloc (.cells #[now,shift,.slice ao n c,.slice bo n d] 29)) (.cells #[m.name,m.an,m.aD,m.ba,m.late,m.prom] 31) (.cells #[.int .i64 0,.int .i64 0,(),()] 29);rw[acg]at this;exact this
 have gI:W0.heap.size=w.heap.size+3:=by rw[iP];simp
 have HB:=(hB.below b0).book;have h6:=hB.tK;have vb:=hB.now;have jh:=hB.sh;have Ta:=hB.ok;cases hb:bp now shift f n t n with
 |false=>
  rw[hb,iP]at HB;go_enter Tz.func9,Tryz.ntmps9
  go_wp2_with(go_at_call 39;refine HB.mono ?_;clear HB;rintro e w1 ⟨rfl,b1⟩;rw[<-iP]at b1;have r1:=qs.same (b1.block _ qs.lt);obtain⟨y0,y1,y2,y3,y4⟩:=r1.cells)
  obtain⟨W5,e5,k5,gi,qV,lJ⟩:=bT r1 (b0.trans (b1.mono b0.size)) ab 0 0 none 0 0 none 0 0;rw[e5];obtain⟨q0,q1,q2,q3,q4⟩:=k5.cells;refine bodyPost_ret (v:=.tuple #[.agg #[.int .i64 0,.int .i64 0,(),()],.int .i64 1]) ?_ rfl ⟨⟨0,0,none,0,0,_,none,0,_,1,rfl,LX _ _⟩,gi⟩;simp[results,Tryz.f9,go_sem,q0,q1,q2,q3]
 |true=>
  obtain⟨hm,-,jQ⟩:=cE hb;obtain⟨K,YW,hK2,hK3⟩:=FD (λj=>cQ (f j).name m.name) n;rw[hb,iP]at HB;have Gn:=λW (hW:Below w w W)=>fx now shift ao n c f bo n d t W ab ab (hB.below hW).A0 (hB.below hW).Jo
  have HC2:=Gn;have HM:=λW=>xf hf W
  have HA:=λW (hW:Below w w W)=>wu now shift ao n c f bo n d m.name W h6 (hB.below hW).A0
  have HP:=λB c W (h1:n<=c) (h2:B<W.heap.size) (h3:aM W B 0 n f)=>IN B n c f m W h6 h1 h2 h3
  have hgo:∀(P:Prop),(∀kc:Int,kc=2->m.ok=false->P)->(∀kc:Int,kc=2->m.ok=true->¬m.prom<0->P)->(∀kc:Int,kc=3->m.ok=true->m.prom<0->(∀k,hZ f n m.name k->0<=k)->P)->(∀kc:Int,kc=4->m.ok=true->m.prom<0->(∀k,hZ f n m.name k->k<0)->¬n<6->P)->(m.ok=true->m.prom<0->(∀j,j<n->bZ (f j).name m.name=false)->(∀k,hZ f n m.name k->k<0)->n<6->P)->P:=λP a1 a2 a3 a4 a5=>by
   cases fw:m.ok with
   |false=>exact a1 2 rfl fw
   |true=>
    by_cases hp:m.prom<0
    .rcases Ki f n m.name with⟨J,hJ,ES,Uu⟩|ES
     .exact a3 3 rfl fw hp (λk hk=>by have:=hk.yes hJ ES Uu;omega)
     .have AT:∀k,hZ f n m.name k->k<0:=λk hk=>by have:=hk.no ES;omega
      by_cases h:n<6
      .exact a5 fw hp ES AT h
      .exact a4 4 rfl fw hp AT h
    .exact a2 2 rfl fw hp
  clear hb;refine hgo _ (λkc hc fw=>?_) (λkc hc fw hp=>?_) (λkc hc fw hp AT=>?_) (λkc hc fw hp AT aI=>?_) (λfw hp ES AT aI=>?_);all_goals clear hgo
  rotate_right;focus
   have hF:=I0 hm aI YW fw hK2 hK3 ES;have QA:∀i,i<n+1->(lQ f K m i).ok=true:=λi hi=>bj hF i hi
   have Hu:=λB c W (h2:B<W.heap.size) (h3:aM W B 0 (n+1) (lQ f K m))=>qX B (n+1) c (lQ f K m) now shift W ab QA vb.1 ab jh.1 jh.2 (λhr=>uu hF ab hr) h2 h3
   rcases qT:iT (lQ f K m) (n+1) now shift with _|T;focus
    rw[qT]at Hu;have HN:=Hu;clear Hu;obtain⟨kc,hc⟩:∃kc:Int,kc=5:=⟨_,rfl⟩
   rotate_left;focus
    rw[qT]at Hu;have HS:=Hu;clear Hu;have Rt:=λB c b' c' W (h2:B<W.heap.size) (h3:aM W B 0 (n+1) (lQ f K m)) (h4:b'<W.heap.size) (h5:aB W b' 0 (n+1) T)=>nN now shift B (n+1) c (lQ f K m) b' (n+1) c' T W ab iI h2 h3 (λi hi=>pU (QA i hi)) h4 h5
    have P7:=λB c b' c' W (h2:B<W.heap.size) (h3:aM W B 0 (n+1) (lQ f K m)) (h4:b'<W.heap.size) (h5:aB W b' 0 (n+1) T)=>fx now shift (some ⟨B,0,none⟩) (n+1) c (lQ f K m) (some ⟨b',0,none⟩) (n+1) c' T W ab ab ⟨(λh=>nomatch h),λad had=>by cases had;exact⟨B,rfl,h2,h3⟩⟩ ⟨(λh=>nomatch h),λad had=>by cases had;exact⟨b',rfl,h4,h5⟩⟩
    obtain⟨sb,Lu⟩:∃sb,eX now shift (lQ f K m) (n+1) T (n+1)=sb:=⟨_,rfl⟩;rw[Lu]at Rt;clear Lu;cases sb;focus
     obtain⟨kc,hc⟩:∃kc:Int,kc=6:=⟨_,rfl⟩
    rotate_left;focus
     have Qo:True:=trivial
  all_goals
   rw[fw]at HM;go_enter Tz.func9,Tryz.ntmps9
   go_wp2_with(first
    |(go_at_call 39;refine HB.mono ?_;clear HB;rintro e w1 ⟨rfl,b1⟩;rw[<-iP]at b1;have B1:=b0.trans (b1.mono b0.size);have bk:=tm.same (b1.block _ tm.lt);have mv:=mv0.keep (b1.block _ ab);have rs:=qs.same (b1.block _ qs.lt);obtain⟨y0,y1,y2,y3,y4⟩:=bk.cells)
    |(go_at_call 40;refine(Gn _ B1).mono ?_;clear Gn;rintro e w2 ⟨⟨Bx,cx,Bi,ci,rfl,oM,oI⟩,b2⟩;have z2:=b2.size;have z1:=b1.size;have bk:=bk.same (b2.block _ ab);have rs:=rs.same (b2.block _ ab);obtain⟨W3,e3,k3,b3,z3⟩:=cI w2 now shift (some ⟨Bx,0,none⟩) n cx (some ⟨Bi,0,none⟩) n ci;have hA:Ad w now shift ao n c bo d (w.heap.size+1+1) w2.heap.size Bx cx Bi ci f t W3:=⟨(B1.trans (b2.mono B1.size)).trans (b3.mono ab),bk.same (b3.block _ ab),rs.same (b3.block _ ab),ab,k3,ab,bG (ay oM (λB hB=>b3.block B (oM.lt B hB).2)) ab,bG (ay oI (λB hB=>b3.block B (oI.lt B hB).2)) ab⟩;have mv:=(mv.keep (b2.block _ ab)).keep (b3.block _ ab);obtain⟨s0,s1,s2,s3,s4,s5⟩:=ly mv;clear oM oI bk rs)
    |(go_at_call 41;refine(HM W3).mono ?_;clear HM;rintro e w4 ⟨rfl,b4⟩;have z4:=b4.size;have mv:=mv.keep (b4.block _ ab);have hA:=hA.grow b4;obtain⟨y0,y1,y2,y3,y4⟩:=hA.bk.cells;obtain⟨s0,s1,s2,s3,s4,s5⟩:=ly mv;obtain⟨x0,x1,x2,x3,x4⟩:=hA.x.cells;obtain⟨r0,r1,r2,r3,r4⟩:=hA.rs.cells)
    |(go_at_call 42;refine(HA _ hA.below).mono ?_;clear HA;rintro e w5 ⟨⟨kk,rfl,JR⟩,b5⟩;have z5:=b5.size;have mv:=mv.keep (b5.block _ ab);have hA:=hA.grow b5;obtain⟨y0,y1,y2,y3,y4⟩:=hA.bk.cells;obtain⟨s0,s1,s2,s3,s4,s5⟩:=ly mv;obtain⟨x0,x1,x2,x3,x4⟩:=hA.x.cells;obtain⟨r0,r1,r2,r3,r4⟩:=hA.rs.cells;have qo:=AT kk JR)
    |(go_at_call 40;refine(HC2 _ hA.below).mono ?_;clear HC2;rintro e w6 ⟨⟨By,cy,Bz,cz,rfl,oY,oZ⟩,b6⟩;have z6:=b6.size;obtain⟨W7,e7,k7,b7,z7⟩:=cI w6 now shift (some ⟨By,0,none⟩) n cy (some ⟨Bz,0,none⟩) n cz;have hA:=(hA.grow b6).grow b7;have mv:=(mv.keep (b6.block _ ab)).keep (b7.block _ ab);have oY:=ay oY (λB hB=>b7.block B (oY.lt B hB).2);obtain⟨y0,y1,y2,y3,y4⟩:=hA.bk.cells;obtain⟨s0,s1,s2,s3,s4,s5⟩:=ly mv;obtain⟨p0,p1,p2,p3,p4⟩:=k7.cells)
    |(go_at_call 43;refine(HP By cy W7 (ee oY).2.2 (ee oY).2.1 (dM oY)).mono ?_;clear HP;rintro e w8 ⟨⟨B8,c8,k8,rfl,g1,g2,g3,o8⟩,b8⟩;obtain rfl:=Pn YW hK2 hK3 g1 g2 g3;have z8:=b8.size;have hA:=hA.grow b8;have y8:=k7.same (b8.block _ k7.lt);have l8:=y8.lt;obtain⟨p0,p1,p2,p3,p4⟩:=y8.cells;obtain⟨W9,e9,y9,T_,z9,h9⟩:=FL y8 hA.below (by have:=hA.hR;have:=hA.hX;omega) (.slice (some ⟨B8,0,none⟩) (n+1) c8);have hA:=hA.set y8 ab T_ h9;have o9:=ay o8 (λB hB=>h9 B (fy o8 y8 bK hB));obtain⟨y0,y1,y2,y3,y4⟩:=hA.bk.cells;obtain⟨p0,p1,p2,p3,p4⟩:=y9.cells)
    |(go_at_call 44;refine(HN B8 c8 W9 (ee o9).2.1 (dM o9)).mono ?_;clear HN;rintro e ZB ⟨⟨Yy,c10,rfl⟩,Kj⟩;have hA:=hA.grow Kj;obtain⟨x0,x1,x2,x3,x4⟩:=hA.x.cells;obtain⟨r0,r1,r2,r3,r4⟩:=hA.rs.cells)
    |(go_at_call 44;refine(HS B8 c8 W9 (ee o9).2.1 (dM o9)).mono ?_;clear HS;rintro e ZB ⟨⟨BT,cT,KX,rfl,oT,_⟩,Kj⟩;have hA:=hA.grow Kj;have ZC:=y9.same (Kj.block _ y9.lt);obtain⟨p0,p1,p2,p3,p4⟩:=ZC.cells;obtain⟨RA,YI,y11,SA,z11,Ac⟩:=vh ZC hA.below (by have:=hA.hR;have:=hA.hX;omega) (.slice (some ⟨BT,0,none⟩) (n+1) cT);have hA:=hA.set ZC ab SA Ac;have U1:=ay o9 (λB hB=>Kj.block B (o9.lt B hB).2);have Zv:=ay U1 (λB hB=>Ac B (fy U1 ZC bK hB));have oT:=f7 oT (Ac BT ab);obtain⟨p0,p1,p2,p3,p4⟩:=y11.cells)
    |(go_at_call 26;refine(Rt B8 c8 BT cT RA (ee Zv).2.1 (dM Zv) oT.lt oT.2).mono ?_;clear Rt;rintro e Yo ⟨rfl,JG⟩;have hA:=hA.grow JG;have y12:=y11.same (JG.block _ y11.lt);have o12:=ay Zv (λB hB=>JG.block B (Zv.lt B hB).2);have oT:=f7 oT (JG.block _ oT.lt);obtain⟨p0,p1,p2,p3,p4⟩:=y12.cells;obtain⟨x0,x1,x2,x3,x4⟩:=hA.x.cells;obtain⟨r0,r1,r2,r3,r4⟩:=hA.rs.cells)
    |(go_at_call 40;refine(P7 B8 c8 BT cT Yo (ee o12).2.1 (dM o12) oT.lt oT.2).mono ?_;clear P7;rintro e w13 ⟨⟨Bq,cq,Bv,cv,rfl,oQ,oV⟩,Vm⟩;have z13:=hA.x.lt;have hA:=hA.grow Vm;obtain⟨r0,r1,r2,r3,r4⟩:=hA.rs.cells))
   all_goals try(exfalso;omega)
   all_goals first
    |(obtain⟨W5,e5,k5,gi,qV,lJ⟩:=bT hA.rs hA.below ab now shift (some ⟨Bq,0,none⟩) (n+1) cq (some ⟨Bv,0,none⟩) (n+1) cv;rw[e5];obtain⟨q0,q1,q2,q3,q4⟩:=k5.cells;have hhR:=hA.hX;refine bodyPost_ret (v:=.tuple #[.agg #[.int .i64 now,.int .i64 shift,.slice (some ⟨Bq,0,none⟩) (n+1) cq,.slice (some ⟨Bv,0,none⟩) (n+1) cv],.int .i64 0]) (by simp[results,Tryz.f9,go_sem,q0,q1,q2,q3]) rfl ⟨⟨now,shift,_,n+1,cq,_,_,cv,T,0,rfl,vb,jh,ab,QA,.inr ⟨Bq,Bv,rfl,rfl,bG (ay oQ (λB hB=>lJ B (by have:=(oQ.lt B hB).1;omega))) ab,(ee oV).2.2,ky.of (bG (ay oV (λB hB=>lJ B (by have:=(oV.lt B hB).1;omega))) ab)⟩⟩,gi⟩)
    |(obtain⟨W5,e5,k5,gi,qV,lJ⟩:=bT hA.rs hA.below ab now shift (some ⟨Bx,0,none⟩) n cx (some ⟨Bi,0,none⟩) n ci;rw[e5];obtain⟨q0,q1,q2,q3,q4⟩:=k5.cells;exact bodyPost_ret (v:=.tuple #[.agg #[.int .i64 now,.int .i64 shift,.slice (some ⟨Bx,0,none⟩) n cx,.slice (some ⟨Bi,0,none⟩) n ci],.int .i64 kc]) (by simp[results,Tryz.f9,go_sem,q0,q1,q2,q3,hc]) rfl ⟨hA.ev vb jh h6 Ta lJ kc,gi⟩)
    |trace_state
theorem RI (w:World):∃W,w.alloc (.cells #[] 3)=W/\W.heap[w.heap.size]?=some (.cells #[] 3 (0,0))/\Below w w W/\W.heap.size=w.heap.size+1:=
 ⟨_,rfl,heap_alloc_new w _,(aca _ w).alloc (ack _) _,aH⟩
theorem aB.upto {w:World}{b n k:Nat}{t:Nat->Int}(h:aB w b 0 n t)(hk:k<=n):aB w b 0 k t:=λi hi=>h i ab
theorem IJ {w:World}{b n k d:Nat}{t:Nat->Int}(h:aB w b 0 n t)(hk:k<n)(hd:n<=d):∀ad,(if d=k+1 then some (b:Addr)else some ⟨b,k+1,none⟩)=some ad->∀j u,(eN (λj=>t (k+1+j)) (n-(k+1)))[j]?=some u->w.cell? (ad.add j)=some u:=λad had=>by
 split at had
 .have:n-(k+1)=0:=by omega
  rw[this];intro j u h;simp[eN]at h
 .cases had;intro j u hu;have hj:j<n-(k+1):=by rcases acu j (n-(k+1))with h|h;exact h;rw[acw (by rw[jb];exact h)]at hu;cases hu
  rw[f8 hj]at hu;have:=h (k+1+j) ab;rw[Nat.zero_add]at this;rw[vu,this];exact hu
structure C3 (N:Nat)(sl:Value)(W:World):Prop where
 c3:W.cell? ⟨N,3,none⟩=some sl
structure Dd (w:World)(now shift:Int)(ao:Option Addr)(n c:Nat)(bo:Option Addr)(d R:Nat)(W:World):Prop where
 below:Below w w W
 bk:am W w.heap.size now shift (.slice ao n c) (.slice bo n d)
 rs:am W R 0 0 () ()
 hR:w.heap.size<R
section
variable {w:World}{now shift:Int}{ao:Option Addr}{n c:Nat}{bo:Option Addr}{d R:Nat}{W W':World}
theorem Dd.grow (h:Dd w now shift ao n c bo d R W)(b:Below W W W'):Dd w now shift ao n c bo d R W':=
 ⟨h.below.trans (b.mono h.below.size),h.bk.same (b.block _ h.bk.lt),h.rs.same (b.block _ h.rs.lt),h.hR⟩
theorem Dd.set (h:Dd w now shift ao n c bo d R W){Y:Nat}(hY:R<Y)(hb:Below w w W')(e:∀k,k≠Y->W'.heap[k]?=W.heap[k]?):Dd w now shift ao n c bo d R W':=by
 have h1:=h.hR;exact⟨hb,h.bk.same (e _ ab),h.rs.same (e _ ab),h.hR⟩
theorem Dd.c3 (h:Dd w now shift ao n c bo d R W):C3 w.heap.size (.slice bo n d) W:=⟨h.bk.cells.2.2.2.1⟩
end
theorem KG {lo:Nat}(now shift:Int)(ao:Option Addr)(n c:Nat)(f:Nat->Mv)(bo:Option Addr)(d:Nat)(t:Nat->Int)(name:ByteArray)(w:World)(hB:nV w lo now shift ao n c f bo d t):
  Calls Tz.prog 11 #[.agg #[.int .i64 now,.int .i64 shift,.slice ao n c,.slice bo n d],.string name] w λe w'=>Ev w e w'/\Below w.heap.size w w':=by
 obtain⟨W0,iP⟩:∃W,W=(w.alloc (.cells #[.int .i64 now,.int .i64 shift,.slice ao n c,.slice bo n d] 29)).alloc (.cells #[.int .i64 0,.int .i64 0,.slice none 0 0,.slice none 0 0] 29):=⟨_,rfl⟩;have b0:Below w.heap.size w W0:=by rw[iP];exact((aca _ w).alloc (ack _) _).alloc aH _
 have tm:am W0 w.heap.size now shift (.slice ao n c) (.slice bo n d):=by rw[iP];exact(acb _ _ _ aH).trans (heap_alloc_new _ _)
 have qs:am W0 (w.heap.size+1) 0 0 (.slice none 0 0) (.slice none 0 0):=by rw[iP];exact di _ _ _
 have gI:W0.heap.size=w.heap.size+2:=by rw[iP];simp
 have HB:=(hB.below b0).book;have h6:=hB.tK;have vb:=hB.now;have jh:=hB.sh;have Ta:=hB.ok;cases hb:bp now shift f n t n with
 |false=>
  rw[hb,iP]at HB;go_enter Tz.func11,Tryz.ntmps11
  go_wp2_with(go_at_call 39;refine HB.mono ?_;clear HB;rintro e w1 ⟨rfl,b1⟩;rw[<-iP]at b1;have r1:=qs.same (b1.block _ qs.lt);obtain⟨y0,y1,y2,y3,y4⟩:=r1.cells)
  obtain⟨W5,e5,k5,gi,qV,lJ⟩:=bT r1 (b0.trans (b1.mono b0.size)) ab 0 0 none 0 0 none 0 0;rw[e5];obtain⟨q0,q1,q2,q3,q4⟩:=k5.cells;refine bodyPost_ret (v:=.tuple #[.agg #[.int .i64 0,.int .i64 0,.slice none 0 0,.slice none 0 0],.int .i64 1]) ?_ rfl ⟨⟨0,0,none,0,0,_,none,0,_,1,rfl,LX _ _⟩,gi⟩;simp[results,Tryz.f11,go_sem,q0,q1,q2,q3]
 |true=>
  obtain⟨hm,-,jQ⟩:=cE hb;rw[hb,iP]at HB;clear hb;have Gn:=λW (hW:Below w.heap.size w W)=>fx now shift ao n c f bo n d t W ab ab (hB.below hW).A0 (hB.below hW).Jo
  have HA:=λW (hW:Below w.heap.size w W)=>wu now shift ao n c f bo n d name W h6 (hB.below hW).A0
  rcases Ki f n name with⟨J,hJ,ES,Uu⟩|ES;focus
   have AT:∀k,hZ f n name k->k=J:=λk hk=>hk.yes hJ ES Uu
   have hN:0<n:=ab;obtain⟨b',eb',bc,aK⟩:=hB.Jo.pos hN;have hd:n<=d:=by
    rcases hB.mem with⟨_,_,h,_⟩|⟨_,_,_,_,_,h,_⟩
    .omega
    .exact h
   subst eb';have HW:=λB c W (h1:n<=c) (h2:B<W.heap.size) (h3:aM W B 0 n f)=>xU B n c J f W h6 hJ h1 h2 h3
   have abF:¬(J:Int)<0:=ab
  rotate_left;focus
   have AT:∀k,hZ f n name k->k=-1:=λk hk=>hk.no ES
   obtain⟨kc,hc⟩:∃kc:Int,kc=3:=⟨_,rfl⟩
  all_goals
   go_enter Tz.func11,Tryz.ntmps11
   go_wp2_with(first
    |(go_at_call 39;refine HB.mono ?_;clear HB;rintro e w1 ⟨rfl,b1⟩;rw[<-iP]at b1;have B1:=b0.trans (b1.mono b0.size);have bk:=tm.same (b1.block _ tm.lt);have rs:=qs.same (b1.block _ qs.lt);obtain⟨y0,y1,y2,y3,y4⟩:=bk.cells)
    |(go_at_call 40;refine(Gn _ B1).mono ?_;clear Gn;rintro e w2 ⟨⟨Bx,cx,Bi,ci,rfl,oM,oI⟩,b2⟩;have z2:=b2.size;have z1:=b1.size;have bk:=bk.same (b2.block _ ab);have rs:=rs.same (b2.block _ ab);obtain⟨W3,e3,k3,b3,z3⟩:=cI w2 now shift (some ⟨Bx,0,none⟩) n cx (some ⟨Bi,0,none⟩) n ci;have hA:Ad w now shift _ n c _ d (w.heap.size+1) w2.heap.size Bx cx Bi ci f t W3:=⟨(B1.trans (b2.mono B1.size)).trans (b3.mono ab),bk.same (b3.block _ ab),rs.same (b3.block _ ab),ab,k3,ab,bG (ay oM (λB hB=>b3.block B (oM.lt B hB).2)) ab,bG (ay oI (λB hB=>b3.block B (oI.lt B hB).2)) ab⟩;obtain⟨y0,y1,y2,y3,y4⟩:=hA.bk.cells;clear oM oI bk rs)
    |(go_at_call 42;refine(HA _ hA.below).mono ?_;clear HA;rintro e w5 ⟨⟨kk,rfl,JR⟩,b5⟩;have z5:=b5.size;have hA:=hA.grow b5;obtain⟨x0,x1,x2,x3,x4⟩:=hA.x.cells;obtain⟨r0,r1,r2,r3,r4⟩:=hA.rs.cells;obtain rfl:=AT kk JR)
    |(go_at_call 45;refine(HW Bx cx w5 (ee hA.om).2.2 (ee hA.om).2.1 (dM hA.om)).mono ?_;clear HW;rintro e w6 ⟨⟨B6,c6,rfl,o6⟩,b6⟩;have hRX:=hA.hX;have hRw:=hA.hR;have lX:=hA.x.lt;have hD:Dd w now shift ao n c (some ⟨b',0,none⟩) d (w.heap.size+1) w6:=⟨(hA.grow b6).below,(hA.grow b6).bk,(hA.grow b6).rs,hA.hR⟩;have x6:=(hA.grow b6).x;obtain⟨p0,p1,p2,p3,p4⟩:=x6.cells;obtain⟨W7,e7,x7,hb7,z7,h7⟩:=FL x6 hD.below ab (.slice (some ⟨B6,0,none⟩) (n-1) c6);have hD:=hD.set hRX hb7 h7;have o7:=ay o6 (λB hB=>h7 B (fy o6 x6 bK hB))))
   all_goals try(exfalso;omega)
   all_goals first
    |(obtain⟨W5,e5,k5,gi,qV,lJ⟩:=bT hA.rs hA.below ab now shift (some ⟨Bx,0,none⟩) n cx (some ⟨Bi,0,none⟩) n ci;rw[e5];obtain⟨q0,q1,q2,q3,q4⟩:=k5.cells;exact bodyPost_ret (v:=.tuple #[.agg #[.int .i64 now,.int .i64 shift,.slice (some ⟨Bx,0,none⟩) n cx,.slice (some ⟨Bi,0,none⟩) n ci],.int .i64 kc]) (by simp[results,Tryz.f11,go_sem,q0,q1,q2,q3,hc]) rfl ⟨hA.ev vb jh h6 Ta lJ kc,gi⟩)
    |skip
  have hJ0:(0:Int)<=J:=ab;have hJd:(J:Int)<=d:=ab;have hJ1:(0:Int)<=(J:Int)+1:=ab;have hJn:(J:Int)+1<=n:=ab;have abp:(J:Int)+1<=d:=ab;have hwJ:IntKind.i64.wrap ((J:Int)+1)=(J:Int)+1:=gH;obtain⟨i0,GB,ID,D0,E9⟩:=wo;have hD:=hD.grow (aca _ _).drew;have x8:=x7.same (w':=W7.drew) rfl;have o8:=ay o7 (w':=W7.drew) (λ_ _=>rfl);refine wp_region_held_drew (S:=C3 w.heap.size (.slice (some ⟨b',0,none⟩) n d)) bR hD.c3 (λhHeld=>?_);revert hHeld hD x8 o8;generalize W7.drew=W8;intro hD x8 o8 hHeld;refine aS 1 (.pointer (some ⟨w.heap.size,3,none⟩)) 29 rfl DA hHeld ?_;refine aS 2 (.slice (some ⟨b',0,none⟩) n d) 30 rfl DA hHeld ?_;refine aS 3 (.int .i64 (J:Int)) 31 rfl DA hHeld ?_;refine aS 4 (.slice (some ⟨b',0,none⟩) J d) 32 rfl DA hHeld ?_;refine aS 6 (.pointer (some ⟨w.heap.size,3,none⟩)) 34 rfl DA hHeld ?_;refine aS 7 (.slice (some ⟨b',0,none⟩) n d) 35 rfl DA hHeld ?_;refine aS 8 (.int .i64 (J:Int)) 36 rfl DA hHeld ?_;refine aS 9 (.int .i64 ((J:Int)+1)) 37 rfl DA hHeld ?_;refine aS 10 (.slice (if d=J+1 then some ⟨b',0,none⟩else some ⟨b',J+1,none⟩) (n-(J+1)) (d-(J+1))) 38 rfl DA hHeld ?_;simp only[Act.put,List.setIfInBounds_toArray,List.set_cons_zero,List.set_cons_succ];refine jE 0 rfl (λK hK=>?_);go_simp
  obtain⟨WE,eE,kE,bE,zE⟩:=RI W8;rw[eE];have oE:WE.ownsRow W8.heap.size 3 1 (.slice (some ⟨W8.heap.size,0,none⟩) 0 0) 0 []:=⟨rfl,.inr ⟨W8.heap.size,0,#[],rfl,ack _,kE,ack _,acp _,rfl,rfl⟩⟩;have hDE:=hD.grow bE;refine hK.out _ _ hDE.c3 (λhHeld=>?_);clear hK K;refine jE 5 rfl (λK hK=>?_);refine aZ rfl (.tmp 28) (.tmp 32) 27 rfl 3 i0 _ 1 8 ja GB ID D0 E9 rfl bK W8.heap.size (.slice (some ⟨W8.heap.size,0,none⟩) 0 0) 0 [] bU oE m8 (some ⟨b',0,none⟩) J d (eN t J) bU BJ m8 (λad had=>by cases had;exact uj (aB.upto (aK.below hDE.below bc) ab)) (j0 t J) iI ab bE.size ?_;intro v9 w9 UJ hs9 Wy;simp only[Nat.zero_add,List.nil_append]at UJ;have B9:Below W8.heap.size W8 w9:=bE.grown Wy bE.size (λq hq=>Es);have hD9:=hD.grow B9;refine hK.out _ _ hD9.c3 (λhHeld=>?_);clear hK K;refine jE 11 rfl (λK hK=>?_);refine aZ rfl (.tmp 33) (.tmp 38) 27 rfl 3 i0 _ 1 8 ja GB ID D0 E9 rfl bK W8.heap.size v9 J (eN t J) bU UJ hs9 (if d=J+1 then some (⟨b',0,none⟩:Addr)else some ⟨b',J+1,none⟩) (n-(J+1)) (d-(J+1)) (eN (λj=>t (J+1+j)) (n-(J+1))) bU BJ (by split<;>(intro h;cases h)) (IJ (aK.below hD9.below bc) hJ hd) (j0 _ _) iI ab B9.size ?_;intro v10 ZB Ll aax aad;rw[IL t J n hJ,show J+(n-(J+1))=n-1 by omega]at Ll;have ZJ:Below W8.heap.size W8 ZB:=B9.grown aad B9.size (λq hq=>(UJ.lt q hq).1);obtain⟨B8,c8,rfl⟩:=pA Ll aax;have OA:=hD.grow ZJ;have Yq:=x8.same (ZJ.block _ x8.lt);have U1:=ay o8 (λB hB=>ZJ.block B (o8.lt B hB).2);obtain⟨p0,p1,p2,p3,p4⟩:=Yq.cells;refine hK.out _ _ OA.c3 (λhHeld=>?_);clear hK K;refine jE 12 rfl (λK hK=>?_);go_simp
  refine hK.out _ _ OA.c3 (λhHeld=>?_);clear hK K;refine jE 13 rfl (λK hK=>?_);go_simp
  obtain⟨RA,YI,x11,SA,z11,Ac⟩:=vh Yq OA.below ab (.slice (some ⟨B8,0,none⟩) (n-1) c8);rw[YI];have hD:=OA.set hRX SA Ac;have oM:=ay U1 (λB hB=>Ac B (fy U1 Yq bK hB));have oI:=ay Ll (λB hB=>Ac B (fy Ll Yq bK hB));refine hK.out _ _ hD.c3 (λhHeld=>?_);clear hK K;refine wpAnyH_done bR ?_ _;clear hHeld;obtain⟨y0,y1,y2,y3,y4⟩:=hD.bk.cells;obtain⟨x0,x1,x2,x3,x4⟩:=x11.cells;have aaG:=x11.lt;have hX5:w5.heap.size<=B6:=(oM.lt B6 rfl).1;have hX8:W8.heap.size<=B8:=(oI.lt B8 rfl).1;have hF:=JC hm hJ;have QA:∀i,i<n-1->(jD f J i).ok=true:=λi hi=>bj hF i hi
  have Hu:=qX B6 (n-1) c6 (jD f J) now shift RA ab QA vb.1 ab jh.1 jh.2 (λhr=>uu hF ab hr) (ee oM).2.1 (dM oM);have P7:=λW (h2:B6<W.heap.size) (h3:aM W B6 0 (n-1) (jD f J)) (h4:B8<W.heap.size) (h5:aB W B8 0 (n-1) (jD t J))=>fx now shift (some ⟨B6,0,none⟩) (n-1) c6 (jD f J) (some ⟨B8,0,none⟩) (n-1) c8 (jD t J) W ab ab ⟨(λh=>nomatch h),λad had=>by cases had;exact⟨B6,rfl,h2,h3⟩⟩ ⟨(λh=>nomatch h),λad had=>by cases had;exact⟨B8,rfl,h4,h5⟩⟩
  have yT:∀W,Below RA.heap.size RA W->(B6<W.heap.size/\aM W B6 0 (n-1) (jD f J))/\(B8<W.heap.size/\aB W B8 0 (n-1) (jD t J))/\Dd w now shift ao n c (some ⟨b',0,none⟩) d (w.heap.size+1) W/\am W w2.heap.size now shift (.slice (some ⟨B6,0,none⟩) (n-1) c6) (.slice (some ⟨B8,0,none⟩) (n-1) c8):=λW hW=>
   ⟨⟨acl (ee oM).2.1 hW.size,(dM oM).below hW (ee oM).2.1⟩,⟨acl (ee oI).2.1 hW.size,(CY oI).below hW (ee oI).2.1⟩,hD.grow hW,x11.same (hW.block _ aaG)⟩
  clear o7 o8 U1 Ll x7 x8 Yq;rcases qT:iT (jD f J) (n-1) now shift with _|T;focus
   rw[qT]at Hu;have HN:=Hu;clear Hu
  rotate_left;focus
   rw[qT]at Hu;have HS:=Hu;clear Hu;have HNL:=λB c W (h2:B<W.heap.size) (h3:aB W B 0 (n-1) T) (h4:B8<W.heap.size) (h5:aB W B8 0 (n-1) (jD t J))=>xS B (n-1) c T B8 c8 (jD t J) W ab h2 h3 h4 h5
   have Rt:=λB c b' c' W (h2:B<W.heap.size) (h3:aM W B 0 (n-1) (jD f J)) (h4:b'<W.heap.size) (h5:aB W b' 0 (n-1) T)=>nN now shift B (n-1) c (jD f J) b' (n-1) c' T W ab iI h2 h3 (λi hi=>pU (QA i hi)) h4 h5
   obtain⟨sb,Lu⟩:∃sb,eX now shift (jD f J) (n-1) T (n-1)=sb:=⟨_,rfl⟩;rw[Lu]at Rt;clear Lu
  all_goals
   go_wp2_with(first
    |(go_at_call 44;refine HN.mono ?_;clear HN;rintro e Yo ⟨⟨a12,c12,rfl⟩,JG⟩;have bb:=JG;obtain⟨⟨f1,f2⟩,⟨f3,f4⟩,hD,xx⟩:=yT _ bb;obtain⟨x0,x1,x2,x3,x4⟩:=xx.cells)
    |(go_at_call 44;refine HS.mono ?_;clear HS;rintro e Yo ⟨⟨BT,cT,KX,rfl,oT,hcT⟩,JG⟩;have bb:=JG;have HT:Hid (Yo.heap.size=Yo.heap.size):=rfl;obtain⟨⟨f1,f2⟩,⟨f3,f4⟩,hD,xx⟩:=yT _ bb;obtain⟨x0,x1,x2,x3,x4⟩:=xx.cells)
    |(go_at_call 46;refine(HNL BT cT _ oT.lt oT.2 f3 f4).mono ?_;clear HNL;rintro e w13 ⟨⟨nl,rfl⟩,Vm⟩;have oT:=f7 oT (Vm.block _ oT.lt);have bb:=bb.trans (Vm.mono bb.size);obtain⟨⟨f1,f2⟩,⟨f3,f4⟩,hD,xx⟩:=yT _ bb;obtain⟨x0,x1,x2,x3,x4⟩:=xx.cells)
    |(go_at_call 26;refine(Rt By cy BT cT W16 (ee Pa).2.1 (dM Pa) O9.lt O9.2).mono ?_;clear Rt;rintro e w17 ⟨rfl,Vn⟩;have oTs:=f7 O9 (Vn.block _ O9.lt);have oYs:=ay Pa (λB hB=>Vn.block B (Pa.lt B hB).2);have yb:=y16.same (Vn.block _ y16.lt);have bb:=Vo.trans (Vn.mono Vo.size);obtain⟨⟨f1,f2⟩,⟨f3,f4⟩,hD,xx⟩:=yT _ bb;have oT:=oTs;obtain⟨x0,x1,x2,x3,x4⟩:=xx.cells;obtain⟨p0,p1,p2,p3,p4⟩:=yb.cells;obtain⟨r0,r1,r2,r3,r4⟩:=hD.rs.cells)
    |(go_at_call 40;refine(P7 _ f1 f2 f3 f4).mono ?_;rintro e w14 ⟨⟨By,cy,Bz,cz,rfl,oY,oZ⟩,Uo⟩;have oT:=f7 oT (Uo.block _ oT.lt);have zb:=bb.size;have z14:=Uo.size;have bb:=bb.trans (Uo.mono bb.size);obtain⟨_,_,hD,xx⟩:=yT _ bb;obtain⟨r0,r1,r2,r3,r4⟩:=hD.rs.cells;obtain⟨W15,e15,k15,Yz,z15⟩:=cI w14 now shift (some ⟨By,0,none⟩) (n-1) cy (some ⟨Bz,0,none⟩) (n-1) cz;obtain⟨p0,p1,p2,p3,p4⟩:=k15.cells;obtain⟨W16,e16,y16,Vo,z16,h16⟩:=vh k15 (bb.trans (Yz.mono bb.size)) bb.size (.slice (some ⟨BT,0,none⟩) (n-1) cT);have O9:=f7 oT ((h16 BT (by have:=oT.lt;omega)).trans (Yz.block _ oT.lt));have XV:=ay oY (λB hB=>Yz.block B (oY.lt B hB).2);have Pa:=ay XV (λB hB=>h16 B (fy XV k15 bK hB));obtain⟨p0,p1,p2,p3,p4⟩:=y16.cells)
    |(go_at_call 40;refine(P7 _ f1 f2 f3 f4).mono ?_;rintro e w14 ⟨⟨By,cy,Bz,cz,rfl,oY,oZ⟩,Uo⟩;have zb:=bb.size;have bb:=bb.trans (Uo.mono bb.size);obtain⟨_,_,hD,xx⟩:=yT _ bb;obtain⟨r0,r1,r2,r3,r4⟩:=hD.rs.cells))
   all_goals try(exfalso;omega)
   all_goals first
    |(obtain⟨W5,e5,k5,gi,qV,lJ⟩:=bT hD.rs hD.below ab now shift (some ⟨By,0,none⟩) (n-1) cy (some ⟨Bz,0,none⟩) (n-1) cz;rw[e5];obtain⟨q0,q1,q2,q3,q4⟩:=k5.cells;have hl:=hD.rs.lt;exact bodyPost_ret (v:=.tuple #[.agg #[.int .i64 now,.int .i64 shift,.slice (some ⟨By,0,none⟩) (n-1) cy,.slice (some ⟨Bz,0,none⟩) (n-1) cz],.int .i64 0]) (by simp[results,Tryz.f11,go_sem,q0,q1,q2,q3]) rfl ⟨⟨now,shift,_,n-1,cy,_,_,cz,_,0,rfl,vb,jh,ab,QA,.inr ⟨By,Bz,rfl,rfl,bG (ay oY (λB hB=>lJ B (by have:=(oY.lt B hB).1;omega))) ab,(ee oZ).2.2,ky.of (bG (ay oZ (λB hB=>lJ B (by have:=(oZ.lt B hB).1;omega))) ab)⟩⟩,gi⟩)
    |(obtain⟨W5,e5,k5,gi,qV,lJ⟩:=bT hD.rs hD.below ab now shift (some ⟨By,0,none⟩) (n-1) cy (some ⟨BT,0,none⟩) (n-1) cT;rw[e5];obtain⟨q0,q1,q2,q3,q4⟩:=k5.cells;have hl:=hD.rs.lt;exact bodyPost_ret (v:=.tuple #[.agg #[.int .i64 now,.int .i64 shift,.slice (some ⟨By,0,none⟩) (n-1) cy,.slice (some ⟨BT,0,none⟩) (n-1) cT],.int .i64 0]) (by simp[results,Tryz.f11,go_sem,q0,q1,q2,q3]) rfl ⟨⟨now,shift,_,n-1,cy,_,_,cT,_,0,rfl,vb,jh,ab,QA,.inr ⟨By,BT,rfl,rfl,bG (ay oYs (λB hB=>lJ B (by have:=(oYs.lt B hB).1;omega))) ab,hcT,ky.TA (f7 oTs (lJ BT ab)) ab⟩⟩,gi⟩)
    |trace_state
def EvT (w:World)(e:Ending)(w':World):Prop:=∃(now shift:Int) (ao:Option Addr) (n c:Nat) (f:Nat->Mv) (bo:Option Addr) (d:Nat) (t:Nat->Int) (sa:Option Addr) (sn sc:Nat) (k:Int),e=.returned (.tuple #[.agg #[now,shift,.slice ao n c,.slice bo n d],.slice sa sn sc,k])/\nV w' w.heap.size now shift ao n c f bo d t
theorem LE:∃i,Tz.prog.info? 9=some i/\i.zero=some (.string ByteArray.empty)/\i.size=1/\i.bytes=16:=by
 have h:(Tz.prog.info? 9).map (λi=>(i.zero,i.size,i.bytes))=some (some (.string ByteArray.empty),1,16):=bR;cases hI:Tz.prog.info? 9 with
 |none=>rw[hI]at h;simp at h
 |some i=>rw[hI]at h;simp only[Option.map_some,Option.some.injEq,Prod.mk.injEq]at h;exact⟨i,rfl,h.1,h.2.1,h.2.2⟩
theorem Fb:Tz.prog.underlying 24=some (.slice 9):=bR
theorem tG {W:World}{base:Nat}{e:TypeId}{size:Nat}{v:Value}{n:Nat}{xs:List Value}(h:W.ownsRow base e size v n xs):∃a c,v=.slice a n c/\(a=none->n=0/\c=0)/\∀ad,a=some ad->∃b,ad=⟨b,0,none⟩/\b<W.heap.size:=by
 obtain⟨h1,⟨rfl,rfl⟩|⟨g,c,cur,rfl,h3,h4,h5⟩⟩:=h
 .exact⟨none,0,rfl,λ_=>⟨rfl,rfl⟩,λad had=>by cases had⟩
 .exact⟨_,c,rfl,(λh=>nomatch h),λad had=>by cases had;exact⟨g,rfl,(acm.1 h4).1⟩⟩
def D7 (I:List Int):List Value:=I.map λx=>.int .i64 x
theorem PS {f:Nat->Mv}{n:Nat}{t:Nat->Int}(hm:aG f n=true)(hf:eH f t n){k:Nat}(hk:k<n):({f k with prom:=t k}:Mv).ok=true:=by
 have b:=Mv.fR (bj hm k hk);have s:=gA (hf.1 k hk);refine Mv.G3 (bj hm k hk) rfl rfl b.1 b.2.1 b.2.2.1 (.inr ⟨?_,?_⟩)<;>simp only<;>omega
structure Tc (w:World)(now shift:Int)(ao:Option Addr)(n c:Nat)(bo:Option Addr)(d NX:Nat)(v u:Value)(L:List Mv)(I:List Int)(s:Value)(js:Nat)(xs:List Value)(W:World):Prop where
 below:Below w w W
 bk:am W w.heap.size now shift (.slice ao n c) (.slice bo n d)
 rs:am W (w.heap.size+1) 0 0 () ()
 nx:am W NX (now+1) shift v u
 hN:w.heap.size+2<NX
 om:W.ownsRow (NX+1) 31 6 v L.length (cG (iy L) L.length)
 oi:W.ownsRow (NX+1) 3 1 u I.length (D7 I)
 os:W.ownsRow (w.heap.size+2) 9 1 s js xs
section
variable {w:World}{now shift:Int}{ao:Option Addr}{n c:Nat}{bo:Option Addr}{d NX:Nat}{v u:Value}{L:List Mv}{I:List Int}{s:Value}{js:Nat}{xs:List Value}{W W':World}
theorem Tc.grow (h:Tc w now shift ao n c bo d NX v u L I s js xs W)(b:Below W W W'):Tc w now shift ao n c bo d NX v u L I s js xs W':=
 ⟨h.below.trans (b.mono h.below.size),h.bk.same (b.block _ h.bk.lt),h.rs.same (b.block _ h.rs.lt),h.nx.same (b.block _ h.nx.lt),h.hN,ay h.om (λB hB=>b.block B (h.om.lt B hB).2),ay h.oi (λB hB=>b.block B (h.oi.lt B hB).2),ay h.os (λB hB=>b.block B (h.os.lt B hB).2)⟩
theorem Tc.names (h:Tc w now shift ao n c bo d NX v u L I s js xs W){s':Value}{js':Nat}{xs':List Value}(o:W'.ownsRow (w.heap.size+2) 9 1 s' js' xs')(g:W.grownBy W' s.ownBlock):Tc w now shift ao n c bo d NX v u L I s' js' xs' W':=by
 have hN:=h.hN;have h1:=h.bk.lt;have h2:=h.rs.lt;exact⟨h.below.grown g h.below.size (λq hq=>by have:=(h.os.lt q hq).1;omega),h.bk.same (g.block _ h1 (λe=>by have:=(h.os.lt _ e.symm).1;omega)),h.rs.same (g.block _ h2 (λe=>by have:=(h.os.lt _ e.symm).1;omega)),h.nx.same (g.block _ h.nx.lt (λe=>fy h.os h.nx bK e.symm rfl)),h.hN,ay h.om (λB hB=>g.block B (h.om.lt B hB).2 (λe=>gQ h.om h.os bK hB e.symm)),ay h.oi (λB hB=>g.block B (h.oi.lt B hB).2 (λe=>gQ h.oi h.os bK hB e.symm)),o⟩
theorem Tc.moves (h:Tc w now shift ao n c bo d NX v u L I s js xs W){v':Value}{m:Mv}(o:W'.ownsRow (NX+1) 31 6 v' (L.length+1) (cG (iy L) L.length++m.cells.toList))(g:W.grownBy W' v.ownBlock):am W' NX (now+1) shift v u/\Tc w now shift ao n c bo d NX v' u (L++[m]) I s js xs (W'.setCell ⟨NX,2,none⟩ v'):=by
 have hN:=h.hN;have hn:am W' NX (now+1) shift v u:=h.nx.same (g.block _ h.nx.lt (λe=>fy h.om h.nx bK e.symm rfl));have b1:Below w w W':=h.below.grown g h.below.size (λq hq=>by have:=(h.om.lt q hq).1;omega);obtain⟨X,rfl,y,hb,z,e⟩:=FL hn b1 ab v';have oi':=ay h.oi (w':=W') (λB hB=>g.block B (h.oi.lt B hB).2 (λe=>gQ h.oi h.om bK hB e.symm));have TJ:=ay h.os (w':=W') (λB hB=>g.block B (h.os.lt B hB).2 (λe=>gQ h.os h.om bK hB e.symm));refine⟨hn,hb,h.bk.same ((e _ ab).trans (g.block _ h.bk.lt (λe=>by have:=(h.om.lt _ e.symm).1;omega))),h.rs.same ((e _ ab).trans (g.block _ h.rs.lt (λe=>by have:=(h.om.lt _ e.symm).1;omega))),y,h.hN,?_,ay oi' (λB hB=>e B (fy oi' hn bK hB)),ay TJ (λB hB=>e B (fy TJ hn bK hB))⟩;rw[List.length_append,List.length_singleton,Dc];exact ay o (λB hB=>e B (fy o hn bK hB))
theorem Tc.MX (h:Tc w now shift ao n c bo d NX v u L I s js xs W){u':Value}{x:Int}(o:W'.ownsRow (NX+1) 3 1 u' (I.length+1) (D7 I++[.int .i64 x]))(g:W.grownBy W' u.ownBlock):am W' NX (now+1) shift v u/\Tc w now shift ao n c bo d NX v u' L (I++[x]) s js xs (W'.setCell ⟨NX,3,none⟩ u'):=by
 have hN:=h.hN;have hn:am W' NX (now+1) shift v u:=h.nx.same (g.block _ h.nx.lt (λe=>fy h.oi h.nx bK e.symm rfl));have b1:Below w w W':=h.below.grown g h.below.size (λq hq=>by have:=(h.oi.lt q hq).1;omega);obtain⟨X,rfl,y,hb,z,e⟩:=vh hn b1 ab u';have om':=ay h.om (w':=W') (λB hB=>g.block B (h.om.lt B hB).2 (λe=>gQ h.om h.oi bK hB e.symm));have TJ:=ay h.os (w':=W') (λB hB=>g.block B (h.os.lt B hB).2 (λe=>gQ h.os h.oi bK hB e.symm));refine⟨hn,hb,h.bk.same ((e _ ab).trans (g.block _ h.bk.lt (λe=>by have:=(h.oi.lt _ e.symm).1;omega))),h.rs.same ((e _ ab).trans (g.block _ h.rs.lt (λe=>by have:=(h.oi.lt _ e.symm).1;omega))),y,h.hN,ay om' (λB hB=>e B (fy om' hn bK hB)),?_,ay TJ (λB hB=>e B (fy TJ hn bK hB))⟩;rw[List.length_append,List.length_singleton,show D7 (I++[x])=D7 I++[.int .i64 x] by simp[D7]];exact ay o (λB hB=>e B (fy o hn bK hB))
end
theorem Eq (w:World)(m:Mv):∃W,w.alloc (.cells #[m.name,m.an,m.aD,m.ba,m.late,m.prom] 31)=W/\cJ W w.heap.size m/\Below w w W/\W.heap.size=w.heap.size+1:=
 ⟨_,rfl,heap_alloc_new w _,(aca _ w).alloc (ack _) _,aH⟩
