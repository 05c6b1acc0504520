import Derived.Test.YtjoalkgmgmmedaaGreatDoorj15
import Derived.Shelf.Strconv.Itoa1
import Derived.Shelf.Strconv.Itoa2
import Derived.Shelf.Strconv.Clone
import Derived.Lib.ItoaMem
set_option linter.defProp false
set_option maxHeartbeats 2000000
set_option maxRecDepth 20000
open Array renaming size_replicate->ad
open Go.Lib renaming decDigits->aa,nDigits->ac,pow10Tab->ai,decDigits_length->ao,TabIs->au
namespace Go.Proofs
open Go.Shelf
def Tz.Vf:Go.Shelf.Ren:=⟨λ|283=>123|n=>n,λ|3=>3|9=>9|4=>4|n=>n,λ|n=>n⟩
theorem Tz.smL:Go.Proofs.Lays.n283 Tz.prog Tz.Vf:={
 mixed:=by kernel_rfl
 f283:=Tz.func123.trans (congrArg some<|by kernel_rfl)
 t3:=(Tz.al Tryz.underlying3)
 a3:=(Tz.cQ Tryz.isAgg3)
 z3:=(Tz.bZ Tryz.sizeOf3)
 v3:=(Tz.aQ Tryz.zeroValue3)
 t4:=(Tz.al Tryz.underlying4)
 a4:=(Tz.cQ Tryz.isAgg4)
 z4:=(Tz.bZ Tryz.sizeOf4)
 v4:=(Tz.aQ Tryz.zeroValue4)
 t9:=(Tz.al Tryz.underlying9)
 a9:=(Tz.cQ Tryz.isAgg9)
 z9:=(Tz.bZ Tryz.sizeOf9)
 v9:=(Tz.aQ Tryz.zeroValue9)}
def Tz.UH:Go.Shelf.Ren:=⟨λ|284=>124|129=>136|317=>152|318=>153|n=>n,λ|53=>158|3=>3|212=>199|0=>0|4=>4|46=>130|5=>5|9=>9|n=>n,λ|17=>6|n=>n⟩
theorem Tz.ndL:Go.Proofs.LaysM.n284 Tz.prog Tz.UH:={
 mixed:=by kernel_rfl
 f129:=Tz.func136.trans (congrArg some<|by kernel_rfl)
 f284:=Tz.func124.trans (congrArg some<|by kernel_rfl)
 f317:=Tz.func152.trans (congrArg some<|by kernel_rfl)
 f318:=Tz.func153.trans (congrArg some<|by kernel_rfl)
 t0:=(Tz.al Tryz.underlying0)
 a0:=(Tz.cQ Tryz.isAgg0)
 z0:=(Tz.bZ Tryz.sizeOf0)
 v0:=(Tz.aQ Tryz.zeroValue0)
 t3:=(Tz.al Tryz.underlying3)
 a3:=(Tz.cQ Tryz.isAgg3)
 z3:=(Tz.bZ Tryz.sizeOf3)
 v3:=(Tz.aQ Tryz.zeroValue3)
 t4:=(Tz.al Tryz.underlying4)
 a4:=(Tz.cQ Tryz.isAgg4)
 z4:=(Tz.bZ Tryz.sizeOf4)
 v4:=(Tz.aQ Tryz.zeroValue4)
 t5:=(Tz.al Tryz.underlying5)
 a5:=(Tz.cQ Tryz.isAgg5)
 z5:=(Tz.bZ Tryz.sizeOf5)
 v5:=(Tz.aQ Tryz.zeroValue5)
 t9:=(Tz.al Tryz.underlying9)
 a9:=(Tz.cQ Tryz.isAgg9)
 z9:=(Tz.bZ Tryz.sizeOf9)
 v9:=(Tz.aQ Tryz.zeroValue9)
 t46:=(Tz.al Tryz.underlying130)
 a46:=(Tz.cQ Tryz.isAgg130)
 z46:=(Tz.bZ Tryz.sizeOf130)
 v46:=(Tz.aQ Tryz.zeroValue130)
 t53:=(Tz.al Tryz.underlying158)
 a53:=(Tz.cQ Tryz.isAgg158)
 z53:=(Tz.bZ Tryz.sizeOf158)
 v53:=(Tz.aQ Tryz.zeroValue158)
 t212:=(Tz.al Tryz.underlying199)
 a212:=(Tz.cQ Tryz.isAgg199)
 z212:=(Tz.bZ Tryz.sizeOf199)
 v212:=(Tz.aQ Tryz.zeroValue199)
 g17:=by kernel_rfl
 i0:=by kernel_rfl
 i3:=by kernel_rfl
 i4:=by kernel_rfl
 i5:=by kernel_rfl
 i9:=by kernel_rfl
 i46:=by kernel_rfl
 i53:=by kernel_rfl
 i212:=by kernel_rfl
 m17:=by kernel_rfl}
def Tz.TF:Go.Shelf.Ren:=⟨λ|285=>125|n=>n,λ|37=>39|53=>158|3=>3|4=>4|51=>172|9=>9|5=>5|0=>0|n=>n,λ|n=>n⟩
theorem Tz.fbL:Go.Proofs.Lays.n285 Tz.prog Tz.TF:={
 mixed:=by kernel_rfl
 f285:=Tz.func125.trans (congrArg some<|by kernel_rfl)
 t0:=(Tz.al Tryz.underlying0)
 a0:=(Tz.cQ Tryz.isAgg0)
 z0:=(Tz.bZ Tryz.sizeOf0)
 v0:=(Tz.aQ Tryz.zeroValue0)
 t3:=(Tz.al Tryz.underlying3)
 a3:=(Tz.cQ Tryz.isAgg3)
 z3:=(Tz.bZ Tryz.sizeOf3)
 v3:=(Tz.aQ Tryz.zeroValue3)
 t4:=(Tz.al Tryz.underlying4)
 a4:=(Tz.cQ Tryz.isAgg4)
 z4:=(Tz.bZ Tryz.sizeOf4)
 v4:=(Tz.aQ Tryz.zeroValue4)
 t5:=(Tz.al Tryz.underlying5)
 a5:=(Tz.cQ Tryz.isAgg5)
 z5:=(Tz.bZ Tryz.sizeOf5)
 v5:=(Tz.aQ Tryz.zeroValue5)
 t9:=(Tz.al Tryz.underlying9)
 a9:=(Tz.cQ Tryz.isAgg9)
 z9:=(Tz.bZ Tryz.sizeOf9)
 v9:=(Tz.aQ Tryz.zeroValue9)
 t37:=(Tz.al Tryz.underlying39)
 a37:=(Tz.cQ Tryz.isAgg39)
 z37:=(Tz.bZ Tryz.sizeOf39)
 v37:=(Tz.aQ Tryz.zeroValue39)
 t51:=(Tz.al Tryz.underlying172)
 a51:=(Tz.cQ Tryz.isAgg172)
 z51:=(Tz.bZ Tryz.sizeOf172)
 v51:=(Tz.aQ Tryz.zeroValue172)
 t53:=(Tz.al Tryz.underlying158)
 a53:=(Tz.cQ Tryz.isAgg158)
 z53:=(Tz.bZ Tryz.sizeOf158)
 v53:=(Tz.aQ Tryz.zeroValue158)}
def Tz.Ti:Go.Shelf.Ren:=⟨λ|316=>150|n=>n,λ|9=>9|3=>3|4=>4|37=>39|0=>0|127=>66|5=>5|n=>n,λ|n=>n⟩
theorem Tz.clL:Go.Proofs.LaysM.n316 Tz.prog Tz.Ti:={
 mixed:=by kernel_rfl
 f316:=Tz.func150.trans (congrArg some<|by kernel_rfl)
 t0:=(Tz.al Tryz.underlying0)
 a0:=(Tz.cQ Tryz.isAgg0)
 z0:=(Tz.bZ Tryz.sizeOf0)
 v0:=(Tz.aQ Tryz.zeroValue0)
 t3:=(Tz.al Tryz.underlying3)
 a3:=(Tz.cQ Tryz.isAgg3)
 z3:=(Tz.bZ Tryz.sizeOf3)
 v3:=(Tz.aQ Tryz.zeroValue3)
 t4:=(Tz.al Tryz.underlying4)
 a4:=(Tz.cQ Tryz.isAgg4)
 z4:=(Tz.bZ Tryz.sizeOf4)
 v4:=(Tz.aQ Tryz.zeroValue4)
 t9:=(Tz.al Tryz.underlying9)
 a9:=(Tz.cQ Tryz.isAgg9)
 z9:=(Tz.bZ Tryz.sizeOf9)
 v9:=(Tz.aQ Tryz.zeroValue9)
 t37:=(Tz.al Tryz.underlying39)
 a37:=(Tz.cQ Tryz.isAgg39)
 z37:=(Tz.bZ Tryz.sizeOf39)
 v37:=(Tz.aQ Tryz.zeroValue39)
 t127:=(Tz.al Tryz.underlying66)
 a127:=(Tz.cQ Tryz.isAgg66)
 z127:=(Tz.bZ Tryz.sizeOf66)
 v127:=(Tz.aQ Tryz.zeroValue66)
 t5:=(Tz.al Tryz.underlying5)
 a5:=(Tz.cQ Tryz.isAgg5)
 z5:=(Tz.bZ Tryz.sizeOf5)
 v5:=(Tz.aQ Tryz.zeroValue5)
 i0:=by kernel_rfl
 i3:=by kernel_rfl
 i4:=by kernel_rfl
 i5:=by kernel_rfl
 i9:=by kernel_rfl
 i37:=by kernel_rfl
 i127:=by kernel_rfl}
end Go.Proofs
namespace Go.Proofs.YtjoalkgmgmmedaaGreatDoor
open Go.Sort RowKit Shelf
def TI n (f:n<18446744073709551616)(i:ac n<=23)(w:World):
  Calls Tz.prog 125 #[.slice (some ⟨w,1,none⟩) (ac n) 23,.int .u64 n] (w.alloc<|.cells Lib.zeros24 157) λe w'=>e=.returned (.tuple #[])/\
   (∀j,(a:j<(aa n).length)->w'.cell? ⟨w,1+j,none⟩=some (.int .u8 ((aa n)[j].toNat:Int)))/\Below w w w':=by
 have c:=Lib.holds_zero w 157 (ac n) (by omega);have h:=Any.internal_strconv_formatBase10 Tz.fbL w.heap.size 1 23 n _ _ c (by grind [ad,Lib.lt_pow_nDigits]) f gC;rw[ad]at h;apply h.mono;rintro e w' ⟨rfl,k,l,d,rfl,hF⟩;refine⟨rfl,λj a=>?_,?_⟩
 .rw[Lib.row_is_numeral hF j a,World.cell?_drewN];exact cell?_putRow (λ(b:UInt8)=>Value.int .u8 _) _ w.heap.size 1 _ d c (by rw[hF.size,ad]) j (by rw[hF.size];rw[ao]at a;exact a)
 obtain⟨m,g⟩:=Lib.fin_pos w _ d k;rw[g];refine⟨rfl,rfl,rfl,cO,λb o=>?_⟩;simp[grow];grind
def TH (n:Nat)(o:n<1000000)(w:World)(d:au Tz.prog w "internal/strconv.uint64pow10" .u64 ai):
  Calls Tz.prog 99 #[.int .i64 n,(10:Int)] w λe w'=>e=.returned (.string ⟨(aa n).toArray⟩)/\Below w w w':=by
 go_enter Tz.func99,Tryz.ntmps99
 refine uv ?_;by_cases f:n<100
 .have g:(n:Int)<100:=by omega
  have H:=λw=>Any.internal_strconv_small Tz.smL n f w
  go_wp2_with(go_at_call 123;refine(H _).mono ?_;rintro e a ⟨rfl,i⟩;subst a)
  all_goals go_ret
  all_goals exact⟨rfl,afB _ _⟩
 have g:¬(n:Int)<100:=by omega
 have r:ac n<=20:=by have:=Lib.numDigits_eq n (by omega) (by omega);grind
 have k:=λw l=>Any.internal_strconv_numDigits Tz.ndL n (by omega) (by omega) w l
 have m:=TI n (by omega) (by omega) w;have b:Tz.prog.arrayLen 157=24:=by kernel_rfl
 have s:∀W,(Instr.sliceAt 157 _ (some<|.int .i64 1) (some<|.int .i64<|1+(ac n:Int)) none).run Tz.prog W=.ok (.slice (some ⟨w.heap.size,1,none⟩) (ac n) 23) W:=λW=>by
  rw[run_sliceAt_array_lh W 157 ⟨w.heap.size,0,none⟩ (by kernel_rfl) .i64 .i64 1 (1+(ac n:Int)) (by omega) (by omega) ab];rw[b];go_simp
  omega
 clear b;go_wp2_with(first
  |(go_at_call 124;refine(k _<|Lib.tabIs_alloc d _).mono ?_;rintro e a ⟨rfl,i⟩;subst a)
  |(go_at_call 125;refine m.mono ?_;rintro e a ⟨rfl,t,u⟩;have c:=run_convert_bytes_back a 39 9 5 ⟨w.heap.size,1,none⟩ 23 (aa n) (Tz.al Tryz.underlying39) (Tz.al Tryz.underlying5) (Tz.al Tryz.underlying9) (λj v=>by grind [Lib.add_plain]);rw[ao]at c))
 all_goals go_ret
 simp_all
def Uw (n:Nat)(a:n<1000000)(w:World)(b:au Tz.prog w "internal/strconv.uint64pow10" .u64 ai):
  Calls Tz.prog 73 #[.int .i64 n] w λe w'=>e=.returned (.string ⟨(aa n).toArray⟩)/\Below w w w':=by
 go_enter Tz.func73,Tryz.ntmps73
 go_wp2_with(go_at_call 99;refine(TH n a w b).mono ?_;rintro e c ⟨rfl,d⟩)
 go_ret;simp_all
def Qf (n:Nat)(a:n<1000000)(w:World)(b:au Tz.prog w "internal/strconv.uint64pow10" .u64 ai):
  Calls Tz.prog 54 #[.int .i64 n] w λe w'=>e=.returned (.string ⟨(aa n).toArray⟩)/\Below w w w':=by
 go_enter Tz.func54,Tryz.ntmps54
 go_wp2_with(go_at_call 73;refine(Uw n a w b).mono ?_;rintro e c ⟨rfl,d⟩)
 go_ret;simp_all
