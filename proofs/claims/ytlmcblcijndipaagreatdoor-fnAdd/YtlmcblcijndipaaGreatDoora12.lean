import Derived.Test.YtlmcblcijndipaaGreatDoora00
import Derived.Below
import Derived.Test.YtlmcblcijndipaaGreatDoorChecked
import Derived.Conc.WgGenN3
namespace Go.Proofs.YtlmcblcijndipaaGreatDoor
open Conc.Lib RowKit
def aA (w:World)(b off n:Nat)(g:Nat->Int):Prop:=∀i,i<n->w.cell? ⟨b,off+i,none⟩=some (.int .i64<|g i)
def ep (w:World)(a:Option Addr)(n:Nat)(g:Nat->Int):Prop:=n=0\/∃b off,a=some ⟨b,off,none⟩/\aA w b off n g
structure aJ where
 ok:Bool
 sum:Int
 most:Int
 a:Option Addr
 n:Nat
 cap:Nat
 g:Nat->Int
def aJ.val (x:aJ):Value:=.agg #[x.ok,x.sum,x.most,.slice x.a x.n x.cap]
def d7:aJ:=⟨false,0,0,none,0,0,λ_=>0⟩
def aJ.cells (x:aJ):List Value:=[x.ok,x.sum,x.most,.slice x.a x.n x.cap]
abbrev link:WgLink:={add:=155,done:=157,wait:=159,relMerge:=175,disable:=176,enable:=177,inBubble:=178,associate:=179,fatal:=180,uOr:=181,uAdd:=182,raceRead:=183,uLoad:=184,uStore:=185,disassociate:=186,semrelease:=187,acquire:=190,isAssociated:=191,uCas:=192,raceWrite:=193,semacquire:=194,orU64:=226,addU64:=227,loadU64:=228,storeU64:=229,casU64:=232,tWgP:=229,tUP:=158,tAssoc:=231,tWg:=210,tAU:=207,tU64:=205,tUint:=228,tU32:=208,tPU32:=235,tPAU:=270,tPU64:=272,tNoCopy:=204,tANoCopy:=200,tAlign64:=201}
theorem Bc:WgLib Tryz.prog link:=
 ⟨Tryz.func155,Tryz.func157,Tryz.func159,Tryz.func175,Tryz.func176,Tryz.func177,Tryz.func178,Tryz.func179,Tryz.func180,Tryz.func181,Tryz.func182,Tryz.func183,Tryz.func184,Tryz.func185,Tryz.func186,Tryz.func187,Tryz.func190,Tryz.func191,Tryz.func192,Tryz.func193,Tryz.func194,Tryz.func226,Tryz.func227,Tryz.func228,Tryz.func229,Tryz.func232,Tryz.underlying229,Tryz.runUnderlying229,Tryz.sizeOf229,Tryz.isAgg229,Tryz.zeroValue229,Tryz.underlying158,Tryz.runUnderlying158,Tryz.sizeOf158,Tryz.isAgg158,Tryz.zeroValue158,Tryz.underlying231,Tryz.runUnderlying231,Tryz.sizeOf231,Tryz.isAgg231,Tryz.zeroValue231,Tryz.underlying210,Tryz.runUnderlying210,Tryz.sizeOf210,Tryz.isAgg210,Tryz.zeroValue210,Tryz.underlying207,Tryz.runUnderlying207,Tryz.sizeOf207,Tryz.isAgg207,Tryz.zeroValue207,Tryz.underlying205,Tryz.runUnderlying205,Tryz.sizeOf205,Tryz.isAgg205,Tryz.zeroValue205,Tryz.underlying228,Tryz.runUnderlying228,Tryz.sizeOf228,Tryz.isAgg228,Tryz.zeroValue228,Tryz.underlying208,Tryz.runUnderlying208,Tryz.sizeOf208,Tryz.isAgg208,Tryz.zeroValue208,Tryz.underlying235,Tryz.runUnderlying235,Tryz.sizeOf235,Tryz.isAgg235,Tryz.zeroValue235,Tryz.underlying270,Tryz.runUnderlying270,Tryz.sizeOf270,Tryz.isAgg270,Tryz.zeroValue270,Tryz.underlying272,Tryz.runUnderlying272,Tryz.sizeOf272,Tryz.isAgg272,Tryz.zeroValue272,Tryz.underlying0,Tryz.runUnderlying0,Tryz.sizeOf0,Tryz.isAgg0,Tryz.zeroValue0,Tryz.underlying3,Tryz.runUnderlying3,Tryz.sizeOf3,Tryz.isAgg3,Tryz.zeroValue3,Tryz.underlying4,Tryz.runUnderlying4,Tryz.sizeOf4,Tryz.isAgg4,Tryz.zeroValue4,Tryz.underlying9,Tryz.runUnderlying9,Tryz.sizeOf9,Tryz.isAgg9,Tryz.zeroValue9,Tryz.underlying20,Tryz.runUnderlying20,Tryz.sizeOf20,Tryz.isAgg20,Tryz.zeroValue20,Tryz.underlying21,Tryz.runUnderlying21,Tryz.sizeOf21,Tryz.isAgg21,Tryz.zeroValue21,bD,bD⟩
