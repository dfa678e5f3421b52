import Derived.Test.YtlhfiapfncikdaaGreatDoorPN16
import Derived.Test.YtlhfiapfncikdaaGreatDoorPN22
import Derived.Test.YtlhfiapfncikdaaGreatDoorPN23
import Derived.Test.YtlhfiapfncikdaaGreatDoorPN25
set_option linter.unusedVariables false
set_option linter.unusedSimpArgs false
set_option maxRecDepth 100000
set_option maxHeartbeats 3200000
namespace Go.Proofs.YtlhfiapfncikdaaGreatDoor
namespace Vq
section
open Go.Shelf
def Tryz.laysM173_ren:Go.Shelf.Ren:=⟨fun | 173=>222 | 246=>252 | 283=>266 | 284=>267 | 285=>268 | 286=>269 | 129=>275 | 317=>274 | 318=>276 | 319=>277 | 320=>278 | 337=>288 | 338=>289 | n=>n,fun | 2=>2 | 3=>3 | 9=>9 | 4=>4 | 171=>286 | 0=>0 | 53=>287 | 37=>201 | 5=>5 | 173=>290 | 212=>297 | 51=>298 | 20=>20 | 213=>299 | 46=>294 | 232=>315 | 233=>316 | n=>n,fun | 17=>8 | 18=>9 | 19=>10 | n=>n⟩
theorem Tryz.laysM173:Go.Proofs.LaysM.n173 Tryz.prog Tryz.laysM173_ren:={
 mixed:=by kernel_rfl
 f129:=Tryz.func275.trans (congrArg some (by kernel_rfl))
 f173:=Tryz.func222.trans (congrArg some (by kernel_rfl))
 f246:=Tryz.func252.trans (congrArg some (by kernel_rfl))
 f283:=Tryz.func266.trans (congrArg some (by kernel_rfl))
 f284:=Tryz.func267.trans (congrArg some (by kernel_rfl))
 f285:=Tryz.func268.trans (congrArg some (by kernel_rfl))
 f286:=Tryz.func269.trans (congrArg some (by kernel_rfl))
 f317:=Tryz.func274.trans (congrArg some (by kernel_rfl))
 f318:=Tryz.func276.trans (congrArg some (by kernel_rfl))
 f319:=Tryz.func277.trans (congrArg some (by kernel_rfl))
 f320:=Tryz.func278.trans (congrArg some (by kernel_rfl))
 f337:=Tryz.func288.trans (congrArg some (by kernel_rfl))
 f338:=Tryz.func289.trans (congrArg some (by kernel_rfl))
 t0:=Tryz.underlying0
 a0:=Tryz.isAgg0
 z0:=Tryz.sizeOf0
 v0:=Tryz.zeroValue0
 t2:=Tryz.underlying2
 a2:=Tryz.isAgg2
 z2:=Tryz.sizeOf2
 v2:=Tryz.zeroValue2
 t3:=Tryz.underlying3
 a3:=Tryz.isAgg3
 z3:=Tryz.sizeOf3
 v3:=Tryz.zeroValue3
 t4:=Tryz.underlying4
 a4:=Tryz.isAgg4
 z4:=Tryz.sizeOf4
 v4:=Tryz.zeroValue4
 t5:=Tryz.underlying5
 a5:=Tryz.isAgg5
 z5:=Tryz.sizeOf5
 v5:=Tryz.zeroValue5
 t9:=Tryz.underlying9
 a9:=Tryz.isAgg9
 z9:=Tryz.sizeOf9
 v9:=Tryz.zeroValue9
 t20:=Tryz.underlying20
 a20:=Tryz.isAgg20
 z20:=Tryz.sizeOf20
 v20:=Tryz.zeroValue20
 t37:=Tryz.underlying201
 a37:=Tryz.isAgg201
 z37:=Tryz.sizeOf201
 v37:=Tryz.zeroValue201
 t46:=Tryz.underlying294
 a46:=Tryz.isAgg294
 z46:=Tryz.sizeOf294
 v46:=Tryz.zeroValue294
 t51:=Tryz.underlying298
 a51:=Tryz.isAgg298
 z51:=Tryz.sizeOf298
 v51:=Tryz.zeroValue298
 t53:=Tryz.underlying287
 a53:=Tryz.isAgg287
 z53:=Tryz.sizeOf287
 v53:=Tryz.zeroValue287
 t171:=Tryz.underlying286
 a171:=Tryz.isAgg286
 z171:=Tryz.sizeOf286
 v171:=Tryz.zeroValue286
 t173:=Tryz.underlying290
 a173:=Tryz.isAgg290
 z173:=Tryz.sizeOf290
 v173:=Tryz.zeroValue290
 t212:=Tryz.underlying297
 a212:=Tryz.isAgg297
 z212:=Tryz.sizeOf297
 v212:=Tryz.zeroValue297
 t213:=Tryz.underlying299
 a213:=Tryz.isAgg299
 z213:=Tryz.sizeOf299
 t232:=Tryz.underlying315
 a232:=Tryz.isAgg315
 z232:=Tryz.sizeOf315
 v232:=Tryz.zeroValue315
 t233:=Tryz.underlying316
 a233:=Tryz.isAgg316
 z233:=Tryz.sizeOf316
 v233:=Tryz.zeroValue316
 g17:=by kernel_rfl
 g18:=by kernel_rfl
 g19:=by kernel_rfl
 i0:=by kernel_rfl
 i2:=by kernel_rfl
 i3:=by kernel_rfl
 i4:=by kernel_rfl
 i5:=by kernel_rfl
 i9:=by kernel_rfl
 i20:=by kernel_rfl
 i37:=by kernel_rfl
 i46:=by kernel_rfl
 i51:=by kernel_rfl
 i53:=by kernel_rfl
 i171:=by kernel_rfl
 i173:=by kernel_rfl
 i212:=by kernel_rfl
 i232:=by kernel_rfl
 i233:=by kernel_rfl
 m17:=by kernel_rfl
 m18:=by kernel_rfl
 m19:=by kernel_rfl }
open Go.RowKit Go.Sort Go.Lib in
theorem Tryz.strconv_FormatInt_10 (n:Int)(h0:-9223372036854775808≤n)(h1:n≤9223372036854775807)(w:World)(htab:Lib.TabIs Tryz.prog w "internal/strconv.uint64pow10" .u64 Lib.pow10Tab) :
 Calls Tryz.prog 222 #[.int .i64 n,.int .i64 10] w fun e w'=>e=.returned (.string ⟨(Lib.itoa n).toArray⟩)∧∃ k os,w'=grow (w.drewN k) os:=Any.strconv_FormatInt_10 Tryz.laysM173 n h0 h1 w htab
def Tryz.laysSlC25_f255_ren:Go.Shelf.Ren:=⟨fun | 5=>255 | 7=>272 | n=>n,fun | 22=>2 | 3=>3 | 4=>4 | n=>n,fun | n=>n⟩
theorem Tryz.laysSlC25_f255:Go.Proofs.SlLaysC2.n5 Tryz.prog Tryz.laysSlC25_f255_ren:={
 mixed:=by kernel_rfl
 f5:=⟨Tryz.f255.name,by decide,Tryz.func255.trans (congrArg some (by kernel_rfl))⟩
 f7:=⟨Tryz.f272.name,by decide,Tryz.func272.trans (congrArg some (by kernel_rfl))⟩
 t3:=Tryz.underlying3
 a3:=Tryz.isAgg3
 z3:=Tryz.sizeOf3
 v3:=Tryz.zeroValue3
 t4:=Tryz.underlying4
 a4:=Tryz.isAgg4
 z4:=Tryz.sizeOf4
 v4:=Tryz.zeroValue4
 t22:=Tryz.underlying2
 a22:=Tryz.isAgg2
 z22:=Tryz.sizeOf2
 v22:=Tryz.zeroValue2 }
open Go.Lib in
theorem Tryz.cmp_Compare_int (x y:Int)(w:World) :
 Calls Tryz.prog 255 #[.int .i64 x,.int .i64 y] w fun e w'=>e=.returned (.int .i64 (Lib.compareInt x y))∧w'=w:=AnyG.cmp_Compare_int Tryz.laysSlC25_f255 x y w
end
end Vq
namespace zI
section
open Go.RowKit bN bO XM
theorem Zz {P:Program}{W:World}{L:List (String×DataW Unit)}{name:String}{k:IntKind}{zs:List Int}{g:Nat}{t e:TypeId}{n:Nat}(hL:laidMet P L W)(hm:(name,Lib.tabData k zs)∈L)
 (hg:P.globalNamed name=some g) (hty:(P.globals[g]?).map (·.type)=some t) (ht:P.underlying t=some (.array n e)) (he:P.underlying e=some (.int k)) (hce:P.cellsOf e=1) (hct:P.cellsOf t=n):Lib.TabIs P W name k zs:=by
 obtain ⟨ps,hl,_,_⟩:=hL
 obtain ⟨g',t',cs,fuel,p,h1,h2,h3,h4⟩:=Zf.Ic L ps hl _ hm
 obtain rfl:=fC (hg.symm.trans h1)
 obtain rfl:=fC (hty.symm.trans h2)
 unfold Lib.TabIs
 rw [h3,←Lib.cells_of_tab ht he hce hct h4]
structure oN (n:Nat)(W:World)(a:Nat→Addr):Prop where
 sen:yM n W a
 tab:Lib.TabIs Tryz.prog W "internal/strconv.uint64pow10" .u64 Lib.pow10Tab
theorem oN.mv {n:Nat}{W W':World}{a:Nat→Addr}(h:oN n W a)(hb:Below W.heap.size W W'):oN n W' a:=⟨h.sen.mv hb,Lib.tabBelow_of_tabIs h.tab W' hb⟩
theorem ad1 {W:World}(hL:laidMetH Tryz.prog [("math/bits.deBruijn32tab",Rows.laid_math_bits_deBruijn32tab),("math/bits.deBruijn64tab",Rows.laid_math_bits_deBruijn64tab),("internal/strconv.uint64pow10",Rows.laid_internal_strconv_uint64pow10),("loop.example/g00658/impl.errForm",Rows.laid_loop_example_g00658_impl_errForm),("loop.example/g00658/impl.errNone",Rows.laid_loop_example_g00658_impl_errNone),("loop.example/g00658/impl.errThere",Rows.laid_loop_example_g00658_impl_errThere),("loop.example/g00658/impl.errRange",Rows.laid_loop_example_g00658_impl_errRange),("loop.example/g00658/impl.errFull",Rows.laid_loop_example_g00658_impl_errFull),("loop.example/g00658/impl.errState",Rows.laid_loop_example_g00658_impl_errState),("loop.example/g00658/impl.errLabel",Rows.laid_loop_example_g00658_impl_errLabel)] W):∃ a:Nat→Addr,oN 7 W a:=by
 obtain ⟨a,ha⟩:=ZI hL
 exact ⟨a,ha,Zz (g:=8) (t:=297) (Zf.DU (by rfl) hL) (List.mem_cons_of_mem _ (List.mem_cons_of_mem _ List.mem_cons_self)) (by kernel_rfl) (by kernel_rfl) Tryz.underlying297 Tryz.underlying287 (by kernel_rfl) (by kernel_rfl)⟩
def TxtD (W:World)(e:Ending)(w':World):Prop:=∃ s:ByteArray,e=.returned (.string s)∧s.size≤32∧Below W.heap.size W w'
theorem Qv {W:World}{e:Ending}{w':World}(h:TxtD W e w'):∃ s:ByteArray,e=.returned (.string s)∧s.size≤32∧Below W.heap.size W w':=h
theorem RD {k:Nat}{a:Nat→Addr}{W:World}(n:Int)(h0:-9223372036854775808≤n)(h1:n≤9223372036854775807)(hD:oN k W a):Calls Tryz.prog 169 #[.int .i64 n] W (TxtD W):=by
 have hF:=Vq.Tryz.strconv_FormatInt_10 n h0 h1 W hD.tab
 clear hD
 have hl:(⟨(Lib.itoa n).toArray⟩:ByteArray).size≤32:=by
  show (Lib.itoa n).toArray.size≤32
  have:=Lib.itoa_length_le n h0 h1
  simp only [List.size_toArray]
  omega
 generalize hs:(⟨(Lib.itoa n).toArray⟩:ByteArray)=s at hF hl
 clear hs
 go_enter Tryz.func169,Tryz.ntmps169
 go_wp2_with fail
 refine hF.mono ?_
 rintro e w1 ⟨rfl,k,os,rfl⟩
 have HB:=ak (Lib.below_grow W.heap.size W (bK _) k os)
 generalize «Sort».grow (W.drewN k) os=w1 at *
 clear hF
 go_wp2
 go_ret
 exact ⟨s,rfl,hl,HB.out⟩
end
end zI
namespace aQ
section
open Go.RowKit bN bO bJ bQ eO CF
theorem Qr {x0 x1 x2:Int}{x3:ByteArray}{x4 x5 x6 x7 x8 x9 x10 aS aV:Int}{M:List Int}{ma:Option Addr}{mc:Nat}{b:Bool}(hb:(aS==1)=b)(W:World):Calls Tryz.prog 80 #[.agg #[.int .i64 x0,.int .i64 x1,.int .i64 x2,.string x3,.int .i64 x4,.int .i64 x5,.int .i64 x6,.int .i64 x7,.int .i64 x8,.int .i64 x9,.int .i64 x10,.int .i64 aS,.int .i64 aV,.slice ma M.length mc]] W fun e w'=>e=.returned (.bool b)∧Below W.heap.size W w':=by
 have HB0:=ak (show Below W.heap.size W (W.alloc (.cells #[.int .i64 x0,.int .i64 x1,.int .i64 x2,.string x3,.int .i64 x4,.int .i64 x5,.int .i64 x6,.int .i64 x7,.int .i64 x8,.int .i64 x9,.int .i64 x10,.int .i64 aS,.int .i64 aV,.slice ma M.length mc] 72)) from (aW _ _).alloc (bK _) _)
 go_enter Tryz.func80,Tryz.ntmps80
 go_wp2
 go_ret
 exact ⟨by first | rfl | (rw [←hb];rfl) | simp [hb],HB0.out⟩
theorem qX {x0 x1 x2:Int}{x3:ByteArray}{x4 x5 x6 x7 x8 x9 x10 aS aV:Int}{M:List Int}{ma:Option Addr}{mc:Nat}{b:Bool}(hb:(aS==2)=b)(W:World):Calls Tryz.prog 174 #[.agg #[.int .i64 x0,.int .i64 x1,.int .i64 x2,.string x3,.int .i64 x4,.int .i64 x5,.int .i64 x6,.int .i64 x7,.int .i64 x8,.int .i64 x9,.int .i64 x10,.int .i64 aS,.int .i64 aV,.slice ma M.length mc]] W fun e w'=>e=.returned (.bool b)∧Below W.heap.size W w':=by
 have HB0:=ak (show Below W.heap.size W (W.alloc (.cells #[.int .i64 x0,.int .i64 x1,.int .i64 x2,.string x3,.int .i64 x4,.int .i64 x5,.int .i64 x6,.int .i64 x7,.int .i64 x8,.int .i64 x9,.int .i64 x10,.int .i64 aS,.int .i64 aV,.slice ma M.length mc] 72)) from (aW _ _).alloc (bK _) _)
 go_enter Tryz.func174,Tryz.ntmps174
 go_wp2
 go_ret
 exact ⟨by first | rfl | (rw [←hb];rfl) | simp [hb],HB0.out⟩
theorem WA {x0 x1 x2:Int}{x3:ByteArray}{x4 x5 x6 x7 x8 x9 x10 aS aV:Int}{M:List Int}{ma:Option Addr}{mc:Nat}{b:Bool}(hb:(aS==3)=b)(W:World):Calls Tryz.prog 265 #[.agg #[.int .i64 x0,.int .i64 x1,.int .i64 x2,.string x3,.int .i64 x4,.int .i64 x5,.int .i64 x6,.int .i64 x7,.int .i64 x8,.int .i64 x9,.int .i64 x10,.int .i64 aS,.int .i64 aV,.slice ma M.length mc]] W fun e w'=>e=.returned (.bool b)∧Below W.heap.size W w':=by
 have HB0:=ak (show Below W.heap.size W (W.alloc (.cells #[.int .i64 x0,.int .i64 x1,.int .i64 x2,.string x3,.int .i64 x4,.int .i64 x5,.int .i64 x6,.int .i64 x7,.int .i64 x8,.int .i64 x9,.int .i64 x10,.int .i64 aS,.int .i64 aV,.slice ma M.length mc] 72)) from (aW _ _).alloc (bK _) _)
 go_enter Tryz.func265,Tryz.ntmps265
 go_wp2
 go_ret
 exact ⟨by first | rfl | (rw [←hb];rfl) | simp [hb],HB0.out⟩
theorem Z9 {x0 x1 x2:Int}{x3:ByteArray}{x4 x5 x6 x7 x8 x9 x10 aS aV:Int}{M:List Int}{ma:Option Addr}{mc:Nat}{W:World}(h0:0≤aV∧aV≤1000000)(h1:1≤x5∧x5≤20):Calls Tryz.prog 244 #[.agg #[.int .i64 x0,.int .i64 x1,.int .i64 x2,.string x3,.int .i64 x4,.int .i64 x5,.int .i64 x6,.int .i64 x7,.int .i64 x8,.int .i64 x9,.int .i64 x10,.int .i64 aS,.int .i64 aV,.slice ma M.length mc]] W fun e w'=>e=.returned (.int .i64 (aV+1+x5))∧Below W.heap.size W w':=by
 have HB0:=ak (show Below W.heap.size W (W.alloc (.cells #[.int .i64 x0,.int .i64 x1,.int .i64 x2,.string x3,.int .i64 x4,.int .i64 x5,.int .i64 x6,.int .i64 x7,.int .i64 x8,.int .i64 x9,.int .i64 x10,.int .i64 aS,.int .i64 aV,.slice ma M.length mc] 72)) from (aW _ _).alloc (bK _) _)
 have e1:IntKind.i64.wrap (aV+1)=aV+1:=gK _ (by omega)
 have e2:IntKind.i64.wrap (aV+1+x5)=aV+1+x5:=gK _ (by omega)
 go_enter Tryz.func244,Tryz.ntmps244
 go_wp2
 go_ret
 exact ⟨by first | rfl | (simp [e1,e2];done) | (rw [e1,e2]),HB0.out⟩
theorem QX {x0 x1 x2:Int}{x3:ByteArray}{x4 x5 x6 x7 x8 x9 x10 aS aV:Int}{M:List Int}{ma:Option Addr}{mc:Nat}{b:Bool}(hb:decide (0<M.length)=b)(W:World):Calls Tryz.prog 245 #[.agg #[.int .i64 x0,.int .i64 x1,.int .i64 x2,.string x3,.int .i64 x4,.int .i64 x5,.int .i64 x6,.int .i64 x7,.int .i64 x8,.int .i64 x9,.int .i64 x10,.int .i64 aS,.int .i64 aV,.slice ma M.length mc]] W fun e w'=>e=.returned (.bool b)∧Below W.heap.size W w':=by
 have HB0:=ak (show Below W.heap.size W (W.alloc (.cells #[.int .i64 x0,.int .i64 x1,.int .i64 x2,.string x3,.int .i64 x4,.int .i64 x5,.int .i64 x6,.int .i64 x7,.int .i64 x8,.int .i64 x9,.int .i64 x10,.int .i64 aS,.int .i64 aV,.slice ma M.length mc] 72)) from (aW _ _).alloc (bK _) _)
 have hb':decide ((0:Int)<(M.length:Int))=b:=by rw [←hb];congr 1;apply propext;omega
 go_enter Tryz.func245,Tryz.ntmps245
 go_wp2
 go_ret
 exact ⟨by first | rfl | (rw [hb'];done) | (rw [hb];done) | simp [hb,hb'],HB0.out⟩
theorem Wv {x0 x1 x2:Int}{x3:ByteArray}{x4 x5 x6 x7 x8 x9 x10 aS aV:Int}{M:List Int}{ma:Option Addr}{mc:Nat}{W:World}:Calls Tryz.prog 246 #[.agg #[.int .i64 x0,.int .i64 x1,.int .i64 x2,.string x3,.int .i64 x4,.int .i64 x5,.int .i64 x6,.int .i64 x7,.int .i64 x8,.int .i64 x9,.int .i64 x10,.int .i64 aS,.int .i64 aV,.slice ma M.length mc]] W fun e w'=>e=.returned (.bool (dD aS 1 3))∧Below W.heap.size W w':=by
 obtain ⟨w0,hw0⟩:∃ w,w=W.alloc (.cells #[.int .i64 x0,.int .i64 x1,.int .i64 x2,.string x3,.int .i64 x4,.int .i64 x5,.int .i64 x6,.int .i64 x7,.int .i64 x8,.int .i64 x9,.int .i64 x10,.int .i64 aS,.int .i64 aV,.slice ma M.length mc] 72):=⟨_,rfl⟩
 have HB0:=ak (show Below W.heap.size W w0 from by rw [hw0];exact (aW _ _).alloc (bK _) _)
 have X0:=ak (show aO w0 W.heap.size 72 #[.int .i64 x0,.int .i64 x1,.int .i64 x2,.string x3,.int .i64 x4,.int .i64 x5,.int .i64 x6,.int .i64 x7,.int .i64 x8,.int .i64 x9,.int .i64 x10,.int .i64 aS,.int .i64 aV,.slice ma M.length mc] from by rw [hw0];exact aO.new _ _ _)
 go_enter Tryz.func246,Tryz.ntmps246
 go_wp2_with fail
 rw [←hw0]
 clear hw0
 obtain ⟨b0,hb0⟩:∃ b,(aS==1)=b:=⟨_,rfl⟩
 refine (Qr hb0 _).mono ?_
 rintro e w1 ⟨rfl,hb⟩
 have HB1:=ak (HB0.out.trans (hb.mono HB0.out.size))
 have X1:=ak (X0.out.call hb)
 clear hb
 have Pt:=ak hb0
 clear hb0
 cases b0 with
 | true=>
  have HV:=ak (show (dD aS 1 3)=true from by have h0:=Pt.out;simp only [beq_iff_eq,beq_eq_false_iff_ne,ne_eq] at *;rw [dG];omega)
  go_wp2
  go_ret
  exact ⟨by first | (rw [HV.out];done) | (rw [HV.out];rfl),HB1.out⟩
 | false=>
  obtain ⟨p0,p1,p2,p3,p4,p5,p6,p7,p8,p9,Si,O8,Sd,JX⟩:=X1.out.fF rfl
  obtain ⟨b1,hb1⟩:∃ b,(aS==2)=b:=⟨_,rfl⟩
  go_wp2_with fail
  refine (qX hb1 _).mono ?_
  rintro e w2 ⟨rfl,hb⟩
  have HB2:=ak (HB1.out.trans (hb.mono HB1.out.size))
  have X2:=ak (X1.out.call hb)
  clear hb
  clear p0 p1 p2 p3 p4 p5 p6 p7 p8 p9 Si O8 Sd JX
  have Sy:=ak hb1
  clear hb1
  cases b1 with
  | true=>
   have HV:=ak (show (dD aS 1 3)=true from by have h0:=Pt.out;have h1:=Sy.out;simp only [beq_iff_eq,beq_eq_false_iff_ne,ne_eq] at *;rw [dG];omega)
   go_wp2
   go_ret
   exact ⟨by first | (rw [HV.out];done) | (rw [HV.out];rfl),HB2.out⟩
  | false=>
   obtain ⟨p0,p1,p2,p3,p4,p5,p6,p7,p8,p9,Si,O8,Sd,JX⟩:=X2.out.fF rfl
   obtain ⟨b2,hb2⟩:∃ b,(aS==3)=b:=⟨_,rfl⟩
   go_wp2_with fail
   refine (WA hb2 _).mono ?_
   rintro e w3 ⟨rfl,hb⟩
   have HB3:=ak (HB2.out.trans (hb.mono HB2.out.size))
   have X3:=ak (X2.out.call hb)
   clear hb
   clear p0 p1 p2 p3 p4 p5 p6 p7 p8 p9 Si O8 Sd JX
   have HE2:=ak hb2
   clear hb2
   cases b2 with
   | true=>
    have HV:=ak (show (dD aS 1 3)=true from by have h0:=Pt.out;have h1:=Sy.out;have h2:=HE2.out;simp only [beq_iff_eq,beq_eq_false_iff_ne,ne_eq] at *;rw [dG];omega)
    go_wp2
    go_ret
    exact ⟨by first | (rw [HV.out];done) | (rw [HV.out];rfl),HB3.out⟩
   | false=>
    have HV:=ak (show (dD aS 1 3)=false from by have h0:=Pt.out;have h1:=Sy.out;have h2:=HE2.out;simp only [beq_iff_eq,beq_eq_false_iff_ne,ne_eq] at *;rw [Bool.eq_false_iff,ne_eq,dG];omega)
    go_wp2
    go_ret
    exact ⟨by first | (rw [HV.out];done) | (rw [HV.out];rfl),HB3.out⟩
theorem Rx {L:List Int}{a:Option Addr}{cap:Nat}{n:Int}{W:World}(h:aJ I W W.heap.size L a cap) :
 Calls Tryz.prog 223 #[.slice a L.length cap,.int .i64 n] W (fun e w'=>∃ i:Int,e=.returned (.int .i64 i)∧(0≤i↔n∈L)∧Below W.heap.size W w'):=by
 have hn:L.length≤9223372036854775807:=by have h1:=h.1;have h2:=h.2.1;unfold maxLen at h2;omega
 have H:=ak h
 clear h
 go_enter Tryz.func223,Tryz.ntmps223
 go_wp2
 go_loopw [8] (fun i wr=>∃ k:Nat,k≤L.length∧i=.int .i64 k∧Hid (n ∉ L.take k)∧wr=W) (fun i _=>L.length-(intOf i).toNat)
 case atStart=>exact ⟨0,dV _,rfl,ak (by simp),rfl⟩
 case round=>
  obtain ⟨k,hk,rfl,HA,rfl⟩:=hrel
  by_cases hlt:k<L.length
  ·have hdl:decide ((k:Int)<(L.length:Int))=true:=eD (by omega)
   obtain ⟨x,hx⟩:=aM hlt
   have HX:=ak hx
   obtain ⟨g,o,us,rfl,hg,hu,hr⟩:=H.out.at_ hx
   obtain rfl:us = [_]:=hr
   have e0:wr.cell? ⟨g,o+k,none⟩=some (.int .i64 x):=by simpa [show I.size=1 from rfl] using hu 0 _ rfl
   have hi0:(0:Int)≤(k:Int):=eu _
   have hi1:(k:Int)<(L.length:Int):=by omega
   obtain ⟨b,hb⟩:∃ b,(n==x)=b:=⟨_,rfl⟩
   have HE:=ak hb
   clear hx hu hg
   cases b with
   | true=>
    have HY:=ak (show n∈L from by have:=beq_iff_eq.1 HE.out;subst this;exact List.mem_of_getElem? HX.out)
    go_wp2
    go_ret
    exact ⟨_,rfl,⟨fun _=>HY.out,fun _=>hi0⟩,aW _ _⟩
   | false=>
    have HC:=ak (show n ∉ L.take (k+1) from by
     rw [List.take_add_one,HX.out]
     have h1:=HA.out
     have h2:=beq_eq_false_iff_ne.1 HE.out
     simp only [Option.toList_some,List.mem_append,List.mem_singleton,not_or]
     exact ⟨h1,h2⟩)
    go_wp2
    go_roundw
    case rel=>exact ⟨k+1,by omega,by go_num,HC,by first | trivial | rfl⟩
    case measure=>simp [intOf];omega
  ·have hdl:decide ((k:Int)<(L.length:Int))=false:=dS (by omega)
   have HN:=ak (show n ∉ L from by have h:=HA.out;rw [List.take_of_length_le (by omega)] at h;exact h)
   go_wp2
   go_ret
   exact ⟨_,rfl,⟨fun h=>by omega,fun h=>absurd h HN.out⟩,aW _ _⟩
theorem xq {L:List Int}{a:Option Addr}{cap:Nat}{n:Int}{W:World}(h:aJ I W W.heap.size L a cap) :
 Calls Tryz.prog 175 #[.slice a L.length cap,.int .i64 n] W (jf (n∈L) W):=by
 go_enter Tryz.func175,Tryz.ntmps175
 go_wp2_with fail
 refine (Rx h).mono ?_
 rintro e w1 ⟨i,rfl,hi,hb⟩
 have HB1:=ak hb
 have HI:=ak hi
 clear h hi hb
 by_cases h0:0≤i
 ·have hd:decide (0≤i)=true:=eD h0
  have HY:=ak (HI.out.1 h0)
  clear h0
  go_wp2
  go_ret
  exact bM HY.out HB1.out
 ·have hd:decide (0≤i)=false:=dS h0
  have HY:=ak (show n ∉ L from fun h=>h0 (HI.out.2 h))
  clear h0
  go_wp2
  go_ret
  exact aB HY.out HB1.out
theorem Jl {L:List aF}{a:Option Addr}{cap:Nat}{l0 l1:Int}{W:World}(hn96:L.length≤96)(h:aJ aI W W.heap.size L a cap) :
 Calls Tryz.prog 203 #[.slice a L.length cap,.agg #[.int .i64 l0,.int .i64 l1]] W (Xt (fK L (l0,l1) L.length:Nat) W):=by
 have H:=ak h
 clear h
 obtain ⟨wa,MB⟩:∃ w,w=W.alloc (.cells #[.int .i64 l0,.int .i64 l1] 49):=⟨_,rfl⟩
 have JV:=ak (show Below W.heap.size W wa from by rw [MB];exact (aW _ _).alloc (bK _) _)
 have HPA:=ak (show aO wa W.heap.size 49 #[.int .i64 l0,.int .i64 l1] from by rw [MB];exact aO.new _ _ _)
 have HA:=ak ((H.out.below aA JV.out).more aA JV.out.size)
 go_enter Tryz.func203,Tryz.ntmps203
 go_wp2_with fail
 rw [←MB]
 clear MB
 go_loopw [5,10] (fun q i wr=>∃ k:Nat,k≤L.length∧i=.int .i64 k∧q=.int .i64 (fK L (l0,l1) k)∧Below wa.heap.size wa wr) (fun _ i _=>L.length-(intOf i).toNat)
 case atStart=>exact ⟨0,dV _,rfl,by rw [yZ];rfl,aW _ _⟩
 case round=>
  obtain ⟨k,hk,rfl,rfl,hB⟩:=hrel
  have HB:=ak hB
  have uJ:=ak (JV.out.trans (hB.mono JV.out.size))
  have hsz:=hB.size
  by_cases hlt:k<L.length
  ·have hdl:decide ((k:Int)<(L.length:Int))=true:=eD (by omega)
   obtain ⟨⟨⟨x0,x1⟩,x2,x3,x4,x5,x6,⟨x7,x8⟩,x9,x10,aS,aV,M⟩,hx⟩:=aM hlt
   have HX:=ak hx
   obtain ⟨g,o,us,rfl,hg,hu,hr⟩:=(HA.out.below aA hB).at_ hx
   obtain ⟨ma,mc,rfl,sP,fH⟩:=fA hr
   obtain ⟨e0,e1,e2,e3,e4,e5,e6,e7,e8,e9,e10,e11,e12,e13⟩:=kY (a:=o+k*14) hu rfl
   have Sw:=ak (HPA.out.call hB)
   have hi0:(0:Int)≤(k:Int):=eu _
   have hi1:(k:Int)<(L.length:Int):=by omega
   have hle:=Ec (L:=L) (a:=(l0,l1)) k
   obtain ⟨n,hnn⟩:∃ n,fK L (l0,l1) k=n:=⟨_,rfl⟩
   have Ac:=ak hnn
   rw [hnn] at hle
   rw [hnn]
   have hnw:IntKind.i64.wrap ((n:Int)+1)=(n:Int)+1:=gK _ (by omega)
   clear hnn
   obtain ⟨b,hb⟩:∃ b,decide (((x0,x1):Int×Int)=(l0,l1))=b:=⟨_,rfl⟩
   have hq:=iK x0 x1 l0 l1 b hb
   obtain ⟨c,hc⟩:∃ c,dD aS 1 3=c:=⟨_,rfl⟩
   have Xw:=ak (show Gx ((x0,x1),x2,x3,x4,x5,x6,(x7,x8),x9,x10,aS,aV,M) (l0,l1)=(b&&c) from by rw [←hb,←hc];rfl)
   have HC:=ak hc
   clear hu hr hg hB hx sP hb hc
   obtain ⟨w2,hw2⟩:∃ w,w=wr.alloc (.cells #[.int .i64 x0,.int .i64 x1,.int .i64 x2,.string x3,.int .i64 x4,.int .i64 x5,.int .i64 x6,.int .i64 x7,.int .i64 x8,.int .i64 x9,.int .i64 x10,.int .i64 aS,.int .i64 aV,.slice ma M.length mc] 72):=⟨_,rfl⟩
   have hb2:Below wr.heap.size wr w2:=by rw [hw2];exact (aW _ _).alloc (bK _) _
   have HB2:=ak (HB.out.trans (hb2.mono hsz))
   have iD:=ak (show aO w2 wr.heap.size 72 #[.int .i64 x0,.int .i64 x1,.int .i64 x2,.string x3,.int .i64 x4,.int .i64 x5,.int .i64 x6,.int .i64 x7,.int .i64 x8,.int .i64 x9,.int .i64 x10,.int .i64 aS,.int .i64 aV,.slice ma M.length mc] from by rw [hw2];exact aO.new _ _ _)
   have xH:=ak (Sw.out.call hb2)
   go_upto_region 5 with fail
   rw [←hw2]
   clear hw2 hb2 e0 e1 e2 e3 e4 e5 e6 e7 e8 e9 e10 e11 e12 e13
   obtain ⟨a0,a1⟩:=xH.out.kS rfl
   obtain ⟨q0,q1,q2,q3,q4,q5,q6,q7,q8,q9,Mx,Mw,Mv,FR⟩:=iD.out.fF rfl
   cases b with
   | false=>
    have HT:=ak (sG HX.out (by rw [Xw.out];rfl))
    have mY:=HB2
    go_wp2
    go_roundw
    case rel=>exact ⟨k+1,by omega,by go_num,by first | (rw [HT.out,Ac.out];done) | (rw [HT.out,Ac.out];rfl) | (rw [HT.out,Ac.out];go_num),mY.out⟩
    case measure=>simp [intOf];omega
   | true=>
    go_wp2_with fail
    refine (Wv (aS:=aS)).mono ?_
    rintro e w3 ⟨rfl,hb⟩
    rw [HC.out]
    have mY:=ak (HB2.out.trans (hb.mono HB2.out.size))
    clear hb
    cases c with
    | false=>
     have HT:=ak (sG HX.out (by rw [Xw.out];rfl))
     go_wp2
     go_roundw
     case rel=>exact ⟨k+1,by omega,by go_num,by first | (rw [HT.out,Ac.out];done) | (rw [HT.out,Ac.out];rfl) | (rw [HT.out,Ac.out];go_num),mY.out⟩
     case measure=>simp [intOf];omega
    | true=>
     have HT:=ak (BO HX.out (by rw [Xw.out];rfl))
     go_wp2
     go_roundw
     case rel=>exact ⟨k+1,by omega,by go_num,by first | (rw [HT.out,Ac.out];done) | (rw [HT.out,Ac.out];rfl) | (rw [HT.out,Ac.out];go_num),mY.out⟩
     case measure=>simp [intOf];omega
  ·have hdl:decide ((k:Int)<(L.length:Int))=false:=dS (by omega)
   obtain rfl:k=L.length:=by omega
   clear hB
   go_wp2
   go_ret
   exact ⟨rfl,uJ.out⟩
theorem Cr {C:List (List ay)}{P:List bA}{Q:List aX}{hf:Int}{ca pa qa:Option Addr}{cc pc qc:Nat}{l s:Int}{W:World}(h6:C.length≤6)(hC:aJ (Sl av) W W.heap.size C ca cc) :
 Calls Tryz.prog 243 #[.agg #[.slice ca C.length cc,.slice pa P.length pc,.slice qa Q.length qc,.int .i64 hf],.agg #[.int .i64 l,.int .i64 s]] W (jU I (gJ C (l,s)) W):=by
 obtain ⟨w0,hw0⟩:∃ w,w=(W.alloc (.cells #[.slice ca C.length cc,.slice pa P.length pc,.slice qa Q.length qc,.int .i64 hf] 39)).alloc (.cells #[.int .i64 l,.int .i64 s] 49):=⟨_,rfl⟩
 have hb0:Below W.heap.size W w0:=by rw [hw0];exact ((aW _ _).alloc (bK _) _).alloc (by simp) _
 have kW:aO w0 (W.heap.size) 39 #[.slice ca C.length cc,.slice pa P.length pc,.slice qa Q.length qc,.int .i64 hf]:=by
  have h9:=aO.new W 39 #[.slice ca C.length cc,.slice pa P.length pc,.slice qa Q.length qc,.int .i64 hf]
  try simp only [World.size_alloc] at h9
  rw [hw0];exact (h9.alloc _)
 have X0:=ak kW
 have qH:aO w0 (W.heap.size+1) 49 #[.int .i64 l,.int .i64 s]:=by
  have h9:=aO.new (W.alloc (.cells #[.slice ca C.length cc,.slice pa P.length pc,.slice qa Q.length qc,.int .i64 hf] 39)) 49 #[.int .i64 l,.int .i64 s]
  try simp only [World.size_alloc] at h9
  rw [hw0];exact h9
 have X1:=ak qH
 have HC:=ak (aD (aZ au) hC hb0)
 have HB0:=ak hb0
 have hz0:=hb0.size
 clear hb0 hC kW qH
 have hmf:∀ (fn:Fn) (first cap:Array Value) (w:World),(Instr.makeFunc fn first cap).run Tryz.prog w=.ok (.func fn first cap) w:=fun _ _ _ _=>rfl
 have eg:∀ args w,(callFunc 264 args).run Tryz.prog w=.ok (.enter 264 args) w:=enters_of Tryz.func264 (by kernel_rfl) rfl
 go_enter Tryz.func243,Tryz.ntmps243
 go_wp2_with fail
 rw [←hw0]
 clear hw0
 go_loopw [6,16] (fun v i wr=>∃ k:Nat,k≤C.length∧i=.int .i64 k∧Hid (Qg wr w0.heap.size v (gX C (l,s) k))∧Below w0.heap.size w0 wr) (fun _ i _=>C.length-(intOf i).toNat)
 case atStart=>exact ⟨0,dV _,rfl,ak (jg.none_ _ _ _ _ _),aW _ _⟩
 case round=>
  obtain ⟨k,hk,rfl,HR,hB⟩:=hrel
  have HB:=ak hB
  have hsz:=hB.size
  obtain ⟨va,vc,rfl⟩:=HR.out.isSlice
  by_cases hlt:k<C.length
  ·have hdl:decide ((k:Int)<(C.length:Int))=true:=eD (by omega)
   obtain ⟨x,hx⟩:=aM hlt
   have HX:=ak hx
   have HCr:=ak (aD (aZ au) HC.out hB)
   clear hB hx
   go_wp2_with fail
   refine (Lh (m:=k) (by omega) HCr.out).mono ?_
   intro e w4 h
   obtain ⟨q,rfl,hq2,hb⟩:=bq h
   have HQq:=ak (show q=true↔(l,s)∈x from by
    rw [hq2]
    unfold SH
    rw [Int.toNat_natCast,HX.out]
    exact ⟨fun ⟨_,y,hy,hm⟩=>by obtain rfl:=fC hy;exact hm,fun hm=>⟨by omega,x,rfl,hm⟩⟩)
   have HB3:=ak (HB.out.trans (hb.mono hsz))
   have HR3:=ak (HR.out.call hb)
   have hz3:=HB3.out.size
   clear h hq2 hb
   rcases sD q HQq.out with ⟨hq,hm⟩ | ⟨hq,hm⟩
   ·have HN:=ak (yV HX.out hm)
    clear hm
    subst hq
    obtain ⟨w5,Dm⟩:∃ w,w=w4.alloc (.cells #[.int .i64 (k:Int)] 2):=⟨_,rfl⟩
    have Xo:Below w4.heap.size w4 w5:=by rw [Dm];exact (aW _ _).alloc (bK _) _
    have xA:aO w5 w4.heap.size 2 #[.int .i64 (k:Int)]:=by rw [Dm];exact aO.new _ _ _
    have hlen:=rz C (l,s) k
    have uI:=Xo.size
    obtain ⟨a',c',w6,hrun,hrow,hb6⟩:=Qg.more (HR3.out.call Xo) (ZM (k:Int) xA) (show w0.heap.size≤w5.heap.size by omega) (by simp only [List.length_singleton];omega)
    have Gr:=ak hrun
    have HR6:=ak hrow
    have xC:=ak ((HB3.out.trans (Xo.mono (by omega))).trans (hb6.mono (by omega)))
    rw [Dm] at Gr
    clear hrun hrow hb6 Xo xA Dm
    go_wp2_with (at_builtin;refine dZ rfl (.tmp 22) (.tmp 24) 70 rfl rfl rfl Gr.out ?_)
    go_roundw
    case rel=>exact ⟨k+1,by omega,by go_num,ak (by rw [HN.out];simpa using HR6.out),xC.out⟩
    case measure=>simp [intOf];omega
   ·have HN:=ak (BK HX.out hm)
    clear hm
    subst hq
    go_wp2
    go_roundw
    case rel=>exact ⟨k+1,by omega,by go_num,ak (by rw [HN.out];exact HR3.out),HB3.out⟩
    case measure=>simp [intOf];omega
  ·have hdl:decide ((k:Int)<(C.length:Int))=false:=dS (by omega)
   obtain rfl:k=C.length:=by omega
   have HR3:=ak (show Qg wr w0.heap.size (.slice va (gX C (l,s) C.length).length vc) (gJ C (l,s)) from HR.out)
   clear hB
   go_wp2
   go_ret
   exact jg.news cK Vi HR3.out hz0 (HB0.out.trans (HB.out.mono hz0))
theorem Dj {C:List (List ay)}{P:List bA}{Q:List aX}{hf:Int}{ca pa qa:Option Addr}{cc pc qc:Nat}{l s:Int}{W:World}(hQ:aJ aN W W.heap.size Q qa qc) :
 Calls Tryz.prog 204 #[.agg #[.slice ca C.length cc,.slice pa P.length pc,.slice qa Q.length qc,.int .i64 hf],.agg #[.int .i64 l,.int .i64 s]] W (Xt (gI Q (l,s)) W):=by
 have hqn:Q.length≤9223372036854775807:=by have h1:=hQ.1;have h2:=hQ.2.1;unfold maxLen at h2;omega
 obtain ⟨w0,hw0⟩:∃ w,w=(W.alloc (.cells #[.slice ca C.length cc,.slice pa P.length pc,.slice qa Q.length qc,.int .i64 hf] 39)).alloc (.cells #[.int .i64 l,.int .i64 s] 49):=⟨_,rfl⟩
 have hb0:Below W.heap.size W w0:=by rw [hw0];exact ((aW _ _).alloc (bK _) _).alloc (by simp) _
 have kW:aO w0 (W.heap.size) 39 #[.slice ca C.length cc,.slice pa P.length pc,.slice qa Q.length qc,.int .i64 hf]:=by
  have h9:=aO.new W 39 #[.slice ca C.length cc,.slice pa P.length pc,.slice qa Q.length qc,.int .i64 hf]
  try simp only [World.size_alloc] at h9
  rw [hw0];exact (h9.alloc _)
 have X0:=ak kW
 have qH:aO w0 (W.heap.size+1) 49 #[.int .i64 l,.int .i64 s]:=by
  have h9:=aO.new (W.alloc (.cells #[.slice ca C.length cc,.slice pa P.length pc,.slice qa Q.length qc,.int .i64 hf] 39)) 49 #[.int .i64 l,.int .i64 s]
  try simp only [World.size_alloc] at h9
  rw [hw0];exact h9
 have X1:=ak qH
 have HQ:=ak (aD aC hQ hb0)
 have HB0:=ak hb0
 have hz0:=hb0.size
 clear hb0 hQ kW qH
 have q2:=X0.out.at_ 2 rfl
 obtain ⟨r0,r1⟩:=X1.out.kS rfl
 rw [hw0] at q2 r0 r1
 go_enter Tryz.func204,Tryz.ntmps204
 go_wp2_with fail
 rw [←hw0]
 clear hw0 q2 r0 r1
 go_loopw [10] (fun i wr=>∃ k:Nat,k≤Q.length∧i=.int .i64 k∧Hid (∀ (j:Nat) y,j<k→Q[j]? = some y→y.1≠(l,s))∧Below w0.heap.size w0 wr) (fun i _=>Q.length-(intOf i).toNat)
 case atStart=>exact ⟨0,dV _,rfl,ak fun j y h=>absurd h (gZ _),aW _ _⟩
 case round=>
  obtain ⟨k,hk,rfl,HA,hB⟩:=hrel
  have HB:=ak hB
  have hsz:=hB.size
  by_cases hlt:k<Q.length
  ·have hdl:decide ((k:Int)<(Q.length:Int))=true:=eD (by omega)
   obtain ⟨⟨⟨x0,x1⟩,x2⟩,hx⟩:=aM hlt
   have HX:=ak hx
   obtain ⟨g,o,us,rfl,hg,hu,hr⟩:=(aD aC HQ.out hB).at_ hx
   obtain rfl:=jm hr
   obtain ⟨e0,e1,e2⟩:=Ko (a:=o+k*3) hu rfl
   have hi0:(0:Int)≤(k:Int):=eu _
   have hi1:(k:Int)<(Q.length:Int):=by omega
   obtain ⟨b,hb⟩:∃ b,decide (((x0,x1):Int×Int)=(l,s))=b:=⟨_,rfl⟩
   have hq:=iK x0 x1 l s b hb
   have HE:=ak hb
   obtain ⟨w2,hw2⟩:∃ w,w=wr.alloc (.cells #[.int .i64 x0,.int .i64 x1,.int .i64 x2] 181):=⟨_,rfl⟩
   have hb2:Below wr.heap.size wr w2:=by rw [hw2];exact (aW _ _).alloc (bK _) _
   have HB2:=ak (HB.out.trans (hb2.mono hsz))
   have Y2:=ak (show aO w2 wr.heap.size 181 #[.int .i64 x0,.int .i64 x1,.int .i64 x2] from by rw [hw2];exact aO.new _ _ _)
   have Z1:=ak ((X1.out.call hB).call hb2)
   clear hB hx hu hg hb hb2
   go_upto_region 4 with fail
   rw [←hw2]
   clear hw2 e0 e1 e2
   obtain ⟨y0,y1,y2⟩:=Y2.out.pz rfl
   obtain ⟨z0,z1⟩:=Z1.out.kS rfl
   cases b with
   | true=>
    have HV:=ak (show gI Q (l,s)=x2 from yU HX.out (of_decide_eq_true HE.out) HA.out)
    go_wp2
    go_ret
    exact ⟨by rw [HV.out];rfl,HB0.out.trans (HB2.out.mono hz0)⟩
   | false=>
    have HA2:=ak (show ∀ (j:Nat) y,j<k+1→Q[j]? = some y→y.1≠(l,s) from fun j y hj hy=>by
     by_cases e:j=k
     ·subst e;rw [HX.out] at hy;cases hy;exact of_decide_eq_false HE.out
     ·exact HA.out j y (by omega) hy)
    go_wp2
    go_roundw
    case rel=>exact ⟨k+1,by omega,by go_num,HA2,HB2.out⟩
    case measure=>simp [intOf];omega
  ·have hdl:decide ((k:Int)<(Q.length:Int))=false:=dS (by omega)
   obtain rfl:k=Q.length:=by omega
   have HV:=ak (show gI Q (l,s)=6 from wX fun j y hy=>HA.out j y (List.getElem?_eq_some_iff.1 hy).1 hy)
   clear hB
   go_wp2
   go_ret
   exact ⟨by rw [HV.out];rfl,HB0.out.trans (HB.out.mono hz0)⟩
end
end aQ
end Go.Proofs.YtlhfiapfncikdaaGreatDoor
