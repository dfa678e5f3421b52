import Derived.Test.YtlhfiapfncikdaaGreatDoorPU17
import Derived.Test.YtlhfiapfncikdaaGreatDoorPU22
import Derived.Test.YtlhfiapfncikdaaGreatDoorPU23
import Derived.Test.YtlhfiapfncikdaaGreatDoorPU25
set_option linter.unusedVariables false
set_option linter.unusedSimpArgs false
set_option maxRecDepth 100000
set_option maxHeartbeats 3200000
namespace Go.Proofs.YtlhfiapfncikdaaGreatDoor.U9
section
open Go.Shelf
def Tryz.laysM173_ren:Go.Shelf.Ren:=⟨fun | 173=>222 | 246=>252 | 283=>266 | 284=>267 | 285=>268 | 286=>269 | 129=>275 | 317=>274 | 318=>276 | 319=>277 | 320=>278 | 337=>288 | 338=>289 | n=>n,fun | 2=>2 | 3=>3 | 9=>9 | 4=>4 | 171=>286 | 0=>0 | 53=>287 | 37=>201 | 5=>5 | 173=>290 | 212=>297 | 51=>298 | 20=>20 | 213=>299 | 46=>294 | 232=>315 | 233=>316 | n=>n,fun | 17=>8 | 18=>9 | 19=>10 | n=>n⟩
theorem Tryz.laysM173:Go.Proofs.LaysM.n173 Tryz.prog Tryz.laysM173_ren:={
 mixed:=by kernel_rfl
 f129:=Tryz.func275.trans (congrArg some (by kernel_rfl))
 f173:=Tryz.func222.trans (congrArg some (by kernel_rfl))
 f246:=Tryz.func252.trans (congrArg some (by kernel_rfl))
 f283:=Tryz.func266.trans (congrArg some (by kernel_rfl))
 f284:=Tryz.func267.trans (congrArg some (by kernel_rfl))
 f285:=Tryz.func268.trans (congrArg some (by kernel_rfl))
 f286:=Tryz.func269.trans (congrArg some (by kernel_rfl))
 f317:=Tryz.func274.trans (congrArg some (by kernel_rfl))
 f318:=Tryz.func276.trans (congrArg some (by kernel_rfl))
 f319:=Tryz.func277.trans (congrArg some (by kernel_rfl))
 f320:=Tryz.func278.trans (congrArg some (by kernel_rfl))
 f337:=Tryz.func288.trans (congrArg some (by kernel_rfl))
 f338:=Tryz.func289.trans (congrArg some (by kernel_rfl))
 t0:=Tryz.underlying0
 a0:=Tryz.isAgg0
 z0:=Tryz.sizeOf0
 v0:=Tryz.zeroValue0
 t2:=Tryz.underlying2
 a2:=Tryz.isAgg2
 z2:=Tryz.sizeOf2
 v2:=Tryz.zeroValue2
 t3:=Tryz.underlying3
 a3:=Tryz.isAgg3
 z3:=Tryz.sizeOf3
 v3:=Tryz.zeroValue3
 t4:=Tryz.underlying4
 a4:=Tryz.isAgg4
 z4:=Tryz.sizeOf4
 v4:=Tryz.zeroValue4
 t5:=Tryz.underlying5
 a5:=Tryz.isAgg5
 z5:=Tryz.sizeOf5
 v5:=Tryz.zeroValue5
 t9:=Tryz.underlying9
 a9:=Tryz.isAgg9
 z9:=Tryz.sizeOf9
 v9:=Tryz.zeroValue9
 t20:=Tryz.underlying20
 a20:=Tryz.isAgg20
 z20:=Tryz.sizeOf20
 v20:=Tryz.zeroValue20
 t37:=Tryz.underlying201
 a37:=Tryz.isAgg201
 z37:=Tryz.sizeOf201
 v37:=Tryz.zeroValue201
 t46:=Tryz.underlying294
 a46:=Tryz.isAgg294
 z46:=Tryz.sizeOf294
 v46:=Tryz.zeroValue294
 t51:=Tryz.underlying298
 a51:=Tryz.isAgg298
 z51:=Tryz.sizeOf298
 v51:=Tryz.zeroValue298
 t53:=Tryz.underlying287
 a53:=Tryz.isAgg287
 z53:=Tryz.sizeOf287
 v53:=Tryz.zeroValue287
 t171:=Tryz.underlying286
 a171:=Tryz.isAgg286
 z171:=Tryz.sizeOf286
 v171:=Tryz.zeroValue286
 t173:=Tryz.underlying290
 a173:=Tryz.isAgg290
 z173:=Tryz.sizeOf290
 v173:=Tryz.zeroValue290
 t212:=Tryz.underlying297
 a212:=Tryz.isAgg297
 z212:=Tryz.sizeOf297
 v212:=Tryz.zeroValue297
 t213:=Tryz.underlying299
 a213:=Tryz.isAgg299
 z213:=Tryz.sizeOf299
 t232:=Tryz.underlying315
 a232:=Tryz.isAgg315
 z232:=Tryz.sizeOf315
 v232:=Tryz.zeroValue315
 t233:=Tryz.underlying316
 a233:=Tryz.isAgg316
 z233:=Tryz.sizeOf316
 v233:=Tryz.zeroValue316
 g17:=by kernel_rfl
 g18:=by kernel_rfl
 g19:=by kernel_rfl
 i0:=by kernel_rfl
 i2:=by kernel_rfl
 i3:=by kernel_rfl
 i4:=by kernel_rfl
 i5:=by kernel_rfl
 i9:=by kernel_rfl
 i20:=by kernel_rfl
 i37:=by kernel_rfl
 i46:=by kernel_rfl
 i51:=by kernel_rfl
 i53:=by kernel_rfl
 i171:=by kernel_rfl
 i173:=by kernel_rfl
 i212:=by kernel_rfl
 i232:=by kernel_rfl
 i233:=by kernel_rfl
 m17:=by kernel_rfl
 m18:=by kernel_rfl
 m19:=by kernel_rfl }
open Go.RowKit Go.Sort Go.Lib in
theorem Tryz.strconv_FormatInt_10 (n:Int)(h0:-9223372036854775808≤n)(h1:n≤9223372036854775807)(w:World)(htab:Lib.TabIs Tryz.prog w "internal/strconv.uint64pow10" .u64 Lib.pow10Tab) :
 Calls Tryz.prog 222 #[.int .i64 n,.int .i64 10] w fun e w'=>e=.returned (.string ⟨(Lib.itoa n).toArray⟩)∧∃ k os,w'=grow (w.drewN k) os:=Any.strconv_FormatInt_10 Tryz.laysM173 n h0 h1 w htab
def Tryz.laysSlC25_f255_ren:Go.Shelf.Ren:=⟨fun | 5=>255 | 7=>272 | n=>n,fun | 22=>2 | 3=>3 | 4=>4 | n=>n,fun | n=>n⟩
theorem Tryz.laysSlC25_f255:Go.Proofs.SlLaysC2.n5 Tryz.prog Tryz.laysSlC25_f255_ren:={
 mixed:=by kernel_rfl
 f5:=⟨Tryz.f255.name,by decide,Tryz.func255.trans (congrArg some (by kernel_rfl))⟩
 f7:=⟨Tryz.f272.name,by decide,Tryz.func272.trans (congrArg some (by kernel_rfl))⟩
 t3:=Tryz.underlying3
 a3:=Tryz.isAgg3
 z3:=Tryz.sizeOf3
 v3:=Tryz.zeroValue3
 t4:=Tryz.underlying4
 a4:=Tryz.isAgg4
 z4:=Tryz.sizeOf4
 v4:=Tryz.zeroValue4
 t22:=Tryz.underlying2
 a22:=Tryz.isAgg2
 z22:=Tryz.sizeOf2
 v22:=Tryz.zeroValue2 }
open Go.Lib in
theorem Tryz.cmp_Compare_int (x y:Int)(w:World) :
 Calls Tryz.prog 255 #[.int .i64 x,.int .i64 y] w fun e w'=>e=.returned (.int .i64 (Lib.compareInt x y))∧w'=w:=AnyG.cmp_Compare_int Tryz.laysSlC25_f255 x y w
end
end Go.Proofs.YtlhfiapfncikdaaGreatDoor.U9
namespace Go.Proofs.YtlhfiapfncikdaaGreatDoor.xu
section
open Go.RowKit bN bP Xe
theorem Y9 {P:Program}{W:World}{L:List (String×DataW Unit)}{name:String}{k:IntKind}{zs:List Int}{g:Nat}{t e:TypeId}{n:Nat}(hL:laidMet P L W)(hm:(name,Lib.tabData k zs)∈L)
 (hg:P.globalNamed name=some g) (hty:(P.globals[g]?).map (·.type)=some t) (ht:P.underlying t=some (.array n e)) (he:P.underlying e=some (.int k)) (hce:P.cellsOf e=1) (hct:P.cellsOf t=n):Lib.TabIs P W name k zs:=by
 obtain ⟨ps,hl,_,_⟩:=hL
 obtain ⟨g',t',cs,fuel,p,h1,h2,h3,h4⟩:=YL.G9 L ps hl _ hm
 obtain rfl:=fB (hg.symm.trans h1)
 obtain rfl:=fB (hty.symm.trans h2)
 unfold Lib.TabIs
 rw [h3,←Lib.cells_of_tab ht he hce hct h4]
structure oI (n:Nat)(W:World)(a:Nat→Addr):Prop where
 sen:yA n W a
 tab:Lib.TabIs Tryz.prog W "internal/strconv.uint64pow10" .u64 Lib.pow10Tab
theorem oI.mv {n:Nat}{W W':World}{a:Nat→Addr}(h:oI n W a)(hb:Below W.heap.size W W'):oI n W' a:=⟨h.sen.mv hb,Lib.tabBelow_of_tabIs h.tab W' hb⟩
theorem adL {W:World}(hL:laidMetH Tryz.prog [("math/bits.deBruijn32tab",Rows.laid_math_bits_deBruijn32tab),("math/bits.deBruijn64tab",Rows.laid_math_bits_deBruijn64tab),("internal/strconv.uint64pow10",Rows.laid_internal_strconv_uint64pow10),("loop.example/g00658/impl.errForm",Rows.laid_loop_example_g00658_impl_errForm),("loop.example/g00658/impl.errNone",Rows.laid_loop_example_g00658_impl_errNone),("loop.example/g00658/impl.errThere",Rows.laid_loop_example_g00658_impl_errThere),("loop.example/g00658/impl.errRange",Rows.laid_loop_example_g00658_impl_errRange),("loop.example/g00658/impl.errFull",Rows.laid_loop_example_g00658_impl_errFull),("loop.example/g00658/impl.errState",Rows.laid_loop_example_g00658_impl_errState),("loop.example/g00658/impl.errLabel",Rows.laid_loop_example_g00658_impl_errLabel)] W):∃ a:Nat→Addr,oI 7 W a:=by
 obtain ⟨a,ha⟩:=Zh hL
 exact ⟨a,ha,Y9 (g:=8) (t:=297) (YL.DI (by rfl) hL) (List.mem_cons_of_mem _ (List.mem_cons_of_mem _ List.mem_cons_self)) (by kernel_rfl) (by kernel_rfl) Tryz.underlying297 Tryz.underlying287 (by kernel_rfl) (by kernel_rfl)⟩
def TxtD (W:World)(e:Ending)(w':World):Prop:=∃ s:ByteArray,e=.returned (.string s)∧s.size≤32∧Below W.heap.size W w'
theorem P6 {W:World}{e:Ending}{w':World}(h:TxtD W e w'):∃ s:ByteArray,e=.returned (.string s)∧s.size≤32∧Below W.heap.size W w':=h
theorem Q6 {k:Nat}{a:Nat→Addr}{W:World}(n:Int)(h0:-9223372036854775808≤n)(h1:n≤9223372036854775807)(hD:oI k W a):Calls Tryz.prog 169 #[.int .i64 n] W (TxtD W):=by
 have hF:=U9.Tryz.strconv_FormatInt_10 n h0 h1 W hD.tab
 clear hD
 have hl:(⟨(Lib.itoa n).toArray⟩:ByteArray).size≤32:=by
  show (Lib.itoa n).toArray.size≤32
  have:=Lib.itoa_length_le n h0 h1
  simp only [List.size_toArray]
  omega
 generalize hs:(⟨(Lib.itoa n).toArray⟩:ByteArray)=s at hF hl
 clear hs
 go_enter Tryz.func169,Tryz.ntmps169
 go_wp2_with fail
 refine hF.mono ?_
 rintro e w1 ⟨rfl,k,os,rfl⟩
 have HB:=aj (Lib.below_grow W.heap.size W (bK _) k os)
 generalize «Sort».grow (W.drewN k) os=w1 at *
 clear hF
 go_wp2
 go_ret
 exact ⟨s,rfl,hl,HB.out⟩
end
end Go.Proofs.YtlhfiapfncikdaaGreatDoor.xu
namespace Go.Proofs.YtlhfiapfncikdaaGreatDoor.aP
section
open Go.RowKit bN bP bJ bM fT Cx
theorem PX {x0 x1 x2:Int}{x3:ByteArray}{x4 x5 x6 x7 x8 x9 x10 aR aW:Int}{M:List Int}{ma:Option Addr}{mc:Nat}{b:Bool}(hb:(aR==1)=b)(W:World):Calls Tryz.prog 80 #[.agg #[.int .i64 x0,.int .i64 x1,.int .i64 x2,.string x3,.int .i64 x4,.int .i64 x5,.int .i64 x6,.int .i64 x7,.int .i64 x8,.int .i64 x9,.int .i64 x10,.int .i64 aR,.int .i64 aW,.slice ma M.length mc]] W fun e w'=>e=.returned (.bool b)∧Below W.heap.size W w':=by
 have HB0:=aj (show Below W.heap.size W (W.alloc (.cells #[.int .i64 x0,.int .i64 x1,.int .i64 x2,.string x3,.int .i64 x4,.int .i64 x5,.int .i64 x6,.int .i64 x7,.int .i64 x8,.int .i64 x9,.int .i64 x10,.int .i64 aR,.int .i64 aW,.slice ma M.length mc] 72)) from (aU _ _).alloc (bK _) _)
 go_enter Tryz.func80,Tryz.ntmps80
 go_wp2
 go_ret
 exact ⟨by first | rfl | (rw [←hb];rfl) | simp [hb],HB0.out⟩
theorem Bb {x0 x1 x2:Int}{x3:ByteArray}{x4 x5 x6 x7 x8 x9 x10 aR aW:Int}{M:List Int}{ma:Option Addr}{mc:Nat}{b:Bool}(hb:(aR==2)=b)(W:World):Calls Tryz.prog 174 #[.agg #[.int .i64 x0,.int .i64 x1,.int .i64 x2,.string x3,.int .i64 x4,.int .i64 x5,.int .i64 x6,.int .i64 x7,.int .i64 x8,.int .i64 x9,.int .i64 x10,.int .i64 aR,.int .i64 aW,.slice ma M.length mc]] W fun e w'=>e=.returned (.bool b)∧Below W.heap.size W w':=by
 have HB0:=aj (show Below W.heap.size W (W.alloc (.cells #[.int .i64 x0,.int .i64 x1,.int .i64 x2,.string x3,.int .i64 x4,.int .i64 x5,.int .i64 x6,.int .i64 x7,.int .i64 x8,.int .i64 x9,.int .i64 x10,.int .i64 aR,.int .i64 aW,.slice ma M.length mc] 72)) from (aU _ _).alloc (bK _) _)
 go_enter Tryz.func174,Tryz.ntmps174
 go_wp2
 go_ret
 exact ⟨by first | rfl | (rw [←hb];rfl) | simp [hb],HB0.out⟩
theorem V8 {x0 x1 x2:Int}{x3:ByteArray}{x4 x5 x6 x7 x8 x9 x10 aR aW:Int}{M:List Int}{ma:Option Addr}{mc:Nat}{b:Bool}(hb:(aR==3)=b)(W:World):Calls Tryz.prog 265 #[.agg #[.int .i64 x0,.int .i64 x1,.int .i64 x2,.string x3,.int .i64 x4,.int .i64 x5,.int .i64 x6,.int .i64 x7,.int .i64 x8,.int .i64 x9,.int .i64 x10,.int .i64 aR,.int .i64 aW,.slice ma M.length mc]] W fun e w'=>e=.returned (.bool b)∧Below W.heap.size W w':=by
 have HB0:=aj (show Below W.heap.size W (W.alloc (.cells #[.int .i64 x0,.int .i64 x1,.int .i64 x2,.string x3,.int .i64 x4,.int .i64 x5,.int .i64 x6,.int .i64 x7,.int .i64 x8,.int .i64 x9,.int .i64 x10,.int .i64 aR,.int .i64 aW,.slice ma M.length mc] 72)) from (aU _ _).alloc (bK _) _)
 go_enter Tryz.func265,Tryz.ntmps265
 go_wp2
 go_ret
 exact ⟨by first | rfl | (rw [←hb];rfl) | simp [hb],HB0.out⟩
theorem ZF {x0 x1 x2:Int}{x3:ByteArray}{x4 x5 x6 x7 x8 x9 x10 aR aW:Int}{M:List Int}{ma:Option Addr}{mc:Nat}{W:World}(h0:0≤aW∧aW≤1000000)(h1:1≤x5∧x5≤20):Calls Tryz.prog 244 #[.agg #[.int .i64 x0,.int .i64 x1,.int .i64 x2,.string x3,.int .i64 x4,.int .i64 x5,.int .i64 x6,.int .i64 x7,.int .i64 x8,.int .i64 x9,.int .i64 x10,.int .i64 aR,.int .i64 aW,.slice ma M.length mc]] W fun e w'=>e=.returned (.int .i64 (aW+1+x5))∧Below W.heap.size W w':=by
 have HB0:=aj (show Below W.heap.size W (W.alloc (.cells #[.int .i64 x0,.int .i64 x1,.int .i64 x2,.string x3,.int .i64 x4,.int .i64 x5,.int .i64 x6,.int .i64 x7,.int .i64 x8,.int .i64 x9,.int .i64 x10,.int .i64 aR,.int .i64 aW,.slice ma M.length mc] 72)) from (aU _ _).alloc (bK _) _)
 have e1:IntKind.i64.wrap (aW+1)=aW+1:=gJ _ (by omega)
 have e2:IntKind.i64.wrap (aW+1+x5)=aW+1+x5:=gJ _ (by omega)
 go_enter Tryz.func244,Tryz.ntmps244
 go_wp2
 go_ret
 exact ⟨by first | rfl | (simp [e1,e2];done) | (rw [e1,e2]),HB0.out⟩
theorem Qu {x0 x1 x2:Int}{x3:ByteArray}{x4 x5 x6 x7 x8 x9 x10 aR aW:Int}{M:List Int}{ma:Option Addr}{mc:Nat}{b:Bool}(hb:decide (0<M.length)=b)(W:World):Calls Tryz.prog 245 #[.agg #[.int .i64 x0,.int .i64 x1,.int .i64 x2,.string x3,.int .i64 x4,.int .i64 x5,.int .i64 x6,.int .i64 x7,.int .i64 x8,.int .i64 x9,.int .i64 x10,.int .i64 aR,.int .i64 aW,.slice ma M.length mc]] W fun e w'=>e=.returned (.bool b)∧Below W.heap.size W w':=by
 have HB0:=aj (show Below W.heap.size W (W.alloc (.cells #[.int .i64 x0,.int .i64 x1,.int .i64 x2,.string x3,.int .i64 x4,.int .i64 x5,.int .i64 x6,.int .i64 x7,.int .i64 x8,.int .i64 x9,.int .i64 x10,.int .i64 aR,.int .i64 aW,.slice ma M.length mc] 72)) from (aU _ _).alloc (bK _) _)
 have hb':decide ((0:Int)<(M.length:Int))=b:=by rw [←hb];congr 1;apply propext;omega
 go_enter Tryz.func245,Tryz.ntmps245
 go_wp2
 go_ret
 exact ⟨by first | rfl | (rw [hb'];done) | (rw [hb];done) | simp [hb,hb'],HB0.out⟩
theorem V3 {x0 x1 x2:Int}{x3:ByteArray}{x4 x5 x6 x7 x8 x9 x10 aR aW:Int}{M:List Int}{ma:Option Addr}{mc:Nat}{W:World}:Calls Tryz.prog 246 #[.agg #[.int .i64 x0,.int .i64 x1,.int .i64 x2,.string x3,.int .i64 x4,.int .i64 x5,.int .i64 x6,.int .i64 x7,.int .i64 x8,.int .i64 x9,.int .i64 x10,.int .i64 aR,.int .i64 aW,.slice ma M.length mc]] W fun e w'=>e=.returned (.bool (dI aR 1 3))∧Below W.heap.size W w':=by
 obtain ⟨w0,hw0⟩:∃ w,w=W.alloc (.cells #[.int .i64 x0,.int .i64 x1,.int .i64 x2,.string x3,.int .i64 x4,.int .i64 x5,.int .i64 x6,.int .i64 x7,.int .i64 x8,.int .i64 x9,.int .i64 x10,.int .i64 aR,.int .i64 aW,.slice ma M.length mc] 72):=⟨_,rfl⟩
 have HB0:=aj (show Below W.heap.size W w0 from by rw [hw0];exact (aU _ _).alloc (bK _) _)
 have X0:=aj (show aN w0 W.heap.size 72 #[.int .i64 x0,.int .i64 x1,.int .i64 x2,.string x3,.int .i64 x4,.int .i64 x5,.int .i64 x6,.int .i64 x7,.int .i64 x8,.int .i64 x9,.int .i64 x10,.int .i64 aR,.int .i64 aW,.slice ma M.length mc] from by rw [hw0];exact aN.new _ _ _)
 go_enter Tryz.func246,Tryz.ntmps246
 go_wp2_with fail
 rw [←hw0]
 clear hw0
 obtain ⟨b0,hb0⟩:∃ b,(aR==1)=b:=⟨_,rfl⟩
 refine (PX hb0 _).mono ?_
 rintro e w1 ⟨rfl,hb⟩
 have HB1:=aj (HB0.out.trans (hb.mono HB0.out.size))
 have X1:=aj (X0.out.call hb)
 clear hb
 have OV:=aj hb0
 clear hb0
 cases b0 with
 | true=>
  have HV:=aj (show (dI aR 1 3)=true from by have h0:=OV.out;simp only [beq_iff_eq,beq_eq_false_iff_ne,ne_eq] at *;rw [dG];omega)
  go_wp2
  go_ret
  exact ⟨by first | (rw [HV.out];done) | (rw [HV.out];rfl),HB1.out⟩
 | false=>
  obtain ⟨p0,p1,p2,p3,p4,p5,p6,p7,p8,p9,RQ,RP,RO,RN⟩:=X1.out.fQ rfl
  obtain ⟨b1,hb1⟩:∃ b,(aR==2)=b:=⟨_,rfl⟩
  go_wp2_with fail
  refine (Bb hb1 _).mono ?_
  rintro e w2 ⟨rfl,hb⟩
  have HB2:=aj (HB1.out.trans (hb.mono HB1.out.size))
  have X2:=aj (X1.out.call hb)
  clear hb
  clear p0 p1 p2 p3 p4 p5 p6 p7 p8 p9 RQ RP RO RN
  have OU:=aj hb1
  clear hb1
  cases b1 with
  | true=>
   have HV:=aj (show (dI aR 1 3)=true from by have h0:=OV.out;have h1:=OU.out;simp only [beq_iff_eq,beq_eq_false_iff_ne,ne_eq] at *;rw [dG];omega)
   go_wp2
   go_ret
   exact ⟨by first | (rw [HV.out];done) | (rw [HV.out];rfl),HB2.out⟩
  | false=>
   obtain ⟨p0,p1,p2,p3,p4,p5,p6,p7,p8,p9,RQ,RP,RO,RN⟩:=X2.out.fQ rfl
   obtain ⟨b2,hb2⟩:∃ b,(aR==3)=b:=⟨_,rfl⟩
   go_wp2_with fail
   refine (V8 hb2 _).mono ?_
   rintro e w3 ⟨rfl,hb⟩
   have HB3:=aj (HB2.out.trans (hb.mono HB2.out.size))
   have X3:=aj (X2.out.call hb)
   clear hb
   clear p0 p1 p2 p3 p4 p5 p6 p7 p8 p9 RQ RP RO RN
   have HE2:=aj hb2
   clear hb2
   cases b2 with
   | true=>
    have HV:=aj (show (dI aR 1 3)=true from by have h0:=OV.out;have h1:=OU.out;have h2:=HE2.out;simp only [beq_iff_eq,beq_eq_false_iff_ne,ne_eq] at *;rw [dG];omega)
    go_wp2
    go_ret
    exact ⟨by first | (rw [HV.out];done) | (rw [HV.out];rfl),HB3.out⟩
   | false=>
    have HV:=aj (show (dI aR 1 3)=false from by have h0:=OV.out;have h1:=OU.out;have h2:=HE2.out;simp only [beq_iff_eq,beq_eq_false_iff_ne,ne_eq] at *;rw [Bool.eq_false_iff,ne_eq,dG];omega)
    go_wp2
    go_ret
    exact ⟨by first | (rw [HV.out];done) | (rw [HV.out];rfl),HB3.out⟩
theorem QX {L:List Int}{a:Option Addr}{cap:Nat}{n:Int}{W:World}(h:aH I W W.heap.size L a cap) :
 Calls Tryz.prog 223 #[.slice a L.length cap,.int .i64 n] W (fun e w'=>∃ i:Int,e=.returned (.int .i64 i)∧(0≤i↔n∈L)∧Below W.heap.size W w'):=by
 have hn:L.length≤9223372036854775807:=by have h1:=h.1;have h2:=h.2.1;unfold maxLen at h2;omega
 have H:=aj h
 clear h
 go_enter Tryz.func223,Tryz.ntmps223
 go_wp2
 go_loopw [8] (fun i wr=>∃ k:Nat,k≤L.length∧i=.int .i64 k∧Hid (n ∉ L.take k)∧wr=W) (fun i _=>L.length-(intOf i).toNat)
 case atStart=>exact ⟨0,dX _,rfl,aj (by simp),rfl⟩
 case round=>
  obtain ⟨k,hk,rfl,HA,rfl⟩:=hrel
  by_cases hlt:k<L.length
  ·have hdl:decide ((k:Int)<(L.length:Int))=true:=eO (by omega)
   obtain ⟨x,hx⟩:=aL hlt
   have HX:=aj hx
   obtain ⟨g,o,us,rfl,hg,hu,hr⟩:=H.out.at_ hx
   obtain rfl:us = [_]:=hr
   have e0:wr.cell? ⟨g,o+k,none⟩=some (.int .i64 x):=by simpa [show I.size=1 from rfl] using hu 0 _ rfl
   have hi0:(0:Int)≤(k:Int):=eu _
   have hi1:(k:Int)<(L.length:Int):=by omega
   obtain ⟨b,hb⟩:∃ b,(n==x)=b:=⟨_,rfl⟩
   have HE:=aj hb
   clear hx hu hg
   cases b with
   | true=>
    have HY:=aj (show n∈L from by have:=beq_iff_eq.1 HE.out;subst this;exact List.mem_of_getElem? HX.out)
    go_wp2
    go_ret
    exact ⟨_,rfl,⟨fun _=>HY.out,fun _=>hi0⟩,aU _ _⟩
   | false=>
    have HC:=aj (show n ∉ L.take (k+1) from by
     rw [List.take_add_one,HX.out]
     have h1:=HA.out
     have h2:=beq_eq_false_iff_ne.1 HE.out
     simp only [Option.toList_some,List.mem_append,List.mem_singleton,not_or]
     exact ⟨h1,h2⟩)
    go_wp2
    go_roundw
    case rel=>exact ⟨k+1,by omega,by go_num,HC,by first | trivial | rfl⟩
    case measure=>simp [intOf];omega
  ·have hdl:decide ((k:Int)<(L.length:Int))=false:=dU (by omega)
   have HN:=aj (show n ∉ L from by have h:=HA.out;rw [List.take_of_length_le (by omega)] at h;exact h)
   go_wp2
   go_ret
   exact ⟨_,rfl,⟨fun h=>by omega,fun h=>absurd h HN.out⟩,aU _ _⟩
theorem Fv {L:List Int}{a:Option Addr}{cap:Nat}{n:Int}{W:World}(h:aH I W W.heap.size L a cap) :
 Calls Tryz.prog 175 #[.slice a L.length cap,.int .i64 n] W (jh (n∈L) W):=by
 go_enter Tryz.func175,Tryz.ntmps175
 go_wp2_with fail
 refine (QX h).mono ?_
 rintro e w1 ⟨i,rfl,hi,hb⟩
 have HB1:=aj hb
 have HI:=aj hi
 clear h hi hb
 by_cases h0:0≤i
 ·have hd:decide (0≤i)=true:=eO h0
  have HY:=aj (HI.out.1 h0)
  clear h0
  go_wp2
  go_ret
  exact bO HY.out HB1.out
 ·have hd:decide (0≤i)=false:=dU h0
  have HY:=aj (show n ∉ L from fun h=>h0 (HI.out.2 h))
  clear h0
  go_wp2
  go_ret
  exact aA HY.out HB1.out
theorem I8 {L:List aG}{a:Option Addr}{cap:Nat}{l0 l1:Int}{W:World}(hn96:L.length≤96)(h:aH aI W W.heap.size L a cap) :
 Calls Tryz.prog 203 #[.slice a L.length cap,.agg #[.int .i64 l0,.int .i64 l1]] W (Xd (fG L (l0,l1) L.length:Nat) W):=by
 have H:=aj h
 clear h
 obtain ⟨wa,L6⟩:∃ w,w=W.alloc (.cells #[.int .i64 l0,.int .i64 l1] 49):=⟨_,rfl⟩
 have JF:=aj (show Below W.heap.size W wa from by rw [L6];exact (aU _ _).alloc (bK _) _)
 have HPA:=aj (show aN wa W.heap.size 49 #[.int .i64 l0,.int .i64 l1] from by rw [L6];exact aN.new _ _ _)
 have HA:=aj ((H.out.below ay JF.out).more ay JF.out.size)
 go_enter Tryz.func203,Tryz.ntmps203
 go_wp2_with fail
 rw [←L6]
 clear L6
 go_loopw [5,10] (fun q i wr=>∃ k:Nat,k≤L.length∧i=.int .i64 k∧q=.int .i64 (fG L (l0,l1) k)∧Below wa.heap.size wa wr) (fun _ i _=>L.length-(intOf i).toNat)
 case atStart=>exact ⟨0,dX _,rfl,by rw [yM];rfl,aU _ _⟩
 case round=>
  obtain ⟨k,hk,rfl,rfl,hB⟩:=hrel
  have HB:=aj hB
  have uq:=aj (JF.out.trans (hB.mono JF.out.size))
  have hsz:=hB.size
  by_cases hlt:k<L.length
  ·have hdl:decide ((k:Int)<(L.length:Int))=true:=eO (by omega)
   obtain ⟨⟨⟨x0,x1⟩,x2,x3,x4,x5,x6,⟨x7,x8⟩,x9,x10,aR,aW,M⟩,hx⟩:=aL hlt
   have HX:=aj hx
   obtain ⟨g,o,us,rfl,hg,hu,hr⟩:=(HA.out.below ay hB).at_ hx
   obtain ⟨ma,mc,rfl,sH,gW⟩:=fu hr
   obtain ⟨e0,e1,e2,e3,e4,e5,e6,e7,e8,e9,e10,e11,e12,e13⟩:=qz (a:=o+k*14) hu rfl
   have R4:=aj (HPA.out.call hB)
   have hi0:(0:Int)≤(k:Int):=eu _
   have hi1:(k:Int)<(L.length:Int):=by omega
   have hle:=DX (L:=L) (a:=(l0,l1)) k
   obtain ⟨n,hnn⟩:∃ n,fG L (l0,l1) k=n:=⟨_,rfl⟩
   have zU:=aj hnn
   rw [hnn] at hle
   rw [hnn]
   have hnw:IntKind.i64.wrap ((n:Int)+1)=(n:Int)+1:=gJ _ (by omega)
   clear hnn
   obtain ⟨b,hb⟩:∃ b,decide (((x0,x1):Int×Int)=(l0,l1))=b:=⟨_,rfl⟩
   have hq:=iK x0 x1 l0 l1 b hb
   obtain ⟨c,hc⟩:∃ c,dI aR 1 3=c:=⟨_,rfl⟩
   have HLV:=aj (show Gj ((x0,x1),x2,x3,x4,x5,x6,(x7,x8),x9,x10,aR,aW,M) (l0,l1)=(b&&c) from by rw [←hb,←hc];rfl)
   have HC:=aj hc
   clear hu hr hg hB hx sH hb hc
   obtain ⟨w2,hw2⟩:∃ w,w=wr.alloc (.cells #[.int .i64 x0,.int .i64 x1,.int .i64 x2,.string x3,.int .i64 x4,.int .i64 x5,.int .i64 x6,.int .i64 x7,.int .i64 x8,.int .i64 x9,.int .i64 x10,.int .i64 aR,.int .i64 aW,.slice ma M.length mc] 72):=⟨_,rfl⟩
   have hb2:Below wr.heap.size wr w2:=by rw [hw2];exact (aU _ _).alloc (bK _) _
   have HB2:=aj (HB.out.trans (hb2.mono hsz))
   have iD:=aj (show aN w2 wr.heap.size 72 #[.int .i64 x0,.int .i64 x1,.int .i64 x2,.string x3,.int .i64 x4,.int .i64 x5,.int .i64 x6,.int .i64 x7,.int .i64 x8,.int .i64 x9,.int .i64 x10,.int .i64 aR,.int .i64 aW,.slice ma M.length mc] from by rw [hw2];exact aN.new _ _ _)
   have wY:=aj (R4.out.call hb2)
   go_upto_region 5 with fail
   rw [←hw2]
   clear hw2 hb2 e0 e1 e2 e3 e4 e5 e6 e7 e8 e9 e10 e11 e12 e13
   obtain ⟨a0,a1⟩:=wY.out.kZ rfl
   obtain ⟨q0,q1,q2,q3,q4,q5,q6,q7,q8,q9,RL,RJ,RI,LZ⟩:=iD.out.fQ rfl
   cases b with
   | false=>
    have HT:=aj (rY HX.out (by rw [HLV.out];rfl))
    have nu:=HB2
    go_wp2
    go_roundw
    case rel=>exact ⟨k+1,by omega,by go_num,by first | (rw [HT.out,zU.out];done) | (rw [HT.out,zU.out];rfl) | (rw [HT.out,zU.out];go_num),nu.out⟩
    case measure=>simp [intOf];omega
   | true=>
    go_wp2_with fail
    refine (V3 (aR:=aR)).mono ?_
    rintro e w3 ⟨rfl,hb⟩
    rw [HC.out]
    have nu:=aj (HB2.out.trans (hb.mono HB2.out.size))
    clear hb
    cases c with
    | false=>
     have HT:=aj (rY HX.out (by rw [HLV.out];rfl))
     go_wp2
     go_roundw
     case rel=>exact ⟨k+1,by omega,by go_num,by first | (rw [HT.out,zU.out];done) | (rw [HT.out,zU.out];rfl) | (rw [HT.out,zU.out];go_num),nu.out⟩
     case measure=>simp [intOf];omega
    | true=>
     have HT:=aj (BK HX.out (by rw [HLV.out];rfl))
     go_wp2
     go_roundw
     case rel=>exact ⟨k+1,by omega,by go_num,by first | (rw [HT.out,zU.out];done) | (rw [HT.out,zU.out];rfl) | (rw [HT.out,zU.out];go_num),nu.out⟩
     case measure=>simp [intOf];omega
  ·have hdl:decide ((k:Int)<(L.length:Int))=false:=dU (by omega)
   obtain rfl:k=L.length:=by omega
   clear hB
   go_wp2
   go_ret
   exact ⟨rfl,uq.out⟩
theorem Cn {C:List (List av)}{P:List bq}{Q:List aV}{hf:Int}{ca pa qa:Option Addr}{cc pc qc:Nat}{l s:Int}{W:World}(h6:C.length≤6)(hC:aH (Sl au) W W.heap.size C ca cc) :
 Calls Tryz.prog 243 #[.agg #[.slice ca C.length cc,.slice pa P.length pc,.slice qa Q.length qc,.int .i64 hf],.agg #[.int .i64 l,.int .i64 s]] W (jW I (gI C (l,s)) W):=by
 obtain ⟨w0,hw0⟩:∃ w,w=(W.alloc (.cells #[.slice ca C.length cc,.slice pa P.length pc,.slice qa Q.length qc,.int .i64 hf] 39)).alloc (.cells #[.int .i64 l,.int .i64 s] 49):=⟨_,rfl⟩
 have hb0:Below W.heap.size W w0:=by rw [hw0];exact ((aU _ _).alloc (bK _) _).alloc (by simp) _
 have kX:aN w0 (W.heap.size) 39 #[.slice ca C.length cc,.slice pa P.length pc,.slice qa Q.length qc,.int .i64 hf]:=by
  have h9:=aN.new W 39 #[.slice ca C.length cc,.slice pa P.length pc,.slice qa Q.length qc,.int .i64 hf]
  try simp only [World.size_alloc] at h9
  rw [hw0];exact (h9.alloc _)
 have X0:=aj kX
 have qE:aN w0 (W.heap.size+1) 49 #[.int .i64 l,.int .i64 s]:=by
  have h9:=aN.new (W.alloc (.cells #[.slice ca C.length cc,.slice pa P.length pc,.slice qa Q.length qc,.int .i64 hf] 39)) 49 #[.int .i64 l,.int .i64 s]
  try simp only [World.size_alloc] at h9
  rw [hw0];exact h9
 have X1:=aj qE
 have HC:=aj (aC (aY ak) hC hb0)
 have HB0:=aj hb0
 have hz0:=hb0.size
 clear hb0 hC kX qE
 have hmf:∀ (fn:Fn) (first cap:Array Value) (w:World),(Instr.makeFunc fn first cap).run Tryz.prog w=.ok (.func fn first cap) w:=fun _ _ _ _=>rfl
 have eg:∀ args w,(callFunc 264 args).run Tryz.prog w=.ok (.enter 264 args) w:=enters_of Tryz.func264 (by kernel_rfl) rfl
 go_enter Tryz.func243,Tryz.ntmps243
 go_wp2_with fail
 rw [←hw0]
 clear hw0
 go_loopw [6,16] (fun v i wr=>∃ k:Nat,k≤C.length∧i=.int .i64 k∧Hid (PG wr w0.heap.size v (gZ C (l,s) k))∧Below w0.heap.size w0 wr) (fun _ i _=>C.length-(intOf i).toNat)
 case atStart=>exact ⟨0,dX _,rfl,aj (iU.none_ _ _ _ _ _),aU _ _⟩
 case round=>
  obtain ⟨k,hk,rfl,HR,hB⟩:=hrel
  have HB:=aj hB
  have hsz:=hB.size
  obtain ⟨va,vc,rfl⟩:=HR.out.isSlice
  by_cases hlt:k<C.length
  ·have hdl:decide ((k:Int)<(C.length:Int))=true:=eO (by omega)
   obtain ⟨x,hx⟩:=aL hlt
   have HX:=aj hx
   have HCr:=aj (aC (aY ak) HC.out hB)
   clear hB hx
   go_wp2_with fail
   refine (KR (m:=k) (by omega) HCr.out).mono ?_
   intro e w4 h
   obtain ⟨q,rfl,hq2,hb⟩:=bA h
   have HQq:=aj (show q=true↔(l,s)∈x from by
    rw [hq2]
    unfold Sd
    rw [Int.toNat_natCast,HX.out]
    exact ⟨fun ⟨_,y,hy,hm⟩=>by obtain rfl:=fB hy;exact hm,fun hm=>⟨by omega,x,rfl,hm⟩⟩)
   have HB3:=aj (HB.out.trans (hb.mono hsz))
   have HR3:=aj (HR.out.call hb)
   have hz3:=HB3.out.size
   clear h hq2 hb
   rcases rV q HQq.out with ⟨hq,hm⟩ | ⟨hq,hm⟩
   ·have HN:=aj (yJ HX.out hm)
    clear hm
    subst hq
    obtain ⟨w5,Df⟩:∃ w,w=w4.alloc (.cells #[.int .i64 (k:Int)] 2):=⟨_,rfl⟩
    have W9:Below w4.heap.size w4 w5:=by rw [Df];exact (aU _ _).alloc (bK _) _
    have zF:aN w5 w4.heap.size 2 #[.int .i64 (k:Int)]:=by rw [Df];exact aN.new _ _ _
    have hlen:=qV C (l,s) k
    have uo:=W9.size
    obtain ⟨a',c',w6,hrun,hrow,hb6⟩:=PG.more (HR3.out.call W9) (Zo (k:Int) zF) (show w0.heap.size≤w5.heap.size by omega) (by simp only [List.length_singleton];omega)
    have Ah:=aj hrun
    have HR6:=aj hrow
    have wU:=aj ((HB3.out.trans (W9.mono (by omega))).trans (hb6.mono (by omega)))
    rw [Df] at Ah
    clear hrun hrow hb6 W9 zF Df
    go_wp2_with (at_builtin;refine dR rfl (.tmp 22) (.tmp 24) 70 rfl rfl rfl Ah.out ?_)
    go_roundw
    case rel=>exact ⟨k+1,by omega,by go_num,aj (by rw [HN.out];simpa using HR6.out),wU.out⟩
    case measure=>simp [intOf];omega
   ·have HN:=aj (BG HX.out hm)
    clear hm
    subst hq
    go_wp2
    go_roundw
    case rel=>exact ⟨k+1,by omega,by go_num,aj (by rw [HN.out];exact HR3.out),HB3.out⟩
    case measure=>simp [intOf];omega
  ·have hdl:decide ((k:Int)<(C.length:Int))=false:=dU (by omega)
   obtain rfl:k=C.length:=by omega
   have HR3:=aj (show PG wr w0.heap.size (.slice va (gZ C (l,s) C.length).length vc) (gI C (l,s)) from HR.out)
   clear hB
   go_wp2
   go_ret
   exact iU.news cO U0 HR3.out hz0 (HB0.out.trans (HB.out.mono hz0))
theorem Da {C:List (List av)}{P:List bq}{Q:List aV}{hf:Int}{ca pa qa:Option Addr}{cc pc qc:Nat}{l s:Int}{W:World}(hQ:aH aM W W.heap.size Q qa qc) :
 Calls Tryz.prog 204 #[.agg #[.slice ca C.length cc,.slice pa P.length pc,.slice qa Q.length qc,.int .i64 hf],.agg #[.int .i64 l,.int .i64 s]] W (Xd (gH Q (l,s)) W):=by
 have hqn:Q.length≤9223372036854775807:=by have h1:=hQ.1;have h2:=hQ.2.1;unfold maxLen at h2;omega
 obtain ⟨w0,hw0⟩:∃ w,w=(W.alloc (.cells #[.slice ca C.length cc,.slice pa P.length pc,.slice qa Q.length qc,.int .i64 hf] 39)).alloc (.cells #[.int .i64 l,.int .i64 s] 49):=⟨_,rfl⟩
 have hb0:Below W.heap.size W w0:=by rw [hw0];exact ((aU _ _).alloc (bK _) _).alloc (by simp) _
 have kX:aN w0 (W.heap.size) 39 #[.slice ca C.length cc,.slice pa P.length pc,.slice qa Q.length qc,.int .i64 hf]:=by
  have h9:=aN.new W 39 #[.slice ca C.length cc,.slice pa P.length pc,.slice qa Q.length qc,.int .i64 hf]
  try simp only [World.size_alloc] at h9
  rw [hw0];exact (h9.alloc _)
 have X0:=aj kX
 have qE:aN w0 (W.heap.size+1) 49 #[.int .i64 l,.int .i64 s]:=by
  have h9:=aN.new (W.alloc (.cells #[.slice ca C.length cc,.slice pa P.length pc,.slice qa Q.length qc,.int .i64 hf] 39)) 49 #[.int .i64 l,.int .i64 s]
  try simp only [World.size_alloc] at h9
  rw [hw0];exact h9
 have X1:=aj qE
 have HQ:=aj (aC aB hQ hb0)
 have HB0:=aj hb0
 have hz0:=hb0.size
 clear hb0 hQ kX qE
 have q2:=X0.out.at_ 2 rfl
 obtain ⟨r0,r1⟩:=X1.out.kZ rfl
 rw [hw0] at q2 r0 r1
 go_enter Tryz.func204,Tryz.ntmps204
 go_wp2_with fail
 rw [←hw0]
 clear hw0 q2 r0 r1
 go_loopw [10] (fun i wr=>∃ k:Nat,k≤Q.length∧i=.int .i64 k∧Hid (∀ (j:Nat) y,j<k→Q[j]? = some y→y.1≠(l,s))∧Below w0.heap.size w0 wr) (fun i _=>Q.length-(intOf i).toNat)
 case atStart=>exact ⟨0,dX _,rfl,aj fun j y h=>absurd h (gT _),aU _ _⟩
 case round=>
  obtain ⟨k,hk,rfl,HA,hB⟩:=hrel
  have HB:=aj hB
  have hsz:=hB.size
  by_cases hlt:k<Q.length
  ·have hdl:decide ((k:Int)<(Q.length:Int))=true:=eO (by omega)
   obtain ⟨⟨⟨x0,x1⟩,x2⟩,hx⟩:=aL hlt
   have HX:=aj hx
   obtain ⟨g,o,us,rfl,hg,hu,hr⟩:=(aC aB HQ.out hB).at_ hx
   obtain rfl:=jo hr
   obtain ⟨e0,e1,e2⟩:=J8 (a:=o+k*3) hu rfl
   have hi0:(0:Int)≤(k:Int):=eu _
   have hi1:(k:Int)<(Q.length:Int):=by omega
   obtain ⟨b,hb⟩:∃ b,decide (((x0,x1):Int×Int)=(l,s))=b:=⟨_,rfl⟩
   have hq:=iK x0 x1 l s b hb
   have HE:=aj hb
   obtain ⟨w2,hw2⟩:∃ w,w=wr.alloc (.cells #[.int .i64 x0,.int .i64 x1,.int .i64 x2] 181):=⟨_,rfl⟩
   have hb2:Below wr.heap.size wr w2:=by rw [hw2];exact (aU _ _).alloc (bK _) _
   have HB2:=aj (HB.out.trans (hb2.mono hsz))
   have Y2:=aj (show aN w2 wr.heap.size 181 #[.int .i64 x0,.int .i64 x1,.int .i64 x2] from by rw [hw2];exact aN.new _ _ _)
   have Z1:=aj ((X1.out.call hB).call hb2)
   clear hB hx hu hg hb hb2
   go_upto_region 4 with fail
   rw [←hw2]
   clear hw2 e0 e1 e2
   obtain ⟨y0,y1,y2⟩:=Y2.out.o8 rfl
   obtain ⟨z0,z1⟩:=Z1.out.kZ rfl
   cases b with
   | true=>
    have HV:=aj (show gH Q (l,s)=x2 from yI HX.out (of_decide_eq_true HE.out) HA.out)
    go_wp2
    go_ret
    exact ⟨by rw [HV.out];rfl,HB0.out.trans (HB2.out.mono hz0)⟩
   | false=>
    have HA2:=aj (show ∀ (j:Nat) y,j<k+1→Q[j]? = some y→y.1≠(l,s) from fun j y hj hy=>by
     by_cases e:j=k
     ·subst e;rw [HX.out] at hy;cases hy;exact of_decide_eq_false HE.out
     ·exact HA.out j y (by omega) hy)
    go_wp2
    go_roundw
    case rel=>exact ⟨k+1,by omega,by go_num,HA2,HB2.out⟩
    case measure=>simp [intOf];omega
  ·have hdl:decide ((k:Int)<(Q.length:Int))=false:=dU (by omega)
   obtain rfl:k=Q.length:=by omega
   have HV:=aj (show gH Q (l,s)=6 from wM fun j y hy=>HA.out j y (List.getElem?_eq_some_iff.1 hy).1 hy)
   clear hB
   go_wp2
   go_ret
   exact ⟨by rw [HV.out];rfl,HB0.out.trans (HB.out.mono hz0)⟩
end
end Go.Proofs.YtlhfiapfncikdaaGreatDoor.aP
