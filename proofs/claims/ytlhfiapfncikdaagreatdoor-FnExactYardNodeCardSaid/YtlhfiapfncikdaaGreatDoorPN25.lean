import Derived.Test.YtlhfiapfncikdaaGreatDoorPN0
set_option linter.unusedVariables false
set_option linter.unusedSimpArgs false
set_option maxRecDepth 100000
set_option maxHeartbeats 3200000
namespace Go.Proofs.YtlhfiapfncikdaaGreatDoor
namespace XM
section
open Go.RowKit Go.Extern.Stop Go.Stop Go.Extern
def cmpF:TypeId→Sem Value:=fun t=>do Go.Extern.Rtype.noPackHeld "Comparable" t;pure (.bool (← typeInfo t).comparable)
theorem NJ (v:Value)(w:World):(Extern.ReflectliteType.typeOf #[.iface 320 v]).run Tryz.prog w=.ok (.iface 261 (.agg #[.pointer (some ⟨11,320,none⟩)])) w:=by kernel_rfl
theorem zf (w:World):((Extern.ReflectliteType.method cmpF) #[.agg #[.pointer (some ⟨11,320,none⟩)]]).run Tryz.prog w=.ok (.bool true) w:=by kernel_rfl
theorem o8 (v:Value)(w:World):(Go.method 457 261 v "Comparable").run Tryz.prog w=.ok (319,v) w:=by kernel_rfl
theorem aaN:(Tryz.prog.info? 320).map (·.comparable)=some true:=by kernel_rfl
theorem aat:(Tryz.prog.info? 345).map (·.size)=some 1:=by kernel_rfl
theorem adz (v:Value)(xT:TypeId)(w:World):(Instr.typeAssert (.iface 320 v) xT 263 true).run Tryz.prog w=.ok (.tuple #[.nilIface,.bool false]) w:=run_typeAssert_lacksB Tryz.underlying263 (by kernel_rfl) (by kernel_rfl) v xT w
theorem Rb (v:Value)(xT:TypeId)(w:World):(Instr.typeAssert (.iface 320 v) xT 266 true).run Tryz.prog w=.ok (.tuple #[.nilIface,.bool false]) w:=run_typeAssert_lacksB Tryz.underlying266 (by kernel_rfl) (by kernel_rfl) v xT w
theorem Ll (v:Value)(xT:TypeId)(w:World):(Instr.typeAssert (.iface 320 v) xT 268 true).run Tryz.prog w=.ok (.tuple #[.nilIface,.bool false]) w:=run_typeAssert_lacksB Tryz.underlying268 (by kernel_rfl) (by kernel_rfl) v xT w
abbrev Gd (s:ByteArray)(a:Addr):Value:=.iface 214 (.agg #[.string s,.iface 320 (.pointer (some a))])
theorem aaG (v:Value)(xT:TypeId)(w:World):(Instr.typeAssert (.iface 214 v) xT 263 true).run Tryz.prog w=.ok (.tuple #[.nilIface,.bool false]) w:=run_typeAssert_lacksB Tryz.underlying263 (by kernel_rfl) (by kernel_rfl) v xT w
theorem NI (v:Value)(xT:TypeId)(w:World):(Instr.typeAssert (.iface 214 v) xT 266 true).run Tryz.prog w=.ok (.tuple #[.iface 214 v,.bool true]) w:=run_typeAssert_hasB Tryz.underlying266 (by kernel_rfl) v xT w
theorem wY (v:Value)(w:World):(Go.method 457 214 v "Unwrap").run Tryz.prog w=.ok (315,v) w:=by kernel_rfl
theorem NH (s:ByteArray)(v:Value)(w:World):Calls Tryz.prog 315 #[.agg #[.string s,v]] w fun e w'=>e=.returned v∧Below w.heap.size w w':=by
 go_enter Tryz.func315,Tryz.ntmps315
 go_wp2
 go_ret
 exact ⟨rfl,(Below.refl _ _).alloc (Nat.le_refl _) _⟩
theorem RA (s:ByteArray)(a:Addr)(w:World) :
 Calls Tryz.prog 215 #[Gd s a,.iface 320 (.pointer (some a)),.bool true] w fun e w'=>e=.returned (.bool true)∧Below w.heap.size w w':=by
 obtain ⟨i,hi,hcmp⟩:=Option.map_eq_some_iff.1 aaN
 obtain ⟨j,hj,hjs⟩:=Option.map_eq_some_iff.1 aat
 have nR:=aaG
 have uR:=NI
 have mU:=wY
 have hne:=fun w=>run_eql_iface_types (P:=Tryz.prog) 214 320 (.agg #[.string s,.iface 320 (.pointer (some a))]) (.pointer (some a)) Tryz.underlying82 (by decide) w
 have heq:=fun w=>run_eql_iface_ptr_same (P:=Tryz.prog) w a Tryz.underlying82 Tryz.underlying320 hi hcmp hj
 go_enter Tryz.func215,Tryz.ntmps215
 go_wp2
 refine wp_loop_rounds 2 ?_
 rw [rounds_succ]
 go_wp2_with (go_at_call 315;refine (NH s _ _).mono ?_;rintro e w1 ⟨rfl,hb⟩)
 rw [rounds_succ]
 go_wp2
 go_ret
 exact ⟨rfl,hb⟩
theorem L8 (s:ByteArray)(a b:Addr)(ca cb:Array Value)(ta tb:TypeId)(w:World)(hab:a≠b)(ha:w.heap[a.block]? = some (.cells ca ta (0,0)))(hb:w.heap[b.block]? = some (.cells cb tb (0,0))) :
 Calls Tryz.prog 215 #[Gd s a,.iface 320 (.pointer (some b)),.bool true] w fun e w'=>e=.returned (.bool false)∧Below w.heap.size w w':=by
 obtain ⟨i,hi,hcmp⟩:=Option.map_eq_some_iff.1 aaN
 obtain ⟨j,hj,hjs⟩:=Option.map_eq_some_iff.1 aat
 have nE:=adz
 have uE:=Rb
 have vE:=Ll
 have nR:=aaG
 have uR:=NI
 have mU:=wY
 have hne:=fun w=>run_eql_iface_types (P:=Tryz.prog) 214 320 (.agg #[.string s,.iface 320 (.pointer (some a))]) (.pointer (some b)) Tryz.underlying82 (by decide) w
 have hal:a.block<w.heap.size:=(Array.getElem?_eq_some_iff.1 ha).1
 have hbl:b.block<w.heap.size:=(Array.getElem?_eq_some_iff.1 hb).1
 go_enter Tryz.func215,Tryz.ntmps215
 go_wp2
 refine wp_loop_rounds 2 ?_
 rw [rounds_succ]
 go_wp2_with (go_at_call 315;refine (NH s _ _).mono ?_;rintro e w1 ⟨rfl,hB⟩;have heq:=run_eql_iface_ptr_other (P:=Tryz.prog) w1 Tryz.underlying82 Tryz.underlying320 hi hcmp hj (by rw [hjs];decide) hab ((hB.block _ hal).trans ha) ((hB.block _ hbl).trans hb))
 rw [rounds_succ]
 go_wp2
 go_ret
 exact ⟨rfl,hB⟩
theorem Wy (s:ByteArray)(a:Addr)(w:World) :
 Calls Tryz.prog 141 #[Gd s a,.iface 320 (.pointer (some a))] w fun e w'=>e=.returned (.bool true)∧Below w.heap.size w w':=by
 have h8:=@run_callFunc_extern Tryz.prog 214 _ Extern.ReflectliteType.typeOf Tryz.func214 (by kernel_rfl) (by kernel_rfl) (by kernel_rfl) (by kernel_rfl)
 have h32:=@run_callFunc_extern Tryz.prog 319 _ (Extern.ReflectliteType.method cmpF) Tryz.func319 (by kernel_rfl) (by kernel_rfl) (by kernel_rfl) (by kernel_rfl)
 have tT:=NJ
 have cT:=zf
 have mR:=o8
 go_enter Tryz.func141,Tryz.ntmps141
 go_wp2_with (go_at_call 215;refine (RA s a _).mono ?_;rintro e w' ⟨rfl,hb⟩)
 go_ret
 exact ⟨rfl,hb⟩
theorem Ru (s:ByteArray)(a b:Addr)(ca cb:Array Value)(ta tb:TypeId)(w:World)(hne:a≠b)(ha:w.heap[a.block]? = some (.cells ca ta (0,0)))(hb:w.heap[b.block]? = some (.cells cb tb (0,0))) :
 Calls Tryz.prog 141 #[Gd s a,.iface 320 (.pointer (some b))] w fun e w'=>e=.returned (.bool false)∧Below w.heap.size w w':=by
 have h8:=@run_callFunc_extern Tryz.prog 214 _ Extern.ReflectliteType.typeOf Tryz.func214 (by kernel_rfl) (by kernel_rfl) (by kernel_rfl) (by kernel_rfl)
 have h32:=@run_callFunc_extern Tryz.prog 319 _ (Extern.ReflectliteType.method cmpF) Tryz.func319 (by kernel_rfl) (by kernel_rfl) (by kernel_rfl) (by kernel_rfl)
 have tT:=NJ
 have cT:=zf
 have mR:=o8
 go_enter Tryz.func141,Tryz.ntmps141
 go_wp2_with (go_at_call 215;refine (L8 s a b ca cb ta tb _ hne ha hb).mono ?_;rintro e w' ⟨rfl,hB⟩)
 go_ret
 exact ⟨rfl,hB⟩
end
end XM
namespace zI
section
open Go.RowKit bN bO XM
structure yM (n:Nat)(W:World)(a:Nat→Addr):Prop where
 v:∀ k,k<n→W.cell? ⟨k,0,none⟩=some (.iface 320 (.pointer (some (a k))))
 b:∀ k,k<n→∃ c t,W.heap[(a k).block]? = some (.cells c t (0,0))
 ne:∀ i j,i<n→j<n→i≠j→a i≠a j
theorem yM.mv {n:Nat}{W W':World}{a:Nat→Addr}(h:yM n W a)(hb:Below W.heap.size W W'):yM n W' a:=
 ⟨fun k hk=>(hb.cell (p:=⟨_,0,none⟩) (World.block_lt_of_cell? W _ (h.v k hk))).trans (h.v k hk),fun k hk=>by
  obtain ⟨c,t,h1⟩:=h.b k hk
  exact ⟨c,t,(hb.block _ (Array.getElem?_eq_some_iff.1 h1).1).trans h1⟩,h.ne⟩
theorem oM {n:Nat}{W:World}{a:Nat→Addr}(h:yM n W a){k j:Nat}(hk:k<n)(hj:j<n)(s:ByteArray):Calls Tryz.prog 141 #[Gd s (a k),.iface 320 (.pointer (some (a j)))] W fun e w'=>e=.returned (.bool (decide (k=j)))∧Below W.heap.size W w':=by
 by_cases e:k=j
 ·subst e
  rw [decide_eq_true rfl]
  exact Wy s (a k) W
 ·rw [decide_eq_false e]
  obtain ⟨ca,ta,h1⟩:=h.b k hk
  obtain ⟨cb,tb,h2⟩:=h.b j hj
  exact Ru s (a k) (a j) ca cb ta tb W (h.ne k j hk hj e) h1 h2
def uf (k:Nat):Int:=if k<6 then (k:Int)+6 else 1
def kOf (c:Int):Nat:=if c=6 then 0 else if c=7 then 1 else if c=8 then 2 else if c=9 then 3 else if c=10 then 4 else if c=11 then 5 else 6
theorem ab0 (c:Int):kOf c<7:=by unfold kOf;repeat' split <;> try omega
theorem aad {c:Int}(h:c=1∨6≤c∧c≤11):uf (kOf c)=c:=by
 have h2:c=1∨c=6∨c=7∨c=8∨c=9∨c=10∨c=11:=by omega
 rcases h2 with rfl | rfl | rfl | rfl | rfl | rfl | rfl <;> decide
theorem Fp {n:Nat}{W:World}{a:Nat→Addr}(h:yM n W a)(h6:6≤n){k:Nat}(hk:k<n)(s:ByteArray):Calls Tryz.prog 78 #[Gd s (a k)] W fun e w'=>e=.returned (.int .i64 (uf k))∧Below W.heap.size W w':=by
 have H0:=ak h
 have B0:=ak (aW W.heap.size W)
 have v0:=h.v 0 (by omega)
 clear h
 go_enter Tryz.func78,Tryz.ntmps78
 go_wp2_with fail
 refine (oM H0.out hk (show 0<n by omega) s).mono ?_
 intro e w1 h
 obtain ⟨rfl,hb⟩:=h
 have H1:=ak (H0.out.mv hb)
 have B1:=ak (B0.out.trans (hb.mono B0.out.size))
 clear hb v0
 by_cases hj0:k=0
 ·subst hj0
  go_wp2
  go_ret
  exact ⟨rfl,B1.out⟩
 have hd0:decide (k=0)=false:=dS hj0
 have v1:=H1.out.v 1 (by omega)
 go_wp2_with fail
 refine (oM H1.out hk (show 1<n by omega) s).mono ?_
 intro e w2 h
 obtain ⟨rfl,hb⟩:=h
 have H2:=ak (H1.out.mv hb)
 have B2:=ak (B1.out.trans (hb.mono B1.out.size))
 clear hb v1
 by_cases hj1:k=1
 ·subst hj1
  go_wp2
  go_ret
  exact ⟨rfl,B2.out⟩
 have hd1:decide (k=1)=false:=dS hj1
 have v2:=H2.out.v 2 (by omega)
 go_wp2_with fail
 refine (oM H2.out hk (show 2<n by omega) s).mono ?_
 intro e w3 h
 obtain ⟨rfl,hb⟩:=h
 have H3:=ak (H2.out.mv hb)
 have B3:=ak (B2.out.trans (hb.mono B2.out.size))
 clear hb v2
 by_cases hj2:k=2
 ·subst hj2
  go_wp2
  go_ret
  exact ⟨rfl,B3.out⟩
 have hd2:decide (k=2)=false:=dS hj2
 have v3:=H3.out.v 3 (by omega)
 go_wp2_with fail
 refine (oM H3.out hk (show 3<n by omega) s).mono ?_
 intro e w4 h
 obtain ⟨rfl,hb⟩:=h
 have H4:=ak (H3.out.mv hb)
 have B4:=ak (B3.out.trans (hb.mono B3.out.size))
 clear hb v3
 by_cases hj3:k=3
 ·subst hj3
  go_wp2
  go_ret
  exact ⟨rfl,B4.out⟩
 have hd3:decide (k=3)=false:=dS hj3
 have v4:=H4.out.v 4 (by omega)
 go_wp2_with fail
 refine (oM H4.out hk (show 4<n by omega) s).mono ?_
 intro e w5 h
 obtain ⟨rfl,hb⟩:=h
 have H5:=ak (H4.out.mv hb)
 have B5:=ak (B4.out.trans (hb.mono B4.out.size))
 clear hb v4
 by_cases hj4:k=4
 ·subst hj4
  go_wp2
  go_ret
  exact ⟨rfl,B5.out⟩
 have hd4:decide (k=4)=false:=dS hj4
 have v5:=H5.out.v 5 (by omega)
 go_wp2_with fail
 refine (oM H5.out hk (show 5<n by omega) s).mono ?_
 intro e w6 h
 obtain ⟨rfl,hb⟩:=h
 have H6:=ak (H5.out.mv hb)
 have B6:=ak (B5.out.trans (hb.mono B5.out.size))
 clear hb v5
 by_cases hj5:k=5
 ·subst hj5
  go_wp2
  go_ret
  exact ⟨rfl,B6.out⟩
 have hd5:decide (k=5)=false:=dS hj5
 have hc:uf k=1:=if_neg (by omega)
 go_wp2
 go_ret
 exact ⟨by rw [hc];rfl,B6.out⟩
theorem KZ {W:World}{a:Nat→Addr}(h:yM 7 W a)(c:Int):Calls Tryz.prog 170 #[.int .i64 c] W fun e w'=>e=.returned (.iface 320 (.pointer (some (a (kOf c)))))∧w'=W:=by
 have v0:=h.v 0 (by omega)
 have v1:=h.v 1 (by omega)
 have v2:=h.v 2 (by omega)
 have v3:=h.v 3 (by omega)
 have v4:=h.v 4 (by omega)
 have v5:=h.v 5 (by omega)
 have v6:=h.v 6 (by omega)
 clear h
 have hcs:c=6∨c=7∨c=8∨c=9∨c=10∨c=11∨(¬c=6∧¬c=7∧¬c=8∧¬c=9∧¬c=10∧¬c=11):=by omega
 rcases hcs with rfl | rfl | rfl | rfl | rfl | rfl | ⟨e6,e7,e8,e9,e10,e11⟩
 iterate 6
  ·go_enter Tryz.func170,Tryz.ntmps170
   go_wp2
   go_ret
   exact ⟨rfl,rfl⟩
 have b6:(c==6)=false:=by simp [e6]
 have b7:(c==7)=false:=by simp [e7]
 have b8:(c==8)=false:=by simp [e8]
 have b9:(c==9)=false:=by simp [e9]
 have b10:(c==10)=false:=by simp [e10]
 have b11:(c==11)=false:=by simp [e11]
 have hk:kOf c=6:=by unfold kOf;rw [if_neg e6,if_neg e7,if_neg e8,if_neg e9,if_neg e10,if_neg e11]
 rw [hk]
 clear hk
 go_enter Tryz.func170,Tryz.ntmps170
 go_wp2
 go_ret
 exact ⟨rfl,rfl⟩
end
end zI
namespace Zf
section
open Go.ChangeShapes Go.WideShapes Go.RowKit
theorem Ic {P:Program}{W:World}:∀ (L:List (String×DataW Unit))(ps:List MemPlace),DataW.LaidVars P W L ps→∀ x∈L,∃ g t cs fuel p,P.globalNamed x.1=some g∧(P.globals[g]?).map (·.type)=some t∧W.var? P x.1=some cs ∧
 DataW.trod (fun _=>()) P W 0 (fun _=>true) false fuel t cs.toList=some (x.2,p)
 | [],_,_,x,hx=>by cases hx
 | (n,d)::r,ps,h,x,hx=>by
  obtain ⟨g,t,cs,fuel,p,q,h1,h2,h3,h4,h5,_⟩:=h
  rcases List.mem_cons.1 hx with rfl | hx
  ·exact ⟨g,t,cs,fuel,p,h1,h2,h3,h4⟩
  ·exact Ic r q h5 x hx
theorem DU {P:Program}{L:List (String×DataW Unit)}{W:World}(hp:(L.all fun x=>x.2.handleName?.isNone)=true)(h:laidMetH P L W):laidMet P L W:=by
 rw [MakeChecks.laidMetH_plain _ _ _ hp] at h
 exact h
end
end Zf
namespace zI
section
open Go.RowKit
theorem adB {P:Program}{m0 m1 m2 n0 n1 n2 n3 n4 n5 n6 nm:String}{text0 text1 acy acw acv acu acs:List UInt8}{D0 D1 D2:DataW Unit}{r:List (String×DataW Unit)}{W:World}{g0 g1 g2 g3 g4 g5 g6:Nat}{ti tp te ts:TypeId}{ms:Array (String×TypeId)}{f:Field}
 (h:laidMet P ((m0,D0)::(m1,D1)::(m2,D2)::(n0,.iface nm (.ptr (.agg [.lit (.string text0)])))::(n1,.iface nm (.ptr (.agg [.lit (.string text1)])))::(n2,.iface nm (.ptr (.agg [.lit (.string acy)])))::(n3,.iface nm (.ptr (.agg [.lit (.string acw)])))::(n4,.iface nm (.ptr (.agg [.lit (.string acv)])))::(n5,.iface nm (.ptr (.agg [.lit (.string acu)])))::(n6,.iface nm (.ptr (.agg [.lit (.string acs)])))::r) W)
 (hg0:P.globalNamed n0=some g0) (ht0:(P.globals[g0]?).map (·.type)=some ti) (hg1:P.globalNamed n1=some g1) (ht1:(P.globals[g1]?).map (·.type)=some ti) (hg2:P.globalNamed n2=some g2) (ht2:(P.globals[g2]?).map (·.type)=some ti) (hg3:P.globalNamed n3=some g3) (ht3:(P.globals[g3]?).map (·.type)=some ti) (hg4:P.globalNamed n4=some g4) (ht4:(P.globals[g4]?).map (·.type)=some ti) (hg5:P.globalNamed n5=some g5) (ht5:(P.globals[g5]?).map (·.type)=some ti) (hg6:P.globalNamed n6=some g6) (ht6:(P.globals[g6]?).map (·.type)=some ti)
 (hi:P.underlying ti=some (.interface ms)) (hrow:∀ u,P.typeName? 3 u=some nm→u=tp)
 (hp:P.underlying tp=some (.pointer te)) (he:P.underlying te=some (.struct #[f])) (hft:f.type=ts) (hfo:f.offset=0) (hs:P.underlying ts=some .string) (hc:P.cellsOf te=1) (hcs:P.cellsOf ts=1) :
 ∃ a0 a1 a2 a3 a4 a5 a6:Addr,W.cell? ⟨g0,0,none⟩=some (.iface tp (.pointer (some a0)))∧W.cell? ⟨g1,0,none⟩=some (.iface tp (.pointer (some a1)))∧W.cell? ⟨g2,0,none⟩=some (.iface tp (.pointer (some a2)))∧W.cell? ⟨g3,0,none⟩=some (.iface tp (.pointer (some a3)))∧W.cell? ⟨g4,0,none⟩=some (.iface tp (.pointer (some a4)))∧W.cell? ⟨g5,0,none⟩=some (.iface tp (.pointer (some a5)))∧W.cell? ⟨g6,0,none⟩=some (.iface tp (.pointer (some a6)))∧(∃ c t,W.heap[a0.block]? = some (.cells c t (0,0)))∧(∃ c t,W.heap[a1.block]? = some (.cells c t (0,0)))∧(∃ c t,W.heap[a2.block]? = some (.cells c t (0,0)))∧(∃ c t,W.heap[a3.block]? = some (.cells c t (0,0)))∧(∃ c t,W.heap[a4.block]? = some (.cells c t (0,0)))∧(∃ c t,W.heap[a5.block]? = some (.cells c t (0,0)))∧(∃ c t,W.heap[a6.block]? = some (.cells c t (0,0)))∧[a0,a1,a2,a3,a4,a5,a6].Nodup:=by
 obtain ⟨ps,⟨_,_,_,_,dp0,dq0,_,_,_,_,⟨_,_,_,_,dp1,dq1,_,_,_,_,⟨_,_,_,_,dp2,dq2,_,_,_,_,⟨g0',t0',cs0,f0,p0,q0,hg0',ht0',hv0,hd0,⟨g1',t1',cs1,f1,p1,q1,hg1',ht1',hv1,hd1,⟨g2',t2',cs2,f2,p2,q2,hg2',ht2',hv2,hd2,⟨g3',t3',cs3,f3,p3,q3,hg3',ht3',hv3,hd3,⟨g4',t4',cs4,f4,p4,q4,hg4',ht4',hv4,hd4,⟨g5',t5',cs5,f5,p5,q5,hg5',ht5',hv5,hd5,⟨g6',t6',cs6,f6,p6,q6,hg6',ht6',hv6,hd6,_,e6⟩,e5⟩,e4⟩,e3⟩,e2⟩,e1⟩,e0⟩,d2⟩,d1⟩,d0⟩,hnd,hrows⟩:=h
 obtain rfl:=fC (hg0.symm.trans hg0')
 obtain rfl:=fC (hg1.symm.trans hg1')
 obtain rfl:=fC (hg2.symm.trans hg2')
 obtain rfl:=fC (hg3.symm.trans hg3')
 obtain rfl:=fC (hg4.symm.trans hg4')
 obtain rfl:=fC (hg5.symm.trans hg5')
 obtain rfl:=fC (hg6.symm.trans hg6')
 obtain rfl:=fC (ht0.symm.trans ht0')
 obtain rfl:=fC (ht1.symm.trans ht1')
 obtain rfl:=fC (ht2.symm.trans ht2')
 obtain rfl:=fC (ht3.symm.trans ht3')
 obtain rfl:=fC (ht4.symm.trans ht4')
 obtain rfl:=fC (ht5.symm.trans ht5')
 obtain rfl:=fC (ht6.symm.trans ht6')
 subst e6
 subst e5
 subst e4
 subst e3
 subst e2
 subst e1
 subst e0
 subst d2
 subst d1
 subst d0
 obtain ⟨l0⟩:=cs0
 obtain ⟨l1⟩:=cs1
 obtain ⟨l2⟩:=cs2
 obtain ⟨l3⟩:=cs3
 obtain ⟨l4⟩:=cs4
 obtain ⟨l5⟩:=cs5
 obtain ⟨l6⟩:=cs6
 have ok0:∀ u v,l0 = [.iface u v]→Value.okWide P W .any 0 u v:=fun u v e=>by
  subst e
  exact (hrows g0 0 (by simp [MemPlace.row])).2 u v (by simpa using World.var?_cell hg0' hv0 0)
 have ok1:∀ u v,l1 = [.iface u v]→Value.okWide P W .any 0 u v:=fun u v e=>by
  subst e
  exact (hrows g1 0 (by simp [MemPlace.row])).2 u v (by simpa using World.var?_cell hg1' hv1 0)
 have ok2:∀ u v,l2 = [.iface u v]→Value.okWide P W .any 0 u v:=fun u v e=>by
  subst e
  exact (hrows g2 0 (by simp [MemPlace.row])).2 u v (by simpa using World.var?_cell hg2' hv2 0)
 have ok3:∀ u v,l3 = [.iface u v]→Value.okWide P W .any 0 u v:=fun u v e=>by
  subst e
  exact (hrows g3 0 (by simp [MemPlace.row])).2 u v (by simpa using World.var?_cell hg3' hv3 0)
 have ok4:∀ u v,l4 = [.iface u v]→Value.okWide P W .any 0 u v:=fun u v e=>by
  subst e
  exact (hrows g4 0 (by simp [MemPlace.row])).2 u v (by simpa using World.var?_cell hg4' hv4 0)
 have ok5:∀ u v,l5 = [.iface u v]→Value.okWide P W .any 0 u v:=fun u v e=>by
  subst e
  exact (hrows g5 0 (by simp [MemPlace.row])).2 u v (by simpa using World.var?_cell hg5' hv5 0)
 have ok6:∀ u v,l6 = [.iface u v]→Value.okWide P W .any 0 u v:=fun u v e=>by
  subst e
  exact (hrows g6 0 (by simp [MemPlace.row])).2 u v (by simpa using World.var?_cell hg6' hv6 0)
 obtain ⟨a0,s0,rfl,hc0,hs0,hz0,rfl⟩:=errorString_of_trod hi hrow hp he hft hfo hs hc hcs hd0 ok0
 obtain ⟨a1,s1,rfl,hc1,hs1,hz1,rfl⟩:=errorString_of_trod hi hrow hp he hft hfo hs hc hcs hd1 ok1
 obtain ⟨a2,s2,rfl,hc2,hs2,hz2,rfl⟩:=errorString_of_trod hi hrow hp he hft hfo hs hc hcs hd2 ok2
 obtain ⟨a3,s3,rfl,hc3,hs3,hz3,rfl⟩:=errorString_of_trod hi hrow hp he hft hfo hs hc hcs hd3 ok3
 obtain ⟨a4,s4,rfl,hc4,hs4,lW,rfl⟩:=errorString_of_trod hi hrow hp he hft hfo hs hc hcs hd4 ok4
 obtain ⟨a5,s5,rfl,hc5,hs5,uI,rfl⟩:=errorString_of_trod hi hrow hp he hft hfo hs hc hcs hd5 ok5
 obtain ⟨a6,s6,rfl,hc6,hs6,hz6,rfl⟩:=errorString_of_trod hi hrow hp he hft hfo hs hc hcs hd6 ok6
 obtain ⟨c0,t0,hb0⟩:=(hrows a0.block a0.off (by simp [MemPlace.row])).1
 obtain ⟨c1,t1,hb1⟩:=(hrows a1.block a1.off (by simp [MemPlace.row])).1
 obtain ⟨c2,t2,hb2⟩:=(hrows a2.block a2.off (by simp [MemPlace.row])).1
 obtain ⟨c3,t3,hb3⟩:=(hrows a3.block a3.off (by simp [MemPlace.row])).1
 obtain ⟨c4,t4,hb4⟩:=(hrows a4.block a4.off (by simp [MemPlace.row])).1
 obtain ⟨c5,t5,hb5⟩:=(hrows a5.block a5.off (by simp [MemPlace.row])).1
 obtain ⟨c6,t6,hb6⟩:=(hrows a6.block a6.off (by simp [MemPlace.row])).1
 refine ⟨a0,a1,a2,a3,a4,a5,a6,by simpa using World.var?_cell hg0' hv0 0,by simpa using World.var?_cell hg1' hv1 0,by simpa using World.var?_cell hg2' hv2 0,by simpa using World.var?_cell hg3' hv3 0,by simpa using World.var?_cell hg4' hv4 0,by simpa using World.var?_cell hg5' hv5 0,by simpa using World.var?_cell hg6' hv6 0,⟨_,_,hb0⟩,⟨_,_,hb1⟩,⟨_,_,hb2⟩,⟨_,_,hb3⟩,⟨_,_,hb4⟩,⟨_,_,hb5⟩,⟨_,_,hb6⟩,?_⟩
 simp only [List.nodup_cons,List.mem_cons,List.not_mem_nil,or_false,not_or,List.nodup_nil,not_false_eq_true,and_true]
 refine ⟨⟨?_,?_,?_,?_,?_,?_⟩,⟨?_,?_,?_,?_,?_⟩,⟨?_,?_,?_,?_⟩,⟨?_,?_,?_⟩,⟨?_,?_⟩,?_⟩
 all_goals
  rintro rfl
  simp [MemPlace.row,List.nodup_append] at hnd
theorem aas : "*errors.errorString" = "*" ++ "errors.errorString":=by decide
theorem row_ (u:TypeId)(h:Tryz.prog.typeName? 3 u=some "*errors.errorString"):u=320:=
 typeName_ptr_named (nm := "errors.errorString") (by rw [←aas];kernel_rfl) (by kernel_rfl) (by decide) u (by rw [←aas];exact h)
theorem ZI {W:World}(hL:laidMetH Tryz.prog [("math/bits.deBruijn32tab",Rows.laid_math_bits_deBruijn32tab),("math/bits.deBruijn64tab",Rows.laid_math_bits_deBruijn64tab),("internal/strconv.uint64pow10",Rows.laid_internal_strconv_uint64pow10),("loop.example/g00658/impl.errForm",Rows.laid_loop_example_g00658_impl_errForm),("loop.example/g00658/impl.errNone",Rows.laid_loop_example_g00658_impl_errNone),("loop.example/g00658/impl.errThere",Rows.laid_loop_example_g00658_impl_errThere),("loop.example/g00658/impl.errRange",Rows.laid_loop_example_g00658_impl_errRange),("loop.example/g00658/impl.errFull",Rows.laid_loop_example_g00658_impl_errFull),("loop.example/g00658/impl.errState",Rows.laid_loop_example_g00658_impl_errState),("loop.example/g00658/impl.errLabel",Rows.laid_loop_example_g00658_impl_errLabel)] W):∃ a:Nat→Addr,yM 7 W a:=by
 have h:=Zf.DU (by rfl) hL
 obtain ⟨a0,a1,a2,a3,a4,a5,a6,v0,v1,v2,v3,v4,v5,v6,b0,b1,b2,b3,b4,b5,b6,hn⟩:=adB (ti:=82) (tp:=320) (te:=345) (ts:=9) h (by kernel_rfl) (by kernel_rfl) (by kernel_rfl) (by kernel_rfl) (by kernel_rfl) (by kernel_rfl) (by kernel_rfl) (by kernel_rfl) (by kernel_rfl) (by kernel_rfl) (by kernel_rfl) (by kernel_rfl) (by kernel_rfl) (by kernel_rfl) Tryz.underlying82 row_ Tryz.underlying320 Tryz.underlying345 rfl rfl Tryz.underlying9 (by kernel_rfl) (by kernel_rfl)
 simp only [List.nodup_cons,List.mem_cons,List.not_mem_nil,or_false,not_or] at hn
 refine ⟨fun k=>match k with | 0=>a1 | 1=>a2 | 2=>a3 | 3=>a4 | 4=>a5 | 5=>a6 | 6=>a0 | _=>a0,fun k hk=>?_,fun k hk=>?_,fun i j hi hj hij=>?_⟩
 ·match k,hk with
  | 0,_=>exact v1
  | 1,_=>exact v2
  | 2,_=>exact v3
  | 3,_=>exact v4
  | 4,_=>exact v5
  | 5,_=>exact v6
  | 6,_=>exact v0
 ·match k,hk with
  | 0,_=>exact b1
  | 1,_=>exact b2
  | 2,_=>exact b3
  | 3,_=>exact b4
  | 4,_=>exact b5
  | 5,_=>exact b6
  | 6,_=>exact b0
 ·have hi2:i=0∨i=1∨i=2∨i=3∨i=4∨i=5∨i=6:=by omega
  have hj2:j=0∨j=1∨j=2∨j=3∨j=4∨j=5∨j=6:=by omega
  rcases hi2 with rfl | rfl | rfl | rfl | rfl | rfl | rfl <;> rcases hj2 with rfl | rfl | rfl | rfl | rfl | rfl | rfl <;> first | exact absurd rfl hij | (intro e;simp_all)
end
end zI
end Go.Proofs.YtlhfiapfncikdaaGreatDoor
