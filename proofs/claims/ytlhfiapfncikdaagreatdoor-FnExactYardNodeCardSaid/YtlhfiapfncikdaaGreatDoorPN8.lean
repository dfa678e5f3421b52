import Derived.Test.YtlhfiapfncikdaaGreatDoorPN5
import Derived.Test.YtlhfiapfncikdaaGreatDoorPN6
set_option linter.unusedVariables false
set_option linter.unusedSimpArgs false
set_option maxRecDepth 100000
set_option maxHeartbeats 3200000
namespace Go.Proofs.YtlhfiapfncikdaaGreatDoor
namespace aQ
section
open Go.RowKit bN bO bJ bQ
def NewB (L:List ay)(W:World)(e:Ending)(w':World):Prop:=∃ v lo,e=.returned v∧W.heap.size≤lo∧lo≤w'.heap.size∧xR w' lo v L∧Below W.heap.size W w'
theorem Ea {L:List ay}{W:World}{e:Ending}{w':World}(h:NewB L W e w'):∃ v lo,e=.returned v∧W.heap.size≤lo∧lo≤w'.heap.size∧xR w' lo v L∧Below W.heap.size W w':=h
theorem LY {n:Nat}{z:Int}(hz:z=(n:Int))(hn:n≤1099511627776){W:World}:Calls Tryz.prog 254 #[.slice none 0 0,.int .i64 z] W (NewB [] W):=by
 subst hz
 by_cases h0:n=0
 ·subst h0
  go_enter Tryz.func254,Tryz.ntmps254
  go_wp2
  go_ret
  exact ⟨_,W.heap.size,rfl,bK _,bK _,jg.none_ _ _ _ _ _,aW _ _⟩
 ·obtain ⟨c,w',hr,hrow,hb,hle⟩:=xR.grown (w:=W) (n:=n) (by omega) hn
  have HR:=ak hr
  have HW:=ak hrow
  have HB:=ak hb
  have hw:IntKind.i64.wrap (n:Int)=(n:Int):=gK _ (by omega)
  have hp:decide ((n:Int) > 0)=true:=eD (by omega)
  have hp2:decide (0<n)=true:=eD (by omega)
  have hm:decide ((n:Int)<0)=false:=dS (by omega)
  clear hr hrow hb
  go_enter Tryz.func254,Tryz.ntmps254
  go_wp2_with (at_builtin;refine Lib.wpList_append_run _ rfl (.tmp 20) (.tmp 21) _ _ rfl _ _ rfl rfl _ _ HR.out ?_)
  go_ret
  exact ⟨_,W.heap.size,rfl,bK _,HB.out.size,HW.out,HB.out⟩
theorem wZ {C:List (List ay)}{k:Nat}{x:List ay}(h:C[k]? = some x):(C.take (k+1)).flatten=(C.take k).flatten++x:=by
 rw [List.take_add_one,h];simp
theorem kV (C:List (List ay))(k:Nat):(C.take k).flatten.length≤C.flatten.length:=by
 have:C.flatten=(C.take k).flatten++(C.drop k).flatten:=by rw [←List.flatten_append,List.take_append_drop]
 rw [this,List.length_append];omega
theorem NQ:(Sl av).size=1:=rfl
theorem Jz {C:List (List ay)}{ca:Option Addr}{cc:Nat}{W:World}(hn:C.flatten.length≤1073741824)(hC:aJ (Sl av) W W.heap.size C ca cc) :
 Calls Tryz.prog 229 #[.slice ca C.length cc] W (NewB C.flatten W):=by
 have hcn:C.length≤9223372036854775807:=by have h1:=hC.1;have h2:=hC.2.1;unfold maxLen at h2;omega
 have HC:=ak hC
 have HN:=ak hn
 clear hC hn
 go_enter Tryz.func229,Tryz.ntmps229
 go_wp2
 go_loopw [3,11] (fun s i wr=>∃ k m:Nat,k≤C.length∧i=.int .i64 k∧s=.int .i64 m∧Hid (m=(C.take k).flatten.length)∧Below W.heap.size W wr) (fun _ i _=>C.length-(intOf i).toNat)
 case atStart=>exact ⟨0,0,dV _,rfl,rfl,ak (by simp),aW _ _⟩
 case round=>
  obtain ⟨k,m,hk,rfl,rfl,HM,hB⟩:=hrel
  have HB:=ak hB
  have hsz:=hB.size
  have hm:=kV C k
  rw [←HM.out] at hm
  have hm2:m≤1073741824:=eF hm HN.out
  clear hm
  by_cases hlt:k<C.length
  ·have hdl:decide ((k:Int)<(C.length:Int))=true:=eD (by omega)
   obtain ⟨x,hx⟩:=aM hlt
   have HX:=ak hx
   obtain ⟨g,o,us,rfl,hg,hu,hr⟩:=(HC.out.below (aZ au) hB).at_ hx
   obtain ⟨a1,c1,rfl,uH⟩:=hr
   have e0:wr.cell? ⟨g,o+k,none⟩=some (.slice a1 x.length c1):=by simpa [NQ] using hu 0 _ rfl
   have hi0:(0:Int)≤(k:Int):=eu _
   have hi1:(k:Int)<(C.length:Int):=by omega
   have hft:=wZ hx
   have je:=ak (show m+x.length=(C.take (k+1)).flatten.length from by rw [hft,List.length_append,HM.out])
   have hle:=kV C (k+1)
   rw [←je.out] at hle
   have hle2:m+x.length≤1073741824:=eF hle HN.out
   have hw1:IntKind.i64.wrap ((m:Int)+(x.length:Int))=(m:Int)+(x.length:Int):=gK _ (by omega)
   have hd1:decide ((m:Int)+(x.length:Int)<0)=false:=dS (by omega)
   clear hB hx hu uH hft hle
   go_wp2
   go_roundw
   case rel=>exact ⟨k+1,m+x.length,by omega,by go_num,by go_num,je,HB.out⟩
   case measure=>simp [intOf];omega
  ·have hdl:decide ((k:Int)<(C.length:Int))=false:=dS (by omega)
   have HT:=ak (show C.take k=C from List.take_of_length_le (by omega))
   clear hB
   go_wp2_with fail
   refine (LY (n:=m) rfl (by omega)).mono ?_
   intro e w1 h
   obtain ⟨v,lo,rfl,hlo,hlw,hrow,hb⟩:=Ea h
   have HB1:=ak (HB.out.trans (hb.mono hsz))
   have hz1:=HB1.out.size
   have HV:=ak hrow
   have hlo0:W.heap.size≤lo:=by omega
   clear h hrow hb
   go_wp2
   go_loopw [6,27] (fun v i wr=>∃ k lo:Nat,k≤C.length∧i=.int .i64 k∧W.heap.size≤lo∧lo≤wr.heap.size∧Hid (xR wr lo v (C.take k).flatten)∧Below W.heap.size W wr) (fun _ i _=>C.length-(intOf i).toNat)
   case atStart=>exact ⟨0,lo,dV _,rfl,hlo0,hlw,ak (by simpa using HV.out),HB1.out⟩
   case round=>
    obtain ⟨k,lo,hk,rfl,hl1,hl2,HV,hB⟩:=hrel
    have HB:=ak hB
    have hsz:=hB.size
    by_cases hlt:k<C.length
    ·have hdl:decide ((k:Int)<(C.length:Int))=true:=eD (by omega)
     obtain ⟨x,hx⟩:=aM hlt
     obtain ⟨g,o,us,rfl,hg,hu,hr⟩:=(HC.out.below (aZ au) hB).at_ hx
     obtain ⟨a1,c1,rfl,uH⟩:=hr
     have e0:wr.cell? ⟨g,o+k,none⟩=some (.slice a1 x.length c1):=by simpa [NQ] using hu 0 _ rfl
     have hi0:(0:Int)≤(k:Int):=eu _
     have hi1:(k:Int)<(C.length:Int):=by omega
     have hft:=wZ hx
     have hle:=kV C (k+1)
     rw [hft,List.length_append] at hle
     have hle2:=eF hle HN.out
     obtain ⟨va,vc,rfl⟩:=HV.out.isSlice
     obtain ⟨a',c',w2,hrn,hrow2,hb2⟩:=xR.more HV.out (uH.more au hsz) hl2 (by omega)
     have HR:=ak hrn
     have HW2:=ak (show xR w2 lo _ (C.take (k+1)).flatten from by rw [hft];exact hrow2)
     have HB2:=ak (HB.out.trans (hb2.mono hl1))
     have hl3:=eF hl2 hb2.size
     clear hrn hrow2 hb2 hB hx hu uH hft hle hle2
     go_wp2_with (at_builtin;refine dZ rfl (.tmp 31) (.tmp 32) 155 rfl rfl rfl HR.out ?_)
     go_roundw
     case rel=>exact ⟨k+1,lo,by omega,by go_num,hl1,hl3,ak (by simpa using HW2.out),HB2.out⟩
     case measure=>simp [intOf];omega
    ·have hdl:decide ((k:Int)<(C.length:Int))=false:=dS (by omega)
     have HT:=ak (show C.take k=C from List.take_of_length_le (by omega))
     have HW2:=ak HV.out
     clear hB
     go_wp2
     go_ret
     exact ⟨_,lo,rfl,hl1,hl2,by have:=HW2.out;rw [HT.out] at this;exact this,HB.out⟩
end
end aQ
namespace gB
section
open Go.Shelf
def Tryz.cmpI64_ren:Go.Shelf.Ren:=⟨fun | 5=>255 | 7=>272 | n=>n,fun | 22=>2 | 3=>3 | 4=>4 | n=>n,fun | n=>n⟩
theorem Tryz.cmpI64:Go.Proofs.SlLaysC2.n5 Tryz.prog Tryz.cmpI64_ren:={
 mixed:=by kernel_rfl
 f5:=⟨Tryz.f255.name,by decide,Tryz.func255.trans (congrArg some (by kernel_rfl))⟩
 f7:=⟨Tryz.f272.name,by decide,Tryz.func272.trans (congrArg some (by kernel_rfl))⟩
 t3:=Tryz.underlying3
 a3:=Tryz.isAgg3
 z3:=Tryz.sizeOf3
 v3:=Tryz.zeroValue3
 t4:=Tryz.underlying4
 a4:=Tryz.isAgg4
 z4:=Tryz.sizeOf4
 v4:=Tryz.zeroValue4
 t22:=Tryz.underlying2
 a22:=Tryz.isAgg2
 z22:=Tryz.sizeOf2
 v22:=Tryz.zeroValue2 }
end
section
open Go.Shelf Go.RowKit aQ bN bO
theorem Ul (x y:Int)(w:World):Calls Tryz.prog 255 #[.int .i64 x,.int .i64 y] w fun e w'=>e=.returned (.int .i64 (Lib.compareInt x y))∧w'=w:=AnyG.cmp_Compare_int Tryz.cmpI64 x y w
def O9 (l:List Int):Int:=(l.find? (· != 0)).getD 0
theorem T9 (g:Nat)(r0 r1:Int)(w:World)(h:aO w g 3 #[.int .i64 r0,.int .i64 r1]) :
 Calls Tryz.prog 241 #[.slice (some ⟨g,0,none⟩) 2 2] w fun e w'=>e=.returned (.int .i64 (O9 [r0,r1]))∧w'=w:=by
 have HB:=ak h
 clear h
 obtain ⟨c0,c1⟩:=HB.out.kS rfl
 go_enter Tryz.func241,Tryz.ntmps241
 go_wp2
 go_loopw [8] (fun i wr=>∃ k:Nat,k≤2∧i=.int .i64 k∧wr=w∧Hid (∀ j,j<k→[r0,r1].getD j 0=0)) (fun i _=>2-(intOf i).toNat)
 case atStart=>exact ⟨0,by omega,rfl,rfl,ak fun j h=>absurd h (gZ _)⟩
 case round=>
  obtain ⟨k,hk,rfl,rfl,HZ⟩:=hrel
  by_cases hk4:k=2
  ·subst hk4
   have HE:=ak (show O9 [r0,r1]=0 from by
    have e0:=HZ.out 0 (by omega);have e1:=HZ.out 1 (by omega)
    simp at e0 e1;subst e0 e1;rfl)
   go_wp2
   go_ret
   exact ⟨by rw [HE.out];rfl,rfl⟩
  ·obtain ⟨r,hr⟩:∃ r,[r0,r1].getD k 0=r:=⟨_,rfl⟩
   have hc:wr.cell? ⟨g,k,none⟩=some (.int .i64 r):=by
    have:k=0∨k=1:=by omega
    rcases this with rfl | rfl <;> (subst hr;assumption)
   have HRk:=ak hr
   have hi0:(0:Int)≤(k:Int):=eu _
   have hi1:(k:Int)<2:=by omega
   have hd:decide ((k:Int)<2)=true:=eD hi1
   clear hr c0 c1
   by_cases h0:r=0
   ·subst h0
    have HZ2:=ak (show ∀ j,j<k+1→[r0,r1].getD j 0=0 from fun j hj=>by
     by_cases e:j=k
     ·rw [e];exact HRk.out
     ·exact HZ.out j (by omega))
    go_wp2
    go_roundw
    case rel=>exact ⟨k+1,by omega,by go_num,by first | rfl | trivial,HZ2⟩
    case measure=>simp [intOf];omega
   ·have HE:=ak (show O9 [r0,r1]=r from by
     have hr:=HRk.out
     have hz:=HZ.out
     have:k=0∨k=1:=by omega
     rcases this with rfl | rfl
     ·simp at hr;subst hr;simp [O9,h0]
     ·have e0:=hz 0 (by omega);simp at e0 hr;subst hr;simp [O9,h0,e0])
    have h0':(r==0)=false:=by simpa using h0
    go_wp2
    go_ret
    exact ⟨by rw [HE.out];rfl,rfl⟩
def jT (a0 a1 b0 b1:Int):Int:=O9 [Lib.compareInt a0 b0,Lib.compareInt a1 b1]
theorem zV (a0 a1 b0 b1:Int)(W:World) :
 Calls Tryz.prog 230 #[.agg #[.int .i64 a0,.int .i64 a1],.agg #[.int .i64 b0,.int .i64 b1]] W
  fun e w'=>e=.returned (.int .i64 (jT a0 a1 b0 b1))∧w'=(((W.alloc (.cells #[.int .i64 a0,.int .i64 a1] 49)).alloc (.cells #[.int .i64 b0,.int .i64 b1] 49)).drew.alloc (.cells #[.int .i64 (Lib.compareInt a0 b0),.int .i64 (Lib.compareInt a1 b1)] 3)):=by
 obtain ⟨V0,xw⟩:∃ V0,V0=((W.alloc (.cells #[.int .i64 a0,.int .i64 a1] 49)).alloc (.cells #[.int .i64 b0,.int .i64 b1] 49)):=⟨_,rfl⟩
 have BA:=ak (show aO V0 W.heap.size 49 #[.int .i64 a0,.int .i64 a1] from by rw [xw];exact (aO.new W _ _).alloc _)
 have BB:=ak (show aO V0 (W.heap.size+1) 49 #[.int .i64 b0,.int .i64 b1] from by
  have h9:=aO.new (W.alloc (.cells #[.int .i64 a0,.int .i64 a1] 49)) 49 #[.int .i64 b0,.int .i64 b1]
  simp only [World.size_alloc] at h9
  rw [xw];exact h9)
 have Dn:=ak (aO.new V0.drew 3 #[.int .i64 (Lib.compareInt a0 b0),.int .i64 (Lib.compareInt a1 b1)])
 rw [←xw]
 go_enter Tryz.func230,Tryz.ntmps230
 go_wp2_with fail
 rw [←xw]
 clear xw
 refine dX (S:=(fun V=>Below (V0).heap.size (V0) V)) (by kernel_rfl) ((aW _ _).drew) (fun ah=>?_)
 refine tk 0 ah ?_
 refine tk 1 ah ?_ (hy:=fun w aj=>by (try dsimp only at aj);have k0:=BA.out.hat aj 0 rfl;clear aj;go_simp;try with_reducible rfl)
 refine tk 2 ah ?_
 refine tk 3 ah ?_ (hy:=fun w aj=>by (try dsimp only at aj);have k0:=BB.out.hat aj 0 rfl;clear aj;go_simp;try with_reducible rfl)
 refine tk 5 ah ?_
 refine tk 6 ah ?_ (hy:=fun w aj=>by (try dsimp only at aj);have k0:=BA.out.hat aj 1 rfl;clear aj;go_simp;try with_reducible rfl)
 refine tk 7 ah ?_
 refine tk 8 ah ?_ (hy:=fun w aj=>by (try dsimp only at aj);have k0:=BB.out.hat aj 1 rfl;clear aj;go_simp;try with_reducible rfl)
 refine dw 4 (fun K hK=>?_)
 go_simp
 go_at_call 255
 refine (Ul _ _ _).mono ?_
 rintro e w1 ⟨rfl,rfl⟩
 have hb:=aW V0.drew.heap.size V0.drew
 refine hK.out _ _ (ah.trans (hb.mono ah.size)) (fun ah=>?_)
 clear hK K hb
 refine dw 9 (fun K hK=>?_)
 go_simp
 go_at_call 255
 refine (Ul _ _ _).mono ?_
 rintro e w1 ⟨rfl,rfl⟩
 have hb:=aW V0.drew.heap.size V0.drew
 refine hK.out _ _ (ah.trans (hb.mono ah.size)) (fun ah=>?_)
 clear hK K hb
 refine dw 10 (fun K hK=>?_)
 go_simp
 have hb:=(aW V0.drew.heap.size V0.drew).alloc (bK _) (.cells #[.int .i64 (Lib.compareInt a0 b0),.int .i64 (Lib.compareInt a1 b1)] 3)
 refine hK.out _ _ (ah.trans (hb.mono ah.size)) (fun ah=>?_)
 clear hK K hb
 refine dw 11 (fun K hK=>?_)
 go_simp
 go_at_call 241
 refine (T9 _ _ _ _ Dn.out).mono ?_
 rintro e w1 ⟨rfl,rfl⟩
 have hb:=aW (V0.drew.alloc (.cells #[.int .i64 (Lib.compareInt a0 b0),.int .i64 (Lib.compareInt a1 b1)] 3)).heap.size (V0.drew.alloc (.cells #[.int .i64 (Lib.compareInt a0 b0),.int .i64 (Lib.compareInt a1 b1)] 3))
 refine hK.out _ _ (ah.trans (hb.mono ah.size)) (fun ah=>?_)
 clear hK K hb
 refine tk 12 ah ?_
 refine dQ ?_
 have HF:=ak ah
 clear ah
 go_wp2
 go_ret
 exact ⟨rfl,rfl⟩
theorem EH (a b:Int):(Lib.compareInt a b=-1∧a<b)∨(Lib.compareInt a b=0∧a=b)∨(Lib.compareInt a b=1∧b<a):=by
 unfold Lib.compareInt
 by_cases h1:a<b
 ·left;exact ⟨by simp [h1],h1⟩
 ·by_cases h2:b<a
  ·right;right;exact ⟨by simp [h1,h2],h2⟩
  ·right;left;exact ⟨by simp [h1,h2],by omega⟩
end
section
open Go.Shelf Go.RowKit aQ Go.Lib Go.Sort
theorem adJ (V:World)(o1 o2 o3:Obj):(((V.alloc o1).alloc o2).drew).alloc o3=grow (V.drewN 1) #[o1,o2,o3]:=by
 simp only [alloc_eq_grow]
 show grow (grow (grow (V.drewN 1) #[o1]) #[o2]) #[o3]=_
 rw [grow_grow,grow_grow]
 rfl
end
section
open Go.Shelf
def Tryz.sortLab_ren:Go.Shelf.Ren:=⟨fun | 6=>253 | 15=>271 | 14=>270 | 28=>287 | 29=>275 | 20=>279 | 21=>280 | 22=>281 | 23=>282 | 24=>283 | 25=>284 | 26=>285 | 27=>286 | 46=>290 | 47=>291 | 48=>292 | 49=>293 | 50=>294 | 57=>295 | n=>n,fun | 22=>155 | 24=>49 | 25=>250 | 3=>3 | 39=>294 | 0=>0 | 53=>298 | 55=>287 | 4=>4 | 46=>303 | 45=>302 | 50=>252 | 5=>5 | 9=>9 | 66=>309 | 70=>313 | 76=>317 | 77=>318 | n=>n,fun | n=>n⟩
theorem Tryz.sortLab:Go.Proofs.SlLaysF0.n6 Tryz.prog Tryz.sortLab_ren:={
 mixed:=by kernel_rfl
 f6:=⟨Tryz.f253.name,by decide,Tryz.func253.trans (congrArg some (by kernel_rfl))⟩
 f14:=⟨Tryz.f270.name,by decide,Tryz.func270.trans (congrArg some (by kernel_rfl))⟩
 f15:=Tryz.func271.trans (congrArg some (by kernel_rfl))
 f20:=⟨Tryz.f279.name,by decide,Tryz.func279.trans (congrArg some (by kernel_rfl))⟩
 f21:=⟨Tryz.f280.name,by decide,Tryz.func280.trans (congrArg some (by kernel_rfl))⟩
 f22:=⟨Tryz.f281.name,by decide,Tryz.func281.trans (congrArg some (by kernel_rfl))⟩
 f23:=⟨Tryz.f282.name,by decide,Tryz.func282.trans (congrArg some (by kernel_rfl))⟩
 f24:=⟨Tryz.f283.name,by decide,Tryz.func283.trans (congrArg some (by kernel_rfl))⟩
 f25:=⟨Tryz.f284.name,by decide,Tryz.func284.trans (congrArg some (by kernel_rfl))⟩
 f26:=⟨Tryz.f285.name,by decide,Tryz.func285.trans (congrArg some (by kernel_rfl))⟩
 f27:=⟨Tryz.f286.name,by decide,Tryz.func286.trans (congrArg some (by kernel_rfl))⟩
 f28:=Tryz.func287.trans (congrArg some (by kernel_rfl))
 f29:=Tryz.func275.trans (congrArg some (by kernel_rfl))
 f46:=⟨Tryz.f290.name,by decide,Tryz.func290.trans (congrArg some (by kernel_rfl))⟩
 f47:=Tryz.func291.trans (congrArg some (by kernel_rfl))
 f48:=Tryz.func292.trans (congrArg some (by kernel_rfl))
 f49:=⟨Tryz.f293.name,by decide,Tryz.func293.trans (congrArg some (by kernel_rfl))⟩
 f50:=⟨Tryz.f294.name,by decide,Tryz.func294.trans (congrArg some (by kernel_rfl))⟩
 f57:=⟨Tryz.f295.name,by decide,Tryz.func295.trans (congrArg some (by kernel_rfl))⟩
 t0:=Tryz.underlying0
 a0:=Tryz.isAgg0
 z0:=Tryz.sizeOf0
 v0:=Tryz.zeroValue0
 t3:=Tryz.underlying3
 a3:=Tryz.isAgg3
 z3:=Tryz.sizeOf3
 v3:=Tryz.zeroValue3
 t4:=Tryz.underlying4
 a4:=Tryz.isAgg4
 z4:=Tryz.sizeOf4
 v4:=Tryz.zeroValue4
 t5:=Tryz.underlying5
 a5:=Tryz.isAgg5
 z5:=Tryz.sizeOf5
 v5:=Tryz.zeroValue5
 t9:=Tryz.underlying9
 a9:=Tryz.isAgg9
 z9:=Tryz.sizeOf9
 v9:=Tryz.zeroValue9
 t22:=Tryz.underlying155
 a22:=Tryz.isAgg155
 z22:=Tryz.sizeOf155
 v22:=Tryz.zeroValue155
 t25:=Tryz.underlying250
 a25:=Tryz.isAgg250
 z25:=Tryz.sizeOf250
 v25:=Tryz.zeroValue250
 t39:=Tryz.underlying294
 a39:=Tryz.isAgg294
 z39:=Tryz.sizeOf294
 v39:=Tryz.zeroValue294
 t45:=Tryz.underlying302
 a45:=Tryz.isAgg302
 z45:=Tryz.sizeOf302
 v45:=Tryz.zeroValue302
 t46:=Tryz.underlying303
 a46:=Tryz.isAgg303
 z46:=Tryz.sizeOf303
 v46:=Tryz.zeroValue303
 t50:=Tryz.underlying252
 a50:=Tryz.isAgg252
 z50:=Tryz.sizeOf252
 v50:=Tryz.zeroValue252
 t53:=Tryz.underlying298
 a53:=Tryz.isAgg298
 z53:=Tryz.sizeOf298
 v53:=Tryz.zeroValue298
 t55:=Tryz.underlying287
 a55:=Tryz.isAgg287
 z55:=Tryz.sizeOf287
 v55:=Tryz.zeroValue287
 t66:=Tryz.underlying309
 a66:=Tryz.isAgg309
 z66:=Tryz.sizeOf309
 v66:=Tryz.zeroValue309
 t70:=Tryz.underlying313
 a70:=Tryz.isAgg313
 z70:=Tryz.sizeOf313
 v70:=Tryz.zeroValue313
 t76:=Tryz.underlying317
 a76:=Tryz.isAgg317
 z76:=Tryz.sizeOf317
 v76:=Tryz.zeroValue317
 t77:=Tryz.underlying318
 a77:=Tryz.isAgg318
 z77:=Tryz.sizeOf318
 v77:=Tryz.zeroValue318 }
end
section
open Go.Shelf Go.RowKit aQ Go.Lib Go.Sort
abbrev LC:=Int×Int
def uO (x:LC):List Value:=[.int .i64 x.1,.int .i64 x.2]
def cfL (x y:LC):Int:=jT x.1 x.2 y.1 y.2
theorem ltL (x y:LC):ltOf cfL x y=true↔(x.1<y.1∨x.1=y.1∧x.2<y.2):=by
 unfold ltOf cfL jT O9
 rcases EH x.1 y.1 with ⟨e1,h1⟩ | ⟨e1,h1⟩ | ⟨e1,h1⟩ <;> rcases EH x.2 y.2 with ⟨e2,h2⟩ | ⟨e2,h2⟩ | ⟨e2,h2⟩ <;> rw [e1,e2] <;> simp <;> omega
theorem OU (a0 a1 b0 b1:Int):0≤jT a0 a1 b0 b1↔¬(a0<b0∨a0=b0∧a1<b1):=by
 unfold jT O9
 rcases EH a0 b0 with ⟨e1,h1⟩ | ⟨e1,h1⟩ | ⟨e1,h1⟩ <;> rcases EH a1 b1 with ⟨e2,h2⟩ | ⟨e2,h2⟩ | ⟨e2,h2⟩ <;> rw [e1,e2] <;> simp <;> omega
theorem swoL:SWO (ltOf cfL) where
 irrefl x:=by
  rw [Bool.eq_false_iff];intro h;rw [ltL] at h;omega
 trans x y z h1 h2:=by rw [ltL] at *;omega
 ntrans x y z h1 h2:=by rw [Bool.eq_false_iff,ne_eq,ltL] at *;omega
theorem WW (blk off size:Nat)(w:World):CmpLays Tryz.prog 230 #[] uO 2 cfL blk off size w:=fun m os dk _ x y=>
 (zV x.1 x.2 y.1 y.2 _).mono fun _ _ ⟨he,hw⟩=>⟨he,1,_,hw.trans (adJ _ _ _ _)⟩
theorem QJ (blk off cap:Nat)(d:Array LC)(w:World)(hH:HoldsK uO 2 w blk off d)(hblk:blk<w.heap.size)(hsz:d.size<4611686018427387904) :
 Calls Tryz.prog 253 #[.slice (some ⟨blk,off,none⟩) d.size cap,.func (.func 230) #[] #[]] w fun e w'=>e=.returned (.tuple #[])∧∃ d' n os,PermIn 0 d.size d d'∧SortedIn (ltOf cfL) 0 d.size d'∧w'=sortWorldK uO 2 w blk off n d' os:=by
 have eg:∀ args w,(callFunc 230 args).run Tryz.prog w=.ok (.enter 230 args) w:=enters_of Tryz.func230 (by kernel_rfl) rfl
 exact AnyQ.slices_SortFunc Tryz.sortLab 2 Tryz.isAgg49 Tryz.sizeOf49 uO (fun _=>rfl) (fun x v hv=>by simp [uO] at hv;rcases hv with rfl | rfl <;> rfl) cfL swoL 230 #[] blk off cap d w eg (WW blk off d.size w) hH hblk hsz
end
end gB
namespace aQ
section
open Go.RowKit bN bO bJ bQ Go.Sort Go.Lib
def Rw (W:World)(g:Nat)(d:Array (Int×Int)):Prop:=∀ j,j<d.size→W.cell? ⟨g,j*2,none⟩=some (.int .i64 d[j]!.1)∧W.cell? ⟨g,j*2+1,none⟩=some (.int .i64 d[j]!.2)
def Sf (W:World)(g:Nat):Prop:=∀ j,W.frozen? ⟨g,j,none⟩=false
theorem Rw.below {W W':World}{g:Nat}{d:Array (Int×Int)}(h:Rw W g d)(hg:g<W.heap.size)(hb:RowKit.Below W.heap.size W W'):Rw W' g d:=fun j hj=>⟨(hb.cell (p:=⟨g,_,none⟩) hg).trans (h j hj).1,(hb.cell (p:=⟨g,_,none⟩) hg).trans (h j hj).2⟩
theorem Sf.below {W W':World}{g:Nat}(h:Sf W g)(hg:g<W.heap.size)(hb:RowKit.Below W.heap.size W W'):Sf W' g:=fun j=>(hb.frozen (p:=⟨g,j,none⟩) hg).trans (h j)
theorem Rw.set {W:World}{g i:Nat}{d:Array (Int×Int)}(h:Rw W g d)(hi:i<d.size)(x0 x1:Int):Rw ((W.setCell ⟨g,i*2,none⟩ (.int .i64 x0)).setCell ⟨g,i*2+1,none⟩ (.int .i64 x1)) g (d.setIfInBounds i (x0,x1)):=fun j hj=>by
 have hj':j<d.size:=by simpa using hj
 by_cases e:j=i
 ·subst e
  rw [getElem!_set_same d j _ hi]
  refine ⟨?_,?_⟩
  ·rw [World.cell?_setCell_other _ _ _ _ (fun e=>by injection e with _ e2;omega)]
   exact World.cell?_setCell_same' _ _ _ (by rw [(h j hi).1];rfl)
  ·exact World.cell?_setCell_same' _ _ _ (by rw [World.cell?_setCell_other _ _ _ _ (fun e=>by injection e with _ e2;omega),(h j hi).2];rfl)
 ·rw [getElem!_set_other d i j _ e]
  refine ⟨?_,?_⟩
  ·rw [World.cell?_setCell_other _ _ _ _ (fun e=>by injection e with _ e2;omega),World.cell?_setCell_other _ _ _ _ (fun e=>by injection e with _ e2;omega)];exact (h j hj').1
  ·rw [World.cell?_setCell_other _ _ _ _ (fun e=>by injection e with _ e2;omega),World.cell?_setCell_other _ _ _ _ (fun e=>by injection e with _ e2;omega)];exact (h j hj').2
theorem Sf.set {W:World}{g i:Nat}(h:Sf W g)(u:Value):Sf (W.setCell ⟨g,i,none⟩ u) g:=fun j=>by simpa using h j
theorem V4 {g n:Nat}{d':Array (Int×Int)}{os:Array Obj}{w:World}:Off (fun k=>k=g) w (Go.Proofs.sortWorldK gB.uO 2 w g 0 n d' os):=by
 unfold Go.Proofs.sortWorldK Go.Sort.putRowK
 refine ⟨rfl,rfl,rfl,by simp,fun k hk hkg=>?_⟩
 rw [heap_grow_old _ _ (by simpa using hk)]
 show (Array.modify _ _ _)[k]? = _
 rw [Array.getElem?_modify,if_neg (fun e=>hkg e.symm)]
 rfl
theorem VN {W:World}{g:Nat}{d:Array (Int×Int)}(h:HoldsK gB.uO 2 W g 0 d):Rw W g d:=fun j hj=>by
 have h0:=(h.cell (i:=j) (c:=0) hj (by omega)).1
 have h1:=(h.cell (i:=j) (c:=1) hj (by omega)).1
 simp only [Nat.zero_add,Nat.add_zero] at h0 h1
 exact ⟨h0,h1⟩
theorem Io {W:World}{g:Nat}{d:Array (Int×Int)}(h:Rw W g d)(hf:Sf W g):HoldsK gB.uO 2 W g 0 d:=fun t ht=>by
 have ht':t<d.size*2:=by simpa using ht
 rw [get_flatK _ _ _ _ ht',Nat.zero_add]
 refine ⟨?_,hf t⟩
 obtain ⟨h0,h1⟩:=h (t / 2) (by omega)
 rcases Nat.mod_two_eq_zero_or_one t with e | e
 ·rw [e,show t=t / 2*2 by omega]
  rw [show (t / 2*2) / 2=t / 2 by omega]
  exact h0
 ·rw [e,show t=t / 2*2+1 by omega]
  rw [show (t / 2*2+1) / 2=t / 2 by omega]
  exact h1
def SrtR (L:List (Int×Int))(w:World)(e:Ending)(w':World):Prop:=∃ g c d,e=.returned (.slice (some ⟨g,0,none⟩) d.size c)∧d.size≤c∧c≤maxLen∧w.heap.size≤g∧g<w'.heap.size∧Rw w' g d∧Sf w' g∧d.size=L.length∧(∀ a,(∃ j,j<d.size∧d[j]! = a)↔a∈L)∧(∀ i j,i<j→j<d.size→¬(d[j]!.1<d[i]!.1∨d[j]!.1=d[i]!.1∧d[j]!.2<d[i]!.2))∧RowKit.Below w.heap.size w w'
theorem QI {L:List (Int×Int)}{w:World}{e:Ending}{w':World}(h:SrtR L w e w'):∃ g c d,e=.returned (.slice (some ⟨g,0,none⟩) d.size c)∧d.size≤c∧c≤maxLen∧w.heap.size≤g∧g<w'.heap.size∧Rw w' g d∧Sf w' g∧d.size=L.length∧(∀ a,(∃ j,j<d.size∧d[j]! = a)↔a∈L)∧(∀ i j,i<j→j<d.size→¬(d[j]!.1<d[i]!.1∨d[j]!.1=d[i]!.1∧d[j]!.2<d[i]!.2))∧RowKit.Below w.heap.size w w':=h
theorem aao (d:Array (Int×Int))(a:Int×Int):(∃ j,j<d.size∧d[j]! = a)↔a∈d.toList:=by
 rw [Array.mem_toList_iff,Array.mem_iff_getElem]
 constructor
 ·rintro ⟨j,hj,e⟩;exact ⟨j,hj,by rw [←e,getElem!_pos d j hj]⟩
 ·rintro ⟨j,hj,e⟩;exact ⟨j,hj,by rw [←e,getElem!_pos d j hj]⟩
theorem Cc {L:List ay}{a:Option Addr}{cap:Nat}{W:World}(hn:L.length≤1048576)(hne:0<L.length)(h:aJ av W W.heap.size L a cap) :
 Calls Tryz.prog 249 #[.slice a L.length cap] W (jU av L W):=by
 have qT:∀ (w:World) (a:Option Addr) (n c n' c':Nat),(binOp .eql 155 (.slice a n c) (.slice none n' c')).run Tryz.prog w=.ok (.bool a.isNone) w:=fun w a n c n' c'=>Lib.run_eql_slice_nil w _ _ a n c n' c' Tryz.underlying155
 obtain ⟨g,o,rfl,_⟩:=h.2.2 hne
 obtain ⟨iL,JM,sN,hsL,hbL⟩:=Bb
 obtain ⟨a',c',w5,hr,hos,hb⟩:=qZ (P:=Tryz.prog) (ty:=155) au mV Tryz.underlying155 JM sN hsL hbL rfl (by decide) (by unfold maxLen;omega) (by omega) h
 clear JM sN hsL hbL
 have HR:=ak hr
 have HO:=ak hos
 have HB:=ak hb
 clear hr hos hb h
 go_enter Tryz.func249,Tryz.ntmps249
 go_wp2_with (at_builtin;refine dZ rfl (.tmp 5) (.tmp 6) 155 rfl rfl rfl HR.out ?_)
 go_ret
 exact ⟨a',c',rfl,HO.out,HB.out⟩
theorem I6 {L:List ay}{a:Option Addr}{cap:Nat}{W:World}(hn:L.length≤1048576)(hne:0<L.length)(h:aJ av W W.heap.size L a cap) :
 Calls Tryz.prog 228 #[.slice a L.length cap,.func (.func 230) #[] #[]] W (SrtR L W):=by
 have HLen:=ak (And.intro hn hne)
 go_enter Tryz.func228,Tryz.ntmps228
 go_wp2_with fail
 refine (Cc hn hne h).mono ?_
 intro e w1 h1
 obtain ⟨a1,c1,rfl,ho,hb⟩:=bL h1
 obtain ⟨hc1,hc2,hrow⟩:=ho
 obtain ⟨g,Sg,rfl,XG,hfr,hsub,_,hel⟩:=hrow hne
 have HRw:=ak (show Rw w1 g L.toArray from fun j hj=>by
  have hj':j<L.length:=by simpa using hj
  obtain ⟨x,hx⟩:=aM hj'
  obtain ⟨us,hu,hr⟩:=hel j x hx
  obtain ⟨x0,x1⟩:=x
  obtain rfl:=gF (au.qA hr (B:=w1.heap.size) (fun k hk=>(hsub j k hk).1.2))
  have e:L.toArray[j]! = (x0,x1):=by simp [List.getElem!_eq_getElem?_getD,hx]
  rw [e]
  exact ⟨by simpa [show av.size=2 from rfl] using hu 0 _ rfl,by simpa [show av.size=2 from rfl] using hu 1 _ rfl⟩)
 have HSf:=ak (show Sf w1 g from hfr)
 have HB:=ak hb
 have hg1:W.heap.size≤g:=XG.1
 have hg2:g<w1.heap.size:=XG.2
 have HC:=ak (And.intro hc1 hc2)
 clear h h1 hb hc1 hc2 hrow XG hfr hsub hel
 go_wp2_with fail
 have hs:=gB.QJ g 0 c1 L.toArray w1 (Io HRw.out HSf.out) hg2 (by have:=HLen.out.1;simp;omega)
 simp only [List.size_toArray] at hs
 refine hs.mono ?_
 rintro e w2 ⟨rfl,d',n,os,hp,hso,rfl⟩
 have hoff:=V4 (g:=g) (n:=n) (d':=d') (os:=os) (w:=w1)
 have hds:d'.size=L.length:=by simpa using hp.1
 have hH2:HoldsK gB.uO 2 (Go.Proofs.sortWorldK gB.uO 2 w1 g 0 n d' os) g 0 d':=by
  unfold Go.Proofs.sortWorldK
  exact holdsK_grow gB.uO 2 _ _ g 0 d' (by simpa [Go.Sort.putRowK] using hg2) (holdsK_putRowK gB.uO 2 _ g 0 L.toArray d' (holdsK_ahead gB.uO 2 w1 n g 0 L.toArray (Io HRw.out HSf.out)) (by simpa using hds))
 have HR2:=ak (VN hH2)
 have HS2:=ak (show Sf (Go.Proofs.sortWorldK gB.uO 2 w1 g 0 n d' os) g from fun j=>by
  have:=HSf.out j
  unfold Go.Proofs.sortWorldK
  rw [frozen?_grow _ _ _ (by simpa [Go.Sort.putRowK] using hg2)]
  unfold Go.Sort.putRowK
  rw [frozen?_putRow]
  exact this)
 have HMem:=ak (show ∀ a,(∃ j,j<d'.size∧d'[j]! = a)↔a∈L from fun a=>by
  rw [aao]
  have h3:=hp.2.2
  have e1:d'.extract 0 L.toArray.size=d':=by rw [←hp.1];simp
  have e2:L.toArray.extract 0 L.toArray.size=L.toArray:=by simp
  rw [List.size_toArray] at e1 e2
  rw [e1,e2] at h3
  simpa using h3.mem_iff (a:=a))
 have HSo:=ak (show ∀ i j,i<j→j<d'.size→¬(d'[j]!.1<d'[i]!.1∨d'[j]!.1=d'[i]!.1∧d'[j]!.2<d'[i]!.2) from fun i j hij hj hlt=>by
  have:=hso i j (dV _) hij (by simpa [hds] using hj)
  rw [(gB.ltL _ _).2 hlt] at this
  cases this)
 have HB2:=ak (HB.out.trans (hoff.below HB.out.size (fun k hk=>by rw [hk];exact hg1)))
 have hz:=hoff.size
 obtain ⟨w2,hw2⟩:∃ w,w=Go.Proofs.sortWorldK gB.uO 2 w1 g 0 n d' os:=⟨_,rfl⟩
 rw [←hw2] at HR2 HS2 HB2 hz ⊢
 clear hs hp hso hH2 hoff hw2
 go_wp2
 go_ret
 exact ⟨g,c1,d',by rw [hds];rfl,by rw [hds];exact HC.out.1,HC.out.2,hg1,by omega,HR2.out,HS2.out,hds,HMem.out,HSo.out,HB2.out⟩
end
section
open Go.RowKit bN bO bJ bQ
theorem aau (l s:Int){b:Bool}(hb:dH.rB l s=b)(w:World):Calls Tryz.prog 196 #[.agg #[.int .i64 l,.int .i64 s]] w fun e w'=>e=.returned (.bool b)∧Below w.heap.size w w':=by
 subst hb;exact dH.ri_w l s w
theorem GI (l s m t:Int){b:Bool}(hb:dH.iV l s m t=b)(w:World):Calls Tryz.prog 231 #[.agg #[.int .i64 l,.int .i64 s],.agg #[.int .i64 m,.int .i64 t]] w fun e w'=>e=.returned (.bool b)∧Below w.heap.size w w':=by
 subst hb;exact dH.Ch l s m t w
def IxR (p:Prop)(w:World)(e:Ending)(w':World):Prop:=∃ i:Int,e=.returned (.int .i64 i)∧(0≤i↔p)∧Below w.heap.size w w'
theorem Wx {p:Prop}{w:World}{e:Ending}{w':World}(h:IxR p w e w'):∃ i:Int,e=.returned (.int .i64 i)∧(0≤i↔p)∧Below w.heap.size w w':=h
theorem Rv {L:List ay}{a:Option Addr}{cap:Nat}{l s:Int}{W:World}(h:aJ av W W.heap.size L a cap) :
 Calls Tryz.prog 247 #[.slice a L.length cap,.agg #[.int .i64 l,.int .i64 s]] W (IxR ((l,s)∈L) W):=by
 have hn:L.length≤9223372036854775807:=by have h1:=h.1;have h2:=h.2.1;unfold maxLen at h2;omega
 have H:=ak h
 clear h
 have HB0:=ak (show Below W.heap.size W (W.alloc (.cells #[.int .i64 l,.int .i64 s] 49)) from (aW _ _).alloc (bK _) _)
 have gY:=ak (aO.new W 49 #[.int .i64 l,.int .i64 s])
 go_enter Tryz.func247,Tryz.ntmps247
 go_wp2
 go_loopw [8] (fun i wr=>∃ k:Nat,k≤L.length∧i=.int .i64 k∧Hid ((l,s) ∉ L.take k)∧Below W.heap.size W wr∧Hid (aO wr W.heap.size 49 #[.int .i64 l,.int .i64 s])) (fun i _=>L.length-(intOf i).toNat)
 case atStart=>exact ⟨0,dV _,rfl,ak (by simp),HB0.out,gY⟩
 case round=>
  obtain ⟨k,hk,rfl,HA,hB,HP⟩:=hrel
  have HB:=ak hB
  have hsz:=hB.size
  by_cases hlt:k<L.length
  ·obtain ⟨⟨x0,x1⟩,hx⟩:=aM hlt
   have HX:=ak hx
   obtain ⟨g,o,us,rfl,hg,hu,hr⟩:=(H.out.below au hB).at_ hx
   obtain rfl:=gF hr
   obtain ⟨e0,e1⟩:=ny (a:=o+k*2) hu rfl
   have hgl:g<wr.heap.size:=bV hg hsz
   have hi0:(0:Int)≤(k:Int):=eu _
   have hi1:(k:Int)<(L.length:Int):=by omega
   obtain ⟨hq0,hq1⟩:=HP.out.kS rfl
   have hpl:=HP.out.lt
   clear hB hx hu hr
   cases c1:(l==x0) with
   | false=>
    have HC:=ak (show (l,s) ∉ L.take (k+1) from by rw [List.take_add_one,HX.out];simp at c1 ⊢;exact ⟨HA.out,fun e=>absurd e c1⟩)
    go_wp2_with fail
    refine dX (S:=(fun V=>Below (wr).heap.size (wr) V)) (by kernel_rfl) ((aW _ _).drew) (fun ah=>?_)
    refine tk 0 ah ?_ (hy:=fun w aj=>by (try dsimp only at aj);have k0:=(aj.cell (p:=⟨W.heap.size,0,none⟩) hpl).trans hq0;have k1:=(aj.cell (p:=⟨W.heap.size,1,none⟩) hpl).trans hq1;clear aj;go_simp;try with_reducible rfl)
    refine tk 1 ah ?_
    refine tk 2 ah ?_
    refine tk 3 ah ?_
    refine tk 4 ah ?_ (hy:=fun w aj=>by (try dsimp only at aj);have k0:=(aj.cell (p:=⟨g,o+k*2,none⟩) hgl).trans e0;have k1:=(aj.cell (p:=⟨g,o+k*2+1,none⟩) hgl).trans e1;clear aj;go_simp;try with_reducible rfl)
    refine tk 5 ah ?_
    refine dQ ?_
    have HF:=ak ah
    clear ah
    have HB3:=ak (HB.out.trans (HF.out.mono hsz))
    have iG:=ak (HP.out.call HF.out)
    clear HF
    go_wp2
    go_roundw
    case rel=>exact ⟨k+1,by omega,by go_num,HC,HB3.out,iG⟩
    case measure=>simp [intOf];omega
   | true=>
    cases c2:(s==x1) with
    | false=>
     have HC:=ak (show (l,s) ∉ L.take (k+1) from by rw [List.take_add_one,HX.out];simp at c2 ⊢;exact ⟨HA.out,fun _ e=>absurd e c2⟩)
     go_wp2_with fail
     refine dX (S:=(fun V=>Below (wr).heap.size (wr) V)) (by kernel_rfl) ((aW _ _).drew) (fun ah=>?_)
     refine tk 0 ah ?_ (hy:=fun w aj=>by (try dsimp only at aj);have k0:=(aj.cell (p:=⟨W.heap.size,0,none⟩) hpl).trans hq0;have k1:=(aj.cell (p:=⟨W.heap.size,1,none⟩) hpl).trans hq1;clear aj;go_simp;try with_reducible rfl)
     refine tk 1 ah ?_
     refine tk 2 ah ?_
     refine tk 3 ah ?_
     refine tk 4 ah ?_ (hy:=fun w aj=>by (try dsimp only at aj);have k0:=(aj.cell (p:=⟨g,o+k*2,none⟩) hgl).trans e0;have k1:=(aj.cell (p:=⟨g,o+k*2+1,none⟩) hgl).trans e1;clear aj;go_simp;try with_reducible rfl)
     refine tk 5 ah ?_
     refine dQ ?_
     have HF:=ak ah
     clear ah
     have HB3:=ak (HB.out.trans (HF.out.mono hsz))
     have iG:=ak (HP.out.call HF.out)
     clear HF
     go_wp2
     go_roundw
     case rel=>exact ⟨k+1,by omega,by go_num,HC,HB3.out,iG⟩
     case measure=>simp [intOf];omega
    | true=>
     have HY:=ak (show (l,s)∈L from by rw [beq_iff_eq] at c1 c2;subst c1 c2;exact List.mem_of_getElem? HX.out)
     go_wp2_with fail
     refine dX (S:=(fun V=>Below (wr).heap.size (wr) V)) (by kernel_rfl) ((aW _ _).drew) (fun ah=>?_)
     refine tk 0 ah ?_ (hy:=fun w aj=>by (try dsimp only at aj);have k0:=(aj.cell (p:=⟨W.heap.size,0,none⟩) hpl).trans hq0;have k1:=(aj.cell (p:=⟨W.heap.size,1,none⟩) hpl).trans hq1;clear aj;go_simp;try with_reducible rfl)
     refine tk 1 ah ?_
     refine tk 2 ah ?_
     refine tk 3 ah ?_
     refine tk 4 ah ?_ (hy:=fun w aj=>by (try dsimp only at aj);have k0:=(aj.cell (p:=⟨g,o+k*2,none⟩) hgl).trans e0;have k1:=(aj.cell (p:=⟨g,o+k*2+1,none⟩) hgl).trans e1;clear aj;go_simp;try with_reducible rfl)
     refine tk 5 ah ?_
     refine dQ ?_
     have HF:=ak ah
     clear ah
     have HB3:=ak (HB.out.trans (HF.out.mono hsz))
     clear HF
     go_wp2
     go_ret
     exact ⟨_,rfl,⟨fun _=>HY.out,fun _=>hi0⟩,HB3.out⟩
  ·have HN:=ak (show (l,s) ∉ L from by have h:=HA.out;rw [List.take_of_length_le (by omega)] at h;exact h)
   have hd:decide ((k:Int)<(L.length:Int))=false:=dS (by omega)
   clear hB
   go_wp2
   go_ret
   exact ⟨_,rfl,⟨fun h=>by omega,fun h=>absurd h HN.out⟩,HB.out⟩
theorem iR {L:List ay}{a:Option Addr}{cap:Nat}{l s:Int}{W:World}(h:aJ av W W.heap.size L a cap) :
 Calls Tryz.prog 205 #[.slice a L.length cap,.agg #[.int .i64 l,.int .i64 s]] W (jf ((l,s)∈L) W):=by
 have HB0:=ak (show Below W.heap.size W (W.alloc (.cells #[.int .i64 l,.int .i64 s] 49)) from (aW _ _).alloc (bK _) _)
 have H:=ak (aD au h HB0.out)
 have HZ:=HB0.out.size
 clear h
 go_enter Tryz.func205,Tryz.ntmps205
 go_wp2_with fail
 refine (Rv H.out).mono ?_
 intro e w1 h
 obtain ⟨i,rfl,hi,hb⟩:=Wx h
 have HB1:=ak (HB0.out.trans (hb.mono HZ))
 have HI:=ak hi
 clear h hi hb
 by_cases h0:0≤i
 ·have hd:decide (0≤i)=true:=eD h0
  have HY:=ak (HI.out.1 h0)
  clear h0
  go_wp2
  go_ret
  exact bM HY.out HB1.out
 ·have hd:decide (0≤i)=false:=dS h0
  have HY:=ak (show (l,s) ∉ L from fun h=>h0 (HI.out.2 h))
  clear h0
  go_wp2
  go_ret
  exact aB HY.out HB1.out
theorem Xa {L:List ay}{a:Option Addr}{cap:Nat}{W:World}(h:aJ av W W.heap.size L a cap) :
 Calls Tryz.prog 226 #[.slice a L.length cap] W (jf (gL L) W):=by
 have H:=ak h
 clear h
 by_cases n1:1≤L.length
 rotate_left
 ·have hd:decide ((L.length:Int)<1)=true:=eD (by omega)
  have HN:=ak (show ¬gL L from fun h=>n1 h.1)
  go_enter Tryz.func226,Tryz.ntmps226
  go_wp2
  go_ret
  exact aB HN.out (aW _ _)
 have hd1:decide ((L.length:Int)<1)=false:=dS (by omega)
 by_cases n4:L.length≤4
 rotate_left
 ·have hd:decide (4<(L.length:Int))=true:=eD (by omega)
  have HN:=ak (show ¬gL L from fun h=>n4 h.2.1)
  go_enter Tryz.func226,Tryz.ntmps226
  go_wp2
  go_ret
  exact aB HN.out (aW _ _)
 have hd4:decide (4<(L.length:Int))=false:=dS (by omega)
 obtain ⟨⟨x0,x1⟩,hx⟩:=aM (L:=L) (k:=0) (by omega)
 have HX:=ak hx
 obtain ⟨g,o,us,rfl,hg,hu,hr⟩:=H.out.at_ hx
 obtain rfl:=gF hr
 obtain ⟨e0,e1⟩:=ny (a:=o) hu rfl
 have h0n:(0:Int)<(L.length:Int):=by omega
 have HG:=ak hg
 clear hx hu hr
 cases hr:dH.rB x0 x1 with
 | false=>
  have FY:=ak (show ¬gL L from fun h=>by have:=(h.2.2 0 (by omega) _ HX.out).1;rw [hr] at this;cases this)
  have HR:=ak hr
  clear hr
  go_enter Tryz.func226,Tryz.ntmps226
  go_wp2_with fail
  refine (aau x0 x1 HR.out _).mono ?_
  rintro e w1 ⟨rfl,hb⟩
  have HB1:=ak hb
  clear hb
  go_wp2
  go_ret
  exact aB FY.out HB1.out
 | true=>
  have HR:=ak hr
  clear hr
  have HOK0:=ak (show ∀ j,j<1→okC L j from fun j hj=>by obtain rfl:j=0:=(by omega);exact DZ HX.out HR.out)
  go_enter Tryz.func226,Tryz.ntmps226
  go_wp2_with fail
  refine (aau x0 x1 HR.out _).mono ?_
  rintro e w1 ⟨rfl,hb⟩
  have HB1:=ak hb
  clear hb e0 e1
  go_wp2
  go_loopw [3] (fun i wr=>∃ k:Nat,1≤k∧k≤L.length∧i=.int .i64 k∧Hid (∀ j,j<k→okC L j)∧Below W.heap.size W wr) (fun i _=>L.length-(intOf i).toNat)
  case atStart=>exact ⟨1,bK _,n1,rfl,HOK0,HB1.out⟩
  case round=>
   obtain ⟨k,hk1,hk,rfl,HA,hB⟩:=hrel
   have HB:=ak hB
   have hsz:=hB.size
   by_cases hlt:k<L.length
   ·obtain ⟨j,rfl⟩:∃ j,k=j+1:=⟨k-1,by omega⟩
    obtain ⟨⟨x0,x1⟩,hx⟩:=aM hlt
    have HX:=ak hx
    obtain ⟨g1,o1,us,he,hg1,hu,hr⟩:=(H.out.below au HB.out).at_ hx
    cases he
    obtain rfl:=gF hr
    obtain ⟨e0,e1⟩:=ny (a:=o+(j+1)*2) hu rfl
    clear hu hr
    obtain ⟨⟨y0,y1⟩,hy⟩:=aM (L:=L) (k:=j) (by omega)
    have HY:=ak hy
    obtain ⟨g2,o2,us,he,hg2,hu,hr⟩:=(H.out.below au HB.out).at_ hy
    cases he
    obtain rfl:=gF hr
    obtain ⟨d0,d1⟩:=ny (a:=o+j*2) hu rfl
    have hgl:g<wr.heap.size:=bV hg hsz
    have hj0:(0:Int)≤(j:Int):=eu _
    have hj1:(j:Int)<(L.length:Int):=by omega
    have YR:(0:Int)≤(j:Int)+1:=by omega
    have YQ:(j:Int)+1<(L.length:Int):=by omega
    have XF:IntKind.i64.wrap ((j:Int)+1-1)=(j:Int):=by rw [show (j:Int)+1-1=(j:Int) by omega];exact gK _ (by omega)
    have YP:IntKind.i64.wrap (j:Int)=(j:Int):=gK _ (by omega)
    have hlim:L.length≤4:=n4
    have hry:dH.rB y0 y1=true:=(HA.out j (Nat.lt_succ_self _) _ HY.out).1
    have XP:=ak hry
    clear hB hx hy hu hr hg1 hg2 hry
    cases hbb:dH.iV y0 y1 x0 x1 with
    | false=>
     have FY:=ak (show ¬gL L from fun h=>by
      have h2:=h.2.2 (j+1) hlt _ HX.out
      have h3:=(h2.2 (Nat.succ_pos _) (y0,y1) HY.out).1
      rw [dH.sI XP.out h2.1,h3] at hbb
      cases hbb)
     have yF:=ak hbb
     clear hbb
     cases c1:(x0==y0) with
     | false=>
      go_wp2_with fail
      refine dX (S:=(fun V=>Below (wr).heap.size (wr) V)) (by kernel_rfl) ((aW _ _).drew) (fun ah=>?_)
      refine tk 0 ah ?_
      refine tk 1 ah ?_
      refine tk 2 ah ?_
      refine tk 3 ah ?_ (hy:=fun w aj=>by (try dsimp only at aj);have k0:=(aj.cell (p:=⟨g,o+(j+1)*2,none⟩) hgl).trans e0;have k1:=(aj.cell (p:=⟨g,o+(j+1)*2+1,none⟩) hgl).trans e1;clear aj;go_simp;try with_reducible rfl)
      refine tk 4 ah ?_
      refine tk 5 ah ?_
      refine tk 6 ah ?_
      refine tk 7 ah ?_
      refine tk 8 ah ?_ (hy:=fun w aj=>by (try dsimp only at aj);have k0:=(aj.cell (p:=⟨g,o+j*2,none⟩) hgl).trans d0;have k1:=(aj.cell (p:=⟨g,o+j*2+1,none⟩) hgl).trans d1;clear aj;go_simp;try with_reducible rfl)
      refine tk 9 ah ?_
      refine tk 10 ah ?_
      refine tk 11 ah ?_
      refine tk 12 ah ?_
      refine tk 13 ah ?_
      refine tk 14 ah ?_
      refine tk 15 ah ?_ (hy:=fun w aj=>by (try dsimp only at aj);have k0:=(aj.cell (p:=⟨g,o+j*2,none⟩) hgl).trans d0;have k1:=(aj.cell (p:=⟨g,o+j*2+1,none⟩) hgl).trans d1;clear aj;go_simp;try with_reducible rfl)
      refine tk 16 ah ?_
      refine tk 17 ah ?_
      refine tk 18 ah ?_
      refine tk 19 ah ?_ (hy:=fun w aj=>by (try dsimp only at aj);have k0:=(aj.cell (p:=⟨g,o+(j+1)*2,none⟩) hgl).trans e0;have k1:=(aj.cell (p:=⟨g,o+(j+1)*2+1,none⟩) hgl).trans e1;clear aj;go_simp;try with_reducible rfl)
      refine dw 20 (fun K hK=>?_)
      go_simp
      go_at_call 231
      refine (GI y0 y1 x0 x1 yF.out _).mono ?_
      rintro e w9 ⟨rfl,hb⟩
      refine hK.out _ _ (ah.trans (hb.mono ah.size)) (fun ah=>?_)
      clear hK K hb
      refine tk 21 ah ?_
      refine tk 22 ah ?_
      refine dQ ?_
      have HF:=ak ah
      clear ah
      have HB3:=ak (HB.out.trans (HF.out.mono hsz))
      clear HF
      go_wp2
      go_ret
      exact aB FY.out HB3.out
     | true=>
      cases c2:(x1==y1) with
      | false=>
       go_wp2_with fail
       refine dX (S:=(fun V=>Below (wr).heap.size (wr) V)) (by kernel_rfl) ((aW _ _).drew) (fun ah=>?_)
       refine tk 0 ah ?_
       refine tk 1 ah ?_
       refine tk 2 ah ?_
       refine tk 3 ah ?_ (hy:=fun w aj=>by (try dsimp only at aj);have k0:=(aj.cell (p:=⟨g,o+(j+1)*2,none⟩) hgl).trans e0;have k1:=(aj.cell (p:=⟨g,o+(j+1)*2+1,none⟩) hgl).trans e1;clear aj;go_simp;try with_reducible rfl)
       refine tk 4 ah ?_
       refine tk 5 ah ?_
       refine tk 6 ah ?_
       refine tk 7 ah ?_
       refine tk 8 ah ?_ (hy:=fun w aj=>by (try dsimp only at aj);have k0:=(aj.cell (p:=⟨g,o+j*2,none⟩) hgl).trans d0;have k1:=(aj.cell (p:=⟨g,o+j*2+1,none⟩) hgl).trans d1;clear aj;go_simp;try with_reducible rfl)
       refine tk 9 ah ?_
       refine tk 10 ah ?_
       refine tk 11 ah ?_
       refine tk 12 ah ?_
       refine tk 13 ah ?_
       refine tk 14 ah ?_
       refine tk 15 ah ?_ (hy:=fun w aj=>by (try dsimp only at aj);have k0:=(aj.cell (p:=⟨g,o+j*2,none⟩) hgl).trans d0;have k1:=(aj.cell (p:=⟨g,o+j*2+1,none⟩) hgl).trans d1;clear aj;go_simp;try with_reducible rfl)
       refine tk 16 ah ?_
       refine tk 17 ah ?_
       refine tk 18 ah ?_
       refine tk 19 ah ?_ (hy:=fun w aj=>by (try dsimp only at aj);have k0:=(aj.cell (p:=⟨g,o+(j+1)*2,none⟩) hgl).trans e0;have k1:=(aj.cell (p:=⟨g,o+(j+1)*2+1,none⟩) hgl).trans e1;clear aj;go_simp;try with_reducible rfl)
       refine dw 20 (fun K hK=>?_)
       go_simp
       go_at_call 231
       refine (GI y0 y1 x0 x1 yF.out _).mono ?_
       rintro e w9 ⟨rfl,hb⟩
       refine hK.out _ _ (ah.trans (hb.mono ah.size)) (fun ah=>?_)
       clear hK K hb
       refine tk 21 ah ?_
       refine tk 22 ah ?_
       refine dQ ?_
       have HF:=ak ah
       clear ah
       have HB3:=ak (HB.out.trans (HF.out.mono hsz))
       clear HF
       go_wp2
       go_ret
       exact aB FY.out HB3.out
      | true=>
       go_wp2_with fail
       refine dX (S:=(fun V=>Below (wr).heap.size (wr) V)) (by kernel_rfl) ((aW _ _).drew) (fun ah=>?_)
       refine tk 0 ah ?_
       refine tk 1 ah ?_
       refine tk 2 ah ?_
       refine tk 3 ah ?_ (hy:=fun w aj=>by (try dsimp only at aj);have k0:=(aj.cell (p:=⟨g,o+(j+1)*2,none⟩) hgl).trans e0;have k1:=(aj.cell (p:=⟨g,o+(j+1)*2+1,none⟩) hgl).trans e1;clear aj;go_simp;try with_reducible rfl)
       refine tk 4 ah ?_
       refine tk 5 ah ?_
       refine tk 6 ah ?_
       refine tk 7 ah ?_
       refine tk 8 ah ?_ (hy:=fun w aj=>by (try dsimp only at aj);have k0:=(aj.cell (p:=⟨g,o+j*2,none⟩) hgl).trans d0;have k1:=(aj.cell (p:=⟨g,o+j*2+1,none⟩) hgl).trans d1;clear aj;go_simp;try with_reducible rfl)
       refine tk 9 ah ?_
       refine tk 10 ah ?_
       refine tn 11 ah ?_
       refine tn 12 ah ?_
       refine tn 13 ah ?_
       refine tn 14 ah ?_
       refine tn 15 ah ?_
       refine tn 16 ah ?_
       refine tn 17 ah ?_
       refine tn 18 ah ?_
       refine tn 19 ah ?_
       refine tn 20 ah ?_
       refine tn 21 ah ?_
       refine tk 22 ah ?_
       refine dQ ?_
       have HF:=ak ah
       clear ah
       have HB3:=ak (HB.out.trans (HF.out.mono hsz))
       clear HF
       go_wp2
       go_ret
       exact aB FY.out HB3.out
    | true=>
     have yF:=ak hbb
     have hb2:=hbb
     unfold dH.iV at hb2
     simp only [XP.out,Bool.true_and,Bool.and_eq_true] at hb2
     have HB2:=ak hb2
     clear hbb hb2
     cases c1:(x0==y0) with
     | false=>
      have kX:=ak (iT HA.out (wO HX.out HY.out HB2.out.1 HB2.out.2 (fun e=>by have:=congrArg Prod.fst e;simp at c1;exact c1 this.symm)))
      go_wp2_with fail
      refine dX (S:=(fun V=>Below (wr).heap.size (wr) V)) (by kernel_rfl) ((aW _ _).drew) (fun ah=>?_)
      refine tk 0 ah ?_
      refine tk 1 ah ?_
      refine tk 2 ah ?_
      refine tk 3 ah ?_ (hy:=fun w aj=>by (try dsimp only at aj);have k0:=(aj.cell (p:=⟨g,o+(j+1)*2,none⟩) hgl).trans e0;have k1:=(aj.cell (p:=⟨g,o+(j+1)*2+1,none⟩) hgl).trans e1;clear aj;go_simp;try with_reducible rfl)
      refine tk 4 ah ?_
      refine tk 5 ah ?_
      refine tk 6 ah ?_
      refine tk 7 ah ?_
      refine tk 8 ah ?_ (hy:=fun w aj=>by (try dsimp only at aj);have k0:=(aj.cell (p:=⟨g,o+j*2,none⟩) hgl).trans d0;have k1:=(aj.cell (p:=⟨g,o+j*2+1,none⟩) hgl).trans d1;clear aj;go_simp;try with_reducible rfl)
      refine tk 9 ah ?_
      refine tk 10 ah ?_
      refine tk 11 ah ?_
      refine tk 12 ah ?_
      refine tk 13 ah ?_
      refine tk 14 ah ?_
      refine tk 15 ah ?_ (hy:=fun w aj=>by (try dsimp only at aj);have k0:=(aj.cell (p:=⟨g,o+j*2,none⟩) hgl).trans d0;have k1:=(aj.cell (p:=⟨g,o+j*2+1,none⟩) hgl).trans d1;clear aj;go_simp;try with_reducible rfl)
      refine tk 16 ah ?_
      refine tk 17 ah ?_
      refine tk 18 ah ?_
      refine tk 19 ah ?_ (hy:=fun w aj=>by (try dsimp only at aj);have k0:=(aj.cell (p:=⟨g,o+(j+1)*2,none⟩) hgl).trans e0;have k1:=(aj.cell (p:=⟨g,o+(j+1)*2+1,none⟩) hgl).trans e1;clear aj;go_simp;try with_reducible rfl)
      refine dw 20 (fun K hK=>?_)
      go_simp
      go_at_call 231
      refine (GI y0 y1 x0 x1 yF.out _).mono ?_
      rintro e w9 ⟨rfl,hb⟩
      refine hK.out _ _ (ah.trans (hb.mono ah.size)) (fun ah=>?_)
      clear hK K hb
      refine tk 21 ah ?_
      refine tk 22 ah ?_
      refine dQ ?_
      have HF:=ak ah
      clear ah
      have HB3:=ak (HB.out.trans (HF.out.mono hsz))
      clear HF
      go_wp2
      go_roundw
      case rel=>exact ⟨j+2,by omega,by omega,by go_num,kX,HB3.out⟩
      case measure=>simp [intOf];omega
     | true=>
      cases c2:(x1==y1) with
      | false=>
       have kX:=ak (iT HA.out (wO HX.out HY.out HB2.out.1 HB2.out.2 (fun e=>by have:=congrArg Prod.snd e;simp at c2;exact c2 this.symm)))
       go_wp2_with fail
       refine dX (S:=(fun V=>Below (wr).heap.size (wr) V)) (by kernel_rfl) ((aW _ _).drew) (fun ah=>?_)
       refine tk 0 ah ?_
       refine tk 1 ah ?_
       refine tk 2 ah ?_
       refine tk 3 ah ?_ (hy:=fun w aj=>by (try dsimp only at aj);have k0:=(aj.cell (p:=⟨g,o+(j+1)*2,none⟩) hgl).trans e0;have k1:=(aj.cell (p:=⟨g,o+(j+1)*2+1,none⟩) hgl).trans e1;clear aj;go_simp;try with_reducible rfl)
       refine tk 4 ah ?_
       refine tk 5 ah ?_
       refine tk 6 ah ?_
       refine tk 7 ah ?_
       refine tk 8 ah ?_ (hy:=fun w aj=>by (try dsimp only at aj);have k0:=(aj.cell (p:=⟨g,o+j*2,none⟩) hgl).trans d0;have k1:=(aj.cell (p:=⟨g,o+j*2+1,none⟩) hgl).trans d1;clear aj;go_simp;try with_reducible rfl)
       refine tk 9 ah ?_
       refine tk 10 ah ?_
       refine tk 11 ah ?_
       refine tk 12 ah ?_
       refine tk 13 ah ?_
       refine tk 14 ah ?_
       refine tk 15 ah ?_ (hy:=fun w aj=>by (try dsimp only at aj);have k0:=(aj.cell (p:=⟨g,o+j*2,none⟩) hgl).trans d0;have k1:=(aj.cell (p:=⟨g,o+j*2+1,none⟩) hgl).trans d1;clear aj;go_simp;try with_reducible rfl)
       refine tk 16 ah ?_
       refine tk 17 ah ?_
       refine tk 18 ah ?_
       refine tk 19 ah ?_ (hy:=fun w aj=>by (try dsimp only at aj);have k0:=(aj.cell (p:=⟨g,o+(j+1)*2,none⟩) hgl).trans e0;have k1:=(aj.cell (p:=⟨g,o+(j+1)*2+1,none⟩) hgl).trans e1;clear aj;go_simp;try with_reducible rfl)
       refine dw 20 (fun K hK=>?_)
       go_simp
       go_at_call 231
       refine (GI y0 y1 x0 x1 yF.out _).mono ?_
       rintro e w9 ⟨rfl,hb⟩
       refine hK.out _ _ (ah.trans (hb.mono ah.size)) (fun ah=>?_)
       clear hK K hb
       refine tk 21 ah ?_
       refine tk 22 ah ?_
       refine dQ ?_
       have HF:=ak ah
       clear ah
       have HB3:=ak (HB.out.trans (HF.out.mono hsz))
       clear HF
       go_wp2
       go_roundw
       case rel=>exact ⟨j+2,by omega,by omega,by go_num,kX,HB3.out⟩
       case measure=>simp [intOf];omega
      | true=>
       have FY:=ak (show ¬gL L from fun h=>by
        have h2:=(h.2.2 (j+1) hlt _ HX.out).2 (Nat.succ_pos _) (y0,y1) HY.out
        rw [beq_iff_eq] at c1 c2
        exact h2.2 (by rw [c1,c2]))
       go_wp2_with fail
       refine dX (S:=(fun V=>Below (wr).heap.size (wr) V)) (by kernel_rfl) ((aW _ _).drew) (fun ah=>?_)
       refine tk 0 ah ?_
       refine tk 1 ah ?_
       refine tk 2 ah ?_
       refine tk 3 ah ?_ (hy:=fun w aj=>by (try dsimp only at aj);have k0:=(aj.cell (p:=⟨g,o+(j+1)*2,none⟩) hgl).trans e0;have k1:=(aj.cell (p:=⟨g,o+(j+1)*2+1,none⟩) hgl).trans e1;clear aj;go_simp;try with_reducible rfl)
       refine tk 4 ah ?_
       refine tk 5 ah ?_
       refine tk 6 ah ?_
       refine tk 7 ah ?_
       refine tk 8 ah ?_ (hy:=fun w aj=>by (try dsimp only at aj);have k0:=(aj.cell (p:=⟨g,o+j*2,none⟩) hgl).trans d0;have k1:=(aj.cell (p:=⟨g,o+j*2+1,none⟩) hgl).trans d1;clear aj;go_simp;try with_reducible rfl)
       refine tk 9 ah ?_
       refine tk 10 ah ?_
       refine tn 11 ah ?_
       refine tn 12 ah ?_
       refine tn 13 ah ?_
       refine tn 14 ah ?_
       refine tn 15 ah ?_
       refine tn 16 ah ?_
       refine tn 17 ah ?_
       refine tn 18 ah ?_
       refine tn 19 ah ?_
       refine tn 20 ah ?_
       refine tn 21 ah ?_
       refine tk 22 ah ?_
       refine dQ ?_
       have HF:=ak ah
       clear ah
       have HB3:=ak (HB.out.trans (HF.out.mono hsz))
       clear HF
       go_wp2
       go_ret
       exact aB FY.out HB3.out
   ·have hd:decide ((k:Int)<(L.length:Int))=false:=dS (by omega)
    have HY:=ak (show gL L from ⟨n1,n4,fun i hi=>HA.out i (by omega)⟩)
    clear hB
    go_wp2
    go_ret
    exact bM HY.out HB.out
def SH (C:List (List ay))(lab:ay)(n:Int):Prop:=n<(C.length:Int)∧∃ x,C[n.toNat]? = some x∧lab∈x
theorem Lh {C:List (List ay)}{a:Option Addr}{cap m:Nat}{l s:Int}{W:World}(hm:m<9223372036854775807)(h:aJ (Sl av) W W.heap.size C a cap) :
 Calls Tryz.prog 264 #[.agg #[.int .i64 l,.int .i64 s,.slice a C.length cap],.int .i64 (m:Int)] W (jf (SH C (l,s) (m:Int)) W):=by
 have hn:C.length≤9223372036854775807:=by have h1:=h.1;have h2:=h.2.1;unfold maxLen at h2;omega
 have HB0:=ak (show Below W.heap.size W (W.alloc (.cells #[.int .i64 l,.int .i64 s,.slice a C.length cap] 284)) from (aW _ _).alloc (bK _) _)
 have gY:=ak (aO.new W 284 #[.int .i64 l,.int .i64 s,.slice a C.length cap])
 have H:=ak (aD (aZ au) h HB0.out)
 have hsz:=HB0.out.size
 clear h
 by_cases hlt:m<C.length
 rotate_left
 ·have hge:decide ((m:Int)<(C.length:Int))=false:=dS (by omega)
  have FY:=ak (show ¬SH C (l,s) (m:Int) from fun h=>by have:=h.1;omega)
  go_enter Tryz.func264,Tryz.ntmps264
  go_wp2_with fail
  generalize hwr:W.alloc (.cells #[.int .i64 l,.int .i64 s,.slice a C.length cap] 284)=wr at *
  refine dX (S:=(fun V=>Below (wr).heap.size (wr) V)) (by kernel_rfl) ((aW _ _).drew) (fun ah=>?_)
  refine tk 0 ah ?_
  refine tk 1 ah ?_
  refine tk 2 ah ?_ (hy:=fun w aj=>by (try dsimp only at aj);have k0:=gY.out.hat aj 2 rfl;clear aj;go_simp;try with_reducible rfl)
  refine tk 3 ah ?_
  refine tk 4 ah ?_
  refine tk 5 ah ?_
  refine tn 6 ah ?_
  refine tn 7 ah ?_
  refine tn 8 ah ?_
  refine tn 9 ah ?_
  refine tn 10 ah ?_
  refine tn 11 ah ?_
  refine tn 12 ah ?_
  refine tn 13 ah ?_
  refine tk 14 ah ?_
  refine tk 15 ah ?_
  refine dQ ?_
  have HF:=ak ah
  clear ah
  have HB3:=ak (HB0.out.trans (HF.out.mono hsz))
  clear HF
  go_wp2
  go_ret
  exact aB FY.out HB3.out
 ·have hge:decide ((m:Int)<(C.length:Int))=true:=eD (by omega)
  obtain ⟨cl,hcl⟩:=aM hlt
  have MZ:=ak hcl
  obtain ⟨g2,o2,us,rfl,hg2,hu2,hr2⟩:=H.out.at_ hcl
  obtain ⟨a1,c1,rfl,hx1⟩:=hr2
  have hi0:(0:Int)≤(m:Int):=eu _
  have hi1:(m:Int)<(C.length:Int):=by omega
  go_enter Tryz.func264,Tryz.ntmps264
  go_wp2_with fail
  generalize hwr:W.alloc (.cells #[.int .i64 l,.int .i64 s,.slice (some ⟨g2,o2,none⟩) C.length cap] 284)=wr at *
  have d0:wr.cell? ⟨g2,o2+m,none⟩=some (.slice a1 cl.length c1):=by simpa [jP] using hu2 0 _ rfl
  have HCR1:=ak (show aJ av wr wr.heap.size cl a1 c1 from hx1)
  have HG2:=ak hg2
  clear hcl hu2 hx1 hg2
  by_cases hmem:(l,s)∈cl
  ·have HYes:=ak (show SH C (l,s) (m:Int) from ⟨hi1,cl,by rw [Int.toNat_natCast];exact MZ.out,hmem⟩)
   refine dX (S:=(fun V=>Below (wr).heap.size (wr) V)) (by kernel_rfl) ((aW _ _).drew) (fun ah=>?_)
   refine tk 0 ah ?_
   refine tk 1 ah ?_
   refine tk 2 ah ?_ (hy:=fun w aj=>by (try dsimp only at aj);have k0:=gY.out.hat aj 2 rfl;clear aj;go_simp;try with_reducible rfl)
   refine tk 3 ah ?_
   refine tk 4 ah ?_
   refine tk 5 ah ?_
   refine tk 6 ah ?_
   refine tk 7 ah ?_ (hy:=fun w aj=>by (try dsimp only at aj);have k0:=gY.out.hat aj 2 rfl;clear aj;go_simp;try with_reducible rfl)
   refine tk 8 ah ?_
   refine tk 9 ah ?_
   refine tk 10 ah ?_ (hy:=fun w aj=>by (try dsimp only at aj);have k0:=(aj.cell (p:=⟨g2,o2+m,none⟩) HG2.out).trans d0;clear aj;go_simp;try with_reducible rfl)
   refine tk 11 ah ?_
   refine tk 12 ah ?_ (hy:=fun w aj=>by (try dsimp only at aj);have k0:=gY.out.hat aj 0 rfl;have k1:=gY.out.hat aj 1 rfl;clear aj;go_simp;try with_reducible rfl)
   refine dw 13 (fun K hK=>?_)
   go_simp
   go_at_call 205
   refine (iR (aD au HCR1.out ah)).mono ?_
   intro e w9 h
   obtain ⟨z,rfl,hz,hb⟩:=bq h
   obtain rfl:z=true:=hz.2 hmem
   clear h hz
   refine hK.out _ _ (ah.trans (hb.mono ah.size)) (fun ah=>?_)
   clear hK K hb
   refine tk 14 ah ?_
   refine tk 15 ah ?_
   refine dQ ?_
   have HF:=ak ah
   clear ah
   have HB3:=ak (HB0.out.trans (HF.out.mono hsz))
   clear HF
   go_wp2
   go_ret
   exact bM HYes.out HB3.out
  ·have FY:=ak (show ¬SH C (l,s) (m:Int) from fun h=>by
    obtain ⟨_,x,hx,hy⟩:=h
    rw [Int.toNat_natCast,MZ.out] at hx
    obtain rfl:=fC hx
    exact hmem hy)
   refine dX (S:=(fun V=>Below (wr).heap.size (wr) V)) (by kernel_rfl) ((aW _ _).drew) (fun ah=>?_)
   refine tk 0 ah ?_
   refine tk 1 ah ?_
   refine tk 2 ah ?_ (hy:=fun w aj=>by (try dsimp only at aj);have k0:=gY.out.hat aj 2 rfl;clear aj;go_simp;try with_reducible rfl)
   refine tk 3 ah ?_
   refine tk 4 ah ?_
   refine tk 5 ah ?_
   refine tk 6 ah ?_
   refine tk 7 ah ?_ (hy:=fun w aj=>by (try dsimp only at aj);have k0:=gY.out.hat aj 2 rfl;clear aj;go_simp;try with_reducible rfl)
   refine tk 8 ah ?_
   refine tk 9 ah ?_
   refine tk 10 ah ?_ (hy:=fun w aj=>by (try dsimp only at aj);have k0:=(aj.cell (p:=⟨g2,o2+m,none⟩) HG2.out).trans d0;clear aj;go_simp;try with_reducible rfl)
   refine tk 11 ah ?_
   refine tk 12 ah ?_ (hy:=fun w aj=>by (try dsimp only at aj);have k0:=gY.out.hat aj 0 rfl;have k1:=gY.out.hat aj 1 rfl;clear aj;go_simp;try with_reducible rfl)
   refine dw 13 (fun K hK=>?_)
   go_simp
   go_at_call 205
   refine (iR (aD au HCR1.out ah)).mono ?_
   intro e w9 h
   obtain ⟨z,rfl,hz,hb⟩:=bq h
   obtain rfl:z=false:=by cases z with | false=>rfl | true=>exact absurd (hz.1 rfl) hmem
   clear h hz
   refine hK.out _ _ (ah.trans (hb.mono ah.size)) (fun ah=>?_)
   clear hK K hb
   refine tk 14 ah ?_
   refine tk 15 ah ?_
   refine dQ ?_
   have HF:=ak ah
   clear ah
   have HB3:=ak (HB0.out.trans (HF.out.mono hsz))
   clear HF
   go_wp2
   go_ret
   exact aB FY.out HB3.out
theorem zM {C:List (List ay)}{ca:Option Addr}{cc:Nat}{W:World}(hC:aJ (Sl av) W W.heap.size C ca cc) :
 Calls Tryz.prog 187 #[.slice ca C.length cc] W (jf (iW C) W):=by
 have HC:=ak hC
 have hcn:C.length≤9223372036854775807:=by have h1:=hC.1;have h2:=hC.2.1;unfold maxLen at h2;omega
 clear hC
 obtain ⟨b1,hb1⟩:∃ b,dD (C.length:Int) 1 6=b:=⟨_,rfl⟩
 have H1:=ak hb1
 clear hb1
 go_enter Tryz.func187,Tryz.ntmps187
 go_wp2_with fail
 refine (oL _ _ _ H1.out _).mono ?_
 rintro e w9 ⟨rfl,rfl⟩
 cases b1 with
 | false=>
  have HN:=ak (show ¬iW C from fun h=>by
   have h2:dD (C.length:Int) 1 6=true:=uQ.2 ⟨by have:=h.1;omega,by have:=h.2.1;omega⟩
   rw [H1.out] at h2;cases h2)
  go_wp2
  go_ret
  exact aB HN.out (aW _ _)
 | true=>
 have h16:1≤C.length∧C.length≤6:=by have:=uQ.1 H1.out;omega
 have H16:=ak h16
 go_wp2
 go_loopw [11] (fun i wr=>∃ k:Nat,k≤C.length∧i=.int .i64 k∧Hid (∀ (j:Nat) x,j<k→C[j]? = some x→gL x)∧Below W.heap.size W wr) (fun i _=>C.length-(intOf i).toNat)
 case atStart=>exact ⟨0,dV _,rfl,ak fun j x h=>absurd h (gZ _),aW _ _⟩
 case round=>
  obtain ⟨k,hk,rfl,HA,hB⟩:=hrel
  have HB:=ak hB
  have hsz:=hB.size
  by_cases hlt:k<C.length
  ·have hdl:decide ((k:Int)<(C.length:Int))=true:=eD (by omega)
   obtain ⟨x,hx⟩:=aM hlt
   have HX:=ak hx
   obtain ⟨g,o,us,rfl,hg,hu,hr⟩:=(HC.out.below (aZ au) hB).at_ hx
   obtain ⟨a1,c1,rfl,uH⟩:=hr
   have e0:wr.cell? ⟨g,o+k,none⟩=some (.slice a1 x.length c1):=by simpa [jP] using hu 0 _ rfl
   have hi0:(0:Int)≤(k:Int):=eu _
   have hi1:(k:Int)<(C.length:Int):=by omega
   have HK:=ak (uH.more au hsz)
   clear hB hx hu uH
   go_wp2_with fail
   refine (Xa HK.out).mono ?_
   intro e w1 h
   obtain ⟨z,rfl,hz,hb⟩:=bq h
   have HB1:=ak (HB.out.trans (hb.mono hsz))
   have HZ:=ak hz
   clear h hz hb
   cases z with
   | false=>
    have HN:=ak (show ¬iW C from fun h=>by have:=HZ.out.2 (h.2.2 k x HX.out);cases this)
    go_wp2
    go_ret
    exact aB HN.out HB1.out
   | true=>
    have HA2:=ak (show ∀ (j:Nat) x,j<k+1→C[j]? = some x→gL x from fun j y hj hy=>by
     by_cases e:j=k
     ·subst e
      have:=HX.out
      rw [hy] at this
      obtain rfl:=fC this
      exact HZ.out.1 rfl
     ·exact HA.out j y (by omega) hy)
    go_wp2
    go_roundw
    case rel=>exact ⟨k+1,by omega,by go_num,HA2,HB1.out⟩
    case measure=>simp [intOf];omega
  ·have hdl:decide ((k:Int)<(C.length:Int))=false:=dS (by omega)
   have HCR:=ak (show iW C from ⟨H16.out.1,H16.out.2,fun i x hx=>HA.out i x (by have:=kM hx;omega) hx⟩)
   clear hB
   go_wp2
   go_ret
   exact bM HCR.out HB.out
end
section
open Go.RowKit bN bO bJ bQ Go.Lib CF
theorem lI (g:Nat):∀ (cs:List Value)(W:World)(o:Nat),W.setCells g o cs=putCells W g o cs
 | [],_,_=>rfl
 | c::cs,W,o=>by simp only [World.setCells,putCells];exact lI g cs _ _
theorem Cq (W:World)(ty:TypeId)(g k n c:Nat)(hn:0<n)(hc:∀ j,j<n*2→(W.cell? ⟨g,k+j,none⟩).isSome=true)(hf:Sf W g) :
 ∃ w',(Builtin.clear_ #[155] ty #[.slice (some ⟨g,k,none⟩) n c]).run Tryz.prog W=.ok (.tuple #[]) w'∧(∀ j,j<k→w'.cell? ⟨g,j,none⟩=W.cell? ⟨g,j,none⟩)∧Sf w' g∧Off (fun x=>x=g) W w':=by
 have hzl:(Builtin.zeroCells (Value.agg #[.int .i64 0,.int .i64 0]).cells n).toList.length=n*2:=by
  simp [Builtin.zeroCells,Value.cells]
 have hone:∀ v∈(Builtin.zeroCells (Value.agg #[.int .i64 0,.int .i64 0]).cells n).toList,v.oneCell'=true:=by
  intro v hv
  simp [Builtin.zeroCells,Value.cells] at hv
  obtain ⟨i,_,rfl⟩:=hv
  rcases Nat.mod_two_eq_zero_or_one i with e | e <;> rw [e] <;> rfl
 have hst:=run_storeCells_cells (P:=Tryz.prog) g k (Builtin.zeroCells (Value.agg #[.int .i64 0,.int .i64 0]).cells n).toList 0 W (fun j hj=>by rw [hzl] at hj;simpa using hc j hj) (fun j _=>hf _) hone
 simp only [Nat.add_zero] at hst
 obtain ⟨iL,JM,sN,hsL,hbL⟩:=Bb
 have hv:∀ w,(zeroValue 49).run Tryz.prog w=.ok (.agg #[.int .i64 0,.int .i64 0]) w:=fun w=>by
  simp [zeroValue,typeInfo,JM,sN]
 refine ⟨W.setCells g k (Builtin.zeroCells (Value.agg #[.int .i64 0,.int .i64 0]).cells n).toList,?_,fun j hj=>?_,fun j=>?_,?_⟩
 ·obtain ⟨m,rfl⟩:∃ m,n=m+1:=⟨n-1,by omega⟩
  simp [Builtin.clear_,run_underlying Tryz.underlying155,hv,hst]
 ·rw [lI];exact bF g _ _ _ (Or.inl hj)
 ·rw [lI,aH];exact hf j
 ·rw [lI];exact dO g _ _ _
def Zp (g cap:Nat)(d:Array Lb)(w:World)(e:Ending)(w':World):Prop:=e=.returned (.slice (some ⟨g,0,none⟩) (compactUpTo d d.size).length cap)∧(∀ (j:Nat) x,(compactUpTo d d.size)[j]? = some x→w'.cell? ⟨g,j*2,none⟩=some (.int .i64 x.1)∧w'.cell? ⟨g,j*2+1,none⟩=some (.int .i64 x.2))∧Sf w' g∧Off (fun x=>x=g) w w'
theorem Iy {g cap:Nat}{d:Array Lb}{w w':World}{n:Nat}(hn:n=d.size)(hall:∀ j,j<d.size→keeps d j=true)(hR:Rw w' g d)(hs:Sf w' g)(ho:Off (fun x=>x=g) w w'):Zp g cap d w (.returned (.slice (some ⟨g,0,none⟩) n cap)) w':=by
 have e:compactUpTo d d.size=d.toList:=by rw [compactUpTo_all d _ hall,range_map_get]
 refine ⟨by rw [e,hn];simp,fun j x hx=>?_,hs,ho⟩
 rw [e] at hx
 have hj:j<d.size:=by have:=kM hx;simpa using this
 have hx':d[j]! = x:=by
  rw [Array.getElem?_toList,Array.getElem?_eq_getElem hj] at hx
  rw [getElem!_pos d j hj];exact fC hx
 rw [←hx']
 exact hR j hj
theorem FH {g cap:Nat}{d:Array Lb}{W:World}(hR:Rw W g d)(hS:Sf W g)(hn:d.size≤1048576)(hcap:d.size≤cap)(hg:g<W.heap.size) :
 Calls Tryz.prog 227 #[.slice (some ⟨g,0,none⟩) d.size cap] W (Zp g cap d W):=by
 have Ab:=ak hR
 have zR:=ak hS
 clear hR hS
 by_cases h2:d.size<2
 ·have hd:decide ((d.size:Int)<2)=true:=eD (by omega)
  go_enter Tryz.func227,Tryz.ntmps227
  go_wp2
  go_ret
  exact Iy rfl (fun j hj=>keeps_lt_one d j (by omega)) Ab.out zR.out (Off.refl _ _)
 have hd:decide ((d.size:Int)<2)=false:=dS (by omega)
 go_enter Tryz.func227,Tryz.ntmps227
 go_wp2
 go_loopw [3] (fun i wr=>∃ m:Nat,m+1≤d.size∧i=.int .i64 ((m+1:Nat):Int)∧Hid (∀ j,j<m+1→keeps d j=true)∧Below W.heap.size W wr) (fun i _=>d.size-(intOf i).toNat)
 case atStart=>exact ⟨0,by omega,rfl,ak (keeps_lt_one d),aW _ _⟩
 case round=>
  obtain ⟨m,hm,rfl,HK,hB⟩:=hrel
  obtain ⟨wo,rfl⟩:∃ x,x=wr:=⟨_,rfl⟩
  have HB:=ak hB
  have hsz:=hB.size
  have HR:=ak (Ab.out.below hg hB)
  have HS:=ak (zR.out.below hg hB)
  have hcast:((m+1:Nat):Int)=(m:Int)+1:=by omega
  clear hB
  by_cases hlt:m+1<d.size
  ·have hdl:decide (((m+1:Nat):Int)<(d.size:Int))=true:=eD (by omega)
   have hdl2:decide ((m:Int)+1<(d.size:Int))=true:=eD (by omega)
   obtain ⟨⟨x0,x1⟩,hx⟩:∃ x,d[m+1]! = x:=⟨_,rfl⟩
   obtain ⟨⟨y0,y1⟩,hy⟩:∃ x,d[m]! = x:=⟨_,rfl⟩
   obtain ⟨c0,c1⟩:=HR.out (m+1) hlt
   obtain ⟨p0,p1⟩:=HR.out m (by omega)
   rw [hx] at c0 c1
   rw [hy] at p0 p1
   have Xu:=ak (And.intro hx hy)
   have HG:=ak (show g<wo.heap.size by omega)
   have hi0:(0:Int)≤(m:Int)+1:=by omega
   have hi1:(m:Int)+1<(d.size:Int):=by omega
   have hj0:(0:Int)≤(m:Int):=eu _
   have hj1:(m:Int)<(d.size:Int):=by omega
   have hsub:IntKind.i64.wrap ((m:Int)+1-1)=(m:Int):=by rw [show (m:Int)+1-1=(m:Int) by omega];exact gK _ (by omega)
   have hsub2:IntKind.i64.wrap (m:Int)=(m:Int):=gK _ (by omega)
   obtain ⟨b,hb⟩:∃ b,decide (((x0,x1):Int×Int)=(y0,y1))=b:=⟨_,rfl⟩
   have hE:=iK x0 x1 y0 y1 b hb
   have HBE:=ak hb
   clear hx hy hb
   cases b with
   | false=>
    have HK2:=ak (show ∀ j,j<m+1+1→keeps d j=true from fun j hj=>by
     by_cases e:j=m+1
     ·subst e;exact keeps_pos (by rw [Nat.add_sub_cancel,Xu.out.1,Xu.out.2];exact of_decide_eq_false HBE.out)
     ·exact HK.out j (by omega))
    go_wp2_with fail
    refine dX (S:=(fun V=>Below (wo).heap.size (wo) V)) (by kernel_rfl) ((aW _ _).drew) (fun ah=>?_)
    refine tk 0 ah ?_
    refine tk 1 ah ?_
    refine tk 2 ah ?_
    refine tk 3 ah ?_ (hy:=fun w aj=>by (try dsimp only at aj);have k0:=(aj.cell (p:=⟨g,(m+1)*2,none⟩) HG.out).trans c0;have k1:=(aj.cell (p:=⟨g,(m+1)*2+1,none⟩) HG.out).trans c1;clear aj;go_simp;try with_reducible rfl)
    refine tk 4 ah ?_
    refine tk 5 ah ?_
    refine tk 6 ah ?_
    refine tk 7 ah ?_
    refine tk 8 ah ?_ (hy:=fun w aj=>by (try dsimp only at aj);have k0:=(aj.cell (p:=⟨g,m*2,none⟩) HG.out).trans p0;have k1:=(aj.cell (p:=⟨g,m*2+1,none⟩) HG.out).trans p1;clear aj;go_simp;try with_reducible rfl)
    refine tk 9 ah ?_
    refine dQ ?_
    have HF:=ak ah
    clear ah
    have HB2:=ak (HB.out.trans (HF.out.mono hsz))
    clear HF
    go_wp2
    go_roundw
    case rel=>exact ⟨m+1,by omega,by go_num,HK2,HB2.out⟩
    case measure=>simp [intOf];omega
   | true=>
    have HDup:=ak (show keeps d (m+1)=false from keeps_neg (by omega) (by rw [Nat.add_sub_cancel,Xu.out.1,Xu.out.2];exact of_decide_eq_true HBE.out))
    have hne:¬cap=m+1:=by omega
    have hne2:¬m+1=cap:=by omega
    go_wp2_with fail
    refine dX (S:=(fun V=>Below (wo).heap.size (wo) V)) (by kernel_rfl) ((aW _ _).drew) (fun ah=>?_)
    refine tk 0 ah ?_
    refine tk 1 ah ?_
    refine tk 2 ah ?_
    refine tk 3 ah ?_ (hy:=fun w aj=>by (try dsimp only at aj);have k0:=(aj.cell (p:=⟨g,(m+1)*2,none⟩) HG.out).trans c0;have k1:=(aj.cell (p:=⟨g,(m+1)*2+1,none⟩) HG.out).trans c1;clear aj;go_simp;try with_reducible rfl)
    refine tk 4 ah ?_
    refine tk 5 ah ?_
    refine tk 6 ah ?_
    refine tk 7 ah ?_
    refine tk 8 ah ?_ (hy:=fun w aj=>by (try dsimp only at aj);have k0:=(aj.cell (p:=⟨g,m*2,none⟩) HG.out).trans p0;have k1:=(aj.cell (p:=⟨g,m*2+1,none⟩) HG.out).trans p1;clear aj;go_simp;try with_reducible rfl)
    refine tk 9 ah ?_
    refine dQ ?_
    have HF:=ak ah
    clear ah
    have HB2:=ak (HB.out.trans (HF.out.mono hsz))
    have hz2:=HB2.out.size
    have HR2:=ak (Ab.out.below hg HB2.out)
    have HS2:=ak (zR.out.below hg HB2.out)
    have vJ:=ak (Off.of_below (S:=fun x=>x=g) (Off.refl _ W) HB2.out)
    clear HF c0 c1 p0 p1 hE HR HS
    obtain ⟨n2,hn2⟩:∃ n2,n2=d.size-(m+1):=⟨_,rfl⟩
    obtain ⟨c2,hc2⟩:∃ c2,c2=cap-(m+1):=⟨_,rfl⟩
    obtain ⟨w2,hw2⟩:∃ w,w=wo.drew:=⟨_,rfl⟩
    rw [←hw2] at HR2 HS2 vJ hz2
    clear HB2
    go_wp2
    rw [←hn2,←hc2,←hw2]
    have Pp:=ak hn2
    have hn2d:n2≤d.size:=by omega
    clear hw2 hn2 hc2
    go_loopw [3,5] (fun a i wr=>∃ (kk q:Nat) (dk:Array Lb),a=.int .i64 (kk:Int)∧i=.int .i64 ((q+1:Nat):Int)∧m+1+(q+1)≤d.size∧Hid (Rw wr g dk)∧Hid (Sf wr g)∧Hid (CompInv d (m+1+(q+1)) kk dk)∧Hid (Off (fun x=>x=g) W wr)) (fun _ i _=>d.size-(intOf i).toNat)
    case atStart=>exact ⟨m+1,0,d,by go_num,rfl,by omega,HR2,HS2,ak (CompInv.start HK.out HDup.out),vJ⟩
    case round=>
     obtain ⟨kk,q,dk,rfl,rfl,hq,HR,HS,HI,HO⟩:=hrel
     have hkk:=HI.out.lt
     have hds:=HI.out.size
     have hzw:=HO.out.size
     have aex:((q+1:Nat):Int)=(q:Int)+1:=by omega
     by_cases hql:q+1<n2
     ·have hdq:decide (((q+1:Nat):Int)<(n2:Int))=true:=eD (by omega)
      have hdq2:decide ((q:Int)+1<(n2:Int))=true:=eD (by omega)
      have hmq:m+1+(q+1)<d.size:=by have:=Pp.out;omega
      obtain ⟨⟨x0,x1⟩,hx⟩:∃ x,d[m+1+(q+1)]! = x:=⟨_,rfl⟩
      obtain ⟨⟨y0,y1⟩,hy⟩:∃ x,d[m+1+q]! = x:=⟨_,rfl⟩
      obtain ⟨c0,c1⟩:=HR.out (m+1+(q+1)) (by omega)
      obtain ⟨p0,p1⟩:=HR.out (m+1+q) (by omega)
      rw [HI.out.high _ (by omega),hx,Nat.add_mul] at c0 c1
      rw [HI.out.high _ (by omega),hy,Nat.add_mul] at p0 p1
      have Xu:=ak (And.intro hx hy)
      have HG:=ak (show g<wr.heap.size by omega)
      have hi0:(0:Int)≤(q:Int)+1:=by omega
      have hi1:(q:Int)+1<(n2:Int):=by omega
      have hj0:(0:Int)≤(q:Int):=eu _
      have hj1:(q:Int)<(n2:Int):=by omega
      have hs1:IntKind.i64.wrap ((q:Int)+1-1)=(q:Int):=by rw [show (q:Int)+1-1=(q:Int) by omega];exact gK _ (by omega)
      have hs2:IntKind.i64.wrap (q:Int)=(q:Int):=gK _ (by omega)
      obtain ⟨b,hb⟩:∃ b,decide (((x0,x1):Int×Int)=(y0,y1))=b:=⟨_,rfl⟩
      have hE:=wI x0 x1 y0 y1 b hb
      have HBE2:=ak hb
      clear hx hy hb
      cases b with
      | true=>
       have HI2:=ak (HI.out.skip (keeps_neg (by omega) (by rw [show m+1+(q+1)-1=m+1+q by omega,Xu.out.1,Xu.out.2];exact of_decide_eq_true HBE2.out)))
       go_wp2_with fail
       refine dX (S:=(fun V=>Below (wr).heap.size (wr) V)) (by kernel_rfl) ((aW _ _).drew) (fun ah=>?_)
       refine tk 0 ah ?_
       refine tk 1 ah ?_
       refine tk 2 ah ?_
       refine tk 3 ah ?_ (hy:=fun w aj=>by (try dsimp only at aj);have k0:=(aj.cell (p:=⟨g,(m+1)*2+(q+1)*2,none⟩) HG.out).trans c0;have k1:=(aj.cell (p:=⟨g,(m+1)*2+(q+1)*2+1,none⟩) HG.out).trans c1;clear aj;go_simp;try with_reducible rfl)
       refine tk 4 ah ?_
       refine tk 5 ah ?_
       refine tk 6 ah ?_
       refine tk 7 ah ?_
       refine tk 8 ah ?_ (hy:=fun w aj=>by (try dsimp only at aj);have k0:=(aj.cell (p:=⟨g,(m+1)*2+q*2,none⟩) HG.out).trans p0;have k1:=(aj.cell (p:=⟨g,(m+1)*2+q*2+1,none⟩) HG.out).trans p1;clear aj;go_simp;try with_reducible rfl)
       refine tk 9 ah ?_
       refine dQ ?_
       have HF:=ak ah
       clear ah
       have HR3:=ak (HR.out.below HG.out HF.out)
       have vH:=ak (HS.out.below HG.out HF.out)
       have MX:=ak (HO.out.of_below HF.out)
       clear HF c0 c1 p0 p1 hE
       go_wp2
       go_roundw
       case rel=>exact ⟨kk,q+1,dk,rfl,by go_num,by omega,HR3,vH,HI2,MX⟩
       case measure=>simp [intOf];omega
      | false=>
       have HI2:=ak (show CompInv d (m+1+(q+1)+1) (kk+1) (dk.setIfInBounds kk (x0,x1)) from by
        have:=HI.out.keep hmq (keeps_pos (by rw [show m+1+(q+1)-1=m+1+q by omega,Xu.out.1,Xu.out.2];exact of_decide_eq_false HBE2.out))
        rw [Xu.out.1] at this
        exact this)
       go_wp2_with fail
       refine dX (S:=(fun V=>Below (wr).heap.size (wr) V)) (by kernel_rfl) ((aW _ _).drew) (fun ah=>?_)
       refine tk 0 ah ?_
       refine tk 1 ah ?_
       refine tk 2 ah ?_
       refine tk 3 ah ?_ (hy:=fun w aj=>by (try dsimp only at aj);have k0:=(aj.cell (p:=⟨g,(m+1)*2+(q+1)*2,none⟩) HG.out).trans c0;have k1:=(aj.cell (p:=⟨g,(m+1)*2+(q+1)*2+1,none⟩) HG.out).trans c1;clear aj;go_simp;try with_reducible rfl)
       refine tk 4 ah ?_
       refine tk 5 ah ?_
       refine tk 6 ah ?_
       refine tk 7 ah ?_
       refine tk 8 ah ?_ (hy:=fun w aj=>by (try dsimp only at aj);have k0:=(aj.cell (p:=⟨g,(m+1)*2+q*2,none⟩) HG.out).trans p0;have k1:=(aj.cell (p:=⟨g,(m+1)*2+q*2+1,none⟩) HG.out).trans p1;clear aj;go_simp;try with_reducible rfl)
       refine tk 9 ah ?_
       refine dQ ?_
       have HF:=ak ah
       clear ah
       have HR3:=ak (HR.out.below HG.out HF.out)
       have vH:=ak (HS.out.below HG.out HF.out)
       have MX:=ak (HO.out.of_below HF.out)
       have r0:=(HF.out.cell (p:=⟨g,(m+1)*2+(q+1)*2,none⟩) HG.out).trans c0
       have r1:=(HF.out.cell (p:=⟨g,(m+1)*2+(q+1)*2+1,none⟩) HG.out).trans c1
       obtain ⟨t0,t1⟩:=HR3.out kk (by omega)
       have s0:=vH.out (kk*2)
       have s1:=vH.out (kk*2+1)
       obtain ⟨w3,hw3⟩:∃ w,w=wr.drew:=⟨_,rfl⟩
       rw [←hw3] at HR3 vH MX r0 r1 t0 t1 s0 s1
       rw [←hw3]
       have HR4:=ak (HR3.out.set (i:=kk) (by omega) x0 x1)
       have Dn:=ak ((vH.out.set (i:=kk*2) (.int .i64 x0)).set (i:=kk*2+1) (.int .i64 x1))
       have HO4:=ak ((MX.out.setCell (p:=⟨g,kk*2,none⟩) rfl (.int .i64 x0)).setCell (p:=⟨g,kk*2+1,none⟩) rfl (.int .i64 x1))
       have hk0:(0:Int)≤(kk:Int):=eu _
       have hk1:(kk:Int)<(d.size:Int):=by omega
       clear HF c0 c1 p0 p1 hE hw3
       go_wp2
       go_roundw
       case rel=>exact ⟨kk+1,q+1,_,by go_num,by go_num,by omega,HR4,Dn,HI2,HO4⟩
       case measure=>simp [intOf];omega
     ·have hdq:decide (((q+1:Nat):Int)<(n2:Int))=false:=dS (by omega)
      have hdq2:decide ((q:Int)+1<(n2:Int))=false:=dS (by omega)
      have hend:m+1+(q+1)=d.size:=by have:=Pp.out;omega
      have hnk:¬cap=kk:=by omega
      have hnk2:¬kk=cap:=by omega
      obtain ⟨w4,hr4,hk4,Xp,hO4⟩:=Cq wr 37373737 g (kk*2) (d.size-kk) (cap-kk) (by omega) (fun j hj=>by
       have h5:=HR.out (kk+j / 2) (by omega)
       rcases Nat.mod_two_eq_zero_or_one j with e | e
       ·rw [show kk*2+j=(kk+j / 2)*2 by omega,h5.1];rfl
       ·rw [show kk*2+j=(kk+j / 2)*2+1 by omega,h5.2];rfl) HS.out
      have HFin:=ak (show Zp g cap d W (.returned (.slice (some ⟨g,0,none⟩) kk cap)) w4 from by
       have hI:=HI.out
       rw [hend] at hI
       refine ⟨by rw [hI.len],fun j x hx=>?_,Xp,HO.out.trans hO4⟩
       have hjk:j<kk:=by have:=kM hx;rw [hI.len] at this;exact this
       have h6:=hI.low j hjk
       rw [h6] at hx
       obtain rfl:=fC hx
       rw [hk4 _ (by omega),hk4 _ (by omega)]
       exact HR.out j (by omega))
      have hr5:∀ ty,(Builtin.clear_ #[155] ty #[.slice (some ⟨g,kk*2,none⟩) (d.size-kk) (cap-kk)]).run Tryz.prog wr=.ok (.tuple #[]) w4:=fun ty=>hr4
      clear hr4 hk4 Xp hO4
      go_wp2
      go_ret
      exact HFin.out
  ·have hdl:decide (((m+1:Nat):Int)<(d.size:Int))=false:=dS (by omega)
   have hdl2:decide ((m:Int)+1<(d.size:Int))=false:=dS (by omega)
   have HO:=ak (Off.of_below (S:=fun x=>x=g) (Off.refl _ W) HB.out)
   go_wp2
   go_ret
   exact Iy rfl (fun j hj=>HK.out j (by omega)) HR.out HS.out HO.out
theorem W9 {L:List ay}(h:gL L){a:ay}(ha:a∈L):dH.rP a.1 a.2:=by
 obtain ⟨i,hi⟩:=List.getElem?_of_mem ha
 have:=(h.2.2 i (kM hi) a hi).1
 exact (dH.AX _ _).1 this
theorem Cg {C:List (List ay)}(h:iW C):0<C.flatten.length∧C.flatten.length≤24∧∀ a∈C.flatten,dH.rP a.1 a.2:=by
 obtain ⟨h1,h6,hc⟩:=h
 have hmem:∀ x∈C,gL x:=fun x hx=>by
  obtain ⟨i,hi⟩:=List.getElem?_of_mem hx
  exact hc i x hi
 refine ⟨?_,?_,fun a ha=>?_⟩
 ·match C,h1,hmem with
  | x::xs,_,hm=>rw [List.flatten_cons,List.length_append];have:=(hm x List.mem_cons_self).1;omega
 ·have:∀ (M:List (List ay)),(∀ x∈M,gL x)→M.flatten.length≤4*M.length:=by
   intro M
   induction M with
   | nil=>intro _;simp
   | cons x xs ih=>
    intro hm
    rw [List.flatten_cons,List.length_append,List.length_cons]
    have:=(hm x List.mem_cons_self).2.1
    have:=ih fun y hy=>hm y (List.mem_cons_of_mem _ hy)
    omega
  have:=this C hmem
  omega
 ·obtain ⟨x,hx,ha⟩:=List.mem_flatten.1 ha
  exact W9 (hmem x hx) ha
theorem Fz {C:List (List ay)}(h:iW C){d:Array Lb}(hm:∀ a,(∃ j,j<d.size∧d[j]! = a)↔a∈C.flatten)(hs:∀ i j,i<j→j<d.size→¬(d[j]!.1<d[i]!.1∨d[j]!.1=d[i]!.1∧d[j]!.2<d[i]!.2)):compactUpTo d d.size=iw C:=by
 obtain ⟨h1,h2,_⟩:=rG (d:=d) (fun i j hij hj=>hs i j hij hj) d.size (bK _)
 refine yg h1 (rA C 32) fun a=>?_
 rw [h2,hm]
 show _↔a∈iw C
 rw [Bp,List.mem_flatten]
 constructor
 ·rintro ⟨x,hx,ha⟩
  exact ⟨(Cg h).2.2 a (List.mem_flatten.2 ⟨x,hx,ha⟩),x,hx,ha⟩
 ·rintro ⟨_,x,hx,ha⟩
  exact ⟨x,hx,ha⟩
theorem rH {d:Array Lb}:∀ m,(compactUpTo d m).length≤m
 | 0=>bK _
 | m+1=>by
  rw [compactUpTo_succ,List.length_append]
  have:=rH (d:=d) m
  split <;> simp <;> omega
theorem Ei {C:List (List ay)}{ca:Option Addr}{cc:Nat}{W:World}(hR:iW C)(hC:aJ (Sl av) W W.heap.size C ca cc) :
 Calls Tryz.prog 188 #[.slice ca C.length cc] W (jU av (iw C) W):=by
 obtain ⟨hf0,hf24,_⟩:=Cg hR
 have HR:=ak hR
 obtain ⟨M,hM⟩:∃ M,iw C=M:=⟨_,rfl⟩
 have HM:=ak hM
 rw [hM]
 clear hM
 have hcon:=Jz (W:=W) (by omega) hC
 have hlc:=fun (d:Array Lb) h1 h2=>(Fz (d:=d) HR.out h1 h2).trans HM.out
 obtain ⟨F,hF⟩:∃ F,C.flatten=F:=⟨_,rfl⟩
 rw [hF] at hf0 hf24 hcon hlc
 have HLC:=ak hlc
 have HCON:=ak hcon
 clear hF hlc hcon
 go_enter Tryz.func188,Tryz.ntmps188
 go_wp2_with fail
 refine HCON.out.mono ?_
 intro e w1 h
 obtain ⟨v,lo,rfl,hlo,hlw,hrow,hb⟩:=Ea h
 obtain ⟨a1,c1,rfl,ho⟩:=hrow.sl au mV
 have HRd:=ak (ho.rd au (B:=w1.heap.size) fun k hk=>(hrow.blk k hk).2)
 have HB1:=ak hb
 have hz1:=hb.size
 clear h hrow ho hb hC
 go_wp2_with fail
 refine (I6 (by omega) hf0 HRd.out).mono ?_
 intro e w2 h
 obtain ⟨g,c,d,rfl,hdc,hcm,hg1,hg2,hRw,hSf,hds,hmem,hso,hb⟩:=QI h
 have HRw:=ak hRw
 have HSf:=ak hSf
 have HE:=ak (HLC.out d hmem hso)
 have HB2:=ak (HB1.out.trans (hb.mono hz1))
 have hz2:=HB2.out.size
 have HCM:=ak hcm
 have hd24:d.size≤24:=by omega
 clear h hRw hSf hmem hso hb hcm hds
 go_wp2_with fail
 have hcp:=FH HRw.out HSf.out (by omega) hdc hg2
 have hlen:=rH (d:=d) d.size
 unfold Zp at hcp
 rw [HE.out] at hcp hlen
 refine hcp.mono ?_
 rintro e w3 ⟨rfl,hcl,hSf3,hoff⟩
 have HB3:=ak (HB2.out.trans (hoff.below hz2 fun k hk=>by rw [hk];omega))
 have HN:=ak (show bH av w3 (Rg W.heap.size w3.heap.size) M (some ⟨g,0,none⟩) c from
  ⟨by omega,HCM.out,fun _=>⟨g,fun _ _=>False,rfl,⟨by omega,bV hg2 hoff.size⟩,hSf3,fun i k h=>h.elim,fun i j k _ h=>h.elim,fun i x hx=>by
   obtain ⟨x0,x1⟩:=x
   obtain ⟨q0,q1⟩:=hcl i _ hx
   exact ⟨[.int .i64 x0,.int .i64 x1],aR.cons.2 ⟨q0,aR.cons.2 ⟨q1,aR.nil⟩⟩,pY⟩⟩⟩)
 clear hcl hSf3 hoff hlen hcp
 go_wp2
 go_ret
 exact ⟨_,c,rfl,HN.out,HB3.out⟩
end
section
open Go.RowKit bN bO bJ bQ CF
def xJ (f t:ay)(p:bA):Prop:=p.1=f∧p.2.1=t
instance (f t:ay) (p:bA):Decidable (xJ f t p):=by unfold xJ;exact inferInstance
def Xm (P:List bA)(f t:ay):Int:=match P.findIdx? (fun p=>decide (xJ f t p)) with
 | some i=>(i:Int)
 | none=>-1
theorem Z5 {P:List bA}{f t:ay}{k:Nat}{x:bA}(hx:P[k]? = some x)(hh:xJ f t x)(ha:∀ (q:Nat) y,q<k→P[q]? = some y→¬xJ f t y):Xm P f t=(k:Int):=by
 have h:P.findIdx? (fun p=>decide (xJ f t p))=some k:=by
  rw [List.findIdx?_eq_some_iff_getElem]
  obtain ⟨hk,hxe⟩:=List.getElem?_eq_some_iff.1 hx
  refine ⟨hk,by rw [hxe];exact eD hh,fun j hj=>?_⟩
  have:=ha j P[j] hj (List.getElem?_eq_getElem _)
  simpa using this
 unfold Xm
 rw [h]
theorem Ie {P:List bA}{f t:ay}(ha:∀ (q:Nat) y,P[q]? = some y→¬xJ f t y):Xm P f t=-1:=by
 have h:P.findIdx? (fun p=>decide (xJ f t p))=none:=by
  rw [List.findIdx?_eq_none_iff]
  intro x hx
  obtain ⟨i,hi⟩:=List.getElem?_of_mem hx
  exact dS (ha i x hi)
 unfold Xm
 rw [h]
theorem U9 {P:List bA}{f t:ay}:0≤Xm P f t↔∃ (q:Nat)(y:bA),P[q]? = some y∧xJ f t y:=by
 constructor
 ·intro h
  refine Classical.byContradiction fun hn=>?_
  rw [Ie fun q y hy hh=>hn ⟨q,y,hy,hh⟩] at h
  omega
 ·rintro ⟨q,y,hy,hh⟩
  refine Classical.byContradiction fun hn=>?_
  unfold Xm at hn
  split at hn
  ·omega
  ·rename_i h
   rw [List.findIdx?_eq_none_iff] at h
   have:=h y (List.mem_of_getElem? hy)
   exact absurd hh (of_decide_eq_false this)
theorem NT {α:Type}{E:Rp α}{W:World}{B:Nat}{L:List α}{a:Option Addr}{c:Nat}(h:aJ E W B L a c)(k:Nat):aJ E W B (L.take k) a c:=by
 refine ⟨by rw [List.length_take];have:=h.1;omega,h.2.1,fun hk=>?_⟩
 rw [List.length_take] at hk
 obtain ⟨g,o,ha,hg,hc⟩:=h.2.2 (by omega)
 refine ⟨g,o,ha,hg,fun i x hx=>hc i x ?_⟩
 rw [List.getElem?_take] at hx
 split at hx
 ·exact hx
 ·cases hx
theorem ab2 (x0 x1 x2 x3 x4 f0 f1 t0 t1:Int)(b1 b2:Nat){b:Bool}{W:World}(hb:decide (xJ (f0,f1) (t0,t1) ((x0,x1),(x2,x3),x4))=b)(h1:aO W b1 49 #[.int .i64 f0,.int .i64 f1])(h2:aO W b2 49 #[.int .i64 t0,.int .i64 t1]) :
 Calls Tryz.prog 258 #[.agg #[.int .i64 x0,.int .i64 x1,.int .i64 x2,.int .i64 x3,.int .i64 x4],.pointer (some ⟨b1,0,none⟩),.pointer (some ⟨b2,0,none⟩)] W fun e w'=>e=.returned (.bool b)∧Below W.heap.size W w':=by
 have HB0:=ak (show Below W.heap.size W (W.alloc (.cells #[.int .i64 x0,.int .i64 x1,.int .i64 x2,.int .i64 x3,.int .i64 x4] 176)) from (aW _ _).alloc (bK _) _)
 have H1:=h1.alloc (.cells #[.int .i64 x0,.int .i64 x1,.int .i64 x2,.int .i64 x3,.int .i64 x4] 176)
 have H2:=h2.alloc (.cells #[.int .i64 x0,.int .i64 x1,.int .i64 x2,.int .i64 x3,.int .i64 x4] 176)
 have a0:(W.alloc (.cells #[.int .i64 x0,.int .i64 x1,.int .i64 x2,.int .i64 x3,.int .i64 x4] 176)).cell? ⟨b1,0,none⟩=some (.int .i64 f0):=H1.at_ 0 rfl
 have a1:(W.alloc (.cells #[.int .i64 x0,.int .i64 x1,.int .i64 x2,.int .i64 x3,.int .i64 x4] 176)).cell? ⟨b1,1,none⟩=some (.int .i64 f1):=H1.at_ 1 rfl
 have d0:(W.alloc (.cells #[.int .i64 x0,.int .i64 x1,.int .i64 x2,.int .i64 x3,.int .i64 x4] 176)).cell? ⟨b2,0,none⟩=some (.int .i64 t0):=H2.at_ 0 rfl
 have d1:(W.alloc (.cells #[.int .i64 x0,.int .i64 x1,.int .i64 x2,.int .i64 x3,.int .i64 x4] 176)).cell? ⟨b2,1,none⟩=some (.int .i64 t1):=H2.at_ 1 rfl
 clear H1 H2 h1 h2
 obtain ⟨q1,hq1⟩:∃ b,decide (((x0,x1):Int×Int)=(f0,f1))=b:=⟨_,rfl⟩
 obtain ⟨q2,hq2⟩:∃ b,decide (((x2,x3):Int×Int)=(t0,t1))=b:=⟨_,rfl⟩
 have hE1:=iK _ _ _ _ _ hq1
 have hE2:=iK _ _ _ _ _ hq2
 have HQ:=ak (show b=(q1&&q2) from by rw [←hb,←hq1,←hq2,←Bool.decide_and];exact decide_eq_decide.2 Iff.rfl)
 clear hb hq1 hq2
 go_enter Tryz.func258,Tryz.ntmps258
 cases q1 with
 | false=>
  go_wp2
  go_ret
  exact ⟨by rw [HQ.out];rfl,HB0.out⟩
 | true=>
  go_wp2
  go_ret
  exact ⟨by rw [HQ.out];rfl,HB0.out⟩
theorem FC {P:List bA}{pa:Option Addr}{pc b1 b2:Nat}{f0 f1 t0 t1:Int}{W:World}(hP:aJ aT W W.heap.size P pa pc)(h1:aO W b1 49 #[.int .i64 f0,.int .i64 f1])(h2:aO W b2 49 #[.int .i64 t0,.int .i64 t1]) :
 Calls Tryz.prog 257 #[.slice pa P.length pc,.func (.func 258) #[] #[.pointer (some ⟨b1,0,none⟩),.pointer (some ⟨b2,0,none⟩)]] W (Xt (Xm P (f0,f1) (t0,t1)) W):=by
 have hn:P.length≤9223372036854775807:=by have h1:=hP.1;have h2:=hP.2.1;unfold maxLen at h2;omega
 have HP:=ak hP
 have H1:=ak h1
 have H2:=ak h2
 clear hP h1 h2
 go_enter Tryz.func257,Tryz.ntmps257
 go_wp2
 go_loopw [8] (fun i wr=>∃ k:Nat,k≤P.length∧i=.int .i64 k∧Hid (∀ (q:Nat) y,q<k→P[q]? = some y→¬xJ (f0,f1) (t0,t1) y)∧Below W.heap.size W wr) (fun i _=>P.length-(intOf i).toNat)
 case atStart=>exact ⟨0,dV _,rfl,ak fun q y h=>absurd h (gZ _),aW _ _⟩
 case round=>
  obtain ⟨k,hk,rfl,HA,hB⟩:=hrel
  have HB:=ak hB
  have hsz:=hB.size
  by_cases hlt:k<P.length
  ·have hdl:decide ((k:Int)<(P.length:Int))=true:=eD (by omega)
   obtain ⟨⟨⟨x0,x1⟩,⟨x2,x3⟩,x4⟩,hx⟩:=aM hlt
   have HX:=ak hx
   obtain ⟨g,o,us,rfl,hg,hu,hr⟩:=(HP.out.below aG hB).at_ hx
   obtain rfl:=lC hr
   obtain ⟨e0,e1,e2,e3,e4⟩:=Tj (a:=o+k*5) hu rfl
   have hi0:(0:Int)≤(k:Int):=eu _
   have hi1:(k:Int)<(P.length:Int):=by omega
   have eg:∀ args w,(callFunc 258 args).run Tryz.prog w=.ok (.enter 258 args) w:=enters_of Tryz.func258 (by kernel_rfl) rfl
   obtain ⟨b,hb⟩:∃ b,decide (xJ (f0,f1) (t0,t1) ((x0,x1),(x2,x3),x4))=b:=⟨_,rfl⟩
   have HBb:=ak hb
   clear hB hx hu hr hb
   go_wp2_with fail
   refine (ab2 x0 x1 x2 x3 x4 f0 f1 t0 t1 b1 b2 HBb.out (H1.out.call HB.out) (H2.out.call HB.out)).mono ?_
   rintro e w1 ⟨rfl,hb⟩
   have HB1:=ak (HB.out.trans (hb.mono hsz))
   clear hb e0 e1 e2 e3 e4
   cases b with
   | true=>
    have HE:=ak (Z5 HX.out (of_decide_eq_true HBb.out) HA.out)
    go_wp2
    go_ret
    exact ⟨by rw [HE.out];rfl,HB1.out⟩
   | false=>
    have HA2:=ak (show ∀ (q:Nat) y,q<k+1→P[q]? = some y→¬xJ (f0,f1) (t0,t1) y from fun q y hq hy=>by
     by_cases e:q=k
     ·subst e;rw [HX.out] at hy;obtain rfl:=fC hy
      exact of_decide_eq_false HBb.out
     ·exact HA.out q y (by omega) hy)
    go_wp2
    go_roundw
    case rel=>exact ⟨k+1,by omega,by go_num,HA2,HB1.out⟩
    case measure=>simp [intOf];omega
  ·have hdl:decide ((k:Int)<(P.length:Int))=false:=dS (by omega)
   have HE:=ak (Ie (f:=(f0,f1)) (t:=(t0,t1)) fun q y hy=>HA.out q y (by have:=kM hy;omega) hy)
   clear hB
   go_wp2
   go_ret
   exact ⟨by rw [HE.out];rfl,HB.out⟩
theorem Jb {P:List bA}{pa:Option Addr}{pc:Nat}{f0 f1 t0 t1:Int}{W:World}(hP:aJ aT W W.heap.size P pa pc) :
 Calls Tryz.prog 232 #[.slice pa P.length pc,.agg #[.int .i64 f0,.int .i64 f1],.agg #[.int .i64 t0,.int .i64 t1]] W (Xt (Xm P (f0,f1) (t0,t1)) W):=by
 have hmf:∀ (fn:Fn) (first cap:Array Value) (w:World),(Instr.makeFunc fn first cap).run Tryz.prog w=.ok (.func fn first cap) w:=fun _ _ _ _=>rfl
 obtain ⟨w0,hw0⟩:∃ w,w=(W.alloc (.cells #[.int .i64 f0,.int .i64 f1] 49)).alloc (.cells #[.int .i64 t0,.int .i64 t1] 49):=⟨_,rfl⟩
 have hb0:Below W.heap.size W w0:=by rw [hw0];exact ((aW _ _).alloc (bK _) _).alloc (by simp) _
 have h1:aO w0 W.heap.size 49 #[.int .i64 f0,.int .i64 f1]:=by rw [hw0];exact (aO.new _ _ _).alloc _
 have h2:aO w0 (W.heap.size+1) 49 #[.int .i64 t0,.int .i64 t1]:=by
  have h9:=aO.new (W.alloc (.cells #[.int .i64 f0,.int .i64 f1] 49)) 49 #[.int .i64 t0,.int .i64 t1]
  simp only [World.size_alloc] at h9
  rw [hw0];exact h9
 have HP:=ak (aD aG hP hb0)
 have H1:=ak h1
 have H2:=ak h2
 have HB0:=ak hb0
 have hz0:=hb0.size
 clear h1 h2 hb0 hP
 go_enter Tryz.func232,Tryz.ntmps232
 go_wp2_with fail
 rw [←hw0]
 clear hw0
 refine (FC HP.out H1.out H2.out).mono ?_
 intro e w1 h
 obtain ⟨rfl,hb⟩:=iB h
 have HB1:=ak (HB0.out.trans (hb.mono hz0))
 clear h hb
 go_wp2
 go_ret
 exact ⟨rfl,HB1.out⟩
end
end aQ
end Go.Proofs.YtlhfiapfncikdaaGreatDoor
