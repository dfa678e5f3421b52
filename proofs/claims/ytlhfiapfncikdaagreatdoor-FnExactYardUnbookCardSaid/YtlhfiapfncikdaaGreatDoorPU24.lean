import Derived.Test.YtlhfiapfncikdaaGreatDoorPU13
import Derived.Test.YtlhfiapfncikdaaGreatDoorPU19
import Derived.Test.YtlhfiapfncikdaaGreatDoorPU22
import Derived.Test.YtlhfiapfncikdaaGreatDoorPU23
set_option linter.unusedVariables false
set_option linter.unusedSimpArgs false
set_option maxRecDepth 100000
set_option maxHeartbeats 3200000
namespace Go.Proofs.YtlhfiapfncikdaaGreatDoor.aP
section
open Go.RowKit bN bP bJ bM fT
theorem LM {L:List aG}{a:Option Addr}{cap:Nat}{W:World}(hn:L.length≤1048576)(h:aH aI W W.heap.size L a cap) :
 Calls Tryz.prog 210 #[.slice a L.length cap] W (Ui aI 72 L W):=by
 have qT:∀ (w:World) (a:Option Addr) (n c n' c':Nat),(binOp .eql 41 (.slice a n c) (.slice none n' c')).run Tryz.prog w=.ok (.bool a.isNone) w:=fun w a n c n' c'=>Lib.run_eql_slice_nil w _ _ a n c n' c' Tryz.underlying41
 cases a with
 | none=>
  have h0:L.length=0:=by
   by_cases hp:0<L.length
   ·obtain ⟨g,o,he,_⟩:=h.2.2 hp
    cases he
   ·omega
  have hL:L = []:=List.eq_nil_of_length_eq_zero h0
  subst hL
  go_enter Tryz.func210,Tryz.ntmps210
  go_wp2
  go_ret
  exact ⟨none,0,_,rfl,Hw aI _ _,aU _ _⟩
 | some x=>
  obtain ⟨iL,Jy,sF,hsL,hbL⟩:=Hl
  obtain ⟨a',c',w5,xs,hr,hos,hb⟩:=Ip (P:=Tryz.prog) (ty:=41) ay Tryz.underlying41 Jy sF hsL hbL rfl (by decide) (by unfold maxLen;omega) (by omega) h
  clear Jy sF hsL hbL
  have HR:=aj hr
  have HO:=aj hos
  have HB:=aj hb
  clear hr hos hb h
  go_enter Tryz.func210,Tryz.ntmps210
  go_wp2_with (at_builtin;refine dR rfl (.tmp 5) (.tmp 6) 41 rfl rfl rfl HR.out ?_)
  go_ret
  exact ⟨a',c',xs,rfl,HO.out,HB.out⟩
theorem Jf {L:List aG}{a:Option Addr}{cap:Nat}{W:World}(hsz:(Sl aI).sz L≤1048576)(h:aH aI W W.heap.size L a cap) :
 Calls Tryz.prog 139 #[.slice a L.length cap] W (jW aI L W):=by
 have hn:L.length≤1048576:=eH (Nat.le_add_right _ _) hsz
 have ni:=aj hsz
 have Mx:=aj (LM hn h)
 clear h hsz
 go_enter Tryz.func139,Tryz.ntmps139
 go_wp2_with fail
 refine Mx.out.mono ?_
 intro e w1 h
 obtain ⟨ja,jc,xs0,rfl,hh,hb⟩:=BO h
 have HH1:=aj hh
 have HB1:=aj hb
 clear h hh hb Mx
 go_wp2
 go_loopw [10] (fun i wr=>∃ k:Nat,k≤L.length∧i=.int .i64 k∧Hid (∃ hi xs Sf,Half aI W.heap.size wr W.heap.size hi 72 (.slice ja L.length jc) L k xs Sf)∧Below W.heap.size W wr) (fun i _=>L.length-(intOf i).toNat)
 case atStart=>exact ⟨0,dX _,rfl,aj ⟨_,_,_,HH1.out⟩,HB1.out⟩
 case round=>
  obtain ⟨k,hk,rfl,HH,hB⟩:=hrel
  obtain ⟨hi,xs,Sf,hh⟩:=HH.out
  have wT:=aj hh
  have HB:=aj hB
  have hsz:=hB.size
  by_cases hlt:k<L.length
  ·skip
   obtain ⟨⟨⟨x0,x1⟩,x2,x3,x4,x5,x6,⟨x7,x8⟩,x9,x10,aR,aW,M⟩,hx⟩:=aL hlt
   have HX:=aj hx
   have HSI:=aj (aad ni.out hx)
   obtain ⟨g,rfl⟩:∃ g,ja=some ⟨g,0,none⟩:=by
    obtain ⟨h0,h1⟩:=hh.own
    rcases h1 with ⟨e,h1⟩ | ⟨g,c',cur,e,_⟩
    ·omega
    ·cases e;exact ⟨g,rfl⟩
   obtain ⟨us,hu,hr,WZ⟩:=wT.out.at_ (bK _) hx
   have hgb:=wT.out.blk g rfl
   have hgl:g<wr.heap.size:=bV hgb.2 wT.out.le
   obtain ⟨ba,bc,rfl,sH,gW⟩:=fu hr
   obtain ⟨e0,e1,e2,e3,e4,e5,e6,e7,e8,e9,e10,e11,e12,e13⟩:=qz (a:=k*14) hu rfl
   have HUS:=aj WZ
   have hi0:(0:Int)≤(k:Int):=eu _
   have hi1:(k:Int)<(L.length:Int):=by omega
   have Mt:=aj gW
   have HL3:=HSI.out.1
   have HLM:=HSI.out.2
   obtain ⟨w2,hw2⟩:∃ w,w=wr.alloc (.cells #[.int .i64 x0,.int .i64 x1,.int .i64 x2,.string x3,.int .i64 x4,.int .i64 x5,.int .i64 x6,.int .i64 x7,.int .i64 x8,.int .i64 x9,.int .i64 x10,.int .i64 aR,.int .i64 aW,.slice ba M.length bc] 72):=⟨_,rfl⟩
   have hb2:Below wr.heap.size wr w2:=by rw [hw2];exact (aU _ _).alloc (bK _) _
   have iD:=aj (show aN w2 wr.heap.size 72 #[.int .i64 x0,.int .i64 x1,.int .i64 x2,.string x3,.int .i64 x4,.int .i64 x5,.int .i64 x6,.int .i64 x7,.int .i64 x8,.int .i64 x9,.int .i64 x10,.int .i64 aR,.int .i64 aW,.slice ba M.length bc] from by rw [hw2];exact aN.new _ _ _)
   have HB2:=aj hb2
   have HK2:=aj ((sH.below cO (hb2.mono hsz)).more cO (eH hsz hb2.size))
   clear hB hx hu hr hh hb2 sH gW WZ
   go_upto_region 5 with fail
   rw [←hw2]
   clear hw2
   obtain ⟨q0,q1,q2,q3,q4,q5,q6,q7,q8,q9,RL,RJ,RI,LZ⟩:=iD.out.fQ rfl
   go_wp2_with fail
   refine (LH (by simpa using HL3) (by simpa using HLM) HK2.out).mono ?_
   intro e w5 h
   obtain ⟨us5,rfl,hu5,hb5⟩:=bX h
   obtain ⟨a5,c5,T5,rfl,hT,ho,_⟩:=zH hu5
   have hbw:Below wr.heap.size wr w5:=HB2.out.trans (hb5.mono HB2.out.size)
   obtain ⟨xs',zQ,hH,hsf⟩:=wT.out.step ay HX.out HUS.out (p:=13) (by decide) rfl (u:=.slice a5 M.length c5) hbw (oN (T0:=Rg w2.heap.size w5.heap.size) (fun q hq=>⟨eH HB2.out.size hq.1,hq.2⟩) (ho.more hT) Mt.out)
   have HH5:=aj hH
   have HBN:=aj (show Below W.heap.size W (w5.setCell ⟨g,k*14+13,none⟩ (.slice a5 M.length c5)) from (HB.out.trans (hbw.mono hsz)).setCell (p:=⟨g,k*14+13,none⟩) hgb.1 _)
   have e0':w5.cell? ⟨g,k*14,none⟩=some (.int .i64 x0):=(hbw.cell (p:=⟨g,k*14,none⟩) hgl).trans e0
   have f0':=(hbw.frozen (p:=⟨g,k*14,none⟩) hgl).trans (wT.out.soft (k*14))
   have i0:=eD e0'
   have e1':w5.cell? ⟨g,k*14+1,none⟩=some (.int .i64 x1):=(hbw.cell (p:=⟨g,k*14+1,none⟩) hgl).trans e1
   have f1':=(hbw.frozen (p:=⟨g,k*14+1,none⟩) hgl).trans (wT.out.soft (k*14+1))
   have i1:=eD e1'
   have e2':w5.cell? ⟨g,k*14+2,none⟩=some (.int .i64 x2):=(hbw.cell (p:=⟨g,k*14+2,none⟩) hgl).trans e2
   have f2':=(hbw.frozen (p:=⟨g,k*14+2,none⟩) hgl).trans (wT.out.soft (k*14+2))
   have i2:=eD e2'
   have e3':w5.cell? ⟨g,k*14+3,none⟩=some (.string x3):=(hbw.cell (p:=⟨g,k*14+3,none⟩) hgl).trans e3
   have f3':=(hbw.frozen (p:=⟨g,k*14+3,none⟩) hgl).trans (wT.out.soft (k*14+3))
   have i3:=eD e3'
   have e4':w5.cell? ⟨g,k*14+4,none⟩=some (.int .i64 x4):=(hbw.cell (p:=⟨g,k*14+4,none⟩) hgl).trans e4
   have f4':=(hbw.frozen (p:=⟨g,k*14+4,none⟩) hgl).trans (wT.out.soft (k*14+4))
   have i4:=eD e4'
   have e5':w5.cell? ⟨g,k*14+5,none⟩=some (.int .i64 x5):=(hbw.cell (p:=⟨g,k*14+5,none⟩) hgl).trans e5
   have f5':=(hbw.frozen (p:=⟨g,k*14+5,none⟩) hgl).trans (wT.out.soft (k*14+5))
   have i5:=eD e5'
   have e6':w5.cell? ⟨g,k*14+6,none⟩=some (.int .i64 x6):=(hbw.cell (p:=⟨g,k*14+6,none⟩) hgl).trans e6
   have f6':=(hbw.frozen (p:=⟨g,k*14+6,none⟩) hgl).trans (wT.out.soft (k*14+6))
   have i6:=eD e6'
   have e7':w5.cell? ⟨g,k*14+7,none⟩=some (.int .i64 x7):=(hbw.cell (p:=⟨g,k*14+7,none⟩) hgl).trans e7
   have f7':=(hbw.frozen (p:=⟨g,k*14+7,none⟩) hgl).trans (wT.out.soft (k*14+7))
   have i7:=eD e7'
   have e8':w5.cell? ⟨g,k*14+8,none⟩=some (.int .i64 x8):=(hbw.cell (p:=⟨g,k*14+8,none⟩) hgl).trans e8
   have f8':=(hbw.frozen (p:=⟨g,k*14+8,none⟩) hgl).trans (wT.out.soft (k*14+8))
   have i8:=eD e8'
   have e9':w5.cell? ⟨g,k*14+9,none⟩=some (.int .i64 x9):=(hbw.cell (p:=⟨g,k*14+9,none⟩) hgl).trans e9
   have f9':=(hbw.frozen (p:=⟨g,k*14+9,none⟩) hgl).trans (wT.out.soft (k*14+9))
   have i9:=eD e9'
   have e10':w5.cell? ⟨g,k*14+10,none⟩=some (.int .i64 x10):=(hbw.cell (p:=⟨g,k*14+10,none⟩) hgl).trans e10
   have f10':=(hbw.frozen (p:=⟨g,k*14+10,none⟩) hgl).trans (wT.out.soft (k*14+10))
   have i10:=eD e10'
   have e11':w5.cell? ⟨g,k*14+11,none⟩=some (.int .i64 aR):=(hbw.cell (p:=⟨g,k*14+11,none⟩) hgl).trans e11
   have f11':=(hbw.frozen (p:=⟨g,k*14+11,none⟩) hgl).trans (wT.out.soft (k*14+11))
   have i11:=eD e11'
   have e12':w5.cell? ⟨g,k*14+12,none⟩=some (.int .i64 aW):=(hbw.cell (p:=⟨g,k*14+12,none⟩) hgl).trans e12
   have f12':=(hbw.frozen (p:=⟨g,k*14+12,none⟩) hgl).trans (wT.out.soft (k*14+12))
   have i12:=eD e12'
   have e13':w5.cell? ⟨g,k*14+13,none⟩=some (.slice ba M.length bc):=(hbw.cell (p:=⟨g,k*14+13,none⟩) hgl).trans e13
   have f13':=(hbw.frozen (p:=⟨g,k*14+13,none⟩) hgl).trans (wT.out.soft (k*14+13))
   clear e0 e1 e2 e3 e4 e5 e6 e7 e8 e9 e10 e11 e12 e13
   clear h hu5 hb5 hT ho hH hsf hbw q0 q1 q2 q3 q4 q5 q6 q7 q8 q9 RL RJ RI LZ
   go_wp2
   go_roundw
   case rel=>
    try simp only [i0,i1,i2,i3,i4,i5,i6,i7,i8,i9,i10,i11,i12]
    exact ⟨k+1,by omega,by go_num,aj ⟨_,_,_,HH5.out⟩,HBN.out⟩
   case measure=>simp [intOf];omega
  ·have hdl:decide ((k:Int)<(L.length:Int))=false:=dU (by omega)
   obtain rfl:k=L.length:=by omega
   obtain ⟨ra,rc,hv,ho⟩:=wT.out.done.done
   have HO:=aj (show bG aI wr (Rg W.heap.size wr.heap.size) L ja jc from by cases hv;exact ho.more fun q hq=>⟨hq.1,bV hq.2 wT.out.le⟩)
   clear hB hv ho hh
   go_wp2
   go_ret
   exact ⟨ja,jc,rfl,HO.out,HB.out⟩
end
end Go.Proofs.YtlhfiapfncikdaaGreatDoor.aP
namespace Go.Proofs.YtlhfiapfncikdaaGreatDoor.abY
section
open Go.RowKit
theorem zI:(Tryz.prog.info? 5).map (fun i=>(i.zero,i.size,i.bytes))=some (some (.int .u8 0),1,1):=by kernel_rfl
theorem zG {a b:ByteArray}(h:a=b):Ending.returned (.string a)=.returned (.string b):=by rw [h]
def bytesOf (l:List UInt8):ByteArray:=⟨l.toArray⟩
theorem xW:(Tryz.prog.info? 5).map (·.size)=some 1:=by kernel_rfl
theorem uS (w:World)(n:Int)(h0:0≤n)(h1:n≤140737488355328) :
 ∃ w1,(Instr.makeSlice 201 (.int .i64 n) (.int .i64 n)).run Tryz.prog w=.ok (.slice (some ⟨w.heap.size,0,none⟩) n.toNat n.toNat) w1 ∧
  (∃ cur:Array Value,cur.size=n.toNat∧w1.heap[w.heap.size]? = some (.cells cur 5 (0,0)))∧Below w.heap.size w w1∧w.heap.size<w1.heap.size:=by
 obtain ⟨i,hi,hz0,hz1,hz2⟩:=info_parts zI
 refine ⟨_,run_make w 201 5 i _ Tryz.underlying201 hi hz0 .i64 .i64 n n h0 (Int.le_refl _) (by rw [hz2];omega) (by omega),?_,(Below.refl _ _).alloc (Nat.le_refl _) _,?_⟩
 ·refine ⟨_,?_,heap_alloc_new _ _⟩
  rw [size_madeCells,hz1]
  omega
 ·show _<(w.heap.push _).size
  simp
theorem Bj (w:World)(g o dLen dCap:Nat)(s:ByteArray)(cur:Array Value)(ty:TypeId)(hg:w.heap[g]? = some (.cells cur 5 (0,0)))(hle:s.size≤dLen)(hfit:o+s.size≤cur.size) :
 ∃ w1,(Builtin.copy_ #[201,9] ty #[.slice (some ⟨g,o,none⟩) dLen dCap,.string s]).run Tryz.prog w=.ok (goInt s.size) w1 ∧
  w1.heap[g]? = some (.cells (cur.toList.take o++Lib.byteCells s.data.toList++cur.toList.drop (o+s.size)).toArray 5 (0,0))∧Below g w w1:=
 ⟨_,Lib.run_copy_row_string w 201 9 ty 5 g o dLen dCap s cur 5 Tryz.underlying201 xW hg hle hfit,setRow_heap w g cur _ _ _ hg,below_setRow (Below.refl _ _) (Nat.le_refl _) _⟩
theorem uK {w:World}{g:Nat}{l:List UInt8}(h:w.heap[g]? = some (.cells (Lib.byteCells l).toArray 5 (0,0)))(h0:l.length≠0)(hl:l.length≤9223372036854775807) :
 (Builtin.unsafeString_ #[285,3] 9 #[.pointer (some ⟨g,0,none⟩),.int .i64 l.length]).run Tryz.prog w=.ok (.string (bytesOf l)) (w.freeze ⟨g,0,none⟩ l.length):=
 Lib.run_unsafeString_row w 285 3 9 5 Tryz.underlying285 (by kernel_rfl) g l.length (by simp [World.shape?,h,Lib.byteCells]) l (fun e=>h0 (by rw [e];rfl)) (Nat.le_refl _) hl (fun j x hj=>by
  have hlt:=(List.getElem?_eq_some_iff.1 hj).1
  have e:(⟨g,0,none⟩:Addr).add j=⟨g,j,none⟩:=by cases j <;> simp [Addr.add]
  rw [e]
  rw [List.getElem?_eq_getElem hlt] at hj
  simp at hj
  subst hj
  simp [World.cell?,h,Lib.byteCells,hlt])
theorem uW (s:ByteArray)(w:World)(hs:s.size≤8000) :
 Calls Tryz.prog 251 #[.string s] w fun e w'=>e=.returned (.string s)∧Below w.heap.size w w':=by
 by_cases h0:s.size=0
 ·have he:Hid (s=ByteArray.empty):=Lib.hid (ByteArray.ext (Array.eq_empty_of_size_eq_zero h0))
  have hb:((s.size:Int)==0)=true:=by simp [h0]
  go_enter Tryz.func251,Tryz.ntmps251
  go_wp2
  go_ret
  exact ⟨zG he.out.symm,Below.refl _ _⟩
 ·have hb:((s.size:Int)==0)=false:=by simp [h0]
  obtain ⟨w1,hmk,⟨cur,hcs,hg1⟩,hb1,hz1⟩:=uS w (s.size:Int) (by omega) (by omega)
  have hn:((s.size:Int)).toNat=s.size:=by omega
  rw [hn] at hmk hcs
  obtain ⟨w2,hc1,hg2,hb2⟩:=Bj w1 w.heap.size 0 s.size s.size s cur 3 hg1 (by omega) (by omega)
  have hg3:w2.heap[w.heap.size]? = some (.cells (Lib.byteCells s.data.toList).toArray 5 (0,0)):=by
   rw [hg2]
   have e:cur.toList.drop (0+s.size) = []:=List.drop_of_length_le (by simp [hcs])
   rw [e]
   simp
  have hun:=uK hg3 (by rw [←Lib.size_eq];exact h0) (by rw [←Lib.size_eq];omega)
  rw [←Lib.size_eq,show bytesOf s.data.toList=s from ByteArray.ext (by simp [bytesOf])] at hun
  have HB:Hid (Below w.heap.size w (w2.freeze ⟨w.heap.size,0,none⟩ s.size)):=Lib.hid (Lib.below_freeze (hb1.trans hb2) (Nat.le_refl _) _)
  have hp:0<s.size:=by omega
  clear hg1 hg2 hg3 hb1 hb2 hcs hz1 hn h0
  go_enter Tryz.func251,Tryz.ntmps251
  go_wp2
  go_ret
  exact ⟨rfl,HB.out⟩
theorem yc (s:ByteArray)(w:World)(hs:s.size≤8000) :
 Calls Tryz.prog 213 #[.string s] w fun e w'=>e=.returned (.string s)∧Below w.heap.size w w':=by
 go_enter Tryz.func213,Tryz.ntmps213
 go_wp2_with fail
 refine (uW _ _ hs).mono ?_
 rintro e w1 ⟨rfl,hb1⟩
 have HB1:=Lib.hid hb1
 clear hb1
 go_wp2
 go_ret
 exact ⟨rfl,HB1.out⟩
end
end Go.Proofs.YtlhfiapfncikdaaGreatDoor.abY
namespace Go.Proofs.YtlhfiapfncikdaaGreatDoor.aP
section
open Go.RowKit bN bP bJ bM fT
theorem EY {w:World}{g i:Nat}{v:Value}(h:w.cell? ⟨g,i,none⟩=some v):w.setCell ⟨g,i,none⟩ v=w:=by
 have e:(w.setCell ⟨g,i,none⟩ v).heap=w.heap:=by
  unfold World.setCell
  apply Array.ext_getElem?
  intro j
  show (Array.modify _ _ _)[j]? = _
  rw [Array.getElem?_modify]
  by_cases hj:g=j
  ·subst hj
   rw [if_pos rfl]
   unfold World.cell? at h
   cases ho:w.heap[g]? with
   | none=>rfl
   | some o=>
    rw [ho] at h
    cases o with
    | cells c t f=>
     simp at h
     simp only [Option.map_some,Option.isSome_none,Bool.false_eq_true,if_false]
     congr 2
     apply Array.ext_getElem?
     intro q
     rw [Array.getElem?_setIfInBounds]
     by_cases hq:i=q
     ·subst hq
      rw [if_pos rfl]
      have:=(Array.getElem?_eq_some_iff.1 h).1
      rw [if_pos this,h]
     ·rw [if_neg hq]
    | _=>simp at h
  ·rw [if_neg hj]
 have e2:w.setCell ⟨g,i,none⟩ v={ w with heap:=(w.setCell ⟨g,i,none⟩ v).heap }:=rfl
 rw [e2,e]
theorem lg.row {w:World}{lo:Nat}{v:Value}{L:List bH}(h:lg w lo v L):∃ a c,v=.slice a L.length c∧∀ i x0 x1 x2 x3,L[i]? = some ((x0,x1),x2,x3)→∃ g,a=some ⟨g,0,none⟩∧g<w.heap.size∧(∀ j,w.frozen? ⟨g,j,none⟩=false)∧x2.size≤maxLen ∧
 w.cell? ⟨g,i*4,none⟩=some (.int .i64 x0)∧w.cell? ⟨g,i*4+1,none⟩=some (.int .i64 x1)∧w.cell? ⟨g,i*4+2,none⟩=some (.string x2)∧w.cell? ⟨g,i*4+3,none⟩=some (.int .i64 x3):=by
 obtain ⟨xs,hi,h0,h1⟩:=h
 obtain ⟨a,c,rfl,h2,h3,h4⟩:=h1.done
 refine ⟨a,c,rfl,fun i x0 x1 x2 x3 hx=>?_⟩
 obtain ⟨g,Sf,rfl,hg,hf,_,_,hel⟩:=h4 (Nat.lt_of_le_of_lt (dX i) (List.getElem?_eq_some_iff.1 hx).1)
 obtain ⟨us,hu,ho⟩:=hel i _ hx
 obtain ⟨rfl,hb⟩:=EL ho
 refine ⟨g,rfl,bV hg.2 h1.le,hf,hb,?_,?_,?_,?_⟩
 ·simpa [dH,Nat.add_assoc] using hu 0 _ rfl
 ·simpa [dH,Nat.add_assoc] using hu 1 _ rfl
 ·simpa [dH,Nat.add_assoc] using hu 2 _ rfl
 ·simpa [dH,Nat.add_assoc] using hu 3 _ rfl
theorem Jg {L:List bH}{a:Option Addr}{cap:Nat}{W:World}(hn:L.length≤1048576)(hs:∀ x∈L,x.2.1.size≤1048576)(h:aH bD W W.heap.size L a cap) :
 Calls Tryz.prog 140 #[.slice a L.length cap] W (jW bD L W):=by
 have HC:=aj (Rc (by omega) h)
 have HS:=aj hs
 clear hs h
 go_enter Tryz.func140,Tryz.ntmps140
 go_wp2_with fail
 refine HC.out.mono ?_
 rintro e w1 ⟨v,rfl,hv,hb⟩
 have HV:=aj hv
 have HB:=aj hb
 obtain ⟨b,c,rfl,hrow⟩:=hv.row
 have HR:=aj hrow
 clear hv hb hrow
 go_wp2_with fail
 go_loopw [10] (fun i wr=>∃ k:Nat,k≤L.length∧i=.int .i64 k∧Below w1.heap.size w1 wr) (fun i _=>L.length-(intOf i).toNat)
 case atStart=>exact ⟨0,dX _,rfl,aU _ _⟩
 case round=>
  obtain ⟨k,hk,rfl,hB⟩:=hrel
  obtain ⟨wo,rfl⟩:∃ x,x=wr:=⟨_,rfl⟩
  have yh:=aj hB
  have hsz:=hB.size
  by_cases hlt:k<L.length
  ·skip
   obtain ⟨⟨⟨x0,x1⟩,x2,x3⟩,hx⟩:=aL hlt
   obtain ⟨g,rfl,hg,hf,oh,f0,f1,f2,f3⟩:=HR.out k _ _ _ _ hx
   have H8:=aj (HS.out _ (List.mem_of_getElem? hx))
   have e0:=(hB.cell (p:=⟨g,k*4,none⟩) hg).trans f0
   have e1:=(hB.cell (p:=⟨g,k*4+1,none⟩) hg).trans f1
   have e2:=(hB.cell (p:=⟨g,k*4+2,none⟩) hg).trans f2
   have e3:=(hB.cell (p:=⟨g,k*4+3,none⟩) hg).trans f3
   have hi0:(0:Int)≤(k:Int):=eu _
   have hi1:(k:Int)<(L.length:Int):=by omega
   have Xg:=aj f2
   have HFF:=aj hf
   obtain ⟨w2,hw2⟩:∃ w,w=wo.alloc (.cells #[.int .i64 x0,.int .i64 x1,.string x2,.int .i64 x3] 128):=⟨_,rfl⟩
   have iE:Below wo.heap.size wo w2:=by rw [hw2];exact (aU _ _).alloc (bK _) _
   have HB2:=aj (hB.trans (iE.mono hsz))
   clear hx oh f0 f1 f2 f3 hB hf iE
   go_wp2_with fail
   rw [←hw2]
   clear hw2 e0 e1 e2 e3
   refine (Kq.yc x2 _ H8.out).mono ?_
   rintro e w3 ⟨rfl,hb3⟩
   have HB3:=aj (HB2.out.trans (hb3.mono HB2.out.size))
   have e2:=(HB3.out.cell (p:=⟨g,k*4+2,none⟩) hg).trans Xg.out
   have ef:=(HB3.out.frozen (p:=⟨g,k*4+2,none⟩) hg).trans (HFF.out _)
   have HSM:=aj (EY e2)
   clear hb3
   go_wp2
   go_roundw
   case rel=>exact ⟨k+1,by omega,by go_num,by first | exact HB3.out | (rw [HSM.out];exact HB3.out)⟩
   case measure=>simp [intOf];omega
  ·have hdl:decide ((k:Int)<(L.length:Int))=false:=dU (by omega)
   clear hB
   go_wp2
   go_ret
   exact (HV.out.call yh.out).news (bK _) (HB.out.trans (yh.out.mono HB.out.size))
end
section
open Go.RowKit bN bP bJ bM
structure RD (lo:Nat)(w:World)(g:Nat)(y:dK)(ca pa qa na ta ua:Option Addr)(cc pc qc nc tc uc c0 c1 n0 n1 t0 t1 u0 u1:Nat):Prop where
 apart:lo≤g∧g<w.heap.size∧lo≤c0∧lo≤n0∧lo≤t0∧lo≤u0∧c1≤w.heap.size∧n1≤w.heap.size∧t1≤w.heap.size∧u1≤w.heap.size∧(c1≤n0∨n1≤c0)∧(c1≤t0∨t1≤c0)∧(c1≤u0∨u1≤c0)∧(n1≤t0∨t1≤n0)∧(n1≤u0∨u1≤n0)∧(t1≤u0∨u1≤t0)∧(c1≤g∨g<c0)∧(n1≤g∨g<n0)∧(t1≤g∨g<t0)∧(u1≤g∨g<u0)
 cfg:bZ.ow w (Rg c0 c1) y.1 [.slice ca y.1.1.length cc,.slice pa y.1.2.1.length pc,.slice qa y.1.2.2.1.length qc,.int .i64 y.1.2.2.2]
 nds:bG aJ w (Rg n0 n1) y.2.1 na nc
 Rm:bG aI w (Rg t0 t1) y.2.2.1 ta tc
 use:bG bD w (Rg u0 u1) y.2.2.2.1 ua uc
def R3 (lo:Nat)(w:World)(g:Nat)(y:dK)(id:Int):Prop:=∃ (ca pa qa na ta ua:Option Addr)(cc pc qc nc tc uc c0 c1 n0 n1 t0 t1 u0 u1:Nat),
 aN w g 133 #[.slice ca y.1.1.length cc,.slice pa y.1.2.1.length pc,.slice qa y.1.2.2.1.length qc,.int .i64 y.1.2.2.2,.slice na y.2.1.length nc,.slice ta y.2.2.1.length tc,.slice ua y.2.2.2.1.length uc,.int .i64 y.2.2.2.2,.int .i64 id]∧RD lo w g y ca pa qa na ta ua cc pc qc nc tc uc c0 c1 n0 n1 t0 t1 u0 u1
theorem RD.call {lo g:Nat}{w w':World}{y:dK}{ca pa qa na ta ua:Option Addr}{cc pc qc nc tc uc c0 c1 n0 n1 t0 t1 u0 u1:Nat}(h:RD lo w g y ca pa qa na ta ua cc pc qc nc tc uc c0 c1 n0 n1 t0 t1 u0 u1)(hb:Below w.heap.size w w'):RD lo w' g y ca pa qa na ta ua cc pc qc nc tc uc c0 c1 n0 n1 t0 t1 u0 u1:=by
 have hd:=h.apart
 have hs:=hb.size
 have hk:∀ a b:Nat,b≤w.heap.size→∀ q,Rg a b q→w'.heap[q]? = w.heap[q]?:=fun a b hb2 q hq=>hb.block q (bV hq.2 hb2)
 exact ⟨by omega,bY.bU h.cfg (hk _ _ (by omega)),h.nds.keep aK (hk _ _ (by omega)),h.Rm.keep ay (hk _ _ (by omega)),h.use.keep aT (hk _ _ (by omega))⟩
theorem R3.call {lo g:Nat}{w w':World}{y:dK}{id:Int}(h:R3 lo w g y id)(hb:Below w.heap.size w w'):R3 lo w' g y id:=by
 obtain ⟨ca,pa,qa,na,ta,ua,cc,pc,qc,nc,tc,uc,c0,c1,n0,n1,t0,t1,u0,u1,h1,h2⟩:=h
 exact ⟨ca,pa,qa,na,ta,ua,cc,pc,qc,nc,tc,uc,c0,c1,n0,n1,t0,t1,u0,u1,h1.call hb,h2.call hb⟩
theorem RD.off {lo g:Nat}{w w':World}{y:dK}{ca pa qa na ta ua:Option Addr}{cc pc qc nc tc uc c0 c1 n0 n1 t0 t1 u0 u1:Nat}(h:RD lo w g y ca pa qa na ta ua cc pc qc nc tc uc c0 c1 n0 n1 t0 t1 u0 u1)(ho:Off (fun x=>x=g) w w'):RD lo w' g y ca pa qa na ta ua cc pc qc nc tc uc c0 c1 n0 n1 t0 t1 u0 u1:=by
 have hd:=h.apart
 have hs:=ho.size
 have hk:∀ a b:Nat,b≤w.heap.size→(b≤g∨g<a)→∀ q,Rg a b q→w'.heap[q]? = w.heap[q]?:=fun a b hb2 h2 q hq=>ho.block q (bV hq.2 hb2) (by have h3:=hq.1;have h4:=hq.2;omega)
 exact ⟨by omega,bY.bU h.cfg (hk _ _ (by omega) (by omega)),h.nds.keep aK (hk _ _ (by omega) (by omega)),h.Rm.keep ay (hk _ _ (by omega) (by omega)),h.use.keep aT (hk _ _ (by omega) (by omega))⟩
theorem RD.out {lo g:Nat}{W w w':World}{y:dK}{ca pa qa na ta ua:Option Addr}{cc pc qc nc tc uc c0 c1 n0 n1 t0 t1 u0 u1 b:Nat}(h:RD lo w g y ca pa qa na ta ua cc pc qc nc tc uc c0 c1 n0 n1 t0 t1 u0 u1)(hlo:W.heap.size≤lo)(hbl:b<lo)(ho:Off (fun x=>x=b) w w') :
 bW.ow w' (Rg W.heap.size w'.heap.size) y ([.slice ca y.1.1.length cc,.slice pa y.1.2.1.length pc,.slice qa y.1.2.2.1.length qc,.int .i64 y.1.2.2.2]++[.slice na y.2.1.length nc,.slice ta y.2.2.1.length tc,.slice ua y.2.2.2.1.length uc,.int .i64 y.2.2.2.2]):=by
 have hd:=h.apart
 have hs:=ho.size
 have hk:∀ x z:Nat,b<x→z≤w.heap.size→∀ q,Rg x z q→w'.heap[q]? = w.heap[q]?:=fun x z h1 h2 q hq=>ho.block q (bV hq.2 h2) (by have:=hq.1;omega)
 obtain ⟨⟨C,P,Q,hf⟩,N,T,U,now⟩:=y
 refine EN (SC:=Rg c0 c1) (SN:=Rg n0 n1) (ST:=Rg t0 t1) (SU:=Rg u0 u1) ?_ ?_ ?_ ?_ ?_ ?_ ?_ ?_ ?_ ?_ (bY.bU h.cfg (hk _ _ (by omega) (by omega))) (h.nds.keep aK (hk _ _ (by omega) (by omega))) (h.Rm.keep ay (hk _ _ (by omega) (by omega))) (h.use.keep aT (hk _ _ (by omega) (by omega)))
 all_goals first | (intro k h;exact ⟨by have:=h.1;omega,by have:=h.2;omega⟩) | (intro k h h';have h1:=h.1;have h2:=h.2;have h3:=h'.1;have h4:=h'.2;omega)
def WkR (W:World)(y:dK)(e:Ending)(w':World):Prop:=∃ g,e=.returned (.pointer (some ⟨g,0,none⟩))∧R3 (W.heap.size+1) w' g y 0∧Below W.heap.size W w'
theorem Va {W:World}{y:dK}{e:Ending}{w':World}(h:WkR W y e w'):∃ g,e=.returned (.pointer (some ⟨g,0,none⟩))∧R3 (W.heap.size+1) w' g y 0∧Below W.heap.size W w':=h
theorem Iu {C:List (List av)}{P:List bq}{Q:List aV}{hf:Int}{ca pa qa:Option Addr}{cc pc qc:Nat}{N:List aO}{T:List aG}{U:List bH}{now:Int}{na ta ua:Option Addr}{nc tc uc:Nat}{W:World}(hY:iq ((C,P,Q,hf),N,T,U,now))(hq:Q.length≤1048576)(hts:(Sl aI).sz T≤1048576)(hC:aH (Sl au) W W.heap.size C ca cc)(hP:aH aS W W.heap.size P pa pc)(hQ:aH aM W W.heap.size Q qa qc)(hN:aH aJ W W.heap.size N na nc)(hT:aH aI W W.heap.size T ta tc)(hU:aH bD W W.heap.size U ua uc) :
 Calls Tryz.prog 77 #[.agg #[.slice ca C.length cc,.slice pa P.length pc,.slice qa Q.length qc,.int .i64 hf,.slice na N.length nc,.slice ta T.length tc,.slice ua U.length uc,.int .i64 now]] W (WkR W ((C,P,Q,hf),N,T,U,now)):=by
 obtain ⟨_,hR,hNR,hNC,_,hUR,_⟩:=hY
 have HRR:=aj hR
 have hNl:=lJ hNR
 have h0N:0<N.length:=by have:=hR.1.1;omega
 have WZ:∀ x∈U,x.2.1.size≤1048576:=fun x hx=>by
  obtain ⟨i,hi⟩:=List.mem_iff_getElem?.1 hx
  have h:=(hUR.2 i x hi).1.2.1.2.1
  omega
 have Ro:U.length≤1048576:=by have:=hUR.1;omega
 have JE:=aj hC
 have FC:=aj hP
 have JB:=aj hQ
 have JD:=aj hN
 have Mw:=aj hT
 have Mv:=aj hU
 clear hR hNR hNC hUR hC hP hQ hN hT hU
 obtain ⟨w0,hw0⟩:∃ w,w=W.alloc (.cells #[.slice ca C.length cc,.slice pa P.length pc,.slice qa Q.length qc,.int .i64 hf,.slice na N.length nc,.slice ta T.length tc,.slice ua U.length uc,.int .i64 now] 44):=⟨_,rfl⟩
 have hb0:Below W.heap.size W w0:=by rw [hw0];exact (aU _ _).alloc (bK _) _
 have kX:aN w0 (W.heap.size) 44 #[.slice ca C.length cc,.slice pa P.length pc,.slice qa Q.length qc,.int .i64 hf,.slice na N.length nc,.slice ta T.length tc,.slice ua U.length uc,.int .i64 now]:=by
  have h9:=aN.new W 44 #[.slice ca C.length cc,.slice pa P.length pc,.slice qa Q.length qc,.int .i64 hf,.slice na N.length nc,.slice ta T.length tc,.slice ua U.length uc,.int .i64 now]
  try simp only [World.size_alloc] at h9
  rw [hw0];exact h9
 have X0:=aj kX
 have HB0:=aj hb0
 have hz0:=hb0.size
 clear hb0  kX
 have hs0:w0.heap.size=W.heap.size+1:=by rw [hw0];simp
 go_enter Tryz.func77,Tryz.ntmps77
 go_upto_region 1 with fail
 rw [←hw0]
 clear hw0
 refine dW (S:=(fun V=>Below W.heap.size W V∧aN V W.heap.size 44 #[.slice ca C.length cc,.slice pa P.length pc,.slice qa Q.length qc,.int .i64 hf,.slice na N.length nc,.slice ta T.length tc,.slice ua U.length uc,.int .i64 now])) (by kernel_rfl) (⟨HB0.out.drew,X0.out.call (aU _ w0).drew⟩) (fun ah=>?_)
 refine tk 0 ah ?_
 refine tk 1 ah ?_ (hy:=fun w hSw=>by (try dsimp only at hSw);have k0:=hSw.2.at_ 0 rfl;have k1:=hSw.2.at_ 1 rfl;have k2:=hSw.2.at_ 2 rfl;have k3:=hSw.2.at_ 3 rfl;clear hSw;go_simp;try with_reducible rfl)
 refine tk 3 ah ?_
 refine tk 4 ah ?_ (hy:=fun w hSw=>by (try dsimp only at hSw);have k0:=hSw.2.at_ 4 rfl;clear hSw;go_simp;try with_reducible rfl)
 refine tk 6 ah ?_
 refine tk 7 ah ?_ (hy:=fun w hSw=>by (try dsimp only at hSw);have k0:=hSw.2.at_ 5 rfl;clear hSw;go_simp;try with_reducible rfl)
 refine tk 9 ah ?_
 refine tk 10 ah ?_ (hy:=fun w hSw=>by (try dsimp only at hSw);have k0:=hSw.2.at_ 6 rfl;clear hSw;go_simp;try with_reducible rfl)
 refine tk 12 ah ?_
 refine tk 13 ah ?_ (hy:=fun w hSw=>by (try dsimp only at hSw);have k0:=hSw.2.at_ 7 rfl;clear hSw;go_simp;try with_reducible rfl)
 refine cZ 2 (fun K hK=>?_)
 go_simp
 go_at_call 137
 refine (Jh HRR.out hq (aC (aY ak) JE.out ah.1) (aC aD FC.out ah.1) (aC aB JB.out ah.1)).mono ?_
 intro e w1 h
 obtain ⟨us,rfl,ho,hb⟩:=bX h
 have ho2:=ho
 obtain ⟨qD,cc',pa',pc',nV,nU,_,_,_,rfl,_⟩:=rR ho2
 have oD:=aj (show bZ.ow w1 (Rg w0.heap.size w1.heap.size) (C,P,Q,hf) [.slice qD C.length cc',.slice pa' P.length pc',.slice nV Q.length nU,.int .i64 hf] from ho)
 clear ho ho2
 have hb:Below w0.heap.size w0 w1:=(aU _ w0).drew.trans hb
 have hz1:w0.heap.size≤w1.heap.size:=hb.size
 refine hK.out _ _ ⟨HB0.out.trans (hb.mono HB0.out.size),X0.out.call hb⟩ (fun ah=>?_)
 clear hK K h hb
 refine cZ 5 (fun K hK=>?_)
 go_simp
 go_at_call 138
 refine (yN hNl.1 h0N hNl.2 (aC aK JD.out ah.1)).mono ?_
 intro e w2 h
 obtain ⟨na',wR,rfl,ho,hb⟩:=bI h
 have rE:=aj (show bG aJ w2 (Rg w1.heap.size w2.heap.size) N na' wR from ho)
 clear ho
 have hb:Below w1.heap.size w1 w2:=hb
 have oD:=aj (bY.bU oD.out (fun q hq=>hb.block q (by have:=hq.2;omega)))
 have hz2:w1.heap.size≤w2.heap.size:=hb.size
 refine hK.out _ _ ⟨ah.1.trans (hb.mono ah.1.size),ah.2.call hb⟩ (fun ah=>?_)
 clear hK K h hb
 refine cZ 8 (fun K hK=>?_)
 go_simp
 go_at_call 139
 refine (Jf hts (aC ay Mw.out ah.1)).mono ?_
 intro e w3 h
 obtain ⟨oW,oV,rfl,ho,hb⟩:=bI h
 have Cw:=aj (show bG aI w3 (Rg w2.heap.size w3.heap.size) T oW oV from ho)
 clear ho
 have hb:Below w2.heap.size w2 w3:=hb
 have oD:=aj (bY.bU oD.out (fun q hq=>hb.block q (by have:=hq.2;omega)))
 have rE:=aj (rE.out.keep aK (fun q hq=>hb.block q (by have:=hq.2;omega)))
 have hz3:w2.heap.size≤w3.heap.size:=hb.size
 refine hK.out _ _ ⟨ah.1.trans (hb.mono ah.1.size),ah.2.call hb⟩ (fun ah=>?_)
 clear hK K h hb
 refine cZ 11 (fun K hK=>?_)
 go_simp
 go_at_call 140
 refine (Jg Ro WZ (aC aT Mv.out ah.1)).mono ?_
 intro e w4 h
 obtain ⟨qC,qB,rfl,ho,hb⟩:=bI h
 have HOU:=aj (show bG bD w4 (Rg w3.heap.size w4.heap.size) U qC qB from ho)
 clear ho
 have hb:Below w3.heap.size w3 w4:=hb
 have oD:=aj (bY.bU oD.out (fun q hq=>hb.block q (by have:=hq.2;omega)))
 have rE:=aj (rE.out.keep aK (fun q hq=>hb.block q (by have:=hq.2;omega)))
 have Cw:=aj (Cw.out.keep ay (fun q hq=>hb.block q (by have:=hq.2;omega)))
 have mP:w3.heap.size≤w4.heap.size:=hb.size
 refine hK.out _ _ ⟨ah.1.trans (hb.mono ah.1.size),ah.2.call hb⟩ (fun ah=>?_)
 clear hK K h hb
 refine tk 14 ah ?_
 refine tk 15 ah ?_
 refine cZ 16 (fun K hK=>?_)
 go_simp
 refine hK.out _ _ ⟨ah.1.alloc ah.1.size _,ah.2.alloc _⟩ (fun ah=>?_)
 clear hK K
 refine tk 17 ah ?_
 refine dQ ?_
 have uw:=aj ah.1
 clear ah
 go_wp2
 go_ret
 have hb5:Below w4.heap.size w4 (w4.alloc (.cells #[.slice qD C.length cc',.slice pa' P.length pc',.slice nV Q.length nU,.int .i64 hf,.slice na' N.length wR,.slice oW T.length oV,.slice qC U.length qB,.int .i64 now,.int .i64 0] 133)):=(aU _ _).alloc (bK _) _
 have hk:∀ a b:Nat,b≤w4.heap.size→∀ q,Rg a b q→(w4.alloc (.cells #[.slice qD C.length cc',.slice pa' P.length pc',.slice nV Q.length nU,.int .i64 hf,.slice na' N.length wR,.slice oW T.length oV,.slice qC U.length qB,.int .i64 now,.int .i64 0] 133)).heap[q]? = w4.heap[q]?:=fun a b hb2 q hq=>hb5.block q (bV hq.2 hb2)
 have uo:(w4.alloc (.cells #[.slice qD C.length cc',.slice pa' P.length pc',.slice nV Q.length nU,.int .i64 hf,.slice na' N.length wR,.slice oW T.length oV,.slice qC U.length qB,.int .i64 now,.int .i64 0] 133)).heap.size=w4.heap.size+1:=by simp
 exact ⟨w4.heap.size,rfl,⟨qD,pa',nV,na',oW,qC,cc',pc',nU,wR,oV,qB,w0.heap.size,w1.heap.size,w1.heap.size,w2.heap.size,w2.heap.size,w3.heap.size,w3.heap.size,w4.heap.size,aN.new _ _ _,⟨by omega,bY.bU oD.out (hk _ _ (by omega)),rE.out.keep aK (hk _ _ (by omega)),Cw.out.keep ay (hk _ _ (by omega)),HOU.out.keep aT (hk _ _ (by omega))⟩⟩,uw.out⟩
end
end Go.Proofs.YtlhfiapfncikdaaGreatDoor.aP
