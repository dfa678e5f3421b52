import Derived.Test.YtlhfiapfncikdaaGreatDoorPN26
import Derived.Test.YtlhfiapfncikdaaGreatDoorPN27
set_option linter.unusedVariables false
set_option linter.unusedSimpArgs false
set_option maxRecDepth 100000
set_option maxHeartbeats 3200000
namespace Go.Proofs.YtlhfiapfncikdaaGreatDoor
namespace aQ
section
open Go.RowKit bN bO bJ bQ eO CF
theorem Di {C:List (List ay)}{P:List bA}{Q:List aX}{hf:Int}{ca pa qa:Option Addr}{cc pc qc:Nat}{N:List aP}{T:List aF}{U:List bI}{now:Int}{na ta ua:Option Addr}{nc tc uc:Nat}{x0 x1 x2:Int}{x3:ByteArray}{x4 x5 x6 x7 x8 x9 x10 aS aV:Int}{M:List Int}{ma:Option Addr}{mc:Nat}{W:World}(h6:C.length≤6)(hC:aJ (Sl av) W W.heap.size C ca cc)(hM:aJ I W W.heap.size M ma mc) :
 Calls Tryz.prog 201 #[.agg #[.slice ca C.length cc,.slice pa P.length pc,.slice qa Q.length qc,.int .i64 hf,.slice na N.length nc,.slice ta T.length tc,.slice ua U.length uc,.int .i64 now],.agg #[.int .i64 x0,.int .i64 x1,.int .i64 x2,.string x3,.int .i64 x4,.int .i64 x5,.int .i64 x6,.int .i64 x7,.int .i64 x8,.int .i64 x9,.int .i64 x10,.int .i64 aS,.int .i64 aV,.slice ma M.length mc]] W (jf ((∀ n∈M,n∈gJ C (x0,x1))∧x4≤((gJ C (x0,x1)).length:Int)) W):=by
 have hMn:M.length≤9223372036854775807:=by have h1:=hM.1;have h2:=hM.2.1;unfold maxLen at h2;omega
 obtain ⟨K,hK⟩:∃ K,gJ C (x0,x1)=K:=⟨_,rfl⟩
 have HK:=ak hK
 have hKn:K.length≤6:=by rw [←hK];exact eF (rz C _ _) h6
 rw [hK]
 clear hK
 obtain ⟨w0,hw0⟩:∃ w,w=(W.alloc (.cells #[.slice ca C.length cc,.slice pa P.length pc,.slice qa Q.length qc,.int .i64 hf,.slice na N.length nc,.slice ta T.length tc,.slice ua U.length uc,.int .i64 now] 44)).alloc (.cells #[.int .i64 x0,.int .i64 x1,.int .i64 x2,.string x3,.int .i64 x4,.int .i64 x5,.int .i64 x6,.int .i64 x7,.int .i64 x8,.int .i64 x9,.int .i64 x10,.int .i64 aS,.int .i64 aV,.slice ma M.length mc] 72):=⟨_,rfl⟩
 have hb0:Below W.heap.size W w0:=by rw [hw0];exact ((aW _ _).alloc (bK _) _).alloc (by simp) _
 have kW:aO w0 (W.heap.size) 44 #[.slice ca C.length cc,.slice pa P.length pc,.slice qa Q.length qc,.int .i64 hf,.slice na N.length nc,.slice ta T.length tc,.slice ua U.length uc,.int .i64 now]:=by
  have h9:=aO.new W 44 #[.slice ca C.length cc,.slice pa P.length pc,.slice qa Q.length qc,.int .i64 hf,.slice na N.length nc,.slice ta T.length tc,.slice ua U.length uc,.int .i64 now]
  try simp only [World.size_alloc] at h9
  rw [hw0];exact (h9.alloc _)
 have X0:=ak kW
 have qH:aO w0 (W.heap.size+1) 72 #[.int .i64 x0,.int .i64 x1,.int .i64 x2,.string x3,.int .i64 x4,.int .i64 x5,.int .i64 x6,.int .i64 x7,.int .i64 x8,.int .i64 x9,.int .i64 x10,.int .i64 aS,.int .i64 aV,.slice ma M.length mc]:=by
  have h9:=aO.new (W.alloc (.cells #[.slice ca C.length cc,.slice pa P.length pc,.slice qa Q.length qc,.int .i64 hf,.slice na N.length nc,.slice ta T.length tc,.slice ua U.length uc,.int .i64 now] 44)) 72 #[.int .i64 x0,.int .i64 x1,.int .i64 x2,.string x3,.int .i64 x4,.int .i64 x5,.int .i64 x6,.int .i64 x7,.int .i64 x8,.int .i64 x9,.int .i64 x10,.int .i64 aS,.int .i64 aV,.slice ma M.length mc]
  try simp only [World.size_alloc] at h9
  rw [hw0];exact h9
 have X1:=ak qH
 have HC:=ak (aD (aZ au) hC hb0)
 have HM:=ak (aD cK hM hb0)
 have HB0:=ak hb0
 have hz0:=hb0.size
 clear hb0 hC hM kW qH
 go_enter Tryz.func201,Tryz.ntmps201
 go_upto_region 1 with fail
 rw [←hw0]
 clear hw0
 obtain ⟨dB,dA,dz,dx,fU,fT,fQ,fP⟩:=X0.out.gy rfl
 obtain ⟨TN,TM,TL,TK,TJ,TI,TH,TG,TF,TD,Kz,Ky,Kw,Kv⟩:=X1.out.fF rfl
 go_wp2_with fail
 have hop:=Cr (P:=P) (Q:=Q) (hf:=hf) (pa:=pa) (qa:=qa) (pc:=pc) (qc:=qc) (l:=x0) (s:=x1) h6 HC.out
 rw [HK.out] at hop
 refine hop.mono ?_
 intro e w1 h
 obtain ⟨la,lc,rfl,ho,hb⟩:=bL h
 have HL:=ak (ho.rd cK (B:=w1.heap.size) fun k hk=>hk.2)
 have HB1:=ak (HB0.out.trans (hb.mono hz0))
 have Z1:=ak (X1.out.call hb)
 have Cz:=ak (aD cK HM.out hb)
 have hz1:=HB1.out.size
 clear h ho hop hb dB dA dz dx fU fT fQ fP TN TM TL TK TJ TI TH TG TF TD Kz Ky Kw Kv
 have FR:=Z1.out.at_ 13 rfl
 go_wp2
 go_loopw [16] (fun i wr=>∃ k:Nat,k≤M.length∧i=.int .i64 k∧Hid (∀ (j:Nat) n,j<k→M[j]? = some n→n∈K)∧Below w1.heap.size w1 wr) (fun i _=>M.length-(intOf i).toNat)
 case atStart=>exact ⟨0,dV _,rfl,ak fun j n h=>absurd h (gZ _),aW _ _⟩
 case round=>
  obtain ⟨k,hk,rfl,HA,hB⟩:=hrel
  have HB:=ak hB
  have uJ:=ak (HB1.out.trans (hB.mono hz1))
  have hsz:=hB.size
  by_cases hlt:k<M.length
  ·have hdl:decide ((k:Int)<(M.length:Int))=true:=eD (by omega)
   obtain ⟨n,hx⟩:=aM hlt
   have HX:=ak hx
   obtain ⟨g,o,us,rfl,hg,hu,hr⟩:=(aD cK Cz.out hB).at_ hx
   obtain rfl:us = [_]:=hr
   have e0:wr.cell? ⟨g,o+k,none⟩=some (.int .i64 n):=by simpa [show I.size=1 from rfl] using hu 0 _ rfl
   have hi0:(0:Int)≤(k:Int):=eu _
   have hi1:(k:Int)<(M.length:Int):=by omega
   have HL2:=ak (aD cK HL.out hB)
   clear hB hx hu hg FR
   go_wp2_with fail
   refine (xq HL2.out).mono ?_
   intro e w2 h
   obtain ⟨b,rfl,hb,hbl⟩:=bq h
   have HMB:=ak hb
   have HB2:=ak (HB.out.trans (hbl.mono hsz))
   have Qm:=ak (uJ.out.trans (hbl.mono uJ.out.size))
   clear h hb hbl e0
   cases b with
   | false=>
    have HV:=ak (show ¬((∀ n∈M,n∈K)∧x4≤((K).length:Int)) from fun h=>by have:=HMB.out.2 (h.1 n (List.mem_of_getElem? HX.out));cases this)
    go_wp2
    go_ret
    exact aB HV.out Qm.out
   | true=>
    have HA2:=ak (show ∀ (j:Nat) n,j<k+1→M[j]? = some n→n∈K from fun j n hj hn=>by
     by_cases e:j=k
     ·subst e;rw [HX.out] at hn;cases hn;exact HMB.out.1 rfl
     ·exact HA.out j n (by omega) hn)
    go_wp2
    go_roundw
    case rel=>exact ⟨k+1,by omega,by go_num,HA2,HB2.out⟩
    case measure=>simp [intOf];omega
  ·have hdl:decide ((k:Int)<(M.length:Int))=false:=dS (by omega)
   obtain rfl:k=M.length:=by omega
   have HALL:=ak (show ∀ n∈M,n∈K from fun n hn=>by
    obtain ⟨j,hj,rfl⟩:=List.mem_iff_getElem.1 hn
    exact HA.out j _ hj (List.getElem?_eq_getElem hj))
   have Z2:=ak (Z1.out.call hB)
   have p4:=Z2.out.at_ 4 rfl
   obtain ⟨b,hb⟩:∃ b,decide (x4≤(K.length:Int))=b:=⟨_,rfl⟩
   have HV:=ak (show b=true↔((∀ n∈M,n∈K)∧x4≤((K).length:Int)) from by rw [←hb,decide_eq_true_eq];exact ⟨fun h=>⟨HALL.out,h⟩,fun h=>h.2⟩)
   clear hB FR
   go_wp2
   go_ret
   exact ⟨b,rfl,HV.out,uJ.out⟩
theorem Co {C:List (List ay)}{P:List bA}{Q:List aX}{hf:Int}{ca pa qa:Option Addr}{cc pc qc:Nat}{N:List aP}{T:List aF}{U:List bI}{now:Int}{na ta ua:Option Addr}{nc tc uc:Nat}{x0 x1 x2:Int}{x3:ByteArray}{x4 x5 x6 x7 x8 x9 x10 aS aV:Int}{M:List Int}{ma:Option Addr}{mc:Nat}{W:World}(hst:0≤aV∧aV≤1000000)(hlg:1≤x5∧x5≤20)(Kl:0≤now∧now≤999900) :
 Calls Tryz.prog 202 #[.agg #[.slice ca C.length cc,.slice pa P.length pc,.slice qa Q.length qc,.int .i64 hf,.slice na N.length nc,.slice ta T.length tc,.slice ua U.length uc,.int .i64 now],.agg #[.int .i64 x0,.int .i64 x1,.int .i64 x2,.string x3,.int .i64 x4,.int .i64 x5,.int .i64 x6,.int .i64 x7,.int .i64 x8,.int .i64 x9,.int .i64 x10,.int .i64 aS,.int .i64 aV,.slice ma M.length mc]] W (jf (pK now ((x0,x1),x2,x3,x4,x5,x6,(x7,x8),x9,x10,aS,aV,M)) W):=by
 have e1:IntKind.i64.wrap (aV+1+x5-1)=aV+1+x5-1:=gK _ (by omega)
 have e2:IntKind.i64.wrap (now+1)=now+1:=gK _ (by omega)
 have e3:IntKind.i64.wrap (now+40)=now+40:=gK _ (by omega)
 obtain ⟨br,hbr⟩:∃ b,(aS==2)=b:=⟨_,rfl⟩
 obtain ⟨bp,hbp⟩:∃ b,decide (0<M.length)=b:=⟨_,rfl⟩
 obtain ⟨b3,h3⟩:∃ b,dD now aV (aV+1+x5-1)=b:=⟨_,rfl⟩
 obtain ⟨b4,h4⟩:∃ b,dD aV (now+1) (now+40)=b:=⟨_,rfl⟩
 have HR:=ak hbr
 have HPl:=ak hbp
 have H3:=ak h3
 have H4:=ak h4
 clear hbr hbp h3 h4
 obtain ⟨w0,hw0⟩:∃ w,w=(W.alloc (.cells #[.slice ca C.length cc,.slice pa P.length pc,.slice qa Q.length qc,.int .i64 hf,.slice na N.length nc,.slice ta T.length tc,.slice ua U.length uc,.int .i64 now] 44)).alloc (.cells #[.int .i64 x0,.int .i64 x1,.int .i64 x2,.string x3,.int .i64 x4,.int .i64 x5,.int .i64 x6,.int .i64 x7,.int .i64 x8,.int .i64 x9,.int .i64 x10,.int .i64 aS,.int .i64 aV,.slice ma M.length mc] 72):=⟨_,rfl⟩
 have hb0:Below W.heap.size W w0:=by rw [hw0];exact ((aW _ _).alloc (bK _) _).alloc (by simp) _
 have kW:aO w0 (W.heap.size) 44 #[.slice ca C.length cc,.slice pa P.length pc,.slice qa Q.length qc,.int .i64 hf,.slice na N.length nc,.slice ta T.length tc,.slice ua U.length uc,.int .i64 now]:=by
  have h9:=aO.new W 44 #[.slice ca C.length cc,.slice pa P.length pc,.slice qa Q.length qc,.int .i64 hf,.slice na N.length nc,.slice ta T.length tc,.slice ua U.length uc,.int .i64 now]
  try simp only [World.size_alloc] at h9
  rw [hw0];exact (h9.alloc _)
 have X0:=ak kW
 have qH:aO w0 (W.heap.size+1) 72 #[.int .i64 x0,.int .i64 x1,.int .i64 x2,.string x3,.int .i64 x4,.int .i64 x5,.int .i64 x6,.int .i64 x7,.int .i64 x8,.int .i64 x9,.int .i64 x10,.int .i64 aS,.int .i64 aV,.slice ma M.length mc]:=by
  have h9:=aO.new (W.alloc (.cells #[.slice ca C.length cc,.slice pa P.length pc,.slice qa Q.length qc,.int .i64 hf,.slice na N.length nc,.slice ta T.length tc,.slice ua U.length uc,.int .i64 now] 44)) 72 #[.int .i64 x0,.int .i64 x1,.int .i64 x2,.string x3,.int .i64 x4,.int .i64 x5,.int .i64 x6,.int .i64 x7,.int .i64 x8,.int .i64 x9,.int .i64 x10,.int .i64 aS,.int .i64 aV,.slice ma M.length mc]
  try simp only [World.size_alloc] at h9
  rw [hw0];exact h9
 have X1:=ak qH
 have HB0:=ak hb0
 have hz0:=hb0.size
 clear hb0  kW qH
 go_enter Tryz.func202,Tryz.ntmps202
 go_upto_region 1 with fail
 rw [←hw0]
 clear hw0
 obtain ⟨TN,TM,TL,TK,TJ,TI,TH,TG,TF,TD,Kz,Ky,Kw,Kv⟩:=X1.out.fF rfl
 go_wp2_with fail
 refine (qX HR.out _).mono ?_
 rintro e w1 ⟨rfl,hb⟩
 have HB1:=ak (HB0.out.trans (hb.mono hz0))
 have Z0:=ak (X0.out.call hb)
 have Z1:=ak (X1.out.call hb)
 have hz1:=HB1.out.size
 clear hb TN TM TL TK TJ TI TH TG TF TD Kz Ky Kw Kv
 cases br with
 | true=>
  have EI:=ak (BH (now:=now) (x:=((x0,x1),x2,x3,x4,x5,x6,(x7,x8),x9,x10,aS,aV,M)) (beq_iff_eq.1 HR.out))
  go_upto_region 2 with fail
  refine dX (S:=(fun V=>Below (w1).heap.size (w1) V)) (by kernel_rfl) ((aW _ _).drew) (fun ah=>?_)
  refine tk 0 ah ?_
  refine tk 1 ah ?_ (hy:=fun w aj=>by (try dsimp only at aj);have k0:=Z0.out.hat aj 7 rfl;clear aj;go_simp;try with_reducible rfl)
  refine tk 2 ah ?_
  refine tk 3 ah ?_ (hy:=fun w aj=>by (try dsimp only at aj);have k0:=Z1.out.hat aj 12 rfl;clear aj;go_simp;try with_reducible rfl)
  refine tk 4 ah ?_ (hy:=fun w aj=>by (try dsimp only at aj);have k0:=Z1.out.hat aj 0 rfl;have k1:=Z1.out.hat aj 1 rfl;have k2:=Z1.out.hat aj 2 rfl;have k3:=Z1.out.hat aj 3 rfl;have k4:=Z1.out.hat aj 4 rfl;have k5:=Z1.out.hat aj 5 rfl;have k6:=Z1.out.hat aj 6 rfl;have k7:=Z1.out.hat aj 7 rfl;have k8:=Z1.out.hat aj 8 rfl;have k9:=Z1.out.hat aj 9 rfl;have k10:=Z1.out.hat aj 10 rfl;have k11:=Z1.out.hat aj 11 rfl;have k12:=Z1.out.hat aj 12 rfl;have k13:=Z1.out.hat aj 13 rfl;clear aj;go_simp;try with_reducible rfl)
  refine dw 5 (fun K hK=>?_)
  go_simp
  go_at_call 244
  refine (Z9 hst hlg).mono ?_
  rintro e w5 ⟨rfl,hb⟩
  refine hK.out _ _ (ah.trans (hb.mono ah.size)) (fun ah=>?_)
  clear hK K hb
  refine tk 6 ah ?_
  refine dw 7 (fun K hK=>?_)
  go_simp
  go_at_call 191
  refine (oL _ _ _ H3.out _).mono ?_
  rintro e w6 ⟨rfl,rfl⟩
  have hb:=aW w5.heap.size w5
  refine hK.out _ _ (ah.trans (hb.mono ah.size)) (fun ah=>?_)
  clear hK K hb
  refine tk 8 ah ?_
  refine dQ ?_
  have HF:=ak ah
  clear ah
  have Gb:=ak (HB1.out.trans (HF.out.mono hz1))
  clear HF
  have HV:=ak (show b3=true↔pK now ((x0,x1),x2,x3,x4,x5,x6,(x7,x8),x9,x10,aS,aV,M) from by
   rw [←H3.out,dG,EI.out]
   show _↔aV≤now∧now<aV+1+x5
   omega)
  go_wp2
  go_ret
  exact ⟨b3,rfl,HV.out,Gb.out⟩
 | false=>
  obtain ⟨acR,acQ,acP,acO,acN,acM,acL,acK,acJ,acI,abT,abS,abR,abQ⟩:=Z1.out.fF rfl
  go_wp2_with fail
  refine (QX HPl.out _).mono ?_
  rintro e w2 ⟨rfl,hb⟩
  have HB2:=ak (HB1.out.trans (hb.mono hz1))
  have V0:=ak (Z0.out.call hb)
  have V1:=ak (Z1.out.call hb)
  clear hb acR acQ acP acO acN acM acL acK acJ acI abT abS abR abQ
  cases bp with
  | true=>
   have HW:=ak (yQ (now:=now) (x:=((x0,x1),x2,x3,x4,x5,x6,(x7,x8),x9,x10,aS,aV,M)) (beq_eq_false_iff_ne.1 HR.out) (by have:=of_decide_eq_true HPl.out;show M.length≠0;omega))
   have v7:=V0.out.at_ 7 rfl
   have v12:=V1.out.at_ 12 rfl
   go_wp2_with fail
   refine (oL _ _ _ H4.out _).mono ?_
   rintro e w3 ⟨rfl,rfl⟩
   have HV:=ak (show b4=true↔pK now ((x0,x1),x2,x3,x4,x5,x6,(x7,x8),x9,x10,aS,aV,M) from by
    rw [←H4.out,dG,HW.out]
    show _↔now<aV∧aV≤now+40
    omega)
   go_wp2
   go_ret
   exact ⟨b4,rfl,HV.out,HB2.out⟩
  | false=>
   have HV:=ak (show pK now ((x0,x1),x2,x3,x4,x5,x6,(x7,x8),x9,x10,aS,aV,M) from yR (beq_eq_false_iff_ne.1 HR.out) (by have:=of_decide_eq_false HPl.out;show M.length=0;omega))
   go_wp2
   go_ret
   exact bM HV.out HB2.out
end
section
open Go.RowKit bN bO
def six (f:Nat→Bool):Array Value:=#[.bool (f 0),.bool (f 1),.bool (f 2),.bool (f 3),.bool (f 4),.bool (f 5)]
theorem abP (f:Nat→Bool){m:Nat}(hm:m<6):(six f)[m]? = some (.bool (f m)):=by
 match m,hm with
 | 0,_=>rfl
 | 1,_=>rfl
 | 2,_=>rfl
 | 3,_=>rfl
 | 4,_=>rfl
 | 5,_=>rfl
theorem ZG (f:Nat→Bool){m:Nat}(hm:m<6):(six f).setIfInBounds m (.bool true)=six (fun i=>f i || i==m):=by
 match m,hm with
 | 0,_=>simp [six]
 | 1,_=>simp [six]
 | 2,_=>simp [six]
 | 3,_=>simp [six]
 | 4,_=>simp [six]
 | 5,_=>simp [six]
def zZ (w:World)(g:Nat)(T:TypeId)(p:Int→Prop):Prop:=∃ f:Nat→Bool,aO w g T (six f)∧∀ m:Nat,m<6→(f m=true↔p (m:Int))
theorem zZ.call {w w':World}{g:Nat}{T:TypeId}{p:Int→Prop}(h:zZ w g T p)(hb:Below w.heap.size w w'):zZ w' g T p:=by
 obtain ⟨f,h1,h2⟩:=h
 exact ⟨f,h1.call hb,h2⟩
theorem zZ.more {w:World}{g:Nat}{T:TypeId}{p q:Int→Prop}(h:zZ w g T p)(hpq:∀ m:Nat,m<6→(p (m:Int)↔q (m:Int))):zZ w g T q:=by
 obtain ⟨f,h1,h2⟩:=h
 exact ⟨f,h1,fun m hm=>(h2 m hm).trans (hpq m hm)⟩
theorem zZ.lt {w:World}{g:Nat}{T:TypeId}{p:Int→Prop}(h:zZ w g T p):g<w.heap.size:=by
 obtain ⟨f,h1,_⟩:=h
 exact h1.lt
theorem zZ.get {w:World}{g:Nat}{T:TypeId}{p:Int→Prop}(h:zZ w g T p){m:Nat}(hm:m<6):∃ b:Bool,w.cell? ⟨g,m,none⟩=some (.bool b)∧w.frozen? ⟨g,m,none⟩=false∧(b=true↔p (m:Int)):=by
 obtain ⟨f,h1,h2⟩:=h
 exact ⟨f m,h1.at_ m (abP f hm),h1.soft m,h2 m hm⟩
theorem zZ.put {w:World}{g:Nat}{T:TypeId}{p:Int→Prop}(h:zZ w g T p){m:Nat}(hm:m<6):zZ (w.setCell ⟨g,m,none⟩ (.bool true)) g T (fun n=>p n∨n=(m:Int)):=by
 obtain ⟨f,h1,h2⟩:=h
 refine ⟨fun i=>f i || i==m,by rw [←ZG f hm];exact h1.set m _,fun i hi=>?_⟩
 have:=h2 i hi
 simp only [Bool.or_eq_true,beq_iff_eq]
 constructor
 ·rintro (h | h)
  ·exact .inl (this.1 h)
  ·exact .inr (by omega)
 ·rintro (h | h)
  ·exact .inl (this.2 h)
  ·exact .inr (by omega)
theorem zZ.new (W:World)(T:TypeId):zZ (W.alloc (.cells #[.bool false,.bool false,.bool false,.bool false,.bool false,.bool false] T)) W.heap.size T (fun _=>False):=
 ⟨fun _=>false,aO.new W T _,fun m _=>by simp⟩
end
section
open Go.RowKit bN bO bJ bQ eO CF
theorem Dh {C:List (List ay)}{P:List bA}{Q:List aX}{hf:Int}{ca pa qa:Option Addr}{cc pc qc:Nat}{N:List aP}{T:List aF}{U:List bI}{now:Int}{na ta ua:Option Addr}{nc tc uc:Nat}{W:World}(h6:C.length≤6)(hR:pQ T)(Kl:0≤now∧now≤999900)(hC:aJ (Sl av) W W.heap.size C ca cc)(hT:aJ aI W W.heap.size T ta tc) :
 Calls Tryz.prog 135 #[.agg #[.slice ca C.length cc,.slice pa P.length pc,.slice qa Q.length qc,.int .i64 hf,.slice na N.length nc,.slice ta T.length tc,.slice ua U.length uc,.int .i64 now]] W (jf (qU C now T T.length) W):=by
 have hTn:T.length≤9223372036854775807:=by have h1:=hT.1;have h2:=hT.2.1;unfold maxLen at h2;omega
 have HRR:=ak hR
 clear hR
 obtain ⟨w0,hw0⟩:∃ w,w=W.alloc (.cells #[.slice ca C.length cc,.slice pa P.length pc,.slice qa Q.length qc,.int .i64 hf,.slice na N.length nc,.slice ta T.length tc,.slice ua U.length uc,.int .i64 now] 44):=⟨_,rfl⟩
 have hb0:Below W.heap.size W w0:=by rw [hw0];exact (aW _ _).alloc (bK _) _
 have kW:aO w0 (W.heap.size) 44 #[.slice ca C.length cc,.slice pa P.length pc,.slice qa Q.length qc,.int .i64 hf,.slice na N.length nc,.slice ta T.length tc,.slice ua U.length uc,.int .i64 now]:=by
  have h9:=aO.new W 44 #[.slice ca C.length cc,.slice pa P.length pc,.slice qa Q.length qc,.int .i64 hf,.slice na N.length nc,.slice ta T.length tc,.slice ua U.length uc,.int .i64 now]
  try simp only [World.size_alloc] at h9
  rw [hw0];exact h9
 have X0:=ak kW
 have HC:=ak (aD (aZ au) hC hb0)
 have HT:=ak (aD aA hT hb0)
 have HB0:=ak hb0
 have hz0:=hb0.size
 clear hb0 hC hT kW
 obtain ⟨w1,hw1⟩:∃ w,w=w0.alloc (.cells #[.bool false,.bool false,.bool false,.bool false,.bool false,.bool false] 230):=⟨_,rfl⟩
 have Tm:=ak (show zZ w1 w0.heap.size 230 (fun n=>fJ T 0 n) from by rw [hw1];exact (zZ.new w0 _).more fun m _=>⟨fun h=>h.elim,fun h=>yP h⟩)
 have hb1:Below w0.heap.size w0 w1:=by rw [hw1];exact (aW _ _).alloc (bK _) _
 have HB1:=ak hb1
 have Z1:=ak (X0.out.call hb1)
 have hszW:w0.heap.size=W.heap.size+1:=by rw [hw0];simp
 obtain ⟨gu,hgu⟩:∃ g,g=W.heap.size+1:=⟨_,rfl⟩
 have HGU:=ak (show gu=w0.heap.size from by rw [hgu,hszW])
 rw [hszW,←hgu] at Tm
 have hww:w1=(W.alloc (.cells #[.slice ca C.length cc,.slice pa P.length pc,.slice qa Q.length qc,.int .i64 hf,.slice na N.length nc,.slice ta T.length tc,.slice ua U.length uc,.int .i64 now] 44)).alloc (.cells #[.bool false,.bool false,.bool false,.bool false,.bool false,.bool false] 230):=by rw [hw1,hw0]
 clear hb1 hw1 hw0 hszW
 go_enter Tryz.func135,Tryz.ntmps135
 go_upto_region 2 with fail
 rw [←hww,←hgu]
 clear hww hgu
 have q5:=Z1.out.at_ 5 rfl
 go_wp2
 go_loopw [11] (fun i wr=>∃ k:Nat,k≤T.length∧i=.int .i64 k∧Hid (qU C now T k)∧Hid (zZ wr gu 230 (fun n=>fJ T k n))∧Below w0.heap.size w0 wr) (fun i _=>T.length-(intOf i).toNat)
 case atStart=>exact ⟨0,dV _,rfl,ak BX,Tm,HB1.out⟩
 case round=>
  obtain ⟨k,hk,rfl,HFT,HUS,hB⟩:=hrel
  obtain ⟨wo,rfl⟩:∃ x,x=wr:=⟨_,rfl⟩
  have HB:=ak hB
  have hsz:=hB.size
  have uJ:=ak (HB0.out.trans (hB.mono hz0))
  have Z0:=ak (X0.out.call hB)
  by_cases hlt:k<T.length
  ·have hdl:decide ((k:Int)<(T.length:Int))=true:=eD (by omega)
   obtain ⟨⟨⟨x0,x1⟩,x2,x3,x4,x5,x6,⟨x7,x8⟩,x9,x10,aS,aV,M⟩,hx⟩:=aM hlt
   have HX:=ak hx
   have Xv:=ak (show bZ ((x0,x1),x2,x3,x4,x5,x6,(x7,x8),x9,x10,aS,aV,M) from (HRR.out.2 k _ hx).1)
   have hst:=yO Xv.out
   have hlg:=BF Xv.out
   simp only [jW,Dt] at hst hlg
   obtain ⟨g,o,us,rfl,hg,hu,hr⟩:=HT.out.at_ hx
   obtain ⟨ma,mc,rfl,sP,fH⟩:=fA hr
   have e0:wo.cell? ⟨g,o+k*14,none⟩=some (.int .i64 x0):=(hB.cell (p:=⟨g,_,none⟩) hg).trans (by simpa [bg,Nat.add_assoc] using hu 0 _ rfl)
   have e1:wo.cell? ⟨g,o+k*14+1,none⟩=some (.int .i64 x1):=(hB.cell (p:=⟨g,_,none⟩) hg).trans (by simpa [bg,Nat.add_assoc] using hu 1 _ rfl)
   have e2:wo.cell? ⟨g,o+k*14+2,none⟩=some (.int .i64 x2):=(hB.cell (p:=⟨g,_,none⟩) hg).trans (by simpa [bg,Nat.add_assoc] using hu 2 _ rfl)
   have e3:wo.cell? ⟨g,o+k*14+3,none⟩=some (.string x3):=(hB.cell (p:=⟨g,_,none⟩) hg).trans (by simpa [bg,Nat.add_assoc] using hu 3 _ rfl)
   have e4:wo.cell? ⟨g,o+k*14+4,none⟩=some (.int .i64 x4):=(hB.cell (p:=⟨g,_,none⟩) hg).trans (by simpa [bg,Nat.add_assoc] using hu 4 _ rfl)
   have e5:wo.cell? ⟨g,o+k*14+5,none⟩=some (.int .i64 x5):=(hB.cell (p:=⟨g,_,none⟩) hg).trans (by simpa [bg,Nat.add_assoc] using hu 5 _ rfl)
   have e6:wo.cell? ⟨g,o+k*14+6,none⟩=some (.int .i64 x6):=(hB.cell (p:=⟨g,_,none⟩) hg).trans (by simpa [bg,Nat.add_assoc] using hu 6 _ rfl)
   have e7:wo.cell? ⟨g,o+k*14+7,none⟩=some (.int .i64 x7):=(hB.cell (p:=⟨g,_,none⟩) hg).trans (by simpa [bg,Nat.add_assoc] using hu 7 _ rfl)
   have e8:wo.cell? ⟨g,o+k*14+8,none⟩=some (.int .i64 x8):=(hB.cell (p:=⟨g,_,none⟩) hg).trans (by simpa [bg,Nat.add_assoc] using hu 8 _ rfl)
   have e9:wo.cell? ⟨g,o+k*14+9,none⟩=some (.int .i64 x9):=(hB.cell (p:=⟨g,_,none⟩) hg).trans (by simpa [bg,Nat.add_assoc] using hu 9 _ rfl)
   have e10:wo.cell? ⟨g,o+k*14+10,none⟩=some (.int .i64 x10):=(hB.cell (p:=⟨g,_,none⟩) hg).trans (by simpa [bg,Nat.add_assoc] using hu 10 _ rfl)
   have e11:wo.cell? ⟨g,o+k*14+11,none⟩=some (.int .i64 aS):=(hB.cell (p:=⟨g,_,none⟩) hg).trans (by simpa [bg,Nat.add_assoc] using hu 11 _ rfl)
   have e12:wo.cell? ⟨g,o+k*14+12,none⟩=some (.int .i64 aV):=(hB.cell (p:=⟨g,_,none⟩) hg).trans (by simpa [bg,Nat.add_assoc] using hu 12 _ rfl)
   have e13:wo.cell? ⟨g,o+k*14+13,none⟩=some (.slice ma M.length mc):=(hB.cell (p:=⟨g,_,none⟩) hg).trans (by simpa [bg,Nat.add_assoc] using hu 13 _ rfl)
   have hi0:(0:Int)≤(k:Int):=eu _
   have hi1:(k:Int)<(T.length:Int):=by omega
   have HK:=ak sP
   have hMn:M.length≤9223372036854775807:=by have h1:=sP.1;have h2:=sP.2.1;unfold maxLen at h2;omega
   obtain ⟨w2,hw2⟩:∃ w,w=wo.alloc (.cells #[.int .i64 x0,.int .i64 x1,.int .i64 x2,.string x3,.int .i64 x4,.int .i64 x5,.int .i64 x6,.int .i64 x7,.int .i64 x8,.int .i64 x9,.int .i64 x10,.int .i64 aS,.int .i64 aV,.slice ma M.length mc] 72):=⟨_,rfl⟩
   have hb2:Below wo.heap.size wo w2:=by rw [hw2];exact (aW _ _).alloc (bK _) _
   have Y2:=ak (show aO w2 wo.heap.size 72 #[.int .i64 x0,.int .i64 x1,.int .i64 x2,.string x3,.int .i64 x4,.int .i64 x5,.int .i64 x6,.int .i64 x7,.int .i64 x8,.int .i64 x9,.int .i64 x10,.int .i64 aS,.int .i64 aV,.slice ma M.length mc] from by rw [hw2];exact aO.new _ _ _)
   have Z2:=ak (Z0.out.call hb2)
   have HB2:=ak (HB.out.trans (hb2.mono hsz))
   have Qm:=ak (HB0.out.trans (HB2.out.mono hz0))
   have HUS2:=ak (HUS.out.call hb2)
   have HC2:=ak (aD (aZ au) HC.out HB2.out)
   have je:=ak (aD cK HK.out HB2.out)
   obtain ⟨b1,hb1⟩:∃ b,decide (now<x10)=b:=⟨_,rfl⟩
   have Sy:=ak hb1
   clear hB hx hr hu hg sP hb2
   go_upto_region 5 with fail
   rw [←hw2]
   clear hw2 e0 e1 e2 e3 e4 e5 e6 e7 e8 e9 e10 e11 e12 e13
   obtain ⟨zz0,zz1,zz2,zz3,zz4,zz5,zz6,zz7⟩:=Z2.out.gy rfl
   obtain ⟨yy0,yy1,yy2,yy3,yy4,yy5,yy6,yy7,yy8,yy9,Kc,Ka,J9,J8⟩:=Y2.out.fF rfl
   cases b1 with
   | true=>
    have HV:=ak (show ¬qU C now T T.length from fun h=>by have h2:=(h k _ hlt HX.out).1.2.1;have h3:=of_decide_eq_true Sy.out;simp only [aaq] at h2;omega)
    go_wp2
    go_ret
    exact aB HV.out Qm.out
   | false=>
   go_wp2_with fail
   refine (Di h6 HC2.out je.out).mono ?_
   intro e w3 h
   obtain ⟨b,rfl,hb,hbl⟩:=bq h
   have HFB:=ak hb
   have HB3:=ak (HB2.out.trans (hbl.mono HB2.out.size))
   have Ql:=ak (HB0.out.trans (HB3.out.mono hz0))
   have Y3:=ak (Y2.out.call hbl)
   have Z3:=ak (Z2.out.call hbl)
   have Zl:=ak (HUS2.out.call hbl)
   clear h hb hbl hb1 zz0 zz1 zz2 zz3 zz4 zz5 zz6 zz7 yy0 yy1 yy2 yy3 yy4 yy5 yy6 yy7 yy8 yy9 Kc Ka J9 J8
   cases b with
   | false=>
    have HV:=ak (show ¬qU C now T T.length from fun h=>by have h2:=(h k _ hlt HX.out).1;have:=HFB.out.2 ⟨h2.2.2.1,h2.1⟩;cases this)
    go_wp2
    go_ret
    exact aB HV.out Ql.out
   | true=>
   have Ad:=ak (HFB.out.1 rfl)
   obtain ⟨zz0,zz1,zz2,zz3,zz4,zz5,zz6,zz7⟩:=Z3.out.gy rfl
   obtain ⟨yy0,yy1,yy2,yy3,yy4,yy5,yy6,yy7,yy8,yy9,Kc,Ka,J9,J8⟩:=Y3.out.fF rfl
   go_wp2_with fail
   refine (Co hst hlg Kl).mono ?_
   intro e w4 h
   obtain ⟨b,rfl,hb,hbl⟩:=bq h
   have rM:=ak hb
   have jL:=ak (HB3.out.trans (hbl.mono HB3.out.size))
   have HBW4:=ak (HB0.out.trans (jL.out.mono hz0))
   have Y4:=ak (Y3.out.call hbl)
   have HUS4:=ak (Zl.out.call hbl)
   clear h hb hbl zz0 zz1 zz2 zz3 zz4 zz5 zz6 zz7 yy0 yy1 yy2 yy3 yy4 yy5 yy6 yy7 yy8 yy9 Kc Ka J9 J8
   cases b with
   | false=>
    have HV:=ak (show ¬qU C now T T.length from fun h=>by have h2:=(h k _ hlt HX.out).1.2.2.2;have:=rM.out.2 h2;cases this)
    go_wp2
    go_ret
    exact aB HV.out HBW4.out
   | true=>
   have Tn:=ak (show vL C now ((x0,x1),x2,x3,x4,x5,x6,(x7,x8),x9,x10,aS,aV,M) from ⟨Ad.out.2,by have:=of_decide_eq_false Sy.out;show x10≤now;omega,Ad.out.1,rM.out.1 rfl⟩)
   obtain ⟨yy0,yy1,yy2,yy3,yy4,yy5,yy6,yy7,yy8,yy9,Kc,Ka,J9,J8⟩:=Y4.out.fF rfl
   obtain ⟨br,hbr⟩:∃ b,(aS==2)=b:=⟨_,rfl⟩
   have HRU:=ak hbr
   clear hbr
   go_wp2_with fail
   refine (qX HRU.out _).mono ?_
   rintro e w5 ⟨rfl,hb⟩
   have lX:=ak (jL.out.trans (hb.mono jL.out.size))
   have Y5:=ak (Y4.out.call hb)
   have HUS5:=ak (HUS4.out.call hb)
   clear hb yy0 yy1 yy2 yy3 yy4 yy5 yy6 yy7 yy8 yy9 Kc Ka J9 J8
   cases br with
   | false=>
    have hs2:=beq_eq_false_iff_ne.1 HRU.out
    have kX:=ak (show okY C now T k ((x0,x1),x2,x3,x4,x5,x6,(x7,x8),x9,x10,aS,aV,M) from ⟨Tn.out,fun h=>absurd h hs2⟩)
    have Gs:=ak (qj HFT.out HX.out kX.out)
    have HU7:=ak (HUS5.out.more (q:=fun n=>fJ T (k+1) n) fun i _=>by
     rw [nS HX.out]
     exact ⟨fun h=>.inl h,fun h=>h.elim id fun h=>absurd h.1 hs2⟩)
    clear hs2
    go_wp2
    go_roundw
    case rel=>exact ⟨k+1,by omega,by go_num,Gs,HU7,lX.out⟩
    case measure=>simp [intOf];omega
   | true=>
    have HS2:=ak (beq_iff_eq.1 HRU.out)
    have y13:=Y5.out.at_ 13 rfl
    have HUS6:=ak (HUS5.out.more (q:=fun n=>fJ T k n∨n∈M.take 0) fun m _=>by simp)
    go_wp2
    go_loopw [38] (fun i wr=>∃ j:Nat,j≤M.length∧i=.int .i64 j∧Hid (zZ wr gu 230 (fun n=>fJ T k n∨n∈M.take j))∧Hid (∀ (q:Nat) (n:Int),q<j→M[q]? = some n→¬fJ T k n)∧Below w0.heap.size w0 wr) (fun i _=>M.length-(intOf i).toNat)
    case atStart=>exact ⟨0,dV _,rfl,HUS6,ak fun q n h=>absurd h (gZ _),lX.out⟩
    case round=>
     obtain ⟨j,hj,rfl,HU5,HNT,Sn⟩:=hrel
     have xC:=ak Sn
     have HBW6:=ak (HB0.out.trans (Sn.mono hz0))
     have uI:=Sn.size
     have HM5:=ak (aD cK HK.out Sn)
     clear Sn y13
     by_cases hjl:j<M.length
     ·have hdj:decide ((j:Int)<(M.length:Int))=true:=eD (by omega)
      obtain ⟨n,hn⟩:=aM hjl
      have hrg:=vk (oW Xv.out hjl) hn
      obtain ⟨m,rfl⟩:∃ m:Nat,n=(m:Int):=⟨n.toNat,by omega⟩
      have hm6:m<6:=by omega
      have HN:=ak hn
      obtain ⟨gm,om,us5,rfl,hgm,hum,hrm⟩:=HM5.out.at_ hn
      obtain rfl:us5 = [_]:=hrm
      have em:wr.cell? ⟨gm,om+j,none⟩=some (.int .i64 (m:Int)):=by simpa [show I.size=1 from rfl] using hum 0 _ rfl
      obtain ⟨c,hc1,hc2,hc3⟩:=HU5.out.get hm6
      have HC3:=ak hc3
      have hj0:(0:Int)≤(j:Int):=eu _
      have hj1:(j:Int)<(M.length:Int):=by omega
      have hm0:(0:Int)≤(m:Int):=eu _
      have hm1:(m:Int)<6:=by omega
      have HNOT:=ak (show ¬((m:Int)∈M.take j) from fun h=>by
       obtain ⟨q,hq,he⟩:=List.mem_iff_getElem.1 h
       have hqj:q<j:=by have:=hq;rw [List.length_take,Nat.min_eq_left (Nat.le_of_lt hjl)] at this;exact this
       rw [List.getElem_take] at he
       have hql:q<M.length:=by omega
       have hqe:M[q]? = some (m:Int):=by rw [←he];exact List.getElem?_eq_getElem hql
       have:=yX (oW Xv.out hjl) (i:=q) (j:=j) hqe hn
       omega)
      clear hn hum hgm hc3 hrg
      cases c with
      | true=>
       have HV:=ak (show ¬qU C now T T.length from fun h=>by have h2:=(h k _ hlt HX.out).2 HS2.out _ (List.mem_of_getElem? HN.out);rcases HC3.out.1 rfl with h3 | h3;exact h2 h3;exact HNOT.out h3)
       go_wp2
       go_ret
       exact aB HV.out HBW6.out
      | false=>
       have UH:=ak (show ¬fJ T k (m:Int) from fun h=>by have:=HC3.out.2 (.inl h);cases this)
       have HNT2:=ak (show ∀ (q:Nat) (n:Int),q<j+1→M[q]? = some n→¬fJ T k n from fun q n hq hn=>by
        by_cases e:q=j
        ·subst e;rw [HN.out] at hn;cases hn;exact UH.out
        ·exact HNT.out q n (by omega) hn)
       have HU6:=ak ((HU5.out.put hm6).more (q:=fun n=>fJ T k n∨n∈M.take (j+1)) fun i _=>by
        rw [List.take_add_one,HN.out]
        simp only [Option.toList_some,List.mem_append,List.mem_singleton]
        exact or_assoc)
       have rR:=ak (xC.out.setCell (p:=⟨gu,m,none⟩) (by show w0.heap.size≤gu;rw [HGU.out];exact bK _) (.bool true))
       go_wp2
       go_roundw
       case rel=>exact ⟨j+1,by omega,by go_num,HU6,HNT2,rR.out⟩
       case measure=>simp [intOf];omega
     ·have hdj:decide ((j:Int)<(M.length:Int))=false:=dS (by omega)
      obtain rfl:j=M.length:=by omega
      have kX:=ak (show okY C now T k ((x0,x1),x2,x3,x4,x5,x6,(x7,x8),x9,x10,aS,aV,M) from ⟨Tn.out,fun _ n hn=>by
       obtain ⟨q,hq,rfl⟩:=List.mem_iff_getElem.1 hn
       exact HNT.out q _ hq (List.getElem?_eq_getElem hq)⟩)
      have Gs:=ak (qj HFT.out HX.out kX.out)
      have HU7:=ak (HU5.out.more (q:=fun n=>fJ T (k+1) n) fun i _=>by
       rw [nS HX.out,List.take_length]
       exact ⟨fun h=>h.imp id fun h=>⟨HS2.out,h⟩,fun h=>h.imp id fun h=>h.2⟩)
      go_wp2
      go_roundw
      case rel=>exact ⟨k+1,by omega,by go_num,Gs,HU7,xC.out⟩
      case measure=>simp [intOf];omega
  ·have hdl:decide ((k:Int)<(T.length:Int))=false:=dS (by omega)
   obtain rfl:k=T.length:=by omega
   clear hB
   go_wp2
   go_ret
   exact bM HFT.out uJ.out
end
end aQ
end Go.Proofs.YtlhfiapfncikdaaGreatDoor
