import Derived.Test.YtlhfiapfncikdaaGreatDoorPN0
set_option linter.unusedVariables false
set_option linter.unusedSimpArgs false
set_option maxRecDepth 100000
set_option maxHeartbeats 3200000
namespace Go.Proofs.YtlhfiapfncikdaaGreatDoor
namespace aQ
section
open Go.RowKit bN bO
def Xl (k:Nat)(out:ByteArray):ByteArray:=if h:k=0 then out else Xl (k / 10) (⟨#[48+UInt8.ofNat (k % 10)]⟩++out)
termination_by k
decreasing_by omega
theorem V8 (out:ByteArray):Xl 0 out=out:=by unfold Xl;simp
theorem ZT {k:Nat}(h:0<k)(out:ByteArray):Xl k out=Xl (k / 10) (⟨#[48+UInt8.ofNat (k % 10)]⟩++out):=by
 rw [Xl];rw [dif_neg (by omega)]
def jv (k:Int):ByteArray:=if k≤0 then ⟨#[109,48]⟩ else ⟨#[109]⟩++Xl k.toNat ⟨#[]⟩
def St:Rp ByteArray where
 size:=1
 rd _ _ d cs:=cs = [.string d]∧d.size≤maxLen
 ow _ _ d cs:=cs = [.string d]∧d.size≤maxLen
 mm d k k':=d=jv k∧k'=k+1
 mv _ k k':=k'=k
 cm _:=1
 cv _:=0
 sz d:=d.size
theorem aaZ:Ok St where
 qW h:=by rw [h.1];rfl
 jG h:=by rw [h.1];rfl
 fG h _:=h
 jy h _:=h
 bT h _:=h
 pU h _:=h
 qA h _:=h
 one h u hu:=by rw [h.1] at hu;simp at hu;subst hu;rfl
theorem aa0:Mn St:=fun x k k' h=>by have:=h.2;omega
end
end aQ
namespace UN
section
open Go.RowKit
theorem zU:(Tryz.prog.info? 5).map (fun i=>(i.zero,i.size,i.bytes))=some (some (.int .u8 0),1,1):=by kernel_rfl
theorem zS {a b:ByteArray}(h:a=b):Ending.returned (.string a)=.returned (.string b):=by rw [h]
def bytesOf (l:List UInt8):ByteArray:=⟨l.toArray⟩
theorem WT (w:World):(convert 201 9 (.slice none 0 0)).run Tryz.prog w=.ok (.string { data:=#[] }) w:=by kernel_rfl
theorem Jw {B:Nat}{w:World}{v:Value}{l:List UInt8}(h:w.ownsRow B 5 1 v l.length (l.map fun c=>Value.int .u8 (c.toNat:Int))) :
 (convert 201 9 v).run Tryz.prog w=.ok (.string (bytesOf l)) w:=by
 have hc:=fun g hg j u hj=>World.ownsRow.cells h (g:=g) hg j u hj
 rcases h with ⟨_,⟨rfl,hn⟩ | ⟨g,cap,cur,rfl,_⟩⟩
 ·obtain rfl:=List.length_eq_zero_iff.1 hn
  exact WT w
 ·exact run_convert_bytes_back w 201 9 5 ⟨g,0,none⟩ cap l Tryz.underlying201 Tryz.underlying5 Tryz.underlying9 (fun j hj=>hc g rfl j _ (by simp [List.getElem?_eq_getElem hj]))
end
end UN
namespace aQ
section
open Go.RowKit bN bO
theorem sz1 (c:UInt8)(out:ByteArray):((⟨#[c]⟩:ByteArray)++out).size=1+out.size:=by rw [ByteArray.size_append];rfl
theorem WS (W:World)(c:UInt8):(convert 201 9 (.slice (some ⟨W.heap.size,0,none⟩) 1 1)).run Tryz.prog (W.alloc (.cells #[.int .u8 (c.toNat:Int)] 5))=.ok (.string ⟨#[c]⟩) (W.alloc (.cells #[.int .u8 (c.toNat:Int)] 5)):=by
 have h:=UN.Jw (B:=0) (w:=W.alloc (.cells #[.int .u8 (c.toNat:Int)] 5)) (v:=.slice (some ⟨W.heap.size,0,none⟩) 1 1) (l:=[c]) ?_
 ·simpa [UN.bytesOf] using h
 ·exact ⟨by simp,.inr ⟨W.heap.size,1,#[.int .u8 (c.toNat:Int)],rfl,dV _,heap_alloc_new W _,bK _,by decide,rfl,rfl⟩⟩
theorem ZU {q n k:Nat}(hq:0<q)(h:2 ^ n*(q+1)≤k):2 ^ (1+n)*(q / 10+1)≤k:=by
 have h1:2*(q / 10+1)≤q+1:=by omega
 calc 2 ^ (1+n)*(q / 10+1)=2 ^ n*(2*(q / 10+1)):=by rw [Nat.add_comm,Nat.pow_succ,Nat.mul_assoc]
  _≤2 ^ n*(q+1):=Nat.mul_le_mul_left _ h1
  _≤k:=h
theorem V9 {q n k:Nat}(h:2 ^ n*(q+1)≤k+1)(hk:k≤4611686018427387904):n≤63:=by
 have h1:2 ^ n≤2 ^ 63:=by
  have:=Nat.le_mul_of_pos_right (2 ^ n) (show 0<q+1 by omega)
  have h2:(2:Nat) ^ 63=9223372036854775808:=by decide
  omega
 exact (Nat.pow_le_pow_iff_right (by decide)).1 h1
def MkT (k:Int)(w:World)(e:Ending)(w':World):Prop:=e=.returned (.string (jv k))∧(jv k).size≤maxLen∧Below w.heap.size w w'
theorem wQ {k:Int}{w:World}{e:Ending}{w':World}(h:MkT k w e w'):e=.returned (.string (jv k))∧(jv k).size≤maxLen∧Below w.heap.size w w':=h
theorem qb (z:Int)(w:World)(h0:0≤z)(h2:z≤4611686018427387904):Calls Tryz.prog 91 #[.int .i64 z] w (MkT z w):=by
 by_cases hz:z≤0
 ·have hd:decide (z≤0)=true:=eD hz
  have HE:=ak (show jv z=⟨#[109,48]⟩ from if_pos hz)
  go_enter Tryz.func91,Tryz.ntmps91
  go_wp2
  go_ret
  exact ⟨by rw [HE.out];rfl,by rw [HE.out];decide,aW _ _⟩
 have hd:decide (z≤0)=false:=dS hz
 obtain ⟨k,rfl⟩:∃ k:Nat,z=k:=⟨z.toNat,by omega⟩
 have HK:=ak (show jv k=⟨#[109]⟩++Xl k ⟨#[]⟩ from by unfold jv;rw [if_neg hz];rfl)
 go_enter Tryz.func91,Tryz.ntmps91
 go_wp2
 go_loopw [0,3] (fun i v wr=>∃ (q:Nat) (out:ByteArray),2 ^ out.size*(q+1)≤k+1∧i=.int .i64 q∧v=.string out∧q≤k∧Xl q out=Xl k ⟨#[]⟩∧Below w.heap.size w wr) (fun i _ _=>(intOf i).toNat)
 case atStart=>exact ⟨k,⟨#[]⟩,by simp [ByteArray.size],rfl,rfl,bK _,rfl,aW _ _⟩
 case round=>
  obtain ⟨q,out,hpw,rfl,rfl,hqk,hm,hb⟩:=hrel
  have HM:=ak hm
  have HB:=ak hb
  have FM:=ak hpw
  have hs1:out.size≤63:=V9 hpw (by omega)
  clear hm hb hpw
  by_cases hq:0<q
  ·have hpos:(0:Int)<(q:Int):=by omega
   have hd2:decide ((0:Int)<(q:Int))=true:=eD hpos
   have hc:((48+UInt8.ofNat (q % 10)).toNat:Int)=48+(q:Int) % 10:=by rw [show 48+UInt8.ofNat (q % 10)=UInt8.ofNat (48+q % 10) by simp,UInt8.toNat_ofNat'];omega
   have adG:=WS wr (48+UInt8.ofNat (q % 10))
   rw [hc] at adG
   have HC:=ak (ZT hq out)
   have HQ:=ak hq
   clear hc
   go_wp2
   go_roundw
   case rel=>exact ⟨q / 10,_,by rw [sz1];exact ZU HQ.out FM.out,by go_num,rfl,by omega,by rw [←HC.out];exact HM.out,HB.out.alloc HB.out.size _⟩
   case measure=>simp [intOf];omega
  ·obtain rfl:q=0:=by omega
   have HE:=ak (show jv k=⟨#[109]⟩++out from by rw [HK.out,←HM.out,V8])
   have HL:=ak (show (jv k).size≤maxLen from by rw [HE.out,sz1];unfold maxLen;omega)
   go_wp2
   go_ret
   exact ⟨by rw [HE.out];rfl,HL.out,HB.out⟩
abbrev bI:Type:=(ay)×(ByteArray)×(Int)
def bC:Rp bI:=(Pr av (Pr St I))
theorem aU:Ok bC:=(gP au (gP aaZ cK))
theorem ku {W:World}{B:Nat}{x0:Int}{x1:Int}{x2:ByteArray}{x3:Int}{cs:List Value}(h:bC.rd W B ((x0,x1),x2,x3) cs):cs = [.int .i64 x0,.int .i64 x1,.string x2,.int .i64 x3]∧x2.size≤maxLen:=by
 obtain ⟨u1,v1,rfl,h1,g1⟩:=h
 obtain ⟨u2,v2,rfl,h2,g2⟩:=h1
 obtain rfl:u2 = [_]:=h2
 obtain rfl:v2 = [_]:=g2
 obtain ⟨u3,v3,rfl,h3,g3⟩:=g1
 obtain ⟨Uj,oF⟩:=h3
 obtain rfl:u3 = [_]:=Uj
 obtain rfl:v3 = [_]:=g3
 exact ⟨rfl,oF⟩
theorem Bn {W:World}{S:Nat→Prop}{x0:Int}{x1:Int}{x2:ByteArray}{x3:Int}  (oF:x2.size≤maxLen):bC.ow W S ((x0,x1),x2,x3) [.int .i64 x0,.int .i64 x1,.string x2,.int .i64 x3]:=⟨[.int .i64 x0,.int .i64 x1],[.string x2,.int .i64 x3],(fun _=>False),(fun _=>False),rfl,(fun k h=>h.elim),(fun k h=>h.elim),(fun k h h'=>h.elim),⟨[.int .i64 x0],[.int .i64 x1],(fun _=>False),(fun _=>False),rfl,(fun k h=>h.elim),(fun k h=>h.elim),(fun k h h'=>h.elim),rfl,rfl⟩,⟨[.string x2],[.int .i64 x3],(fun _=>False),(fun _=>False),rfl,(fun k h=>h.elim),(fun k h=>h.elim),(fun k h h'=>h.elim),⟨rfl,oF⟩,rfl⟩⟩
theorem ES {W:World}{S:Nat→Prop}{x0:Int}{x1:Int}{x2:ByteArray}{x3:Int}{cs:List Value}(h:bC.ow W S ((x0,x1),x2,x3) cs):cs = [.int .i64 x0,.int .i64 x1,.string x2,.int .i64 x3]∧x2.size≤maxLen:=by
 obtain ⟨u1,v1,A1,B1,rfl,sa1,sb1,dd1,h1,g1⟩:=h
 obtain ⟨u2,v2,A2,B2,rfl,JW,Et,FL,h2,g2⟩:=h1
 obtain rfl:u2 = [_]:=h2
 obtain rfl:v2 = [_]:=g2
 obtain ⟨u3,v3,A3,B3,rfl,FQ,Es,dd3,h3,g3⟩:=g1
 obtain ⟨Uj,oF⟩:=h3
 obtain rfl:u3 = [_]:=Uj
 obtain rfl:v3 = [_]:=g3
 exact ⟨rfl,oF⟩
theorem abK {x0:Int}{x1:Int}{x2:ByteArray}{x3:Int}  {W:World}(hsz:bC.sz ((x0,x1),x2,x3)≤1048576)(oF:x2.size≤maxLen):Calls Tryz.prog 75 #[.agg #[.int .i64 x0,.int .i64 x1,.string x2,.int .i64 x3]] W (kT bC ((x0,x1),x2,x3) W):=by
 have nI:=ak hsz
 clear hsz
 have hP:=((aO.new W 114 #[.int .i64 x0,.int .i64 x1,.string x2,.int .i64 x3]).alloc (.cells #[.int .i64 0,.int .i64 0,.string ⟨#[]⟩,.int .i64 0] 128)).alloc (.cells #[.int .i64 0,.int .i64 0,.string ⟨#[]⟩,.int .i64 0] 128)
 have hR:=(aO.new (W.alloc (.cells #[.int .i64 x0,.int .i64 x1,.string x2,.int .i64 x3] 114)) 128 #[.int .i64 0,.int .i64 0,.string ⟨#[]⟩,.int .i64 0]).alloc (.cells #[.int .i64 0,.int .i64 0,.string ⟨#[]⟩,.int .i64 0] 128)
 have hO:=aO.new ((W.alloc (.cells #[.int .i64 x0,.int .i64 x1,.string x2,.int .i64 x3] 114)).alloc (.cells #[.int .i64 0,.int .i64 0,.string ⟨#[]⟩,.int .i64 0] 128)) 128 #[.int .i64 0,.int .i64 0,.string ⟨#[]⟩,.int .i64 0]
 simp only [World.size_alloc] at hP hR hO
 have HB0:=ak (show Below W.heap.size W (((W.alloc (.cells #[.int .i64 x0,.int .i64 x1,.string x2,.int .i64 x3] 114)).alloc (.cells #[.int .i64 0,.int .i64 0,.string ⟨#[]⟩,.int .i64 0] 128)).alloc (.cells #[.int .i64 0,.int .i64 0,.string ⟨#[]⟩,.int .i64 0] 128)) from (((aW _ _).alloc (bK _) _).alloc (by simp) _).alloc (by simp;omega) _)
 have hz0:W.heap.size+3≤(((W.alloc (.cells #[.int .i64 x0,.int .i64 x1,.string x2,.int .i64 x3] 114)).alloc (.cells #[.int .i64 0,.int .i64 0,.string ⟨#[]⟩,.int .i64 0] 128)).alloc (.cells #[.int .i64 0,.int .i64 0,.string ⟨#[]⟩,.int .i64 0] 128)).heap.size:=by simp
 have gY:=ak hP
 have Ab:=ak hR
 have zo:=ak hO
 clear hP hR hO
 go_enter Tryz.func75,Tryz.ntmps75
 go_wp2_with fail
 refine (mQ (by have h0:=nI.out;simp only [bC,av,Pr,Sl,I,Bo,St,atom] at h0 ⊢;omega)).mono ?_
 intro e w1 h
 obtain ⟨vs,rfl,how,hb⟩:=bY h
 obtain rfl:=jQ how
 have hP:aO w1 (W.heap.size) 114 #[.int .i64 x0,.int .i64 x1,.string x2,.int .i64 x3]:=aO.call gY.out hb
 have hR:aO w1 (W.heap.size+1) 128 #[.int .i64 0,.int .i64 0,.string ⟨#[]⟩,.int .i64 0]:=aO.call Ab.out hb
 have hO:aO w1 (W.heap.size+1+1) 128 #[.int .i64 0,.int .i64 0,.string ⟨#[]⟩,.int .i64 0]:=aO.call zo.out hb
 have hz1:W.heap.size+3≤w1.heap.size:=eF hz0 (bP hb (S:=fun x=>x<W.heap.size+3) (Off.refl (fun x=>x<W.heap.size+3) _))
 have HB1:=ak (Below.trans (B:=W.heap.size) (a:=W) HB0.out (hb.mono (by have h0:=hz0;first | omega | (simp;omega))))
 have cZ:=ak hP
 have HR1:=ak hR
 have rQ:=ak hO
 clear h hb hP hR hO how
 obtain ⟨vK,qK,ou,uL⟩:=cZ.out.jE rfl
 obtain ⟨CS,CQ,ED,Gl⟩:=rQ.out.jE rfl
 obtain ⟨CK,CJ,Ez,Gf⟩:=HR1.out.jE rfl
 obtain ⟨CZ,CY,EG,Gp⟩:=rQ.out.CG
 obtain ⟨CX,CW,EF,Gn⟩:=HR1.out.CG
 go_wp2
 refine qC (v:=.agg #[.int .i64 x0,.int .i64 x1,.string x2,.int .i64 x3]) (by simp [results,Tryz.results75,go_sem, *]) rfl ⟨[.int .i64 x0,.int .i64 x1,.string x2,.int .i64 x3],rfl,?_,((((((((HB1.out.setCell (p:=⟨W.heap.size+1+1,0,none⟩) (by show W.heap.size≤W.heap.size+1+1;omega) (.int .i64 x0)).setCell (p:=⟨W.heap.size+1+1,1,none⟩) (by show W.heap.size≤W.heap.size+1+1;omega) (.int .i64 x1)).setCell (p:=⟨W.heap.size+1+1,2,none⟩) (by show W.heap.size≤W.heap.size+1+1;omega) (.string x2)).setCell (p:=⟨W.heap.size+1+1,3,none⟩) (by show W.heap.size≤W.heap.size+1+1;omega) (.int .i64 x3)).setCell (p:=⟨W.heap.size+1,0,none⟩) (by show W.heap.size≤W.heap.size+1;omega) (.int .i64 x0)).setCell (p:=⟨W.heap.size+1,1,none⟩) (by show W.heap.size≤W.heap.size+1;omega) (.int .i64 x1)).setCell (p:=⟨W.heap.size+1,2,none⟩) (by show W.heap.size≤W.heap.size+1;omega) (.string x2)).setCell (p:=⟨W.heap.size+1,3,none⟩) (by show W.heap.size≤W.heap.size+1;omega) (.int .i64 x3))⟩
 have hoff:=(((((((((Off.refl (fun x=>x<W.heap.size+3) w1).setCell (p:=⟨W.heap.size+1+1,0,none⟩) (by show W.heap.size+1+1<W.heap.size+3;omega) (.int .i64 x0)).setCell (p:=⟨W.heap.size+1+1,1,none⟩) (by show W.heap.size+1+1<W.heap.size+3;omega) (.int .i64 x1)).setCell (p:=⟨W.heap.size+1+1,2,none⟩) (by show W.heap.size+1+1<W.heap.size+3;omega) (.string x2)).setCell (p:=⟨W.heap.size+1+1,3,none⟩) (by show W.heap.size+1+1<W.heap.size+3;omega) (.int .i64 x3)).setCell (p:=⟨W.heap.size+1,0,none⟩) (by show W.heap.size+1<W.heap.size+3;omega) (.int .i64 x0)).setCell (p:=⟨W.heap.size+1,1,none⟩) (by show W.heap.size+1<W.heap.size+3;omega) (.int .i64 x1)).setCell (p:=⟨W.heap.size+1,2,none⟩) (by show W.heap.size+1<W.heap.size+3;omega) (.string x2)).setCell (p:=⟨W.heap.size+1,3,none⟩) (by show W.heap.size+1<W.heap.size+3;omega) (.int .i64 x3))
 have hsz:=hoff.size
 exact Bn oF
theorem dK:(bC).size=4:=rfl
def EN (n:Nat):Array Value:=madeCells #[.int .i64 0,.int .i64 0,.string ⟨#[]⟩,.int .i64 0] (n*4)
theorem Fa (n:Nat):(EN n).size=n*(bC).size:=by unfold EN;simp [madeCells,dK]
theorem Rl (n:Nat)(hn:n≤1048576):∀ W:World,(Instr.makeSlice 42 (.int .i64 (n:Int)) (.int .i64 (n:Int))).run Tryz.prog W=.ok (.slice (some ⟨W.heap.size,0,none⟩) n n) (W.alloc (.cells (EN n) 128)):=by
 intro W
 obtain ⟨i,hi,hz,hs,hb⟩:∃ i,Tryz.prog.info? 128=some i∧i.zero=some (.agg #[.int .i64 0,.int .i64 0,.string ⟨#[]⟩,.int .i64 0])∧i.size=4∧i.bytes=40:=by
  have h:(Tryz.prog.info? 128).map (fun i=>(i.zero,i.size,i.bytes))=some (some (.agg #[.int .i64 0,.int .i64 0,.string ⟨#[]⟩,.int .i64 0]),4,40):=by kernel_rfl
  cases hx:Tryz.prog.info? 128 with
  | none=>rw [hx] at h;simp at h
  | some i=>rw [hx] at h;simp at h;exact ⟨i,rfl,h.1,h.2.1,h.2.2⟩
 have hr:=run_make (P:=Tryz.prog) W 42 128 i _ Tryz.underlying42 hi hz .i64 .i64 n n (by omega) (by omega) (by rw [hb];omega) (by omega)
 rw [hs] at hr
 simp only [Int.toNat_natCast] at hr
 exact hr
theorem Zt {L:List (bI)}{a:Option Addr}{cap:Nat}{W:World}(hsz:((Sl bC)).sz L≤1048576)(h:aJ bC W W.heap.size L a cap):Calls Tryz.prog 35 #[.slice a L.length cap] W (jU bC L W):=by
 have hn:L.length≤1048576:=eF (Nat.le_add_right _ _) hsz
 have hmk:=Rl L.length hn
 have H:=ak h
 have nI:=ak hsz
 clear h hsz
 go_enter Tryz.func35,Tryz.ntmps35
 go_wp2
 go_loopw [4] (fun i wr=>∃ k:Nat,k≤L.length∧i=.int .i64 k∧∃ Sf,sU bC W wr L W.heap.size Sf k) (fun i _=>L.length-(intOf i).toNat)
 case atStart=>exact ⟨0,dV _,rfl,_,sU.new (by exact Fa _)⟩
 case round=>
  obtain ⟨k,hk,rfl,Sf,hF⟩:=hrel
  have HF:=ak hF
  by_cases hlt:k<L.length
  ·obtain ⟨⟨⟨x0,x1⟩,x2,x3⟩,hx⟩:=aM hlt
   have HX:=ak hx
   obtain ⟨g,o,us,rfl,hg,hu,hr⟩:=(H.out.below aU hF.below).at_ hx
   obtain ⟨rfl,oF⟩:=ku hr
   obtain ⟨e0,e1,e2,e3⟩:=Kn (a:=o+k*4) hu rfl
   have hi0:(0:Int)≤(k:Int):=eu _
   have hi1:(k:Int)<(L.length:Int):=by omega
   have HE:=ak (vS (f:=(bC).sz) HX.out nI.out)
   clear hF hx hu hmk
   go_wp2_with fail
   refine (abK (by exact HE.out) oF).mono ?_
   intro e w1 h
   obtain ⟨vs,rfl,how,hb⟩:=bY h
   have HOW:=ak how
   obtain ⟨rfl,_⟩:=ES how
   have HP:=ak (HF.out.put aU HX.out hb HOW.out)
   have hlt1:=HF.out.lt
   obtain ⟨t0,ht0⟩:=HF.out.there (k*4) (by rw [dK];omega)
   have q0:=(hb.cell (p:=⟨W.heap.size,k*4,none⟩) hlt1).trans ht0
   have s0:=(hb.frozen (p:=⟨W.heap.size,k*4,none⟩) hlt1).trans (HF.out.soft (k*4))
   obtain ⟨t1,ht1⟩:=HF.out.there (k*4+1) (by rw [dK];omega)
   have q1:=(hb.cell (p:=⟨W.heap.size,k*4+1,none⟩) hlt1).trans ht1
   have s1:=(hb.frozen (p:=⟨W.heap.size,k*4+1,none⟩) hlt1).trans (HF.out.soft (k*4+1))
   obtain ⟨t2,ht2⟩:=HF.out.there (k*4+2) (by rw [dK];omega)
   have q2:=(hb.cell (p:=⟨W.heap.size,k*4+2,none⟩) hlt1).trans ht2
   have s2:=(hb.frozen (p:=⟨W.heap.size,k*4+2,none⟩) hlt1).trans (HF.out.soft (k*4+2))
   obtain ⟨t3,ht3⟩:=HF.out.there (k*4+3) (by rw [dK];omega)
   have q3:=(hb.cell (p:=⟨W.heap.size,k*4+3,none⟩) hlt1).trans ht3
   have s3:=(hb.frozen (p:=⟨W.heap.size,k*4+3,none⟩) hlt1).trans (HF.out.soft (k*4+3))
   clear h how hb ht0 ht1 ht2 ht3 e0 e1 e2 e3
   go_wp2
   go_roundw
   case rel=>exact ⟨k+1,by omega,by go_num,_,by simpa [putCells,dK,Nat.add_assoc] using HP.out⟩
   case measure=>simp [intOf];omega
  ·obtain rfl:k=L.length:=by omega
   have HR:=ak (HF.out.news (by unfold maxLen;omega))
   clear hF hmk
   go_wp2
   go_ret
   exact HR.out
theorem eq_Use {x0:Int}{x1:Int}{x2:ByteArray}{x3:Int}   {W:World}:Calls Tryz.prog 86 #[.agg #[.int .i64 x0,.int .i64 x1,.string x2,.int .i64 x3],.agg #[.int .i64 x0,.int .i64 x1,.string x2,.int .i64 x3]] W (sS true W):=by
 have HB0:=ak (show Below W.heap.size W ((W.alloc (.cells #[.int .i64 x0,.int .i64 x1,.string x2,.int .i64 x3] 128)).alloc (.cells #[.int .i64 x0,.int .i64 x1,.string x2,.int .i64 x3] 128)) from ((aW _ _).alloc (bK _) _).alloc (by simp) _)
 have hP:=(aO.new W 128 #[.int .i64 x0,.int .i64 x1,.string x2,.int .i64 x3]).alloc (.cells #[.int .i64 x0,.int .i64 x1,.string x2,.int .i64 x3] 128)
 have hQ:=aO.new (W.alloc (.cells #[.int .i64 x0,.int .i64 x1,.string x2,.int .i64 x3] 128)) 128 #[.int .i64 x0,.int .i64 x1,.string x2,.int .i64 x3]
 simp only [World.size_alloc] at hP hQ
 have gY:=ak hP
 have Dp:=ak hQ
 have hz0:W.heap.size≤((W.alloc (.cells #[.int .i64 x0,.int .i64 x1,.string x2,.int .i64 x3] 128)).alloc (.cells #[.int .i64 x0,.int .i64 x1,.string x2,.int .i64 x3] 128)).heap.size:=HB0.out.size
 clear hP hQ
 go_enter Tryz.func86,Tryz.ntmps86
 go_wp2_with fail
 refine (eq_Label).mono ?_
 intro e w1 h
 obtain ⟨rfl,hb⟩:=bU h
 have cZ:=ak (gY.out.call hb)
 have nJ:=ak (Dp.out.call hb)
 have HB1:=ak (HB0.out.trans (hb.mono hz0))
 have hz1:W.heap.size≤w1.heap.size:=HB1.out.size
 clear h hb
 have ou:=cZ.out.at_ 2 rfl
 have uL:=cZ.out.at_ 3 rfl
 have Ke:=nJ.out.at_ 2 rfl
 have PE:=nJ.out.at_ 3 rfl
 go_wp2
 all_goals
  go_ret
  exact ⟨rfl,HB1.out⟩
theorem jr:(bC).size=4:=rfl
theorem eq_UseS {L:List (bI)}{a a':Option Addr}{cap cap':Nat}{W:World}(h:aJ bC W W.heap.size L a cap)(h':aJ bC W W.heap.size L a' cap'):Calls Tryz.prog 42 #[.slice a L.length cap,.slice a' L.length cap'] W (sS true W):=by
 have hn:L.length≤9223372036854775807:=by have h1:=h.1;have h2:=h.2.1;unfold maxLen at h2;omega
 have H:=ak h
 have H':=ak h'
 clear h h'
 go_enter Tryz.func42,Tryz.ntmps42
 go_wp2
 go_loopw [5] (fun i wr=>∃ k:Nat,k≤L.length∧i=.int .i64 k∧Below W.heap.size W wr) (fun i _=>L.length-(intOf i).toNat)
 case atStart=>exact ⟨0,dV _,rfl,aW _ _⟩
 case round=>
  obtain ⟨k,hk,rfl,hB⟩:=hrel
  have HB:=ak hB
  have hsz:=hB.size
  by_cases hlt:k<L.length
  ·obtain ⟨⟨⟨x0,x1⟩,x2,x3⟩,hx⟩:=aM hlt
   have HX:=ak hx
   obtain ⟨g,o,us,rfl,hg,hu,hr⟩:=(H.out.below aU hB).at_ hx
   obtain ⟨g',o',vs,rfl,hg',hu',hr'⟩:=(H'.out.below aU hB).at_ hx
   obtain ⟨rfl,oF⟩:=ku hr
   obtain ⟨rfl,b'_x2⟩:=ku hr'
   have e0:wr.cell? ⟨g,o+k*4,none⟩=some (.int .i64 x0):=by simpa [jr,Nat.add_assoc] using hu 0 _ rfl
   have d0:wr.cell? ⟨g',o'+k*4,none⟩=some (.int .i64 x0):=by simpa [jr,Nat.add_assoc] using hu' 0 _ rfl
   have e1:wr.cell? ⟨g,o+k*4+1,none⟩=some (.int .i64 x1):=by simpa [jr,Nat.add_assoc] using hu 1 _ rfl
   have d1:wr.cell? ⟨g',o'+k*4+1,none⟩=some (.int .i64 x1):=by simpa [jr,Nat.add_assoc] using hu' 1 _ rfl
   have e2:wr.cell? ⟨g,o+k*4+2,none⟩=some (.string x2):=by simpa [jr,Nat.add_assoc] using hu 2 _ rfl
   have d2:wr.cell? ⟨g',o'+k*4+2,none⟩=some (.string x2):=by simpa [jr,Nat.add_assoc] using hu' 2 _ rfl
   have e3:wr.cell? ⟨g,o+k*4+3,none⟩=some (.int .i64 x3):=by simpa [jr,Nat.add_assoc] using hu 3 _ rfl
   have d3:wr.cell? ⟨g',o'+k*4+3,none⟩=some (.int .i64 x3):=by simpa [jr,Nat.add_assoc] using hu' 3 _ rfl
   have hi0:(0:Int)≤(k:Int):=eu _
   have hi1:(k:Int)<(L.length:Int):=by omega
   have hgl:g<wr.heap.size:=bV hg hsz
   have ig:g'<wr.heap.size:=bV hg' hsz
   clear hB hx hu hu'
   go_wp2_with fail
   refine dX (S:=(fun W=>W.cell? ⟨g,o+k*4,none⟩=some (.int .i64 x0)∧W.cell? ⟨g,o+k*4+1,none⟩=some (.int .i64 x1)∧W.cell? ⟨g,o+k*4+2,none⟩=some (.string x2)∧W.cell? ⟨g,o+k*4+3,none⟩=some (.int .i64 x3)∧W.cell? ⟨g',o'+k*4,none⟩=some (.int .i64 x0)∧W.cell? ⟨g',o'+k*4+1,none⟩=some (.int .i64 x1)∧W.cell? ⟨g',o'+k*4+2,none⟩=some (.string x2)∧W.cell? ⟨g',o'+k*4+3,none⟩=some (.int .i64 x3)∧wr.heap.size≤W.heap.size∧Below wr.heap.size wr W)) (by kernel_rfl) (⟨e0,e1,e2,e3,d0,d1,d2,d3,bK _,(aW _ _).drew⟩) (fun ah=>?_)
   refine wpAnyH_take (i:=0) (v:=?hv1) rfl (by kernel_rfl) (by kernel_rfl) (by kernel_rfl) (fun _ _ _ h=>h) (Or.inl ⟨by kernel_rfl,?hy1⟩) ah ?hr1
   case hy1=>(intro w aj;(try dsimp only at aj);go_simp;try with_reducible rfl)
   refine wpAnyH_take (i:=1) (v:=?hv2) rfl (by kernel_rfl) (by kernel_rfl) (by kernel_rfl) (fun _ _ _ h=>h) (Or.inl ⟨by kernel_rfl,?hy2⟩) ah ?hr2
   case hy2=>(intro w aj;(try dsimp only at aj);go_simp;try with_reducible rfl)
   refine wpAnyH_take (i:=2) (v:=?hv3) rfl (by kernel_rfl) (by kernel_rfl) (by kernel_rfl) (fun _ _ _ h=>h) (Or.inl ⟨by kernel_rfl,?hy3⟩) ah ?hr3
   case hy3=>(intro w aj;(try dsimp only at aj);go_simp;try with_reducible rfl)
   refine wpAnyH_take (i:=3) (v:=?hv4) rfl (by kernel_rfl) (by kernel_rfl) (by kernel_rfl) (fun _ _ _ h=>h) (Or.inl ⟨by kernel_rfl,?hy4⟩) ah ?hr4
   case hy4=>(intro w aj;(try dsimp only at aj);go_simp;try with_reducible rfl)
   refine wpAnyH_take (i:=4) (v:=?hv5) rfl (by kernel_rfl) (by kernel_rfl) (by kernel_rfl) (fun _ _ _ h=>h) (Or.inl ⟨by kernel_rfl,?XD⟩) ah ?hr5
   case XD=>(intro w aj;(try dsimp only at aj);go_simp;try with_reducible rfl)
   refine wpAnyH_take (i:=5) (v:=?hv6) rfl (by kernel_rfl) (by kernel_rfl) (by kernel_rfl) (fun _ _ _ h=>h) (Or.inl ⟨by kernel_rfl,?XC⟩) ah ?hr6
   case XC=>(intro w aj;(try dsimp only at aj);go_simp;try with_reducible rfl)
   refine wpAnyH_take (i:=6) (v:=?hv7) rfl (by kernel_rfl) (by kernel_rfl) (by kernel_rfl) (fun _ _ _ h=>h) (Or.inl ⟨by kernel_rfl,?XB⟩) ah ?hr7
   case XB=>(intro w aj;(try dsimp only at aj);go_simp;try with_reducible rfl)
   refine wpAnyH_take (i:=7) (v:=?hv8) rfl (by kernel_rfl) (by kernel_rfl) (by kernel_rfl) (fun _ _ _ h=>h) (Or.inl ⟨by kernel_rfl,?XA⟩) ah ?hr8
   case XA=>(intro w aj;(try dsimp only at aj);go_simp;try with_reducible rfl)
   refine dw 8 (fun K hK=>?_)
   go_simp
   refine (eq_Use).mono ?_
   intro e w1 h
   obtain ⟨rfl,hb⟩:=bU h
   refine hK.out _ _ (⟨(hb.cell (p:=⟨g,o+k*4,none⟩) (bV hgl (qG ah).1)).trans ah.1,(hb.cell (p:=⟨g,o+k*4+1,none⟩) (bV hgl (qG ah).1)).trans ah.2.1,(hb.cell (p:=⟨g,o+k*4+2,none⟩) (bV hgl (qG ah).1)).trans ah.2.2.1,(hb.cell (p:=⟨g,o+k*4+3,none⟩) (bV hgl (qG ah).1)).trans ah.2.2.2.1,(hb.cell (p:=⟨g',o'+k*4,none⟩) (bV ig (qG ah).1)).trans ah.2.2.2.2.1,(hb.cell (p:=⟨g',o'+k*4+1,none⟩) (bV ig (qG ah).1)).trans ah.2.2.2.2.2.1,(hb.cell (p:=⟨g',o'+k*4+2,none⟩) (bV ig (qG ah).1)).trans ah.2.2.2.2.2.2.1,(hb.cell (p:=⟨g',o'+k*4+3,none⟩) (bV ig (qG ah).1)).trans (Gg ah).1,eF (qG ah).1 hb.size,(kZ ah).trans (hb.mono (qG ah).1)⟩) (fun ah=>?_)
   clear hK K h
   refine tk 9 ah ?_
   refine dQ ?_
   have HB2:=ak (HB.out.trans ((kZ ah).mono hsz))
   clear ah
   go_wp2
   go_roundw
   case rel=>exact ⟨k+1,by omega,by go_num,HB2.out⟩
   case measure=>simp [intOf];omega
  ·clear hB
   go_wp2
   go_ret
   exact ⟨rfl,HB.out⟩
theorem ZA {x0:Int}{x1:Int}{x2:ByteArray}{x3:Int}:bC.sz ((x0,x1),x2,x3)=x2.size:=by
 simp only [bC,Pr,I,Bo,St,atom,av];omega
theorem abM {x0:Int}{x1:Int}{x2:ByteArray}{x3:Int}{W:World}{l:Int}(h0:0≤l)(h1:l≤1048576)(oF:x2.size≤maxLen):Calls Tryz.prog 65 #[.agg #[.int .i64 x0,.int .i64 x1,.string x2,.int .i64 x3],.int .i64 l] W (JN l (bC.sz ((x0,x1),x2,x3)) W):=by
 unfold maxLen at oF
 have HD:=ak (ZA (x0:=x0) (x1:=x1) (x2:=x2) (x3:=x3))
 by_cases hf:(x2.size:Int)≤l
 ·have HR:=ak (dL (l:=l) (s:=bC.sz ((x0,x1),x2,x3)) (by rw [HD.out];exact hf))
  have hd:decide (l-(x2.size:Int)<0)=false:=dS (by omega)
  go_enter Tryz.func65,Tryz.ntmps65
  go_wp2
  go_ret
  exact ⟨by rw [HR.out,HD.out];rfl,by first | exact aW _ _ | exact (aW _ _).alloc (bK _) _⟩
 ·have HR:=ak (dI (l:=l) (s:=bC.sz ((x0,x1),x2,x3)) (by rw [HD.out];exact hf))
  have hd:decide (l-(x2.size:Int)<0)=true:=eD (by omega)
  go_enter Tryz.func65,Tryz.ntmps65
  go_wp2
  go_ret
  exact ⟨by rw [HR.out];rfl,by first | exact aW _ _ | exact (aW _ _).alloc (bK _) _⟩
theorem aco:(bC).size=4:=rfl
theorem VB (L:List (bI)):(Sl bC).sz L=L.length+bD (bC).sz L:=rfl
theorem ZC {L:List (bI)}{a:Option Addr}{cap:Nat}{W:World}{l:Int}(h0:0≤l)(h1:l≤1048576)(h:aJ bC W W.heap.size L a cap):Calls Tryz.prog 27 #[.slice a L.length cap,.int .i64 l] W (JN l ((Sl bC).sz L) W):=by
 have hn:L.length≤9223372036854775807:=by have h1:=h.1;have h2:=h.2.1;unfold maxLen at h2;omega
 have H:=ak h
 have HD:=ak (VB L)
 clear h
 by_cases hlen:(L.length:Int)≤l
 ·go_enter Tryz.func27,Tryz.ntmps27
  go_wp2
  go_loopw [5,1] (fun i q wr=>∃ k:Nat,k≤L.length∧i=.int .i64 k∧(L.length:Int)+(bD (bC).sz (L.take k):Nat)≤l∧q=.int .i64 (l-L.length-(bD (bC).sz (L.take k):Nat))∧Below W.heap.size W wr) (fun i _ _=>L.length-(intOf i).toNat)
  case atStart=>exact ⟨0,dV _,rfl,by simpa [bD] using hlen,by simp [bD],aW _ _⟩
  case round=>
   obtain ⟨k,hk,rfl,hfit,rfl,hB⟩:=hrel
   have HB:=ak hB
   have hsz:=hB.size
   have hle:=dh (bC).sz L k
   by_cases hlt:k<L.length
   ·obtain ⟨⟨⟨x0,x1⟩,x2,x3⟩,hx⟩:=aM hlt
    have HS:=ak (fB (bC).sz hx)
    have hle2:=dh (bC).sz L (k+1)
    obtain ⟨g,o,us,rfl,hg,hu,hr⟩:=(H.out.below aU hB).at_ hx
    obtain ⟨rfl,oF⟩:=ku hr
    obtain ⟨e0,e1,e2,e3⟩:=Kn (a:=o+k*4) hu rfl
    obtain ⟨q,hq⟩:∃ q,q=bD (bC).sz (L.take k):=⟨_,rfl⟩
    obtain ⟨p,hp⟩:∃ p,p=(bC).sz ((x0,x1),x2,x3):=⟨_,rfl⟩
    rw [←hq] at hfit hle HS
    rw [←hp] at HS
    have HQ:=ak hq
    have HP:=ak hp
    have hi0:(0:Int)≤(k:Int):=eu _
    have hi1:(k:Int)<(L.length:Int):=by omega
    have hgl:g<wr.heap.size:=bV hg hsz
    have hle3:q+p≤bD (bC).sz L:=by rw [←HS.out];exact hle2
    rw [←hq]
    clear hB hx hu hq hp hle2
    go_wp2_with fail
    refine (abM (by omega) (by omega) oF).mono ?_
    intro e w1 h
    obtain ⟨rfl,hb⟩:=gD h
    rw [←HP.out]
    have HB2:=ak (HB.out.trans (hb.mono hsz))
    clear h hb
    by_cases hf:(p:Int)≤l-L.length-(q:Nat)
    ·rw [dL hf]
     have hpos:(0:Int)≤l-L.length-(q:Nat)-(p:Nat):=by omega
     go_wp2
     go_roundw
     case rel=>exact ⟨k+1,by omega,by go_num,by rw [HS.out];omega,by rw [HS.out];congr 1;omega,HB2.out⟩
     case measure=>simp [intOf];omega
    ·rw [dI hf]
     have HR:=ak (dI (l:=l) (s:=(Sl bC).sz L) (by rw [HD.out];omega))
     go_wp2
     go_ret
     exact ⟨by first | (rw [HR.out];done) | (rw [HR.out];rfl),HB2.out⟩
   ·obtain rfl:k=L.length:=by omega
    have HR:=ak (dL (l:=l) (s:=(Sl bC).sz L) (by rw [HD.out];rw [List.take_length] at hfit;omega))
    have HT:=ak (show L.take L.length=L from List.take_length)
    clear hB
    go_wp2
    go_ret
    exact ⟨by rw [HR.out,HD.out,←HT.out];first | rfl | (simp;done) | (simp;omega),HB.out⟩
 ·have HR:=ak (dI (l:=l) (s:=(Sl bC).sz L) (by rw [HD.out];omega))
  go_enter Tryz.func27,Tryz.ntmps27
  go_wp2
  go_ret
  exact ⟨by first | (rw [HR.out];done) | (rw [HR.out];rfl),aW _ _⟩
abbrev aF:Type:=(ay)×(Int)×(ByteArray)×(Int)×(Int)×(Int)×(ay)×(Int)×(Int)×(Int)×(Int)×(List (Int))
def aI:Rp aF:=(Pr av (Pr I (Pr St (Pr I (Pr I (Pr I (Pr av (Pr I (Pr I (Pr I (Pr I (Sl I))))))))))))
theorem aA:Ok aI:=(gP au (gP cK (gP aaZ (gP cK (gP cK (gP cK (gP au (gP cK (gP cK (gP cK (gP cK (aZ cK))))))))))))
theorem fA {W:World}{B:Nat}{x0:Int}{x1:Int}{x2:Int}{x3:ByteArray}{x4:Int}{x5:Int}{x6:Int}{x7:Int}{x8:Int}{x9:Int}{x10:Int}{aS:Int}{aV:Int}{L0:List (Int)}{cs:List Value}(h:aI.rd W B ((x0,x1),x2,x3,x4,x5,x6,(x7,x8),x9,x10,aS,aV,L0) cs):∃ a0 c0,cs = [.int .i64 x0,.int .i64 x1,.int .i64 x2,.string x3,.int .i64 x4,.int .i64 x5,.int .i64 x6,.int .i64 x7,.int .i64 x8,.int .i64 x9,.int .i64 x10,.int .i64 aS,.int .i64 aV,.slice a0 L0.length c0]∧aJ I W B L0 a0 c0∧x3.size≤maxLen:=by
 obtain ⟨u1,v1,rfl,h1,g1⟩:=h
 obtain ⟨u2,v2,rfl,h2,g2⟩:=h1
 obtain rfl:u2 = [_]:=h2
 obtain rfl:v2 = [_]:=g2
 obtain ⟨u3,v3,rfl,h3,g3⟩:=g1
 obtain rfl:u3 = [_]:=h3
 obtain ⟨u4,v4,rfl,h4,g4⟩:=g3
 obtain ⟨Ui,fH⟩:=h4
 obtain rfl:u4 = [_]:=Ui
 obtain ⟨u5,v5,rfl,h5,g5⟩:=g4
 obtain rfl:u5 = [_]:=h5
 obtain ⟨u6,v6,rfl,h6,g6⟩:=g5
 obtain rfl:u6 = [_]:=h6
 obtain ⟨u7,v7,rfl,h7,g7⟩:=g6
 obtain rfl:u7 = [_]:=h7
 obtain ⟨u8,v8,rfl,h8,g8⟩:=g7
 obtain ⟨u9,v9,rfl,h9,g9⟩:=h8
 obtain rfl:u9 = [_]:=h9
 obtain rfl:v9 = [_]:=g9
 obtain ⟨u10,v10,rfl,h10,g10⟩:=g8
 obtain rfl:u10 = [_]:=h10
 obtain ⟨u11,v11,rfl,h11,g11⟩:=g10
 obtain rfl:u11 = [_]:=h11
 obtain ⟨u12,v12,rfl,h12,g12⟩:=g11
 obtain rfl:u12 = [_]:=h12
 obtain ⟨u13,v13,rfl,h13,g13⟩:=g12
 obtain rfl:u13 = [_]:=h13
 obtain ⟨a0,c0,rfl,dY⟩:=g13
 exact ⟨a0,c0,rfl,dY,fH⟩
theorem lQ {W:World}{S:Nat→Prop}{x0:Int}{x1:Int}{x2:Int}{x3:ByteArray}{x4:Int}{x5:Int}{x6:Int}{x7:Int}{x8:Int}{x9:Int}{x10:Int}{aS:Int}{aV:Int}{L0:List (Int)}{a0:Option Addr}{c0:Nat}{T0:Nat→Prop}(hs0:∀ k,T0 k→S k)(dP:bH I W T0 L0 a0 c0)(fH:x3.size≤maxLen):aI.ow W S ((x0,x1),x2,x3,x4,x5,x6,(x7,x8),x9,x10,aS,aV,L0) [.int .i64 x0,.int .i64 x1,.int .i64 x2,.string x3,.int .i64 x4,.int .i64 x5,.int .i64 x6,.int .i64 x7,.int .i64 x8,.int .i64 x9,.int .i64 x10,.int .i64 aS,.int .i64 aV,.slice a0 L0.length c0]:=⟨[.int .i64 x0,.int .i64 x1],[.int .i64 x2,.string x3,.int .i64 x4,.int .i64 x5,.int .i64 x6,.int .i64 x7,.int .i64 x8,.int .i64 x9,.int .i64 x10,.int .i64 aS,.int .i64 aV,.slice a0 L0.length c0],(fun _=>False),T0,rfl,(fun k h=>h.elim),(fun k h=>hs0 k h),(fun k h h'=>h.elim),⟨[.int .i64 x0],[.int .i64 x1],(fun _=>False),(fun _=>False),rfl,(fun k h=>h.elim),(fun k h=>h.elim),(fun k h h'=>h.elim),rfl,rfl⟩,⟨[.int .i64 x2],[.string x3,.int .i64 x4,.int .i64 x5,.int .i64 x6,.int .i64 x7,.int .i64 x8,.int .i64 x9,.int .i64 x10,.int .i64 aS,.int .i64 aV,.slice a0 L0.length c0],(fun _=>False),T0,rfl,(fun k h=>h.elim),(fun k h=>h),(fun k h h'=>h.elim),rfl,⟨[.string x3],[.int .i64 x4,.int .i64 x5,.int .i64 x6,.int .i64 x7,.int .i64 x8,.int .i64 x9,.int .i64 x10,.int .i64 aS,.int .i64 aV,.slice a0 L0.length c0],(fun _=>False),T0,rfl,(fun k h=>h.elim),(fun k h=>h),(fun k h h'=>h.elim),⟨rfl,fH⟩,⟨[.int .i64 x4],[.int .i64 x5,.int .i64 x6,.int .i64 x7,.int .i64 x8,.int .i64 x9,.int .i64 x10,.int .i64 aS,.int .i64 aV,.slice a0 L0.length c0],(fun _=>False),T0,rfl,(fun k h=>h.elim),(fun k h=>h),(fun k h h'=>h.elim),rfl,⟨[.int .i64 x5],[.int .i64 x6,.int .i64 x7,.int .i64 x8,.int .i64 x9,.int .i64 x10,.int .i64 aS,.int .i64 aV,.slice a0 L0.length c0],(fun _=>False),T0,rfl,(fun k h=>h.elim),(fun k h=>h),(fun k h h'=>h.elim),rfl,⟨[.int .i64 x6],[.int .i64 x7,.int .i64 x8,.int .i64 x9,.int .i64 x10,.int .i64 aS,.int .i64 aV,.slice a0 L0.length c0],(fun _=>False),T0,rfl,(fun k h=>h.elim),(fun k h=>h),(fun k h h'=>h.elim),rfl,⟨[.int .i64 x7,.int .i64 x8],[.int .i64 x9,.int .i64 x10,.int .i64 aS,.int .i64 aV,.slice a0 L0.length c0],(fun _=>False),T0,rfl,(fun k h=>h.elim),(fun k h=>h),(fun k h h'=>h.elim),⟨[.int .i64 x7],[.int .i64 x8],(fun _=>False),(fun _=>False),rfl,(fun k h=>h.elim),(fun k h=>h.elim),(fun k h h'=>h.elim),rfl,rfl⟩,⟨[.int .i64 x9],[.int .i64 x10,.int .i64 aS,.int .i64 aV,.slice a0 L0.length c0],(fun _=>False),T0,rfl,(fun k h=>h.elim),(fun k h=>h),(fun k h h'=>h.elim),rfl,⟨[.int .i64 x10],[.int .i64 aS,.int .i64 aV,.slice a0 L0.length c0],(fun _=>False),T0,rfl,(fun k h=>h.elim),(fun k h=>h),(fun k h h'=>h.elim),rfl,⟨[.int .i64 aS],[.int .i64 aV,.slice a0 L0.length c0],(fun _=>False),T0,rfl,(fun k h=>h.elim),(fun k h=>h),(fun k h h'=>h.elim),rfl,⟨[.int .i64 aV],[.slice a0 L0.length c0],(fun _=>False),T0,rfl,(fun k h=>h.elim),(fun k h=>h),(fun k h h'=>h.elim),rfl,⟨a0,c0,rfl,dP⟩⟩⟩⟩⟩⟩⟩⟩⟩⟩⟩⟩
theorem nP {W:World}{S:Nat→Prop}{x0:Int}{x1:Int}{x2:Int}{x3:ByteArray}{x4:Int}{x5:Int}{x6:Int}{x7:Int}{x8:Int}{x9:Int}{x10:Int}{aS:Int}{aV:Int}{L0:List (Int)}{cs:List Value}(h:aI.ow W S ((x0,x1),x2,x3,x4,x5,x6,(x7,x8),x9,x10,aS,aV,L0) cs):∃ a0 c0,∃ T0:Nat→Prop,cs = [.int .i64 x0,.int .i64 x1,.int .i64 x2,.string x3,.int .i64 x4,.int .i64 x5,.int .i64 x6,.int .i64 x7,.int .i64 x8,.int .i64 x9,.int .i64 x10,.int .i64 aS,.int .i64 aV,.slice a0 L0.length c0]∧(∀ k,T0 k→S k)∧bH I W T0 L0 a0 c0∧x3.size≤maxLen:=by
 obtain ⟨u1,v1,A1,B1,rfl,sa1,sb1,dd1,h1,g1⟩:=h
 obtain ⟨u2,v2,A2,B2,rfl,JW,Et,FL,h2,g2⟩:=h1
 obtain rfl:u2 = [_]:=h2
 obtain rfl:v2 = [_]:=g2
 obtain ⟨u3,v3,A3,B3,rfl,FQ,Es,dd3,h3,g3⟩:=g1
 obtain rfl:u3 = [_]:=h3
 obtain ⟨u4,v4,A4,B4,rfl,Mt,Xz,dd4,h4,g4⟩:=g3
 obtain ⟨Ui,fH⟩:=h4
 obtain rfl:u4 = [_]:=Ui
 obtain ⟨u5,v5,A5,B5,rfl,RU,Sb,dd5,h5,g5⟩:=g4
 obtain rfl:u5 = [_]:=h5
 obtain ⟨u6,v6,A6,B6,rfl,Sc,JJ,dd6,h6,g6⟩:=g5
 obtain rfl:u6 = [_]:=h6
 obtain ⟨u7,v7,A7,B7,rfl,O7,sb7,dd7,h7,g7⟩:=g6
 obtain rfl:u7 = [_]:=h7
 obtain ⟨u8,v8,A8,B8,rfl,sa8,sb8,dd8,h8,g8⟩:=g7
 obtain ⟨u9,v9,A9,B9,rfl,sa9,sb9,dd9,h9,g9⟩:=h8
 obtain rfl:u9 = [_]:=h9
 obtain rfl:v9 = [_]:=g9
 obtain ⟨u10,v10,A10,B10,rfl,sa10,sb10,dd10,h10,g10⟩:=g8
 obtain rfl:u10 = [_]:=h10
 obtain ⟨u11,v11,A11,B11,rfl,sa11,sb11,dd11,h11,g11⟩:=g10
 obtain rfl:u11 = [_]:=h11
 obtain ⟨u12,v12,A12,B12,rfl,sa12,sb12,dd12,h12,g12⟩:=g11
 obtain rfl:u12 = [_]:=h12
 obtain ⟨u13,v13,A13,B13,rfl,sa13,sb13,dd13,h13,g13⟩:=g12
 obtain rfl:u13 = [_]:=h13
 obtain ⟨a0,c0,rfl,dY⟩:=g13
 exact ⟨a0,c0,B13,rfl,fun k h=>sb1 k (Es k (Xz k (Sb k (JJ k (sb7 k (sb8 k (sb10 k (sb11 k (sb12 k (sb13 k (h))))))))))),dY,fH⟩
theorem Zu {x0:Int}{x1:Int}{x2:Int}{x3:ByteArray}{x4:Int}{x5:Int}{x6:Int}{x7:Int}{x8:Int}{x9:Int}{x10:Int}{aS:Int}{aV:Int}{L0:List (Int)}{a0:Option Addr}{c0:Nat}{W:World}(hsz:aI.sz ((x0,x1),x2,x3,x4,x5,x6,(x7,x8),x9,x10,aS,aV,L0)≤1048576)(dP:aJ I W W.heap.size L0 a0 c0)(fH:x3.size≤maxLen):Calls Tryz.prog 74 #[.agg #[.int .i64 x0,.int .i64 x1,.int .i64 x2,.string x3,.int .i64 x4,.int .i64 x5,.int .i64 x6,.int .i64 x7,.int .i64 x8,.int .i64 x9,.int .i64 x10,.int .i64 aS,.int .i64 aV,.slice a0 L0.length c0]] W (kT aI ((x0,x1),x2,x3,x4,x5,x6,(x7,x8),x9,x10,aS,aV,L0) W):=by
 have jJ:=ak dP
 have nI:=ak hsz
 clear hsz dP
 have hP:=((aO.new W 111 #[.int .i64 x0,.int .i64 x1,.int .i64 x2,.string x3,.int .i64 x4,.int .i64 x5,.int .i64 x6,.int .i64 x7,.int .i64 x8,.int .i64 x9,.int .i64 x10,.int .i64 aS,.int .i64 aV,.slice a0 L0.length c0]).alloc (.cells #[.int .i64 0,.int .i64 0,.int .i64 0,.string ⟨#[]⟩,.int .i64 0,.int .i64 0,.int .i64 0,.int .i64 0,.int .i64 0,.int .i64 0,.int .i64 0,.int .i64 0,.int .i64 0,.slice none 0 0] 72)).alloc (.cells #[.int .i64 0,.int .i64 0,.int .i64 0,.string ⟨#[]⟩,.int .i64 0,.int .i64 0,.int .i64 0,.int .i64 0,.int .i64 0,.int .i64 0,.int .i64 0,.int .i64 0,.int .i64 0,.slice none 0 0] 72)
 have hR:=(aO.new (W.alloc (.cells #[.int .i64 x0,.int .i64 x1,.int .i64 x2,.string x3,.int .i64 x4,.int .i64 x5,.int .i64 x6,.int .i64 x7,.int .i64 x8,.int .i64 x9,.int .i64 x10,.int .i64 aS,.int .i64 aV,.slice a0 L0.length c0] 111)) 72 #[.int .i64 0,.int .i64 0,.int .i64 0,.string ⟨#[]⟩,.int .i64 0,.int .i64 0,.int .i64 0,.int .i64 0,.int .i64 0,.int .i64 0,.int .i64 0,.int .i64 0,.int .i64 0,.slice none 0 0]).alloc (.cells #[.int .i64 0,.int .i64 0,.int .i64 0,.string ⟨#[]⟩,.int .i64 0,.int .i64 0,.int .i64 0,.int .i64 0,.int .i64 0,.int .i64 0,.int .i64 0,.int .i64 0,.int .i64 0,.slice none 0 0] 72)
 have hO:=aO.new ((W.alloc (.cells #[.int .i64 x0,.int .i64 x1,.int .i64 x2,.string x3,.int .i64 x4,.int .i64 x5,.int .i64 x6,.int .i64 x7,.int .i64 x8,.int .i64 x9,.int .i64 x10,.int .i64 aS,.int .i64 aV,.slice a0 L0.length c0] 111)).alloc (.cells #[.int .i64 0,.int .i64 0,.int .i64 0,.string ⟨#[]⟩,.int .i64 0,.int .i64 0,.int .i64 0,.int .i64 0,.int .i64 0,.int .i64 0,.int .i64 0,.int .i64 0,.int .i64 0,.slice none 0 0] 72)) 72 #[.int .i64 0,.int .i64 0,.int .i64 0,.string ⟨#[]⟩,.int .i64 0,.int .i64 0,.int .i64 0,.int .i64 0,.int .i64 0,.int .i64 0,.int .i64 0,.int .i64 0,.int .i64 0,.slice none 0 0]
 simp only [World.size_alloc] at hP hR hO
 have HB0:=ak (show Below W.heap.size W (((W.alloc (.cells #[.int .i64 x0,.int .i64 x1,.int .i64 x2,.string x3,.int .i64 x4,.int .i64 x5,.int .i64 x6,.int .i64 x7,.int .i64 x8,.int .i64 x9,.int .i64 x10,.int .i64 aS,.int .i64 aV,.slice a0 L0.length c0] 111)).alloc (.cells #[.int .i64 0,.int .i64 0,.int .i64 0,.string ⟨#[]⟩,.int .i64 0,.int .i64 0,.int .i64 0,.int .i64 0,.int .i64 0,.int .i64 0,.int .i64 0,.int .i64 0,.int .i64 0,.slice none 0 0] 72)).alloc (.cells #[.int .i64 0,.int .i64 0,.int .i64 0,.string ⟨#[]⟩,.int .i64 0,.int .i64 0,.int .i64 0,.int .i64 0,.int .i64 0,.int .i64 0,.int .i64 0,.int .i64 0,.int .i64 0,.slice none 0 0] 72)) from (((aW _ _).alloc (bK _) _).alloc (by simp) _).alloc (by simp;omega) _)
 have hz0:W.heap.size+3≤(((W.alloc (.cells #[.int .i64 x0,.int .i64 x1,.int .i64 x2,.string x3,.int .i64 x4,.int .i64 x5,.int .i64 x6,.int .i64 x7,.int .i64 x8,.int .i64 x9,.int .i64 x10,.int .i64 aS,.int .i64 aV,.slice a0 L0.length c0] 111)).alloc (.cells #[.int .i64 0,.int .i64 0,.int .i64 0,.string ⟨#[]⟩,.int .i64 0,.int .i64 0,.int .i64 0,.int .i64 0,.int .i64 0,.int .i64 0,.int .i64 0,.int .i64 0,.int .i64 0,.slice none 0 0] 72)).alloc (.cells #[.int .i64 0,.int .i64 0,.int .i64 0,.string ⟨#[]⟩,.int .i64 0,.int .i64 0,.int .i64 0,.int .i64 0,.int .i64 0,.int .i64 0,.int .i64 0,.int .i64 0,.int .i64 0,.slice none 0 0] 72)).heap.size:=by simp
 have gY:=ak hP
 have Ab:=ak hR
 have zo:=ak hO
 clear hP hR hO
 go_enter Tryz.func74,Tryz.ntmps74
 go_wp2_with fail
 refine (mQ (by have h0:=nI.out;simp only [aI,av,Pr,Sl,I,Bo,St,atom] at h0 ⊢;omega)).mono ?_
 intro e w1 h
 obtain ⟨vs,rfl,how,hb⟩:=bY h
 obtain rfl:=jQ how
 have hP:aO w1 (W.heap.size) 111 #[.int .i64 x0,.int .i64 x1,.int .i64 x2,.string x3,.int .i64 x4,.int .i64 x5,.int .i64 x6,.int .i64 x7,.int .i64 x8,.int .i64 x9,.int .i64 x10,.int .i64 aS,.int .i64 aV,.slice a0 L0.length c0]:=aO.call gY.out hb
 have hR:aO w1 (W.heap.size+1) 72 #[.int .i64 0,.int .i64 0,.int .i64 0,.string ⟨#[]⟩,.int .i64 0,.int .i64 0,.int .i64 0,.int .i64 0,.int .i64 0,.int .i64 0,.int .i64 0,.int .i64 0,.int .i64 0,.slice none 0 0]:=aO.call Ab.out hb
 have hO:aO w1 (W.heap.size+1+1) 72 #[.int .i64 0,.int .i64 0,.int .i64 0,.string ⟨#[]⟩,.int .i64 0,.int .i64 0,.int .i64 0,.int .i64 0,.int .i64 0,.int .i64 0,.int .i64 0,.int .i64 0,.int .i64 0,.slice none 0 0]:=aO.call zo.out hb
 have hz1:W.heap.size+3≤w1.heap.size:=eF hz0 (bP hb (S:=fun x=>x<W.heap.size+3) (Off.refl (fun x=>x<W.heap.size+3) _))
 have HB1:=ak (Below.trans (B:=W.heap.size) (a:=W) HB0.out (hb.mono (by have h0:=hz0;first | omega | (simp;omega))))
 have cZ:=ak hP
 have HR1:=ak hR
 have rQ:=ak hO
 clear h hb hP hR hO how
 obtain ⟨vK,qK,ou,uL,zH,Gj,Gi,Kh,YL,YK,TY,TW,TV,TU⟩:=cZ.out.fF rfl
 obtain ⟨CS,CQ,ED,Gl,SI,o1_5,o1_6,o1_7,o1_8,o1_9,ady,adx,adw,adv⟩:=rQ.out.fF rfl
 obtain ⟨CK,CJ,Ez,Gf,SA,r1_5,r1_6,r1_7,r1_8,r1_9,acH,acG,acF,acE⟩:=HR1.out.fF rfl
 obtain ⟨CZ,CY,EG,Gp,Ti,f1_5,f1_6,f1_7,f1_8,f1_9,adZ,adY,adX,adW⟩:=rQ.out.qQ
 obtain ⟨CX,CW,EF,Gn,Tg,g1_5,g1_6,g1_7,g1_8,g1_9,adR,adQ,adP,adO⟩:=HR1.out.qQ
 go_wp2_with fail
 refine (mQ (by have h0:=nI.out;simp only [aI,av,Pr,Sl,I,Bo,St,atom] at h0 ⊢;omega)).mono ?_
 intro e w2 h
 obtain ⟨vs,rfl,how,hb⟩:=bY h
 obtain rfl:=jQ how
 have hP:aO w2 (W.heap.size) 111 #[.int .i64 x0,.int .i64 x1,.int .i64 x2,.string x3,.int .i64 x4,.int .i64 x5,.int .i64 x6,.int .i64 x7,.int .i64 x8,.int .i64 x9,.int .i64 x10,.int .i64 aS,.int .i64 aV,.slice a0 L0.length c0]:=aO.call (aO.far (b:=W.heap.size+1+1) (o:=6) (aO.far (b:=W.heap.size+1+1) (o:=5) (aO.far (b:=W.heap.size+1+1) (o:=4) (aO.far (b:=W.heap.size+1+1) (o:=3) (aO.far (b:=W.heap.size+1+1) (o:=2) (aO.far (b:=W.heap.size+1+1) (o:=1) (aO.far (b:=W.heap.size+1+1) (o:=0) cZ.out (by omega) (.int .i64 x0)) (by omega) (.int .i64 x1)) (by omega) (.int .i64 x2)) (by omega) (.string x3)) (by omega) (.int .i64 x4)) (by omega) (.int .i64 x5)) (by omega) (.int .i64 x6)) hb
 have hR:aO w2 (W.heap.size+1) 72 #[.int .i64 0,.int .i64 0,.int .i64 0,.string ⟨#[]⟩,.int .i64 0,.int .i64 0,.int .i64 0,.int .i64 0,.int .i64 0,.int .i64 0,.int .i64 0,.int .i64 0,.int .i64 0,.slice none 0 0]:=aO.call (aO.far (b:=W.heap.size+1+1) (o:=6) (aO.far (b:=W.heap.size+1+1) (o:=5) (aO.far (b:=W.heap.size+1+1) (o:=4) (aO.far (b:=W.heap.size+1+1) (o:=3) (aO.far (b:=W.heap.size+1+1) (o:=2) (aO.far (b:=W.heap.size+1+1) (o:=1) (aO.far (b:=W.heap.size+1+1) (o:=0) HR1.out (by omega) (.int .i64 x0)) (by omega) (.int .i64 x1)) (by omega) (.int .i64 x2)) (by omega) (.string x3)) (by omega) (.int .i64 x4)) (by omega) (.int .i64 x5)) (by omega) (.int .i64 x6)) hb
 have hO:aO w2 (W.heap.size+1+1) 72 #[.int .i64 x0,.int .i64 x1,.int .i64 x2,.string x3,.int .i64 x4,.int .i64 x5,.int .i64 x6,.int .i64 0,.int .i64 0,.int .i64 0,.int .i64 0,.int .i64 0,.int .i64 0,.slice none 0 0]:=aO.call (aO.set (aO.set (aO.set (aO.set (aO.set (aO.set (aO.set rQ.out 0 (.int .i64 x0)) 1 (.int .i64 x1)) 2 (.int .i64 x2)) 3 (.string x3)) 4 (.int .i64 x4)) 5 (.int .i64 x5)) 6 (.int .i64 x6)) hb
 have hz2:W.heap.size+3≤w2.heap.size:=eF hz1 (bP hb (S:=fun x=>x<W.heap.size+3) ((((((((Off.refl (fun x=>x<W.heap.size+3) w1).setCell (p:=⟨W.heap.size+1+1,0,none⟩) (by show W.heap.size+1+1<W.heap.size+3;omega) (.int .i64 x0)).setCell (p:=⟨W.heap.size+1+1,1,none⟩) (by show W.heap.size+1+1<W.heap.size+3;omega) (.int .i64 x1)).setCell (p:=⟨W.heap.size+1+1,2,none⟩) (by show W.heap.size+1+1<W.heap.size+3;omega) (.int .i64 x2)).setCell (p:=⟨W.heap.size+1+1,3,none⟩) (by show W.heap.size+1+1<W.heap.size+3;omega) (.string x3)).setCell (p:=⟨W.heap.size+1+1,4,none⟩) (by show W.heap.size+1+1<W.heap.size+3;omega) (.int .i64 x4)).setCell (p:=⟨W.heap.size+1+1,5,none⟩) (by show W.heap.size+1+1<W.heap.size+3;omega) (.int .i64 x5)).setCell (p:=⟨W.heap.size+1+1,6,none⟩) (by show W.heap.size+1+1<W.heap.size+3;omega) (.int .i64 x6)))
 have HB2:=ak (Below.trans (B:=W.heap.size) (a:=W) (((((((HB1.out.setCell (p:=⟨W.heap.size+1+1,0,none⟩) (by show W.heap.size≤W.heap.size+1+1;omega) (.int .i64 x0)).setCell (p:=⟨W.heap.size+1+1,1,none⟩) (by show W.heap.size≤W.heap.size+1+1;omega) (.int .i64 x1)).setCell (p:=⟨W.heap.size+1+1,2,none⟩) (by show W.heap.size≤W.heap.size+1+1;omega) (.int .i64 x2)).setCell (p:=⟨W.heap.size+1+1,3,none⟩) (by show W.heap.size≤W.heap.size+1+1;omega) (.string x3)).setCell (p:=⟨W.heap.size+1+1,4,none⟩) (by show W.heap.size≤W.heap.size+1+1;omega) (.int .i64 x4)).setCell (p:=⟨W.heap.size+1+1,5,none⟩) (by show W.heap.size≤W.heap.size+1+1;omega) (.int .i64 x5)).setCell (p:=⟨W.heap.size+1+1,6,none⟩) (by show W.heap.size≤W.heap.size+1+1;omega) (.int .i64 x6)) (hb.mono (by have h0:=hz1;first | omega | (simp;omega))))
 have hle2:=bP hb ((((((((Off.refl (fun x=>x<W.heap.size+3) w1).setCell (p:=⟨W.heap.size+1+1,0,none⟩) (by show W.heap.size+1+1<W.heap.size+3;omega) (.int .i64 x0)).setCell (p:=⟨W.heap.size+1+1,1,none⟩) (by show W.heap.size+1+1<W.heap.size+3;omega) (.int .i64 x1)).setCell (p:=⟨W.heap.size+1+1,2,none⟩) (by show W.heap.size+1+1<W.heap.size+3;omega) (.int .i64 x2)).setCell (p:=⟨W.heap.size+1+1,3,none⟩) (by show W.heap.size+1+1<W.heap.size+3;omega) (.string x3)).setCell (p:=⟨W.heap.size+1+1,4,none⟩) (by show W.heap.size+1+1<W.heap.size+3;omega) (.int .i64 x4)).setCell (p:=⟨W.heap.size+1+1,5,none⟩) (by show W.heap.size+1+1<W.heap.size+3;omega) (.int .i64 x5)).setCell (p:=⟨W.heap.size+1+1,6,none⟩) (by show W.heap.size+1+1<W.heap.size+3;omega) (.int .i64 x6))
 have iD:=ak hP
 have HR2:=ak hR
 have vJ:=ak hO
 clear h hb hP hR hO how
 clear vK CS CK CZ CX qK CQ CJ CY CW ou ED Ez EG EF uL Gl Gf Gp Gn zH SI SA Ti Tg Gj o1_5 r1_5 f1_5 g1_5 Gi o1_6 r1_6 f1_6 g1_6 Kh o1_7 r1_7 f1_7 g1_7 YL o1_8 r1_8 f1_8 g1_8 YK o1_9 r1_9 f1_9 g1_9 TY ady acH adZ adR TW adx acG adY adQ TV adw acF adX adP TU adv acE adW adO
 obtain ⟨CP,CO,zG,Gh,PK,PI,PG,SG,p2_8,p2_9,TT,TS,TR,TQ⟩:=iD.out.fF rfl
 obtain ⟨PV,PU,PS,PO,YN,o2_5,o2_6,o2_7,o2_8,o2_9,adu,adt,ads,adr⟩:=vJ.out.fF rfl
 obtain ⟨PD,Pz,Py,Px,YH,r2_5,r2_6,r2_7,r2_8,r2_9,acD,acC,acB,acA⟩:=HR2.out.fF rfl
 obtain ⟨Qc,Qb,Qa,P9,YT,f2_5,f2_6,f2_7,f2_8,f2_9,adV,adU,adT,adS⟩:=vJ.out.qQ
 obtain ⟨P7,P6,P5,PZ,YS,g2_5,g2_6,g2_7,g2_8,g2_9,adN,adM,adL,adK⟩:=HR2.out.qQ
 go_wp2_with fail
 refine (Qy (by have h0:=nI.out;simp only [aI,Pr,Sl,I,Bo,St,atom] at h0 ⊢;omega) ((jJ.out.below cK ((((((HB2.out.setCell (p:=⟨W.heap.size+1+1,7,none⟩) (by show W.heap.size≤W.heap.size+1+1;omega) (.int .i64 x7)).setCell (p:=⟨W.heap.size+1+1,8,none⟩) (by show W.heap.size≤W.heap.size+1+1;omega) (.int .i64 x8)).setCell (p:=⟨W.heap.size+1+1,9,none⟩) (by show W.heap.size≤W.heap.size+1+1;omega) (.int .i64 x9)).setCell (p:=⟨W.heap.size+1+1,10,none⟩) (by show W.heap.size≤W.heap.size+1+1;omega) (.int .i64 x10)).setCell (p:=⟨W.heap.size+1+1,11,none⟩) (by show W.heap.size≤W.heap.size+1+1;omega) (.int .i64 aS)).setCell (p:=⟨W.heap.size+1+1,12,none⟩) (by show W.heap.size≤W.heap.size+1+1;omega) (.int .i64 aV))).more cK (by have h0:=hz2;first | omega | (simp;omega)))).mono ?_
 intro e w3 h
 obtain ⟨fu,fq,rfl,mO,hb⟩:=bL h
 have hP:aO w3 (W.heap.size) 111 #[.int .i64 x0,.int .i64 x1,.int .i64 x2,.string x3,.int .i64 x4,.int .i64 x5,.int .i64 x6,.int .i64 x7,.int .i64 x8,.int .i64 x9,.int .i64 x10,.int .i64 aS,.int .i64 aV,.slice a0 L0.length c0]:=aO.call (aO.far (b:=W.heap.size+1+1) (o:=12) (aO.far (b:=W.heap.size+1+1) (o:=11) (aO.far (b:=W.heap.size+1+1) (o:=10) (aO.far (b:=W.heap.size+1+1) (o:=9) (aO.far (b:=W.heap.size+1+1) (o:=8) (aO.far (b:=W.heap.size+1+1) (o:=7) iD.out (by omega) (.int .i64 x7)) (by omega) (.int .i64 x8)) (by omega) (.int .i64 x9)) (by omega) (.int .i64 x10)) (by omega) (.int .i64 aS)) (by omega) (.int .i64 aV)) hb
 have hR:aO w3 (W.heap.size+1) 72 #[.int .i64 0,.int .i64 0,.int .i64 0,.string ⟨#[]⟩,.int .i64 0,.int .i64 0,.int .i64 0,.int .i64 0,.int .i64 0,.int .i64 0,.int .i64 0,.int .i64 0,.int .i64 0,.slice none 0 0]:=aO.call (aO.far (b:=W.heap.size+1+1) (o:=12) (aO.far (b:=W.heap.size+1+1) (o:=11) (aO.far (b:=W.heap.size+1+1) (o:=10) (aO.far (b:=W.heap.size+1+1) (o:=9) (aO.far (b:=W.heap.size+1+1) (o:=8) (aO.far (b:=W.heap.size+1+1) (o:=7) HR2.out (by omega) (.int .i64 x7)) (by omega) (.int .i64 x8)) (by omega) (.int .i64 x9)) (by omega) (.int .i64 x10)) (by omega) (.int .i64 aS)) (by omega) (.int .i64 aV)) hb
 have hO:aO w3 (W.heap.size+1+1) 72 #[.int .i64 x0,.int .i64 x1,.int .i64 x2,.string x3,.int .i64 x4,.int .i64 x5,.int .i64 x6,.int .i64 x7,.int .i64 x8,.int .i64 x9,.int .i64 x10,.int .i64 aS,.int .i64 aV,.slice none 0 0]:=aO.call (aO.set (aO.set (aO.set (aO.set (aO.set (aO.set vJ.out 7 (.int .i64 x7)) 8 (.int .i64 x8)) 9 (.int .i64 x9)) 10 (.int .i64 x10)) 11 (.int .i64 aS)) 12 (.int .i64 aV)) hb
 have hz3:W.heap.size+3≤w3.heap.size:=eF hz2 (bP hb (S:=fun x=>x<W.heap.size+3) (((((((Off.refl (fun x=>x<W.heap.size+3) w2).setCell (p:=⟨W.heap.size+1+1,7,none⟩) (by show W.heap.size+1+1<W.heap.size+3;omega) (.int .i64 x7)).setCell (p:=⟨W.heap.size+1+1,8,none⟩) (by show W.heap.size+1+1<W.heap.size+3;omega) (.int .i64 x8)).setCell (p:=⟨W.heap.size+1+1,9,none⟩) (by show W.heap.size+1+1<W.heap.size+3;omega) (.int .i64 x9)).setCell (p:=⟨W.heap.size+1+1,10,none⟩) (by show W.heap.size+1+1<W.heap.size+3;omega) (.int .i64 x10)).setCell (p:=⟨W.heap.size+1+1,11,none⟩) (by show W.heap.size+1+1<W.heap.size+3;omega) (.int .i64 aS)).setCell (p:=⟨W.heap.size+1+1,12,none⟩) (by show W.heap.size+1+1<W.heap.size+3;omega) (.int .i64 aV)))
 have HB3:=ak (Below.trans (B:=W.heap.size) (a:=W) ((((((HB2.out.setCell (p:=⟨W.heap.size+1+1,7,none⟩) (by show W.heap.size≤W.heap.size+1+1;omega) (.int .i64 x7)).setCell (p:=⟨W.heap.size+1+1,8,none⟩) (by show W.heap.size≤W.heap.size+1+1;omega) (.int .i64 x8)).setCell (p:=⟨W.heap.size+1+1,9,none⟩) (by show W.heap.size≤W.heap.size+1+1;omega) (.int .i64 x9)).setCell (p:=⟨W.heap.size+1+1,10,none⟩) (by show W.heap.size≤W.heap.size+1+1;omega) (.int .i64 x10)).setCell (p:=⟨W.heap.size+1+1,11,none⟩) (by show W.heap.size≤W.heap.size+1+1;omega) (.int .i64 aS)).setCell (p:=⟨W.heap.size+1+1,12,none⟩) (by show W.heap.size≤W.heap.size+1+1;omega) (.int .i64 aV)) (hb.mono (by have h0:=hz2;first | omega | (simp;omega))))
 have kN:=ak mO
 have dR:=ak (fun k hk=>eH hb (m:=W.heap.size+3) (by have h0:=hz2;first | omega | (simp;omega)) k hk)
 have yN:=ak (eH hb (m:=0) (dV _))
 have HG_L0:=ak (Du hb (((((((Off.refl (fun x=>x<W.heap.size+3) w2).setCell (p:=⟨W.heap.size+1+1,7,none⟩) (by show W.heap.size+1+1<W.heap.size+3;omega) (.int .i64 x7)).setCell (p:=⟨W.heap.size+1+1,8,none⟩) (by show W.heap.size+1+1<W.heap.size+3;omega) (.int .i64 x8)).setCell (p:=⟨W.heap.size+1+1,9,none⟩) (by show W.heap.size+1+1<W.heap.size+3;omega) (.int .i64 x9)).setCell (p:=⟨W.heap.size+1+1,10,none⟩) (by show W.heap.size+1+1<W.heap.size+3;omega) (.int .i64 x10)).setCell (p:=⟨W.heap.size+1+1,11,none⟩) (by show W.heap.size+1+1<W.heap.size+3;omega) (.int .i64 aS)).setCell (p:=⟨W.heap.size+1+1,12,none⟩) (by show W.heap.size+1+1<W.heap.size+3;omega) (.int .i64 aV)))
 have hle3:=bP hb (((((((Off.refl (fun x=>x<W.heap.size+3) w2).setCell (p:=⟨W.heap.size+1+1,7,none⟩) (by show W.heap.size+1+1<W.heap.size+3;omega) (.int .i64 x7)).setCell (p:=⟨W.heap.size+1+1,8,none⟩) (by show W.heap.size+1+1<W.heap.size+3;omega) (.int .i64 x8)).setCell (p:=⟨W.heap.size+1+1,9,none⟩) (by show W.heap.size+1+1<W.heap.size+3;omega) (.int .i64 x9)).setCell (p:=⟨W.heap.size+1+1,10,none⟩) (by show W.heap.size+1+1<W.heap.size+3;omega) (.int .i64 x10)).setCell (p:=⟨W.heap.size+1+1,11,none⟩) (by show W.heap.size+1+1<W.heap.size+3;omega) (.int .i64 aS)).setCell (p:=⟨W.heap.size+1+1,12,none⟩) (by show W.heap.size+1+1<W.heap.size+3;omega) (.int .i64 aV))
 have iG:=ak hP
 have HR3:=ak hR
 have MX:=ak hO
 clear h hb hP hR hO mO
 clear CP PV PD Qc P7 CO PU Pz Qb P6 zG PS Py Qa P5 Gh PO Px P9 PZ PK YN YH YT YS PI o2_5 r2_5 f2_5 g2_5 PG o2_6 r2_6 f2_6 g2_6 SG o2_7 r2_7 f2_7 g2_7 p2_8 o2_8 r2_8 f2_8 g2_8 p2_9 o2_9 r2_9 f2_9 g2_9 TT adu acD adV adN TS adt acC adU adM TR ads acB adT adL TQ adr acA adS adK
 obtain ⟨EC,EB,EA,YJ,SF,SE,Kg,YI,p3_8,p3_9,p3_10,p3_11,p3_12,p3_13⟩:=iG.out.fF rfl
 obtain ⟨o3_0,o3_1,o3_2,o3_3,o3_4,o3_5,o3_6,o3_7,o3_8,o3_9,o3_10,o3_11,o3_12,o3_13⟩:=MX.out.fF rfl
 obtain ⟨r3_0,r3_1,r3_2,r3_3,r3_4,r3_5,r3_6,r3_7,r3_8,r3_9,r3_10,r3_11,r3_12,r3_13⟩:=HR3.out.fF rfl
 obtain ⟨f3_0,f3_1,f3_2,f3_3,f3_4,f3_5,f3_6,f3_7,f3_8,f3_9,f3_10,f3_11,f3_12,f3_13⟩:=MX.out.qQ
 obtain ⟨g3_0,g3_1,g3_2,g3_3,g3_4,g3_5,g3_6,g3_7,g3_8,g3_9,g3_10,g3_11,g3_12,g3_13⟩:=HR3.out.qQ
 go_wp2
 refine qC (v:=.agg #[.int .i64 x0,.int .i64 x1,.int .i64 x2,.string x3,.int .i64 x4,.int .i64 x5,.int .i64 x6,.int .i64 x7,.int .i64 x8,.int .i64 x9,.int .i64 x10,.int .i64 aS,.int .i64 aV,.slice fu L0.length fq]) (by simp [results,Tryz.results74,go_sem, *]) rfl ⟨[.int .i64 x0,.int .i64 x1,.int .i64 x2,.string x3,.int .i64 x4,.int .i64 x5,.int .i64 x6,.int .i64 x7,.int .i64 x8,.int .i64 x9,.int .i64 x10,.int .i64 aS,.int .i64 aV,.slice fu L0.length fq],rfl,?_,(((((((((((((((HB3.out.setCell (p:=⟨W.heap.size+1+1,13,none⟩) (by show W.heap.size≤W.heap.size+1+1;omega) (.slice fu L0.length fq)).setCell (p:=⟨W.heap.size+1,0,none⟩) (by show W.heap.size≤W.heap.size+1;omega) (.int .i64 x0)).setCell (p:=⟨W.heap.size+1,1,none⟩) (by show W.heap.size≤W.heap.size+1;omega) (.int .i64 x1)).setCell (p:=⟨W.heap.size+1,2,none⟩) (by show W.heap.size≤W.heap.size+1;omega) (.int .i64 x2)).setCell (p:=⟨W.heap.size+1,3,none⟩) (by show W.heap.size≤W.heap.size+1;omega) (.string x3)).setCell (p:=⟨W.heap.size+1,4,none⟩) (by show W.heap.size≤W.heap.size+1;omega) (.int .i64 x4)).setCell (p:=⟨W.heap.size+1,5,none⟩) (by show W.heap.size≤W.heap.size+1;omega) (.int .i64 x5)).setCell (p:=⟨W.heap.size+1,6,none⟩) (by show W.heap.size≤W.heap.size+1;omega) (.int .i64 x6)).setCell (p:=⟨W.heap.size+1,7,none⟩) (by show W.heap.size≤W.heap.size+1;omega) (.int .i64 x7)).setCell (p:=⟨W.heap.size+1,8,none⟩) (by show W.heap.size≤W.heap.size+1;omega) (.int .i64 x8)).setCell (p:=⟨W.heap.size+1,9,none⟩) (by show W.heap.size≤W.heap.size+1;omega) (.int .i64 x9)).setCell (p:=⟨W.heap.size+1,10,none⟩) (by show W.heap.size≤W.heap.size+1;omega) (.int .i64 x10)).setCell (p:=⟨W.heap.size+1,11,none⟩) (by show W.heap.size≤W.heap.size+1;omega) (.int .i64 aS)).setCell (p:=⟨W.heap.size+1,12,none⟩) (by show W.heap.size≤W.heap.size+1;omega) (.int .i64 aV)).setCell (p:=⟨W.heap.size+1,13,none⟩) (by show W.heap.size≤W.heap.size+1;omega) (.slice fu L0.length fq))⟩
 have hoff:=((((((((((((((((Off.refl (fun x=>x<W.heap.size+3) w3).setCell (p:=⟨W.heap.size+1+1,13,none⟩) (by show W.heap.size+1+1<W.heap.size+3;omega) (.slice fu L0.length fq)).setCell (p:=⟨W.heap.size+1,0,none⟩) (by show W.heap.size+1<W.heap.size+3;omega) (.int .i64 x0)).setCell (p:=⟨W.heap.size+1,1,none⟩) (by show W.heap.size+1<W.heap.size+3;omega) (.int .i64 x1)).setCell (p:=⟨W.heap.size+1,2,none⟩) (by show W.heap.size+1<W.heap.size+3;omega) (.int .i64 x2)).setCell (p:=⟨W.heap.size+1,3,none⟩) (by show W.heap.size+1<W.heap.size+3;omega) (.string x3)).setCell (p:=⟨W.heap.size+1,4,none⟩) (by show W.heap.size+1<W.heap.size+3;omega) (.int .i64 x4)).setCell (p:=⟨W.heap.size+1,5,none⟩) (by show W.heap.size+1<W.heap.size+3;omega) (.int .i64 x5)).setCell (p:=⟨W.heap.size+1,6,none⟩) (by show W.heap.size+1<W.heap.size+3;omega) (.int .i64 x6)).setCell (p:=⟨W.heap.size+1,7,none⟩) (by show W.heap.size+1<W.heap.size+3;omega) (.int .i64 x7)).setCell (p:=⟨W.heap.size+1,8,none⟩) (by show W.heap.size+1<W.heap.size+3;omega) (.int .i64 x8)).setCell (p:=⟨W.heap.size+1,9,none⟩) (by show W.heap.size+1<W.heap.size+3;omega) (.int .i64 x9)).setCell (p:=⟨W.heap.size+1,10,none⟩) (by show W.heap.size+1<W.heap.size+3;omega) (.int .i64 x10)).setCell (p:=⟨W.heap.size+1,11,none⟩) (by show W.heap.size+1<W.heap.size+3;omega) (.int .i64 aS)).setCell (p:=⟨W.heap.size+1,12,none⟩) (by show W.heap.size+1<W.heap.size+3;omega) (.int .i64 aV)).setCell (p:=⟨W.heap.size+1,13,none⟩) (by show W.heap.size+1<W.heap.size+3;omega) (.slice fu L0.length fq))
 have hsz:=hoff.size
 exact lQ (fun k hk=>⟨by have:=(dR.out k hk).1;omega,by have:=(dR.out k hk).2;omega⟩) (kN.out.keep cK (fun k hk=>hoff.block k (dR.out k hk).2 (by have:=(dR.out k hk).1;omega))) fH
theorem bg:(aI).size=14:=rfl
def Bf (n:Nat):Array Value:=madeCells #[.int .i64 0,.int .i64 0,.int .i64 0,.string ⟨#[]⟩,.int .i64 0,.int .i64 0,.int .i64 0,.int .i64 0,.int .i64 0,.int .i64 0,.int .i64 0,.int .i64 0,.int .i64 0,.slice none 0 0] (n*14)
theorem C9 (n:Nat):(Bf n).size=n*(aI).size:=by unfold Bf;simp [madeCells,bg]
theorem LA (n:Nat)(hn:n≤1048576):∀ W:World,(Instr.makeSlice 41 (.int .i64 (n:Int)) (.int .i64 (n:Int))).run Tryz.prog W=.ok (.slice (some ⟨W.heap.size,0,none⟩) n n) (W.alloc (.cells (Bf n) 72)):=by
 intro W
 obtain ⟨i,hi,hz,hs,hb⟩:∃ i,Tryz.prog.info? 72=some i∧i.zero=some (.agg #[.int .i64 0,.int .i64 0,.int .i64 0,.string ⟨#[]⟩,.int .i64 0,.int .i64 0,.int .i64 0,.int .i64 0,.int .i64 0,.int .i64 0,.int .i64 0,.int .i64 0,.int .i64 0,.slice none 0 0])∧i.size=14∧i.bytes=136:=by
  have h:(Tryz.prog.info? 72).map (fun i=>(i.zero,i.size,i.bytes))=some (some (.agg #[.int .i64 0,.int .i64 0,.int .i64 0,.string ⟨#[]⟩,.int .i64 0,.int .i64 0,.int .i64 0,.int .i64 0,.int .i64 0,.int .i64 0,.int .i64 0,.int .i64 0,.int .i64 0,.slice none 0 0]),14,136):=by kernel_rfl
  cases hx:Tryz.prog.info? 72 with
  | none=>rw [hx] at h;simp at h
  | some i=>rw [hx] at h;simp at h;exact ⟨i,rfl,h.1,h.2.1,h.2.2⟩
 have hr:=run_make (P:=Tryz.prog) W 41 72 i _ Tryz.underlying41 hi hz .i64 .i64 n n (by omega) (by omega) (by rw [hb];omega) (by omega)
 rw [hs] at hr
 simp only [Int.toNat_natCast] at hr
 exact hr
theorem Vu {L:List (aF)}{a:Option Addr}{cap:Nat}{W:World}(hsz:((Sl aI)).sz L≤1048576)(h:aJ aI W W.heap.size L a cap):Calls Tryz.prog 34 #[.slice a L.length cap] W (jU aI L W):=by
 have hn:L.length≤1048576:=eF (Nat.le_add_right _ _) hsz
 have hmk:=LA L.length hn
 have H:=ak h
 have nI:=ak hsz
 clear h hsz
 go_enter Tryz.func34,Tryz.ntmps34
 go_wp2
 go_loopw [4] (fun i wr=>∃ k:Nat,k≤L.length∧i=.int .i64 k∧∃ Sf,sU aI W wr L W.heap.size Sf k) (fun i _=>L.length-(intOf i).toNat)
 case atStart=>exact ⟨0,dV _,rfl,_,sU.new (by exact C9 _)⟩
 case round=>
  obtain ⟨k,hk,rfl,Sf,hF⟩:=hrel
  have HF:=ak hF
  by_cases hlt:k<L.length
  ·obtain ⟨⟨⟨x0,x1⟩,x2,x3,x4,x5,x6,⟨x7,x8⟩,x9,x10,aS,aV,L0⟩,hx⟩:=aM hlt
   have HX:=ak hx
   obtain ⟨g,o,us,rfl,hg,hu,hr⟩:=(H.out.below aA hF.below).at_ hx
   obtain ⟨a0,c0,rfl,dY,fH⟩:=fA hr
   obtain ⟨e0,e1,e2,e3,e4,e5,e6,e7,e8,e9,e10,e11,e12,e13⟩:=kY (a:=o+k*14) hu rfl
   have hi0:(0:Int)≤(k:Int):=eu _
   have hi1:(k:Int)<(L.length:Int):=by omega
   have HE:=ak (vS (f:=(aI).sz) HX.out nI.out)
   have UF:=ak (dY.more cK (Nat.le_of_lt HF.out.lt))
   clear hF hx hu hmk dY
   go_wp2_with fail
   refine (Zu (by exact HE.out) (by exact UF.out) fH).mono ?_
   intro e w1 h
   obtain ⟨vs,rfl,how,hb⟩:=bY h
   have HOW:=ak how
   obtain ⟨b0,d0,T0,rfl,_⟩:=nP how
   have HP:=ak (HF.out.put aA HX.out hb HOW.out)
   have hlt1:=HF.out.lt
   obtain ⟨t0,ht0⟩:=HF.out.there (k*14) (by rw [bg];omega)
   have q0:=(hb.cell (p:=⟨W.heap.size,k*14,none⟩) hlt1).trans ht0
   have s0:=(hb.frozen (p:=⟨W.heap.size,k*14,none⟩) hlt1).trans (HF.out.soft (k*14))
   obtain ⟨t1,ht1⟩:=HF.out.there (k*14+1) (by rw [bg];omega)
   have q1:=(hb.cell (p:=⟨W.heap.size,k*14+1,none⟩) hlt1).trans ht1
   have s1:=(hb.frozen (p:=⟨W.heap.size,k*14+1,none⟩) hlt1).trans (HF.out.soft (k*14+1))
   obtain ⟨t2,ht2⟩:=HF.out.there (k*14+2) (by rw [bg];omega)
   have q2:=(hb.cell (p:=⟨W.heap.size,k*14+2,none⟩) hlt1).trans ht2
   have s2:=(hb.frozen (p:=⟨W.heap.size,k*14+2,none⟩) hlt1).trans (HF.out.soft (k*14+2))
   obtain ⟨t3,ht3⟩:=HF.out.there (k*14+3) (by rw [bg];omega)
   have q3:=(hb.cell (p:=⟨W.heap.size,k*14+3,none⟩) hlt1).trans ht3
   have s3:=(hb.frozen (p:=⟨W.heap.size,k*14+3,none⟩) hlt1).trans (HF.out.soft (k*14+3))
   obtain ⟨t4,ht4⟩:=HF.out.there (k*14+4) (by rw [bg];omega)
   have q4:=(hb.cell (p:=⟨W.heap.size,k*14+4,none⟩) hlt1).trans ht4
   have s4:=(hb.frozen (p:=⟨W.heap.size,k*14+4,none⟩) hlt1).trans (HF.out.soft (k*14+4))
   obtain ⟨t5,ht5⟩:=HF.out.there (k*14+5) (by rw [bg];omega)
   have q5:=(hb.cell (p:=⟨W.heap.size,k*14+5,none⟩) hlt1).trans ht5
   have s5:=(hb.frozen (p:=⟨W.heap.size,k*14+5,none⟩) hlt1).trans (HF.out.soft (k*14+5))
   obtain ⟨t6,ht6⟩:=HF.out.there (k*14+6) (by rw [bg];omega)
   have q6:=(hb.cell (p:=⟨W.heap.size,k*14+6,none⟩) hlt1).trans ht6
   have s6:=(hb.frozen (p:=⟨W.heap.size,k*14+6,none⟩) hlt1).trans (HF.out.soft (k*14+6))
   obtain ⟨t7,ht7⟩:=HF.out.there (k*14+7) (by rw [bg];omega)
   have q7:=(hb.cell (p:=⟨W.heap.size,k*14+7,none⟩) hlt1).trans ht7
   have s7:=(hb.frozen (p:=⟨W.heap.size,k*14+7,none⟩) hlt1).trans (HF.out.soft (k*14+7))
   obtain ⟨t8,ht8⟩:=HF.out.there (k*14+8) (by rw [bg];omega)
   have q8:=(hb.cell (p:=⟨W.heap.size,k*14+8,none⟩) hlt1).trans ht8
   have s8:=(hb.frozen (p:=⟨W.heap.size,k*14+8,none⟩) hlt1).trans (HF.out.soft (k*14+8))
   obtain ⟨t9,ht9⟩:=HF.out.there (k*14+9) (by rw [bg];omega)
   have q9:=(hb.cell (p:=⟨W.heap.size,k*14+9,none⟩) hlt1).trans ht9
   have s9:=(hb.frozen (p:=⟨W.heap.size,k*14+9,none⟩) hlt1).trans (HF.out.soft (k*14+9))
   obtain ⟨t10,ht10⟩:=HF.out.there (k*14+10) (by rw [bg];omega)
   have Mx:=(hb.cell (p:=⟨W.heap.size,k*14+10,none⟩) hlt1).trans ht10
   have s10:=(hb.frozen (p:=⟨W.heap.size,k*14+10,none⟩) hlt1).trans (HF.out.soft (k*14+10))
   obtain ⟨t11,ht11⟩:=HF.out.there (k*14+11) (by rw [bg];omega)
   have Mw:=(hb.cell (p:=⟨W.heap.size,k*14+11,none⟩) hlt1).trans ht11
   have s11:=(hb.frozen (p:=⟨W.heap.size,k*14+11,none⟩) hlt1).trans (HF.out.soft (k*14+11))
   obtain ⟨t12,ht12⟩:=HF.out.there (k*14+12) (by rw [bg];omega)
   have Mv:=(hb.cell (p:=⟨W.heap.size,k*14+12,none⟩) hlt1).trans ht12
   have s12:=(hb.frozen (p:=⟨W.heap.size,k*14+12,none⟩) hlt1).trans (HF.out.soft (k*14+12))
   obtain ⟨t13,ht13⟩:=HF.out.there (k*14+13) (by rw [bg];omega)
   have FR:=(hb.cell (p:=⟨W.heap.size,k*14+13,none⟩) hlt1).trans ht13
   have s13:=(hb.frozen (p:=⟨W.heap.size,k*14+13,none⟩) hlt1).trans (HF.out.soft (k*14+13))
   clear h how hb ht0 ht1 ht2 ht3 ht4 ht5 ht6 ht7 ht8 ht9 ht10 ht11 ht12 ht13 e0 e1 e2 e3 e4 e5 e6 e7 e8 e9 e10 e11 e12 e13
   go_wp2
   go_roundw
   case rel=>exact ⟨k+1,by omega,by go_num,_,by simpa [putCells,bg,Nat.add_assoc] using HP.out⟩
   case measure=>simp [intOf];omega
  ·obtain rfl:k=L.length:=by omega
   have HR:=ak (HF.out.news (by unfold maxLen;omega))
   clear hF hmk
   go_wp2
   go_ret
   exact HR.out
theorem eq_Task {x0:Int}{x1:Int}{x2:Int}{x3:ByteArray}{x4:Int}{x5:Int}{x6:Int}{x7:Int}{x8:Int}{x9:Int}{x10:Int}{aS:Int}{aV:Int}{L0:List (Int)}{a0:Option Addr}{c0:Nat}{a0':Option Addr}{c0':Nat}{W:World}(dP:aJ I W W.heap.size L0 a0 c0)(nL:aJ I W W.heap.size L0 a0' c0'):Calls Tryz.prog 85 #[.agg #[.int .i64 x0,.int .i64 x1,.int .i64 x2,.string x3,.int .i64 x4,.int .i64 x5,.int .i64 x6,.int .i64 x7,.int .i64 x8,.int .i64 x9,.int .i64 x10,.int .i64 aS,.int .i64 aV,.slice a0 L0.length c0],.agg #[.int .i64 x0,.int .i64 x1,.int .i64 x2,.string x3,.int .i64 x4,.int .i64 x5,.int .i64 x6,.int .i64 x7,.int .i64 x8,.int .i64 x9,.int .i64 x10,.int .i64 aS,.int .i64 aV,.slice a0' L0.length c0']] W (sS true W):=by
 have jJ:=ak dP
 have vZ:=ak nL
 clear dP nL
 have HB0:=ak (show Below W.heap.size W ((W.alloc (.cells #[.int .i64 x0,.int .i64 x1,.int .i64 x2,.string x3,.int .i64 x4,.int .i64 x5,.int .i64 x6,.int .i64 x7,.int .i64 x8,.int .i64 x9,.int .i64 x10,.int .i64 aS,.int .i64 aV,.slice a0 L0.length c0] 72)).alloc (.cells #[.int .i64 x0,.int .i64 x1,.int .i64 x2,.string x3,.int .i64 x4,.int .i64 x5,.int .i64 x6,.int .i64 x7,.int .i64 x8,.int .i64 x9,.int .i64 x10,.int .i64 aS,.int .i64 aV,.slice a0' L0.length c0'] 72)) from ((aW _ _).alloc (bK _) _).alloc (by simp) _)
 have hP:=(aO.new W 72 #[.int .i64 x0,.int .i64 x1,.int .i64 x2,.string x3,.int .i64 x4,.int .i64 x5,.int .i64 x6,.int .i64 x7,.int .i64 x8,.int .i64 x9,.int .i64 x10,.int .i64 aS,.int .i64 aV,.slice a0 L0.length c0]).alloc (.cells #[.int .i64 x0,.int .i64 x1,.int .i64 x2,.string x3,.int .i64 x4,.int .i64 x5,.int .i64 x6,.int .i64 x7,.int .i64 x8,.int .i64 x9,.int .i64 x10,.int .i64 aS,.int .i64 aV,.slice a0' L0.length c0'] 72)
 have hQ:=aO.new (W.alloc (.cells #[.int .i64 x0,.int .i64 x1,.int .i64 x2,.string x3,.int .i64 x4,.int .i64 x5,.int .i64 x6,.int .i64 x7,.int .i64 x8,.int .i64 x9,.int .i64 x10,.int .i64 aS,.int .i64 aV,.slice a0 L0.length c0] 72)) 72 #[.int .i64 x0,.int .i64 x1,.int .i64 x2,.string x3,.int .i64 x4,.int .i64 x5,.int .i64 x6,.int .i64 x7,.int .i64 x8,.int .i64 x9,.int .i64 x10,.int .i64 aS,.int .i64 aV,.slice a0' L0.length c0']
 simp only [World.size_alloc] at hP hQ
 have gY:=ak hP
 have Dp:=ak hQ
 have hz0:W.heap.size≤((W.alloc (.cells #[.int .i64 x0,.int .i64 x1,.int .i64 x2,.string x3,.int .i64 x4,.int .i64 x5,.int .i64 x6,.int .i64 x7,.int .i64 x8,.int .i64 x9,.int .i64 x10,.int .i64 aS,.int .i64 aV,.slice a0 L0.length c0] 72)).alloc (.cells #[.int .i64 x0,.int .i64 x1,.int .i64 x2,.string x3,.int .i64 x4,.int .i64 x5,.int .i64 x6,.int .i64 x7,.int .i64 x8,.int .i64 x9,.int .i64 x10,.int .i64 aS,.int .i64 aV,.slice a0' L0.length c0'] 72)).heap.size:=HB0.out.size
 clear hP hQ
 go_enter Tryz.func85,Tryz.ntmps85
 go_wp2_with fail
 refine (eq_Label).mono ?_
 intro e w1 h
 obtain ⟨rfl,hb⟩:=bU h
 have cZ:=ak (gY.out.call hb)
 have nJ:=ak (Dp.out.call hb)
 have HB1:=ak (HB0.out.trans (hb.mono hz0))
 have hz1:W.heap.size≤w1.heap.size:=HB1.out.size
 clear h hb
 have ou:=cZ.out.at_ 2 rfl
 have uL:=cZ.out.at_ 3 rfl
 have zH:=cZ.out.at_ 4 rfl
 have Gj:=cZ.out.at_ 5 rfl
 have Gi:=cZ.out.at_ 6 rfl
 have Kh:=cZ.out.at_ 7 rfl
 have YL:=cZ.out.at_ 8 rfl
 have YK:=cZ.out.at_ 9 rfl
 have TY:=cZ.out.at_ 10 rfl
 have TW:=cZ.out.at_ 11 rfl
 have TV:=cZ.out.at_ 12 rfl
 have TU:=cZ.out.at_ 13 rfl
 have Ke:=nJ.out.at_ 2 rfl
 have PE:=nJ.out.at_ 3 rfl
 have SB:=nJ.out.at_ 4 rfl
 have q1_5:=nJ.out.at_ 5 rfl
 have q1_6:=nJ.out.at_ 6 rfl
 have q1_7:=nJ.out.at_ 7 rfl
 have q1_8:=nJ.out.at_ 8 rfl
 have q1_9:=nJ.out.at_ 9 rfl
 have ac7:=nJ.out.at_ 10 rfl
 have ac6:=nJ.out.at_ 11 rfl
 have ac5:=nJ.out.at_ 12 rfl
 have ac4:=nJ.out.at_ 13 rfl
 go_wp2_with fail
 refine (eq_Label).mono ?_
 intro e w2 h
 obtain ⟨rfl,hb⟩:=bU h
 have iD:=ak (cZ.out.call hb)
 have xH:=ak (nJ.out.call hb)
 have HB2:=ak (HB1.out.trans (hb.mono hz1))
 have hz2:W.heap.size≤w2.heap.size:=HB2.out.size
 clear h hb
 clear ou Ke uL PE zH SB Gj q1_5 Gi q1_6 Kh q1_7 YL q1_8 YK q1_9 TY ac7 TW ac6 TV ac5 TU ac4
 have p2_9:=iD.out.at_ 9 rfl
 have TT:=iD.out.at_ 10 rfl
 have TS:=iD.out.at_ 11 rfl
 have TR:=iD.out.at_ 12 rfl
 have TQ:=iD.out.at_ 13 rfl
 have q2_9:=xH.out.at_ 9 rfl
 have ac3:=xH.out.at_ 10 rfl
 have ac2:=xH.out.at_ 11 rfl
 have ac1:=xH.out.at_ 12 rfl
 have ac0:=xH.out.at_ 13 rfl
 go_wp2_with fail
 refine (eq_Int64S ((jJ.out.below cK HB2.out).more cK hz2) ((vZ.out.below cK HB2.out).more cK hz2)).mono ?_
 intro e w3 h
 obtain ⟨rfl,hb⟩:=bU h
 have iG:=ak (iD.out.call hb)
 have HQ3:=ak (xH.out.call hb)
 have HB3:=ak (HB2.out.trans (hb.mono hz2))
 have hz3:W.heap.size≤w3.heap.size:=HB3.out.size
 clear h hb
 clear p2_9 q2_9 TT ac3 TS ac2 TR ac1 TQ ac0
 go_wp2
 all_goals
  go_ret
  exact ⟨rfl,HB3.out⟩
theorem bR:(aI).size=14:=rfl
theorem eq_TaskS {L:List (aF)}{a a':Option Addr}{cap cap':Nat}{W:World}(h:aJ aI W W.heap.size L a cap)(h':aJ aI W W.heap.size L a' cap'):Calls Tryz.prog 41 #[.slice a L.length cap,.slice a' L.length cap'] W (sS true W):=by
 have hn:L.length≤9223372036854775807:=by have h1:=h.1;have h2:=h.2.1;unfold maxLen at h2;omega
 have H:=ak h
 have H':=ak h'
 clear h h'
 go_enter Tryz.func41,Tryz.ntmps41
 go_wp2
 go_loopw [5] (fun i wr=>∃ k:Nat,k≤L.length∧i=.int .i64 k∧Below W.heap.size W wr) (fun i _=>L.length-(intOf i).toNat)
 case atStart=>exact ⟨0,dV _,rfl,aW _ _⟩
 case round=>
  obtain ⟨k,hk,rfl,hB⟩:=hrel
  have HB:=ak hB
  have hsz:=hB.size
  by_cases hlt:k<L.length
  ·obtain ⟨⟨⟨x0,x1⟩,x2,x3,x4,x5,x6,⟨x7,x8⟩,x9,x10,aS,aV,L0⟩,hx⟩:=aM hlt
   have HX:=ak hx
   obtain ⟨g,o,us,rfl,hg,hu,hr⟩:=(H.out.below aA hB).at_ hx
   obtain ⟨g',o',vs,rfl,hg',hu',hr'⟩:=(H'.out.below aA hB).at_ hx
   obtain ⟨a0,c0,rfl,dY,fH⟩:=fA hr
   obtain ⟨a0',c0',rfl,vU,b'_x3⟩:=fA hr'
   have e0:wr.cell? ⟨g,o+k*14,none⟩=some (.int .i64 x0):=by simpa [bR,Nat.add_assoc] using hu 0 _ rfl
   have d0:wr.cell? ⟨g',o'+k*14,none⟩=some (.int .i64 x0):=by simpa [bR,Nat.add_assoc] using hu' 0 _ rfl
   have e1:wr.cell? ⟨g,o+k*14+1,none⟩=some (.int .i64 x1):=by simpa [bR,Nat.add_assoc] using hu 1 _ rfl
   have d1:wr.cell? ⟨g',o'+k*14+1,none⟩=some (.int .i64 x1):=by simpa [bR,Nat.add_assoc] using hu' 1 _ rfl
   have e2:wr.cell? ⟨g,o+k*14+2,none⟩=some (.int .i64 x2):=by simpa [bR,Nat.add_assoc] using hu 2 _ rfl
   have d2:wr.cell? ⟨g',o'+k*14+2,none⟩=some (.int .i64 x2):=by simpa [bR,Nat.add_assoc] using hu' 2 _ rfl
   have e3:wr.cell? ⟨g,o+k*14+3,none⟩=some (.string x3):=by simpa [bR,Nat.add_assoc] using hu 3 _ rfl
   have d3:wr.cell? ⟨g',o'+k*14+3,none⟩=some (.string x3):=by simpa [bR,Nat.add_assoc] using hu' 3 _ rfl
   have e4:wr.cell? ⟨g,o+k*14+4,none⟩=some (.int .i64 x4):=by simpa [bR,Nat.add_assoc] using hu 4 _ rfl
   have d4:wr.cell? ⟨g',o'+k*14+4,none⟩=some (.int .i64 x4):=by simpa [bR,Nat.add_assoc] using hu' 4 _ rfl
   have e5:wr.cell? ⟨g,o+k*14+5,none⟩=some (.int .i64 x5):=by simpa [bR,Nat.add_assoc] using hu 5 _ rfl
   have d5:wr.cell? ⟨g',o'+k*14+5,none⟩=some (.int .i64 x5):=by simpa [bR,Nat.add_assoc] using hu' 5 _ rfl
   have e6:wr.cell? ⟨g,o+k*14+6,none⟩=some (.int .i64 x6):=by simpa [bR,Nat.add_assoc] using hu 6 _ rfl
   have d6:wr.cell? ⟨g',o'+k*14+6,none⟩=some (.int .i64 x6):=by simpa [bR,Nat.add_assoc] using hu' 6 _ rfl
   have e7:wr.cell? ⟨g,o+k*14+7,none⟩=some (.int .i64 x7):=by simpa [bR,Nat.add_assoc] using hu 7 _ rfl
   have d7:wr.cell? ⟨g',o'+k*14+7,none⟩=some (.int .i64 x7):=by simpa [bR,Nat.add_assoc] using hu' 7 _ rfl
   have e8:wr.cell? ⟨g,o+k*14+8,none⟩=some (.int .i64 x8):=by simpa [bR,Nat.add_assoc] using hu 8 _ rfl
   have d8:wr.cell? ⟨g',o'+k*14+8,none⟩=some (.int .i64 x8):=by simpa [bR,Nat.add_assoc] using hu' 8 _ rfl
   have e9:wr.cell? ⟨g,o+k*14+9,none⟩=some (.int .i64 x9):=by simpa [bR,Nat.add_assoc] using hu 9 _ rfl
   have d9:wr.cell? ⟨g',o'+k*14+9,none⟩=some (.int .i64 x9):=by simpa [bR,Nat.add_assoc] using hu' 9 _ rfl
   have e10:wr.cell? ⟨g,o+k*14+10,none⟩=some (.int .i64 x10):=by simpa [bR,Nat.add_assoc] using hu 10 _ rfl
   have XL:wr.cell? ⟨g',o'+k*14+10,none⟩=some (.int .i64 x10):=by simpa [bR,Nat.add_assoc] using hu' 10 _ rfl
   have e11:wr.cell? ⟨g,o+k*14+11,none⟩=some (.int .i64 aS):=by simpa [bR,Nat.add_assoc] using hu 11 _ rfl
   have XK:wr.cell? ⟨g',o'+k*14+11,none⟩=some (.int .i64 aS):=by simpa [bR,Nat.add_assoc] using hu' 11 _ rfl
   have e12:wr.cell? ⟨g,o+k*14+12,none⟩=some (.int .i64 aV):=by simpa [bR,Nat.add_assoc] using hu 12 _ rfl
   have MF:wr.cell? ⟨g',o'+k*14+12,none⟩=some (.int .i64 aV):=by simpa [bR,Nat.add_assoc] using hu' 12 _ rfl
   have e13:wr.cell? ⟨g,o+k*14+13,none⟩=some (.slice a0 L0.length c0):=by simpa [bR,Nat.add_assoc] using hu 13 _ rfl
   have Sr:wr.cell? ⟨g',o'+k*14+13,none⟩=some (.slice a0' L0.length c0'):=by simpa [bR,Nat.add_assoc] using hu' 13 _ rfl
   have hi0:(0:Int)≤(k:Int):=eu _
   have hi1:(k:Int)<(L.length:Int):=by omega
   have hgl:g<wr.heap.size:=bV hg hsz
   have ig:g'<wr.heap.size:=bV hg' hsz
   have fI:=ak (dY.more cK hsz)
   have Ux:=ak (vU.more cK hsz)
   clear hB hx hu hu' dY vU
   go_wp2_with fail
   refine dX (S:=(fun W=>W.cell? ⟨g,o+k*14,none⟩=some (.int .i64 x0)∧W.cell? ⟨g,o+k*14+1,none⟩=some (.int .i64 x1)∧W.cell? ⟨g,o+k*14+2,none⟩=some (.int .i64 x2)∧W.cell? ⟨g,o+k*14+3,none⟩=some (.string x3)∧W.cell? ⟨g,o+k*14+4,none⟩=some (.int .i64 x4)∧W.cell? ⟨g,o+k*14+5,none⟩=some (.int .i64 x5)∧W.cell? ⟨g,o+k*14+6,none⟩=some (.int .i64 x6)∧W.cell? ⟨g,o+k*14+7,none⟩=some (.int .i64 x7)∧W.cell? ⟨g,o+k*14+8,none⟩=some (.int .i64 x8)∧W.cell? ⟨g,o+k*14+9,none⟩=some (.int .i64 x9)∧W.cell? ⟨g,o+k*14+10,none⟩=some (.int .i64 x10)∧W.cell? ⟨g,o+k*14+11,none⟩=some (.int .i64 aS)∧W.cell? ⟨g,o+k*14+12,none⟩=some (.int .i64 aV)∧W.cell? ⟨g,o+k*14+13,none⟩=some (.slice a0 L0.length c0)∧W.cell? ⟨g',o'+k*14,none⟩=some (.int .i64 x0)∧W.cell? ⟨g',o'+k*14+1,none⟩=some (.int .i64 x1)∧W.cell? ⟨g',o'+k*14+2,none⟩=some (.int .i64 x2)∧W.cell? ⟨g',o'+k*14+3,none⟩=some (.string x3)∧W.cell? ⟨g',o'+k*14+4,none⟩=some (.int .i64 x4)∧W.cell? ⟨g',o'+k*14+5,none⟩=some (.int .i64 x5)∧W.cell? ⟨g',o'+k*14+6,none⟩=some (.int .i64 x6)∧W.cell? ⟨g',o'+k*14+7,none⟩=some (.int .i64 x7)∧W.cell? ⟨g',o'+k*14+8,none⟩=some (.int .i64 x8)∧W.cell? ⟨g',o'+k*14+9,none⟩=some (.int .i64 x9)∧W.cell? ⟨g',o'+k*14+10,none⟩=some (.int .i64 x10)∧W.cell? ⟨g',o'+k*14+11,none⟩=some (.int .i64 aS)∧W.cell? ⟨g',o'+k*14+12,none⟩=some (.int .i64 aV)∧W.cell? ⟨g',o'+k*14+13,none⟩=some (.slice a0' L0.length c0')∧wr.heap.size≤W.heap.size∧Below wr.heap.size wr W)) (by kernel_rfl) (⟨e0,e1,e2,e3,e4,e5,e6,e7,e8,e9,e10,e11,e12,e13,d0,d1,d2,d3,d4,d5,d6,d7,d8,d9,XL,XK,MF,Sr,bK _,(aW _ _).drew⟩) (fun ah=>?_)
   refine wpAnyH_take (i:=0) (v:=?hv1) rfl (by kernel_rfl) (by kernel_rfl) (by kernel_rfl) (fun _ _ _ h=>h) (Or.inl ⟨by kernel_rfl,?hy1⟩) ah ?hr1
   case hy1=>(intro w aj;(try dsimp only at aj);go_simp;try with_reducible rfl)
   refine wpAnyH_take (i:=1) (v:=?hv2) rfl (by kernel_rfl) (by kernel_rfl) (by kernel_rfl) (fun _ _ _ h=>h) (Or.inl ⟨by kernel_rfl,?hy2⟩) ah ?hr2
   case hy2=>(intro w aj;(try dsimp only at aj);go_simp;try with_reducible rfl)
   refine wpAnyH_take (i:=2) (v:=?hv3) rfl (by kernel_rfl) (by kernel_rfl) (by kernel_rfl) (fun _ _ _ h=>h) (Or.inl ⟨by kernel_rfl,?hy3⟩) ah ?hr3
   case hy3=>(intro w aj;(try dsimp only at aj);go_simp;try with_reducible rfl)
   refine wpAnyH_take (i:=3) (v:=?hv4) rfl (by kernel_rfl) (by kernel_rfl) (by kernel_rfl) (fun _ _ _ h=>h) (Or.inl ⟨by kernel_rfl,?hy4⟩) ah ?hr4
   case hy4=>(intro w aj;(try dsimp only at aj);go_simp;try with_reducible rfl)
   refine wpAnyH_take (i:=4) (v:=?hv5) rfl (by kernel_rfl) (by kernel_rfl) (by kernel_rfl) (fun _ _ _ h=>h) (Or.inl ⟨by kernel_rfl,?XD⟩) ah ?hr5
   case XD=>(intro w aj;(try dsimp only at aj);go_simp;try with_reducible rfl)
   refine wpAnyH_take (i:=5) (v:=?hv6) rfl (by kernel_rfl) (by kernel_rfl) (by kernel_rfl) (fun _ _ _ h=>h) (Or.inl ⟨by kernel_rfl,?XC⟩) ah ?hr6
   case XC=>(intro w aj;(try dsimp only at aj);go_simp;try with_reducible rfl)
   refine wpAnyH_take (i:=6) (v:=?hv7) rfl (by kernel_rfl) (by kernel_rfl) (by kernel_rfl) (fun _ _ _ h=>h) (Or.inl ⟨by kernel_rfl,?XB⟩) ah ?hr7
   case XB=>(intro w aj;(try dsimp only at aj);go_simp;try with_reducible rfl)
   refine wpAnyH_take (i:=7) (v:=?hv8) rfl (by kernel_rfl) (by kernel_rfl) (by kernel_rfl) (fun _ _ _ h=>h) (Or.inl ⟨by kernel_rfl,?XA⟩) ah ?hr8
   case XA=>(intro w aj;(try dsimp only at aj);go_simp;try with_reducible rfl)
   refine dw 8 (fun K hK=>?_)
   go_simp
   refine (eq_Task ((fI.out.below cK (by exact (Nb ah))).more cK (by exact (fV ah).1)) ((Ux.out.below cK (by exact (Nb ah))).more cK (by exact (fV ah).1))).mono ?_
   intro e w1 h
   obtain ⟨rfl,hb⟩:=bU h
   refine hK.out _ _ (⟨(hb.cell (p:=⟨g,o+k*14,none⟩) (bV hgl (fV ah).1)).trans ah.1,(hb.cell (p:=⟨g,o+k*14+1,none⟩) (bV hgl (fV ah).1)).trans ah.2.1,(hb.cell (p:=⟨g,o+k*14+2,none⟩) (bV hgl (fV ah).1)).trans ah.2.2.1,(hb.cell (p:=⟨g,o+k*14+3,none⟩) (bV hgl (fV ah).1)).trans ah.2.2.2.1,(hb.cell (p:=⟨g,o+k*14+4,none⟩) (bV hgl (fV ah).1)).trans ah.2.2.2.2.1,(hb.cell (p:=⟨g,o+k*14+5,none⟩) (bV hgl (fV ah).1)).trans ah.2.2.2.2.2.1,(hb.cell (p:=⟨g,o+k*14+6,none⟩) (bV hgl (fV ah).1)).trans ah.2.2.2.2.2.2.1,(hb.cell (p:=⟨g,o+k*14+7,none⟩) (bV hgl (fV ah).1)).trans (Gg ah).1,(hb.cell (p:=⟨g,o+k*14+8,none⟩) (bV hgl (fV ah).1)).trans (qG ah).1,(hb.cell (p:=⟨g,o+k*14+9,none⟩) (bV hgl (fV ah).1)).trans (kZ ah).1,(hb.cell (p:=⟨g,o+k*14+10,none⟩) (bV hgl (fV ah).1)).trans (iX ah).1,(hb.cell (p:=⟨g,o+k*14+11,none⟩) (bV hgl (fV ah).1)).trans (TP ah).1,(hb.cell (p:=⟨g,o+k*14+12,none⟩) (bV hgl (fV ah).1)).trans (adq ah).1,(hb.cell (p:=⟨g,o+k*14+13,none⟩) (bV hgl (fV ah).1)).trans (adp ah).1,(hb.cell (p:=⟨g',o'+k*14,none⟩) (bV ig (fV ah).1)).trans (ado ah).1,(hb.cell (p:=⟨g',o'+k*14+1,none⟩) (bV ig (fV ah).1)).trans (adn ah).1,(hb.cell (p:=⟨g',o'+k*14+2,none⟩) (bV ig (fV ah).1)).trans (adl ah).1,(hb.cell (p:=⟨g',o'+k*14+3,none⟩) (bV ig (fV ah).1)).trans (adk ah).1,(hb.cell (p:=⟨g',o'+k*14+4,none⟩) (bV ig (fV ah).1)).trans (adj ah).1,(hb.cell (p:=⟨g',o'+k*14+5,none⟩) (bV ig (fV ah).1)).trans (adi ah).1,(hb.cell (p:=⟨g',o'+k*14+6,none⟩) (bV ig (fV ah).1)).trans (adh ah).1,(hb.cell (p:=⟨g',o'+k*14+7,none⟩) (bV ig (fV ah).1)).trans (adg ah).1,(hb.cell (p:=⟨g',o'+k*14+8,none⟩) (bV ig (fV ah).1)).trans (adf ah).1,(hb.cell (p:=⟨g',o'+k*14+9,none⟩) (bV ig (fV ah).1)).trans (ade ah).1,(hb.cell (p:=⟨g',o'+k*14+10,none⟩) (bV ig (fV ah).1)).trans (adb ah).1,(hb.cell (p:=⟨g',o'+k*14+11,none⟩) (bV ig (fV ah).1)).trans (ada ah).1,(hb.cell (p:=⟨g',o'+k*14+12,none⟩) (bV ig (fV ah).1)).trans (ac9 ah).1,(hb.cell (p:=⟨g',o'+k*14+13,none⟩) (bV ig (fV ah).1)).trans (ac8 ah).1,eF (fV ah).1 hb.size,(Nb ah).trans (hb.mono (fV ah).1)⟩) (fun ah=>?_)
   clear hK K h
   refine tk 9 ah ?_
   refine dQ ?_
   have HB2:=ak (HB.out.trans ((Nb ah).mono hsz))
   clear ah
   go_wp2
   go_roundw
   case rel=>exact ⟨k+1,by omega,by go_num,HB2.out⟩
   case measure=>simp [intOf];omega
  ·clear hB
   go_wp2
   go_ret
   exact ⟨rfl,HB.out⟩
end
end aQ
end Go.Proofs.YtlhfiapfncikdaaGreatDoor
