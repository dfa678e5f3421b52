import Derived.Test.YtlhfiapfncikdaaGreatDoorPN14
import Derived.Test.YtlhfiapfncikdaaGreatDoorPN19
import Derived.Test.YtlhfiapfncikdaaGreatDoorPN22
import Derived.Test.YtlhfiapfncikdaaGreatDoorPN23
set_option linter.unusedVariables false
set_option linter.unusedSimpArgs false
set_option maxRecDepth 100000
set_option maxHeartbeats 3200000
namespace Go.Proofs.YtlhfiapfncikdaaGreatDoor
namespace aQ
section
open Go.RowKit bN bO
theorem below_setCells {B b:Nat}{w:World}(hB:B≤b):∀ (vs:List Value)(o:Nat)(W:World),Below B w W→Below B w (W.setCells b o vs)
 | [],_,_,h=>h
 | v::r,o,W,h=>below_setCells hB r (o+1) _ (h.setCell (p:=⟨b,o,none⟩) hB v)
theorem size_setCells {b:Nat}:∀ (vs:List Value)(o:Nat)(W:World),(W.setCells b o vs).heap.size=W.heap.size
 | [],_,_=>rfl
 | v::r,o,W=>by rw [World.setCells,size_setCells r];simp
theorem QO {P:Program}(w:World){dT sT ty elem:TypeId}{i:TypeInfo}(hu:P.underlying dT=some (.slice elem))(hi:P.info? elem=some i)(b o dLen dCap:Nat)(a:Addr)(sLen sCap:Nat)(cs:List Value)(n:Nat)(hn:Nat.min sLen dLen=n)(hlen:cs.length=n*i.size)
 (hsrc:∀ j v,cs[j]? = some v→w.cell? (a.add j)=some v) (hc:∀ j,j<cs.length→(w.cell? ⟨b,o+j,none⟩).isSome=true) (hf:∀ j,j<cs.length→w.frozen? ⟨b,o+j,none⟩=false) (h1:∀ v∈cs,v.oneCell'=true) :
 (Builtin.copy_ #[dT,sT] ty #[.slice (some ⟨b,o,none⟩) dLen dCap,.slice (some a) sLen sCap]).run P w=.ok (.int .i64 n) (w.setCells b o cs):=by
 have hl:=run_loadCells_list (P:=P) w a cs hsrc
 have hst:=run_storeCells_cells (P:=P) b o cs 0 w (by simpa using hc) (by simpa using hf) h1
 rw [hlen] at hl
 simp [Builtin.copy_,run_underlying hu,Builtin.lenOf,Builtin.firstCells,sizeOf,typeInfo,hi,hn,hl,hst,goInt]
theorem QS {P:Program}(w:World){dT sT ty elem:TypeId}{i:TypeInfo}(hu:P.underlying dT=some (.slice elem))(hi:P.info? elem=some i)(d a:Option Addr)(dLen dCap sLen sCap:Nat)(hn:Nat.min sLen dLen=0) :
 (Builtin.copy_ #[dT,sT] ty #[.slice d dLen dCap,.slice a sLen sCap]).run P w=.ok (.int .i64 0) w:=by
 have hl:∀ (x:Addr),(loadCells x 0).run P w=.ok #[] w:=fun x=>by simpa using run_loadCells_list (P:=P) w x [] (by simp)
 cases d <;> cases a <;> simp [Builtin.copy_,run_underlying hu,Builtin.lenOf,Builtin.firstCells,sizeOf,typeInfo,hi,hn,storeCells,hl,goInt]
theorem abW {α:Type}{E:Rp α}(hE:Ok E){L:List α}{a:Option Addr}{cap:Nat}{w w':World}(h:aJ E w w.heap.size L a cap)(hb:Below w.heap.size w w'):aJ E w' w'.heap.size L a cap:=(h.below hE hb).more hE hb.size
abbrev Kj:Nat→Nat→Prop:=fun _ _=>False
def fS (x:dJ):List Value:=[.int .i64 x.1,.int .i64 x.2]
theorem WR {w W:World}{L M:List dJ}{g k:Nat}{dp ba:Option Addr}{bc:Nat}{ty:TypeId}(hF:sU bE w W L g Kj k)(hkM:k+M.length≤L.length)(hsub:∀ i x,M[i]? = some x→L[k+i]? = some x)(hdp:k<L.length→dp=some ⟨g,k*2,none⟩)(hM:aJ bE W W.heap.size M ba bc) :
 ∃ w',(Builtin.copy_ #[122,122] ty #[.slice dp (L.length-k) (L.length-k),.slice ba M.length bc]).run Tryz.prog W=.ok (.int .i64 M.length) w'∧sU bE w w' L g Kj (k+M.length):=by
 obtain ⟨i,hi,hz,hs,hby⟩:=Ij
 have ht:Tryz.prog.underlying 122=some (.slice 61):=Tryz.underlying122
 by_cases h0:M.length=0
 ·exact ⟨W,by rw [h0];exact QS W ht hi _ _ _ _ _ _ (by simp),by rw [h0];exact hF⟩
 obtain ⟨g',o,rfl,hg',hel⟩:=hM.2.2 (by omega)
 obtain rfl:=hdp (by omega)
 have hfl:(M.flatMap fS).length=M.length*2:=rD bG lV W M
 have KE:∀ j,j<M.length*2→∃ u,W.cell? ⟨g,k*2+j,none⟩=some u:=fun j hj=>hF.there _ (by rw [fE];omega)
 have hcells:aR W g' o (M.flatMap fS):=oJ bG lV W g' M o fun q x hx=>by
  obtain ⟨us,hu,hr⟩:=hel q x hx
  rw [←lV.rd hr]
  exact hu
 have hrun:=QO (P:=Tryz.prog) W (dT:=122) (sT:=122) (ty:=ty) ht hi g (k*2) (L.length-k) (L.length-k) ⟨g',o,none⟩ M.length bc (M.flatMap fS) M.length (by show min M.length (L.length-k)=_;omega) (by rw [hs];exact hfl)
  (fun j v hj=>by rw [show (⟨g',o,none⟩:Addr).add j=⟨g',o+j,none⟩ by unfold Addr.add;split <;> simp_all];exact hcells j v hj)
  (fun j hj=>by obtain ⟨u,hu⟩:=KE j (by omega);rw [hu];rfl) (fun j _=>hF.soft _)
  (fun v hv=>by obtain ⟨y,_,hv⟩:=List.mem_flatMap.1 hv;simp [fS] at hv;rcases hv with rfl | rfl <;> rfl)
 refine ⟨_,hrun,fun q x hq hx=>?_,fun j hj=>?_,fun j=>by rw [World.frozen?_setCells];exact hF.soft j,fun _ _ h=>h.elim,fun _ _ _ _ h=>h.elim,hF.base,by rw [size_setCells];exact hF.lt,?_⟩
 ·refine ⟨fS x,fun j d hj=>?_,lV.ow _ _ _⟩
  have hj2:j<2:=(List.getElem?_eq_some_iff.1 hj).1
  rw [fE]
  by_cases hqk:q<k
  ·rw [World.cell?_setCells_out _ _ _ _ _ (fun _ _=>.inl (by show q*2+j<k*2;omega))]
   obtain ⟨us,hu,hr⟩:=hF.el q x hqk hx
   have e:us=fS x:=by obtain ⟨x0,x1⟩:=x;exact Bl hr
   subst e
   have:=hu j d hj
   rwa [fE] at this
  ·obtain ⟨p,rfl⟩:∃ p,q=k+p:=⟨q-k,by omega⟩
   have hp:p<M.length:=by omega
   obtain ⟨y,hy⟩:=aM hp
   have:=hsub p y hy
   rw [hx] at this
   obtain rfl:=fC this
   have hfm:(M.flatMap fS)[p*2+j]? = some d:=by
    have h9:=vC bG lV W M p x hy j d hj
    rw [fE] at h9
    exact h9
   obtain ⟨hl,hv⟩:=List.getElem?_eq_some_iff.1 hfm
   rw [show (k+p)*2+j=k*2+(p*2+j) by omega]
   rw [World.cell?_setCells_in g _ _ _ (fun j hj=>by obtain ⟨u,hu⟩:=KE j (by rw [hfl] at hj;exact hj);rw [hu];rfl) _ hl]
   exact congrArg some hv
 ·rw [fE] at hj
  by_cases hin:j<k*2∨k*2+M.length*2≤j
  ·rw [World.cell?_setCells_out _ _ _ _ _ (fun _ _=>by show j<k*2∨k*2+(M.flatMap fS).length≤j;rw [hfl];exact hin)]
   exact hF.there j (by rw [fE];exact hj)
  ·obtain ⟨p,rfl⟩:∃ p,j=k*2+p:=⟨j-k*2,by omega⟩
   exact ⟨_,World.cell?_setCells_in g _ _ _ (fun j hj=>by obtain ⟨u,hu⟩:=KE j (by rw [hfl] at hj;exact hj);rw [hu];rfl) p (by rw [hfl];omega)⟩
 ·exact below_setCells (bK _) _ _ _ hF.below
theorem yA {Ls:List (List dJ)}{k:Nat}{M:List dJ}(h:Ls[k]? = some M):(Ls.take (k+1)).flatten=(Ls.take k).flatten++M:=by
 rw [List.take_add_one,h,Option.toList_some,List.flatten_append];simp
theorem WJ {Ls:List (List dJ)}(k:Nat):∃ r,Ls.flatten=(Ls.take k).flatten++r:=⟨(Ls.drop k).flatten,by rw [←List.flatten_append,List.take_append_drop]⟩
theorem OV {Ls:List (List dJ)}{k:Nat}{M:List dJ}(h:Ls[k]? = some M):(Ls.take k).flatten.length+M.length≤Ls.flatten.length∧∀ i x,M[i]? = some x→Ls.flatten[(Ls.take k).flatten.length+i]? = some x:=by
 obtain ⟨r,hr⟩:=WJ (Ls:=Ls) (k+1)
 rw [yA h] at hr
 refine ⟨by rw [hr,List.length_append,List.length_append];omega,fun i x hx=>?_⟩
 have hi:=kM hx
 rw [hr,List.getElem?_append_left (by rw [List.length_append];omega),List.getElem?_append_right (by omega),Nat.add_sub_cancel_left]
 exact hx
theorem Ml {Ls:List (List dJ)}{a:Option Addr}{cap:Nat}{W:World}(hT:Ls.flatten.length≤1048576)(h:aJ (Sl bE) W W.heap.size Ls a cap) :
 Calls Tryz.prog 181 #[.slice a Ls.length cap] W (jU bE Ls.flatten W):=by
 have H:=ak h
 have hn:Ls.length≤9223372036854775807:=by have h1:=h.1;have h2:=h.2.1;unfold maxLen at h2;omega
 clear h
 obtain ⟨T,hTT⟩:∃ T,Ls.flatten.length=T:=⟨_,rfl⟩
 have HT:=ak hTT
 rw [hTT] at hT
 clear hTT
 have hmk:=BN T hT
 obtain ⟨w0,hw0⟩:∃ w,w=W.alloc (.cells (wK T) 61):=⟨_,rfl⟩
 have J7:=ak (show sU bE W w0 Ls.flatten W.heap.size Kj 0 from by rw [hw0];exact sU.new (by rw [uo,HT.out]))
 go_enter Tryz.func181,Tryz.ntmps181
 go_wp2
 go_loopw [12,3] (fun i v wr=>∃ k:Nat,k≤Ls.length∧i=.int .i64 k∧v=.int .i64 (((Ls.take k).flatten.length:Nat):Int)∧wr=W) (fun i _ _=>Ls.length-(intOf i).toNat)
 case atStart=>exact ⟨0,dV _,rfl,rfl,rfl⟩
 case round=>
  obtain ⟨k,hk,rfl,rfl,rfl⟩:=hrel
  by_cases hlt:k<Ls.length
  ·obtain ⟨M,hM⟩:=aM hlt
   have hfa:=OV hM
   have hft:=yA hM
   obtain ⟨g,o,us,rfl,hg,hu,hr⟩:=H.out.at_ hM
   obtain ⟨ba,bc,rfl,Xq⟩:=hr
   have e0:wr.cell? ⟨g,o+k,none⟩=some (.slice ba M.length bc):=by simpa [show (Sl bE).size=1 from rfl] using hu 0 _ rfl
   have hi0:(0:Int)≤(k:Int):=eu _
   have hi1:(k:Int)<(Ls.length:Int):=by omega
   have hlen:(Ls.take (k+1)).flatten.length=(Ls.take k).flatten.length+M.length:=by rw [hft,List.length_append]
   have hle:=hfa.1
   rw [HT.out] at hle
   obtain ⟨t0,ht0⟩:∃ t,(Ls.take k).flatten.length=t:=⟨_,rfl⟩
   rw [ht0] at hlen hle ⊢
   have HL:=ak hlen
   have hwr:IntKind.i64.wrap ((t0:Int)+(M.length:Int))=((t0+M.length:Nat):Int):=by rw [←Int.natCast_add];exact gK _ (by omega)
   clear hfa hft Xq hu hM hlen ht0
   go_wp2
   go_roundw
   case rel=>exact ⟨k+1,by omega,by go_num,by rw [HL.out,Int.natCast_add],trivial⟩
   case measure=>simp [intOf];omega
  ·have hdl:decide ((k:Int)<(Ls.length:Int))=false:=dS (by omega)
   obtain rfl:k=Ls.length:=by omega
   rw [List.take_length,HT.out]
   go_wp2
   rw [←hw0]
   have HB0:=ak (show Below wr.heap.size wr w0 from by rw [hw0];exact (aW _ _).alloc (bK _) _)
   clear hw0 hmk hdl hlt hk
   go_loopw [25,7] (fun i v wq=>∃ k:Nat,k≤Ls.length∧i=.int .i64 k∧v=.int .i64 (((Ls.take k).flatten.length:Nat):Int)∧Hid (sU bE wr wq Ls.flatten wr.heap.size Kj (Ls.take k).flatten.length)) (fun i _ _=>Ls.length-(intOf i).toNat)
   case atStart=>exact ⟨0,dV _,rfl,rfl,J7⟩
   case round=>
    obtain ⟨k,hk,rfl,rfl,HF⟩:=hrel
    rename World=>wq
    by_cases hlt:k<Ls.length
    ·obtain ⟨M,hM⟩:=aM hlt
     have hfa:=OV hM
     have hft:=yA hM
     have hB:=HF.out.below
     obtain ⟨g,o,us,rfl,hg,hu,hr⟩:=H.out.at_ hM
     obtain ⟨ba,bc,rfl,Xq⟩:=hr
     have e0:wq.cell? ⟨g,o+k,none⟩=some (.slice ba M.length bc):=(hB.cell (p:=⟨g,o+k,none⟩) hg).trans (by simpa [show (Sl bE).size=1 from rfl] using hu 0 _ rfl)
     have hi0:(0:Int)≤(k:Int):=eu _
     have hi1:(k:Int)<(Ls.length:Int):=by omega
     have hlen:(Ls.take (k+1)).flatten.length=(Ls.take k).flatten.length+M.length:=by rw [hft,List.length_append]
     have hle:=hfa.1
     rw [HT.out] at hle
     obtain ⟨t0,ht0⟩:∃ t,(Ls.take k).flatten.length=t:=⟨_,rfl⟩
     obtain ⟨wn,hrun,hF2⟩:=WR (ty:=3) (dp:=if T=t0 then some ⟨wr.heap.size,0,none⟩ else some ⟨wr.heap.size,t0*2,none⟩) (by have:=HF.out;rw [ht0] at this;exact this) (by rw [←ht0];exact hfa.1) (by rw [←ht0];exact hfa.2) (fun h=>by rw [HT.out] at h;rw [if_neg (by omega)]) (abW bG Xq hB)
     rw [HT.out] at hrun
     have Xx:=ak hF2
     rw [ht0] at hlen ⊢
     have HL:=ak hlen
     have hwr:IntKind.i64.wrap ((t0:Int)+(M.length:Int))=((t0+M.length:Nat):Int):=by rw [←Int.natCast_add];exact gK _ (by omega)
     have ht0':(0:Int)≤(t0:Int):=eu _
     have ht1:(t0:Int)≤(T:Int):=by omega
     clear hfa hft Xq hu hM hlen ht0 hB hF2
     by_cases hTt:T=t0
     ·rw [if_pos hTt] at hrun
      subst hTt
      simp only [Nat.sub_self] at hrun
      go_wp2
      go_roundw
      case rel=>exact ⟨k+1,by omega,by go_num,by rw [HL.out,Int.natCast_add],by rw [HL.out];exact Xx⟩
      case measure=>simp [intOf];omega
     ·rw [if_neg hTt] at hrun
      go_wp2
      go_roundw
      case rel=>exact ⟨k+1,by omega,by go_num,by rw [HL.out,Int.natCast_add],by rw [HL.out];exact Xx⟩
      case measure=>simp [intOf];omega
    ·have hdl:decide ((k:Int)<(Ls.length:Int))=false:=dS (by omega)
     obtain rfl:k=Ls.length:=by omega
     have hF3:=HF.out
     rw [List.take_length] at hF3
     have hnw:=hF3.news (by rw [HT.out];unfold maxLen;omega)
     rw [HT.out] at hnw
     have JR:=ak hnw
     clear hF3 hnw
     go_wp2
     go_ret
     exact JR.out
end
section
open Go.RowKit bN bO bJ bQ
theorem ZK {w:World}{g:Nat}{M:List dJ}{a:Option Addr}{c:Nat}(h:aO w g 122 #[.slice a M.length c])(hM:aJ bE w w.heap.size M a c):aJ (Sl bE) w w.heap.size [M] (some ⟨g,0,none⟩) 1:=by
 refine ⟨bK _,by unfold maxLen;omega,fun _=>⟨g,0,rfl,h.lt,fun i x hx=>?_⟩⟩
 cases i with
 | zero=>
  simp at hx
  subst hx
  refine ⟨[.slice a M.length c],fun j d hj=>?_,a,c,rfl,hM⟩
  simpa using h.at_ j (by simpa using hj)
 | succ i=>simp at hx
theorem lJ {L:List aP}(h:qM L):L.length≤4096∧∀ x∈L,x.2.length≤1048576:=⟨by have:=h.1.2;omega,fun x hx=>by have:=(h.2 x hx).2.1;omega⟩
theorem Lj {W:World}{B:Nat}{L:List aP}{g o cap:Nat}(h:aJ aL W B L (some ⟨g,o,none⟩) cap):∀ q,q≤L.length→∃ cs:List Value,cs.length=q*2∧aR W g o cs∧(∀ u∈cs,u.oneCell'=true) ∧
 ∀ i x,i<q→L[i]? = some x→∃ a c,cs[i*2]? = some (.int .i64 x.1)∧cs[i*2+1]? = some (.slice a x.2.length c)∧aJ bE W B x.2 a c:=by
 intro q
 induction q with
 | zero=>exact fun _=>⟨[],rfl,aR.nil,fun u hu=>by simp at hu,fun i x hi=>absurd hi (gZ _)⟩
 | succ q ih=>
  intro hq
  obtain ⟨cs,hl,hc,h1,he⟩:=ih (by omega)
  obtain ⟨x,hx⟩:=aM (show q<L.length by omega)
  obtain ⟨g',o',us,e,_,hu,hr⟩:=h.at_ hx
  cases e
  obtain ⟨st,M⟩:=x
  obtain ⟨a,c,rfl,hM⟩:=kH hr
  rw [eT] at hu
  refine ⟨cs++[.int .i64 st,.slice a M.length c],by simp [hl];omega,aR.app.2 ⟨hc,by rw [hl];exact hu⟩,fun u hu=>?_,fun i y hi hy=>?_⟩
  ·rcases List.mem_append.1 hu with h | h
   ·exact h1 u h
   ·simp at h;rcases h with rfl | rfl <;> rfl
  ·by_cases e:i=q
   ·subst e
    rw [hx] at hy
    cases hy
    refine ⟨a,c,?_,?_,hM⟩
    ·rw [List.getElem?_append_right (by omega),hl,Nat.sub_self];rfl
    ·rw [List.getElem?_append_right (by omega),hl,show i*2+1-i*2=1 by omega];rfl
   ·obtain ⟨a',c',h2,h3,h4⟩:=he i y (by omega) hy
    exact ⟨a',c',by rw [List.getElem?_append_left (by omega)];exact h2,by rw [List.getElem?_append_left (by omega)];exact h3,h4⟩
def CopR (L:List aP)(W:World)(e:Ending)(w':World):Prop:=∃ g c,e=.returned (.slice (some ⟨g,0,none⟩) L.length c)∧L.length≤c∧c≤maxLen∧zJ W w' L g 0 Kj
theorem RI {L:List aP}{W:World}{e:Ending}{w':World}(h:CopR L W e w'):∃ g c,e=.returned (.slice (some ⟨g,0,none⟩) L.length c)∧L.length≤c∧c≤maxLen∧zJ W w' L g 0 Kj:=h
theorem RQ {W:World}{L:List aP}{a:Option Addr}{cap:Nat}(hn:L.length≤4096)(h0:0<L.length)(h:aJ aL W W.heap.size L a cap) :
 ∃ g c w',(Builtin.append_ #[40,40] 40 #[.slice (some ⟨W.heap.size,0,none⟩) 0 0,.slice a L.length cap]).run Tryz.prog (W.alloc (.cells #[] 124))=.ok (.slice (some ⟨g,0,none⟩) L.length c) w'∧L.length≤c∧c≤maxLen∧zJ W w' L g 0 Kj:=by
 obtain ⟨i,hi,hz,hs,hby⟩:=Il
 have hbel:Below W.heap.size W (W.alloc (.cells #[] 124)):=(aW _ _).alloc (bK _) _
 obtain ⟨g,o,rfl,hg,_⟩:=h.2.2 h0
 obtain ⟨cs,hl,hc,h1,he⟩:=Lj h L.length (bK _)
 obtain ⟨v',w',hrun,hown,hgr,_,hat⟩:=run_append_own_at (P:=Tryz.prog) (W.alloc (.cells #[] 124)) W.heap.size 40 40 124 i _ 2 32 Tryz.underlying40 hi hz hs hby rfl (by decide) _ 0 [] (App.made aL W 124).own ⟨g,o,none⟩ L.length cap cs hl
  (fun j u hj=>by
   have hadd:(⟨g,o,none⟩:Addr).add j=⟨g,o+j,none⟩:=by unfold Addr.add;split <;> simp_all
   rw [hadd]
   exact (hbel.cell (p:=⟨g,o+j,none⟩) hg).trans (hc j u hj)) h1 (by unfold maxLen;omega) (by omega) (by simp)
 rw [Nat.zero_add,List.nil_append] at hown
 have hb2:Below W.heap.size W w':=hbel.trans (by
  refine ⟨hgr.os,hgr.tape,hgr.output,hgr.size,fun k hk=>hgr.block k (by simp;omega) (fun e=>by cases e;exact jH _ hk)⟩)
 rcases hown.2 with ⟨hn0,hL0⟩ | ⟨g',cap',cur,rfl,hlo,hgg,hnc,hm,hcc,htk⟩
 ·omega
 ·have hgl:g'<w'.heap.size:=(Array.getElem?_eq_some_iff.1 hgg).1
  have hcell:∀ j u,cs[j]? = some u→w'.cell? ⟨g',j,none⟩=some u:=fun j u hj=>by
   rw [←htk,List.getElem?_take] at hj
   split at hj
   ·exact (cell_of_row w' g' j cur _ _ hgg).trans (by simpa using hj)
   ·cases hj
  refine ⟨g',cap',w',hrun,hnc,hm,⟨fun i x hx=>?_,fun j=>by simp [World.frozen?,hgg],fun _ _ h=>h.elim,fun _ _ _ _ h=>h.elim,hlo,hgl,hb2⟩⟩
  obtain ⟨a,c,h2,h3,h4⟩:=he i x (kM hx) hx
  exact ⟨a,c,hcell _ _ h2,hcell _ _ h3,fun h=>absurd h (gZ _),fun _=>h4.below bG hb2⟩
theorem JB {L:List aP}{a:Option Addr}{cap:Nat}{W:World}(hn:L.length≤4096)(h0:0<L.length)(h:aJ aL W W.heap.size L a cap) :
 Calls Tryz.prog 209 #[.slice a L.length cap] W (CopR L W):=by
 obtain ⟨g,c,w',hrun,h1,h2,h3⟩:=RQ hn h0 h
 obtain ⟨g0,o0,rfl,_⟩:=h.2.2 h0
 have Gr:=ak hrun
 have HC:=ak h3
 clear h hrun h3
 have hnil:∀ W,(binOp .eql 40 (.slice (some ⟨g0,o0,none⟩) L.length cap) (.slice none 0 0)).run Tryz.prog W=.ok (.bool false) W:=fun W=>Lib.run_eql_slice_nil W _ _ _ _ _ _ _ Tryz.underlying40
 go_enter Tryz.func209,Tryz.ntmps209
 go_wp2_with (at_builtin;refine dZ rfl (.tmp 5) (.tmp 6) 40 rfl rfl rfl Gr.out ?_)
 go_ret
 exact ⟨g,c,rfl,h1,h2,HC.out⟩
theorem za {L:List aP}{a:Option Addr}{cap:Nat}{W:World}(hn:L.length≤4096)(h0:0<L.length)(hM:∀ x∈L,x.2.length≤1048576)(h:aJ aL W W.heap.size L a cap) :
 Calls Tryz.prog 138 #[.slice a L.length cap] W (jU aL L W):=by
 have hcl:=JB hn h0 h
 have HS:=ak hM
 clear h hM
 go_enter Tryz.func138,Tryz.ntmps138
 go_wp2_with fail
 refine hcl.mono ?_
 intro e w0 h
 obtain ⟨g,c,rfl,hc1,hc2,hC⟩:=RI h
 have HC0:=ak hC
 clear h hC hcl
 go_wp2
 go_loopw [10] (fun i wr=>∃ k:Nat,k≤L.length∧i=.int .i64 k∧∃ Sf,Hid (zJ W wr L g k Sf)) (fun i _=>L.length-(intOf i).toNat)
 case atStart=>exact ⟨0,dV _,rfl,_,HC0⟩
 case round=>
  obtain ⟨k,hk,rfl,Sf,HC⟩:=hrel
  by_cases hlt:k<L.length
  ·obtain ⟨x,hx⟩:=aM hlt
   have hxl:=HS.out x (List.mem_of_getElem? hx)
   have hlt':=HC.out.lt
   obtain ⟨ba,bc,e0,e1,_,hr⟩:=HC.out.el k x hx
   have hr:=(hr (bK _)).more bG HC.out.below.size
   obtain ⟨st,M⟩:=x
   have hi0:(0:Int)≤(k:Int):=eu _
   have hi1:(k:Int)<(L.length:Int):=by omega
   obtain ⟨w1,hw1⟩:∃ w,w=wr.alloc (.cells #[.int .i64 st,.slice ba M.length bc] 124):=⟨_,rfl⟩
   have hb1:Below wr.heap.size wr w1:=by rw [hw1];exact (aW _ _).alloc (bK _) _
   have X1:aO w1 wr.heap.size 124 #[.int .i64 st,.slice ba M.length bc]:=by rw [hw1];exact aO.new _ _ _
   have hs1:w1.heap.size=wr.heap.size+1:=by rw [hw1];simp
   obtain ⟨w2,hw2⟩:∃ w,w=w1.alloc (.cells #[.slice ba M.length bc] 122):=⟨_,rfl⟩
   have hb2:Below w1.heap.size w1 w2:=by rw [hw2];exact (aW _ _).alloc (bK _) _
   have X2:aO w2 w1.heap.size 122 #[.slice ba M.length bc]:=by rw [hw2];exact aO.new _ _ _
   have xK:Below wr.heap.size wr w2:=hb1.trans (hb2.mono (by omega))
   have hbk:=Ml (Ls:=[M]) (by simpa using hxl) (ZK X2 (qR bG hr xK))
   rw [show ([M]:List (List dJ)).flatten=M by simp,hs1] at hbk
   have HBK:=ak hbk
   have gU:=ak xK
   have HX:=ak hx
   have p0:=X1.at_ 0 rfl
   have p1:=X1.at_ 1 rfl
   rw [hw1] at p0 p1
   clear hbk hb1 hb2 xK X1 X2 hr hx hs1
   go_wp2_with fail
   rw [←hw1,←hw2]
   clear p0 p1 hw1 hw2
   refine HBK.out.mono ?_
   intro e w3 h
   obtain ⟨a',c',rfl,ho,hb⟩:=bL h
   have hz2:=gU.out.size
   have hb3:Below wr.heap.size wr w3:=gU.out.trans (hb.mono hz2)
   have hput:=HC.out.put HX.out hb3 (ho.more fun q hq=>⟨eF hz2 hq.1,hq.2⟩)
   have HP:=ak hput
   have d1:w3.cell? ⟨g,k*2+1,none⟩=some (.slice ba M.length bc):=(hb3.cell (p:=⟨g,k*2+1,none⟩) hlt').trans e1
   have f1:w3.frozen? ⟨g,k*2+1,none⟩=false:=(hb3.frozen (p:=⟨g,k*2+1,none⟩) hlt').trans (HC.out.soft _)
   clear h ho hb hb3 hput e0 e1
   go_wp2
   go_roundw
   case rel=>exact ⟨k+1,by omega,by go_num,_,HP⟩
   case measure=>simp [intOf];omega
  ·have hdl:decide ((k:Int)<(L.length:Int))=false:=dS (by omega)
   obtain rfl:k=L.length:=by omega
   have HD:=ak HC.out.done
   go_wp2
   go_ret
   exact ⟨_,_,rfl,HD.out.slice hc1 hc2,HC.out.below⟩
end
section
open Go.RowKit bN bO bJ bQ eO
theorem Mg {L:List aF}{a:Option Addr}{cap:Nat}{W:World}(hn:L.length≤1048576)(h:aJ aI W W.heap.size L a cap) :
 Calls Tryz.prog 210 #[.slice a L.length cap] W (Uy aI 72 L W):=by
 have qT:∀ (w:World) (a:Option Addr) (n c n' c':Nat),(binOp .eql 41 (.slice a n c) (.slice none n' c')).run Tryz.prog w=.ok (.bool a.isNone) w:=fun w a n c n' c'=>Lib.run_eql_slice_nil w _ _ a n c n' c' Tryz.underlying41
 cases a with
 | none=>
  have h0:L.length=0:=by
   by_cases hp:0<L.length
   ·obtain ⟨g,o,he,_⟩:=h.2.2 hp
    cases he
   ·omega
  have hL:L = []:=List.eq_nil_of_length_eq_zero h0
  subst hL
  go_enter Tryz.func210,Tryz.ntmps210
  go_wp2
  go_ret
  exact ⟨none,0,_,rfl,Ip aI _ _,aW _ _⟩
 | some x=>
  obtain ⟨iL,JM,sN,hsL,hbL⟩:=Ii
  obtain ⟨a',c',w5,xs,hr,hos,hb⟩:=IL (P:=Tryz.prog) (ty:=41) aA Tryz.underlying41 JM sN hsL hbL rfl (by decide) (by unfold maxLen;omega) (by omega) h
  clear JM sN hsL hbL
  have HR:=ak hr
  have HO:=ak hos
  have HB:=ak hb
  clear hr hos hb h
  go_enter Tryz.func210,Tryz.ntmps210
  go_wp2_with (at_builtin;refine dZ rfl (.tmp 5) (.tmp 6) 41 rfl rfl rfl HR.out ?_)
  go_ret
  exact ⟨a',c',xs,rfl,HO.out,HB.out⟩
theorem Jt {L:List aF}{a:Option Addr}{cap:Nat}{W:World}(hsz:(Sl aI).sz L≤1048576)(h:aJ aI W W.heap.size L a cap) :
 Calls Tryz.prog 139 #[.slice a L.length cap] W (jU aI L W):=by
 have hn:L.length≤1048576:=eF (Nat.le_add_right _ _) hsz
 have nI:=ak hsz
 have MZ:=ak (Mg hn h)
 clear h hsz
 go_enter Tryz.func139,Tryz.ntmps139
 go_wp2_with fail
 refine MZ.out.mono ?_
 intro e w1 h
 obtain ⟨ja,jc,xs0,rfl,hh,hb⟩:=BS h
 have HH1:=ak hh
 have HB1:=ak hb
 clear h hh hb MZ
 go_wp2
 go_loopw [10] (fun i wr=>∃ k:Nat,k≤L.length∧i=.int .i64 k∧Hid (∃ hi xs Sf,Half aI W.heap.size wr W.heap.size hi 72 (.slice ja L.length jc) L k xs Sf)∧Below W.heap.size W wr) (fun i _=>L.length-(intOf i).toNat)
 case atStart=>exact ⟨0,dV _,rfl,ak ⟨_,_,_,HH1.out⟩,HB1.out⟩
 case round=>
  obtain ⟨k,hk,rfl,HH,hB⟩:=hrel
  obtain ⟨hi,xs,Sf,hh⟩:=HH.out
  have xB:=ak hh
  have HB:=ak hB
  have hsz:=hB.size
  by_cases hlt:k<L.length
  ·skip
   obtain ⟨⟨⟨x0,x1⟩,x2,x3,x4,x5,x6,⟨x7,x8⟩,x9,x10,aS,aV,M⟩,hx⟩:=aM hlt
   have HX:=ak hx
   have HSI:=ak (aar nI.out hx)
   obtain ⟨g,rfl⟩:∃ g,ja=some ⟨g,0,none⟩:=by
    obtain ⟨h0,h1⟩:=hh.own
    rcases h1 with ⟨e,h1⟩ | ⟨g,c',cur,e,_⟩
    ·omega
    ·cases e;exact ⟨g,rfl⟩
   obtain ⟨us,hu,hr,Xn⟩:=xB.out.at_ (bK _) hx
   have hgb:=xB.out.blk g rfl
   have hgl:g<wr.heap.size:=bV hgb.2 xB.out.le
   obtain ⟨ba,bc,rfl,sP,fH⟩:=fA hr
   obtain ⟨e0,e1,e2,e3,e4,e5,e6,e7,e8,e9,e10,e11,e12,e13⟩:=kY (a:=k*14) hu rfl
   have HUS:=ak Xn
   have hi0:(0:Int)≤(k:Int):=eu _
   have hi1:(k:Int)<(L.length:Int):=by omega
   have MU:=ak fH
   have HL3:=HSI.out.1
   have HLM:=HSI.out.2
   obtain ⟨w2,hw2⟩:∃ w,w=wr.alloc (.cells #[.int .i64 x0,.int .i64 x1,.int .i64 x2,.string x3,.int .i64 x4,.int .i64 x5,.int .i64 x6,.int .i64 x7,.int .i64 x8,.int .i64 x9,.int .i64 x10,.int .i64 aS,.int .i64 aV,.slice ba M.length bc] 72):=⟨_,rfl⟩
   have hb2:Below wr.heap.size wr w2:=by rw [hw2];exact (aW _ _).alloc (bK _) _
   have iD:=ak (show aO w2 wr.heap.size 72 #[.int .i64 x0,.int .i64 x1,.int .i64 x2,.string x3,.int .i64 x4,.int .i64 x5,.int .i64 x6,.int .i64 x7,.int .i64 x8,.int .i64 x9,.int .i64 x10,.int .i64 aS,.int .i64 aV,.slice ba M.length bc] from by rw [hw2];exact aO.new _ _ _)
   have HB2:=ak hb2
   have HK2:=ak ((sP.below cK (hb2.mono hsz)).more cK (eF hsz hb2.size))
   clear hB hx hu hr hh hb2 sP fH Xn
   go_upto_region 5 with fail
   rw [←hw2]
   clear hw2
   obtain ⟨q0,q1,q2,q3,q4,q5,q6,q7,q8,q9,Mx,Mw,Mv,FR⟩:=iD.out.fF rfl
   go_wp2_with fail
   refine (Md (by simpa using HL3) (by simpa using HLM) HK2.out).mono ?_
   intro e w5 h
   obtain ⟨us5,rfl,hu5,hb5⟩:=bY h
   obtain ⟨a5,c5,T5,rfl,hT,ho,_⟩:=nP hu5
   have hbw:Below wr.heap.size wr w5:=HB2.out.trans (hb5.mono HB2.out.size)
   obtain ⟨xs',Eu,hH,hsf⟩:=xB.out.step aA HX.out HUS.out (p:=13) (by decide) rfl (u:=.slice a5 M.length c5) hbw (lQ (T0:=Rg w2.heap.size w5.heap.size) (fun q hq=>⟨eF HB2.out.size hq.1,hq.2⟩) (ho.more hT) MU.out)
   have HH5:=ak hH
   have HBN:=ak (show Below W.heap.size W (w5.setCell ⟨g,k*14+13,none⟩ (.slice a5 M.length c5)) from (HB.out.trans (hbw.mono hsz)).setCell (p:=⟨g,k*14+13,none⟩) hgb.1 _)
   have e0':w5.cell? ⟨g,k*14,none⟩=some (.int .i64 x0):=(hbw.cell (p:=⟨g,k*14,none⟩) hgl).trans e0
   have f0':=(hbw.frozen (p:=⟨g,k*14,none⟩) hgl).trans (xB.out.soft (k*14))
   have i0:=eB e0'
   have e1':w5.cell? ⟨g,k*14+1,none⟩=some (.int .i64 x1):=(hbw.cell (p:=⟨g,k*14+1,none⟩) hgl).trans e1
   have f1':=(hbw.frozen (p:=⟨g,k*14+1,none⟩) hgl).trans (xB.out.soft (k*14+1))
   have i1:=eB e1'
   have e2':w5.cell? ⟨g,k*14+2,none⟩=some (.int .i64 x2):=(hbw.cell (p:=⟨g,k*14+2,none⟩) hgl).trans e2
   have f2':=(hbw.frozen (p:=⟨g,k*14+2,none⟩) hgl).trans (xB.out.soft (k*14+2))
   have i2:=eB e2'
   have e3':w5.cell? ⟨g,k*14+3,none⟩=some (.string x3):=(hbw.cell (p:=⟨g,k*14+3,none⟩) hgl).trans e3
   have f3':=(hbw.frozen (p:=⟨g,k*14+3,none⟩) hgl).trans (xB.out.soft (k*14+3))
   have i3:=eB e3'
   have e4':w5.cell? ⟨g,k*14+4,none⟩=some (.int .i64 x4):=(hbw.cell (p:=⟨g,k*14+4,none⟩) hgl).trans e4
   have f4':=(hbw.frozen (p:=⟨g,k*14+4,none⟩) hgl).trans (xB.out.soft (k*14+4))
   have i4:=eB e4'
   have e5':w5.cell? ⟨g,k*14+5,none⟩=some (.int .i64 x5):=(hbw.cell (p:=⟨g,k*14+5,none⟩) hgl).trans e5
   have f5':=(hbw.frozen (p:=⟨g,k*14+5,none⟩) hgl).trans (xB.out.soft (k*14+5))
   have i5:=eB e5'
   have e6':w5.cell? ⟨g,k*14+6,none⟩=some (.int .i64 x6):=(hbw.cell (p:=⟨g,k*14+6,none⟩) hgl).trans e6
   have f6':=(hbw.frozen (p:=⟨g,k*14+6,none⟩) hgl).trans (xB.out.soft (k*14+6))
   have i6:=eB e6'
   have e7':w5.cell? ⟨g,k*14+7,none⟩=some (.int .i64 x7):=(hbw.cell (p:=⟨g,k*14+7,none⟩) hgl).trans e7
   have f7':=(hbw.frozen (p:=⟨g,k*14+7,none⟩) hgl).trans (xB.out.soft (k*14+7))
   have i7:=eB e7'
   have e8':w5.cell? ⟨g,k*14+8,none⟩=some (.int .i64 x8):=(hbw.cell (p:=⟨g,k*14+8,none⟩) hgl).trans e8
   have f8':=(hbw.frozen (p:=⟨g,k*14+8,none⟩) hgl).trans (xB.out.soft (k*14+8))
   have i8:=eB e8'
   have e9':w5.cell? ⟨g,k*14+9,none⟩=some (.int .i64 x9):=(hbw.cell (p:=⟨g,k*14+9,none⟩) hgl).trans e9
   have f9':=(hbw.frozen (p:=⟨g,k*14+9,none⟩) hgl).trans (xB.out.soft (k*14+9))
   have i9:=eB e9'
   have e10':w5.cell? ⟨g,k*14+10,none⟩=some (.int .i64 x10):=(hbw.cell (p:=⟨g,k*14+10,none⟩) hgl).trans e10
   have f10':=(hbw.frozen (p:=⟨g,k*14+10,none⟩) hgl).trans (xB.out.soft (k*14+10))
   have i10:=eB e10'
   have e11':w5.cell? ⟨g,k*14+11,none⟩=some (.int .i64 aS):=(hbw.cell (p:=⟨g,k*14+11,none⟩) hgl).trans e11
   have f11':=(hbw.frozen (p:=⟨g,k*14+11,none⟩) hgl).trans (xB.out.soft (k*14+11))
   have i11:=eB e11'
   have e12':w5.cell? ⟨g,k*14+12,none⟩=some (.int .i64 aV):=(hbw.cell (p:=⟨g,k*14+12,none⟩) hgl).trans e12
   have f12':=(hbw.frozen (p:=⟨g,k*14+12,none⟩) hgl).trans (xB.out.soft (k*14+12))
   have i12:=eB e12'
   have e13':w5.cell? ⟨g,k*14+13,none⟩=some (.slice ba M.length bc):=(hbw.cell (p:=⟨g,k*14+13,none⟩) hgl).trans e13
   have f13':=(hbw.frozen (p:=⟨g,k*14+13,none⟩) hgl).trans (xB.out.soft (k*14+13))
   clear e0 e1 e2 e3 e4 e5 e6 e7 e8 e9 e10 e11 e12 e13
   clear h hu5 hb5 hT ho hH hsf hbw q0 q1 q2 q3 q4 q5 q6 q7 q8 q9 Mx Mw Mv FR
   go_wp2
   go_roundw
   case rel=>
    try simp only [i0,i1,i2,i3,i4,i5,i6,i7,i8,i9,i10,i11,i12]
    exact ⟨k+1,by omega,by go_num,ak ⟨_,_,_,HH5.out⟩,HBN.out⟩
   case measure=>simp [intOf];omega
  ·have hdl:decide ((k:Int)<(L.length:Int))=false:=dS (by omega)
   obtain rfl:k=L.length:=by omega
   obtain ⟨ra,rc,hv,ho⟩:=xB.out.done.done
   have HO:=ak (show bH aI wr (Rg W.heap.size wr.heap.size) L ja jc from by cases hv;exact ho.more fun q hq=>⟨hq.1,bV hq.2 xB.out.le⟩)
   clear hB hv ho hh
   go_wp2
   go_ret
   exact ⟨ja,jc,rfl,HO.out,HB.out⟩
end
end aQ
namespace ace
section
open Go.RowKit
theorem zU:(Tryz.prog.info? 5).map (fun i=>(i.zero,i.size,i.bytes))=some (some (.int .u8 0),1,1):=by kernel_rfl
theorem zS {a b:ByteArray}(h:a=b):Ending.returned (.string a)=.returned (.string b):=by rw [h]
def bytesOf (l:List UInt8):ByteArray:=⟨l.toArray⟩
theorem yx:(Tryz.prog.info? 5).map (·.size)=some 1:=by kernel_rfl
theorem vv (w:World)(n:Int)(h0:0≤n)(h1:n≤140737488355328) :
 ∃ w1,(Instr.makeSlice 201 (.int .i64 n) (.int .i64 n)).run Tryz.prog w=.ok (.slice (some ⟨w.heap.size,0,none⟩) n.toNat n.toNat) w1 ∧
  (∃ cur:Array Value,cur.size=n.toNat∧w1.heap[w.heap.size]? = some (.cells cur 5 (0,0)))∧Below w.heap.size w w1∧w.heap.size<w1.heap.size:=by
 obtain ⟨i,hi,hz0,hz1,hz2⟩:=info_parts zU
 refine ⟨_,run_make w 201 5 i _ Tryz.underlying201 hi hz0 .i64 .i64 n n h0 (Int.le_refl _) (by rw [hz2];omega) (by omega),?_,(Below.refl _ _).alloc (Nat.le_refl _) _,?_⟩
 ·refine ⟨_,?_,heap_alloc_new _ _⟩
  rw [size_madeCells,hz1]
  omega
 ·show _<(w.heap.push _).size
  simp
theorem Br (w:World)(g o dLen dCap:Nat)(s:ByteArray)(cur:Array Value)(ty:TypeId)(hg:w.heap[g]? = some (.cells cur 5 (0,0)))(hle:s.size≤dLen)(hfit:o+s.size≤cur.size) :
 ∃ w1,(Builtin.copy_ #[201,9] ty #[.slice (some ⟨g,o,none⟩) dLen dCap,.string s]).run Tryz.prog w=.ok (goInt s.size) w1 ∧
  w1.heap[g]? = some (.cells (cur.toList.take o++Lib.byteCells s.data.toList++cur.toList.drop (o+s.size)).toArray 5 (0,0))∧Below g w w1:=
 ⟨_,Lib.run_copy_row_string w 201 9 ty 5 g o dLen dCap s cur 5 Tryz.underlying201 yx hg hle hfit,setRow_heap w g cur _ _ _ hg,below_setRow (Below.refl _ _) (Nat.le_refl _) _⟩
theorem uU {w:World}{g:Nat}{l:List UInt8}(h:w.heap[g]? = some (.cells (Lib.byteCells l).toArray 5 (0,0)))(h0:l.length≠0)(hl:l.length≤9223372036854775807) :
 (Builtin.unsafeString_ #[285,3] 9 #[.pointer (some ⟨g,0,none⟩),.int .i64 l.length]).run Tryz.prog w=.ok (.string (bytesOf l)) (w.freeze ⟨g,0,none⟩ l.length):=
 Lib.run_unsafeString_row w 285 3 9 5 Tryz.underlying285 (by kernel_rfl) g l.length (by simp [World.shape?,h,Lib.byteCells]) l (fun e=>h0 (by rw [e];rfl)) (Nat.le_refl _) hl (fun j x hj=>by
  have hlt:=(List.getElem?_eq_some_iff.1 hj).1
  have e:(⟨g,0,none⟩:Addr).add j=⟨g,j,none⟩:=by cases j <;> simp [Addr.add]
  rw [e]
  rw [List.getElem?_eq_getElem hlt] at hj
  simp at hj
  subst hj
  simp [World.cell?,h,Lib.byteCells,hlt])
theorem vD (s:ByteArray)(w:World)(hs:s.size≤8000) :
 Calls Tryz.prog 251 #[.string s] w fun e w'=>e=.returned (.string s)∧Below w.heap.size w w':=by
 by_cases h0:s.size=0
 ·have he:Hid (s=ByteArray.empty):=Lib.hid (ByteArray.ext (Array.eq_empty_of_size_eq_zero h0))
  have hb:((s.size:Int)==0)=true:=by simp [h0]
  go_enter Tryz.func251,Tryz.ntmps251
  go_wp2
  go_ret
  exact ⟨zS he.out.symm,Below.refl _ _⟩
 ·have hb:((s.size:Int)==0)=false:=by simp [h0]
  obtain ⟨w1,hmk,⟨cur,hcs,hg1⟩,hb1,hz1⟩:=vv w (s.size:Int) (by omega) (by omega)
  have hn:((s.size:Int)).toNat=s.size:=by omega
  rw [hn] at hmk hcs
  obtain ⟨w2,hc1,hg2,hb2⟩:=Br w1 w.heap.size 0 s.size s.size s cur 3 hg1 (by omega) (by omega)
  have hg3:w2.heap[w.heap.size]? = some (.cells (Lib.byteCells s.data.toList).toArray 5 (0,0)):=by
   rw [hg2]
   have e:cur.toList.drop (0+s.size) = []:=List.drop_of_length_le (by simp [hcs])
   rw [e]
   simp
  have hun:=uU hg3 (by rw [←Lib.size_eq];exact h0) (by rw [←Lib.size_eq];omega)
  rw [←Lib.size_eq,show bytesOf s.data.toList=s from ByteArray.ext (by simp [bytesOf])] at hun
  have HB:Hid (Below w.heap.size w (w2.freeze ⟨w.heap.size,0,none⟩ s.size)):=Lib.hid (Lib.below_freeze (hb1.trans hb2) (Nat.le_refl _) _)
  have hp:0<s.size:=by omega
  clear hg1 hg2 hg3 hb1 hb2 hcs hz1 hn h0
  go_enter Tryz.func251,Tryz.ntmps251
  go_wp2
  go_ret
  exact ⟨rfl,HB.out⟩
theorem yD (s:ByteArray)(w:World)(hs:s.size≤8000) :
 Calls Tryz.prog 213 #[.string s] w fun e w'=>e=.returned (.string s)∧Below w.heap.size w w':=by
 go_enter Tryz.func213,Tryz.ntmps213
 go_wp2_with fail
 refine (vD _ _ hs).mono ?_
 rintro e w1 ⟨rfl,hb1⟩
 have HB1:=Lib.hid hb1
 clear hb1
 go_wp2
 go_ret
 exact ⟨rfl,HB1.out⟩
end
end ace
namespace aQ
section
open Go.RowKit bN bO bJ bQ eO
theorem Fj {w:World}{g i:Nat}{v:Value}(h:w.cell? ⟨g,i,none⟩=some v):w.setCell ⟨g,i,none⟩ v=w:=by
 have e:(w.setCell ⟨g,i,none⟩ v).heap=w.heap:=by
  unfold World.setCell
  apply Array.ext_getElem?
  intro j
  show (Array.modify _ _ _)[j]? = _
  rw [Array.getElem?_modify]
  by_cases hj:g=j
  ·subst hj
   rw [if_pos rfl]
   unfold World.cell? at h
   cases ho:w.heap[g]? with
   | none=>rfl
   | some o=>
    rw [ho] at h
    cases o with
    | cells c t f=>
     simp at h
     simp only [Option.map_some,Option.isSome_none,Bool.false_eq_true,if_false]
     congr 2
     apply Array.ext_getElem?
     intro q
     rw [Array.getElem?_setIfInBounds]
     by_cases hq:i=q
     ·subst hq
      rw [if_pos rfl]
      have:=(Array.getElem?_eq_some_iff.1 h).1
      rw [if_pos this,h]
     ·rw [if_neg hq]
    | _=>simp at h
  ·rw [if_neg hj]
 have e2:w.setCell ⟨g,i,none⟩ v={ w with heap:=(w.setCell ⟨g,i,none⟩ v).heap }:=rfl
 rw [e2,e]
theorem lq.row {w:World}{lo:Nat}{v:Value}{L:List bI}(h:lq w lo v L):∃ a c,v=.slice a L.length c∧∀ i x0 x1 x2 x3,L[i]? = some ((x0,x1),x2,x3)→∃ g,a=some ⟨g,0,none⟩∧g<w.heap.size∧(∀ j,w.frozen? ⟨g,j,none⟩=false)∧x2.size≤maxLen ∧
 w.cell? ⟨g,i*4,none⟩=some (.int .i64 x0)∧w.cell? ⟨g,i*4+1,none⟩=some (.int .i64 x1)∧w.cell? ⟨g,i*4+2,none⟩=some (.string x2)∧w.cell? ⟨g,i*4+3,none⟩=some (.int .i64 x3):=by
 obtain ⟨xs,hi,h0,h1⟩:=h
 obtain ⟨a,c,rfl,h2,h3,h4⟩:=h1.done
 refine ⟨a,c,rfl,fun i x0 x1 x2 x3 hx=>?_⟩
 obtain ⟨g,Sf,rfl,hg,hf,_,_,hel⟩:=h4 (Nat.lt_of_le_of_lt (dV i) (List.getElem?_eq_some_iff.1 hx).1)
 obtain ⟨us,hu,ho⟩:=hel i _ hx
 obtain ⟨rfl,hb⟩:=ES ho
 refine ⟨g,rfl,bV hg.2 h1.le,hf,hb,?_,?_,?_,?_⟩
 ·simpa [dK,Nat.add_assoc] using hu 0 _ rfl
 ·simpa [dK,Nat.add_assoc] using hu 1 _ rfl
 ·simpa [dK,Nat.add_assoc] using hu 2 _ rfl
 ·simpa [dK,Nat.add_assoc] using hu 3 _ rfl
theorem Ju {L:List bI}{a:Option Addr}{cap:Nat}{W:World}(hn:L.length≤1048576)(hs:∀ x∈L,x.2.1.size≤1048576)(h:aJ bC W W.heap.size L a cap) :
 Calls Tryz.prog 140 #[.slice a L.length cap] W (jU bC L W):=by
 have HC:=ak (RJ (by omega) h)
 have HS:=ak hs
 clear hs h
 go_enter Tryz.func140,Tryz.ntmps140
 go_wp2_with fail
 refine HC.out.mono ?_
 rintro e w1 ⟨v,rfl,hv,hb⟩
 have HV:=ak hv
 have HB:=ak hb
 obtain ⟨b,c,rfl,hrow⟩:=hv.row
 have HR:=ak hrow
 clear hv hb hrow
 go_wp2_with fail
 go_loopw [10] (fun i wr=>∃ k:Nat,k≤L.length∧i=.int .i64 k∧Below w1.heap.size w1 wr) (fun i _=>L.length-(intOf i).toNat)
 case atStart=>exact ⟨0,dV _,rfl,aW _ _⟩
 case round=>
  obtain ⟨k,hk,rfl,hB⟩:=hrel
  obtain ⟨wo,rfl⟩:∃ x,x=wr:=⟨_,rfl⟩
  have yF:=ak hB
  have hsz:=hB.size
  by_cases hlt:k<L.length
  ·skip
   obtain ⟨⟨⟨x0,x1⟩,x2,x3⟩,hx⟩:=aM hlt
   obtain ⟨g,rfl,hg,hf,oF,f0,f1,f2,f3⟩:=HR.out k _ _ _ _ hx
   have H8:=ak (HS.out _ (List.mem_of_getElem? hx))
   have e0:=(hB.cell (p:=⟨g,k*4,none⟩) hg).trans f0
   have e1:=(hB.cell (p:=⟨g,k*4+1,none⟩) hg).trans f1
   have e2:=(hB.cell (p:=⟨g,k*4+2,none⟩) hg).trans f2
   have e3:=(hB.cell (p:=⟨g,k*4+3,none⟩) hg).trans f3
   have hi0:(0:Int)≤(k:Int):=eu _
   have hi1:(k:Int)<(L.length:Int):=by omega
   have Xx:=ak f2
   have HFF:=ak hf
   obtain ⟨w2,hw2⟩:∃ w,w=wo.alloc (.cells #[.int .i64 x0,.int .i64 x1,.string x2,.int .i64 x3] 128):=⟨_,rfl⟩
   have iE:Below wo.heap.size wo w2:=by rw [hw2];exact (aW _ _).alloc (bK _) _
   have HB2:=ak (hB.trans (iE.mono hsz))
   clear hx oF f0 f1 f2 f3 hB hf iE
   go_wp2_with fail
   rw [←hw2]
   clear hw2 e0 e1 e2 e3
   refine (KH.yD x2 _ H8.out).mono ?_
   rintro e w3 ⟨rfl,hb3⟩
   have HB3:=ak (HB2.out.trans (hb3.mono HB2.out.size))
   have e2:=(HB3.out.cell (p:=⟨g,k*4+2,none⟩) hg).trans Xx.out
   have ef:=(HB3.out.frozen (p:=⟨g,k*4+2,none⟩) hg).trans (HFF.out _)
   have HSM:=ak (Fj e2)
   clear hb3
   go_wp2
   go_roundw
   case rel=>exact ⟨k+1,by omega,by go_num,by first | exact HB3.out | (rw [HSM.out];exact HB3.out)⟩
   case measure=>simp [intOf];omega
  ·have hdl:decide ((k:Int)<(L.length:Int))=false:=dS (by omega)
   clear hB
   go_wp2
   go_ret
   exact (HV.out.call yF.out).news (bK _) (HB.out.trans (yF.out.mono HB.out.size))
end
section
open Go.RowKit bN bO bJ bQ
structure FX (lo:Nat)(w:World)(g:Nat)(y:dF)(ca pa qa na ta ua:Option Addr)(cc pc qc nc tc uc c0 c1 n0 n1 t0 t1 u0 u1:Nat):Prop where
 apart:lo≤g∧g<w.heap.size∧lo≤c0∧lo≤n0∧lo≤t0∧lo≤u0∧c1≤w.heap.size∧n1≤w.heap.size∧t1≤w.heap.size∧u1≤w.heap.size∧(c1≤n0∨n1≤c0)∧(c1≤t0∨t1≤c0)∧(c1≤u0∨u1≤c0)∧(n1≤t0∨t1≤n0)∧(n1≤u0∨u1≤n0)∧(t1≤u0∨u1≤t0)∧(c1≤g∨g<c0)∧(n1≤g∨g<n0)∧(t1≤g∨g<t0)∧(u1≤g∨g<u0)
 cfg:cu.ow w (Rg c0 c1) y.1 [.slice ca y.1.1.length cc,.slice pa y.1.2.1.length pc,.slice qa y.1.2.2.1.length qc,.int .i64 y.1.2.2.2]
 nds:bH aL w (Rg n0 n1) y.2.1 na nc
 JH:bH aI w (Rg t0 t1) y.2.2.1 ta tc
 use:bH bC w (Rg u0 u1) y.2.2.2.1 ua uc
def Ph (lo:Nat)(w:World)(g:Nat)(y:dF)(id:Int):Prop:=∃ (ca pa qa na ta ua:Option Addr)(cc pc qc nc tc uc c0 c1 n0 n1 t0 t1 u0 u1:Nat),
 aO w g 133 #[.slice ca y.1.1.length cc,.slice pa y.1.2.1.length pc,.slice qa y.1.2.2.1.length qc,.int .i64 y.1.2.2.2,.slice na y.2.1.length nc,.slice ta y.2.2.1.length tc,.slice ua y.2.2.2.1.length uc,.int .i64 y.2.2.2.2,.int .i64 id]∧FX lo w g y ca pa qa na ta ua cc pc qc nc tc uc c0 c1 n0 n1 t0 t1 u0 u1
theorem FX.call {lo g:Nat}{w w':World}{y:dF}{ca pa qa na ta ua:Option Addr}{cc pc qc nc tc uc c0 c1 n0 n1 t0 t1 u0 u1:Nat}(h:FX lo w g y ca pa qa na ta ua cc pc qc nc tc uc c0 c1 n0 n1 t0 t1 u0 u1)(hb:Below w.heap.size w w'):FX lo w' g y ca pa qa na ta ua cc pc qc nc tc uc c0 c1 n0 n1 t0 t1 u0 u1:=by
 have hd:=h.apart
 have hs:=hb.size
 have hk:∀ a b:Nat,b≤w.heap.size→∀ q,Rg a b q→w'.heap[q]? = w.heap[q]?:=fun a b hb2 q hq=>hb.block q (bV hq.2 hb2)
 exact ⟨by omega,bX.bT h.cfg (hk _ _ (by omega)),h.nds.keep aK (hk _ _ (by omega)),h.JH.keep aA (hk _ _ (by omega)),h.use.keep aU (hk _ _ (by omega))⟩
theorem Ph.call {lo g:Nat}{w w':World}{y:dF}{id:Int}(h:Ph lo w g y id)(hb:Below w.heap.size w w'):Ph lo w' g y id:=by
 obtain ⟨ca,pa,qa,na,ta,ua,cc,pc,qc,nc,tc,uc,c0,c1,n0,n1,t0,t1,u0,u1,h1,h2⟩:=h
 exact ⟨ca,pa,qa,na,ta,ua,cc,pc,qc,nc,tc,uc,c0,c1,n0,n1,t0,t1,u0,u1,h1.call hb,h2.call hb⟩
theorem FX.off {lo g:Nat}{w w':World}{y:dF}{ca pa qa na ta ua:Option Addr}{cc pc qc nc tc uc c0 c1 n0 n1 t0 t1 u0 u1:Nat}(h:FX lo w g y ca pa qa na ta ua cc pc qc nc tc uc c0 c1 n0 n1 t0 t1 u0 u1)(ho:Off (fun x=>x=g) w w'):FX lo w' g y ca pa qa na ta ua cc pc qc nc tc uc c0 c1 n0 n1 t0 t1 u0 u1:=by
 have hd:=h.apart
 have hs:=ho.size
 have hk:∀ a b:Nat,b≤w.heap.size→(b≤g∨g<a)→∀ q,Rg a b q→w'.heap[q]? = w.heap[q]?:=fun a b hb2 h2 q hq=>ho.block q (bV hq.2 hb2) (by have h3:=hq.1;have h4:=hq.2;omega)
 exact ⟨by omega,bX.bT h.cfg (hk _ _ (by omega) (by omega)),h.nds.keep aK (hk _ _ (by omega) (by omega)),h.JH.keep aA (hk _ _ (by omega) (by omega)),h.use.keep aU (hk _ _ (by omega) (by omega))⟩
theorem FX.out {lo g:Nat}{W w w':World}{y:dF}{ca pa qa na ta ua:Option Addr}{cc pc qc nc tc uc c0 c1 n0 n1 t0 t1 u0 u1 b:Nat}(h:FX lo w g y ca pa qa na ta ua cc pc qc nc tc uc c0 c1 n0 n1 t0 t1 u0 u1)(hlo:W.heap.size≤lo)(hbl:b<lo)(ho:Off (fun x=>x=b) w w') :
 bW.ow w' (Rg W.heap.size w'.heap.size) y ([.slice ca y.1.1.length cc,.slice pa y.1.2.1.length pc,.slice qa y.1.2.2.1.length qc,.int .i64 y.1.2.2.2]++[.slice na y.2.1.length nc,.slice ta y.2.2.1.length tc,.slice ua y.2.2.2.1.length uc,.int .i64 y.2.2.2.2]):=by
 have hd:=h.apart
 have hs:=ho.size
 have hk:∀ x z:Nat,b<x→z≤w.heap.size→∀ q,Rg x z q→w'.heap[q]? = w.heap[q]?:=fun x z h1 h2 q hq=>ho.block q (bV hq.2 h2) (by have:=hq.1;omega)
 obtain ⟨⟨C,P,Q,hf⟩,N,T,U,now⟩:=y
 refine EU (SC:=Rg c0 c1) (SN:=Rg n0 n1) (ST:=Rg t0 t1) (SU:=Rg u0 u1) ?_ ?_ ?_ ?_ ?_ ?_ ?_ ?_ ?_ ?_ (bX.bT h.cfg (hk _ _ (by omega) (by omega))) (h.nds.keep aK (hk _ _ (by omega) (by omega))) (h.JH.keep aA (hk _ _ (by omega) (by omega))) (h.use.keep aU (hk _ _ (by omega) (by omega)))
 all_goals first | (intro k h;exact ⟨by have:=h.1;omega,by have:=h.2;omega⟩) | (intro k h h';have h1:=h.1;have h2:=h.2;have h3:=h'.1;have h4:=h'.2;omega)
def WkR (W:World)(y:dF)(e:Ending)(w':World):Prop:=∃ g,e=.returned (.pointer (some ⟨g,0,none⟩))∧Ph (W.heap.size+1) w' g y 0∧Below W.heap.size W w'
theorem Vr {W:World}{y:dF}{e:Ending}{w':World}(h:WkR W y e w'):∃ g,e=.returned (.pointer (some ⟨g,0,none⟩))∧Ph (W.heap.size+1) w' g y 0∧Below W.heap.size W w':=h
theorem IV {C:List (List ay)}{P:List bA}{Q:List aX}{hf:Int}{ca pa qa:Option Addr}{cc pc qc:Nat}{N:List aP}{T:List aF}{U:List bI}{now:Int}{na ta ua:Option Addr}{nc tc uc:Nat}{W:World}(hY:iq ((C,P,Q,hf),N,T,U,now))(hq:Q.length≤1048576)(hts:(Sl aI).sz T≤1048576)(hC:aJ (Sl av) W W.heap.size C ca cc)(hP:aJ aT W W.heap.size P pa pc)(hQ:aJ aN W W.heap.size Q qa qc)(hN:aJ aL W W.heap.size N na nc)(hT:aJ aI W W.heap.size T ta tc)(hU:aJ bC W W.heap.size U ua uc) :
 Calls Tryz.prog 77 #[.agg #[.slice ca C.length cc,.slice pa P.length pc,.slice qa Q.length qc,.int .i64 hf,.slice na N.length nc,.slice ta T.length tc,.slice ua U.length uc,.int .i64 now]] W (WkR W ((C,P,Q,hf),N,T,U,now)):=by
 obtain ⟨_,hR,hNR,hNC,_,hUR,_⟩:=hY
 have HRR:=ak hR
 have hNl:=lJ hNR
 have h0N:0<N.length:=by have:=hR.1.1;omega
 have Xn:∀ x∈U,x.2.1.size≤1048576:=fun x hx=>by
  obtain ⟨i,hi⟩:=List.mem_iff_getElem?.1 hx
  have h:=(hUR.2 i x hi).1.2.1.2.1
  omega
 have RV:U.length≤1048576:=by have:=hUR.1;omega
 have JU:=ak hC
 have FM:=ak hP
 have JQ:=ak hQ
 have JR:=ak hN
 have MW:=ak hT
 have MV:=ak hU
 clear hR hNR hNC hUR hC hP hQ hN hT hU
 obtain ⟨w0,hw0⟩:∃ w,w=W.alloc (.cells #[.slice ca C.length cc,.slice pa P.length pc,.slice qa Q.length qc,.int .i64 hf,.slice na N.length nc,.slice ta T.length tc,.slice ua U.length uc,.int .i64 now] 44):=⟨_,rfl⟩
 have hb0:Below W.heap.size W w0:=by rw [hw0];exact (aW _ _).alloc (bK _) _
 have kW:aO w0 (W.heap.size) 44 #[.slice ca C.length cc,.slice pa P.length pc,.slice qa Q.length qc,.int .i64 hf,.slice na N.length nc,.slice ta T.length tc,.slice ua U.length uc,.int .i64 now]:=by
  have h9:=aO.new W 44 #[.slice ca C.length cc,.slice pa P.length pc,.slice qa Q.length qc,.int .i64 hf,.slice na N.length nc,.slice ta T.length tc,.slice ua U.length uc,.int .i64 now]
  try simp only [World.size_alloc] at h9
  rw [hw0];exact h9
 have X0:=ak kW
 have HB0:=ak hb0
 have hz0:=hb0.size
 clear hb0  kW
 have hs0:w0.heap.size=W.heap.size+1:=by rw [hw0];simp
 go_enter Tryz.func77,Tryz.ntmps77
 go_upto_region 1 with fail
 rw [←hw0]
 clear hw0
 refine dX (S:=(fun V=>Below W.heap.size W V∧aO V W.heap.size 44 #[.slice ca C.length cc,.slice pa P.length pc,.slice qa Q.length qc,.int .i64 hf,.slice na N.length nc,.slice ta T.length tc,.slice ua U.length uc,.int .i64 now])) (by kernel_rfl) (⟨HB0.out.drew,X0.out.call (aW _ w0).drew⟩) (fun ah=>?_)
 refine tk 0 ah ?_
 refine tk 1 ah ?_ (hy:=fun w aj=>by (try dsimp only at aj);have k0:=aj.2.at_ 0 rfl;have k1:=aj.2.at_ 1 rfl;have k2:=aj.2.at_ 2 rfl;have k3:=aj.2.at_ 3 rfl;clear aj;go_simp;try with_reducible rfl)
 refine tk 3 ah ?_
 refine tk 4 ah ?_ (hy:=fun w aj=>by (try dsimp only at aj);have k0:=aj.2.at_ 4 rfl;clear aj;go_simp;try with_reducible rfl)
 refine tk 6 ah ?_
 refine tk 7 ah ?_ (hy:=fun w aj=>by (try dsimp only at aj);have k0:=aj.2.at_ 5 rfl;clear aj;go_simp;try with_reducible rfl)
 refine tk 9 ah ?_
 refine tk 10 ah ?_ (hy:=fun w aj=>by (try dsimp only at aj);have k0:=aj.2.at_ 6 rfl;clear aj;go_simp;try with_reducible rfl)
 refine tk 12 ah ?_
 refine tk 13 ah ?_ (hy:=fun w aj=>by (try dsimp only at aj);have k0:=aj.2.at_ 7 rfl;clear aj;go_simp;try with_reducible rfl)
 refine dw 2 (fun K hK=>?_)
 go_simp
 go_at_call 137
 refine (Jv HRR.out hq (aD (aZ au) JU.out ah.1) (aD aG FM.out ah.1) (aD aC JQ.out ah.1)).mono ?_
 intro e w1 h
 obtain ⟨us,rfl,ho,hb⟩:=bY h
 have ho2:=ho
 obtain ⟨qF,cc',pa',pc',nH,nG,_,_,_,rfl,_⟩:=sj ho2
 have oK:=ak (show cu.ow w1 (Rg w0.heap.size w1.heap.size) (C,P,Q,hf) [.slice qF C.length cc',.slice pa' P.length pc',.slice nH Q.length nG,.int .i64 hf] from ho)
 clear ho ho2
 have hb:Below w0.heap.size w0 w1:=(aW _ w0).drew.trans hb
 have hz1:w0.heap.size≤w1.heap.size:=hb.size
 refine hK.out _ _ ⟨HB0.out.trans (hb.mono HB0.out.size),X0.out.call hb⟩ (fun ah=>?_)
 clear hK K h hb
 refine dw 5 (fun K hK=>?_)
 go_simp
 go_at_call 138
 refine (za hNl.1 h0N hNl.2 (aD aK JR.out ah.1)).mono ?_
 intro e w2 h
 obtain ⟨na',xu,rfl,ho,hb⟩:=bL h
 have rO:=ak (show bH aL w2 (Rg w1.heap.size w2.heap.size) N na' xu from ho)
 clear ho
 have hb:Below w1.heap.size w1 w2:=hb
 have oK:=ak (bX.bT oK.out (fun q hq=>hb.block q (by have:=hq.2;omega)))
 have hz2:w1.heap.size≤w2.heap.size:=hb.size
 refine hK.out _ _ ⟨ah.1.trans (hb.mono ah.1.size),ah.2.call hb⟩ (fun ah=>?_)
 clear hK K h hb
 refine dw 8 (fun K hK=>?_)
 go_simp
 go_at_call 139
 refine (Jt hts (aD aA MW.out ah.1)).mono ?_
 intro e w3 h
 obtain ⟨oo,mZ,rfl,ho,hb⟩:=bL h
 have CB:=ak (show bH aI w3 (Rg w2.heap.size w3.heap.size) T oo mZ from ho)
 clear ho
 have hb:Below w2.heap.size w2 w3:=hb
 have oK:=ak (bX.bT oK.out (fun q hq=>hb.block q (by have:=hq.2;omega)))
 have rO:=ak (rO.out.keep aK (fun q hq=>hb.block q (by have:=hq.2;omega)))
 have hz3:w2.heap.size≤w3.heap.size:=hb.size
 refine hK.out _ _ ⟨ah.1.trans (hb.mono ah.1.size),ah.2.call hb⟩ (fun ah=>?_)
 clear hK K h hb
 refine dw 11 (fun K hK=>?_)
 go_simp
 go_at_call 140
 refine (Ju RV Xn (aD aU MV.out ah.1)).mono ?_
 intro e w4 h
 obtain ⟨qE,qD,rfl,ho,hb⟩:=bL h
 have HOU:=ak (show bH bC w4 (Rg w3.heap.size w4.heap.size) U qE qD from ho)
 clear ho
 have hb:Below w3.heap.size w3 w4:=hb
 have oK:=ak (bX.bT oK.out (fun q hq=>hb.block q (by have:=hq.2;omega)))
 have rO:=ak (rO.out.keep aK (fun q hq=>hb.block q (by have:=hq.2;omega)))
 have CB:=ak (CB.out.keep aA (fun q hq=>hb.block q (by have:=hq.2;omega)))
 have lW:w3.heap.size≤w4.heap.size:=hb.size
 refine hK.out _ _ ⟨ah.1.trans (hb.mono ah.1.size),ah.2.call hb⟩ (fun ah=>?_)
 clear hK K h hb
 refine tk 14 ah ?_
 refine tk 15 ah ?_
 refine dw 16 (fun K hK=>?_)
 go_simp
 refine hK.out _ _ ⟨ah.1.alloc ah.1.size _,ah.2.alloc _⟩ (fun ah=>?_)
 clear hK K
 refine tk 17 ah ?_
 refine dQ ?_
 have uK:=ak ah.1
 clear ah
 go_wp2
 go_ret
 have hb5:Below w4.heap.size w4 (w4.alloc (.cells #[.slice qF C.length cc',.slice pa' P.length pc',.slice nH Q.length nG,.int .i64 hf,.slice na' N.length xu,.slice oo T.length mZ,.slice qE U.length qD,.int .i64 now,.int .i64 0] 133)):=(aW _ _).alloc (bK _) _
 have hk:∀ a b:Nat,b≤w4.heap.size→∀ q,Rg a b q→(w4.alloc (.cells #[.slice qF C.length cc',.slice pa' P.length pc',.slice nH Q.length nG,.int .i64 hf,.slice na' N.length xu,.slice oo T.length mZ,.slice qE U.length qD,.int .i64 now,.int .i64 0] 133)).heap[q]? = w4.heap[q]?:=fun a b hb2 q hq=>hb5.block q (bV hq.2 hb2)
 have uI:(w4.alloc (.cells #[.slice qF C.length cc',.slice pa' P.length pc',.slice nH Q.length nG,.int .i64 hf,.slice na' N.length xu,.slice oo T.length mZ,.slice qE U.length qD,.int .i64 now,.int .i64 0] 133)).heap.size=w4.heap.size+1:=by simp
 exact ⟨w4.heap.size,rfl,⟨qF,pa',nH,na',oo,qE,cc',pc',nG,xu,mZ,qD,w0.heap.size,w1.heap.size,w1.heap.size,w2.heap.size,w2.heap.size,w3.heap.size,w3.heap.size,w4.heap.size,aO.new _ _ _,⟨by omega,bX.bT oK.out (hk _ _ (by omega)),rO.out.keep aK (hk _ _ (by omega)),CB.out.keep aA (hk _ _ (by omega)),HOU.out.keep aU (hk _ _ (by omega))⟩⟩,uK.out⟩
end
end aQ
end Go.Proofs.YtlhfiapfncikdaaGreatDoor
