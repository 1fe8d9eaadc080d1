/- Parts of the proof: see the last text. -/
import Derived.Laws.IdiomStrings
import Derived.Test.YtgnlokmeohffaaaGreatDoorG9
namespace Go.Proofs.YtgnlokmeohffaaaGreatDoor
set_option maxRecDepth 100000
set_option maxHeartbeats 3200000
open Option renaming none → aC, some → aE
open Go renaming IntKind.i64 → aF, Value → aG, Value.int → aH, Value.string → aI, Value.slice → aJ, Value.pointer → aK, Ending.returned → aM, Obj.cells → aU, World → aY, Value.tuple → bC, Value.bool → bB, Calls → bH, Value.agg → bM, Value.iface → bO, World.grownBy_alloc → bU
open Go.Proofs.Tryz renaming prog → aQ
open Bool renaming false → aV, true → aX
open Go.RowKit renaming Below → bA, Below.refl → bF
open Nat renaming le_refl → bD, zero_le → bZ, le_of_lt → cN, zero_add → dC
open List renaming getElem?_eq_some_iff → bI, getElem?_eq_getElem → bL, length_append → bN, getElem?_append_right → bP, getElem?_append_left → bT, mem_of_getElem? → cG, getElem?_map → cI, length_cons → cX, length_map → dO, length_take → dH, length_eq_zero_iff → dU, getElem?_eq_none → dZ, take_of_length_le → eB
open And renaming intro → bK
open Tryz
open Go.RowKit
section
attribute [local go_sem ↓] Go.wp_at_zero Go.wp_at_succ
def uC (l:List UInt8):Bool:=l.all N.oW&&(decide (l.length<=12)&&!(L.number l).isSome)
def ic:aG->Int
 |aH _ n=>n
 |_=>0
theorem CH (s:ByteArray)(w:aY)(hs:s.size<=1000)(h0:s.data.toList≠[]):
 bH aQ 123 #[aI s] w λe w' =>e=aM (bB (uC s.data.toList))/\w' =w:=by
 have HS:=bE (Lib.size_eq s);have hl:s.toList=s.data.toList:=Go.ByteArray.toList_eq s;have jD:(s.toList==[])=aV:=by rw[hl,beq_eq_false_iff_ne];exact h0
 have HL:=bE hl;by_cases NH:12<s.size
 ·have hr:uC s.data.toList=aV:=by
   unfold uC;have:=Lib.size_eq s;have:decide (s.data.toList.length<=12)=aV:=by rw[decide_eq_false_iff_not];omega
   rw[this];simp
  rw[hr];have k1:(12:Int)<(s.size:Int):=by omega
  clear hl h0;go_enter func123,ntmps123;go_wp2;go_ret;exact⟨rfl,rfl⟩
 ·have k1:¬(12:Int)<(s.size:Int):=by omega
  clear hl h0;go_enter func123,ntmps123;go_wp2
  go_loop [15] (λi=>∃k:Nat,k<=s.size/\i=aH aF k/\(s.data.toList.take k).all N.oW=aX) (λi=>s.size-(ic i).toNat)
  case atStart=>exact⟨0,bZ _,rfl,rfl⟩
  case round=>
   obtain⟨k,hk,rfl,kA⟩:=hrel;by_cases eQ:k<s.size
   ·have Et:=Wa s k eQ;have Jm:((s[k].toNat:Int)<33\/126<(s[k].toNat:Int))->uC s.data.toList=aV:=λhx=>by
     have h1:s.data.toList.all N.oW=aV:=by
      refine Lr (k:=k+1) ?_;rw[Et,List.all_append,kA];have:N.oW s[k]=aV:=by
       unfold N.oW;rw[Bool.and_eq_false_iff,decide_eq_false_iff_not,decide_eq_false_iff_not];omega
      simp[this]
     unfold uC;rw[h1];rfl
    have uS:(33<=(s[k].toNat:Int)/\(s[k].toNat:Int)<=126)->(s.data.toList.take (k+1)).all N.oW=aX:=λhx=>by
     rw[Et,List.all_append,kA];have:N.oW s[k]=aX:=by
      unfold N.oW;rw[Bool.and_eq_true,decide_eq_true_eq,decide_eq_true_eq];omega
     simp[this]
    have Np:=bE Jm;have Cb:=bE uS;clear kA Et Jm uS;go_wp2;all_goals first
     |(go_ret;exact⟨mD (aN Np (by omega)).symm,rfl⟩)
     |exact⟨⟨k+1,by omega,by go_num,aN Cb (by omega)⟩,by simp[ic];omega⟩
   ·have r4:s.data.toList.take k=s.data.toList:=eB (by rw[<-aN HS];omega);rw[r4] at kA;have Lc:uC s.data.toList=!(L.number s.data.toList).isSome:=by
     unfold uC;have:decide (s.data.toList.length<=12)=aX:=by rw[decide_eq_true_eq,<-aN HS];omega
     rw[kA,this];simp
    have Hfin:=bE Lc;clear kA r4 Lc;go_wp2_with fail
    refine(Gj s _).mono ?_;rintro e w1 ⟨rfl,rfl⟩;go_wp2;go_ret;exact⟨mD (by rw[aN Hfin];cases L.number s.data.toList <;> rfl),rfl⟩
theorem V0 (w:aY)(rb n iD pos q:Nat)(aW:Option Addr)(hn:n<=500)(hq:pos+1=q)(hp:q=n)(c1:w.cell? ⟨rb,1,aC⟩=aE (aJ aW n iD))(c2:w.cell? ⟨rb,2,aC⟩=aE (aH aF pos)):
 bH aQ 109 #[aK (aE ⟨rb,0,aC⟩)] w λr w' =>r=aM (aH aF 4)/\bA w.heap.size w w' :=by
 have i0:aF.wrap ((pos:Int)+1)=(q:Int):=wj;have i3:((q:Int)==(n:Int))=aX:=by rw[beq_iff_eq];omega
 clear hp hq;go_enter func109,ntmps109;go_wp2
 go_quiet (fail)
 go_wp2;go_ret;exact⟨rfl,lB (bF _ _) _⟩
theorem I3 (w:aY)(mb rb n iD pos q gW k cO:Nat)(aO:Option Addr)(t:ByteArray)(nb bb:Bool)(code:Int)(hn:n<=500)(hq:pos+1=q)(hp:q<n)(c0:w.cell? ⟨rb,0,aC⟩=aE (aK (aE ⟨mb,0,aC⟩)))(c1:w.cell? ⟨rb,1,aC⟩=aE (aJ (aE ⟨gW,0,aC⟩) n iD))(c2:w.cell? ⟨rb,2,aC⟩=aE (aH aF pos))(c3:w.cell? ⟨gW,q,aC⟩=aE (aI t))(m2:w.cell? ⟨mb,2,aC⟩=aE (aJ aO k cO))(HN:Hid (∀W,bH aQ 123 #[aI t] W λe w' =>e=aM (bB nb)/\w' =W))(HB:Hid (∀W,bH aQ 68 #[aI t] W λe w' =>e=aM (bB bb)/\w' =W))(zN:code=if nb=aV\/bb=aX then 4 else if k=40 then 5 else 0):
 bH aQ 109 #[aK (aE ⟨rb,0,aC⟩)] w λr w' =>r=aM (aH aF code)/\bA w.heap.size w w' :=by
 have i0:aF.wrap ((pos:Int)+1)=(q:Int):=wj;have i1:(0:Int)<=(q:Int):=by omega
 have i2:(q:Int)<(n:Int):=by omega
 have i3:((q:Int)==(n:Int))=aV:=by rw[beq_eq_false_iff_ne];omega
 clear hq hp;cases nb with
 |false=>
  rw[eJ (.inl rfl)] at zN;subst zN;go_enter func109,ntmps109;go_wp2
  go_quiet (fail)
  go_wp2
  go_quiet (fail)
  go_wp2_with fail
  refine(aN HN _).mono ?_;rintro e w1 ⟨rfl,rfl⟩;go_wp2;go_ret;exact⟨rfl,lB (bF _ _) _⟩
 |true=>
  cases bb with
  |true=>
   rw[eJ (.inr rfl)] at zN;subst zN;go_enter func109,ntmps109;go_wp2
   go_quiet (fail)
   go_wp2
   go_quiet (fail)
   go_wp2_with fail
   refine(aN HN _).mono ?_;rintro e w1 ⟨rfl,rfl⟩;go_wp2_with fail
   refine(aN HB _).mono ?_;rintro e w1 ⟨rfl,rfl⟩;go_wp2;go_ret;exact⟨rfl,lB (bF _ _) _⟩
  |false=>
   rw[dL (by simp)] at zN;by_cases hk:k=40
   ·rw[eJ hk] at zN;subst zN;have k1:((k:Int)==40)=aX:=by rw[beq_iff_eq];omega
    clear hk;go_enter func109,ntmps109;go_wp2
    go_quiet (fail)
    go_wp2
    go_quiet (fail)
    go_wp2_with fail
    refine(aN HN _).mono ?_;rintro e w1 ⟨rfl,rfl⟩;go_wp2_with fail
    refine(aN HB _).mono ?_;rintro e w1 ⟨rfl,rfl⟩;go_wp2;go_ret;exact⟨rfl,lB (bF _ _) _⟩
   ·rw[dL hk] at zN;subst zN;have k1:((k:Int)==40)=aV:=by rw[beq_eq_false_iff_ne];omega
    clear hk;go_enter func109,ntmps109;go_wp2
    go_quiet (fail)
    go_wp2
    go_quiet (fail)
    go_wp2_with fail
    refine(aN HN _).mono ?_;rintro e w1 ⟨rfl,rfl⟩;go_wp2_with fail
    refine(aN HB _).mono ?_;rintro e w1 ⟨rfl,rfl⟩;go_wp2;go_ret;exact⟨rfl,lB (bF _ _) _⟩
theorem F4 (w:aY)(mb:Nat)(t:ByteArray)(nb:Nat)(ht:t.size<=1000)(Fx:nb<=1000000000000)(c3:w.cell? ⟨mb,3,aC⟩=aE (aH aF nb))(f3:w.frozen? ⟨mb,3,aC⟩=aV):
 bH aQ 124 #[aK (aE ⟨mb,0,aC⟩),aI t] w λr w' =>r=aM (bM #[aI t,aH aF (1000+(nb:Int))])/\bA w.heap.size (w.setCell ⟨mb,3,aC⟩ (aH aF ((nb:Int)+1))) w' :=by
 have i0:=wi (1000+(nb:Int));have i1:=wi ((nb:Int)+1);have z3:mb<w.heap.size:=eG c3;have d3:=bJ c3 (aU #[aI ⟨#[]⟩,aH aF 0] 127);have g3:(w.alloc (aU #[aI ⟨#[]⟩,aH aF 0] 127)).frozen? ⟨mb,3,aC⟩=aV:=cY (bU _ _ aC) c3 f3 (by simp);have SN:=bE (λW=>wP W t (by omega));clear ht Fx;go_enter func124,ntmps124;go_wp2_with fail
 refine(aN SN _).mono ?_;rintro e w2 ⟨rfl,hb⟩;have NP:(w.setCell ⟨mb,3,aC⟩ (aH aF ((nb:Int)+1))).heap.size=w.heap.size:=by simp[aY.setCell]
 have eY:((w.setCell ⟨mb,3,aC⟩ (aH aF ((nb:Int)+1))).alloc (aU #[aI ⟨#[]⟩,aH aF 0] 127)).heap[w.heap.size]?=aE (aU #[aI ⟨#[]⟩,aH aF 0] 127):=by
  rw[<-NP];exact heap_alloc_new _ _
 have hsz:w.heap.size<((w.setCell ⟨mb,3,aC⟩ (aH aF ((nb:Int)+1))).alloc (aU #[aI ⟨#[]⟩,aH aF 0] 127)).heap.size:=cC eY;have eD:=(hb.block _ hsz).trans eY;have b0:=cq 0 eD rfl;have b1:=cq 1 eD rfl;have y0:=bG 0 eD;have y1:=bG 1 eD;have HB:=bE hb;have Hsz:=bE hsz;clear hb eY eD hsz;go_wp2;refine bodyPost_ret (v:=bM #[aI t,aH aF (1000+(nb:Int))]) (by simp[results,results124,go_sem,b0,b1]) rfl ⟨rfl,?_⟩;have hb:=aN HB;have hA:bA w.heap.size (w.setCell ⟨mb,3,aC⟩ (aH aF ((nb:Int)+1))) ((w.setCell ⟨mb,3,aC⟩ (aH aF ((nb:Int)+1))).alloc (aU #[aI ⟨#[]⟩,aH aF 0] 127)):=(bF _ _).alloc (by rw[NP];exact bD _) _;have hB2:=hA.trans (hb.mono (cN (aN Hsz)));exact(hB2.setCell (bD _) _).setCell (bD _) _
theorem WR:∃i,(aQ).info? 62=aE i/\i.zero=aE .nilIface/\i.size=1/\i.bytes=16:=nE (by kernel_rfl)
theorem LD (w:aY)(mb rb k cO:Nat)(aO:Option Addr)(xs:List aG)(T:TypeId)(v:aG)(hk:k<=40)(c0:w.cell? ⟨rb,0,aC⟩=aE (aK (aE ⟨mb,0,aC⟩)))(m2:w.cell? ⟨mb,2,aC⟩=aE (aJ aO k cO))(f2:w.frozen? ⟨mb,2,aC⟩=aV)(ho:w.ownsRow 0 62 1 (aJ aO k cO) k xs)(n1:aE rb≠(aJ aO k cO).ownBlock)(n2:aE mb≠(aJ aO k cO).ownBlock):
 bH aQ 112 #[aK (aE ⟨rb,0,aC⟩),bO T v] w λr w' =>r=aM (bC #[])/\∃W w3 v',bA w.heap.size w W/\W.grownBy w3 (aJ aO k cO).ownBlock/\w3.ownsRow 0 62 1 v' (k+1) (xs++[bO T v])/\((aJ aO k cO).ownBlock=v'.ownBlock\/∀j,v'.ownBlock=aE j->w.heap.size<=j)/\w' =w3.setCell ⟨mb,2,aC⟩ v' :=by
 obtain⟨i3,hi,hz,hs,jP⟩:=WR;have eY:(w.alloc (aU #[bO T v] 62)).heap[w.heap.size]?=aE (aU #[bO T v] 62):=heap_alloc_new w _;have hb:bA w.heap.size w (w.alloc (aU #[bO T v] 62)):=(bF _ _).alloc (bD _) _;have d0:=bJ c0 (aU #[bO T v] 62);have e2:=bJ m2 (aU #[bO T v] 62);have g2:(w.alloc (aU #[bO T v] 62)).frozen? ⟨mb,2,aC⟩=aV:=cY (bU _ _ aC) m2 f2 (by simp);have HO:=bE ho;have HN:=bE eY;have HB:=bE hb;clear ho eY hb;go_enter func112,ntmps112;go_wp2;go_region_law
  ((refine step_append_lies _ (by rfl) (.tmp 14) (.tmp 16) 58 (by rfl) 0 62 i3 .nilIface 1 16 underlying58 hi hz hs jP rfl (by decide) (aJ aO k cO) k xs (by rfl) (by exact(aN HO).alloc _) ⟨w.heap.size,0,aC⟩ 1 1 [bO T v] (by rfl) rfl (aY.news_of_block (aN HN)) (λu hu=>by simp at hu;subst hu;rfl) (by decide) (by unfold maxLen;omega) (by omega) (bZ _) _ rfl ?_
    intro g3 iG w3 jM dK qH Cc;have dK:(w.alloc (aU #[bO T v] 62)).grownBy w3 (aJ aO k cO).ownBlock:=⟨dK.os,dK.tape,dK.output,dK.size,dK.block⟩
    have d0:=dK.cell d0 n1;have g2:=cY dK e2 g2 n2;have e2:=dK.cell e2 n2;have G3:=bE dK;have O3:=bE jM;have A3:=bE qH;clear dK jM qH))
 all_goals
  go_wp2;go_end0;refine⟨rfl,_,w3,aJ (aE ⟨g3,0,aC⟩) (k+1) iG,aN HB,aN G3,aN O3,?_,rfl⟩;rcases aN A3 with e|e
  ·exact .inl e
  ·refine .inr λj hj=>?_
   have:g3=j:=aE.inj hj;rw[<-this,e];show w.heap.size<=(w.alloc _).heap.size;simp
theorem A6 (w:aY)(mb rb n iD pos q gW:Nat)(t:ByteArray)(nb:Nat)(ht:t.size<=1000)(Fx:nb<=1000000000000)(hn:n<=500)(hq:pos+1=q)(hp:q<n)(c0:w.cell? ⟨rb,0,aC⟩=aE (aK (aE ⟨mb,0,aC⟩)))(c1:w.cell? ⟨rb,1,aC⟩=aE (aJ (aE ⟨gW,0,aC⟩) n iD))(c2:w.cell? ⟨rb,2,aC⟩=aE (aH aF pos))(c3:w.cell? ⟨gW,q,aC⟩=aE (aI t))(m3:w.cell? ⟨mb,3,aC⟩=aE (aH aF nb))(f3:w.frozen? ⟨mb,3,aC⟩=aV)(GM:rb≠mb)(hgm:gW≠mb):
 bH aQ 110 #[aK (aE ⟨rb,0,aC⟩)] w λr w' =>r=aM (bM #[aI t,aH aF (1000+(nb:Int))])/\bA w.heap.size (w.setCell ⟨mb,3,aC⟩ (aH aF ((nb:Int)+1))) w' :=by
 have vG:rb≠w.heap.size:=Nat.ne_of_lt (eG c0);have zX:gW≠w.heap.size:=Nat.ne_of_lt (eG c3);have i0:aF.wrap ((pos:Int)+1)=(q:Int):=wj;have i1:(0:Int)<=(q:Int):=by omega
 have i2:(q:Int)<(n:Int):=by omega
 have d0:=bJ c0 (aU #[aI ⟨#[]⟩,aH aF 0] 127);have d1:=bJ c1 (aU #[aI ⟨#[]⟩,aH aF 0] 127);have d2:=bJ c2 (aU #[aI ⟨#[]⟩,aH aF 0] 127);have d3:=bJ c3 (aU #[aI ⟨#[]⟩,aH aF 0] 127);have e3:=bJ m3 (aU #[aI ⟨#[]⟩,aH aF 0] 127);have g3:(w.alloc (aU #[aI ⟨#[]⟩,aH aF 0] 127)).frozen? ⟨mb,3,aC⟩=aV:=cY (bU _ _ aC) m3 f3 (by simp);have Mn:(w.alloc (aU #[aI ⟨#[]⟩,aH aF 0] 127)).heap[w.heap.size]?=aE (aU #[aI ⟨#[]⟩,aH aF 0] 127):=heap_alloc_new w _;have tX:bA w.heap.size w (w.alloc (aU #[aI ⟨#[]⟩,aH aF 0] 127)):=(bF _ _).alloc (bD _) _;have hmlt:=eG m3;obtain⟨csm,tym,frm,hmb⟩:∃cs ty fr,w.heap[mb]?=aE (aU cs ty fr):=by
  cases hh:w.heap[mb]? with
  |none=>simp[aY.cell?,hh] at m3
  |some o=>
   cases o with
   |cells cs ty fr=>exact⟨cs,ty,fr,rfl⟩
   |_=>simp[aY.cell?,hh] at m3
 generalize hW:(w.alloc (aU #[aI ⟨#[]⟩,aH aF 0] 127))=w1 at*;have HM:=bE (F4 w1.drew mb t nb ht Fx e3 g3);have z0:=eG d0;have z3:=eG d3;have zr:=cC Mn;have Hn:=bE Mn;have Hb:=bE tX;have Hm:=bE hmb;clear Mn tX hmb ht Fx hp hq c0 c1 c2 c3 m3;go_enter func110,ntmps110;go_wp2;clear hW;go_region_held3 (λw' =>w'.cell? ⟨rb,0,aC⟩=aE (aK (aE ⟨mb,0,aC⟩))/\w'.cell? ⟨rb,1,aC⟩=aE (aJ (aE ⟨gW,0,aC⟩) n iD)/\w'.cell? ⟨rb,2,aC⟩=aE (aH aF pos)/\w'.cell? ⟨gW,q,aC⟩=aE (aI t)) (first|exact⟨d0,d1,d2,d3⟩|exact(by assumption)|exact⟨cQ (cQ d0 vG) vG,cQ (cQ d1 vG) vG,cQ (cQ d2 vG) vG,cQ (cQ d3 zX) zX⟩|go_keep)
  ((go_at_call 124;refine(aN HM).mono ?_
    rintro e w2 ⟨rfl,eD⟩;have NP:(w1.setCell ⟨mb,3,aC⟩ (aH aF ((nb:Int)+1))).heap.size=w1.heap.size:=by simp[aY.setCell]
    have d0:w2.cell? ⟨rb,0,aC⟩=aE (aK (aE ⟨mb,0,aC⟩)):=by rw[eD.cell (p:=⟨rb,0,aC⟩) z0];exact cQ d0 GM
    have d1:w2.cell? ⟨rb,1,aC⟩=aE (aJ (aE ⟨gW,0,aC⟩) n iD):=by rw[eD.cell (p:=⟨rb,1,aC⟩) z0];exact cQ d1 GM
    have d2:w2.cell? ⟨rb,2,aC⟩=aE (aH aF pos):=by rw[eD.cell (p:=⟨rb,2,aC⟩) z0];exact cQ d2 GM
    have d3:w2.cell? ⟨gW,q,aC⟩=aE (aI t):=by rw[eD.cell (p:=⟨gW,q,aC⟩) z3];exact cQ d3 hgm
    have Mi:w2.heap[w.heap.size]?=aE (aU #[aI ⟨#[]⟩,aH aF 0] 127):=(eD.block _ zr).trans ((bA.heap_setCell _ _ _ _ (show w.heap.size≠mb by omega)).trans (aN Hn));have b0:=cq 0 Mi rfl;have b1:=cq 1 Mi rfl;have y0:=bG 0 Mi;have y1:=bG 1 Mi;have uG:=bE eD;clear eD Mi))
 go_wp2;refine bodyPost_ret (v:=bM #[aI t,aH aF (1000+(nb:Int))]) (by simp[results,results110,go_sem,b0,b1]) rfl ⟨rfl,?_⟩;have hb:=aN Hb;have hA:bA w.heap.size (w.setCell ⟨mb,3,aC⟩ (aH aF ((nb:Int)+1))) (w1.drew.setCell ⟨mb,3,aC⟩ (aH aF ((nb:Int)+1))):=by
  refine⟨hb.os,hb.tape,hb.output,by have:=hb.size;simpa[aY.setCell] using this,λk hk=>?_⟩;by_cases NN:k=mb
  ·subst NN;rw[bV (aN Hm) 3 _];exact bV ((hb.block k hk).trans (aN Hm)) 3 _
  ·exact(bA.heap_setCell _ _ _ _ NN).trans ((hb.block k hk).trans (bA.heap_setCell _ _ _ _ NN).symm)
 have hB2:=hA.trans ((aN uG).mono (show w.heap.size<=w1.drew.heap.size from hb.size));exact(hB2.setCell (bD _) _).setCell (bD _) _
end
variable {all:List N.iM}{wv:List Own}{j:Nat}{c:N.Cell}
theorem Cm (o:Own)(g:Nat)(hl:wv.length=all.length)(hc:lI all j c):fB (wv++[o]) (c,g)=fB wv (c,g):=by
 unfold fB;simp only;by_cases h1:c.kind=1
 ·rw[eJ h1,eJ h1]
 ·rw[dL h1,dL h1];by_cases h2:c.kind=2
  ·rw[eJ h2,eJ h2];rcases hc with h|⟨_,k,e,hn,_,he,_⟩|h|h
   ·exact(h1 h.1).elim
   ·have hk:c.n.toNat=k:=by omega
    have eQ:=(bI.1 he).1;rw[hk,bT (by omega)]
   ·omega
   ·omega
  ·rw[dL h2,dL h2]
theorem Lx (e:N.iM)(o:Own):∀(all:List N.iM) (wv:List Own),wv.length=all.length->dN (all++[e]) (wv++[o])=dN all wv++if N.there e then[iW o] else[]
 |[],[],_=>by
  unfold dN;cases h:N.there e <;> simp[h]
 |[],_::_,h=>by simp at h
 |_::_,[],h=>by simp at h
 |a::t,b::u,h=>by
  have ih:=Lx e o t u (by simpa using h);unfold dN at ih ⊢;rw[List.cons_append,List.cons_append,List.zip_cons_cons,List.zip_cons_cons,List.filter_cons,List.filter_cons];simp only
  split
  ·rw[List.map_cons,ih,List.map_cons,List.cons_append]
  ·exact ih
theorem Aj (e:N.iM)(h:lI all j c):lI (all++[e]) j c:=by
 rcases h with h|⟨h1,k,x,h2,h3,h4,h5⟩|h|h
 ·exact .inl h
 ·exact .inr (.inl ⟨h1,k,x,h2,h3,by rw[bT (bI.1 h4).1];exact h4,h5⟩)
 ·exact .inr (.inr (.inl h))
 ·exact .inr (.inr (.inr h))
variable {w:aY}
theorem rZ.app {e:N.iM}{x:Own}(o:Own)(hl:wv.length=all.length)(xF:∀c∈e.body,lI all j c)(h:rZ w wv j e x):rZ w (wv++[o]) j e x:=by
 cases x with
 |defn b=>
  obtain⟨h0,vB,body,h1,h2,h3,h4⟩:=h;refine⟨h0,vB,body,h1,?_,h3,h4⟩;have:body.map (fB (wv++[o]))=body.map (fB wv):=by
   apply List.map_congr_left;intro y hy;obtain⟨c,g⟩:=y;exact Cm o g hl (xF c (by rw[<-h3];exact List.mem_map_of_mem (f:=(·.1)) hy))
  rw[this];exact h2
 |qW b=>exact h
 |cons nm t n=>exact h
 |mark nm t=>exact h
variable {w' :aY}{vO vB:aG}
theorem jE.more {oJ :aG}(h:jE w all wv vO vB)(e:N.iM)(o:Own)(hk:∀k,oV w k->vO.ownBlock≠aE k->w'.heap[k]?=w.heap[k]?)(fL:w'.ownsRow 0 62 1 oJ (dN all wv++if N.there e then[iW o] else[]).length (dN all wv++if N.there e then[iW o] else[]))(pM:e.ended=aX->rZ w' (wv++[o]) all.length e o)(xF:e.ended=aX->∀c∈e.body,lI all all.length c)(sD:(dN all wv++if N.there e then[iW o] else[]).length<=40)(Nn:∀b,o=.qW b->e.ended=aX/\∀j:Nat,wv[j]?≠aE (.qW b))(hold:all.length+1<=1000000000000):jE w' (all++[e]) (wv++[o]) oJ (aH aF ((all.length:Int)+1)):=by
 have hl:=h.len;have DX:=Lx e o all wv hl;have Gp:∀k cs t fr,w.heap[k]?=aE (aU cs t fr)->t≠62->vO.ownBlock≠aE k:=λk cs t fr hk ht=>bW h.row hk ht
 refine⟨by simp[hl],by simp,?_,?_,?_,?_,?_,by simpa using hold,?_⟩
 ·rw[DX];exact fL
 ·intro j e' x hj hx kY;rcases N.hU hj with hj|⟨R1,rfl⟩
  ·have Q8:=(bI.1 hj).1;have hx:wv[j]?=aE x:=by rwa[bT (by omega)] at hx
   have hE:=h.tA j e' x hj hx kY;refine rZ.app o hl (h.ok j e' hj kY) ?_;cases x with
   |defn b=>
    obtain⟨h0,vD,body,h1,h2,h3⟩:=hE;exact⟨h0,vD,body,(hk b ⟨_,_,_,h1,.inl rfl⟩ (Gp b _ _ _ h1 (by decide))).trans h1,cK h2 λk e=>by
     obtain⟨cur,hc⟩:=cZ h2 e;exact hk k ⟨_,_,_,hc,.inr (.inr (.inl rfl))⟩ (Gp k _ _ _ hc (by decide)),h3⟩
   |qW b=>exact⟨hE.1,hE.2.1,(hk b ⟨_,_,_,hE.2.2,.inr (.inl rfl)⟩ (Gp b _ _ _ hE.2.2 (by decide))).trans hE.2.2⟩
   |cons nm t n=>exact hE
   |mark nm t=>exact hE
  ·clear hj;subst R1;have hx:x=o:=by
    rw[<-hl,bP (bD _),Nat.sub_self] at hx;simpa using hx.symm
   subst hx;exact pM kY
 ·intro j e' hj kY c hc;rcases N.hU hj with hj|⟨R1,rfl⟩
  ·exact Aj e (h.ok j e' hj kY c hc)
  ·clear hj;subst R1;exact Aj _ (xF kY c hc)
 ·rw[DX];exact sD
 ·intro i j b hi hj;rcases N.hU hi with hi|⟨hi,hio⟩ <;> rcases N.hU hj with hj|⟨hj,hjo⟩
  ·exact h.apart i j b hi hj
  ·exact((Nn b hjo.symm).2 i hi).elim
  ·exact((Nn b hio.symm).2 j hj).elim
  ·omega
 ·intro j b hj;rcases N.hU hj with hj|⟨hj,hjo⟩
  ·obtain⟨x,hx,kY⟩:=h.VP j b hj;exact⟨x,by rw[bT (bI.1 hx).1];exact hx,kY⟩
  ·refine⟨e,?_,(Nn b hjo.symm).1⟩;rw[hj,hl,bP (bD _),Nat.sub_self];rfl
def nZ (mb rb:Nat) (vO vW vS vR vT:aG) (wv:List Own) (s:L.gJ) (m:N.cE) (code:Int) (p:Nat) (w w' :aY):Prop:=
 ∃oJ Ci v1 v2 v3 Kp s',eV w' mb rb oJ Ci vW v1 v2 v3 s' /\jE w' m.all Kp oJ Ci /\Mv (iO mb rb vO vS vR vT wv) w w' /\dG w (iO mb rb vO vS vR vT wv) (iO mb rb oJ v1 v2 v3 Kp)/\
  s'.words=s.words/\s'.pos=p/\s'.depth=s.depth/\s'.out=m.out/\(code=0->s'.S=m.S/\s'.R=m.R/\s'.steps=m.steps)
variable {mb rb:Nat}{vW vS vR vT:aG}{s:L.gJ}{m:N.cE}{code:Int}
theorem nZ.pD (h:gU mb rb vO vB vW vS vR vT wv s m code w w'):nZ mb rb vO vW vS vR vT wv s m code s.pos w w' :=by
 obtain⟨oJ,v1,v2,v3,s',h1,h2,h3,h4,h5⟩:=h;exact⟨oJ,vB,v1,v2,v3,wv,s',h1,h2,h3,h4,h5⟩
variable {p:Nat}{W:aY}
theorem nZ.after (hb:bA w.heap.size w W)(h:nZ mb rb vO vW vS vR vT wv s m code p W w'):nZ mb rb vO vW vS vR vT wv s m code p w w' :=by
 obtain⟨oJ,Ci,v1,v2,v3,Kp,s',h1,h2,h3,h4,h5⟩:=h;exact⟨oJ,Ci,v1,v2,v3,Kp,s',h1,h2,(Mv.dS hb _).trans (dG.refl _ _) h3,(dG.refl _ _).trans hb.size h4,h5⟩
theorem qS:∀(all:List N.iM) (wv:List Own),wv.length=all.length->(dN all wv).length=(all.filter N.there).length
 |[],[],_=>rfl
 |[],_::_,h=>by simp at h
 |_::_,[],h=>by simp at h
 |a::t,b::u,h=>by
  have ih:=qS t u (by simpa using h);unfold dN at ih ⊢;rw[List.zip_cons_cons,List.filter_cons,List.filter_cons];simp only
  split
  ·rw[List.map_cons,cX,cX,ih]
  ·exact ih
theorem Z8 (m:N.cE)(t:List UInt8)(k:Nat)(hk:k=N.count m)(h40:k<=40):N.dB m (aE t) aX=if uC t=aV\/L.fJ t=aX then 4 else if k=40 then 5 else 0:=by
 unfold N.dB uC N.mI;simp only[Bool.true_and,true_and];rw[<-hk];have hk5:(if 40<=k then(5:Int) else 0)=if k=40 then 5 else 0:=by
  by_cases h:k=40
  ·rw[eJ h,eJ (by omega)]
  ·rw[dL h,dL (by omega)]
 rw[hk5];generalize(if k=40 then(5:Int) else 0)=z;cases L.fJ t <;> cases t.all N.oW <;> cases decide (t.length<=12) <;> cases(L.number t).isSome <;> simp
def xT (s:L.gJ):Prop:=∀t∈s.words,t≠[]/\t.length<=500
theorem Ac (w:aY)(mb rb:Nat)(vO vB vW vS vR vT:aG)(wv:List Own)(s:L.gJ)(all:List N.iM)(m:N.cE)(hm:m.all=all)(hr:eV w mb rb vO vB vW vS vR vT s)(ho:jE w all wv vO vB)(hp:s.pos<s.words.length)(hw:xT s):
 bH aQ 109 #[aK (aE ⟨rb,0,aC⟩)] w λr w' =>r=aM (aH aF (N.dB m s.words[s.pos+1]? aX))/\bA w.heap.size w w' :=by
 have c0:=cq 0 hr.r rfl;have c1:=cq 1 hr.r rfl;have c2:=cq 2 hr.r rfl;have m2:=cq 2 hr.m rfl;rcases jB hr.wd with ⟨_,h0,_⟩|⟨gW,iD,rfl,_⟩
 ·omega
 by_cases eQ:s.pos+1<s.words.length
 ·obtain⟨t,ht⟩:∃t,s.words[s.pos+1]?=aE t:=⟨_,bL eQ⟩
  have c3:w.cell? ⟨gW,s.pos+1,aC⟩=aE (aI ⟨t.toArray⟩):=by
   have:=hr.wd.cells (g:=gW) rfl (s.pos+1) (mQ t) (by rw[cI,ht];rfl);rwa[fE,dC] at this
  obtain⟨jD,hlen⟩:=hw t (cG ht);have hsz:=Gg hr t (by omega);obtain⟨aO,cO,hvO,_,_⟩:=cU ho.row;rw[ht];have hN:∀W,bH aQ 123 #[aI ⟨t.toArray⟩] W λe w' =>e=aM (bB (uC t))/\w' =W:=λW=>by
   have:=CH ⟨t.toArray⟩ W hsz (by simpa using jD);simpa using this
  have hB:∀W,bH aQ 68 #[aI ⟨t.toArray⟩] W λe w' =>e=aM (bB (L.fJ t))/\w' =W:=λW=>by
   have:=rS ⟨t.toArray⟩ W;rw[Go.ByteArray.toList_eq] at this;exact this
  rw[hvO] at m2;refine I3 w mb rb s.words.length iD s.pos (s.pos+1) gW _ cO aO ⟨t.toArray⟩ _ _ _ hr.wl rfl eQ c0 c1 c2 c3 m2 (bE hN) (bE hB) (Z8 m t _ ?_ ho.vI);rw[qS all wv ho.len];unfold N.count;rw[hm]
 ·have Sx:s.words[s.pos+1]?=aC:=dZ (by omega);rw[Sx];exact V0 w rb s.words.length iD s.pos (s.pos+1) _ hr.wl rfl (by omega) c1 c2
section
attribute [local go_sem ↓] Go.wp_at_zero Go.wp_at_succ
theorem H7 (w:aY)(rb:Nat)(code:Int)(hc:code≠0)(HA:Hid (bH aQ 109 #[aK (aE ⟨rb,0,aC⟩)] w λr w' =>r=aM (aH aF code)/\bA w.heap.size w w')):
 bH aQ 90 #[aK (aE ⟨rb,0,aC⟩)] w λr w' =>r=aM (aH aF code)/\bA w.heap.size w w' :=by
 have k0:(code==0)=aV:=beq_eq_false_iff_ne.2 hc;go_enter func90,ntmps90;go_wp2_with fail
 refine(aN HA).mono ?_;rintro e w1 ⟨rfl,hb⟩;go_wp2;go_ret;exact⟨rfl,hb⟩
theorem Xo (w:aY)(rb pos:Nat)(t:ByteArray)(tok:Int)(Q1 Q2:aY->Prop)(sF:pos<=1000)(HA:Hid (bH aQ 109 #[aK (aE ⟨rb,0,aC⟩)] w λr w' =>r=aM (aH aF 0)/\bA w.heap.size w w'))(HG:Hid (∀W,bA w.heap.size w W->bH aQ 110 #[aK (aE ⟨rb,0,aC⟩)] W λr w' =>r=aM (bM #[aI t,aH aF tok])/\Q1 w'))(HK:Hid (∀W,Q1 W->bH aQ 112 #[aK (aE ⟨rb,0,aC⟩),bO 124 (aK (aE ⟨W.heap.size,0,aC⟩))] (W.alloc (aU #[aI t,aH aF tok,aH aF 0] 129)) λr w' =>r=aM (bC #[])/\Q2 w' /\w'.cell? ⟨rb,2,aC⟩=aE (aH aF pos)/\w'.frozen? ⟨rb,2,aC⟩=aV)):
 bH aQ 90 #[aK (aE ⟨rb,0,aC⟩)] w λr w' =>r=aM (aH aF 0)/\∃W,Q2 W/\w' =W.setCell ⟨rb,2,aC⟩ (aH aF ((pos:Int)+1)):=by
 have i0:=wi ((pos:Int)+1);clear sF;go_enter func90,ntmps90;go_wp2_with fail
 refine(aN HA).mono ?_;rintro e w1 ⟨rfl,hb⟩;go_wp2_with fail
 refine(aN HG _ hb).mono ?_;rintro e w2 ⟨rfl,hq⟩;have HQ:=bE hq;clear hq hb;go_wp2_with fail
 refine(aN HK w2 (aN HQ)).mono ?_;rintro e w3 ⟨rfl,DU,c2,f2⟩;have HQ2:=bE DU;clear DU;go_wp2;go_ret;exact⟨rfl,w3,aN HQ2,rfl⟩
theorem x8 (w:aY)(rb:Nat)(code:Int)(hc:code≠0)(HA:Hid (bH aQ 109 #[aK (aE ⟨rb,0,aC⟩)] w λr w' =>r=aM (aH aF code)/\bA w.heap.size w w')):
 bH aQ 91 #[aK (aE ⟨rb,0,aC⟩)] w λr w' =>r=aM (aH aF code)/\bA w.heap.size w w' :=by
 have k0:(code==0)=aV:=beq_eq_false_iff_ne.2 hc;go_enter func91,ntmps91;go_wp2_with fail
 refine(aN HA).mono ?_;rintro e w1 ⟨rfl,hb⟩;go_wp2;go_ret;exact⟨rfl,hb⟩
theorem Ud (w:aY)(rb:Nat)(code:Int)(hc:code≠0)(Q:aY->Prop)(HA:Hid (bH aQ 109 #[aK (aE ⟨rb,0,aC⟩)] w λr w' =>r=aM (aH aF 0)/\bA w.heap.size w w'))(HT:Hid (∀W,bA w.heap.size w W->bH aQ 114 #[aK (aE ⟨rb,0,aC⟩),aH aF 1] W λr w' =>∃v,r=aM (bC #[v,aH aF code])/\Q w')):
 bH aQ 91 #[aK (aE ⟨rb,0,aC⟩)] w λr w' =>r=aM (aH aF code)/\Q w' :=by
 have k0:(code==0)=aV:=beq_eq_false_iff_ne.2 hc;go_enter func91,ntmps91;go_wp2_with fail
 refine(aN HA).mono ?_;rintro e w1 ⟨rfl,hb⟩;go_wp2_with fail
 refine(aN HT _ hb).mono ?_;rintro e w2 ⟨v,rfl,hq⟩;have HQ:=bE hq;clear hq hb;go_wp2;go_ret;exact⟨rfl,aN HQ⟩
theorem Yo (w:aY)(rb pos:Nat)(x:Int)(t:ByteArray)(tok:Int)(Q:aY->Prop)(sF:pos<=1000)(HA:Hid (bH aQ 109 #[aK (aE ⟨rb,0,aC⟩)] w λr w' =>r=aM (aH aF 0)/\bA w.heap.size w w'))(HT:Hid (∀W,bA w.heap.size w W->bH aQ 114 #[aK (aE ⟨rb,0,aC⟩),aH aF 1] W λr w1=>∃g off cS,r=aM (bC #[aJ (aE ⟨g,off,aC⟩) 1 cS,aH aF 0])/\w1.cell? ⟨g,off,aC⟩=aE (aH aF x)/\
  bH aQ 110 #[aK (aE ⟨rb,0,aC⟩)] w1.drew λr w2=>r=aM (bM #[aI t,aH aF tok])/\w2.cell? ⟨g,off,aC⟩=aE (aH aF x)/\
   bH aQ 112 #[aK (aE ⟨rb,0,aC⟩),bO 130 (bM #[aI t,aH aF tok,aH aF x])] w2 λr w3=>r=aM (bC #[])/\Q w3/\w3.cell? ⟨g,off,aC⟩=aE (aH aF x)/\w3.cell? ⟨rb,2,aC⟩=aE (aH aF pos)/\w3.frozen? ⟨rb,2,aC⟩=aV)):
 bH aQ 91 #[aK (aE ⟨rb,0,aC⟩)] w λr w' =>r=aM (aH aF 0)/\∃W,Q W/\w' =W.setCell ⟨rb,2,aC⟩ (aH aF ((pos:Int)+1)):=by
 have i0:=wi ((pos:Int)+1);clear sF;go_enter func91,ntmps91;go_wp2_with fail
 refine(aN HA).mono ?_;rintro e w1 ⟨rfl,hb⟩;go_wp2_with fail
 refine(aN HT _ hb).mono ?_;rintro e w2 ⟨g,off,cS,rfl,cx,hq⟩;have HQ:=bE hq;clear hq hb;go_wp2;go_region_held3 (λw' =>w'.cell? ⟨g,off,aC⟩=aE (aH aF x)) (first|exact cx|exact(by assumption)|go_keep)
  (first
    |((go_at_call 110;refine(aN HQ).mono ?_
       rintro e w3 ⟨rfl,cx,hq1⟩;have HQ1:=bE hq1;clear hq1))
    |((go_at_call 112;refine(aN HQ1).mono ?_
       rintro e w4 ⟨rfl,DU,cx,c2,f2⟩;have HQ2:=bE DU;clear DU)))
 go_wp2;go_ret;exact⟨rfl,w4,aN HQ2,rfl⟩
theorem BO (w:aY)(rb:Nat)(code:Int)(hc:code≠0)(HA:Hid (bH aQ 109 #[aK (aE ⟨rb,0,aC⟩)] w λr w' =>r=aM (aH aF code)/\bA w.heap.size w w')):
 bH aQ 88 #[aK (aE ⟨rb,0,aC⟩)] w λr w' =>r=aM (aH aF code)/\bA w.heap.size w w' :=by
 have k0:(code==0)=aV:=beq_eq_false_iff_ne.2 hc;go_enter func88,ntmps88;go_wp2_with fail
 refine(aN HA).mono ?_;rintro e w1 ⟨rfl,hb⟩;go_wp2;go_ret;exact⟨rfl,hb⟩
theorem L1 (w:aY)(rb:Nat)(t:ByteArray)(tok:Int)(Q1:aY->Prop)(fU:Int->aY->Prop)(HA:Hid (bH aQ 109 #[aK (aE ⟨rb,0,aC⟩)] w λr w' =>r=aM (aH aF 0)/\bA w.heap.size w w'))(HG:Hid (∀W,bA w.heap.size w W->bH aQ 110 #[aK (aE ⟨rb,0,aC⟩)] W λr w' =>r=aM (bM #[aI t,aH aF tok])/\Q1 w'))(HR:Hid (∀w2,Q1 w2->bH aQ 111 #[aK (aE ⟨rb,0,aC⟩)] (w2.alloc (aU #[aI t,aH aF tok] 127)) λr w' =>∃v code,r=aM (bC #[v,aH aF code])/\w'.heap[w2.heap.size]?=aE (aU #[aI t,aH aF tok] 127)/\(code≠0->fU code w')/\
  (code=0->∃aD nD cD,v=aJ aD nD cD/\bH aQ 112 #[aK (aE ⟨rb,0,aC⟩),bO 122 (aK (aE ⟨w'.heap.size,0,aC⟩))] (w'.alloc (aU #[aI t,aH aF tok,v] 180)) λr w3=>r=aM (bC #[])/\fU 0 w3))):
 bH aQ 88 #[aK (aE ⟨rb,0,aC⟩)] w λr w' =>∃code,r=aM (aH aF code)/\fU code w' :=by
 go_enter func88,ntmps88;go_wp2_with fail
 refine(aN HA).mono ?_;rintro e w1 ⟨rfl,hb⟩;go_wp2_with fail
 refine(aN HG _ hb).mono ?_;rintro e w2 ⟨rfl,hq⟩;have HQ:=bE hq;clear hq hb;go_wp2_with fail
 refine(aN HR w2 (aN HQ)).mono ?_;rintro e w3 ⟨v,code,rfl,hcm,hE,hK⟩;have b0:=cq 0 hcm rfl;have b1:=cq 1 hcm rfl;clear hcm;by_cases hc:code=0
 ·obtain⟨aD,nD,cD,rfl,hK2⟩:=hK hc;subst hc;have HK:=bE hK2;clear hK hK2 hE;go_wp2_with fail
  refine(aN HK).mono ?_;rintro e w4 ⟨rfl,DU⟩;have HQ2:=bE DU;clear DU;go_wp2;go_ret;exact⟨0,rfl,aN HQ2⟩
 ·have k0:(code==0)=aV:=beq_eq_false_iff_ne.2 hc;have HE:=bE (hE hc);clear hE hK;go_wp2;go_ret;exact⟨code,rfl,aN HE⟩
theorem Iy (w:aY)(rb:Nat)(V:aG)(code:Int)(hc:(code != 0)=aX)(P:aY->Prop)(H:Hid (bH aQ 113 #[aK (aE ⟨rb,0,aC⟩)] w λr w' =>r=aM (bC #[V,aH aF code])/\P w')):
 bH aQ 89 #[aK (aE ⟨rb,0,aC⟩)] w λr w' =>r=aM (aH aF code)/\P w' :=by
 go_enter func89,ntmps89;go_wp2_with fail
 refine(aN H).mono ?_;rintro e w' ⟨rfl,hP⟩;have HP:=bE hP;clear hP;go_wp2;go_ret;exact⟨rfl,aN HP⟩
theorem Uj (w:aY)(rb pos:Nat)(T:TypeId)(v:aG)(nm:ByteArray)(tok code:Int)(P Q:aY->Prop)(sF:pos<=500)(H:Hid (bH aQ 113 #[aK (aE ⟨rb,0,aC⟩)] w λr w' =>r=aM (bC #[bO T v,aH aF 0])/\(∀F:Nat,(method (F+1) T v "Token").run aQ w' =.ok (65,bM #[aI nm,aH aF tok]) w')/\P w'))(HA:Hid (∀w1 W,P w1->bA w1.heap.size w1 W->bH aQ 62 #[aK (aE ⟨rb,0,aC⟩),aH aF tok] W λr w' =>r=aM (aH aF code)/\w'.cell? ⟨rb,2,aC⟩=aE (aH aF pos)/\w'.frozen? ⟨rb,2,aC⟩=aV/\Q w')):
 bH aQ 89 #[aK (aE ⟨rb,0,aC⟩)] w λr w' =>r=aM (aH aF code)/\∃W,Q W/\((code≠0/\w' =W)\/(code=0/\w' =W.setCell ⟨rb,2,aC⟩ (aH aF ((pos:Int)+1)))):=by
 have i0:=wi ((pos:Int)+1);by_cases hc:code=0
 ·subst hc;go_enter func89,ntmps89;go_wp2_with fail
  refine(aN H).mono ?_;rintro e w1 ⟨rfl,hm,hP⟩;have HP:=bE hP;clear hP;go_wp2_with fail
  refine(tL _ nm tok).mono ?_;rintro e w2 ⟨rfl,hb⟩;have YJ:=bE (aN HA w1 w2 (aN HP) hb);clear hb;go_wp2_with fail
  refine(aN YJ).mono ?_;rintro e w3 ⟨rfl,c2,f2,hQ⟩;have HQ:=bE hQ;clear hQ;go_wp2;go_ret;exact⟨rfl,w3,aN HQ,by first|exact .inr ⟨rfl,rfl⟩|exact .inr ⟨trivial,rfl⟩⟩
 ·have hcb:(code != 0)=aX:=by rw[bne_iff_ne];exact hc
  have Hc:=bE hc;clear hc;go_enter func89,ntmps89;go_wp2_with fail
  refine(aN H).mono ?_;rintro e w1 ⟨rfl,hm,hP⟩;have HP:=bE hP;clear hP;go_wp2_with fail
  refine(tL _ nm tok).mono ?_;rintro e w2 ⟨rfl,hb⟩;have YJ:=bE (aN HA w1 w2 (aN HP) hb);clear hb;go_wp2_with fail
  refine(aN YJ).mono ?_;rintro e w3 ⟨rfl,c2,f2,hQ⟩;have HQ:=bE hQ;clear hQ;go_wp2;go_ret;exact⟨rfl,w3,aN HQ,.inl ⟨aN Hc,rfl⟩⟩
end
theorem eV.m7 (h:eV w mb rb vO vB vW vS vR vT s)(u:aG):eV (w.setCell ⟨mb,3,aC⟩ u) mb rb vO u vW vS vR vT s:=by
 have eR:=bV h.m 3 u;have gZ:∀j,j≠mb->(w.setCell ⟨mb,3,aC⟩ u).heap[j]?=w.heap[j]?:=λj hj=>bA.heap_setCell _ _ _ _ hj
 refine⟨eR,(gZ rb (fN h.r h.m (by decide))).trans h.r,?_,?_,?_,?_,h.ap,h.sl,h.rl,h.ol,h.wl,h.si,h.ri⟩
 ·exact cK h.st λj e=>gZ j λx=>bW h.st h.m (by decide) (x▸e)
 ·exact cK h.Fv λj e=>gZ j λx=>bW h.Fv h.m (by decide) (x▸e)
 ·exact cK h.ot λj e=>gZ j λx=>bW h.ot h.m (by decide) (x▸e)
 ·exact cK h.wd λj e=>gZ j λx=>bW h.wd h.m (by decide) (x▸e)
theorem eV.setPos (h:eV w mb rb vO vB vW vS vR vT s)(q:Nat)(u:aG)(hu:u=aH aF q):eV (w.setCell ⟨rb,2,aC⟩ u) mb rb vO vB vW vS vR vT {s with pos:=q}:=by
 subst hu;have eR:=bV h.r 2 (aH aF q);have gZ:∀j,j≠rb->(w.setCell ⟨rb,2,aC⟩ (aH aF q)).heap[j]?=w.heap[j]?:=λj hj=>bA.heap_setCell _ _ _ _ hj
 refine⟨(gZ mb (fN h.m h.r (by decide))).trans h.m,eR,?_,?_,?_,?_,h.ap,h.sl,h.rl,h.ol,h.wl,h.si,h.ri⟩
 ·exact cK h.st λj e=>gZ j λx=>bW h.st h.r (by decide) (x▸e)
 ·exact cK h.Fv λj e=>gZ j λx=>bW h.Fv h.r (by decide) (x▸e)
 ·exact cK h.ot λj e=>gZ j λx=>bW h.ot h.r (by decide) (x▸e)
 ·exact cK h.wd λj e=>gZ j λx=>bW h.wd h.r (by decide) (x▸e)
theorem Ea (w:aY)(mb rb:Nat)(vO vW vS vR vT:aG)(nb:Nat)(s:L.gJ)(t:List UInt8)(hr:eV w mb rb vO (aH aF nb) vW vS vR vT s)(Fx:nb<=1000000000000)(ht:s.words[s.pos+1]?=aE t)(Vm:t.length<=1000):
 bH aQ 110 #[aK (aE ⟨rb,0,aC⟩)] w λr w' =>r=aM (bM #[aI ⟨t.toArray⟩,aH aF (1000+(nb:Int))])/\eV w' mb rb vO (aH aF ((nb:Int)+1)) vW vS vR vT s/\Mv (λk=>k=mb) w w' :=by
 have eQ:=(bI.1 ht).1;rcases jB hr.wd with ⟨_,h0,_⟩|⟨gW,iD,rfl,_⟩
 ·omega
 have c3:w.cell? ⟨gW,s.pos+1,aC⟩=aE (aI ⟨t.toArray⟩):=by
  have:=hr.wd.cells (g:=gW) rfl (s.pos+1) (mQ t) (by rw[cI,ht];rfl);rwa[fE,dC] at this
 refine(A6 w mb rb s.words.length iD s.pos (s.pos+1) gW ⟨t.toArray⟩ nb (Gg hr t Vm) Fx hr.wl rfl eQ (aZ hr.r rfl) (aZ hr.r rfl) (aZ hr.r rfl) c3 (aZ hr.m rfl) (bG 3 hr.m) (fN hr.r hr.m (by decide)) λe=>bW hr.wd hr.m (by decide) (by rw[e];rfl)).mono ?_;rintro r w' ⟨rfl,hb⟩;have hsz:(w.setCell ⟨mb,3,aC⟩ (aH aF ((nb:Int)+1))).heap.size=w.heap.size:=by simp[aY.setCell]
 refine⟨rfl,(hr.m7 _).below (by rw[hsz];exact hb),?_⟩;have h1:Mv (λk=>k=mb) w (w.setCell ⟨mb,3,aC⟩ (aH aF ((nb:Int)+1))):=Mv.setCell (T:=λk=>k=mb) (Mv.refl _ _) (.inl rfl) _;exact h1.trans (dG.refl _ _) (Mv.dS (by rw[hsz];exact hb) _)
theorem QZ (w:aY)(mb rb k:Nat)(vO vB vW vS vR vT:aG)(s:L.gJ)(xs:List aG)(T:TypeId)(v:aG)(hr:eV w mb rb vO vB vW vS vR vT s)(hk:k<=40)(ho:w.ownsRow 0 62 1 vO k xs):
 bH aQ 112 #[aK (aE ⟨rb,0,aC⟩),bO T v] w λr w' =>r=aM (bC #[])/\∃v',eV w' mb rb v' vB vW vS vR vT s/\w'.ownsRow 0 62 1 v' (k+1) (xs++[bO T v])/\Mv (λj=>j=mb\/vO.ownBlock=aE j) w w' /\∀j,v'.ownBlock=aE j->vO.ownBlock=aE j\/w.heap.size<=j:=by
 obtain⟨aO,cO,rfl,_,_⟩:=cU ho;refine(LD w mb rb k cO aO xs T v hk (aZ hr.r rfl) (aZ hr.m rfl) (bG 2 hr.m) ho (λe=>bW ho hr.r (by decide) e.symm) λe=>bW ho hr.m (by decide) e.symm).mono ?_;rintro r w' ⟨rfl,W,w3,v',hb,hg,fL,kD,rfl⟩;have Sb:=hr.below hb;have VG:W.ownsRow 0 62 1 (aJ aO k cO) k xs:=cK ho λj e=>hb.block j (ho.lt j e).2
 have El:eV w3 mb rb (aJ aO k cO) vB vW vS vR vT s:=by
  refine Sb.kept λj hj=>hg.block j (Sb.lt j hj) λe=>?_
  obtain⟨cur,hc⟩:=cZ VG e.symm;rcases hj with (rfl|rfl|e' |e' |e')|e'
  ·exact absurd rfl (fN Sb.m hc (by decide))
  ·exact absurd rfl (fN Sb.r hc (by decide))
  ·exact bW Sb.st hc (by decide) e'
  ·exact bW Sb.Fv hc (by decide) e'
  ·exact bW Sb.ot hc (by decide) e'
  ·exact bW Sb.wd hc (by decide) e'
 have qV:Mv (λj=>j=mb\/(aJ aO k cO).ownBlock=aE j) w w3:=(Mv.dS hb _).grown hg λj e=>.inl (.inr e)
 refine⟨rfl,v',El.set2 v',?_,qV.setCell (.inl (.inl rfl)) _,λj hj=>?_⟩
 ·refine cK fL λj e=>bA.heap_setCell _ _ _ _ λx=>?_
  have x:j=mb:=x;exact bW fL El.m (by decide) (x▸e)
 ·rcases kD with e|e
  ·exact .inl (e.trans hj)
  ·exact .inr (e j hj)
variable {k:Nat}
theorem F9 {o:Own}(h:Lq (wv++[o]) k):Lq wv k\/o=.qW k:=by
 obtain⟨j,hj⟩:=h;rcases N.hU hj with h1|⟨_,h2⟩
 ·exact .inl ⟨j,h1⟩
 ·exact .inr h2.symm
theorem Iu (w W:aY)(mb rb:Nat)(vO vB vW vS vR vT:aG)(wv:List Own)(s:L.gJ)(all:List N.iM)(ho:jE w all wv vO vB)(e:N.iM)(o:Own)(T:TypeId)(v:aG)(VN:iW o=bO T v)(Ss:N.there e=aX)(eQ:(dN all wv).length<40)(hkW:∀k,oV w k->W.heap[k]?=w.heap[k]?)(Sb:eV W mb rb vO (aH aF ((all.length:Int)+1)) vW vS vR vT s)(pM:∀w' :aY,(∀k,k<W.heap.size->k≠mb->vO.ownBlock≠aE k->w'.heap[k]?=W.heap[k]?)->rZ w' (wv++[o]) all.length e o)(xF:∀c∈e.body,lI all all.length c)(Nn:∀b,o=.qW b->w.heap.size<=b)(hold:all.length+1<=1000000000000):
 bH aQ 112 #[aK (aE ⟨rb,0,aC⟩),bO T v] W λr w' =>r=aM (bC #[])/\∃v',eV w' mb rb v' (aH aF ((all.length:Int)+1)) vW vS vR vT s/\jE w' (all++[e]) (wv++[o]) v' (aH aF ((all.length:Int)+1))/\Mv (λj=>j=mb\/vO.ownBlock=aE j) W w' /\∀j,v'.ownBlock=aE j->vO.ownBlock=aE j\/W.heap.size<=j:=by
 have VG:W.ownsRow 0 62 1 vO (dN all wv).length (dN all wv):=cK ho.row λk hk=>hkW k (nK ho.row (.inr rfl) hk)
 refine(QZ W mb rb _ vO _ vW vS vR vT s _ T v Sb (by omega) VG).mono ?_;rintro r w' ⟨rfl,v',Sf,fL,pL,Gw⟩;have yP:(dN all wv++if N.there e then[iW o] else[])=dN all wv++[bO T v]:=by rw[eJ Ss,VN]
 refine⟨rfl,v',Sf,ho.more e o ?_ ?_ ?_ (λ_=>xF) ?_ ?_ hold,pL,Gw⟩
 ·intro k hk jD;have NN:k≠mb:=λx=>by
   obtain⟨cs,t,fr,hc,ht⟩:=hk;have:=Sb.m;rw[<-x,hkW k ⟨cs,t,fr,hc,ht⟩,hc] at this;injection this with this;injection this with _ this _;subst this
   revert ht
   decide
  have hW:=hkW k hk;refine(pL.block k ?_ ?_).trans hW
  ·have:=kH hk;obtain⟨cs,t,fr,hc,ht⟩:=hk;rw[hc] at hW;exact cC hW
  ·rintro(x|x)
   ·exact NN x
   ·exact jD x
 ·rw[yP];have:(dN all wv++[bO T v]).length=(dN all wv).length+1:=by simp
  rw[this];exact fL
 ·intro _;exact pM w' λk hk h1 h2=>pL.block k hk λx=>x.elim h1 h2
 ·rw[yP];have:(dN all wv++[bO T v]).length=(dN all wv).length+1:=by simp
  omega
 ·intro b hb;have hth2:e.ended=aX:=jX Ss;refine⟨hth2,λj hj=>?_⟩;have:=Ir ho ⟨j,hj⟩;have:=Nn b hb;omega
def To:N.eE:=[118,97,114,105,97,98,108,101]
theorem Ih (m:N.cE)(ws:List N.eE)(p:Nat):N.one m ws p To=if N.dB m ws[p+1]? aX≠0 then(m,N.dB m ws[p+1]? aX,p,p+2) else({m with all:=m.all++[⟨(ws[p+1]?).getD [],2,0,[],aX,aV⟩]},0,0,p+2):=rfl
def Rr (res:N.cE×Int×Nat×Nat):Nat:=if res.2.1=0 then res.2.2.2-1 else res.2.2.1
def qB (mb rb:Nat) (vO vW vS vR vT:aG) (wv:List Own) (s:L.gJ) (res:N.cE×Int×Nat×Nat) (w w' :aY):Prop:=nZ mb rb vO vW vS vR vT wv s res.1 res.2.1 (Rr res) w w'
theorem rY {x:Option N.eE}{f:Bool}(h:N.dB m x f=0):∃t,x=aE t:=by
 cases x with
 |none=>cases h
 |some t=>exact⟨t,rfl⟩
theorem Ba {x:Option N.eE}(h:N.dB m x aX=0):N.count m<40:=by
 obtain⟨t,rfl⟩:=rY h;unfold N.dB at h;simp only at h;by_cases h1:(L.fJ t||(aX&&!N.mI t))=aX
 ·rw[eJ h1] at h;cases h
 ·rw[dL h1] at h;by_cases h2:True/\40<=N.count m
  ·rw[eJ (by simpa using h2)] at h;cases h
  ·have:¬40<=N.count m:=λx=>h2 ⟨trivial,x⟩
   omega
variable {v1 v' :aG}
theorem Jz {s1:L.gJ}{Ce :List N.iM}{o:Own}{D:Nat->Prop}(Jk:Mv D w W)(hD:∀k,D k->iO mb rb vO vS vR vT wv k)(cd:dG w (kZ mb rb vS vR vT) (kZ mb rb v1 vR vT))(Sf :eV w' mb rb v' (aH aF ((all.length:Int)+1)) vW v1 vR vT s1)(kT :jE w' Ce (wv++[o]) v' (aH aF ((all.length:Int)+1)))(pL:Mv (λj=>j=mb\/vO.ownBlock=aE j) W w')(Gw:∀j,v'.ownBlock=aE j->vO.ownBlock=aE j\/W.heap.size<=j)(Nn:∀b,o=.qW b->w.heap.size<=b)(hm:m.all=Ce)(hs:s1.words=s.words/\s1.depth=s.depth/\s1.out=m.out/\s1.S=m.S/\s1.R=m.R/\s1.steps=m.steps)(p:Nat)(u:aG)(hu:u=aH aF p):nZ mb rb vO vW vS vR vT wv s m 0 p w (w'.setCell ⟨rb,2,aC⟩ u):=by
 subst hm;have TQ:Mv (kZ mb rb v1 vR vT) w' (w'.setCell ⟨rb,2,aC⟩ u):=Mv.setCell (T:=kZ mb rb v1 vR vT) (Mv.refl _ _) (.inl (.inr (.inl rfl))) _;refine⟨v',_,v1,vR,vT,wv++[o],_,Sf.setPos p u hu,kT.mv Sf TQ,?_,?_,hs.1,rfl,hs.2.1,hs.2.2.1,λ_=>hs.2.2.2⟩
 ·have h1:Mv (iO mb rb vO vS vR vT wv) w W:=Jk.weaken hD;have h2:Mv (iO mb rb vO vS vR vT wv) W w' :=pL.weaken λk hk=>by
   rcases hk with rfl|hk
   ·exact .inl (.inl rfl)
   ·exact .inr (.inr hk)
  exact(h1.trans (dG.refl _ _) h2).setCell (.inl (.inl (.inr (.inl rfl)))) _
 ·intro k hk;have hsz:=Jk.size;rcases hk with hk|hk|hk
  ·rcases cd k hk with x|x
   ·exact .inl (.inl x)
   ·exact .inr x
  ·rcases F9 hk with x|x
   ·exact .inl (.inr (.inl x))
   ·exact .inr (Nn k x)
  ·rcases Gw k hk with x|x
   ·exact .inl (.inr (.inr x))
   ·exact .inr (by omega)
theorem v7 (w:aY)(mb rb:Nat)(vO vB vW vS vR vT:aG)(wv:List Own)(s:L.gJ)(all:List N.iM)(h:lL w mb rb vO vB vW vS vR vT wv s all)(hp:s.pos<s.words.length)(hw:xT s)(hold:all.length+1<=1000000000000):
 bH aQ 90 #[aK (aE ⟨rb,0,aC⟩)] w λr w' =>r=aM (aH aF (N.one (fR s all) s.words s.pos To).2.1)/\qB mb rb vO vW vS vR vT wv s (N.one (fR s all) s.words s.pos To) w w' :=by
 have lQ:=Ac w mb rb vO vB vW vS vR vT wv s all (fR s all) rfl h.run h.own hp hw;rw[Ih];by_cases he:N.dB (fR s all) s.words[s.pos+1]? aX=0
 case neg=>
  rw[eJ he];refine(H7 w rb _ he (bE lQ)).mono λr w' hh=>⟨hh.1,?_⟩
  unfold qB Rr;rw[dL he];exact nZ.pD (gU.stay h.run h.own hh.2)
 case pos=>
  rw[dL (by simpa using he)];rw[he] at lQ;obtain⟨t,ht⟩:=rY he;have Gm:=Ba he;have eQ:(dN all wv).length<40:=by rw[qS all wv h.own.len];exact Gm
  have Vm:=(hw t (cG ht)).2;rw[ht];have Sg:=h.own.begun;have xE:=h.run;rw[Sg] at xE;have Jc:s.pos<=1000:=by have:=h.run.wl;omega
  refine(Xo w rb s.pos ⟨t.toArray⟩ (1000+(all.length:Int)) (λW=>eV W mb rb vO (aH aF ((all.length:Int)+1)) vW vS vR vT s/\Mv (λk=>k=mb) w W)
   (λw' =>qB mb rb vO vW vS vR vT wv s ({fR s all with all:=all++[⟨t,2,0,[],aX,aV⟩]},0,0,s.pos+2) w (w'.setCell ⟨rb,2,aC⟩ (aH aF ((s.pos:Int)+1)))) Jc (bE lQ) (bE λW hb=>?_) (bE λW hQ=>?_)).mono ?_
  ·refine(Ea W mb rb vO vW vS vR vT all.length s t (xE.below hb) h.own.qU ht (by omega)).mono λr w' hh=>⟨hh.1,hh.2.1,?_⟩
   exact(Mv.dS hb _).trans (dG.refl _ _) hh.2.2
  ·obtain⟨Sb,Jk⟩:=hQ;have Lz:bA W.heap.size W (W.alloc (aU #[aI ⟨t.toArray⟩,aH aF (1000+(all.length:Int)),aH aF 0] 129)):=(bF _ _).alloc (bD _) _;have eY:(W.alloc (aU #[aI ⟨t.toArray⟩,aH aF (1000+(all.length:Int)),aH aF 0] 129)).heap[W.heap.size]?=aE (aU #[aI ⟨t.toArray⟩,aH aF (1000+(all.length:Int)),aH aF 0] 129):=heap_alloc_new W _;have hmA:Mv (λk=>k=mb) w (W.alloc (aU #[aI ⟨t.toArray⟩,aH aF (1000+(all.length:Int)),aH aF 0] 129)):=Jk.alloc _;have hrA:=Sb.below Lz;have hWs:=Jk.size;generalize(W.alloc (aU #[aI ⟨t.toArray⟩,aH aF (1000+(all.length:Int)),aH aF 0] 129))=W1 at*;have Nn:∀b,Own.qW W.heap.size=.qW b->w.heap.size<=b:=λb hb=>by
    injection hb with hb;omega
   refine(Iu w W1 mb rb vO vB vW vS vR vT wv s all h.own ⟨t,2,0,[],aX,aV⟩ (.qW W.heap.size) _ _ rfl rfl eQ ?_ hrA ?_ (λc hc=>by simp at hc) Nn hold).mono ?_
   ·intro k hk;exact hmA.block k (kH hk) λx=>jC h.run hk (.inl x)
   ·intro w' O0;refine⟨rfl,⟨by show(-9223372036854775808:Int)<=0;decide,by show(0:Int)<=9223372036854775807;decide⟩,?_⟩;refine(O0 W.heap.size (cC eY) ?_ ?_).trans eY
    ·intro x;have:=cC h.run.m;omega
    ·intro x;have:=(h.own.row.lt _ x).2;omega
   ·rintro r w' ⟨rfl,v',Sf,kT,pL,Gw⟩;refine⟨rfl,?_,aZ Sf.r rfl,bG 2 Sf.r⟩;exact Jz (m:={fR s all with all:=all++[⟨t,2,0,[],aX,aV⟩]}) hmA (λk hk=>.inl (.inl hk)) (dG.refl _ _) Sf kT pL Gw Nn rfl ⟨rfl,rfl,rfl,rfl,rfl,rfl⟩ (s.pos+1) _ (by simp)
  ·rintro r w' ⟨rfl,W,hQ,rfl⟩;exact⟨rfl,hQ⟩
theorem IU (w:aY)(mb rb:Nat)(vO vB vW vS vR vT:aG)(s:L.gJ)(x:Int)(fG:eV w mb rb vO vB vW vS vR vT s)(hx:s.S.getLast?=aE x):
 bH aQ 114 #[aK (aE ⟨rb,0,aC⟩),aH aF 1] w λr w' =>
  ∃g o c v1,r=aM (bC #[aJ (aE ⟨g,o,aC⟩) 1 c,aH aF 0])/\v1.ownBlock=aE g/\w'.cell? ⟨g,o,aC⟩=aE (aH aF x)/\
   eV w' mb rb vO vB vW v1 vR vT {s with S:=s.S.dropLast}/\Mv (kZ mb rb vS vR vT) w w' /\dG w (kZ mb rb vS vR vT) (kZ mb rb v1 vR vT):=by
 have jD:s.S≠[]:=by
  rintro e;rw[e] at hx;cases hx
 have h1:1<=s.S.length:=List.length_pos_iff.2 jD;rcases jB fG.st with ⟨_,h0,_⟩|⟨g,gG,rfl,lS⟩
 ·omega
 have hs:=wY (t:=1) fG.st lS;have Bg:=aZ (j:=0) fG.m rfl;generalize hxx:(if gG=s.S.length-1 then(aE ⟨g,0,aC⟩:Option Addr) else aE ⟨g,s.S.length-1,aC⟩)=y at hs;refine(Vv w mb rb g s.S.length 1 gG (aZ fG.r rfl) Bg (bG 0 fG.m) fG.sl (by omega) lS y hxx).mono ?_;rintro r w' ⟨rfl,rfl⟩;have O0:s.S.length-(s.S.length-1)=1:=by omega
 rw[O0] at hs ⊢;have NQ:∃o,y=aE ⟨g,o,aC⟩:=by
  rw[<-hxx]
  split
  ·exact⟨_,rfl⟩
  ·exact⟨_,rfl⟩
 obtain⟨o,rfl⟩:=NQ;have Iz:=fG.taken 1;rw[<-List.dropLast_eq_take] at Iz;refine⟨g,o,_,_,rfl,rfl,?_,Iz,((Mv.refl _ _).setCell (.inl (.inl rfl)) _).drew,dG.refl _ _⟩;rcases hs with ⟨h1,_⟩|⟨b,o',c',h2,h3,h4⟩
 ·cases h1
 ·injection h2 with h2;injection h2 with h2;injection h2 with h5 h6;subst h5 h6;have hgm:g≠mb:=λe=>bW fG.st fG.m (by decide) (by rw[e];rfl)
  have:=h4 0 (aH aF x) (by
   rw[<-List.map_drop,cI,List.getElem?_drop,Nat.add_zero,<-List.getLast?_eq_getElem?,hx];rfl)
  exact cQ this hgm
def Uq:N.eE:=[99,111,110,115,116,97,110,116]
theorem Ht (m:N.cE)(ws:List N.eE)(p:Nat):N.one m ws p Uq=if N.dB m ws[p+1]? aX≠0 then(m,N.dB m ws[p+1]? aX,p,p+2) else
 match N.pop m with
 |none=>(m,6,p,p+2)
 |some (m1,n)=>({m1 with all:=m1.all++[⟨(ws[p+1]?).getD [],3,n,[],aX,aV⟩]},0,0,p+2):=rfl
theorem J9 (w:aY)(mb rb:Nat)(vO vB vW vS vR vT:aG)(wv:List Own)(s:L.gJ)(all:List N.iM)(h:lL w mb rb vO vB vW vS vR vT wv s all)(hp:s.pos<s.words.length)(hw:xT s)(hold:all.length+1<=1000000000000):
 bH aQ 91 #[aK (aE ⟨rb,0,aC⟩)] w λr w' =>r=aM (aH aF (N.one (fR s all) s.words s.pos Uq).2.1)/\qB mb rb vO vW vS vR vT wv s (N.one (fR s all) s.words s.pos Uq) w w' :=by
 have lQ:=Ac w mb rb vO vB vW vS vR vT wv s all (fR s all) rfl h.run h.own hp hw;rw[Ht];by_cases he:N.dB (fR s all) s.words[s.pos+1]? aX=0
 case neg=>
  rw[eJ he];refine(x8 w rb _ he (bE lQ)).mono λr w' hh=>⟨hh.1,?_⟩
  unfold qB Rr;rw[dL he];exact nZ.pD (gU.stay h.run h.own hh.2)
 case pos=>
  rw[dL (by simpa using he)];rw[he] at lQ;obtain⟨t,ht⟩:=rY he;have Gm:=Ba he;have eQ:(dN all wv).length<40:=by rw[qS all wv h.own.len];exact Gm
  have Vm:=(hw t (cG ht)).2;rw[ht];have Jc:s.pos<=1000:=by have:=h.run.wl;omega
  unfold N.pop;cases hS:s.S.getLast? with
  |none=>
   have Gy:(fR s all).S.getLast?=aC:=hS;rw[Gy];simp only;have qJ:s.S=[]:=List.getLast?_eq_none_iff.1 hS;refine(Ud w rb 6 (by decide) (λw' =>bA w.heap.size w w') (bE lQ) (bE λW hb=>?_)).mono λr w' hh=>⟨hh.1,?_⟩
   ·refine(Hg W mb rb 1 vO vB vW vS vR vT s (h.run.below hb) (bD _) (by decide)).mono λr w' hh=>?_
    rw[eJ (by rw[qJ];decide)] at hh;exact⟨_,hh.1,by rw[hh.2];exact hb⟩
   ·exact nZ.pD (gU.stay h.run h.own hh.2)
  |some x=>
   have Gy:(fR s all).S.getLast?=aE x:=hS;rw[Gy];simp only[Option.getD_some];have Q7:dQ x:=h.run.si x (List.mem_of_getLast? hS);refine(Yo w rb s.pos x ⟨t.toArray⟩ (1000+(all.length:Int))
    (λw' =>qB mb rb vO vW vS vR vT wv s ({fR s all with S:=s.S.dropLast,all:=all++[⟨t,3,x,[],aX,aV⟩]},0,0,s.pos+2) w (w'.setCell ⟨rb,2,aC⟩ (aH aF ((s.pos:Int)+1)))) Jc (bE lQ) (bE λW hb=>?_)).mono ?_
   ·refine(IU W mb rb vO vB vW vS vR vT s x (h.run.below hb) hS).mono ?_;rintro r w1 ⟨g,o,c,v1,rfl,Gv,cx,vG,qV,u6⟩;refine⟨g,o,c,rfl,cx,?_⟩;have hr1' :eV w1.drew mb rb vO (aH aF (all.length:Int)) vW v1 vR vT {s with S:=s.S.dropLast}:=by
     have:=h.own.begun;rw[this] at vG;exact vG.below (bF _ _).drew
    have zX:g≠mb:=λe=>bW vG.st vG.m (by decide) (by rw[<-e];exact Gv)
    obtain⟨cur,Nx⟩:=cZ vG.st Gv;have l6:Mv (kZ mb rb vS vR vT) w w1:=(Mv.dS hb _).trans (dG.refl _ _) qV;have hfw1:dG w (kZ mb rb vS vR vT) (kZ mb rb v1 vR vT):=(dG.refl _ _).trans hb.size u6;refine(Ea w1.drew mb rb vO vW v1 vR vT all.length {s with S:=s.S.dropLast} t hr1' h.own.qU ht (by omega)).mono ?_;rintro r w2 ⟨rfl,rF,sZ⟩;have sZ:Mv (λk=>k=mb) w1 w2:=⟨sZ.os,sZ.tape,sZ.output,sZ.size,sZ.block⟩
    have eD:=sZ.block g (cC Nx) zX;have cx2:w2.cell? ⟨g,o,aC⟩=aE (aH aF x):=by rw[aY.cell?_of_block (w:=w1) eD];exact cx
    have Vk:Mv (kZ mb rb vS vR vT) w w2:=l6.trans (dG.refl _ _) (sZ.weaken λk hk=>.inl hk);refine⟨rfl,cx2,?_⟩;refine(Iu w w2 mb rb vO vB vW v1 vR vT wv {s with S:=s.S.dropLast} all h.own ⟨t,3,x,[],aX,aV⟩ (.cons t (1000+(all.length:Int)) x) _ _ rfl rfl eQ ?_ rF (λw' _=>⟨rfl,Q7,rfl,rfl,rfl⟩) (λc hc=>by simp at hc) (λb hb=>by cases hb) hold).mono ?_
    ·intro k hk;exact Vk.block k (kH hk) λy=>jC h.run hk y
    ·rintro r w3 ⟨rfl,v',Sf,kT,pL,Gw⟩;refine⟨rfl,?_,?_,aZ Sf.r rfl,bG 2 Sf.r⟩
     ·exact Jz (m:={fR s all with S:=s.S.dropLast,all:=all++[⟨t,3,x,[],aX,aV⟩]}) Vk (λk hk=>.inl hk) hfw1 Sf kT pL Gw (λb hb=>by cases hb) rfl ⟨rfl,rfl,rfl,rfl,rfl,rfl⟩ (s.pos+1) _ (by simp)
     ·have ag:=eD.trans Nx;have hno:¬(g=mb\/vO.ownBlock=aE g):=by
       rintro(y|y)
       ·exact zX y
       ·have hk:=nK h.own.row (.inr rfl) y;have ZL:=Vk.block g (kH hk) λz=>jC h.run hk z
        obtain⟨ND,P0⟩:=cZ h.own.row y;rw[P0,ag] at ZL;injection ZL with ZL;injection ZL with _ ZL _
        revert ZL
        decide
      exact(aY.cell?_of_block (w:=w2) (pL.block g (cC ag) hno) ..).trans cx2
   ·rintro r w' ⟨rfl,W,hQ,rfl⟩;exact⟨rfl,hQ⟩
theorem Im (all l:List N.iM)(name:N.eE):∀n,n<=all.length->N.eS (all++l) name n=N.eS all name n
 |0,_=>rfl
 |n+1,h=>by
  unfold N.eS;rw[bT (by omega),Im all l name n (by omega)]
theorem Fi (all:List N.iM)(e:N.iM)(name:N.eE)(h:N.there e=aV):N.eS (all++[e]) name (all++[e]).length=N.eS all name all.length:=by
 rw[bN,List.length_singleton];rw[show N.eS (all++[e]) name (all.length+1)=N.eS (all++[e]) name all.length by
  rw[N.eS,bP (bD _),Nat.sub_self];simp[h]]
 exact Im all [e] name _ (bD _)
theorem Vz (m m' :N.cE)(hm:∀name,N.fP m' name=N.fP m name)(ws:List N.eE):∀(f at' :Nat) (o:List N.eE) (b:List N.Cell),N.reads m' ws f at' o b=N.reads m ws f at' o b
 |0,_,_,_=>rfl
 |f+1,at',o,b=>by
  have ih:=Vz m m' hm ws f;have h1:∀s,N.iU m' s=N.iU m s:=λs=>by unfold N.iU;rw[hm]
  have h2:∀x,N.dB m' x aV=N.dB m x aV:=λx=>by
   unfold N.dB;simp
  rw[N.reads,N.reads];simp only[h1,h2,hm,ih]
variable {B e n:Nat}{v:aG}{xs:List aG}
theorem tO (h:w.ownsRow B e 1 v n xs):w.ownsRow 0 e 1 v n xs:=by
 refine⟨h.1,?_⟩;rcases h.2 with h1|⟨g,cap,cur,h2,_,h3⟩
 ·exact .inl h1
 ·exact .inr ⟨g,cap,cur,h2,bZ _,h3⟩
theorem IC {e:N.iM}(he:e.ended=aV)(h:lI (all++[e]) (all++[e]).length c):lI all all.length c:=by
 rcases h with h|⟨h1,k,x,h2,h3,h4,h5⟩|h|h
 ·exact .inl h
 ·rcases N.hU h4 with hk|⟨_,hx⟩
  ·exact .inr (.inl ⟨h1,k,x,h2,(bI.1 hk).1,hk,h5⟩)
  ·rw[hx,he] at h5;cases h5
 ·exact .inr (.inr (.inl h))
 ·exact .inr (.inr (.inr h))
theorem Qf {s1:L.gJ}{n:Int}{o:Own}{D:Nat->Prop}(Jk:Mv D w W)(hD:∀k,D k->iO mb rb vO vS vR vT wv k)(cd:dG w (kZ mb rb vS vR vT) (kZ mb rb v1 vR vT))(Sf :eV w' mb rb v' (aH aF n) vW v1 vR vT s1)(kT :jE w' m.all (wv++[o]) v' (aH aF n))(pL:Mv (λj=>j=mb\/vO.ownBlock=aE j) W w')(Gw:∀j,v'.ownBlock=aE j->vO.ownBlock=aE j\/W.heap.size<=j)(Nn:∀b,o=.qW b->w.heap.size<=b)(hs:s1.words=s.words/\s1.depth=s.depth/\s1.out=m.out/\(code=0->s1.S=m.S/\s1.R=m.R/\s1.steps=m.steps)):nZ mb rb vO vW vS vR vT wv s m code s1.pos w w' :=by
 refine⟨v',_,v1,vR,vT,wv++[o],s1,Sf,kT,?_,?_,hs.1,rfl,hs.2.1,hs.2.2.1,hs.2.2.2⟩
 ·have h1:Mv (iO mb rb vO vS vR vT wv) w W:=Jk.weaken hD;have h2:Mv (iO mb rb vO vS vR vT wv) W w' :=pL.weaken λk hk=>by
   rcases hk with rfl|hk
   ·exact .inl (.inl rfl)
   ·exact .inr (.inr hk)
  exact h1.trans (dG.refl _ _) h2
 ·intro k hk;have hsz:=Jk.size;rcases hk with hk|hk|hk
  ·rcases cd k hk with x|x
   ·exact .inl (.inl x)
   ·exact .inr x
  ·rcases F9 hk with x|x
   ·exact .inl (.inr (.inl x))
   ·exact .inr (Nn k x)
  ·rcases Gw k hk with x|x
   ·exact .inl (.inr (.inr x))
   ·exact .inr (by omega)
def Ng:N.eE:=[58]
theorem Ob (m:N.cE)(ws:List N.eE)(p:Nat):N.one m ws p Ng=if N.dB m ws[p+1]? aX≠0 then(m,N.dB m ws[p+1]? aX,p,p+2) else
 ({m with all:=m.all++[⟨(ws[p+1]?).getD [],1,0,(N.reads m ws (ws.length+1) (p+2) [] []).1,(N.reads m ws (ws.length+1) (p+2) [] []).2.1==0,aV⟩]},(N.reads m ws (ws.length+1) (p+2) [] []).2.1,(N.reads m ws (ws.length+1) (p+2) [] []).2.2.1,(N.reads m ws (ws.length+1) (p+2) [] []).2.2.2):=rfl
theorem X5 (w:aY)(mb rb:Nat)(vO vB vW vS vR vT:aG)(wv:List Own)(s:L.gJ)(all:List N.iM)(h:lL w mb rb vO vB vW vS vR vT wv s all)(hp:s.pos<s.words.length)(hw:xT s)(hold:all.length+1<=1000000000000):
 bH aQ 88 #[aK (aE ⟨rb,0,aC⟩)] w λr w' =>r=aM (aH aF (N.one (fR s all) s.words s.pos Ng).2.1)/\qB mb rb vO vW vS vR vT wv s (N.one (fR s all) s.words s.pos Ng) w w' :=by
 have lQ:=Ac w mb rb vO vB vW vS vR vT wv s all (fR s all) rfl h.run h.own hp hw;rw[Ob];by_cases he:N.dB (fR s all) s.words[s.pos+1]? aX=0
 case neg=>
  rw[eJ he];refine(BO w rb _ he (bE lQ)).mono λr w' hh=>⟨hh.1,?_⟩
  unfold qB Rr;rw[dL he];exact nZ.pD (gU.stay h.run h.own hh.2)
 case pos=>
  rw[dL (by simpa using he)];rw[he] at lQ;obtain⟨t,ht⟩:=rY he;have Gm:=Ba he;have eQ:(dN all wv).length<40:=by rw[qS all wv h.own.len];exact Gm
  have Vm:=(hw t (cG ht)).2;rw[ht];simp only[Option.getD_some];have Sg:=h.own.begun;have xE:=h.run;rw[Sg] at xE;generalize dJ:N.reads (fR s all) s.words (s.words.length+1) (s.pos+2) [] []=res;refine(L1 w rb ⟨t.toArray⟩ (1000+(all.length:Int)) (λW=>eV W mb rb vO (aH aF ((all.length:Int)+1)) vW vS vR vT s/\Mv (λk=>k=mb) w W)
   (λcode w' =>code=res.2.1/\qB mb rb vO vW vS vR vT wv s ({fR s all with all:=all++[⟨t,1,0,res.1,res.2.1==0,aV⟩]},res.2.1,res.2.2.1,res.2.2.2) w w') (bE lQ) (bE λW hb=>?_) (bE λw2 hQ=>?_)).mono ?_
  ·refine(Ea W mb rb vO vW vS vR vT all.length s t (xE.below hb) h.own.qU ht (by omega)).mono λr w' hh=>⟨hh.1,hh.2.1,?_⟩
   exact(Mv.dS hb _).trans (dG.refl _ _) hh.2.2
  ·obtain⟨rF,sZ⟩:=hQ;have eD:bA w2.heap.size w2 (w2.alloc (aU #[aI ⟨t.toArray⟩,aH aF (1000+(all.length:Int))] 127)):=(bF _ _).alloc (bD _) _;have eY:(w2.alloc (aU #[aI ⟨t.toArray⟩,aH aF (1000+(all.length:Int))] 127)).heap[w2.heap.size]?=aE (aU #[aI ⟨t.toArray⟩,aH aF (1000+(all.length:Int))] 127):=heap_alloc_new w2 _;have Em:Mv (λk=>k=mb) w (w2.alloc (aU #[aI ⟨t.toArray⟩,aH aF (1000+(all.length:Int))] 127)):=sZ.alloc _;have YV:=rF.below eD;have hrb2:=cC rF.r;generalize(w2.alloc (aU #[aI ⟨t.toArray⟩,aH aF (1000+(all.length:Int))] 127))=w0 at*;have hkw0:∀k,oV w k->w0.heap[k]?=w.heap[k]?:=λk hk=>Em.block k (kH hk) λx=>jC h.run hk (.inl x)
   have fK:jE w0 (all++[⟨t,1,0,res.1,aV,aV⟩]) (wv++[.cons [] 0 0]) vO (aH aF ((all.length:Int)+1)):=by
    refine h.own.more _ _ (λk hk _=>hkw0 k hk) ?_ (λx=>by cases x) (λx=>by cases x) ?_ (λb hb=>by cases hb) hold
    ·rw[dL (by simp[N.there]),List.append_nil];exact cK h.own.row λk hk=>hkw0 k (nK h.own.row (.inr rfl) hk)
    ·rw[dL (by simp[N.there]),List.append_nil];omega
   have hrds:N.reads (fR s (all++[⟨t,1,0,res.1,aV,aV⟩])) s.words (s.words.length+1) (s.pos+2) [] []=res:=by
    rw[<-dJ];refine Vz (fR s all) _ (λname=>?_) _ _ _ _ _;exact Fi all ⟨t,1,0,_,aV,aV⟩ name rfl
   have Bt:=Yc w0 mb rb vO _ vW vS vR vT _ s (all++[⟨t,1,0,res.1,aV,aV⟩]) (fR s (all++[⟨t,1,0,res.1,aV,aV⟩])) rfl YV fK hp (λu hu=>by have:=(hw u hu).2;omega);rw[hrds] at Bt;refine Bt.mono ?_;rintro r w' ⟨v,code,rfl,zN,herr,uS⟩;refine⟨v,code,rfl,?_,λhc=>⟨zN,?_⟩,λhc=>?_⟩
   ·have hR:∃p,mJ w0 w' mb rb vW vT s p:=by
     by_cases hz:code=0
     ·obtain⟨p,_,_,_,_,_,hR,_⟩:=uS hz;exact⟨p,hR⟩
     ·exact⟨_,herr hz⟩
    obtain⟨p,hR⟩:=hR;exact(hR.mv.block w2.heap.size (cC eY) (by omega)).trans eY
   ·have hR:=herr hc;have fG:=hR.run YV;have Tl:=hR.own YV fK;have t7:res.2.1≠0:=by rw[<-zN];exact hc
    have am:Mv (λk=>k=mb\/k=rb) w w' :=(Em.weaken λk hk=>.inl hk).trans (dG.refl _ _) (hR.mv.weaken λk hk=>.inr hk);unfold qB Rr;simp only;rw[dL t7,show(res.2.1==0)=aV from beq_eq_false_iff_ne.2 t7];exact Qf (s1:={s with pos:=res.2.2.1}) (m:={fR s all with all:=all++[⟨t,1,0,res.1,aV,aV⟩]}) am (λk hk=>.inl (by rcases hk with hk|hk;exact .inl hk;exact .inr (.inl hk))) (dG.refl _ _) fG Tl (Mv.refl _ _) (λj hj=>.inl hj) (λb hb=>by cases hb) ⟨rfl,rfl,rfl,λx=>(t7 x).elim⟩
   ·obtain⟨p,d,vP,pv,hp1,hp2,hR,hd,zC,Sr,nQ⟩:=uS hc;have fG:=hR.run YV;have t7:res.2.1=0:=by rw[<-zN];exact hc
    obtain⟨aD,cD,CZ,_,_⟩:=cU hd.body;refine⟨aD,d.body.length,cD,CZ,?_⟩;have Lz:bA w'.heap.size w' (w'.alloc (aU #[aI ⟨t.toArray⟩,aH aF (1000+(all.length:Int)),v] 180)):=(bF _ _).alloc (bD _) _;have bg:(w'.alloc (aU #[aI ⟨t.toArray⟩,aH aF (1000+(all.length:Int)),v] 180)).heap[w'.heap.size]?=aE (aU #[aI ⟨t.toArray⟩,aH aF (1000+(all.length:Int)),v] 180):=heap_alloc_new w' _;have am:Mv (λk=>k=mb\/k=rb) w w' :=(Em.weaken λk hk=>.inl hk).trans (dG.refl _ _) (hR.mv.weaken λk hk=>.inr hk);have hmA:Mv (λk=>k=mb\/k=rb) w (w'.alloc (aU #[aI ⟨t.toArray⟩,aH aF (1000+(all.length:Int)),v] 180)):=am.alloc _;have hrA:=fG.below Lz;have hdA:=hd.below Lz;have hsz:=am.size;have hm0s:=Em.size;generalize(w'.alloc (aU #[aI ⟨t.toArray⟩,aH aF (1000+(all.length:Int)),v] 180))=W at*;have xF:∀c∈res.1,lI all all.length c:=λc hc=>IC rfl (zC.ok c (by rw[nQ];exact hc))
    refine(Iu w W mb rb vO vB vW vS vR vT wv {s with pos:=p} all h.own ⟨t,1,0,res.1,aX,aV⟩ (.defn w'.heap.size) _ _ rfl rfl eQ ?_ hrA ?_ xF (λb hb=>by cases hb) hold).mono ?_
    ·intro k hk;refine hmA.block k (kH hk) ?_;rintro(x|x)
     ·exact jC h.run hk (.inl x)
     ·exact jC h.run hk (.inr (.inl x))
    ·intro w3 O0;have far:∀k,w.heap.size<=k->k<W.heap.size->w3.heap[k]?=W.heap[k]?:=λk xI tC=>O0 k tC (λx=>by have:=cC h.run.m;omega) λx=>by
      have:=(h.own.row.lt _ x).2;omega
     refine⟨rfl,v,d.body,(far _ hsz (cC bg)).trans bg,?_,nQ,zC.small,?_⟩
     ·have e1:d.body.map (fB (wv++[.defn w'.heap.size]))=d.body.map (fB (wv++[.cons [] 0 0])):=by
       apply List.map_congr_left;intro y hy;obtain⟨c,g⟩:=y;have P0:=xF c (by rw[<-nQ];exact List.mem_map_of_mem (f:=(·.1)) hy);rw[Cm _ g h.own.len P0,Cm _ g h.own.len P0]
      rw[e1];refine tO (cK hdA.body λk hk=>far k ?_ (hdA.body.lt k hk).2);have:=qC hdA.body hk;omega
     ·intro q c g hq Gx;show((N.fwd c.name||N.bwd c.name)=aX->g=N.goal res.1 q c.name)/\N.Bl res.1 q c.name g;rw[<-nQ];exact⟨λhf=>N.Sq zC.Nv Sr hq Gx hf,N.Rt zC.deep Sr hq Gx⟩
    ·rintro r w3 ⟨rfl,v',Sf,kT,pL,Gw⟩;refine⟨rfl,t7.symm,?_⟩;unfold qB Rr;simp only;rw[eJ t7,t7,hp1,Nat.add_sub_cancel];exact Qf (s1:={s with pos:=p}) (m:={fR s all with all:=all++[⟨t,1,0,res.1,aX,aV⟩]}) hmA (λk hk=>.inl (by rcases hk with hk|hk;exact .inl hk;exact .inr (.inl hk))) (dG.refl _ _) Sf kT pL Gw (λb hb=>by cases hb) ⟨rfl,rfl,rfl,λ_=>⟨rfl,rfl,rfl⟩⟩
  ·rintro r w' ⟨code,rfl,hc,hg⟩;exact⟨by rw[hc],hg⟩
theorem nZ.step (h:nZ mb rb vO vW vS vR vT wv s m code p w W)(q:Nat)(u:aG)(hu:u=aH aF q):nZ mb rb vO vW vS vR vT wv s m code q w (W.setCell ⟨rb,2,aC⟩ u):=by
 obtain⟨oJ,Ci,v1,v2,v3,Kp,s',h1,h2,h3,h4,h5,h6,h7⟩:=h;have TQ:Mv (kZ mb rb v1 v2 v3) W (W.setCell ⟨rb,2,aC⟩ u):=Mv.setCell (T:=kZ mb rb v1 v2 v3) (Mv.refl _ _) (.inl (.inr (.inl rfl))) _;exact⟨oJ,Ci,v1,v2,v3,Kp,_,h1.setPos q u hu,h2.mv h1 TQ,h3.setCell (.inl (.inl (.inr (.inl rfl)))) _,h4,h5,rfl,h7⟩
def Uh:N.eE:=[39]
theorem Az (m:N.cE)(ws:List N.eE)(p:Nat):N.one m ws p Uh=if N.dB m ws[p+1]? aV≠0 then(m,N.dB m ws[p+1]? aV,p,p+2) else
 match N.fP m ((ws[p+1]?).getD []) with
 |none=>(m,2,p,p+2)
 |some k=>((N.push m (1000+k)).1,(N.push m (1000+k)).2,p,p+2):=rfl
theorem yG (m m' :N.cE)(x:Option N.eE):N.dB m x aV=N.dB m' x aV:=by
 unfold N.dB;simp
theorem Ie {x:Option N.eE}(h:N.dB m x aV≠0):N.dB m x aV=4:=by
 unfold N.dB at h ⊢;cases x with
 |none=>rfl
 |some t=>
  simp only[Bool.false_and,Bool.or_false,Bool.false_eq_true,false_and,if_false] at h ⊢;by_cases hb:L.fJ t=aX
  ·rw[eJ hb]
  ·rw[dL hb] at h;exact(h rfl).elim
theorem Zh (w:aY)(mb rb:Nat)(vO vB vW vS vR vT:aG)(wv:List Own)(s:L.gJ)(all:List N.iM)(h:lL w mb rb vO vB vW vS vR vT wv s all)(hp:s.pos<s.words.length):
 bH aQ 89 #[aK (aE ⟨rb,0,aC⟩)] w λr w' =>r=aM (aH aF (N.one (fR s all) s.words s.pos Uh).2.1)/\qB mb rb vO vW vS vR vT wv s (N.one (fR s all) s.words s.pos Uh) w w' :=by
 have lQ:=Ga w mb rb vO vB vW vS vR vT wv s all h.run h.own hp;have Mb:∀w',bA w.heap.size w w' ->∀code,nZ mb rb vO vW vS vR vT wv s (fR s all) code s.pos w w' :=λw' hb code=>nZ.pD (gU.stay h.run h.own hb)
 rw[Az];unfold Ld at lQ;by_cases he:N.dB (fR s all) s.words[s.pos+1]? aV=0
 case neg=>
  have Kt:N.dB (⟨all,[],[],[],0⟩:N.cE) s.words[s.pos+1]? aV≠0:=by rw[yG _ (fR s all)];exact he
  rw[eJ Kt] at lQ;rw[eJ he,Ie he];exact(Iy w rb _ 4 rfl _ (bE lQ)).mono λr w' hh=>⟨hh.1,Mb w' hh.2 _⟩
 case pos=>
  have Kt:¬N.dB (⟨all,[],[],[],0⟩:N.cE) s.words[s.pos+1]? aV≠0:=by rw[yG _ (fR s all)];simpa using he
  rw[dL Kt] at lQ;rw[dL (by simpa using he)];generalize(s.words[s.pos+1]?).getD []=name at*;show bH _ _ _ _ λr w' =>r=aM (aH aF (match N.eS all name all.length with
   |none=>(fR s all,(2:Int),s.pos,s.pos+2)
   |some k=>((N.push (fR s all) (1000+k)).1,(N.push (fR s all) (1000+k)).2,s.pos,s.pos+2)).2.1)/\qB mb rb vO vW vS vR vT wv s (match N.eS all name all.length with
   |none=>(fR s all,(2:Int),s.pos,s.pos+2)
   |some k=>((N.push (fR s all) (1000+k)).1,(N.push (fR s all) (1000+k)).2,s.pos,s.pos+2)) w w'
  cases hk:N.eS all name all.length with
  |none=>
   rw[hk] at lQ;exact(Iy w rb _ 2 rfl _ (bE lQ)).mono λr w' hh=>⟨hh.1,Mb w' hh.2 _⟩
  |some k=>
   rw[hk] at lQ;simp only at lQ ⊢;obtain⟨Hd,e,UN,_,Ss⟩:=mN all _ _ _ hk;obtain⟨o,FZ⟩:∃o,wv[k]?=aE o:=⟨_,bL (by rw[h.own.len];exact Hd)⟩
   have hv:mE wv (aE k)=iW o:=by unfold mE;rw[Option.bind_some,FZ];rfl
   have pM:=h.own.tA k e o UN FZ (jX Ss);rw[hv] at lQ;obtain⟨T,v,Tg,_⟩:=pG pM.head;rw[Tg] at lQ;have Jc:s.pos<=500:=by have:=h.run.wl;omega
   have hold:=h.own.qU;refine(Uj w rb s.pos T v ⟨e.name.toArray⟩ (1000+(k:Int)) (N.push (fR s all) (1000+k)).2 (λw' =>bA w.heap.size w w') (λW=>gU mb rb vO vB vW vS vR vT wv s (N.push (fR s all) (1000+k)).1 (N.push (fR s all) (1000+k)).2 w W) Jc (bE (lQ.mono λr w' hh=>⟨hh.1,?_,hh.2⟩)) (bE λw1 W fF hb=>?_)).mono ?_
   ·obtain⟨T2,v2,UD,_,bj⟩:=pG ((h.own.below hh.2).tA k e o UN FZ (jX Ss)).head;have e3:bO T v=bO T2 v2:=Tg.symm.trans UD;clear Tg UD;injection e3 with e1 e2;rw[e1,e2];exact bj
   ·have tB:bA w.heap.size w W:=fF.trans (hb.mono fF.size);refine(J0 W mb rb vO vB vW vS vR vT wv s all (1000+(k:Int)) (h.below tB) ⟨by omega,by omega⟩).mono λr w' hh=>?_
    have ZO:w'.cell? ⟨rb,2,aC⟩=aE (aH aF (s.pos:Int))/\w'.frozen? ⟨rb,2,aC⟩=aV:=by
     obtain⟨_,_,_,_,s',g1,_,_,_,_,g6,_⟩:=hh.2;rw[<-g6];exact⟨aZ g1.r rfl,bG 2 g1.r⟩
    exact⟨hh.1,ZO.1,ZO.2,gU.after tB hh.2⟩
   ·rintro r w' ⟨rfl,W,hg,qI⟩;refine⟨rfl,?_⟩;unfold qB Rr;simp only;rcases qI with ⟨hc,rfl⟩|⟨hc,rfl⟩
    ·rw[dL hc];exact nZ.pD hg
    ·rw[eJ hc];exact(nZ.pD hg).step (s.pos+1) _ (by simp)
section
attribute [local go_sem ↓] Go.wp_at_zero Go.wp_at_succ
theorem Xc (w:aY)(rb:Nat)(code:Int)(hc:code≠0)(HA:Hid (bH aQ 109 #[aK (aE ⟨rb,0,aC⟩)] w λr w' =>r=aM (aH aF code)/\bA w.heap.size w w')):
 bH aQ 92 #[aK (aE ⟨rb,0,aC⟩)] w λr w' =>r=aM (aH aF code)/\bA w.heap.size w w' :=by
 have k0:(code==0)=aV:=beq_eq_false_iff_ne.2 hc;go_enter func92,ntmps92;go_wp2_with fail
 refine(aN HA).mono ?_;rintro e w1 ⟨rfl,hb⟩;go_wp2;go_ret;exact⟨rfl,hb⟩
theorem Ty (w:aY)(rb pos:Nat)(t:ByteArray)(tok:Int)(Q1 Q2:aY->Prop)(sF:pos<=1000)(HA:Hid (bH aQ 109 #[aK (aE ⟨rb,0,aC⟩)] w λr w' =>r=aM (aH aF 0)/\bA w.heap.size w w'))(HG:Hid (∀W,bA w.heap.size w W->bH aQ 110 #[aK (aE ⟨rb,0,aC⟩)] W λr w' =>r=aM (bM #[aI t,aH aF tok])/\Q1 w'))(HK:Hid (∀W,Q1 W->bH aQ 112 #[aK (aE ⟨rb,0,aC⟩),bO 132 (bM #[aI t,aH aF tok])] W λr w' =>r=aM (bC #[])/\Q2 w' /\w'.cell? ⟨rb,2,aC⟩=aE (aH aF pos)/\w'.frozen? ⟨rb,2,aC⟩=aV)):
 bH aQ 92 #[aK (aE ⟨rb,0,aC⟩)] w λr w' =>r=aM (aH aF 0)/\∃W,Q2 W/\w' =W.setCell ⟨rb,2,aC⟩ (aH aF ((pos:Int)+1)):=by
 have i0:=wi ((pos:Int)+1);clear sF;go_enter func92,ntmps92;go_wp2_with fail
 refine(aN HA).mono ?_;rintro e w1 ⟨rfl,hb⟩;go_wp2_with fail
 refine(aN HG _ hb).mono ?_;rintro e w2 ⟨rfl,hq⟩;have HQ:=bE hq;clear hq hb;go_wp2_with fail
 refine(aN HK w2 (aN HQ)).mono ?_;rintro e w3 ⟨rfl,DU,c2,f2⟩;have HQ2:=bE DU;clear DU;go_wp2;go_ret;exact⟨rfl,w3,aN HQ2,rfl⟩
theorem Lo (w:aY)(rb:Nat)(V:aG)(code:Int)(hc:(code != 0)=aX)(P:aY->Prop)(H:Hid (bH aQ 113 #[aK (aE ⟨rb,0,aC⟩)] w λr w' =>r=aM (bC #[V,aH aF code])/\P w')):
 bH aQ 93 #[aK (aE ⟨rb,0,aC⟩)] w λr w' =>r=aM (aH aF code)/\P w' :=by
 go_enter func93,ntmps93;go_wp2_with fail
 refine(aN H).mono ?_;rintro e w' ⟨rfl,hP⟩;have HP:=bE hP;clear hP;go_wp2;go_ret;exact⟨rfl,aN HP⟩
theorem Xt (w:aY)(mb rb pos:Nat)(T:TypeId)(v:aG)(P Q:aY->Prop)(sF:pos<=500)(H:Hid (bH aQ 113 #[aK (aE ⟨rb,0,aC⟩)] w λr w' =>r=aM (bC #[bO T v,aH aF 0])/\w'.cell? ⟨rb,0,aC⟩=aE (aK (aE ⟨mb,0,aC⟩))/\P w'))(HA:Hid (∀W,P W->bH aQ 66 #[aK (aE ⟨mb,0,aC⟩),bO T v] W λr w' =>r=aM (bC #[])/\w'.cell? ⟨rb,2,aC⟩=aE (aH aF pos)/\w'.frozen? ⟨rb,2,aC⟩=aV/\Q w')):
 bH aQ 93 #[aK (aE ⟨rb,0,aC⟩)] w λr w' =>r=aM (aH aF 0)/\∃W,Q W/\w' =W.setCell ⟨rb,2,aC⟩ (aH aF ((pos:Int)+1)):=by
 have i0:=wi ((pos:Int)+1);clear sF;go_enter func93,ntmps93;go_wp2_with fail
 refine(aN H).mono ?_;rintro e w1 ⟨rfl,c0,hP⟩;have YJ:=bE (aN HA w1 hP);clear hP;go_wp2_with fail
 refine(aN YJ).mono ?_;rintro e w3 ⟨rfl,c2,f2,hQ⟩;have HQ:=bE hQ;clear hQ;go_wp2;go_ret;exact⟨rfl,w3,aN HQ,rfl⟩
def Fo:N.eE:=[109,97,114,107,101,114]
def Ff:N.eE:=[102,111,114,103,101,116]
theorem Cp (m:N.cE)(ws:List N.eE)(p:Nat):N.one m ws p Fo=if N.dB m ws[p+1]? aX≠0 then(m,N.dB m ws[p+1]? aX,p,p+2) else({m with all:=m.all++[⟨(ws[p+1]?).getD [],4,0,[],aX,aV⟩]},0,0,p+2):=rfl
theorem wV (m:N.cE)(ws:List N.eE)(p:Nat):N.one m ws p Ff=if N.dB m ws[p+1]? aV≠0 then(m,N.dB m ws[p+1]? aV,p,p+2) else
 match N.fP m ((ws[p+1]?).getD []) with
 |none=>(m,2,p,p+2)
 |some k=>(N.kF m k,0,0,p+2):=rfl
theorem Zb (w:aY)(mb rb:Nat)(vO vB vW vS vR vT:aG)(wv:List Own)(s:L.gJ)(all:List N.iM)(h:lL w mb rb vO vB vW vS vR vT wv s all)(hp:s.pos<s.words.length)(hw:xT s)(hold:all.length+1<=1000000000000):
 bH aQ 92 #[aK (aE ⟨rb,0,aC⟩)] w λr w' =>r=aM (aH aF (N.one (fR s all) s.words s.pos Fo).2.1)/\qB mb rb vO vW vS vR vT wv s (N.one (fR s all) s.words s.pos Fo) w w' :=by
 have lQ:=Ac w mb rb vO vB vW vS vR vT wv s all (fR s all) rfl h.run h.own hp hw;rw[Cp];by_cases he:N.dB (fR s all) s.words[s.pos+1]? aX=0
 case neg=>
  rw[eJ he];refine(Xc w rb _ he (bE lQ)).mono λr w' hh=>⟨hh.1,?_⟩
  unfold qB Rr;rw[dL he];exact nZ.pD (gU.stay h.run h.own hh.2)
 case pos=>
  rw[dL (by simpa using he)];rw[he] at lQ;obtain⟨t,ht⟩:=rY he;have Gm:=Ba he;have eQ:(dN all wv).length<40:=by rw[qS all wv h.own.len];exact Gm
  have Vm:=(hw t (cG ht)).2;rw[ht];have Sg:=h.own.begun;have xE:=h.run;rw[Sg] at xE;have Jc:s.pos<=1000:=by have:=h.run.wl;omega
  refine(Ty w rb s.pos ⟨t.toArray⟩ (1000+(all.length:Int)) (λW=>eV W mb rb vO (aH aF ((all.length:Int)+1)) vW vS vR vT s/\Mv (λk=>k=mb) w W)
   (λw' =>qB mb rb vO vW vS vR vT wv s ({fR s all with all:=all++[⟨t,4,0,[],aX,aV⟩]},0,0,s.pos+2) w (w'.setCell ⟨rb,2,aC⟩ (aH aF ((s.pos:Int)+1)))) Jc (bE lQ) (bE λW hb=>?_) (bE λW hQ=>?_)).mono ?_
  ·refine(Ea W mb rb vO vW vS vR vT all.length s t (xE.below hb) h.own.qU ht (by omega)).mono λr w' hh=>⟨hh.1,hh.2.1,?_⟩
   exact(Mv.dS hb _).trans (dG.refl _ _) hh.2.2
  ·obtain⟨Sb,Jk⟩:=hQ;refine(Iu w W mb rb vO vB vW vS vR vT wv s all h.own ⟨t,4,0,[],aX,aV⟩ (.mark t (1000+(all.length:Int))) _ _ rfl rfl eQ ?_ Sb (λw' _=>⟨rfl,rfl,rfl⟩) (λc hc=>by simp at hc) (λb hb=>by cases hb) hold).mono ?_
   ·intro k hk;exact Jk.block k (kH hk) λx=>jC h.run hk (.inl x)
   ·rintro r w' ⟨rfl,v',Sf,kT,pL,Gw⟩;refine⟨rfl,?_,aZ Sf.r rfl,bG 2 Sf.r⟩;exact Jz (m:={fR s all with all:=all++[⟨t,4,0,[],aX,aV⟩]}) Jk (λk hk=>.inl (.inl hk)) (dG.refl _ _) Sf kT pL Gw (λb hb=>by cases hb) rfl ⟨rfl,rfl,rfl,rfl,rfl,rfl⟩ (s.pos+1) _ (by simp)
  ·rintro r w' ⟨rfl,W,hQ,rfl⟩;exact⟨rfl,hQ⟩
theorem D6 (w:aY)(mb rb:Nat)(vO vB vW vS vR vT:aG)(wv:List Own)(s:L.gJ)(all:List N.iM)(h:lL w mb rb vO vB vW vS vR vT wv s all)(hp:s.pos<s.words.length):
 bH aQ 93 #[aK (aE ⟨rb,0,aC⟩)] w λr w' =>r=aM (aH aF (N.one (fR s all) s.words s.pos Ff).2.1)/\qB mb rb vO vW vS vR vT wv s (N.one (fR s all) s.words s.pos Ff) w w' :=by
 have lQ:=Ga w mb rb vO vB vW vS vR vT wv s all h.run h.own hp;have Mb:∀w',bA w.heap.size w w' ->∀code,nZ mb rb vO vW vS vR vT wv s (fR s all) code s.pos w w' :=λw' hb code=>nZ.pD (gU.stay h.run h.own hb)
 rw[wV];unfold Ld at lQ;by_cases he:N.dB (fR s all) s.words[s.pos+1]? aV=0
 case neg=>
  have Kt:N.dB (⟨all,[],[],[],0⟩:N.cE) s.words[s.pos+1]? aV≠0:=by rw[yG _ (fR s all)];exact he
  rw[eJ Kt] at lQ;rw[eJ he,Ie he];exact(Lo w rb _ 4 rfl _ (bE lQ)).mono λr w' hh=>⟨hh.1,Mb w' hh.2 _⟩
 case pos=>
  have Kt:¬N.dB (⟨all,[],[],[],0⟩:N.cE) s.words[s.pos+1]? aV≠0:=by rw[yG _ (fR s all)];simpa using he
  rw[dL Kt] at lQ;rw[dL (by simpa using he)];generalize(s.words[s.pos+1]?).getD []=name at*;show bH _ _ _ _ λr w' =>r=aM (aH aF (match N.eS all name all.length with
   |none=>(fR s all,(2:Int),s.pos,s.pos+2)
   |some k=>(N.kF (fR s all) k,(0:Int),0,s.pos+2)).2.1)/\qB mb rb vO vW vS vR vT wv s (match N.eS all name all.length with
   |none=>(fR s all,(2:Int),s.pos,s.pos+2)
   |some k=>(N.kF (fR s all) k,(0:Int),0,s.pos+2)) w w'
  cases hk:N.eS all name all.length with
  |none=>
   rw[hk] at lQ;exact(Lo w rb _ 2 rfl _ (bE lQ)).mono λr w' hh=>⟨hh.1,Mb w' hh.2 _⟩
  |some k=>
   rw[hk] at lQ;simp only at lQ ⊢;obtain⟨Hd,e,UN,_,Ss⟩:=mN all _ _ _ hk;obtain⟨o,FZ⟩:∃o,wv[k]?=aE o:=⟨_,bL (by rw[h.own.len];exact Hd)⟩
   have hv:mE wv (aE k)=iW o:=by unfold mE;rw[Option.bind_some,FZ];rfl
   have pM:=h.own.tA k e o UN FZ (jX Ss);rw[hv] at lQ;obtain⟨T,v,Tg,_⟩:=pG pM.head;rw[Tg] at lQ;have Jc:s.pos<=500:=by have:=h.run.wl;omega
   refine(Xt w mb rb s.pos T v (λw' =>bA w.heap.size w w') (λW=>gU mb rb vO vB vW vS vR vT wv s (N.kF (fR s all) k) 0 w W) Jc (bE (lQ.mono λr w' hh=>⟨hh.1,?_,hh.2⟩)) (bE λW hb=>?_)).mono ?_
   ·exact aZ (h.run.below hh.2).r rfl
   ·rw[<-Tg];refine(Qu W mb rb vO vB vW vS vR vT wv s all k o e (h.below hb) UN FZ (jX Ss)).mono λr w' hh=>?_
    have ZO:w'.cell? ⟨rb,2,aC⟩=aE (aH aF (s.pos:Int))/\w'.frozen? ⟨rb,2,aC⟩=aV:=by
     obtain⟨_,_,_,_,s',g1,_,_,_,_,g6,_⟩:=hh.2;rw[<-g6];exact⟨aZ g1.r rfl,bG 2 g1.r⟩
    exact⟨hh.1,ZO.1,ZO.2,gU.after hb hh.2⟩
   ·rintro r w' ⟨rfl,W,hg,rfl⟩;exact⟨rfl,(nZ.pD hg).step (s.pos+1) _ (by simp)⟩
theorem QG (w:aY)(rb:Nat)(code:Int)(P:aY->Prop)(H:Hid (bH aQ 88 #[aK (aE ⟨rb,0,aC⟩)] w λr w' =>r=aM (aH aF code)/\P w')):
 bH aQ 67 #[aK (aE ⟨rb,0,aC⟩),aI ⟨#[58]⟩] w λr w' =>r=aM (aH aF code)/\P w' :=by
 go_enter func67,ntmps67;go_wp2_with fail
 refine(aN H).mono ?_;rintro e w' ⟨rfl,hP⟩;have HP:=bE hP;clear hP;go_wp2;go_ret;exact⟨rfl,aN HP⟩
theorem OO (w:aY)(rb:Nat)(code:Int)(P:aY->Prop)(H:Hid (bH aQ 89 #[aK (aE ⟨rb,0,aC⟩)] w λr w' =>r=aM (aH aF code)/\P w')):
 bH aQ 67 #[aK (aE ⟨rb,0,aC⟩),aI ⟨#[39]⟩] w λr w' =>r=aM (aH aF code)/\P w' :=by
 go_enter func67,ntmps67;go_wp2_with fail
 refine(aN H).mono ?_;rintro e w' ⟨rfl,hP⟩;have HP:=bE hP;clear hP;go_wp2;go_ret;exact⟨rfl,aN HP⟩
theorem RU (w:aY)(rb:Nat)(code:Int)(P:aY->Prop)(H:Hid (bH aQ 90 #[aK (aE ⟨rb,0,aC⟩)] w λr w' =>r=aM (aH aF code)/\P w')):
 bH aQ 67 #[aK (aE ⟨rb,0,aC⟩),aI ⟨#[118,97,114,105,97,98,108,101]⟩] w λr w' =>r=aM (aH aF code)/\P w' :=by
 go_enter func67,ntmps67;go_wp2_with fail
 refine(aN H).mono ?_;rintro e w' ⟨rfl,hP⟩;have HP:=bE hP;clear hP;go_wp2;go_ret;exact⟨rfl,aN HP⟩
theorem PT (w:aY)(rb:Nat)(code:Int)(P:aY->Prop)(H:Hid (bH aQ 91 #[aK (aE ⟨rb,0,aC⟩)] w λr w' =>r=aM (aH aF code)/\P w')):
 bH aQ 67 #[aK (aE ⟨rb,0,aC⟩),aI ⟨#[99,111,110,115,116,97,110,116]⟩] w λr w' =>r=aM (aH aF code)/\P w' :=by
 go_enter func67,ntmps67;go_wp2_with fail
 refine(aN H).mono ?_;rintro e w' ⟨rfl,hP⟩;have HP:=bE hP;clear hP;go_wp2;go_ret;exact⟨rfl,aN HP⟩
theorem LV (w:aY)(rb:Nat)(code:Int)(P:aY->Prop)(H:Hid (bH aQ 92 #[aK (aE ⟨rb,0,aC⟩)] w λr w' =>r=aM (aH aF code)/\P w')):
 bH aQ 67 #[aK (aE ⟨rb,0,aC⟩),aI ⟨#[109,97,114,107,101,114]⟩] w λr w' =>r=aM (aH aF code)/\P w' :=by
 go_enter func67,ntmps67;go_wp2_with fail
 refine(aN H).mono ?_;rintro e w' ⟨rfl,hP⟩;have HP:=bE hP;clear hP;go_wp2;go_ret;exact⟨rfl,aN HP⟩
theorem E1 (w:aY)(rb:Nat)(code:Int)(P:aY->Prop)(H:Hid (bH aQ 93 #[aK (aE ⟨rb,0,aC⟩)] w λr w' =>r=aM (aH aF code)/\P w')):
 bH aQ 67 #[aK (aE ⟨rb,0,aC⟩),aI ⟨#[102,111,114,103,101,116]⟩] w λr w' =>r=aM (aH aF code)/\P w' :=by
 go_enter func67,ntmps67;go_wp2_with fail
 refine(aN H).mono ?_;rintro e w' ⟨rfl,hP⟩;have HP:=bE hP;clear hP;go_wp2;go_ret;exact⟨rfl,aN HP⟩
theorem KB (w:aY)(rb:Nat)(s:ByteArray)(h1:(s.toList==[58])=aV)(h2:(s.toList==[39])=aV)(h3:(s.toList==[118,97,114,105,97,98,108,101])=aV)(h4:(s.toList==[99,111,110,115,116,97,110,116])=aV)(h5:(s.toList==[109,97,114,107,101,114])=aV)(h6:(s.toList==[102,111,114,103,101,116])=aV):
 bH aQ 67 #[aK (aE ⟨rb,0,aC⟩),aI s] w λr w' =>r=aM (aH aF 3)/\w' =w:=by
 go_enter func67,ntmps67;go_wp2;go_ret;exact⟨rfl,rfl⟩
theorem eV.told (h:eV w mb rb vO vB vW vS vR vT s):(convert 65 9 vT).run aQ w=.ok (aI ⟨s.out.toArray⟩) w:=by
 rcases jB h.ot with ⟨rfl,h0,_⟩|⟨g,cap,rfl,_⟩
 ·rw[run_convert_bytes_string w 65 9 5 aC 0 0 underlying65 underlying5 underlying9,dU.1 h0];rfl
 ·refine run_convert_bytes_back w 65 9 5 ⟨g,0,aC⟩ cap s.out underlying65 underlying5 underlying9 λj hj=>?_
  have:=h.ot.cells (g:=g) rfl j (uL s.out[j]) (by rw[cI,bL hj];rfl);exact this
theorem KG (w:aY)(mb rb n qG:Nat)(aT:Option Addr)(pos code:Int)(vS vR:aG)(out:ByteArray)(c0:w.cell? ⟨rb,0,aC⟩=aE (aK (aE ⟨mb,0,aC⟩)))(c2:w.cell? ⟨rb,2,aC⟩=aE (aH aF pos))(c5:w.cell? ⟨rb,5,aC⟩=aE (aJ aT n qG))(m0:w.cell? ⟨mb,0,aC⟩=aE vS)(m1:w.cell? ⟨mb,1,aC⟩=aE vR)(f0:w.frozen? ⟨mb,0,aC⟩=aV)(f1:w.frozen? ⟨mb,1,aC⟩=aV)(GM:rb≠mb)(HC:Hid (∀W:aY,(∀k,k<w.heap.size->k≠mb->W.heap[k]?=w.heap[k]?)->(convert 65 9 (aJ aT n qG)).run aQ W=.ok (aI out) W)):
 bH aQ 46 #[aK (aE ⟨rb,0,aC⟩),aH aF code] w λr w' =>r=aM (bM #[aI out,aH aF code,aH aF pos])/\∃W,bA w.heap.size ((w.setCell ⟨mb,0,aC⟩ (aJ aC 0 0)).setCell ⟨mb,1,aC⟩ (aJ aC 0 0)) W/\w' =W:=by
 have d0:=bJ c0 (aU #[aI ⟨#[]⟩,aH aF 0,aH aF 0] 36);have d2:=bJ c2 (aU #[aI ⟨#[]⟩,aH aF 0,aH aF 0] 36);have d5:=bJ c5 (aU #[aI ⟨#[]⟩,aH aF 0,aH aF 0] 36);have e0:=bJ m0 (aU #[aI ⟨#[]⟩,aH aF 0,aH aF 0] 36);have e1:=bJ m1 (aU #[aI ⟨#[]⟩,aH aF 0,aH aF 0] 36);have g0:(w.alloc (aU #[aI ⟨#[]⟩,aH aF 0,aH aF 0] 36)).frozen? ⟨mb,0,aC⟩=aV:=cY (bU _ _ aC) m0 f0 (by simp);have g1:(w.alloc (aU #[aI ⟨#[]⟩,aH aF 0,aH aF 0] 36)).frozen? ⟨mb,1,aC⟩=aV:=cY (bU _ _ aC) m1 f1 (by simp);have hmlt:=eG m0;go_enter func46,ntmps46;go_wp2;generalize hW:(w.alloc (aU #[aI ⟨#[]⟩,aH aF 0,aH aF 0] 36))=w1 at*;have HW:=bE hW;clear hW c0 c2 c5 m0 m1 f0 f1;go_region_held3 (λw' =>w'.cell? ⟨rb,0,aC⟩=aE (aK (aE ⟨mb,0,aC⟩))) (first|exact d0|exact cQ d0 GM|exact cQ (cQ d0 GM) GM|go_keep) (fail)
 have hsz:w1.heap.size=w.heap.size+1:=by rw[<-aN HW];simp
 have eY:w1.heap[w.heap.size]?=aE (aU #[aI ⟨#[]⟩,aH aF 0,aH aF 0] 36):=by rw[<-aN HW];exact heap_alloc_new w _
 have vF:bA w.heap.size w w1:=by rw[<-aN HW];exact(bF _ _).alloc (bD _) _
 have gZ:∀k,k≠mb->((w1.setCell ⟨mb,0,aC⟩ (aJ aC 0 0)).setCell ⟨mb,1,aC⟩ (aJ aC 0 0)).drew.heap[k]?=w1.heap[k]?:=λk hk=>(bA.heap_setCell _ _ _ _ hk).trans (bA.heap_setCell _ _ _ _ hk)
 have a2:((w1.setCell ⟨mb,0,aC⟩ (aJ aC 0 0)).setCell ⟨mb,1,aC⟩ (aJ aC 0 0)).drew.cell? ⟨rb,2,aC⟩=aE (aH aF pos):=cQ (cQ d2 GM) GM;have a5:((w1.setCell ⟨mb,0,aC⟩ (aJ aC 0 0)).setCell ⟨mb,1,aC⟩ (aJ aC 0 0)).drew.cell? ⟨rb,5,aC⟩=aE (aJ aT n qG):=cQ (cQ d5 GM) GM;have hmn:w.heap.size≠mb:=by omega
 have hbn:=(gZ w.heap.size hmn).trans eY;have hO:∀k,k<w.heap.size->k≠mb->((w1.setCell ⟨mb,0,aC⟩ (aJ aC 0 0)).setCell ⟨mb,1,aC⟩ (aJ aC 0 0)).drew.heap[k]?=w.heap[k]?:=λk hk jD=>(gZ k jD).trans (vF.block k hk)
 have Lc:bA w.heap.size ((w.setCell ⟨mb,0,aC⟩ (aJ aC 0 0)).setCell ⟨mb,1,aC⟩ (aJ aC 0 0)) ((w1.setCell ⟨mb,0,aC⟩ (aJ aC 0 0)).setCell ⟨mb,1,aC⟩ (aJ aC 0 0)).drew:=by
  refine⟨vF.os,vF.tape,vF.output,by simp[aY.setCell];omega,λk hk=>?_⟩;by_cases NN:k=mb
  ·subst NN;obtain⟨cs,ty,fr,hb⟩:∃cs ty fr,w1.heap[k]?=aE (aU cs ty fr):=by
    cases hh:w1.heap[k]? with
    |none=>simp[aY.cell?,hh] at e0
    |some o=>
     cases o with
     |cells cs ty fr=>exact⟨cs,ty,fr,rfl⟩
     |_=>simp[aY.cell?,hh] at e0
   have eD:=(vF.block k hk).symm.trans hb;exact(bV (bV hb 0 _) 1 _).trans (bV (bV eD 0 _) 1 _).symm
  ·exact(gZ k NN).trans ((vF.block k hk).trans ((bA.heap_setCell _ _ _ _ NN).trans (bA.heap_setCell _ _ _ _ NN)).symm)
 have Hfin:=bE Lc;have cf:rb≠w.heap.size:=λe=>by
  have hx:w1.cell? ⟨rb,5,aC⟩=aC:=by rw[e,cell_of_row w1 w.heap.size 5 _ _ _ eY];rfl
  rw[hx] at d5;cases d5
 generalize((w1.setCell ⟨mb,0,aC⟩ (aJ aC 0 0)).setCell ⟨mb,1,aC⟩ (aJ aC 0 0)).drew=w2 at*;have b0:=cq 0 hbn rfl;have b1:=cq 1 hbn rfl;have b2:=cq 2 hbn rfl;have y0:=bG 0 hbn;have y1:=bG 1 hbn;have y2:=bG 2 hbn;have HO:=bE hO;clear hO Lc hbn gZ vF eY e0 e1 g0 g1 d0 d2 d5 hsz;go_wp2;go_region_held3 (λw' =>w'.cell? ⟨rb,2,aC⟩=aE (aH aF pos)/\w'.cell? ⟨rb,5,aC⟩=aE (aJ aT n qG)/\(convert 65 9 (aJ aT n qG)).run aQ w' =.ok (aI out) w')
  (first
    |exact⟨a2,a5,aN HC _ (aN HO)⟩
    |exact(by assumption)
    |exact⟨cQ (cQ (cQ a2 cf) cf) cf,cQ (cQ (cQ a5 cf) cf) cf,aN HC _ λk hk jD=>(bA.heap_setCell _ _ _ _ (show k≠w.heap.size by omega)).trans ((bA.heap_setCell _ _ _ _ (show k≠w.heap.size by omega)).trans ((bA.heap_setCell _ _ _ _ (show k≠w.heap.size by omega)).trans (aN HO k hk jD)))⟩) (fail)
 go_wp2;refine bodyPost_ret (v:=bM #[aI out,aH aF code,aH aF pos]) (by simp[results,results46,go_sem,b0,b1,b2]) rfl ⟨rfl,_,?_,rfl⟩;exact((((aN Hfin).setCell (bD _) _).setCell (bD _) _).setCell (bD _) _).drew
end
theorem OI (w:aY)(mb rb:Nat)(vO vB vW vS vR vT:aG)(s:L.gJ)(code:Int)(hr:eV w mb rb vO vB vW vS vR vT s):
 bH aQ 46 #[aK (aE ⟨rb,0,aC⟩),aH aF code] w λr w' =>r=aM (bM #[aI ⟨s.out.toArray⟩,aH aF code,aH aF (s.pos:Int)])/\
  eV w' mb rb vO vB vW (aJ aC 0 0) (aJ aC 0 0) vT {s with S:=[],R:=[]}/\Mv (λk=>k=mb) w w' :=by
 obtain⟨aT,qG,rfl,_,_⟩:=cU hr.ot;have GM:=fN hr.r hr.m (by decide);refine(KG w mb rb s.out.length qG aT (s.pos:Int) code vS vR ⟨s.out.toArray⟩ (aZ hr.r rfl) (aZ hr.r rfl) (aZ hr.r rfl) (aZ hr.m rfl) (aZ hr.m rfl) (bG 0 hr.m) (bG 1 hr.m) GM (bE λW hW=>?_)).mono ?_
 ·rcases jB hr.ot with ⟨h1,h0,_⟩|⟨g,cap,h1,_⟩
  ·rw[h1,run_convert_bytes_string W 65 9 5 aC 0 0 underlying65 underlying5 underlying9,dU.1 h0];rfl
  ·rw[h1] at hr;rw[h1];refine run_convert_bytes_back W 65 9 5 ⟨g,0,aC⟩ cap s.out underlying65 underlying5 underlying9 λj hj=>?_
   have hg:W.heap[g]?=w.heap[g]?:=hW g (hr.ot.lt g rfl).2 λe=>bW hr.ot hr.m (by decide) (by rw[e];rfl)
   have:=hr.ot.cells (g:=g) rfl j (uL s.out[j]) (by rw[cI,bL hj];rfl);rw[fE] at this ⊢;rw[aY.cell?_of_block (w:=w) hg];exact this
 ·rintro r w' ⟨rfl,W,hb,rfl⟩;have eR:=bV (bV hr.m 0 (aJ aC 0 0)) 1 (aJ aC 0 0);have hsz:((w.setCell ⟨mb,0,aC⟩ (aJ aC 0 0)).setCell ⟨mb,1,aC⟩ (aJ aC 0 0)).heap.size=w.heap.size:=by simp[aY.setCell]
  have gZ:∀k,k≠mb->((w.setCell ⟨mb,0,aC⟩ (aJ aC 0 0)).setCell ⟨mb,1,aC⟩ (aJ aC 0 0)).heap[k]?=w.heap[k]?:=λk hk=>(bA.heap_setCell _ _ _ _ hk).trans (bA.heap_setCell _ _ _ _ hk)
  have qV:Mv (λk=>k=mb) w ((w.setCell ⟨mb,0,aC⟩ (aJ aC 0 0)).setCell ⟨mb,1,aC⟩ (aJ aC 0 0)):=(Mv.setCell (T:=λk=>k=mb) (Mv.refl _ _) (.inl rfl) _).setCell (.inl rfl) _;have vG:eV ((w.setCell ⟨mb,0,aC⟩ (aJ aC 0 0)).setCell ⟨mb,1,aC⟩ (aJ aC 0 0)) mb rb vO vB vW (aJ aC 0 0) (aJ aC 0 0) (aJ aT s.out.length qG) {s with S:=[],R:=[]}:=by
   refine⟨eR,(gZ rb GM).trans hr.r,aY.ownsRow_nil _ _ _ _,aY.ownsRow_nil _ _ _ _,?_,?_,λk h1 _=>by simp[aG.ownBlock] at h1,bZ _,bZ _,hr.ol,hr.wl,λx hx=>by simp at hx,λx hx=>by simp at hx⟩
   ·exact cK hr.ot λj e=>gZ j λx=>bW hr.ot hr.m (by decide) (x▸e)
   ·exact cK hr.wd λj e=>gZ j λx=>bW hr.wd hr.m (by decide) (x▸e)
  refine⟨rfl,vG.below (by rw[hsz];exact hb),qV.trans (dG.refl _ _) (Mv.dS (by rw[hsz];exact hb) _)⟩
theorem Il (m:N.cE)(ws:List N.eE)(p:Nat)(l:N.eE)(h1:l≠Ng)(h2:l≠Uh)(h3:l≠To)(h4:l≠Uq)(h5:l≠Fo)(h6:l≠Ff):N.one m ws p l=
 if L.fJ l then(m,3,p,p+1)
 else match N.iU m l with
  |none=>(m,2,p,p+1)
  |some c=>((N.gC N.fuel m 0 c).1,(N.gC N.fuel m 0 c).2,p,p+1):=by
 have b1:(l==[58])=aV:=beq_eq_false_iff_ne.2 h1;have b2:(l==[39])=aV:=beq_eq_false_iff_ne.2 h2;have b3:(l==[118,97,114,105,97,98,108,101])=aV:=beq_eq_false_iff_ne.2 h3;have b4:(l==[99,111,110,115,116,97,110,116])=aV:=beq_eq_false_iff_ne.2 h4;have b5:(l==[109,97,114,107,101,114])=aV:=beq_eq_false_iff_ne.2 h5;have b6:(l==[102,111,114,103,101,116])=aV:=beq_eq_false_iff_ne.2 h6;unfold N.one;simp only[b1,b2,b3,b4,b5,b6,Bool.or_self,Bool.false_eq_true,if_false]
 congr 1
 cases N.iU m l with
 |none=>rfl
 |some c=>
  simp only;unfold N.gC;by_cases k1:c.kind=1
  ·simp only[eJ k1]
  ·by_cases k2:c.kind=2
   ·simp only[dL k1,eJ k2]
   ·simp only[dL k1,dL k2];cases(N.kC m c.name).2.2 <;> rfl
theorem WU (w:aY)(mb rb:Nat)(vO vB vW vS vR vT:aG)(wv:List Own)(s:L.gJ)(all:List N.iM)(l:N.eE)(h:lL w mb rb vO vB vW vS vR vT wv s all)(hl:s.words[s.pos]?=aE l)(hw:xT s)(hold:all.length+1<=1000000000000)(hd:s.depth=0):
 bH aQ 52 #[aK (aE ⟨rb,0,aC⟩),rJ all wv l] w λr w' =>r=aM (aH aF (N.one (fR s all) s.words s.pos l).2.1)/\qB mb rb vO vW vS vR vT wv s (N.one (fR s all) s.words s.pos l) w w' :=by
 have hp:=(bI.1 hl).1;have bold:L.fJ l=aX->rJ all wv l=bO 134 (aI ⟨l.toArray⟩):=λhb=>eJ hb
 by_cases h1:l=Ng
 ·rw[bold (by rw[h1];decide),h1];exact Ay w rb _ _ _ (bE (QG w rb _ _ (bE (X5 w mb rb vO vB vW vS vR vT wv s all h hp hw hold))))
 by_cases h2:l=Uh
 ·rw[bold (by rw[h2];decide),h2];exact Ay w rb _ _ _ (bE (OO w rb _ _ (bE (Zh w mb rb vO vB vW vS vR vT wv s all h hp))))
 by_cases h3:l=To
 ·rw[bold (by rw[h3];decide),h3];exact Ay w rb _ _ _ (bE (RU w rb _ _ (bE (v7 w mb rb vO vB vW vS vR vT wv s all h hp hw hold))))
 by_cases h4:l=Uq
 ·rw[bold (by rw[h4];decide),h4];exact Ay w rb _ _ _ (bE (PT w rb _ _ (bE (J9 w mb rb vO vB vW vS vR vT wv s all h hp hw hold))))
 by_cases h5:l=Fo
 ·rw[bold (by rw[h5];decide),h5];exact Ay w rb _ _ _ (bE (LV w rb _ _ (bE (Zb w mb rb vO vB vW vS vR vT wv s all h hp hw hold))))
 by_cases h6:l=Ff
 ·rw[bold (by rw[h6];decide),h6];exact Ay w rb _ _ _ (bE (E1 w rb _ _ (bE (D6 w mb rb vO vB vW vS vR vT wv s all h hp))))
 rw[Il (fR s all) s.words s.pos l h1 h2 h3 h4 h5 h6];have Mb:∀w',bA w.heap.size w w' ->∀code,nZ mb rb vO vW vS vR vT wv s (fR s all) code s.pos w w' :=λw' hb code=>nZ.pD (gU.stay h.run h.own hb)
 cases hb:L.fJ l with
 |true=>
  rw[bold hb,eJ rfl];have sY:(⟨l.toArray⟩:ByteArray).toList=l:=by rw[Go.ByteArray.toList_eq]
  refine Ay w rb _ _ _ (bE ((KB w rb ⟨l.toArray⟩ ?_ ?_ ?_ ?_ ?_ ?_).mono λr w' hh=>⟨hh.1,?_⟩))
  ·rw[sY];exact beq_eq_false_iff_ne.2 h1
  ·rw[sY];exact beq_eq_false_iff_ne.2 h2
  ·rw[sY];exact beq_eq_false_iff_ne.2 h3
  ·rw[sY];exact beq_eq_false_iff_ne.2 h4
  ·rw[sY];exact beq_eq_false_iff_ne.2 h5
  ·rw[sY];exact beq_eq_false_iff_ne.2 h6
  ·rw[hh.2];exact Mb w (bF _ _) _
 |false=>
  rw[dL (by simp)];have Me:=Gi h.own (fR s all) rfl l hb;cases zY:N.iU (fR s all) l with
  |none=>
   rw[zY] at Me;simp only at Me ⊢;rw[Me];exact(gi w rb).mono λr w' hh=>⟨hh.1,by rw[hh.2];exact Mb w (bF _ _) _⟩
  |some c=>
   rw[zY] at Me;simp only at Me ⊢;obtain⟨e1,hk,hc⟩:=Me;rw[e1];have:=A9 (K6 mb rb vB vW wv N.fuel) w vO vS vR vT s all h (by unfold N.fuel;omega) _ c 0 hc hk;rw[hd] at this;refine this.mono λr w' hh=>⟨hh.1,?_⟩
   unfold qB Rr;simp only;have hsp:(if(N.gC N.fuel (fR s all) 0 c).2=0 then s.pos+1-1 else s.pos)=s.pos:=by
    split <;> omega
   rw[hsp];exact nZ.pD hh.2
def Yf:Prop:=∀(w:aY) (rb mb gW nW iD pos:Nat) (Uz:ByteArray) (V:aG) (code:Int) (P:aY->aY->Prop) (Q:aY->Prop),pos<nW->
 Hid (bH aQ 51 #[aK (aE ⟨rb,0,aC⟩)] w λr w' =>r=aM (aH aF 0)/\
  (w'.cell? ⟨rb,0,aC⟩=aE (aK (aE ⟨mb,0,aC⟩))/\w'.cell? ⟨rb,1,aC⟩=aE (aJ (aE ⟨gW,0,aC⟩) nW iD)/\w'.cell? ⟨rb,2,aC⟩=aE (aH aF pos)/\w'.cell? ⟨gW,pos,aC⟩=aE (aI Uz))/\Q w')->
 Hid (∀w1 W,Q w1->bA w1.heap.size w1 W->bH aQ 53 #[aK (aE ⟨mb,0,aC⟩),aI Uz] W λr w' =>r=aM V/\bA W.heap.size W w')->
 Hid (∀w1 W,Q w1->bA w1.heap.size w1 W->bH aQ 52 #[aK (aE ⟨rb,0,aC⟩),V] W λr w' =>r=aM (aH aF code)/\P w1 w')->
 bH aQ 45 #[aK (aE ⟨rb,0,aC⟩)] w λr w' =>r=aM (aH aF code)/\∃w1,Q w1/\P w1 w'
def Xn:Prop:=∀(w:aY) (rb:Nat) (code:Int),(code != 0)=aX->∀P:aY->Prop,
 Hid (bH aQ 51 #[aK (aE ⟨rb,0,aC⟩)] w λr w' =>r=aM (aH aF code)/\P w')->
 bH aQ 45 #[aK (aE ⟨rb,0,aC⟩)] w λr w' =>r=aM (aH aF code)/\P w'
def qR (m:N.cE) (ws:List N.eE) (p:Nat) (l:N.eE):N.cE×Int×Nat×Nat:=if 1000<=m.steps then({m with steps:=m.steps+1},14,p,p+1) else N.one {m with steps:=m.steps+1} ws p l
theorem OH (hS:Yf)(hT:Xn)(w:aY)(mb rb:Nat)(vO vB vW vS vR vT:aG)(wv:List Own)(s:L.gJ)(all:List N.iM)(l:N.eE)(h:lL w mb rb vO vB vW vS vR vT wv s all)(hl:s.words[s.pos]?=aE l)(hw:xT s)(hold:all.length+1<=1000000000000)(hd:s.depth=0):
 bH aQ 45 #[aK (aE ⟨rb,0,aC⟩)] w λr w' =>r=aM (aH aF (qR (fR s all) s.words s.pos l).2.1)/\qB mb rb vO vW vS vR vT wv s (qR (fR s all) s.words s.pos l) w w' :=by
 have Vj:=Fp w mb rb vO vB vW vS vR vT s h.run h.st;have hp:=(bI.1 hl).1;unfold qR;by_cases hs:1000<=s.steps
 ·have Vg:1000<=(fR s all).steps:=hs;rw[eJ Vg];have jT:=h.st;rw[show L.oI s=(s,14) from eJ (by omega)] at Vj;refine hT w rb 14 rfl _ (bE (Vj.mono λr w' hh=>⟨hh.1,?_⟩));exact⟨vO,vB,vS,vR,vT,wv,s,hh.2.1,h.own.mv h.run hh.2.2,hh.2.2.weaken λk hk=>.inl hk,dG.refl _ _,rfl,rfl,rfl,rfl,λe=>by cases e⟩
 ·have Vg:¬1000<=(fR s all).steps:=hs;rw[dL Vg];rw[show L.oI s=({s with steps:=s.steps+1},0) from dL (by omega)] at Vj;rcases jB h.run.wd with ⟨_,h0,_⟩|⟨gW,iD,rfl,_⟩
  ·omega
  refine(hS w rb mb gW s.words.length iD s.pos ⟨l.toArray⟩ (rJ all wv l) (N.one (fR {s with steps:=s.steps+1} all) s.words s.pos l).2.1 (λw1 w' =>qB mb rb vO (aJ (aE ⟨gW,0,aC⟩) s.words.length iD) vS vR vT wv {s with steps:=s.steps+1} (N.one (fR {s with steps:=s.steps+1} all) s.words s.pos l) w1 w')
   (λw1=>lL w1 mb rb vO vB (aJ (aE ⟨gW,0,aC⟩) s.words.length iD) vS vR vT wv {s with steps:=s.steps+1} all/\Mv (kZ mb rb vS vR vT) w w1) hp (bE (Vj.mono λr w' hh=>⟨hh.1,?_,?_⟩)) (bE λw1 W hQ hb=>?_) (bE λw1 W hQ hb=>?_)).mono ?_
  ·refine⟨aZ hh.2.1.r rfl,aZ hh.2.1.r rfl,aZ hh.2.1.r rfl,?_⟩;have:=hh.2.1.wd.cells (g:=gW) rfl s.pos (mQ l) (by rw[cI,hl];rfl);rwa[fE,dC] at this
  ·refine⟨⟨hh.2.1,h.own.mv h.run hh.2.2,eU h.Ca (hh.2.2.block _ (lD h.Ca) λx=>h.o4 (.inl x)),h.o4,?_,h.dp⟩,hh.2.2⟩;show s.steps+1<=1000;omega
  ·have hm:=(hQ.1.run.below hb).m;have:=Lh W mb ⟨l.toArray⟩ all wv vO vB (aZ hm rfl) (hQ.1.own.below hb);simpa using this
  ·refine(WU W mb rb vO vB _ vS vR vT wv {s with steps:=s.steps+1} all l (hQ.1.below hb) hl hw hold hd).mono λr w' hh=>⟨hh.1,nZ.after hb hh.2⟩
  ·rintro r w' ⟨rfl,w1,⟨_,qV⟩,oJ,Ci,v1,v2,v3,Kp,s',g1,g2,g3,g4,g5⟩;have qV:Mv (iO mb rb vO vS vR vT wv) w w1:=qV.weaken λk hk=>.inl hk
   exact⟨rfl,oJ,Ci,v1,v2,v3,Kp,s',g1,g2,qV.trans (dG.refl _ _) g3,(dG.refl _ _).trans qV.size g4,g5⟩
section
attribute [local go_sem ↓] Go.wp_at_zero Go.wp_at_succ
def gx (rb ab n iD:Nat) (aW:Option Addr) (Inv:aY->Prop) (mu:aY->Nat) (fU:aG->aY->Prop) (wr:aY):Prop:=
 ∃(p:Nat) (aT:Option Addr) (nT cT:Nat) (out:ByteArray),p<=n+1/\wr.cell? ⟨rb,1,aC⟩=aE (aJ aW n iD)/\wr.cell? ⟨rb,2,aC⟩=aE (aH aF p)/\wr.cell? ⟨rb,5,aC⟩=aE (aJ aT nT cT)/\wr.heap[ab]?=aE (aU #[aI ⟨#[]⟩,aH aF 0,aH aF 0] 36)/\
  ((¬p<n/\(convert 65 9 (aJ aT nT cT)).run aQ wr.drew=.ok (aI out) wr.drew/\∀W,Mv (λk=>k=ab) wr W->fU (bM #[aI out,aH aF 0,aH aF 0]) W)\/
   (p<n/\bH aQ 45 #[aK (aE ⟨rb,0,aC⟩)] wr.drew λr w' =>∃code,r=aM (aH aF code)/\
    ((code≠0/\bH aQ 46 #[aK (aE ⟨rb,0,aC⟩),aH aF code] w' λr w2=>∃(o:ByteArray) (q:Int),r=aM (bM #[aI o,aH aF code,aH aF q])/\w2.heap[ab]?=aE (aU #[aI ⟨#[]⟩,aH aF 0,aH aF 0] 36)/\∀W,Mv (λk=>k=ab) w2 W->fU (bM #[aI o,aH aF code,aH aF q]) W)\/
     (code=0/\∃q:Nat,q<=n/\w'.cell? ⟨rb,2,aC⟩=aE (aH aF q)/\w'.frozen? ⟨rb,2,aC⟩=aV/\Inv (w'.setCell ⟨rb,2,aC⟩ (aH aF ((q:Int)+1)))/\mu (w'.setCell ⟨rb,2,aC⟩ (aH aF ((q:Int)+1)))<mu wr))))
theorem QC (w:aY)(rb n iD:Nat)(aW:Option Addr)(Inv:aY->Prop)(mu:aY->Nat)(fU:aG->aY->Prop)(hn:n<=500)(h0:Inv (w.alloc (aU #[aI ⟨#[]⟩,aH aF 0,aH aF 0] 36)))(HI:Hid (∀wr,Inv wr->gx rb w.heap.size n iD aW Inv mu fU wr)):
 bH aQ 27 #[aK (aE ⟨rb,0,aC⟩)] w λr w' =>∃v,r=aM v/\fU v w' :=by
 have H0:=bE h0;clear h0;go_enter func27,ntmps27;go_wp2
 go_loopw [3] (λ_ wr=>Inv wr) (λ_ wr=>mu wr)
 case atStart=>exact aN H0
 case round=>
  obtain⟨p,aT,nT,cT,out,hpn,c1,c2,c5,Ma,qI⟩:=aN HI _ hrel;clear hrel;rcases qI with ⟨Og,hcv,hP⟩|⟨eQ,gQ⟩
  ·have HP:=bE hP;have k1:¬((p:Int)<(n:Int)):=by omega
   have b0:=cq 0 Ma rfl;have b1:=cq 1 Ma rfl;have b2:=cq 2 Ma rfl;have g0:=bG 0 Ma;have g1:=bG 1 Ma;have g2:=bG 2 Ma;clear Og hP Ma;go_wp2;go_region_held3 (λw' =>w'.cell? ⟨rb,1,aC⟩=aE (aJ aW n iD)/\w'.cell? ⟨rb,2,aC⟩=aE (aH aF p)) (first|exact⟨c1,c2⟩|go_keep) (fail)
   go_wp2;refine bodyPost_ret (v:=bM #[aI out,aH aF 0,aH aF 0]) (by simp[results,results27,go_sem,b0,b1,b2]) rfl ⟨_,rfl,aN HP _ ?_⟩;exact(((Mv.setCell (T:=λk=>k=w.heap.size) (Mv.refl _ _) (.inl rfl) _).setCell (.inl rfl) _).setCell (.inl rfl) _).drew
  ·have HC:=bE gQ;have k1:(p:Int)<(n:Int):=by omega
   clear eQ gQ Ma;go_wp2;go_region_held3 (λw' =>w'.cell? ⟨rb,1,aC⟩=aE (aJ aW n iD)/\w'.cell? ⟨rb,2,aC⟩=aE (aH aF p)) (first|exact⟨c1,c2⟩|go_keep) (fail)
   go_wp2_with fail
   refine(aN HC).mono ?_;rintro e w2 ⟨code,rfl,hh⟩;rcases hh with ⟨hc,hF⟩|⟨rfl,q,hqn,x2,y2,hI,MS⟩
   ·have hcb:(code != 0)=aX:=by rw[bne_iff_ne];exact hc
    have HF:=bE hF;clear hc hF;go_wp2_with fail
    refine(aN HF).mono ?_;rintro e w3 ⟨o,q,rfl,Ma,hP⟩;have HP:=bE hP;have b0:=cq 0 Ma rfl;have b1:=cq 1 Ma rfl;have b2:=cq 2 Ma rfl;have g0:=bG 0 Ma;have g1:=bG 1 Ma;have g2:=bG 2 Ma;clear hP Ma;go_wp2;refine bodyPost_ret (v:=bM #[aI o,aH aF code,aH aF q]) (by simp[results,results27,go_sem,b0,b1,b2]) rfl ⟨_,rfl,aN HP _ ?_⟩;exact((Mv.setCell (T:=λk=>k=w.heap.size) (Mv.refl _ _) (.inl rfl) _).setCell (.inl rfl) _).setCell (.inl rfl) _
   ·have UP:=bE (bK hI MS);have k3:=wi ((q:Int)+1);clear hI MS;go_wp2;exact aN UP
end
namespace N
open Go.RowKit
def zE (m m2:cE):Prop:=m2.all.length=m.all.length
theorem zE.fZ {m m2:cE}(h:m2.all=m.all):zE m m2:=by unfold zE;rw[h]
theorem zE.trans {a b c:cE}(h:zE a b)(h2:zE b c):zE a c:=Eq.trans h2 h
theorem SL (m:cE)(s:eE)(l rest:List Int):zE m (kR m s l rest):=by
 by_cases h:(s==[33])=aX
 ·rw[beq_iff_eq] at h;subst h;show(m.all.modify (l.getD 1 0-1000).toNat λe=>{e with n:=l.getD 0 0}).length=m.all.length;exact List.length_modify ..
 ·refine zE.fZ ?_;unfold kR;simp only[if_neg h];simp only[apply_ite cE.all,ite_self]
theorem Jj (m:cE)(s:eE):zE m (kC m s).1:=by
 unfold kC;simp only
 repeat' split
 all_goals first
  |exact zE.fZ rfl
  |exact SL _ _ _ _
theorem Dp (m:cE)(k:Nat):zE m (kF m k):=by
 show(m.all.take k++(m.all.drop k).map λe:iM=>{e with gone:=aX}).length=m.all.length;rw[bN,dO,dH,List.length_drop];omega
variable {f:Nat}
theorem yL (hb:∀m k l d a r,zE m (body f m k l d a r).1)(m:cE)(j depth:Nat):zE m (owns f m j depth).1:=by
 unfold owns;cases m.all[j]? with
 |none=>exact zE.fZ rfl
 |some e=>
  simp only
  split
  ·exact zE.fZ (rK _ _)
  ·split
   ·exact zE.fZ (rK _ _)
   ·split
    ·exact Dp _ _
    ·split
     ·exact zE.fZ rfl
     ·exact hb _ _ _ _ _ _
theorem Jp (hb:∀m k l d a r,zE m (body f m k l d a r).1){m:cE}{p:cE×Int}(hp:zE m p.1)(k:Nat)(l:List Cell)(depth next:Nat)(r:List (Int×Int)):zE m (pC f k l depth p next r).1:=by
 unfold pC
 split
 ·exact hp
 ·exact hp.trans (hb _ _ _ _ _ _)
theorem Bu (hb:∀m k l d a r,zE m (body f m k l d a r).1)(m:cE)(depth:Nat)(c:Cell):zE m (gC f m depth c).1:=by
 unfold gC
 split
 ·exact zE.fZ (rK _ _)
 ·split
  ·exact yL hb _ _ _
  ·cases(kC m c.name).2.2 with
   |none=>exact Jj _ _
   |some j=>exact(Jj m c.name).trans (yL hb _ _ _)
theorem Rv:∀f m k l d a r,zE m (body f m k l d a r).1
 |0,m,_,_,_,_,_=>zE.fZ rfl
 |f+1,m,k,l,d,a,r=>by
  have hb:=Rv f;have h0:zE m (dI m):=zE.fZ rfl;cases hl:l[a]? with
  |none=>
   rw[wQ f m k l d a r hl];exact zE.fZ rfl
  |some c=>
   by_cases hs:1000<=m.steps
   ·rw[Dm f m k l d a r c hl hs];exact h0
   ·by_cases hk:c.kind=1\/c.kind=2\/c.kind=3
    ·rw[tY f m k l d a r c hl hs hk];exact Jp hb (h0.trans (Bu hb _ _ _)) _ _ _ _ _
    ·rw[body,hl];simp only[if_neg hs];rw[if_neg (show ¬c.kind=1 by omega),if_neg (show ¬c.kind=2 by omega),if_neg (show ¬c.kind=3 by omega)]
     split
     ·exact h0
     ·split
      ·have:=Jp hb (h0.trans (yL hb (dI m) k d)) k l d (a+1) r;unfold pC at this;simp only[<-Eo] at this;exact this
      ·split
       ·exact Jp hb (p:=((rounds (dI m) l a c.name r).1,(rounds (dI m) l a c.name r).2.2.2)) (h0.trans (zE.fZ (Bd _ _ _ _ _))) _ _ _ _ _
       ·exact Jp hb (p:=((ways (dI m) l a c.name).1,(ways (dI m) l a c.name).2.2)) (h0.trans (zE.fZ (Jg _ _ _ _))) _ _ _ _ _
theorem UG (f:Nat)(m:cE)(j depth:Nat):zE m (owns f m j depth).1:=yL (Rv f) m j depth
theorem sX (f:Nat)(m:cE)(depth:Nat)(c:Cell):zE m (gC f m depth c).1:=Bu (Rv f) m depth c
theorem Q3 (m:cE)(ws:List eE):∀(f at' :Nat) (o:List eE) (b:List Cell),(reads m ws f at' o b).2.1=0->at' < (reads m ws f at' o b).2.2.2/\(reads m ws f at' o b).2.2.2<=ws.length
 |0,_,_,_,h=>by simp[reads] at h
 |f+1,at',o,b,h=>by
  have ih:=Q3 m ws f;rw[reads] at h ⊢;cases hw:ws[at']? with
  |none=>rw[hw] at h;simp at h
  |some s=>
   rw[hw] at h;have eQ:=(bI.1 hw).1;simp only at h ⊢
   revert h
   repeat' split
   all_goals intro h
   all_goals first
    |(simp at h;done)
    |exact⟨by simp,by show at' +1<=_;omega⟩
    |(obtain⟨h1,h2⟩:=ih _ _ _ h;exact⟨by omega,h2⟩)
    |(have hh:=h;contradiction)
end N
structure ac (m:N.cE) (ws:List N.eE) (p:Nat) (res:N.cE×Int×Nat×Nat):Prop where
 lo:res.2.1=0->p<res.2.2.2
 hi:res.2.1=0->res.2.2.2<=ws.length
 st:res.2.1=0->res.1.steps<=1000
 ln:res.1.all.length<=m.all.length+1
variable {ws:List N.eE}
theorem Io {f:Bool}(h:N.dB m ws[p+1]? f=0):p+2<=ws.length:=by
 obtain⟨t,ht⟩:=rY h;have:=(bI.1 ht).1;omega
theorem qL (m:N.cE)(n:Int):(N.push m n).1.steps=m.steps:=by unfold N.push;split <;> rfl
theorem T8 (m:N.cE)(ws:List N.eE)(p:Nat)(l:N.eE)(hp:p<ws.length)(jT:m.steps<=1000):ac m ws p (N.one m ws p l):=by
 by_cases h1:l=Ng
 ·rw[h1,Ob];by_cases he:N.dB m ws[p+1]? aX=0
  ·rw[dL (by simpa using he)];have hr:=N.Q3 m ws (ws.length+1) (p+2) [] [];exact⟨λh=>by have:=(hr h).1;simp only;omega,λh=>(hr h).2,λ_=>jT,by simp⟩
  ·rw[eJ he];exact⟨λh=>(he h).elim,λh=>(he h).elim,λ_=>jT,Nat.le_succ _⟩
 by_cases h2:l=Uh
 ·rw[h2,Az];by_cases he:N.dB m ws[p+1]? aV=0
  ·rw[dL (by simpa using he)];have:=Io he;cases N.fP m ((ws[p+1]?).getD []) with
   |none=>exact⟨λh=>(by cases h),λh=>(by cases h),λ_=>jT,Nat.le_succ _⟩
   |some k=>exact⟨λ_=>by simp only;omega,λ_=>this,λ_=>by simp only;rw[qL];exact jT,by simp only;rw[N.rK];omega⟩
  ·rw[eJ he];exact⟨λh=>(he h).elim,λh=>(he h).elim,λ_=>jT,Nat.le_succ _⟩
 by_cases h3:l=To
 ·rw[h3,Ih];by_cases he:N.dB m ws[p+1]? aX=0
  ·rw[dL (by simpa using he)];have:=Io he;exact⟨λ_=>by simp only;omega,λ_=>this,λ_=>jT,by simp⟩
  ·rw[eJ he];exact⟨λh=>(he h).elim,λh=>(he h).elim,λ_=>jT,Nat.le_succ _⟩
 by_cases h4:l=Uq
 ·rw[h4,Ht];by_cases he:N.dB m ws[p+1]? aX=0
  ·rw[dL (by simpa using he)];have:=Io he;cases lO:N.pop m with
   |none=>exact⟨λh=>(by cases h),λh=>(by cases h),λ_=>jT,Nat.le_succ _⟩
   |some q=>
    obtain⟨m1,n⟩:=q;have ha:=N.j8 lO;have hs:m1.steps=m.steps:=by
     unfold N.pop at lO;cases hl:m.S.getLast? with
     |none=>rw[hl] at lO;cases lO
     |some x=>
      rw[hl] at lO;injection lO with lO;injection lO with lO _;rw[<-lO]
    refine⟨λ_=>?_,λ_=>this,λ_=>?_,?_⟩
    ·simp only;omega
    ·simp only;omega
    ·simp only[bN,List.length_singleton];rw[ha];exact bD _
  ·rw[eJ he];exact⟨λh=>(he h).elim,λh=>(he h).elim,λ_=>jT,Nat.le_succ _⟩
 by_cases h5:l=Fo
 ·rw[h5,Cp];by_cases he:N.dB m ws[p+1]? aX=0
  ·rw[dL (by simpa using he)];have:=Io he;exact⟨λ_=>by simp only;omega,λ_=>this,λ_=>jT,by simp⟩
  ·rw[eJ he];exact⟨λh=>(he h).elim,λh=>(he h).elim,λ_=>jT,Nat.le_succ _⟩
 by_cases h6:l=Ff
 ·rw[h6,wV];by_cases he:N.dB m ws[p+1]? aV=0
  ·rw[dL (by simpa using he)];have:=Io he;cases N.fP m ((ws[p+1]?).getD []) with
   |none=>exact⟨λh=>(by cases h),λh=>(by cases h),λ_=>jT,Nat.le_succ _⟩
   |some k=>
    have VJ:(N.kF m k).all.length=m.all.length:=N.Dp m k;exact⟨λ_=>by simp only;omega,λ_=>this,λ_=>jT,by simp only;omega⟩
  ·rw[eJ he];exact⟨λh=>(he h).elim,λh=>(he h).elim,λ_=>jT,Nat.le_succ _⟩
 rw[Il m ws p l h1 h2 h3 h4 h5 h6];cases L.fJ l with
 |true=>exact⟨λh=>(by cases h),λh=>(by cases h),λ_=>jT,Nat.le_succ _⟩
 |false=>
  rw[dL (by simp)];cases N.iU m l with
  |none=>exact⟨λh=>(by cases h),λh=>(by cases h),λ_=>jT,Nat.le_succ _⟩
  |some c=>
   have hs:=N.oH N.fuel m 0 c;have VJ:(N.gC N.fuel m 0 c).1.all.length=m.all.length:=N.sX N.fuel m 0 c;exact⟨λ_=>Nat.lt_succ_self _,λ_=>hp,λh=>hs.2 h jT,by simp only;omega⟩
end Go.Proofs.YtgnlokmeohffaaaGreatDoor
