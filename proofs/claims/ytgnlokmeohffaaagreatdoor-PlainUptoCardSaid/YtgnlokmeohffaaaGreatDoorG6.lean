/- Parts of the proof: see the last text. -/
import Derived.Test.YtgnlokmeohffaaaGreatDoorG5
namespace Go.Proofs.YtgnlokmeohffaaaGreatDoor
set_option maxRecDepth 100000
set_option maxHeartbeats 8000000
open Option renaming none → aC, some → aE
open Go renaming IntKind.i64 → aF, Value → aG, Value.int → aH, Value.string → aI, Value.slice → aJ, Value.pointer → aK, Ending.returned → aM, Obj.cells → aU, World → aY, Value.tuple → bC, Calls → bH, World.grownBy_alloc → bU
open Go.Proofs.Tryz renaming prog → aQ
open Bool renaming false → aV, true → aX
open Go.RowKit renaming Below → bA, Below.refl → bF
open Nat renaming le_refl → bD, zero_add → dC
open And renaming intro → bK
open List renaming getElem?_map → cI, length_cons → cX, not_mem_nil → dR, length_eq_zero_iff → dU
open Tryz
open Go.RowKit
section
attribute [local go_sem ↓] Go.wp_at_zero Go.wp_at_succ
theorem Aa (w:aY)(rb:Nat)(vA vS vR:aG)(bs:List aG)(m:N.cE)(depth:Int)(s:ByteArray)(u a:Nat)(T:List UInt8)(rest:List Int)(x:Int)(h:cH w rb vA vS vR bs m)(hS:m.S=rest++[x])(hu:u<=3)(ha:a<=1)(code:Int)(ht:bH aQ 78 #[aI s] w λe w' =>e=aM (bC #[aH aF 1,aH aF 0,aH aF u,aH aF a])/\w' =w)(hs:((code != 0)=aX/\(∀W gl cap,cH W rb vA vS vR bs m->(∀j v,([x]:List Int)[j]?=aE v->W.cell? ⟨gl,j,aC⟩=aE (aH aF v))->bH aQ 79 #[aK (aE ⟨rb,0,aC⟩),aI s,(aJ (aE ⟨gl,0,aC⟩) 1 cap)] W λe w' =>e=aM (aH aF code)/\w' =W))\/(code=7/\(16<rest.length+u\/16<m.R.length+a)/\(∀W gl cap,cH W rb vA vS vR bs m->(∀j v,([x]:List Int)[j]?=aE v->W.cell? ⟨gl,j,aC⟩=aE (aH aF v))->bH aQ 79 #[aK (aE ⟨rb,0,aC⟩),aI s,(aJ (aE ⟨gl,0,aC⟩) 1 cap)] W λe w' =>e=aM (aH aF 0)/\w' =W))\/(code=12/\rest.length+u<=16/\m.R.length+a<=16/\300<m.out.length+T.length/\T.length<=300/\(∀W gl cap,cH W rb vA vS vR bs m->(∀j v,([x]:List Int)[j]?=aE v->W.cell? ⟨gl,j,aC⟩=aE (aH aF v))->bH aQ 79 #[aK (aE ⟨rb,0,aC⟩),aI s,(aJ (aE ⟨gl,0,aC⟩) 1 cap)] W λe w' =>e=aM (aH aF 0)/\w' =W)/\∀W,bH aQ 80 #[aI s,aH aF x] W λe w' =>e=aM (aI ⟨T.toArray⟩)/\bA W.heap.size W w')):
 bH aQ 61 #[aK (aE ⟨rb,0,aC⟩),aI s,aH aF depth] w λe w' =>e=aM (aH aF code)/\dP rb vA vS vR bs m w w' :=by
 obtain⟨iI,hi,hz,pW,jP⟩:=jJ;obtain⟨aS,cS,rfl,lU,qJ⟩:=cU h.st;obtain⟨aR,cR,rfl,Ti,mH⟩:=cU h.rt;obtain⟨g,cap,vJ,Tf,zX⟩:=h.st.form (by rw[hS];simp);have Nt:=eM vJ;subst Nt;clear vJ cap qJ mH Tf zX;have c1:=cq 1 h.mc rfl;have c2:=cq 2 h.mc rfl;have xJ:=h.sl;have xH:=h.rl;have hlen:m.S.length=rest.length+1:=by rw[hS];simp
 have src:lN w (aJ (if cS=rest.length then(aE ⟨g,0,aC⟩:Option Addr) else aE ⟨g,rest.length,aC⟩) (m.S.length-rest.length) (cS-rest.length)) (([x]:List Int).map (aH aF)):=by
  have:=kL (k:=rest.length) h.st lU (by omega);have e1:(m.S.map (aH aF)).drop rest.length=([x]:List Int).map (aH aF):=by rw[hS,<-List.map_drop,List.drop_left]
  rwa[e1] at this
 have HR:=bE h;have HT:=bE ht;have HS:=bE hs;have Jf:=h.ol;clear h ht hs;generalize hn:m.S.length=n at*;generalize hk:rest.length=k at*;generalize hr:m.R.length=q at*;generalize hx:(if cS=k then(aE ⟨g,0,aC⟩:Option Addr) else aE ⟨g,k,aC⟩)=xS at*;have HN:=bE (bK hn (bK hk (bK hS (bK hlen hr))));have i0:aF.wrap ((n:Int)-1)=(k:Int):=wj;have i1:(0:Int)<=(k:Int):=by omega
 have i2:(k:Int)<=(n:Int):=by omega
 have i3:(n:Int)<=(cS:Int):=by omega
 have Tm :(k:Int)<=(cS:Int):=by omega
 have i4:¬(n:Int)<1:=by omega
 have i5:¬(q:Int)<0:=by omega
 have i6:=wi ((k:Int)+(u:Int));have i8:=wi (q:Int);have i9:=wi ((q:Int)+(a:Int));have wL:0+(([x]:List Int).map (aH aF)).length<=maxLen:=by unfold maxLen;simp
 have wN:(0+(([x]:List Int).map (aH aF)).length)*8<=140737488355328:=by simp
 clear hn hk hS hlen hr;go_enter func61,ntmps61;go_wp2_with (
  go_at_call 78
  refine(aN HT).mono ?_;rintro e iF ⟨rfl,mG⟩;subst iF)
 go_region_held3 (λw' =>w'.cell? ⟨rb,1,aC⟩=aE (aJ (aE ⟨g,0,aC⟩) n cS)) (first|exact c1|go_keep)
  (first
    |(refine dW _ (by rfl) _ _ _ (by rfl) 3 iI (aH aF 0) 8 underlying26 hi hz pW jP rfl (aJ aC 0 0) 0 [] (by rfl) (aY.ownsRow_nil _ _ _ _) (aJ xS (n-k) (cS-k)) (([x]:List Int).map (aH aF)) (by rfl) (by exact src) (gX _) wL wN ?_
      intro a1 pV w2 o1 g1 t1;have g1:w.grownBy w2 aC:=⟨g1.os,g1.tape,g1.output,g1.size,g1.block⟩
      have c1:=g1.cell c1 (by simp)))
 simp only[List.map_cons,List.map_nil,cX,List.length_nil,dC,List.nil_append] at o1 t1;have eD:bA w.heap.size w w2:=⟨g1.os,g1.tape,g1.output,g1.size,λk hk=>g1.block k hk (by simp)⟩
 obtain⟨gl,cl,Jd,Bj,tW⟩:=o1.form (by simp);have Jv:=eM Jd;subst Jv;have zW:w.heap.size<=gl:=by
  rcases t1 with t1|t1
  ·cases t1
  ·injection t1 with t1;exact Nat.le_of_eq t1.symm
 have ls:∀j v,([x]:List Int)[j]?=aE v->w2.cell? ⟨gl,j,aC⟩=aE (aH aF v):=λj v hv=>by
  have:=o1.cells (g:=gl) rfl j (aH aF v) (by
   have h1:(([x]:List Int).map (aH aF))[j]?=aE (aH aF v):=by rw[cI,hv];rfl
   exact h1)
  rwa[fE,dC] at this
 have qT:=(aN HR).below eD;have c2:=cq 2 qT.mc rfl;have l0:=ls 0 x rfl;have H2:=bE (bK eD (bK qT ls));clear eD qT o1 zW Bj tW t1 g1 Jd hi hz pW jP src hx HT wL wN ls;rcases aN HS with hs|hs|hs
 ·obtain⟨hc,hw⟩:=hs;have HW:=bE (hw w2 gl pV (aN H2).2.1 (aN H2).2.2);clear hw;go_wp2_with (
   go_at_call 79
   refine(aN HW).mono ?_;rintro e iF ⟨rfl,mG⟩;subst iF)
  go_ret;exact⟨rfl,dP.stay (aN HR) (aN H2).1⟩
 ·obtain⟨rfl,VN,hw⟩:=hs;have HW:=bE (hw w2 gl pV (aN H2).2.1 (aN H2).2.2);clear hw;by_cases M9:16<k+u
  ·have i7:(k:Int)+(u:Int)>16:=by omega
   clear VN M9;go_wp2_with (
    go_at_call 79
    refine(aN HW).mono ?_;rintro e iF ⟨rfl,mG⟩;subst iF)
   go_ret;exact⟨rfl,dP.stay (aN HR) (aN H2).1⟩
  ·have i7:¬(k:Int)+(u:Int)>16:=by omega
   have i10:(q:Int)+(a:Int)>16:=by omega
   clear VN M9;go_wp2_with (
    go_at_call 79
    refine(aN HW).mono ?_;rintro e iF ⟨rfl,mG⟩;subst iF)
   go_ret;exact⟨rfl,dP.stay (aN HR) (aN H2).1⟩
 ·obtain⟨rfl,h1,h2,h3,h4,hw,sG⟩:=hs;have HW:=bE (hw w2 gl pV (aN H2).2.1 (aN H2).2.2);have dx:=bE (sG w2);have i7:¬(k:Int)+(u:Int)>16:=by omega
  have i10:¬(q:Int)+(a:Int)>16:=by omega
  have mU:300<(⟨m.out.toArray⟩:ByteArray).size+(⟨T.toArray⟩:ByteArray).size/\(⟨m.out.toArray⟩:ByteArray).size<=300/\(⟨T.toArray⟩:ByteArray).size<=300:=⟨by simpa[ByteArray.size] using h3,by simpa[ByteArray.size] using Jf,by simpa[ByteArray.size] using h4⟩
  generalize hO:(⟨m.out.toArray⟩:ByteArray)=O at mU;generalize zT:(⟨T.toArray⟩:ByteArray)=TT at mU dx;have HO:=bE hO;obtain⟨s1,s2,s3⟩:=mU;have j0:(O.size:Int)+(TT.size:Int)>300:=by omega
  have j1:=wi ((O.size:Int)+(TT.size:Int));clear hw sG hO zT h1 h2 h3 h4 s1 s2 s3;go_upto_region 15 with (first
   |(go_at_call 79
     refine(aN HW).mono ?_;rintro e iF ⟨rfl,mG⟩;subst iF)
   |(go_at_call 80
     refine(aN dx).mono ?_;rintro e w3 ⟨rfl,eW⟩;have H3:=bE eW;clear eW))
  have eW:bA w.heap.size w w3:=(aN H2).1.trans ((aN H3).mono (aN H2).1.size);have c3:w3.cell? ⟨rb,3,aC⟩=aE (aI O):=by rw[<-aN HO];exact aZ ((aN HR).below eW).mc rfl
  have Bv:=bE eW;clear eW;go_wp2;go_ret;exact⟨rfl,dP.stay (aN HR) (aN Bv)⟩
theorem Qe (w:aY)(rb:Nat)(vA vS vR:aG)(bs:List aG)(m:N.cE)(depth:Int)(s:ByteArray)(u a:Nat)(rest:List Int)(x y:Int)(h:cH w rb vA vS vR bs m)(hS:m.S=rest++[x,y])(hu:u<=3)(ha:a<=1)(code:Int)(ht:bH aQ 78 #[aI s] w λe w' =>e=aM (bC #[aH aF 2,aH aF 0,aH aF u,aH aF a])/\w' =w)(hs:((code != 0)=aX/\(∀W gl cap,cH W rb vA vS vR bs m->(∀j v,([x,y]:List Int)[j]?=aE v->W.cell? ⟨gl,j,aC⟩=aE (aH aF v))->bH aQ 79 #[aK (aE ⟨rb,0,aC⟩),aI s,(aJ (aE ⟨gl,0,aC⟩) 2 cap)] W λe w' =>e=aM (aH aF code)/\w' =W))\/(code=7/\(16<rest.length+u\/16<m.R.length+a)/\(∀W gl cap,cH W rb vA vS vR bs m->(∀j v,([x,y]:List Int)[j]?=aE v->W.cell? ⟨gl,j,aC⟩=aE (aH aF v))->bH aQ 79 #[aK (aE ⟨rb,0,aC⟩),aI s,(aJ (aE ⟨gl,0,aC⟩) 2 cap)] W λe w' =>e=aM (aH aF 0)/\w' =W))):
 bH aQ 61 #[aK (aE ⟨rb,0,aC⟩),aI s,aH aF depth] w λe w' =>e=aM (aH aF code)/\dP rb vA vS vR bs m w w' :=by
 obtain⟨iI,hi,hz,pW,jP⟩:=jJ;obtain⟨aS,cS,rfl,lU,qJ⟩:=cU h.st;obtain⟨aR,cR,rfl,Ti,mH⟩:=cU h.rt;obtain⟨g,cap,vJ,Tf,zX⟩:=h.st.form (by rw[hS];simp);have Nt:=eM vJ;subst Nt;clear vJ cap qJ mH Tf zX;have c1:=cq 1 h.mc rfl;have c2:=cq 2 h.mc rfl;have xJ:=h.sl;have xH:=h.rl;have hlen:m.S.length=rest.length+2:=by rw[hS];simp
 have src:lN w (aJ (if cS=rest.length then(aE ⟨g,0,aC⟩:Option Addr) else aE ⟨g,rest.length,aC⟩) (m.S.length-rest.length) (cS-rest.length)) (([x,y]:List Int).map (aH aF)):=by
  have:=kL (k:=rest.length) h.st lU (by omega);have e1:(m.S.map (aH aF)).drop rest.length=([x,y]:List Int).map (aH aF):=by rw[hS,<-List.map_drop,List.drop_left]
  rwa[e1] at this
 have HR:=bE h;have HT:=bE ht;have HS:=bE hs;have Jf:=h.ol;clear h ht hs;generalize hn:m.S.length=n at*;generalize hk:rest.length=k at*;generalize hr:m.R.length=q at*;generalize hx:(if cS=k then(aE ⟨g,0,aC⟩:Option Addr) else aE ⟨g,k,aC⟩)=xS at*;have HN:=bE (bK hn (bK hk (bK hS (bK hlen hr))));have i0:aF.wrap ((n:Int)-2)=(k:Int):=wj;have i1:(0:Int)<=(k:Int):=by omega
 have i2:(k:Int)<=(n:Int):=by omega
 have i3:(n:Int)<=(cS:Int):=by omega
 have Tm :(k:Int)<=(cS:Int):=by omega
 have i4:¬(n:Int)<2:=by omega
 have i5:¬(q:Int)<0:=by omega
 have i6:=wi ((k:Int)+(u:Int));have i8:=wi (q:Int);have i9:=wi ((q:Int)+(a:Int));have wL:0+(([x,y]:List Int).map (aH aF)).length<=maxLen:=by unfold maxLen;simp
 have wN:(0+(([x,y]:List Int).map (aH aF)).length)*8<=140737488355328:=by simp
 clear hn hk hS hlen hr;go_enter func61,ntmps61;go_wp2_with (
  go_at_call 78
  refine(aN HT).mono ?_;rintro e iF ⟨rfl,mG⟩;subst iF)
 go_region_held3 (λw' =>w'.cell? ⟨rb,1,aC⟩=aE (aJ (aE ⟨g,0,aC⟩) n cS)) (first|exact c1|go_keep)
  (first
    |(refine dW _ (by rfl) _ _ _ (by rfl) 3 iI (aH aF 0) 8 underlying26 hi hz pW jP rfl (aJ aC 0 0) 0 [] (by rfl) (aY.ownsRow_nil _ _ _ _) (aJ xS (n-k) (cS-k)) (([x,y]:List Int).map (aH aF)) (by rfl) (by exact src) (gX _) wL wN ?_
      intro a1 pV w2 o1 g1 t1;have g1:w.grownBy w2 aC:=⟨g1.os,g1.tape,g1.output,g1.size,g1.block⟩
      have c1:=g1.cell c1 (by simp)))
 simp only[List.map_cons,List.map_nil,cX,List.length_nil,dC,Nat.reduceAdd,List.nil_append] at o1 t1;have eD:bA w.heap.size w w2:=⟨g1.os,g1.tape,g1.output,g1.size,λk hk=>g1.block k hk (by simp)⟩
 obtain⟨gl,cl,Jd,Bj,tW⟩:=o1.form (by simp);have Jv:=eM Jd;subst Jv;have zW:w.heap.size<=gl:=by
  rcases t1 with t1|t1
  ·cases t1
  ·injection t1 with t1;exact Nat.le_of_eq t1.symm
 have ls:∀j v,([x,y]:List Int)[j]?=aE v->w2.cell? ⟨gl,j,aC⟩=aE (aH aF v):=λj v hv=>by
  have:=o1.cells (g:=gl) rfl j (aH aF v) (by
   have h1:(([x,y]:List Int).map (aH aF))[j]?=aE (aH aF v):=by rw[cI,hv];rfl
   exact h1)
  rwa[fE,dC] at this
 have qT:=(aN HR).below eD;have c2:=cq 2 qT.mc rfl;have l0:=ls 0 x rfl;have H2:=bE (bK eD (bK qT ls));clear eD qT o1 zW Bj tW t1 g1 Jd hi hz pW jP src hx HT wL wN ls;rcases aN HS with hs|hs
 ·obtain⟨hc,hw⟩:=hs;have HW:=bE (hw w2 gl pV (aN H2).2.1 (aN H2).2.2);clear hw;go_wp2_with (
   go_at_call 79
   refine(aN HW).mono ?_;rintro e iF ⟨rfl,mG⟩;subst iF)
  go_ret;exact⟨rfl,dP.stay (aN HR) (aN H2).1⟩
 ·obtain⟨rfl,VN,hw⟩:=hs;have HW:=bE (hw w2 gl pV (aN H2).2.1 (aN H2).2.2);clear hw;by_cases M9:16<k+u
  ·have i7:(k:Int)+(u:Int)>16:=by omega
   clear VN M9;go_wp2_with (
    go_at_call 79
    refine(aN HW).mono ?_;rintro e iF ⟨rfl,mG⟩;subst iF)
   go_ret;exact⟨rfl,dP.stay (aN HR) (aN H2).1⟩
  ·have i7:¬(k:Int)+(u:Int)>16:=by omega
   have i10:(q:Int)+(a:Int)>16:=by omega
   clear VN M9;go_wp2_with (
    go_at_call 79
    refine(aN HW).mono ?_;rintro e iF ⟨rfl,mG⟩;subst iF)
   go_ret;exact⟨rfl,dP.stay (aN HR) (aN H2).1⟩
theorem iV (w:aY)(rb:Nat)(vA vS vR:aG)(bs:List aG)(m:N.cE)(depth:Int)(s:ByteArray)(n r u a:Nat)(h:cH w rb vA vS vR bs m)(hu:m.S.length<n\/m.R.length<r)(ht:bH aQ 78 #[aI s] w λe w' =>e=aM (bC #[aH aF n,aH aF r,aH aF u,aH aF a])/\w' =w):
 bH aQ 61 #[aK (aE ⟨rb,0,aC⟩),aI s,aH aF depth] w λe w' =>e=aM (aH aF 6)/\dP rb vA vS vR bs m w w' :=by
 obtain⟨aS,cS,rfl,lU,qJ⟩:=cU h.st;obtain⟨aR,cR,rfl,Ti,mH⟩:=cU h.rt;have c1:=cq 1 h.mc rfl;have c2:=cq 2 h.mc rfl;have HR:=bE h;have HT:=bE ht;clear h ht qJ mH;generalize m.S.length=k at*;generalize m.R.length=q at*;by_cases h1:k<n
 ·have i4:(k:Int)<(n:Int):=by omega
  clear hu h1;go_enter func61,ntmps61;go_wp2_with (
   go_at_call 78
   refine(aN HT).mono ?_;rintro e iF ⟨rfl,mG⟩;subst iF)
  go_ret;exact⟨rfl,dP.stay (aN HR) (bF _ _)⟩
 ·have i4:¬(k:Int)<(n:Int):=by omega
  have i5:(q:Int)<(r:Int):=by omega
  clear hu h1;go_enter func61,ntmps61;go_wp2_with (
   go_at_call 78
   refine(aN HT).mono ?_;rintro e iF ⟨rfl,mG⟩;subst iF)
  go_ret;exact⟨rfl,dP.stay (aN HR) (bF _ _)⟩
theorem ep (w:aY)(rb:Nat)(vA vS vR:aG)(bs:List aG)(m:N.cE)(depth:Int)(s:ByteArray)(r u a:Nat)(T:List UInt8)(h:cH w rb vA vS vR bs m)(g cS:Nat)(vJ:vS=aJ (aE ⟨g,0,aC⟩) m.S.length cS)(lU:m.S.length<=cS)(hr:r<=m.R.length)(vG:r<=1)(hu:u<=1)(ha:a<=1)(ho:m.S.length+u<=16)(Tl:m.R.length-r+a<=16)(hT:m.out.length+T.length<=300)(ht:bH aQ 78 #[aI s] w λe w' =>e=aM (bC #[aH aF 0,aH aF r,aH aF u,aH aF a])/\w' =w)(hw:∀W vl,bH aQ 79 #[aK (aE ⟨rb,0,aC⟩),aI s,vl] W λe w' =>e=aM (aH aF 0)/\w' =W)(sG:∀W,bH aQ 80 #[aI s,aH aF 0] W λe w' =>e=aM (aI ⟨T.toArray⟩)/\bA W.heap.size W w')(hs:(s=⟨#[114,64]⟩/\r=1/\u=1/\a=1)\/(s=⟨#[100,101,112,116,104]⟩/\r=0/\u=1/\a=0)\/(s=⟨#[99,114]⟩/\r=0/\u=0/\a=0)):
 bH aQ 61 #[aK (aE ⟨rb,0,aC⟩),aI s,aH aF depth] w λe w' =>e=aM (aH aF 0)/\dP rb vA vS vR bs (N.kR {m with out:=m.out++T} s.data.toList [] m.S) w w' :=by
 obtain⟨iI,hi,hz,pW,jP⟩:=jJ;subst vJ;obtain⟨aR,cR,rfl,Ti,mH⟩:=cU h.rt;clear mH;have c1:=cq 1 h.mc rfl;have c2:=cq 2 h.mc rfl;have xJ:=h.sl;have xH:=h.rl;have src:lN w (aJ (if cS=m.S.length then(aE ⟨g,0,aC⟩:Option Addr) else aE ⟨g,m.S.length,aC⟩) (m.S.length-m.S.length) (cS-m.S.length)) (([]:List Int).map (aH aF)):=by
  have:=kL (k:=m.S.length) h.st lU (bD _);have e1:(m.S.map (aH aF)).drop m.S.length=([]:List Int).map (aH aF):=by rw[<-List.map_drop,List.drop_length]
  rwa[e1] at this
 have HR:=bE h;have zV:=bE hw;have xC:=bE sG;have HT:=bE ht;have HS:=bE hs;have So:=bE hT;have mU:(⟨m.out.toArray⟩:ByteArray).size+(⟨T.toArray⟩:ByteArray).size<=300:=by simpa[ByteArray.size] using hT
 generalize hO:(⟨m.out.toArray⟩:ByteArray)=O at mU;generalize zT:(⟨T.toArray⟩:ByteArray)=TT at mU xC;have HO:=bE (bK hO zT);clear h hO zT hw sG ht hs hT;generalize hn:m.S.length=n at*;generalize hq:m.R.length=q at*;obtain⟨k,hk⟩:∃k,k=n:=⟨_,rfl⟩
 have src:lN w (aJ (if cS=k then(aE ⟨g,0,aC⟩:Option Addr) else aE ⟨g,k,aC⟩) (n-k) (cS-k)) (([]:List Int).map (aH aF)):=by rw[hk];exact src
 generalize hx:(if cS=k then(aE ⟨g,0,aC⟩:Option Addr) else aE ⟨g,k,aC⟩)=xS at*;have HN:=bE (bK hn (bK hk hq));have i0:aF.wrap (n:Int)=(k:Int):=wj;have i1:(0:Int)<=(k:Int):=by omega
 have i2:(k:Int)<=(n:Int):=by omega
 have i3:(n:Int)<=(cS:Int):=by omega
 have Tm :(k:Int)<=(cS:Int):=by omega
 have i4:¬(n:Int)<0:=by omega
 have i6:=wi ((k:Int)+(u:Int));have i7:¬(k:Int)+(u:Int)>16:=by omega
 have xF:k+u<=16:=by omega
 obtain⟨p,hp⟩:∃p,p=q-r:=⟨_,rfl⟩
 have i5:¬(q:Int)<(r:Int):=by omega
 have i8:aF.wrap ((q:Int)-(r:Int))=(p:Int):=wj;have i9:=wi ((p:Int)+(a:Int));have i10:¬(p:Int)+(a:Int)>16:=by omega
 have HP:=bE (bK hp (bK hr Tl));have wL:0+(([]:List Int).map (aH aF)).length<=maxLen:=by unfold maxLen;simp
 have wN:(0+(([]:List Int).map (aH aF)).length)*8<=140737488355328:=by simp
 clear hn hq hp hr Tl hk;go_enter func61,ntmps61;go_wp2_with (
  go_at_call 78
  refine(aN HT).mono ?_;rintro e iF ⟨rfl,mG⟩;subst iF)
 go_region_held3 (λw' =>w'.cell? ⟨rb,1,aC⟩=aE (aJ (aE ⟨g,0,aC⟩) n cS)) (first|exact c1|go_keep)
  (first
    |(refine dW _ (by rfl) _ _ _ (by rfl) 3 iI (aH aF 0) 8 underlying26 hi hz pW jP rfl (aJ aC 0 0) 0 [] (by rfl) (aY.ownsRow_nil _ _ _ _) (aJ xS (n-k) (cS-k)) (([]:List Int).map (aH aF)) (by rfl) (by exact src) (gX _) wL wN ?_
      intro a1 pV w2 o1 g1 t1;have g1:w.grownBy w2 aC:=⟨g1.os,g1.tape,g1.output,g1.size,g1.block⟩
      have c1:=g1.cell c1 (by simp)))
 have eD:bA w.heap.size w w2:=⟨g1.os,g1.tape,g1.output,g1.size,λk hk=>g1.block k hk (by simp)⟩
 have qT:=(aN HR).below eD;have c2:=cq 2 qT.mc rfl;have H2:=bE eD;clear eD qT o1 t1 g1 hi hz pW jP src hx HT wL wN;go_upto_region 15 with (first
  |(go_at_call 79
    refine(aN zV w2 _).mono ?_;rintro e iF ⟨rfl,mG⟩;subst iF)
  |(go_at_call 80
    refine(aN xC w2).mono ?_;rintro e w3 ⟨rfl,eW⟩;have H3:=bE eW;clear eW))
 have eW:bA w.heap.size w w3:=(aN H2).trans ((aN H3).mono (aN H2).size);have oK:=(aN HR).below eW;have c1:=cq 1 oK.mc rfl;have c3:w3.cell? ⟨rb,3,aC⟩=aE (aI O):=by rw[<-(aN HO).1];exact aZ oK.mc rfl
 have f1:=bG 1 oK.mc;have f3:=bG 3 oK.mc;have H4:=bE (mB.GW (k:=k) (rest:=m.S) (T:=T) (l:=[]) (gl:=w.heap.size) eW (aN HR) (aN HN).1 (by have:=(aN HN).2.1;omega) (by rw[(aN HN).2.1,<-(aN HN).1,List.take_length]) (aN So) (bD _) (λj x hx=>by simp at hx) (O' :=O++TT) (by
  have:=aN HO;rw[<-this.1,<-this.2];exact kP _ _))
 have j0:¬(O.size:Int)+(TT.size:Int)>300:=by omega
 have j1:=wi ((O.size:Int)+(TT.size:Int));have j2:¬9223372036854775807<O.size+TT.size:=by omega
 clear eW oK H2 H3 xC zV c2;go_upto_region 19 with (fail)
 go_cut [] from 16 to 348 (λwx=>mB w rb vA (aJ (aE ⟨g,0,aC⟩) n cS) (aJ aR q cR) (aJ (aE ⟨g,0,aC⟩) k cS) bs {m with out:=m.out++T,S:=m.S} w.heap.size [] wx)
 case first=>
  go_region_law (fail)
  all_goals (go_wp2_with fail;go_meet;exact aN H4)
 case rest=>
 clear H4 c1 c3 f1 f3 j0 j1 j2 i0 i2 i3 Tm i4 i5 i6 i7 i8 i9 i10;obtain⟨iI,hi,hz,pW,jP⟩:=jJ;obtain⟨wz,YG⟩:∃z,z=wc:=⟨_,rfl⟩
 subst YG;have lM:=hcut.ref;have hlen:m.S.length=k:=(aN HN).1.trans (aN HN).2.1.symm;have zB:m.R.length=q:=(aN HN).2.2;have c1:=cq 1 lM.mc rfl;have c2:=cq 2 lM.mc rfl;have f1:=bG 1 lM.mc;obtain⟨nA,nS,nR⟩:=lM.pR;have yN :aE rb≠(aJ (aE ⟨g,0,aC⟩) k cS).ownBlock:=λe=>nS e.symm
 have OS:=bE (show wz.ownsRow 0 3 1 (aJ (aE ⟨g,0,aC⟩) k cS) k (m.S.map (aH aF)) from by
  have:=lM.st;rw[show({m with out:=m.out++T,S:=m.S}:N.cE).S.length=k from hlen] at this;exact this)
 have HC:=bE (bK hcut (bK hlen zB));clear hcut nA nS nR hlen;rcases aN HS with ⟨rfl,rfl,rfl,rfl⟩|⟨rfl,rfl,rfl,rfl⟩|⟨rfl,rfl,rfl,rfl⟩
 ·obtain⟨R0,v,zL⟩:∃R0 v,m.R=R0++[v]:=by
   rcases List.eq_nil_or_concat m.R with e|⟨R0,v,e⟩
   ·have hz0:=(aN HP).2.1;rw[e] at zB;simp at zB;omega
   ·exact⟨R0,v,by simpa using e⟩
  obtain⟨gR,cap,UK,ET,EE⟩:=lM.rt.form (by show 0<m.R.length;rw[zL];simp);have DJ:=eM UK;subst DJ;clear UK cap ET EE;have hv:dQ v:=lM.ri v (by show v∈m.R;rw[zL];simp);have cv:wz.cell? ⟨gR,p,aC⟩=aE (aH aF v):=by
   have:=lM.rt.cells (g:=gR) rfl p (aH aF v) (by
    show(m.R.map (aH aF))[p]?=_;have nV:p=R0.length:=by have h1:=(aN HP).1;rw[zL] at zB;simp at zB;omega
    rw[zL,nV];simp)
   rwa[fE,dC] at this
  have TE:q=p+1:=by have h1:=(aN HP).1;have h2:=(aN HP).2.1;omega
  have m0:aF.wrap ((q:Int)-1)=(p:Int):=wj;have m1:(0:Int)<=(p:Int):=by omega
  have m2:(p:Int)<(q:Int):=by omega
  have m3:(p:Int)<=(cR:Int):=by omega
  have HV:=bE (bK zL (bK TE zB));have oC:m.R.getLast?.getD 0=v:=by rw[zL];simp
  have Jl:m.R.dropLast=m.R.take p:=by rw[zL,List.dropLast_concat];rw[zL] at zB;simp at zB;rw[show p=R0.length by omega,List.take_left]
  have HL:=bE (bK oC Jl);have d1:(wz.alloc (aU #[aH aF v] 3)).drew.cell? ⟨rb,1,aC⟩=aE (aJ (aE ⟨g,0,aC⟩) k cS):=bJ c1 _;have d2:(wz.alloc (aU #[aH aF v] 3)).cell? ⟨rb,1,aC⟩=aE (aJ (aE ⟨g,0,aC⟩) k cS):=bJ c1 _;have nGR:aE gR≠(aJ (aE ⟨g,0,aC⟩) k cS).ownBlock:=λe=>lM.ap gR e.symm rfl
  clear zL TE oC Jl lM zB;go_wp2;refine uR 21 (λw' :aY=>w'.cell? ⟨rb,1,aC⟩=aE (aJ (aE ⟨g,0,aC⟩) k cS)/\w'.cell? ⟨rb,2,aC⟩=aE (aJ (aE ⟨gR,0,aC⟩) q cR)/\w'.cell? ⟨gR,p,aC⟩=aE (aH aF v)) (by kernel_rfl) ⟨c1,c2,cv⟩ (λhc hS=>?_);refine uA 0 (aK (aE ⟨rb,0,aC⟩)) hc hS λhc=>?_
  refine uA 1 (aK (aE ⟨rb,0,aC⟩)) hc hS λhc=>?_
  refine uA 2 (aK (aE ⟨rb,0,aC⟩)) hc hS λhc=>?_
  refine uA 3 (aK (aE ⟨rb,1,aC⟩)) hc hS λhc=>?_
  refine uA 4 (aJ (aE ⟨g,0,aC⟩) k cS) hc hS λhc=>?_
  refine uA 5 (aK (aE ⟨rb,0,aC⟩)) hc hS λhc=>?_
  refine uA 6 (aK (aE ⟨rb,0,aC⟩)) hc hS λhc=>?_
  refine uA 7 (aK (aE ⟨rb,2,aC⟩)) hc hS λhc=>?_
  refine uA 8 (aJ (aE ⟨gR,0,aC⟩) q cR) hc hS λhc=>?_
  refine uA 9 (aK (aE ⟨rb,0,aC⟩)) hc hS λhc=>?_
  refine uA 10 (aK (aE ⟨rb,0,aC⟩)) hc hS λhc=>?_
  refine uA 11 (aK (aE ⟨rb,2,aC⟩)) hc hS λhc=>?_
  refine uA 12 (aJ (aE ⟨gR,0,aC⟩) q cR) hc hS λhc=>?_
  refine uA 13 (aH aF q) hc hS λhc=>?_
  refine uA 14 (aH aF p) hc hS λhc=>?_
  refine uA 15 (aK (aE ⟨gR,p,aC⟩)) hc hS λhc=>?_
  refine uA 16 (aH aF v) hc hS λhc=>?_
  refine uO 17 (by kernel_rfl) rfl (λK' hK=>?_);go_simp;refine hK.out _ _ (by exact⟨bJ c1 _,bJ c2 _,bJ cv _⟩) ?_;clear hK K';have hc:=hc.nx 17 (by kernel_rfl);refine uO 18 (by kernel_rfl) rfl (λK' hK=>?_);refine dW _ (by rfl) _ _ 26 (by rfl) 3 iI (aH aF 0) 8 underlying26 hi hz pW jP rfl (aJ (aE ⟨g,0,aC⟩) k cS) k (m.S.map (aH aF)) (by rfl) (by exact(aN OS).alloc _) (aJ (aE ⟨wz.heap.size,0,aC⟩) 1 1) (([v]:List Int).map (aH aF)) (by rfl) (lY wz (([v]:List Int).map (aH aF)) 3 rfl rfl) (gX _) (by unfold maxLen;simp;omega) (by simp;omega) ?_;intro a3 iG w5 o3 g3 t3;have g3:(wz.alloc (aU #[aH aF v] 3)).grownBy w5 (aJ (aE ⟨g,0,aC⟩) k cS).ownBlock:=⟨g3.os,g3.tape,g3.output,g3.size,g3.block⟩
  have e1:(wz.alloc (aU #[aH aF v] 3)).cell? ⟨rb,1,aC⟩=aE (aJ (aE ⟨g,0,aC⟩) k cS):=bJ c1 _;have f4:(wz.alloc (aU #[aH aF v] 3)).frozen? ⟨rb,1,aC⟩=aV:=cY (bU wz _ aC) c1 f1 (by simp);have f5:=cY g3 e1 f4 yN;have e5:=g3.cell e1 yN;have G3:=bE (bK g3 (bK o3 t3));have e6:=g3.cell (show(wz.alloc (aU #[aH aF v] 3)).cell? ⟨rb,2,aC⟩=_ from bJ c2 _) yN;have e7:=g3.cell (show(wz.alloc (aU #[aH aF v] 3)).cell? ⟨gR,p,aC⟩=_ from bJ cv _) nGR;clear g3 o3 t3 e1 f4;refine hK.out _ _ (by exact⟨e5,e6,e7⟩) ?_;clear hK K';have hc:=hc.nx 18 (by kernel_rfl);refine uA 19 (aK (aE ⟨rb,0,aC⟩)) hc (by exact⟨e5,e6,e7⟩) λhc=>?_
  refine uA 20 (aK (aE ⟨rb,1,aC⟩)) hc (by exact⟨e5,e6,e7⟩) λhc=>?_
  refine lA (by kernel_rfl) rfl (λK' hK=>?_);go_simp;refine hK.out _ _ ?_;clear hK K';refine wpAny_done (by kernel_rfl) ?_ _;go_wp2;go_ret;refine⟨rfl,?_⟩;have hd:N.kR {m with out:=m.out++T} [114,64] [] m.S={m with out:=m.out++T,S:=m.S++[v]}:=by
   show({m with out:=m.out++T,S:=m.S++[m.R.getLast?.getD 0]}:N.cE)=_;rw[(aN HL).1]
  show dP _ _ _ _ _ (N.kR {m with out:=m.out++T} [114,64] [] m.S) _ _;rw[hd];exact⟨_,_,_,mB.zM (xs:=[v]) (aN HC).1 ((bF _ _).alloc (bD _) _) (aN G3).1 (aN HC).2.1 (aN G3).2.1 (aN G3).2.2 (by show k+1<=16;omega) (λv hv=>by simp only[List.mem_cons,dR,or_false] at hv;subst hv;exact hv)⟩
 ·clear lM zB;go_wp2_with (
   at_builtin
   refine kV _ (by rfl) (.tmp 298) (.tmp 300) 26 (by rfl) 3 iI (aH aF 0) 8 underlying26 hi hz pW jP rfl (aJ (aE ⟨g,0,aC⟩) k cS) k (m.S.map (aH aF)) (by rfl) (by exact(aN OS).alloc _) (aJ (aE ⟨wz.heap.size,0,aC⟩) 1 1) (([(n:Int)]:List Int).map (aH aF)) (by rfl) (lY wz (([(n:Int)]:List Int).map (aH aF)) 3 rfl rfl) (gX _) (by unfold maxLen;simp;omega) (by simp;omega) ?_;intro a3 iG w5 o3 g3 t3;have g3:(wz.alloc (aU #[aH aF n] 3)).grownBy w5 (aJ (aE ⟨g,0,aC⟩) k cS).ownBlock:=⟨g3.os,g3.tape,g3.output,g3.size,g3.block⟩
   have e1:(wz.alloc (aU #[aH aF n] 3)).cell? ⟨rb,1,aC⟩=aE (aJ (aE ⟨g,0,aC⟩) k cS):=bJ c1 _;have f4:(wz.alloc (aU #[aH aF n] 3)).frozen? ⟨rb,1,aC⟩=aV:=cY (bU wz _ aC) c1 f1 (by simp);have f5:=cY g3 e1 f4 yN;have e5:=g3.cell e1 yN;have G3:=bE (bK g3 (bK o3 t3));clear g3 o3 t3 e1 f4)
  go_ret;refine⟨rfl,?_⟩;have hd:N.kR {m with out:=m.out++T} [100,101,112,116,104] [] m.S={m with out:=m.out++T,S:=m.S++[(n:Int)]}:=by
   show({m with out:=m.out++T,S:=m.S++[(m.S.length:Int)]}:N.cE)=_;rw[(aN HN).1]
  show dP _ _ _ _ _ (N.kR {m with out:=m.out++T} [100,101,112,116,104] [] m.S) _ _;rw[hd];exact⟨_,_,_,mB.zM (xs:=[(n:Int)]) (aN HC).1 ((bF _ _).alloc (bD _) _) (aN G3).1 (aN HC).2.1 (aN G3).2.1 (aN G3).2.2 (by show k+1<=16;omega) (λv hv=>by simp only[List.mem_cons,dR,or_false] at hv;subst hv;exact⟨by omega,by omega⟩)⟩
 ·clear lM zB;go_wp2;go_ret;exact⟨rfl,(aN HC).1.done⟩
theorem fl (w:aY)(rb:Nat)(vA vS vR:aG)(bs:List aG)(m:N.cE)(depth:Int)(s:ByteArray)(r u a:Nat)(T:List UInt8)(h:cH w rb vA vS vR bs m)(vJ:vS=aJ aC 0 0)(qJ:m.S.length=0)(hr:r<=m.R.length)(vG:r<=1)(hu:u<=1)(ha:a<=1)(ho:m.S.length+u<=16)(Tl:m.R.length-r+a<=16)(hT:m.out.length+T.length<=300)(ht:bH aQ 78 #[aI s] w λe w' =>e=aM (bC #[aH aF 0,aH aF r,aH aF u,aH aF a])/\w' =w)(hw:∀W vl,bH aQ 79 #[aK (aE ⟨rb,0,aC⟩),aI s,vl] W λe w' =>e=aM (aH aF 0)/\w' =W)(sG:∀W,bH aQ 80 #[aI s,aH aF 0] W λe w' =>e=aM (aI ⟨T.toArray⟩)/\bA W.heap.size W w')(hs:(s=⟨#[114,64]⟩/\r=1/\u=1/\a=1)\/(s=⟨#[100,101,112,116,104]⟩/\r=0/\u=1/\a=0)\/(s=⟨#[99,114]⟩/\r=0/\u=0/\a=0)):
 bH aQ 61 #[aK (aE ⟨rb,0,aC⟩),aI s,aH aF depth] w λe w' =>e=aM (aH aF 0)/\dP rb vA vS vR bs (N.kR {m with out:=m.out++T} s.data.toList [] m.S) w w' :=by
 obtain⟨iI,hi,hz,pW,jP⟩:=jJ;subst vJ;obtain⟨aR,cR,rfl,Ti,mH⟩:=cU h.rt;clear mH;have c1:=cq 1 h.mc rfl;have c2:=cq 2 h.mc rfl;have xJ:=h.sl;have xH:=h.rl;have HR:=bE h;have zV:=bE hw;have xC:=bE sG;have HT:=bE ht;have HS:=bE hs;have So:=bE hT;have mU:(⟨m.out.toArray⟩:ByteArray).size+(⟨T.toArray⟩:ByteArray).size<=300:=by simpa[ByteArray.size] using hT
 generalize hO:(⟨m.out.toArray⟩:ByteArray)=O at mU;generalize zT:(⟨T.toArray⟩:ByteArray)=TT at mU xC;have HO:=bE (bK hO zT);clear h hO zT hw sG ht hs hT;generalize hn:m.S.length=n at*;generalize hq:m.R.length=q at*;have HN:=bE (bK hn (bK qJ hq));have z0:aF.wrap 0=0:=by rfl
 have i6:=wi (u:Int);have i7:¬(u:Int)>16:=by omega
 have xF:n+u<=16:=by omega
 obtain⟨p,hp⟩:∃p,p=q-r:=⟨_,rfl⟩
 have i5:¬(q:Int)<(r:Int):=by omega
 have i8:aF.wrap ((q:Int)-(r:Int))=(p:Int):=wj;have i9:=wi ((p:Int)+(a:Int));have i10:¬(p:Int)+(a:Int)>16:=by omega
 have HP:=bE (bK hp (bK hr Tl));have wL:0+(([]:List Int).map (aH aF)).length<=maxLen:=by unfold maxLen;simp
 have wN:(0+(([]:List Int).map (aH aF)).length)*8<=140737488355328:=by simp
 clear hn hq hp hr Tl qJ;go_enter func61,ntmps61;go_wp2_with (
  go_at_call 78
  refine(aN HT).mono ?_;rintro e iF ⟨rfl,mG⟩;subst iF)
 go_region_held3 (λw' =>w'.cell? ⟨rb,1,aC⟩=aE (aJ aC 0 0)) (first|exact c1|go_keep)
  (first
    |(refine dW _ (by rfl) _ _ _ (by rfl) 3 iI (aH aF 0) 8 underlying26 hi hz pW jP rfl (aJ aC 0 0) 0 [] (by rfl) (aY.ownsRow_nil _ _ _ _) (aJ aC 0 0) (([]:List Int).map (aH aF)) (by rfl) (by exact lN.nil _) (gX _) wL wN ?_
      intro a1 pV w2 o1 g1 t1;have g1:w.grownBy w2 aC:=⟨g1.os,g1.tape,g1.output,g1.size,g1.block⟩
      have c1:=g1.cell c1 (by simp)))
 have eD:bA w.heap.size w w2:=⟨g1.os,g1.tape,g1.output,g1.size,λk hk=>g1.block k hk (by simp)⟩
 have qT:=(aN HR).below eD;have c2:=cq 2 qT.mc rfl;have H2:=bE eD;clear eD qT o1 t1 g1 hi hz pW jP HT wL wN;go_upto_region 15 with (first
  |(go_at_call 79
    refine(aN zV w2 _).mono ?_;rintro e iF ⟨rfl,mG⟩;subst iF)
  |(go_at_call 80
    refine(aN xC w2).mono ?_;rintro e w3 ⟨rfl,eW⟩;have H3:=bE eW;clear eW))
 have eW:bA w.heap.size w w3:=(aN H2).trans ((aN H3).mono (aN H2).size);have oK:=(aN HR).below eW;have c1:=cq 1 oK.mc rfl;have c3:w3.cell? ⟨rb,3,aC⟩=aE (aI O):=by rw[<-(aN HO).1];exact aZ oK.mc rfl
 have f1:=bG 1 oK.mc;have f3:=bG 3 oK.mc;have H4:=bE (mB.GW (k:=0) (rest:=m.S) (T:=T) (l:=[]) (gl:=w.heap.size) eW (aN HR) ((aN HN).1.trans (aN HN).2.1) (bD _) (by rw[dU.1 ((aN HN).1.trans (aN HN).2.1)];rfl) (aN So) (bD _) (λj x hx=>by simp at hx) (O' :=O++TT) (by
  have:=aN HO;rw[<-this.1,<-this.2];exact kP _ _))
 have j0:¬(O.size:Int)+(TT.size:Int)>300:=by omega
 have j1:=wi ((O.size:Int)+(TT.size:Int));have j2:¬9223372036854775807<O.size+TT.size:=by omega
 clear eW oK H2 H3 xC zV c2;go_upto_region 19 with (fail)
 go_cut [] from 16 to 348 (λwx=>mB w rb vA (aJ aC 0 0) (aJ aR q cR) (aJ aC 0 0) bs {m with out:=m.out++T,S:=m.S} w.heap.size [] wx)
 case first=>
  go_region_law (fail)
  all_goals (go_wp2_with fail;go_meet;exact aN H4)
 case rest=>
 clear H4 c1 c3 f1 f3 j0 j1 j2 i5 i6 i7 i8 i9 i10;obtain⟨iI,hi,hz,pW,jP⟩:=jJ;obtain⟨wz,YG⟩:∃z,z=wc:=⟨_,rfl⟩
 subst YG;have lM:=hcut.ref;have hlen:m.S.length=0:=(aN HN).1.trans (aN HN).2.1;have zB:m.R.length=q:=(aN HN).2.2;have c1:=cq 1 lM.mc rfl;have c2:=cq 2 lM.mc rfl;have f1:=bG 1 lM.mc;obtain⟨nA,nS,nR⟩:=lM.pR;have yN :aE rb≠(aJ aC 0 0).ownBlock:=λe=>nS e.symm
 have OS:=bE (show wz.ownsRow 0 3 1 (aJ aC 0 0) 0 (m.S.map (aH aF)) from by
  have:=lM.st;rw[show({m with out:=m.out++T,S:=m.S}:N.cE).S.length=0 from hlen] at this;exact this)
 have HC:=bE (bK hcut (bK hlen zB));clear hcut nA nS nR hlen;rcases aN HS with ⟨rfl,rfl,rfl,rfl⟩|⟨rfl,rfl,rfl,rfl⟩|⟨rfl,rfl,rfl,rfl⟩
 ·obtain⟨R0,v,zL⟩:∃R0 v,m.R=R0++[v]:=by
   rcases List.eq_nil_or_concat m.R with e|⟨R0,v,e⟩
   ·have hz0:=(aN HP).2.1;rw[e] at zB;simp at zB;omega
   ·exact⟨R0,v,by simpa using e⟩
  obtain⟨gR,cap,UK,ET,EE⟩:=lM.rt.form (by show 0<m.R.length;rw[zL];simp);have DJ:=eM UK;subst DJ;clear UK cap ET EE;have hv:dQ v:=lM.ri v (by show v∈m.R;rw[zL];simp);have cv:wz.cell? ⟨gR,p,aC⟩=aE (aH aF v):=by
   have:=lM.rt.cells (g:=gR) rfl p (aH aF v) (by
    show(m.R.map (aH aF))[p]?=_;have nV:p=R0.length:=by have h1:=(aN HP).1;rw[zL] at zB;simp at zB;omega
    rw[zL,nV];simp)
   rwa[fE,dC] at this
  have TE:q=p+1:=by have h1:=(aN HP).1;have h2:=(aN HP).2.1;omega
  have m0:aF.wrap ((q:Int)-1)=(p:Int):=wj;have m1:(0:Int)<=(p:Int):=by omega
  have m2:(p:Int)<(q:Int):=by omega
  have m3:(p:Int)<=(cR:Int):=by omega
  have HV:=bE (bK zL (bK TE zB));have oC:m.R.getLast?.getD 0=v:=by rw[zL];simp
  have Jl:m.R.dropLast=m.R.take p:=by rw[zL,List.dropLast_concat];rw[zL] at zB;simp at zB;rw[show p=R0.length by omega,List.take_left]
  have HL:=bE (bK oC Jl);have d1:(wz.alloc (aU #[aH aF v] 3)).drew.cell? ⟨rb,1,aC⟩=aE (aJ aC 0 0):=bJ c1 _;have d2:(wz.alloc (aU #[aH aF v] 3)).cell? ⟨rb,1,aC⟩=aE (aJ aC 0 0):=bJ c1 _;have nGR:aE gR≠(aJ aC 0 0).ownBlock:=λe=>lM.ap gR e.symm rfl
  clear zL TE oC Jl lM zB;go_wp2;refine uR 21 (λw' :aY=>w'.cell? ⟨rb,1,aC⟩=aE (aJ aC 0 0)/\w'.cell? ⟨rb,2,aC⟩=aE (aJ (aE ⟨gR,0,aC⟩) q cR)/\w'.cell? ⟨gR,p,aC⟩=aE (aH aF v)) (by kernel_rfl) ⟨c1,c2,cv⟩ (λhc hS=>?_);refine uA 0 (aK (aE ⟨rb,0,aC⟩)) hc hS λhc=>?_
  refine uA 1 (aK (aE ⟨rb,0,aC⟩)) hc hS λhc=>?_
  refine uA 2 (aK (aE ⟨rb,0,aC⟩)) hc hS λhc=>?_
  refine uA 3 (aK (aE ⟨rb,1,aC⟩)) hc hS λhc=>?_
  refine uA 4 (aJ aC 0 0) hc hS λhc=>?_
  refine uA 5 (aK (aE ⟨rb,0,aC⟩)) hc hS λhc=>?_
  refine uA 6 (aK (aE ⟨rb,0,aC⟩)) hc hS λhc=>?_
  refine uA 7 (aK (aE ⟨rb,2,aC⟩)) hc hS λhc=>?_
  refine uA 8 (aJ (aE ⟨gR,0,aC⟩) q cR) hc hS λhc=>?_
  refine uA 9 (aK (aE ⟨rb,0,aC⟩)) hc hS λhc=>?_
  refine uA 10 (aK (aE ⟨rb,0,aC⟩)) hc hS λhc=>?_
  refine uA 11 (aK (aE ⟨rb,2,aC⟩)) hc hS λhc=>?_
  refine uA 12 (aJ (aE ⟨gR,0,aC⟩) q cR) hc hS λhc=>?_
  refine uA 13 (aH aF q) hc hS λhc=>?_
  refine uA 14 (aH aF p) hc hS λhc=>?_
  refine uA 15 (aK (aE ⟨gR,p,aC⟩)) hc hS λhc=>?_
  refine uA 16 (aH aF v) hc hS λhc=>?_
  refine uO 17 (by kernel_rfl) rfl (λK' hK=>?_);go_simp;refine hK.out _ _ (by exact⟨bJ c1 _,bJ c2 _,bJ cv _⟩) ?_;clear hK K';have hc:=hc.nx 17 (by kernel_rfl);refine uO 18 (by kernel_rfl) rfl (λK' hK=>?_);refine dW _ (by rfl) _ _ 26 (by rfl) 3 iI (aH aF 0) 8 underlying26 hi hz pW jP rfl (aJ aC 0 0) 0 (m.S.map (aH aF)) (by rfl) (by exact(aN OS).alloc _) (aJ (aE ⟨wz.heap.size,0,aC⟩) 1 1) (([v]:List Int).map (aH aF)) (by rfl) (lY wz (([v]:List Int).map (aH aF)) 3 rfl rfl) (gX _) (by unfold maxLen;simp) (by simp) ?_;intro a3 iG w5 o3 g3 t3;have g3:(wz.alloc (aU #[aH aF v] 3)).grownBy w5 (aJ aC 0 0).ownBlock:=⟨g3.os,g3.tape,g3.output,g3.size,g3.block⟩
  have e1:(wz.alloc (aU #[aH aF v] 3)).cell? ⟨rb,1,aC⟩=aE (aJ aC 0 0):=bJ c1 _;have f4:(wz.alloc (aU #[aH aF v] 3)).frozen? ⟨rb,1,aC⟩=aV:=cY (bU wz _ aC) c1 f1 (by simp);have f5:=cY g3 e1 f4 yN;have e5:=g3.cell e1 yN;have G3:=bE (bK g3 (bK o3 t3));have e6:=g3.cell (show(wz.alloc (aU #[aH aF v] 3)).cell? ⟨rb,2,aC⟩=_ from bJ c2 _) yN;have e7:=g3.cell (show(wz.alloc (aU #[aH aF v] 3)).cell? ⟨gR,p,aC⟩=_ from bJ cv _) nGR;clear g3 o3 t3 e1 f4;refine hK.out _ _ (by exact⟨e5,e6,e7⟩) ?_;clear hK K';have hc:=hc.nx 18 (by kernel_rfl);refine uA 19 (aK (aE ⟨rb,0,aC⟩)) hc (by exact⟨e5,e6,e7⟩) λhc=>?_
  refine uA 20 (aK (aE ⟨rb,1,aC⟩)) hc (by exact⟨e5,e6,e7⟩) λhc=>?_
  refine lA (by kernel_rfl) rfl (λK' hK=>?_);go_simp;refine hK.out _ _ ?_;clear hK K';refine wpAny_done (by kernel_rfl) ?_ _;go_wp2;go_ret;refine⟨rfl,?_⟩;have hd:N.kR {m with out:=m.out++T} [114,64] [] m.S={m with out:=m.out++T,S:=m.S++[v]}:=by
   show({m with out:=m.out++T,S:=m.S++[m.R.getLast?.getD 0]}:N.cE)=_;rw[(aN HL).1]
  show dP _ _ _ _ _ (N.kR {m with out:=m.out++T} [114,64] [] m.S) _ _;rw[hd];exact⟨_,_,_,mB.zM (xs:=[v]) (aN HC).1 ((bF _ _).alloc (bD _) _) (aN G3).1 (aN HC).2.1 (aN G3).2.1 (aN G3).2.2 (by show 0+1<=16;omega) (λv hv=>by simp only[List.mem_cons,dR,or_false] at hv;subst hv;exact hv)⟩
 ·clear lM zB;go_wp2_with (
   at_builtin
   refine kV _ (by rfl) (.tmp 298) (.tmp 300) 26 (by rfl) 3 iI (aH aF 0) 8 underlying26 hi hz pW jP rfl (aJ aC 0 0) 0 (m.S.map (aH aF)) (by rfl) (by exact(aN OS).alloc _) (aJ (aE ⟨wz.heap.size,0,aC⟩) 1 1) (([0]:List Int).map (aH aF)) (by rfl) (lY wz (([0]:List Int).map (aH aF)) 3 rfl rfl) (gX _) (by unfold maxLen;simp) (by simp) ?_;intro a3 iG w5 o3 g3 t3;have g3:(wz.alloc (aU #[aH aF 0] 3)).grownBy w5 (aJ aC 0 0).ownBlock:=⟨g3.os,g3.tape,g3.output,g3.size,g3.block⟩
   have e1:(wz.alloc (aU #[aH aF 0] 3)).cell? ⟨rb,1,aC⟩=aE (aJ aC 0 0):=bJ c1 _;have f4:(wz.alloc (aU #[aH aF 0] 3)).frozen? ⟨rb,1,aC⟩=aV:=cY (bU wz _ aC) c1 f1 (by simp);have f5:=cY g3 e1 f4 yN;have e5:=g3.cell e1 yN;have G3:=bE (bK g3 (bK o3 t3));clear g3 o3 t3 e1 f4)
  go_ret;refine⟨rfl,?_⟩;have hd:N.kR {m with out:=m.out++T} [100,101,112,116,104] [] m.S={m with out:=m.out++T,S:=m.S++[0]}:=by
   show({m with out:=m.out++T,S:=m.S++[(m.S.length:Int)]}:N.cE)=_;rw[(aN HC).2.1];rfl
  show dP _ _ _ _ _ (N.kR {m with out:=m.out++T} [100,101,112,116,104] [] m.S) _ _;rw[hd];exact⟨_,_,_,mB.zM (xs:=[0]) (aN HC).1 ((bF _ _).alloc (bD _) _) (aN G3).1 (aN HC).2.1 (aN G3).2.1 (aN G3).2.2 (by show 0+1<=16;omega) (λv hv=>by simp only[List.mem_cons,dR,or_false] at hv;subst hv;exact⟨by decide,by decide⟩)⟩
 ·clear lM zB;go_wp2;go_ret;exact⟨rfl,(aN HC).1.done⟩
theorem Db (w:aY)(rb:Nat)(vA vS vR:aG)(bs:List aG)(m:N.cE)(depth:Int)(s:ByteArray)(r u a:Nat)(T:List UInt8)(h:cH w rb vA vS vR bs m)(g cS:Nat)(vJ:vS=aJ (aE ⟨g,0,aC⟩) m.S.length cS)(lU:m.S.length<=cS)(hr:r<=m.R.length)(vG:r<=1)(hu:u<=1)(ha:a<=1)(code:Int)(ht:bH aQ 78 #[aI s] w λe w' =>e=aM (bC #[aH aF 0,aH aF r,aH aF u,aH aF a])/\w' =w)(hw:∀W vl,bH aQ 79 #[aK (aE ⟨rb,0,aC⟩),aI s,vl] W λe w' =>e=aM (aH aF 0)/\w' =W)(hs:(code=7/\(16<m.S.length+u\/16<m.R.length-r+a))\/(code=12/\m.S.length+u<=16/\m.R.length-r+a<=16/\300<m.out.length+T.length/\T.length<=300/\(∀W,bH aQ 80 #[aI s,aH aF 0] W λe w' =>e=aM (aI ⟨T.toArray⟩)/\bA W.heap.size W w'))):
 bH aQ 61 #[aK (aE ⟨rb,0,aC⟩),aI s,aH aF depth] w λe w' =>e=aM (aH aF code)/\dP rb vA vS vR bs m w w' :=by
 obtain⟨iI,hi,hz,pW,jP⟩:=jJ;subst vJ;obtain⟨aR,cR,rfl,Ti,mH⟩:=cU h.rt;clear mH;have c1:=cq 1 h.mc rfl;have c2:=cq 2 h.mc rfl;have xJ:=h.sl;have xH:=h.rl;have src:lN w (aJ (if cS=m.S.length then(aE ⟨g,0,aC⟩:Option Addr) else aE ⟨g,m.S.length,aC⟩) (m.S.length-m.S.length) (cS-m.S.length)) (([]:List Int).map (aH aF)):=by
  have:=kL (k:=m.S.length) h.st lU (bD _);have e1:(m.S.map (aH aF)).drop m.S.length=([]:List Int).map (aH aF):=by rw[<-List.map_drop,List.drop_length]
  rwa[e1] at this
 have HR:=bE h;have zV:=bE hw;have HT:=bE ht;have HS:=bE hs;have Jf:=h.ol;clear h ht hs hw;generalize hn:m.S.length=n at*;generalize hq:m.R.length=q at*;obtain⟨k,hk⟩:∃k,k=n:=⟨_,rfl⟩
 have src:lN w (aJ (if cS=k then(aE ⟨g,0,aC⟩:Option Addr) else aE ⟨g,k,aC⟩) (n-k) (cS-k)) (([]:List Int).map (aH aF)):=by rw[hk];exact src
 generalize hx:(if cS=k then(aE ⟨g,0,aC⟩:Option Addr) else aE ⟨g,k,aC⟩)=xS at*;have HN:=bE (bK hn (bK hk hq));have i0:aF.wrap (n:Int)=(k:Int):=wj;have i1:(0:Int)<=(k:Int):=by omega
 have i2:(k:Int)<=(n:Int):=by omega
 have i3:(n:Int)<=(cS:Int):=by omega
 have Tm :(k:Int)<=(cS:Int):=by omega
 have i4:¬(n:Int)<0:=by omega
 have i6:=wi ((k:Int)+(u:Int));obtain⟨p,hp⟩:∃p,p=q-r:=⟨_,rfl⟩
 have i5:¬(q:Int)<(r:Int):=by omega
 have i8:aF.wrap ((q:Int)-(r:Int))=(p:Int):=wj;have i9:=wi ((p:Int)+(a:Int));have HP:=bE (bK hp hr);have wL:0+(([]:List Int).map (aH aF)).length<=maxLen:=by unfold maxLen;simp
 have wN:(0+(([]:List Int).map (aH aF)).length)*8<=140737488355328:=by simp
 clear hn hq hp hr hk;go_enter func61,ntmps61;go_wp2_with (
  go_at_call 78
  refine(aN HT).mono ?_;rintro e iF ⟨rfl,mG⟩;subst iF)
 go_region_held3 (λw' =>w'.cell? ⟨rb,1,aC⟩=aE (aJ (aE ⟨g,0,aC⟩) n cS)) (first|exact c1|go_keep)
  (first
    |(refine dW _ (by rfl) _ _ _ (by rfl) 3 iI (aH aF 0) 8 underlying26 hi hz pW jP rfl (aJ aC 0 0) 0 [] (by rfl) (aY.ownsRow_nil _ _ _ _) (aJ xS (n-k) (cS-k)) (([]:List Int).map (aH aF)) (by rfl) (by exact src) (gX _) wL wN ?_
      intro a1 pV w2 o1 g1 t1;have g1:w.grownBy w2 aC:=⟨g1.os,g1.tape,g1.output,g1.size,g1.block⟩
      have c1:=g1.cell c1 (by simp)))
 have eD:bA w.heap.size w w2:=⟨g1.os,g1.tape,g1.output,g1.size,λk hk=>g1.block k hk (by simp)⟩
 have qT:=(aN HR).below eD;have c2:=cq 2 qT.mc rfl;have H2:=bE eD;clear eD qT o1 t1 g1 hi hz pW jP src hx HT wL wN;rcases aN HS with hs|hs
 ·obtain⟨rfl,VN⟩:=hs;have Mp:=(aN HN).2.1;have ZQ:=(aN HP).1;by_cases M9:16<k+u
  ·have i7:(k:Int)+(u:Int)>16:=by omega
   clear VN M9 Mp ZQ;go_wp2_with (
    go_at_call 79
    refine(aN zV w2 _).mono ?_;rintro e iF ⟨rfl,mG⟩;subst iF)
   go_ret;exact⟨rfl,dP.stay (aN HR) (aN H2)⟩
  ·have i7:¬(k:Int)+(u:Int)>16:=by omega
   have i10:(p:Int)+(a:Int)>16:=by omega
   clear VN M9 Mp ZQ;go_wp2_with (
    go_at_call 79
    refine(aN zV w2 _).mono ?_;rintro e iF ⟨rfl,mG⟩;subst iF)
   go_ret;exact⟨rfl,dP.stay (aN HR) (aN H2)⟩
 ·obtain⟨rfl,h1,h2,h3,h4,sG⟩:=hs;have dx:=bE (sG w2);have Mp:=(aN HN).2.1;have ZQ:=(aN HP).1;have i7:¬(k:Int)+(u:Int)>16:=by omega
  have i10:¬(p:Int)+(a:Int)>16:=by omega
  have mU:300<(⟨m.out.toArray⟩:ByteArray).size+(⟨T.toArray⟩:ByteArray).size/\(⟨m.out.toArray⟩:ByteArray).size<=300/\(⟨T.toArray⟩:ByteArray).size<=300:=⟨by simpa[ByteArray.size] using h3,by simpa[ByteArray.size] using Jf,by simpa[ByteArray.size] using h4⟩
  generalize hO:(⟨m.out.toArray⟩:ByteArray)=O at mU;generalize zT:(⟨T.toArray⟩:ByteArray)=TT at mU dx;have HO:=bE hO;obtain⟨s1,s2,s3⟩:=mU;have j0:(O.size:Int)+(TT.size:Int)>300:=by omega
  have j1:=wi ((O.size:Int)+(TT.size:Int));clear sG hO zT h1 h2 h3 h4 s1 s2 s3 Mp ZQ;go_upto_region 15 with (first
   |(go_at_call 79
     refine(aN zV w2 _).mono ?_;rintro e iF ⟨rfl,mG⟩;subst iF)
   |(go_at_call 80
     refine(aN dx).mono ?_;rintro e w3 ⟨rfl,eW⟩;have H3:=bE eW;clear eW))
  have eW:bA w.heap.size w w3:=(aN H2).trans ((aN H3).mono (aN H2).size);have c3:w3.cell? ⟨rb,3,aC⟩=aE (aI O):=by rw[<-aN HO];exact aZ ((aN HR).below eW).mc rfl
  have Bv:=bE eW;clear eW;go_wp2;go_ret;exact⟨rfl,dP.stay (aN HR) (aN Bv)⟩
theorem QS (w:aY)(rb:Nat)(vA vS vR:aG)(bs:List aG)(m:N.cE)(depth:Int)(s:ByteArray)(r u a:Nat)(T:List UInt8)(h:cH w rb vA vS vR bs m)(vJ:vS=aJ aC 0 0)(qJ:m.S.length=0)(hr:r<=m.R.length)(vG:r<=1)(hu:u<=1)(ha:a<=1)(code:Int)(ht:bH aQ 78 #[aI s] w λe w' =>e=aM (bC #[aH aF 0,aH aF r,aH aF u,aH aF a])/\w' =w)(hw:∀W vl,bH aQ 79 #[aK (aE ⟨rb,0,aC⟩),aI s,vl] W λe w' =>e=aM (aH aF 0)/\w' =W)(hs:(code=12/\m.S.length+u<=16/\m.R.length-r+a<=16/\300<m.out.length+T.length/\T.length<=300/\(∀W,bH aQ 80 #[aI s,aH aF 0] W λe w' =>e=aM (aI ⟨T.toArray⟩)/\bA W.heap.size W w'))):
 bH aQ 61 #[aK (aE ⟨rb,0,aC⟩),aI s,aH aF depth] w λe w' =>e=aM (aH aF code)/\dP rb vA vS vR bs m w w' :=by
 obtain⟨iI,hi,hz,pW,jP⟩:=jJ;subst vJ;obtain⟨aR,cR,rfl,Ti,mH⟩:=cU h.rt;clear mH;have c1:=cq 1 h.mc rfl;have c2:=cq 2 h.mc rfl;have xJ:=h.sl;have xH:=h.rl;have HR:=bE h;have zV:=bE hw;have HT:=bE ht;have HS:=bE hs;have Jf:=h.ol;clear h ht hs hw;generalize hn:m.S.length=n at*;generalize hq:m.R.length=q at*;have HN:=bE (bK hn (bK qJ hq));have z0:aF.wrap 0=0:=by rfl
 have i6:=wi (u:Int);obtain⟨p,hp⟩:∃p,p=q-r:=⟨_,rfl⟩
 have i5:¬(q:Int)<(r:Int):=by omega
 have i8:aF.wrap ((q:Int)-(r:Int))=(p:Int):=wj;have i9:=wi ((p:Int)+(a:Int));have HP:=bE (bK hp hr);have wL:0+(([]:List Int).map (aH aF)).length<=maxLen:=by unfold maxLen;simp
 have wN:(0+(([]:List Int).map (aH aF)).length)*8<=140737488355328:=by simp
 clear hn hq hp hr qJ;go_enter func61,ntmps61;go_wp2_with (
  go_at_call 78
  refine(aN HT).mono ?_;rintro e iF ⟨rfl,mG⟩;subst iF)
 go_region_held3 (λw' =>w'.cell? ⟨rb,1,aC⟩=aE (aJ aC 0 0)) (first|exact c1|go_keep)
  (first
    |(refine dW _ (by rfl) _ _ _ (by rfl) 3 iI (aH aF 0) 8 underlying26 hi hz pW jP rfl (aJ aC 0 0) 0 [] (by rfl) (aY.ownsRow_nil _ _ _ _) (aJ aC 0 0) (([]:List Int).map (aH aF)) (by rfl) (by exact lN.nil _) (gX _) wL wN ?_
      intro a1 pV w2 o1 g1 t1;have g1:w.grownBy w2 aC:=⟨g1.os,g1.tape,g1.output,g1.size,g1.block⟩
      have c1:=g1.cell c1 (by simp)))
 have eD:bA w.heap.size w w2:=⟨g1.os,g1.tape,g1.output,g1.size,λk hk=>g1.block k hk (by simp)⟩
 have qT:=(aN HR).below eD;have c2:=cq 2 qT.mc rfl;have H2:=bE eD;clear eD qT o1 t1 g1 hi hz pW jP HT wL wN;have hs:=aN HS;obtain⟨rfl,h1,h2,h3,h4,sG⟩:=hs;have dx:=bE (sG w2);have Mp:=(aN HN).2.1;have ZQ:=(aN HP).1;have i7:¬(u:Int)>16:=by omega
 have i10:¬(p:Int)+(a:Int)>16:=by omega
 have mU:300<(⟨m.out.toArray⟩:ByteArray).size+(⟨T.toArray⟩:ByteArray).size/\(⟨m.out.toArray⟩:ByteArray).size<=300/\(⟨T.toArray⟩:ByteArray).size<=300:=⟨by simpa[ByteArray.size] using h3,by simpa[ByteArray.size] using Jf,by simpa[ByteArray.size] using h4⟩
 generalize hO:(⟨m.out.toArray⟩:ByteArray)=O at mU;generalize zT:(⟨T.toArray⟩:ByteArray)=TT at mU dx;have HO:=bE hO;obtain⟨s1,s2,s3⟩:=mU;have j0:(O.size:Int)+(TT.size:Int)>300:=by omega
 have j1:=wi ((O.size:Int)+(TT.size:Int));clear sG hO zT h1 h2 h3 h4 s1 s2 s3 Mp ZQ;go_upto_region 15 with (first
  |(go_at_call 79
    refine(aN zV w2 _).mono ?_;rintro e iF ⟨rfl,mG⟩;subst iF)
  |(go_at_call 80
    refine(aN dx).mono ?_;rintro e w3 ⟨rfl,eW⟩;have H3:=bE eW;clear eW))
 have eW:bA w.heap.size w w3:=(aN H2).trans ((aN H3).mono (aN H2).size);have c3:w3.cell? ⟨rb,3,aC⟩=aE (aI O):=by rw[<-aN HO];exact aZ ((aN HR).below eW).mc rfl
 have Bv:=bE eW;clear eW;go_wp2;go_ret;exact⟨rfl,dP.stay (aN HR) (aN Bv)⟩
end
end Go.Proofs.YtgnlokmeohffaaaGreatDoor
