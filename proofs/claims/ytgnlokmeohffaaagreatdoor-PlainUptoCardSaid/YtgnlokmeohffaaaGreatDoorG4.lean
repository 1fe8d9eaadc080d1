/- Parts of the proof: see the last text. -/
import Derived.Test.YtgnlokmeohffaaaGreatDoorG3
namespace Go.Proofs.YtgnlokmeohffaaaGreatDoor
set_option maxRecDepth 100000
set_option maxHeartbeats 8000000
open Option renaming none → aC, some → aE
open Go renaming IntKind.i64 → aF, Value → aG, Value.int → aH, Value.string → aI, Value.slice → aJ, Value.pointer → aK, Ending.returned → aM, Obj.cells → aU, World → aY, Value.tuple → bC, Calls → bH, World.grownBy_alloc → bU
open Go.Proofs.Tryz renaming prog → aQ
open Bool renaming false → aV
open Go.RowKit renaming Below → bA, Below.refl → bF
open Nat renaming le_refl → bD, zero_add → dC
open And renaming intro → bK
open List renaming getElem?_map → cI, length_cons → cX, not_mem_nil → dR
open Tryz
open Go.RowKit
section
attribute [local go_sem ↓] Go.wp_at_zero Go.wp_at_succ
theorem ib (w:aY)(rb:Nat)(vA vS vR:aG)(bs:List aG)(m:N.cE)(depth:Int)(s:ByteArray)(u a:Nat)(T:List UInt8)(rest:List Int)(x:Int)(h:cH w rb vA vS vR bs m)(hS:m.S=rest++[x])(hu:u<=3)(ha:a<=1)(ho:rest.length+u<=16)(Tl:m.R.length+a<=16)(hT:m.out.length+T.length<=300)(ht:bH aQ 78 #[aI s] w λe w' =>e=aM (bC #[aH aF 1,aH aF 0,aH aF u,aH aF a])/\w' =w)(hw:∀W gl cap,cH W rb vA vS vR bs m->(∀j v,([x]:List Int)[j]?=aE v->W.cell? ⟨gl,j,aC⟩=aE (aH aF v))->bH aQ 79 #[aK (aE ⟨rb,0,aC⟩),aI s,(aJ (aE ⟨gl,0,aC⟩) 1 cap)] W λe w' =>e=aM (aH aF 0)/\w' =W)(sG:∀W,bH aQ 80 #[aI s,aH aF x] W λe w' =>e=aM (aI ⟨T.toArray⟩)/\bA W.heap.size W w')(hs:(s=⟨#[100,117,112]⟩/\u=2/\a=0)\/(s=⟨#[100,114,111,112]⟩/\u=0/\a=0)\/(s=⟨#[46]⟩/\u=0/\a=0)\/(s=⟨#[101,109,105,116]⟩/\u=0/\a=0)\/(s=⟨#[62,114]⟩/\u=0/\a=1)):
 bH aQ 61 #[aK (aE ⟨rb,0,aC⟩),aI s,aH aF depth] w λe w' =>e=aM (aH aF 0)/\dP rb vA vS vR bs (N.kR {m with out:=m.out++T} s.data.toList [x] rest) w w' :=by
 obtain⟨iI,hi,hz,pW,jP⟩:=jJ;obtain⟨aS,cS,rfl,lU,qJ⟩:=cU h.st;obtain⟨aR,cR,rfl,Ti,mH⟩:=cU h.rt;obtain⟨g,cap,vJ,Tf,zX⟩:=h.st.form (by rw[hS];simp);have Nt:=eM vJ;subst Nt;clear vJ cap qJ mH Tf zX;have c1:=cq 1 h.mc rfl;have c2:=cq 2 h.mc rfl;have xJ:=h.sl;have xH:=h.rl;have hlen:m.S.length=rest.length+1:=by rw[hS];simp
 have src:lN w (aJ (if cS=rest.length then(aE ⟨g,0,aC⟩:Option Addr) else aE ⟨g,rest.length,aC⟩) (m.S.length-rest.length) (cS-rest.length)) (([x]:List Int).map (aH aF)):=by
  have:=kL (k:=rest.length) h.st lU (by omega);have e1:(m.S.map (aH aF)).drop rest.length=([x]:List Int).map (aH aF):=by rw[hS,<-List.map_drop,List.drop_left]
  rwa[e1] at this
 have HR:=bE h;have zV:=bE hw;have xC:=bE sG;have HT:=bE ht;have HS:=bE hs;have So:=bE hT;have mU:(⟨m.out.toArray⟩:ByteArray).size+(⟨T.toArray⟩:ByteArray).size<=300:=by simpa[ByteArray.size] using hT
 generalize hO:(⟨m.out.toArray⟩:ByteArray)=O at mU;generalize zT:(⟨T.toArray⟩:ByteArray)=TT at mU xC;have HO:=bE (bK hO zT);clear h hO zT hw sG ht hs hT;generalize hn:m.S.length=n at*;generalize hk:rest.length=k at*;generalize hr:m.R.length=q at*;generalize hx:(if cS=k then(aE ⟨g,0,aC⟩:Option Addr) else aE ⟨g,k,aC⟩)=xS at*;have HN:=bE (bK hn (bK hk (bK hS (bK hlen hr))));have i0:aF.wrap ((n:Int)-1)=(k:Int):=wj;have i1:(0:Int)<=(k:Int):=by omega
 have i2:(k:Int)<=(n:Int):=by omega
 have i3:(n:Int)<=(cS:Int):=by omega
 have Tm :(k:Int)<=(cS:Int):=by omega
 have i4:¬(n:Int)<1:=by omega
 have i5:¬(q:Int)<0:=by omega
 have i6:=wi ((k:Int)+(u:Int));have i7:¬(k:Int)+(u:Int)>16:=by omega
 have i8:=wi (q:Int);have i9:=wi ((q:Int)+(a:Int));have i10:¬(q:Int)+(a:Int)>16:=by omega
 have wL:0+(([x]:List Int).map (aH aF)).length<=maxLen:=by unfold maxLen;simp
 have wN:(0+(([x]:List Int).map (aH aF)).length)*8<=140737488355328:=by simp
 clear hn hk hS hlen hr;go_enter func61,ntmps61;go_wp2_with (
  go_at_call 78
  refine(aN HT).mono ?_;rintro e iF ⟨rfl,mG⟩;subst iF)
 go_region_held3 (λw' =>w'.cell? ⟨rb,1,aC⟩=aE (aJ (aE ⟨g,0,aC⟩) n cS)) (first|exact c1|go_keep)
  (first
    |(refine dW _ (by rfl) _ _ _ (by rfl) 3 iI (aH aF 0) 8 underlying26 hi hz pW jP rfl (aJ aC 0 0) 0 [] (by rfl) (aY.ownsRow_nil _ _ _ _) (aJ xS (n-k) (cS-k)) (([x]:List Int).map (aH aF)) (by rfl) (by exact src) (gX _) wL wN ?_
      intro a1 pV w2 o1 g1 t1;have g1:w.grownBy w2 aC:=⟨g1.os,g1.tape,g1.output,g1.size,g1.block⟩
      have c1:=g1.cell c1 (by simp)))
 simp only[List.map_cons,List.map_nil,cX,List.length_nil,dC,List.nil_append] at o1 t1;have eD:bA w.heap.size w w2:=⟨g1.os,g1.tape,g1.output,g1.size,λk hk=>g1.block k hk (by simp)⟩
 obtain⟨gl,cl,Jd,Bj,tW⟩:=o1.form (by simp);have Jv:=eM Jd;subst Jv;have zW:w.heap.size<=gl:=by
  rcases t1 with t1|t1
  ·cases t1
  ·injection t1 with t1;exact Nat.le_of_eq t1.symm
 have ls:∀j v,([x]:List Int)[j]?=aE v->w2.cell? ⟨gl,j,aC⟩=aE (aH aF v):=λj v hv=>by
  have:=o1.cells (g:=gl) rfl j (aH aF v) (by
   have h1:(([x]:List Int).map (aH aF))[j]?=aE (aH aF v):=by rw[cI,hv];rfl
   exact h1)
  rwa[fE,dC] at this
 have qT:=(aN HR).below eD;have c2:=cq 2 qT.mc rfl;have HW:=bE (aN zV w2 gl pV qT ls);have l0:=ls 0 x rfl;have H2:=bE (bK eD (bK zW (bK tW ls)));clear eD qT o1 zW Bj tW t1 g1 Jd hi hz pW jP src hx HT wL wN zV ls;go_upto_region 15 with (first
  |(go_at_call 79
    refine(aN HW).mono ?_;rintro e iF ⟨rfl,mG⟩;subst iF)
  |(go_at_call 80
    refine(aN xC w2).mono ?_;rintro e w3 ⟨rfl,eW⟩;have H3:=bE eW;clear eW))
 have eW:bA w.heap.size w w3:=(aN H2).1.trans ((aN H3).mono (aN H2).1.size);have Sk:∀j v,([x]:List Int)[j]?=aE v->w3.cell? ⟨gl,j,aC⟩=aE (aH aF v):=λj v hv=>((eI (aN H3)).1 gl j (aN H2).2.2.1).trans ((aN H2).2.2.2 j v hv)
 have oK:=(aN HR).below eW;have c1:=cq 1 oK.mc rfl;have c3:w3.cell? ⟨rb,3,aC⟩=aE (aI O):=by rw[<-(aN HO).1];exact aZ oK.mc rfl
 have f1:=bG 1 oK.mc;have f3:=bG 3 oK.mc;have H4:=bE (mB.of (k:=k) (rest:=rest) (T:=T) (l:=[x]) (gl:=gl) eW (aN HR) (aN HN).1 (by omega) (by have:=aN HN;rw[this.2.2.1,<-this.2.1,List.take_left]) (aN So) (aN H2).2.1 Sk (O' :=O++TT) (by
  have:=aN HO;rw[<-this.1,<-this.2];exact kP _ _))
 have j0:¬(O.size:Int)+(TT.size:Int)>300:=by omega
 have j1:=wi ((O.size:Int)+(TT.size:Int));have j2:¬9223372036854775807<O.size+TT.size:=by omega
 clear eW oK Sk H2 H3 xC HW c2 l0;go_upto_region 19 with (fail)
 go_cut [] from 16 to 348 (λwx=>mB w rb vA (aJ (aE ⟨g,0,aC⟩) n cS) (aJ aR q cR) (aJ (aE ⟨g,0,aC⟩) k cS) bs {m with out:=m.out++T,S:=rest} gl [x] wx)
 case first=>
  go_region_law (fail)
  all_goals (go_wp2_with fail;go_meet;exact aN H4)
 case rest=>
 clear H4 c1 c3 f1 f3 j0 j1 j2 i0 i2 i3 Tm i4 i5 i6 i7 i8 i9 i10;obtain⟨iI,hi,hz,pW,jP⟩:=jJ;have lM:=hcut.ref;have c1:=cq 1 lM.mc rfl;have c2:=cq 2 lM.mc rfl;have f1:=bG 1 lM.mc;have f2:=bG 2 lM.mc;have l0:=hcut.ls 0 x rfl;have r0:dQ x:=(aN HR).si x (by rw[(aN HN).2.2.1];simp);obtain⟨nA,nS,nR⟩:=lM.pR;have yN :aE rb≠(aJ (aE ⟨g,0,aC⟩) k cS).ownBlock:=λe=>nS e.symm
 have dw :aE rb≠(aJ aR q cR).ownBlock:=λe=>nR e.symm
 have OS:=bE (show wc.ownsRow 0 3 1 (aJ (aE ⟨g,0,aC⟩) k cS) k (rest.map (aH aF)) from by
  have:=lM.st;rw[show({m with out:=m.out++T,S:=rest}:N.cE).S.length=k from(aN HN).2.1] at this;exact this)
 have OR:=bE (show wc.ownsRow 0 3 1 (aJ aR q cR) q (m.R.map (aH aF)) from by
  have:=lM.rt;rw[show({m with out:=m.out++T,S:=rest}:N.cE).R.length=q from(aN HN).2.2.2.2] at this;exact this)
 have HC:=bE hcut;clear hcut lM nA nS nR;rcases aN HS with ⟨rfl,rfl,rfl⟩|⟨rfl,rfl,rfl⟩|⟨rfl,rfl,rfl⟩|⟨rfl,rfl,rfl⟩|⟨rfl,rfl,rfl⟩
 ·go_wp2_with (
   at_builtin
   refine kV _ (by rfl) (.tmp 164) (.tmp 167) 26 (by rfl) 3 iI (aH aF 0) 8 underlying26 hi hz pW jP rfl (aJ (aE ⟨g,0,aC⟩) k cS) k (rest.map (aH aF)) (by rfl) (by exact(aN OS).alloc _) (aJ (aE ⟨wc.heap.size,0,aC⟩) 2 2) (([x,x]:List Int).map (aH aF)) (by rfl) (lY wc (([x,x]:List Int).map (aH aF)) 3 rfl rfl) (gX _) (by unfold maxLen;simp;omega) (by simp;omega) ?_;intro a3 iG w5 o3 g3 t3;have g3:(wc.alloc (aU #[aH aF x,aH aF x] 3)).grownBy w5 (aJ (aE ⟨g,0,aC⟩) k cS).ownBlock:=⟨g3.os,g3.tape,g3.output,g3.size,g3.block⟩
   have e1:(wc.alloc (aU #[aH aF x,aH aF x] 3)).cell? ⟨rb,1,aC⟩=aE (aJ (aE ⟨g,0,aC⟩) k cS):=bJ c1 _;have f4:(wc.alloc (aU #[aH aF x,aH aF x] 3)).frozen? ⟨rb,1,aC⟩=aV:=cY (bU wc _ aC) c1 f1 (by simp);have f5:=cY g3 e1 f4 yN;have e5:=g3.cell e1 yN;have G3:=bE (bK g3 (bK o3 t3));clear g3 o3 t3 e1 f4)
  go_ret;have hh:=mB.Gq (xs:=[x,x]) (aN HC) ((bF _ _).alloc (bD _) _) (aN G3).1 (aN HN).2.1 (aN G3).2.1 (aN G3).2.2 (by show k+2<=16;exact ho) (λv hv=>by
   simp only[List.mem_cons,dR,or_false] at hv;rcases hv with rfl|rfl
   ·exact r0
   ·exact r0)
  exact⟨rfl,hh⟩
 ·go_wp2;go_ret;exact⟨rfl,(aN HC).done⟩
 ·go_wp2;go_ret;exact⟨rfl,(aN HC).done⟩
 ·go_wp2;go_ret;exact⟨rfl,(aN HC).done⟩
 ·go_wp2_with (
   at_builtin
   refine kV _ (by rfl) (.tmp 226) (.tmp 228) 26 (by rfl) 3 iI (aH aF 0) 8 underlying26 hi hz pW jP rfl (aJ aR q cR) q (m.R.map (aH aF)) (by rfl) (by exact(aN OR).alloc _) (aJ (aE ⟨wc.heap.size,0,aC⟩) 1 1) (([x]:List Int).map (aH aF)) (by rfl) (lY wc (([x]:List Int).map (aH aF)) 3 rfl rfl) (gX _) (by unfold maxLen;simp;omega) (by simp;omega) ?_;intro a3 iG w5 o3 g3 t3;have g3:(wc.alloc (aU #[aH aF x] 3)).grownBy w5 (aJ aR q cR).ownBlock:=⟨g3.os,g3.tape,g3.output,g3.size,g3.block⟩
   have e1:(wc.alloc (aU #[aH aF x] 3)).cell? ⟨rb,2,aC⟩=aE (aJ aR q cR):=bJ c2 _;have f4:(wc.alloc (aU #[aH aF x] 3)).frozen? ⟨rb,2,aC⟩=aV:=cY (bU wc _ aC) c2 f2 (by simp);have f5:=cY g3 e1 f4 dw;have e5:=g3.cell e1 dw;have G3:=bE (bK g3 (bK o3 t3));clear g3 o3 t3 e1 f4)
  go_ret;have hh:=mB.ZP (xs:=[x]) (aN HC) ((bF _ _).alloc (bD _) _) (aN G3).1 (aN HN).2.2.2.2 (aN G3).2.1 (aN G3).2.2 (by show q+1<=16;exact Tl) (by simp;exact r0);exact⟨rfl,hh⟩
theorem jc (w:aY)(rb:Nat)(vA vS vR:aG)(bs:List aG)(m:N.cE)(depth:Int)(s:ByteArray)(u a:Nat)(T:List UInt8)(rest:List Int)(x y:Int)(h:cH w rb vA vS vR bs m)(hS:m.S=rest++[x,y])(hu:u<=3)(ha:a<=1)(ho:rest.length+u<=16)(Tl:m.R.length+a<=16)(hT:m.out.length+T.length<=300)(ht:bH aQ 78 #[aI s] w λe w' =>e=aM (bC #[aH aF 2,aH aF 0,aH aF u,aH aF a])/\w' =w)(hw:∀W gl cap,cH W rb vA vS vR bs m->(∀j v,([x,y]:List Int)[j]?=aE v->W.cell? ⟨gl,j,aC⟩=aE (aH aF v))->bH aQ 79 #[aK (aE ⟨rb,0,aC⟩),aI s,(aJ (aE ⟨gl,0,aC⟩) 2 cap)] W λe w' =>e=aM (aH aF 0)/\w' =W)(sG:∀W,bH aQ 80 #[aI s,aH aF x] W λe w' =>e=aM (aI ⟨T.toArray⟩)/\bA W.heap.size W w')(hs:(s=⟨#[115,119,97,112]⟩/\u=2/\a=0)\/(s=⟨#[111,118,101,114]⟩/\u=3/\a=0)):
 bH aQ 61 #[aK (aE ⟨rb,0,aC⟩),aI s,aH aF depth] w λe w' =>e=aM (aH aF 0)/\dP rb vA vS vR bs (N.kR {m with out:=m.out++T} s.data.toList [x,y] rest) w w' :=by
 obtain⟨iI,hi,hz,pW,jP⟩:=jJ;obtain⟨aS,cS,rfl,lU,qJ⟩:=cU h.st;obtain⟨aR,cR,rfl,Ti,mH⟩:=cU h.rt;obtain⟨g,cap,vJ,Tf,zX⟩:=h.st.form (by rw[hS];simp);have Nt:=eM vJ;subst Nt;clear vJ cap qJ mH Tf zX;have c1:=cq 1 h.mc rfl;have c2:=cq 2 h.mc rfl;have xJ:=h.sl;have xH:=h.rl;have hlen:m.S.length=rest.length+2:=by rw[hS];simp
 have src:lN w (aJ (if cS=rest.length then(aE ⟨g,0,aC⟩:Option Addr) else aE ⟨g,rest.length,aC⟩) (m.S.length-rest.length) (cS-rest.length)) (([x,y]:List Int).map (aH aF)):=by
  have:=kL (k:=rest.length) h.st lU (by omega);have e1:(m.S.map (aH aF)).drop rest.length=([x,y]:List Int).map (aH aF):=by rw[hS,<-List.map_drop,List.drop_left]
  rwa[e1] at this
 have HR:=bE h;have zV:=bE hw;have xC:=bE sG;have HT:=bE ht;have HS:=bE hs;have So:=bE hT;have mU:(⟨m.out.toArray⟩:ByteArray).size+(⟨T.toArray⟩:ByteArray).size<=300:=by simpa[ByteArray.size] using hT
 generalize hO:(⟨m.out.toArray⟩:ByteArray)=O at mU;generalize zT:(⟨T.toArray⟩:ByteArray)=TT at mU xC;have HO:=bE (bK hO zT);clear h hO zT hw sG ht hs hT;generalize hn:m.S.length=n at*;generalize hk:rest.length=k at*;generalize hr:m.R.length=q at*;generalize hx:(if cS=k then(aE ⟨g,0,aC⟩:Option Addr) else aE ⟨g,k,aC⟩)=xS at*;have HN:=bE (bK hn (bK hk (bK hS (bK hlen hr))));have i0:aF.wrap ((n:Int)-2)=(k:Int):=wj;have i1:(0:Int)<=(k:Int):=by omega
 have i2:(k:Int)<=(n:Int):=by omega
 have i3:(n:Int)<=(cS:Int):=by omega
 have Tm :(k:Int)<=(cS:Int):=by omega
 have i4:¬(n:Int)<2:=by omega
 have i5:¬(q:Int)<0:=by omega
 have i6:=wi ((k:Int)+(u:Int));have i7:¬(k:Int)+(u:Int)>16:=by omega
 have i8:=wi (q:Int);have i9:=wi ((q:Int)+(a:Int));have i10:¬(q:Int)+(a:Int)>16:=by omega
 have wL:0+(([x,y]:List Int).map (aH aF)).length<=maxLen:=by unfold maxLen;simp
 have wN:(0+(([x,y]:List Int).map (aH aF)).length)*8<=140737488355328:=by simp
 clear hn hk hS hlen hr;go_enter func61,ntmps61;go_wp2_with (
  go_at_call 78
  refine(aN HT).mono ?_;rintro e iF ⟨rfl,mG⟩;subst iF)
 go_region_held3 (λw' =>w'.cell? ⟨rb,1,aC⟩=aE (aJ (aE ⟨g,0,aC⟩) n cS)) (first|exact c1|go_keep)
  (first
    |(refine dW _ (by rfl) _ _ _ (by rfl) 3 iI (aH aF 0) 8 underlying26 hi hz pW jP rfl (aJ aC 0 0) 0 [] (by rfl) (aY.ownsRow_nil _ _ _ _) (aJ xS (n-k) (cS-k)) (([x,y]:List Int).map (aH aF)) (by rfl) (by exact src) (gX _) wL wN ?_
      intro a1 pV w2 o1 g1 t1;have g1:w.grownBy w2 aC:=⟨g1.os,g1.tape,g1.output,g1.size,g1.block⟩
      have c1:=g1.cell c1 (by simp)))
 simp only[List.map_cons,List.map_nil,cX,List.length_nil,dC,Nat.reduceAdd,List.nil_append] at o1 t1;have eD:bA w.heap.size w w2:=⟨g1.os,g1.tape,g1.output,g1.size,λk hk=>g1.block k hk (by simp)⟩
 obtain⟨gl,cl,Jd,Bj,tW⟩:=o1.form (by simp);have Jv:=eM Jd;subst Jv;have zW:w.heap.size<=gl:=by
  rcases t1 with t1|t1
  ·cases t1
  ·injection t1 with t1;exact Nat.le_of_eq t1.symm
 have ls:∀j v,([x,y]:List Int)[j]?=aE v->w2.cell? ⟨gl,j,aC⟩=aE (aH aF v):=λj v hv=>by
  have:=o1.cells (g:=gl) rfl j (aH aF v) (by
   have h1:(([x,y]:List Int).map (aH aF))[j]?=aE (aH aF v):=by rw[cI,hv];rfl
   exact h1)
  rwa[fE,dC] at this
 have qT:=(aN HR).below eD;have c2:=cq 2 qT.mc rfl;have HW:=bE (aN zV w2 gl pV qT ls);have l0:=ls 0 x rfl;have H2:=bE (bK eD (bK zW (bK tW ls)));clear eD qT o1 zW Bj tW t1 g1 Jd hi hz pW jP src hx HT wL wN zV ls;go_upto_region 15 with (first
  |(go_at_call 79
    refine(aN HW).mono ?_;rintro e iF ⟨rfl,mG⟩;subst iF)
  |(go_at_call 80
    refine(aN xC w2).mono ?_;rintro e w3 ⟨rfl,eW⟩;have H3:=bE eW;clear eW))
 have eW:bA w.heap.size w w3:=(aN H2).1.trans ((aN H3).mono (aN H2).1.size);have Sk:∀j v,([x,y]:List Int)[j]?=aE v->w3.cell? ⟨gl,j,aC⟩=aE (aH aF v):=λj v hv=>((eI (aN H3)).1 gl j (aN H2).2.2.1).trans ((aN H2).2.2.2 j v hv)
 have oK:=(aN HR).below eW;have c1:=cq 1 oK.mc rfl;have c3:w3.cell? ⟨rb,3,aC⟩=aE (aI O):=by rw[<-(aN HO).1];exact aZ oK.mc rfl
 have f1:=bG 1 oK.mc;have f3:=bG 3 oK.mc;have H4:=bE (mB.of (k:=k) (rest:=rest) (T:=T) (l:=[x,y]) (gl:=gl) eW (aN HR) (aN HN).1 (by omega) (by have:=aN HN;rw[this.2.2.1,<-this.2.1,List.take_left]) (aN So) (aN H2).2.1 Sk (O' :=O++TT) (by
  have:=aN HO;rw[<-this.1,<-this.2];exact kP _ _))
 have j0:¬(O.size:Int)+(TT.size:Int)>300:=by omega
 have j1:=wi ((O.size:Int)+(TT.size:Int));have j2:¬9223372036854775807<O.size+TT.size:=by omega
 clear eW oK Sk H2 H3 xC HW c2 l0;go_upto_region 19 with (fail)
 go_cut [] from 16 to 348 (λwx=>mB w rb vA (aJ (aE ⟨g,0,aC⟩) n cS) (aJ aR q cR) (aJ (aE ⟨g,0,aC⟩) k cS) bs {m with out:=m.out++T,S:=rest} gl [x,y] wx)
 case first=>
  go_region_law (fail)
  all_goals (go_wp2_with fail;go_meet;exact aN H4)
 case rest=>
 clear H4 c1 c3 f1 f3 j0 j1 j2 i0 i2 i3 Tm i4 i5 i6 i7 i8 i9 i10;obtain⟨iI,hi,hz,pW,jP⟩:=jJ;have lM:=hcut.ref;have c1:=cq 1 lM.mc rfl;have c2:=cq 2 lM.mc rfl;have f1:=bG 1 lM.mc;have f2:=bG 2 lM.mc;have l0:=hcut.ls 0 x rfl;have r0:dQ x:=(aN HR).si x (by rw[(aN HN).2.2.1];simp);have l1:=hcut.ls 1 y rfl;have r1:dQ y:=(aN HR).si y (by rw[(aN HN).2.2.1];simp);obtain⟨nA,nS,nR⟩:=lM.pR;have yN :aE rb≠(aJ (aE ⟨g,0,aC⟩) k cS).ownBlock:=λe=>nS e.symm
 have dw :aE rb≠(aJ aR q cR).ownBlock:=λe=>nR e.symm
 have OS:=bE (show wc.ownsRow 0 3 1 (aJ (aE ⟨g,0,aC⟩) k cS) k (rest.map (aH aF)) from by
  have:=lM.st;rw[show({m with out:=m.out++T,S:=rest}:N.cE).S.length=k from(aN HN).2.1] at this;exact this)
 have OR:=bE (show wc.ownsRow 0 3 1 (aJ aR q cR) q (m.R.map (aH aF)) from by
  have:=lM.rt;rw[show({m with out:=m.out++T,S:=rest}:N.cE).R.length=q from(aN HN).2.2.2.2] at this;exact this)
 have HC:=bE hcut;clear hcut lM nA nS nR;rcases aN HS with ⟨rfl,rfl,rfl⟩|⟨rfl,rfl,rfl⟩
 ·have d1:(wc.alloc (aU #[aH aF y,aH aF x] 3)).drew.cell? ⟨rb,1,aC⟩=aE (aJ (aE ⟨g,0,aC⟩) k cS):=bJ c1 _;have d2:(wc.alloc (aU #[aH aF y,aH aF x] 3)).cell? ⟨rb,1,aC⟩=aE (aJ (aE ⟨g,0,aC⟩) k cS):=bJ c1 _;go_wp2;go_region_law
   (first
     |(refine dW _ (by rfl) _ _ 26 (by rfl) 3 iI (aH aF 0) 8 underlying26 hi hz pW jP rfl (aJ (aE ⟨g,0,aC⟩) k cS) k (rest.map (aH aF)) (by rfl) (by exact(aN OS).alloc _) (aJ (aE ⟨wc.heap.size,0,aC⟩) 2 2) (([y,x]:List Int).map (aH aF)) (by rfl) (lY wc (([y,x]:List Int).map (aH aF)) 3 rfl rfl) (gX _) (by unfold maxLen;simp;omega) (by simp;omega) ?_
       intro a3 iG w5 o3 g3 t3;have g3:(wc.alloc (aU #[aH aF y,aH aF x] 3)).grownBy w5 (aJ (aE ⟨g,0,aC⟩) k cS).ownBlock:=⟨g3.os,g3.tape,g3.output,g3.size,g3.block⟩
       have e1:(wc.alloc (aU #[aH aF y,aH aF x] 3)).cell? ⟨rb,1,aC⟩=aE (aJ (aE ⟨g,0,aC⟩) k cS):=bJ c1 _;have f4:(wc.alloc (aU #[aH aF y,aH aF x] 3)).frozen? ⟨rb,1,aC⟩=aV:=cY (bU wc _ aC) c1 f1 (by simp);have f5:=cY g3 e1 f4 yN;have e5:=g3.cell e1 yN;have G3:=bE (bK g3 (bK o3 t3));clear g3 o3 t3 e1 f4))
  all_goals
   go_wp2;go_ret;have hh:=mB.Gq (xs:=[y,x]) (aN HC) ((bF _ _).alloc (bD _) _) (aN G3).1 (aN HN).2.1 (aN G3).2.1 (aN G3).2.2 (by show k+2<=16;exact ho) (λv hv=>by
    simp only[List.mem_cons,dR,or_false] at hv;rcases hv with rfl|rfl
    ·exact r1
    ·exact r0)
   exact⟨rfl,hh⟩
 ·have d1:(wc.alloc (aU #[aH aF x,aH aF y,aH aF x] 3)).drew.cell? ⟨rb,1,aC⟩=aE (aJ (aE ⟨g,0,aC⟩) k cS):=bJ c1 _;have d2:(wc.alloc (aU #[aH aF x,aH aF y,aH aF x] 3)).cell? ⟨rb,1,aC⟩=aE (aJ (aE ⟨g,0,aC⟩) k cS):=bJ c1 _;go_wp2;go_region_law
   (first
     |(refine dW _ (by rfl) _ _ 26 (by rfl) 3 iI (aH aF 0) 8 underlying26 hi hz pW jP rfl (aJ (aE ⟨g,0,aC⟩) k cS) k (rest.map (aH aF)) (by rfl) (by exact(aN OS).alloc _) (aJ (aE ⟨wc.heap.size,0,aC⟩) 3 3) (([x,y,x]:List Int).map (aH aF)) (by rfl) (lY wc (([x,y,x]:List Int).map (aH aF)) 3 rfl rfl) (gX _) (by unfold maxLen;simp;omega) (by simp;omega) ?_
       intro a3 iG w5 o3 g3 t3;have g3:(wc.alloc (aU #[aH aF x,aH aF y,aH aF x] 3)).grownBy w5 (aJ (aE ⟨g,0,aC⟩) k cS).ownBlock:=⟨g3.os,g3.tape,g3.output,g3.size,g3.block⟩
       have e1:(wc.alloc (aU #[aH aF x,aH aF y,aH aF x] 3)).cell? ⟨rb,1,aC⟩=aE (aJ (aE ⟨g,0,aC⟩) k cS):=bJ c1 _;have f4:(wc.alloc (aU #[aH aF x,aH aF y,aH aF x] 3)).frozen? ⟨rb,1,aC⟩=aV:=cY (bU wc _ aC) c1 f1 (by simp);have f5:=cY g3 e1 f4 yN;have e5:=g3.cell e1 yN;have G3:=bE (bK g3 (bK o3 t3));clear g3 o3 t3 e1 f4))
  all_goals
   go_wp2;go_ret;have hh:=mB.Gq (xs:=[x,y,x]) (aN HC) ((bF _ _).alloc (bD _) _) (aN G3).1 (aN HN).2.1 (aN G3).2.1 (aN G3).2.2 (by show k+3<=16;exact ho) (λv hv=>by
    simp only[List.mem_cons,dR,or_false] at hv;rcases hv with rfl|rfl|rfl
    ·exact r0
    ·exact r1
    ·exact r0)
   exact⟨rfl,hh⟩
theorem je (w:aY)(rb:Nat)(vA vS vR:aG)(bs:List aG)(m:N.cE)(depth:Int)(s:ByteArray)(u a:Nat)(T:List UInt8)(rest:List Int)(x y z:Int)(h:cH w rb vA vS vR bs m)(hS:m.S=rest++[x,y,z])(hu:u<=3)(ha:a<=1)(ho:rest.length+u<=16)(Tl:m.R.length+a<=16)(hT:m.out.length+T.length<=300)(ht:bH aQ 78 #[aI s] w λe w' =>e=aM (bC #[aH aF 3,aH aF 0,aH aF u,aH aF a])/\w' =w)(hw:∀W gl cap,cH W rb vA vS vR bs m->(∀j v,([x,y,z]:List Int)[j]?=aE v->W.cell? ⟨gl,j,aC⟩=aE (aH aF v))->bH aQ 79 #[aK (aE ⟨rb,0,aC⟩),aI s,(aJ (aE ⟨gl,0,aC⟩) 3 cap)] W λe w' =>e=aM (aH aF 0)/\w' =W)(sG:∀W,bH aQ 80 #[aI s,aH aF x] W λe w' =>e=aM (aI ⟨T.toArray⟩)/\bA W.heap.size W w')(hs:(s=⟨#[114,111,116]⟩/\u=3/\a=0)):
 bH aQ 61 #[aK (aE ⟨rb,0,aC⟩),aI s,aH aF depth] w λe w' =>e=aM (aH aF 0)/\dP rb vA vS vR bs (N.kR {m with out:=m.out++T} s.data.toList [x,y,z] rest) w w' :=by
 obtain⟨iI,hi,hz,pW,jP⟩:=jJ;obtain⟨aS,cS,rfl,lU,qJ⟩:=cU h.st;obtain⟨aR,cR,rfl,Ti,mH⟩:=cU h.rt;obtain⟨g,cap,vJ,Tf,zX⟩:=h.st.form (by rw[hS];simp);have Nt:=eM vJ;subst Nt;clear vJ cap qJ mH Tf zX;have c1:=cq 1 h.mc rfl;have c2:=cq 2 h.mc rfl;have xJ:=h.sl;have xH:=h.rl;have hlen:m.S.length=rest.length+3:=by rw[hS];simp
 have src:lN w (aJ (if cS=rest.length then(aE ⟨g,0,aC⟩:Option Addr) else aE ⟨g,rest.length,aC⟩) (m.S.length-rest.length) (cS-rest.length)) (([x,y,z]:List Int).map (aH aF)):=by
  have:=kL (k:=rest.length) h.st lU (by omega);have e1:(m.S.map (aH aF)).drop rest.length=([x,y,z]:List Int).map (aH aF):=by rw[hS,<-List.map_drop,List.drop_left]
  rwa[e1] at this
 have HR:=bE h;have zV:=bE hw;have xC:=bE sG;have HT:=bE ht;have HS:=bE hs;have So:=bE hT;have mU:(⟨m.out.toArray⟩:ByteArray).size+(⟨T.toArray⟩:ByteArray).size<=300:=by simpa[ByteArray.size] using hT
 generalize hO:(⟨m.out.toArray⟩:ByteArray)=O at mU;generalize zT:(⟨T.toArray⟩:ByteArray)=TT at mU xC;have HO:=bE (bK hO zT);clear h hO zT hw sG ht hs hT;generalize hn:m.S.length=n at*;generalize hk:rest.length=k at*;generalize hr:m.R.length=q at*;generalize hx:(if cS=k then(aE ⟨g,0,aC⟩:Option Addr) else aE ⟨g,k,aC⟩)=xS at*;have HN:=bE (bK hn (bK hk (bK hS (bK hlen hr))));have i0:aF.wrap ((n:Int)-3)=(k:Int):=wj;have i1:(0:Int)<=(k:Int):=by omega
 have i2:(k:Int)<=(n:Int):=by omega
 have i3:(n:Int)<=(cS:Int):=by omega
 have Tm :(k:Int)<=(cS:Int):=by omega
 have i4:¬(n:Int)<3:=by omega
 have i5:¬(q:Int)<0:=by omega
 have i6:=wi ((k:Int)+(u:Int));have i7:¬(k:Int)+(u:Int)>16:=by omega
 have i8:=wi (q:Int);have i9:=wi ((q:Int)+(a:Int));have i10:¬(q:Int)+(a:Int)>16:=by omega
 have wL:0+(([x,y,z]:List Int).map (aH aF)).length<=maxLen:=by unfold maxLen;simp
 have wN:(0+(([x,y,z]:List Int).map (aH aF)).length)*8<=140737488355328:=by simp
 clear hn hk hS hlen hr;go_enter func61,ntmps61;go_wp2_with (
  go_at_call 78
  refine(aN HT).mono ?_;rintro e iF ⟨rfl,mG⟩;subst iF)
 go_region_held3 (λw' =>w'.cell? ⟨rb,1,aC⟩=aE (aJ (aE ⟨g,0,aC⟩) n cS)) (first|exact c1|go_keep)
  (first
    |(refine dW _ (by rfl) _ _ _ (by rfl) 3 iI (aH aF 0) 8 underlying26 hi hz pW jP rfl (aJ aC 0 0) 0 [] (by rfl) (aY.ownsRow_nil _ _ _ _) (aJ xS (n-k) (cS-k)) (([x,y,z]:List Int).map (aH aF)) (by rfl) (by exact src) (gX _) wL wN ?_
      intro a1 pV w2 o1 g1 t1;have g1:w.grownBy w2 aC:=⟨g1.os,g1.tape,g1.output,g1.size,g1.block⟩
      have c1:=g1.cell c1 (by simp)))
 simp only[List.map_cons,List.map_nil,cX,List.length_nil,dC,Nat.reduceAdd,List.nil_append] at o1 t1;have eD:bA w.heap.size w w2:=⟨g1.os,g1.tape,g1.output,g1.size,λk hk=>g1.block k hk (by simp)⟩
 obtain⟨gl,cl,Jd,Bj,tW⟩:=o1.form (by simp);have Jv:=eM Jd;subst Jv;have zW:w.heap.size<=gl:=by
  rcases t1 with t1|t1
  ·cases t1
  ·injection t1 with t1;exact Nat.le_of_eq t1.symm
 have ls:∀j v,([x,y,z]:List Int)[j]?=aE v->w2.cell? ⟨gl,j,aC⟩=aE (aH aF v):=λj v hv=>by
  have:=o1.cells (g:=gl) rfl j (aH aF v) (by
   have h1:(([x,y,z]:List Int).map (aH aF))[j]?=aE (aH aF v):=by rw[cI,hv];rfl
   exact h1)
  rwa[fE,dC] at this
 have qT:=(aN HR).below eD;have c2:=cq 2 qT.mc rfl;have HW:=bE (aN zV w2 gl pV qT ls);have l0:=ls 0 x rfl;have H2:=bE (bK eD (bK zW (bK tW ls)));clear eD qT o1 zW Bj tW t1 g1 Jd hi hz pW jP src hx HT wL wN zV ls;go_upto_region 15 with (first
  |(go_at_call 79
    refine(aN HW).mono ?_;rintro e iF ⟨rfl,mG⟩;subst iF)
  |(go_at_call 80
    refine(aN xC w2).mono ?_;rintro e w3 ⟨rfl,eW⟩;have H3:=bE eW;clear eW))
 have eW:bA w.heap.size w w3:=(aN H2).1.trans ((aN H3).mono (aN H2).1.size);have Sk:∀j v,([x,y,z]:List Int)[j]?=aE v->w3.cell? ⟨gl,j,aC⟩=aE (aH aF v):=λj v hv=>((eI (aN H3)).1 gl j (aN H2).2.2.1).trans ((aN H2).2.2.2 j v hv)
 have oK:=(aN HR).below eW;have c1:=cq 1 oK.mc rfl;have c3:w3.cell? ⟨rb,3,aC⟩=aE (aI O):=by rw[<-(aN HO).1];exact aZ oK.mc rfl
 have f1:=bG 1 oK.mc;have f3:=bG 3 oK.mc;have H4:=bE (mB.of (k:=k) (rest:=rest) (T:=T) (l:=[x,y,z]) (gl:=gl) eW (aN HR) (aN HN).1 (by omega) (by have:=aN HN;rw[this.2.2.1,<-this.2.1,List.take_left]) (aN So) (aN H2).2.1 Sk (O' :=O++TT) (by
  have:=aN HO;rw[<-this.1,<-this.2];exact kP _ _))
 have j0:¬(O.size:Int)+(TT.size:Int)>300:=by omega
 have j1:=wi ((O.size:Int)+(TT.size:Int));have j2:¬9223372036854775807<O.size+TT.size:=by omega
 clear eW oK Sk H2 H3 xC HW c2 l0;go_upto_region 19 with (fail)
 go_cut [] from 16 to 348 (λwx=>mB w rb vA (aJ (aE ⟨g,0,aC⟩) n cS) (aJ aR q cR) (aJ (aE ⟨g,0,aC⟩) k cS) bs {m with out:=m.out++T,S:=rest} gl [x,y,z] wx)
 case first=>
  go_region_law (fail)
  all_goals (go_wp2_with fail;go_meet;exact aN H4)
 case rest=>
 clear H4 c1 c3 f1 f3 j0 j1 j2 i0 i2 i3 Tm i4 i5 i6 i7 i8 i9 i10;obtain⟨iI,hi,hz,pW,jP⟩:=jJ;have lM:=hcut.ref;have c1:=cq 1 lM.mc rfl;have c2:=cq 2 lM.mc rfl;have f1:=bG 1 lM.mc;have f2:=bG 2 lM.mc;have l0:=hcut.ls 0 x rfl;have r0:dQ x:=(aN HR).si x (by rw[(aN HN).2.2.1];simp);have l1:=hcut.ls 1 y rfl;have r1:dQ y:=(aN HR).si y (by rw[(aN HN).2.2.1];simp);have l2:=hcut.ls 2 z rfl;have r2:dQ z:=(aN HR).si z (by rw[(aN HN).2.2.1];simp);obtain⟨nA,nS,nR⟩:=lM.pR;have yN :aE rb≠(aJ (aE ⟨g,0,aC⟩) k cS).ownBlock:=λe=>nS e.symm
 have dw :aE rb≠(aJ aR q cR).ownBlock:=λe=>nR e.symm
 have OS:=bE (show wc.ownsRow 0 3 1 (aJ (aE ⟨g,0,aC⟩) k cS) k (rest.map (aH aF)) from by
  have:=lM.st;rw[show({m with out:=m.out++T,S:=rest}:N.cE).S.length=k from(aN HN).2.1] at this;exact this)
 have OR:=bE (show wc.ownsRow 0 3 1 (aJ aR q cR) q (m.R.map (aH aF)) from by
  have:=lM.rt;rw[show({m with out:=m.out++T,S:=rest}:N.cE).R.length=q from(aN HN).2.2.2.2] at this;exact this)
 have HC:=bE hcut;clear hcut lM nA nS nR;obtain⟨rfl,rfl,rfl⟩:=aN HS;have d1:(wc.alloc (aU #[aH aF y,aH aF z,aH aF x] 3)).drew.cell? ⟨rb,1,aC⟩=aE (aJ (aE ⟨g,0,aC⟩) k cS):=bJ c1 _;have d2:(wc.alloc (aU #[aH aF y,aH aF z,aH aF x] 3)).cell? ⟨rb,1,aC⟩=aE (aJ (aE ⟨g,0,aC⟩) k cS):=bJ c1 _;go_wp2;go_region_law
  (first
    |(refine dW _ (by rfl) _ _ 26 (by rfl) 3 iI (aH aF 0) 8 underlying26 hi hz pW jP rfl (aJ (aE ⟨g,0,aC⟩) k cS) k (rest.map (aH aF)) (by rfl) (by exact(aN OS).alloc _) (aJ (aE ⟨wc.heap.size,0,aC⟩) 3 3) (([y,z,x]:List Int).map (aH aF)) (by rfl) (lY wc (([y,z,x]:List Int).map (aH aF)) 3 rfl rfl) (gX _) (by unfold maxLen;simp;omega) (by simp;omega) ?_
      intro a3 iG w5 o3 g3 t3;have g3:(wc.alloc (aU #[aH aF y,aH aF z,aH aF x] 3)).grownBy w5 (aJ (aE ⟨g,0,aC⟩) k cS).ownBlock:=⟨g3.os,g3.tape,g3.output,g3.size,g3.block⟩
      have e1:(wc.alloc (aU #[aH aF y,aH aF z,aH aF x] 3)).cell? ⟨rb,1,aC⟩=aE (aJ (aE ⟨g,0,aC⟩) k cS):=bJ c1 _;have f4:(wc.alloc (aU #[aH aF y,aH aF z,aH aF x] 3)).frozen? ⟨rb,1,aC⟩=aV:=cY (bU wc _ aC) c1 f1 (by simp);have f5:=cY g3 e1 f4 yN;have e5:=g3.cell e1 yN;have G3:=bE (bK g3 (bK o3 t3));clear g3 o3 t3 e1 f4))
 all_goals
  go_wp2;go_ret;have hh:=mB.Gq (xs:=[y,z,x]) (aN HC) ((bF _ _).alloc (bD _) _) (aN G3).1 (aN HN).2.1 (aN G3).2.1 (aN G3).2.2 (by show k+3<=16;exact ho) (λv hv=>by
   simp only[List.mem_cons,dR,or_false] at hv;rcases hv with rfl|rfl|rfl
   ·exact r1
   ·exact r2
   ·exact r0)
  exact⟨rfl,hh⟩
theorem Qb (w:aY)(rb:Nat)(vA vS vR:aG)(bs:List aG)(m:N.cE)(depth:Int)(s:ByteArray)(u a:Nat)(T:List UInt8)(rest:List Int)(x y:Int)(h:cH w rb vA vS vR bs m)(hS:m.S=rest++[x,y])(hu:u<=3)(ha:a<=1)(ho:rest.length+u<=16)(Tl:m.R.length+a<=16)(hT:m.out.length+T.length<=300)(ht:bH aQ 78 #[aI s] w λe w' =>e=aM (bC #[aH aF 2,aH aF 0,aH aF u,aH aF a])/\w' =w)(hw:∀W gl cap,cH W rb vA vS vR bs m->(∀j v,([x,y]:List Int)[j]?=aE v->W.cell? ⟨gl,j,aC⟩=aE (aH aF v))->bH aQ 79 #[aK (aE ⟨rb,0,aC⟩),aI s,(aJ (aE ⟨gl,0,aC⟩) 2 cap)] W λe w' =>e=aM (aH aF 0)/\w' =W)(sG:∀W,bH aQ 80 #[aI s,aH aF x] W λe w' =>e=aM (aI ⟨T.toArray⟩)/\bA W.heap.size W w')(hs:u=1)(e0:(s.toList==[110,111,116])=aV)(e1:(s.toList==[100,117,112])=aV)(e2:(s.toList==[115,119,97,112])=aV)(e3:(s.toList==[111,118,101,114])=aV)(e4:(s.toList==[114,111,116])=aV)(e5:(s.toList==[62,114])=aV)(e6:(s.toList==[114,62])=aV)(e7:(s.toList==[114,64])=aV)(e8:(s.toList==[100,101,112,116,104])=aV)(e9:(s.toList==[64])=aV)(e10:(s.toList==[33])=aV)(e11:(s.toList==[101,120,101,99,117,116,101])=aV)(e12:(s.toList==[100,114,111,112])=aV)(e13:(s.toList==[46])=aV)(e14:(s.toList==[101,109,105,116])=aV)(e15:(s.toList==[99,114])=aV)(z:Int)(hz0:dQ z)(hre:∀W,bH aQ 82 #[aI s,aH aF x,aH aF y] W λe w' =>e=aM (aH aF z)/\w' =W):
 bH aQ 61 #[aK (aE ⟨rb,0,aC⟩),aI s,aH aF depth] w λe w' =>e=aM (aH aF 0)/\dP rb vA vS vR bs {m with out:=m.out++T,S:=rest++[z]} w w' :=by
 obtain⟨iI,hi,hz,pW,jP⟩:=jJ;obtain⟨aS,cS,rfl,lU,qJ⟩:=cU h.st;obtain⟨aR,cR,rfl,Ti,mH⟩:=cU h.rt;obtain⟨g,cap,vJ,Tf,zX⟩:=h.st.form (by rw[hS];simp);have Nt:=eM vJ;subst Nt;clear vJ cap qJ mH Tf zX;have c1:=cq 1 h.mc rfl;have c2:=cq 2 h.mc rfl;have xJ:=h.sl;have xH:=h.rl;have hlen:m.S.length=rest.length+2:=by rw[hS];simp
 have src:lN w (aJ (if cS=rest.length then(aE ⟨g,0,aC⟩:Option Addr) else aE ⟨g,rest.length,aC⟩) (m.S.length-rest.length) (cS-rest.length)) (([x,y]:List Int).map (aH aF)):=by
  have:=kL (k:=rest.length) h.st lU (by omega);have e1:(m.S.map (aH aF)).drop rest.length=([x,y]:List Int).map (aH aF):=by rw[hS,<-List.map_drop,List.drop_left]
  rwa[e1] at this
 have HR:=bE h;have zV:=bE hw;have xC:=bE sG;have HT:=bE ht;have HS:=bE hs;have HRE:=bE hre;clear hre;have So:=bE hT;have mU:(⟨m.out.toArray⟩:ByteArray).size+(⟨T.toArray⟩:ByteArray).size<=300:=by simpa[ByteArray.size] using hT
 generalize hO:(⟨m.out.toArray⟩:ByteArray)=O at mU;generalize zT:(⟨T.toArray⟩:ByteArray)=TT at mU xC;have HO:=bE (bK hO zT);clear h hO zT hw sG ht hs hT;generalize hn:m.S.length=n at*;generalize hk:rest.length=k at*;generalize hr:m.R.length=q at*;generalize hx:(if cS=k then(aE ⟨g,0,aC⟩:Option Addr) else aE ⟨g,k,aC⟩)=xS at*;have HN:=bE (bK hn (bK hk (bK hS (bK hlen hr))));have i0:aF.wrap ((n:Int)-2)=(k:Int):=wj;have i1:(0:Int)<=(k:Int):=by omega
 have i2:(k:Int)<=(n:Int):=by omega
 have i3:(n:Int)<=(cS:Int):=by omega
 have Tm :(k:Int)<=(cS:Int):=by omega
 have i4:¬(n:Int)<2:=by omega
 have i5:¬(q:Int)<0:=by omega
 have i6:=wi ((k:Int)+(u:Int));have i7:¬(k:Int)+(u:Int)>16:=by omega
 have i8:=wi (q:Int);have i9:=wi ((q:Int)+(a:Int));have i10:¬(q:Int)+(a:Int)>16:=by omega
 have wL:0+(([x,y]:List Int).map (aH aF)).length<=maxLen:=by unfold maxLen;simp
 have wN:(0+(([x,y]:List Int).map (aH aF)).length)*8<=140737488355328:=by simp
 clear hn hk hS hlen hr;go_enter func61,ntmps61;go_wp2_with (
  go_at_call 78
  refine(aN HT).mono ?_;rintro e iF ⟨rfl,mG⟩;subst iF)
 go_region_held3 (λw' =>w'.cell? ⟨rb,1,aC⟩=aE (aJ (aE ⟨g,0,aC⟩) n cS)) (first|exact c1|go_keep)
  (first
    |(refine dW _ (by rfl) _ _ _ (by rfl) 3 iI (aH aF 0) 8 underlying26 hi hz pW jP rfl (aJ aC 0 0) 0 [] (by rfl) (aY.ownsRow_nil _ _ _ _) (aJ xS (n-k) (cS-k)) (([x,y]:List Int).map (aH aF)) (by rfl) (by exact src) (gX _) wL wN ?_
      intro a1 pV w2 o1 g1 t1;have g1:w.grownBy w2 aC:=⟨g1.os,g1.tape,g1.output,g1.size,g1.block⟩
      have c1:=g1.cell c1 (by simp)))
 simp only[List.map_cons,List.map_nil,cX,List.length_nil,dC,Nat.reduceAdd,List.nil_append] at o1 t1;have eD:bA w.heap.size w w2:=⟨g1.os,g1.tape,g1.output,g1.size,λk hk=>g1.block k hk (by simp)⟩
 obtain⟨gl,cl,Jd,Bj,tW⟩:=o1.form (by simp);have Jv:=eM Jd;subst Jv;have zW:w.heap.size<=gl:=by
  rcases t1 with t1|t1
  ·cases t1
  ·injection t1 with t1;exact Nat.le_of_eq t1.symm
 have ls:∀j v,([x,y]:List Int)[j]?=aE v->w2.cell? ⟨gl,j,aC⟩=aE (aH aF v):=λj v hv=>by
  have:=o1.cells (g:=gl) rfl j (aH aF v) (by
   have h1:(([x,y]:List Int).map (aH aF))[j]?=aE (aH aF v):=by rw[cI,hv];rfl
   exact h1)
  rwa[fE,dC] at this
 have qT:=(aN HR).below eD;have c2:=cq 2 qT.mc rfl;have HW:=bE (aN zV w2 gl pV qT ls);have l0:=ls 0 x rfl;have H2:=bE (bK eD (bK zW (bK tW ls)));clear eD qT o1 zW Bj tW t1 g1 Jd hi hz pW jP src hx HT wL wN zV ls;go_upto_region 15 with (first
  |(go_at_call 79
    refine(aN HW).mono ?_;rintro e iF ⟨rfl,mG⟩;subst iF)
  |(go_at_call 80
    refine(aN xC w2).mono ?_;rintro e w3 ⟨rfl,eW⟩;have H3:=bE eW;clear eW))
 have eW:bA w.heap.size w w3:=(aN H2).1.trans ((aN H3).mono (aN H2).1.size);have Sk:∀j v,([x,y]:List Int)[j]?=aE v->w3.cell? ⟨gl,j,aC⟩=aE (aH aF v):=λj v hv=>((eI (aN H3)).1 gl j (aN H2).2.2.1).trans ((aN H2).2.2.2 j v hv)
 have oK:=(aN HR).below eW;have c1:=cq 1 oK.mc rfl;have c3:w3.cell? ⟨rb,3,aC⟩=aE (aI O):=by rw[<-(aN HO).1];exact aZ oK.mc rfl
 have f1:=bG 1 oK.mc;have f3:=bG 3 oK.mc;have H4:=bE (mB.of (k:=k) (rest:=rest) (T:=T) (l:=[x,y]) (gl:=gl) eW (aN HR) (aN HN).1 (by omega) (by have:=aN HN;rw[this.2.2.1,<-this.2.1,List.take_left]) (aN So) (aN H2).2.1 Sk (O' :=O++TT) (by
  have:=aN HO;rw[<-this.1,<-this.2];exact kP _ _))
 have j0:¬(O.size:Int)+(TT.size:Int)>300:=by omega
 have j1:=wi ((O.size:Int)+(TT.size:Int));have j2:¬9223372036854775807<O.size+TT.size:=by omega
 clear eW oK Sk H2 H3 xC HW c2 l0;go_upto_region 19 with (fail)
 go_cut [] from 16 to 348 (λwx=>mB w rb vA (aJ (aE ⟨g,0,aC⟩) n cS) (aJ aR q cR) (aJ (aE ⟨g,0,aC⟩) k cS) bs {m with out:=m.out++T,S:=rest} gl [x,y] wx)
 case first=>
  go_region_law (fail)
  all_goals (go_wp2_with fail;go_meet;exact aN H4)
 case rest=>
 clear H4 c1 c3 f1 f3 j0 j1 j2 i0 i2 i3 Tm i4 i5 i6 i7 i8 i9 i10;obtain⟨iI,hi,hz,pW,jP⟩:=jJ;have lM:=hcut.ref;have c1:=cq 1 lM.mc rfl;have c2:=cq 2 lM.mc rfl;have f1:=bG 1 lM.mc;have f2:=bG 2 lM.mc;have l0:=hcut.ls 0 x rfl;have r0:dQ x:=(aN HR).si x (by rw[(aN HN).2.2.1];simp);have l1:=hcut.ls 1 y rfl;have r1:dQ y:=(aN HR).si y (by rw[(aN HN).2.2.1];simp);obtain⟨nA,nS,nR⟩:=lM.pR;have yN :aE rb≠(aJ (aE ⟨g,0,aC⟩) k cS).ownBlock:=λe=>nS e.symm
 have dw :aE rb≠(aJ aR q cR).ownBlock:=λe=>nR e.symm
 have OS:=bE (show wc.ownsRow 0 3 1 (aJ (aE ⟨g,0,aC⟩) k cS) k (rest.map (aH aF)) from by
  have:=lM.st;rw[show({m with out:=m.out++T,S:=rest}:N.cE).S.length=k from(aN HN).2.1] at this;exact this)
 have OR:=bE (show wc.ownsRow 0 3 1 (aJ aR q cR) q (m.R.map (aH aF)) from by
  have:=lM.rt;rw[show({m with out:=m.out++T,S:=rest}:N.cE).R.length=q from(aN HN).2.2.2.2] at this;exact this)
 have HC:=bE hcut;clear hcut lM nA nS nR;have be:k+1<=16:=by have:=aN HS;omega
 have d1:(wc.alloc (aU #[aH aF z] 3)).drew.cell? ⟨rb,1,aC⟩=aE (aJ (aE ⟨g,0,aC⟩) k cS):=bJ c1 _;have d2:(wc.alloc (aU #[aH aF z] 3)).cell? ⟨rb,1,aC⟩=aE (aJ (aE ⟨g,0,aC⟩) k cS):=bJ c1 _;go_wp2;go_region_law
  (first
    |(go_simp;refine(aN HRE _).mono ?_
      rintro e iF ⟨rfl,mG⟩;subst iF)
    |(refine dW _ (by rfl) _ _ 26 (by rfl) 3 iI (aH aF 0) 8 underlying26 hi hz pW jP rfl (aJ (aE ⟨g,0,aC⟩) k cS) k (rest.map (aH aF)) (by rfl) (by exact(aN OS).alloc _) (aJ (aE ⟨wc.heap.size,0,aC⟩) 1 1) (([z]:List Int).map (aH aF)) (by rfl) (lY wc (([z]:List Int).map (aH aF)) 3 rfl rfl) (gX _) (by unfold maxLen;simp;omega) (by simp;omega) ?_
      intro a3 iG w5 o3 g3 t3;have g3:(wc.alloc (aU #[aH aF z] 3)).grownBy w5 (aJ (aE ⟨g,0,aC⟩) k cS).ownBlock:=⟨g3.os,g3.tape,g3.output,g3.size,g3.block⟩
      have e1:(wc.alloc (aU #[aH aF z] 3)).cell? ⟨rb,1,aC⟩=aE (aJ (aE ⟨g,0,aC⟩) k cS):=bJ c1 _;have f4:(wc.alloc (aU #[aH aF z] 3)).frozen? ⟨rb,1,aC⟩=aV:=cY (bU wc _ aC) c1 f1 (by simp);have f5:=cY g3 e1 f4 yN;have e5:=g3.cell e1 yN;have G3:=bE (bK g3 (bK o3 t3));clear g3 o3 t3 e1 f4))
 all_goals
  go_wp2;go_ret;have hh:=mB.Gq (xs:=[z]) (aN HC) ((bF _ _).alloc (bD _) _) (aN G3).1 (aN HN).2.1 (aN G3).2.1 (aN G3).2.2 (by show k+1<=16;exact be) (λv hv=>by
   simp only[List.mem_cons,dR,or_false] at hv;rcases hv with rfl
   ·exact hz0)
  exact⟨rfl,hh⟩
end
end Go.Proofs.YtgnlokmeohffaaaGreatDoor
