/- Parts of the proof: see the last text. -/
import Derived.Test.YtgnlokmeohffaaaGreatDoorG3
namespace Go.Proofs.YtgnlokmeohffaaaGreatDoor
set_option maxRecDepth 100000
set_option maxHeartbeats 8000000
open Option renaming none → aC, some → aE
open Go renaming IntKind.i64 → aF, Value → aG, Value.int → aH, Value.string → aI, Value.slice → aJ, Value.pointer → aK, Ending.returned → aM, Obj.cells → aU, World → aY, Value.tuple → bC, Calls → bH, World.grownBy_alloc → bU
open Go.Proofs.Tryz renaming prog → aQ
open Bool renaming false → aV
open Go.RowKit renaming Below → bA, Below.refl → bF
open Nat renaming le_refl → bD, zero_add → dC
open And renaming intro → bK
open List renaming length_append → bN, getElem?_map → cI, length_cons → cX, length_map → dO, length_take → dH, not_mem_nil → dR, length_eq_zero_iff → dU
open Tryz
open Go.RowKit
section
attribute [local go_sem ↓] Go.wp_at_zero Go.wp_at_succ
theorem fw (w:aY)(rb:Nat)(vA vS vR:aG)(bs:List aG)(m:N.cE)(depth:Int)(s:ByteArray)(u a:Nat)(T:List UInt8)(rest:List Int)(x:Int)(h:cH w rb vA vS vR bs m)(hS:m.S=rest++[x])(hu:u<=3)(ha:a<=1)(ho:rest.length+u<=16)(Tl:m.R.length+a<=16)(hT:m.out.length+T.length<=300)(ht:bH aQ 78 #[aI s] w λe w' =>e=aM (bC #[aH aF 1,aH aF 0,aH aF u,aH aF a])/\w' =w)(hw:∀W gl cap,cH W rb vA vS vR bs m->(∀j v,([x]:List Int)[j]?=aE v->W.cell? ⟨gl,j,aC⟩=aE (aH aF v))->bH aQ 79 #[aK (aE ⟨rb,0,aC⟩),aI s,(aJ (aE ⟨gl,0,aC⟩) 1 cap)] W λe w' =>e=aM (aH aF 0)/\w' =W)(sG:∀W,bH aQ 80 #[aI s,aH aF x] W λe w' =>e=aM (aI ⟨T.toArray⟩)/\bA W.heap.size W w')(hs:(s=⟨#[110,111,116]⟩/\u=1/\a=0)):
 bH aQ 61 #[aK (aE ⟨rb,0,aC⟩),aI s,aH aF depth] w λe w' =>e=aM (aH aF 0)/\dP rb vA vS vR bs (N.kR {m with out:=m.out++T} s.data.toList [x] rest) w w' :=by
 obtain⟨iI,hi,hz,pW,jP⟩:=jJ;obtain⟨aS,cS,rfl,lU,qJ⟩:=cU h.st;obtain⟨aR,cR,rfl,Ti,mH⟩:=cU h.rt;obtain⟨g,cap,vJ,Tf,zX⟩:=h.st.form (by rw[hS];simp);have Nt:=eM vJ;subst Nt;clear vJ cap qJ mH Tf zX;have c1:=cq 1 h.mc rfl;have c2:=cq 2 h.mc rfl;have xJ:=h.sl;have xH:=h.rl;have hlen:m.S.length=rest.length+1:=by rw[hS];simp
 have src:lN w (aJ (if cS=rest.length then(aE ⟨g,0,aC⟩:Option Addr) else aE ⟨g,rest.length,aC⟩) (m.S.length-rest.length) (cS-rest.length)) (([x]:List Int).map (aH aF)):=by
  have:=kL (k:=rest.length) h.st lU (by omega);have e1:(m.S.map (aH aF)).drop rest.length=([x]:List Int).map (aH aF):=by rw[hS,<-List.map_drop,List.drop_left]
  rwa[e1] at this
 have HR:=bE h;have zV:=bE hw;have xC:=bE sG;have HT:=bE ht;have HS:=bE hs;have So:=bE hT;have mU:(⟨m.out.toArray⟩:ByteArray).size+(⟨T.toArray⟩:ByteArray).size<=300:=by simpa[ByteArray.size] using hT
 generalize hO:(⟨m.out.toArray⟩:ByteArray)=O at mU;generalize zT:(⟨T.toArray⟩:ByteArray)=TT at mU xC;have HO:=bE (bK hO zT);clear h hO zT hw sG ht hs hT;generalize hn:m.S.length=n at*;generalize hk:rest.length=k at*;generalize hr:m.R.length=q at*;generalize hx:(if cS=k then(aE ⟨g,0,aC⟩:Option Addr) else aE ⟨g,k,aC⟩)=xS at*;have HN:=bE (bK hn (bK hk (bK hS (bK hlen hr))));have i0:aF.wrap ((n:Int)-1)=(k:Int):=wj;have i1:(0:Int)<=(k:Int):=by omega
 have i2:(k:Int)<=(n:Int):=by omega
 have i3:(n:Int)<=(cS:Int):=by omega
 have Tm :(k:Int)<=(cS:Int):=by omega
 have i4:¬(n:Int)<1:=by omega
 have i5:¬(q:Int)<0:=by omega
 have i6:=wi ((k:Int)+(u:Int));have i7:¬(k:Int)+(u:Int)>16:=by omega
 have i8:=wi (q:Int);have i9:=wi ((q:Int)+(a:Int));have i10:¬(q:Int)+(a:Int)>16:=by omega
 have wL:0+(([x]:List Int).map (aH aF)).length<=maxLen:=by unfold maxLen;simp
 have wN:(0+(([x]:List Int).map (aH aF)).length)*8<=140737488355328:=by simp
 clear hn hk hS hlen hr;go_enter func61,ntmps61;go_wp2_with (
  go_at_call 78
  refine(aN HT).mono ?_;rintro e iF ⟨rfl,mG⟩;subst iF)
 go_region_held3 (λw' =>w'.cell? ⟨rb,1,aC⟩=aE (aJ (aE ⟨g,0,aC⟩) n cS)) (first|exact c1|go_keep)
  (first
    |(refine dW _ (by rfl) _ _ _ (by rfl) 3 iI (aH aF 0) 8 underlying26 hi hz pW jP rfl (aJ aC 0 0) 0 [] (by rfl) (aY.ownsRow_nil _ _ _ _) (aJ xS (n-k) (cS-k)) (([x]:List Int).map (aH aF)) (by rfl) (by exact src) (gX _) wL wN ?_
      intro a1 pV w2 o1 g1 t1;have g1:w.grownBy w2 aC:=⟨g1.os,g1.tape,g1.output,g1.size,g1.block⟩
      have c1:=g1.cell c1 (by simp)))
 simp only[List.map_cons,List.map_nil,cX,List.length_nil,dC,List.nil_append] at o1 t1;have eD:bA w.heap.size w w2:=⟨g1.os,g1.tape,g1.output,g1.size,λk hk=>g1.block k hk (by simp)⟩
 obtain⟨gl,cl,Jd,Bj,tW⟩:=o1.form (by simp);have Jv:=eM Jd;subst Jv;have zW:w.heap.size<=gl:=by
  rcases t1 with t1|t1
  ·cases t1
  ·injection t1 with t1;exact Nat.le_of_eq t1.symm
 have ls:∀j v,([x]:List Int)[j]?=aE v->w2.cell? ⟨gl,j,aC⟩=aE (aH aF v):=λj v hv=>by
  have:=o1.cells (g:=gl) rfl j (aH aF v) (by
   have h1:(([x]:List Int).map (aH aF))[j]?=aE (aH aF v):=by rw[cI,hv];rfl
   exact h1)
  rwa[fE,dC] at this
 have qT:=(aN HR).below eD;have c2:=cq 2 qT.mc rfl;have HW:=bE (aN zV w2 gl pV qT ls);have l0:=ls 0 x rfl;have H2:=bE (bK eD (bK zW (bK tW ls)));clear eD qT o1 zW Bj tW t1 g1 Jd hi hz pW jP src hx HT wL wN zV ls;go_upto_region 15 with (first
  |(go_at_call 79
    refine(aN HW).mono ?_;rintro e iF ⟨rfl,mG⟩;subst iF)
  |(go_at_call 80
    refine(aN xC w2).mono ?_;rintro e w3 ⟨rfl,eW⟩;have H3:=bE eW;clear eW))
 have eW:bA w.heap.size w w3:=(aN H2).1.trans ((aN H3).mono (aN H2).1.size);have Sk:∀j v,([x]:List Int)[j]?=aE v->w3.cell? ⟨gl,j,aC⟩=aE (aH aF v):=λj v hv=>((eI (aN H3)).1 gl j (aN H2).2.2.1).trans ((aN H2).2.2.2 j v hv)
 have oK:=(aN HR).below eW;have c1:=cq 1 oK.mc rfl;have c3:w3.cell? ⟨rb,3,aC⟩=aE (aI O):=by rw[<-(aN HO).1];exact aZ oK.mc rfl
 have f1:=bG 1 oK.mc;have f3:=bG 3 oK.mc;have H4:=bE (mB.of (k:=k) (rest:=rest) (T:=T) (l:=[x]) (gl:=gl) eW (aN HR) (aN HN).1 (by omega) (by have:=aN HN;rw[this.2.2.1,<-this.2.1,List.take_left]) (aN So) (aN H2).2.1 Sk (O' :=O++TT) (by
  have:=aN HO;rw[<-this.1,<-this.2];exact kP _ _))
 have j0:¬(O.size:Int)+(TT.size:Int)>300:=by omega
 have j1:=wi ((O.size:Int)+(TT.size:Int));have j2:¬9223372036854775807<O.size+TT.size:=by omega
 clear eW oK Sk H2 H3 xC HW c2 l0;go_upto_region 19 with (fail)
 go_cut [] from 16 to 348 (λwx=>mB w rb vA (aJ (aE ⟨g,0,aC⟩) n cS) (aJ aR q cR) (aJ (aE ⟨g,0,aC⟩) k cS) bs {m with out:=m.out++T,S:=rest} gl [x] wx)
 case first=>
  go_region_law (fail)
  all_goals (go_wp2_with fail;go_meet;exact aN H4)
 case rest=>
 clear H4 c1 c3 f1 f3 j0 j1 j2 i0 i2 i3 Tm i4 i5 i6 i7 i8 i9 i10;obtain⟨iI,hi,hz,pW,jP⟩:=jJ;have lM:=hcut.ref;have c1:=cq 1 lM.mc rfl;have c2:=cq 2 lM.mc rfl;have f1:=bG 1 lM.mc;have f2:=bG 2 lM.mc;have l0:=hcut.ls 0 x rfl;have r0:dQ x:=(aN HR).si x (by rw[(aN HN).2.2.1];simp);obtain⟨nA,nS,nR⟩:=lM.pR;have yN :aE rb≠(aJ (aE ⟨g,0,aC⟩) k cS).ownBlock:=λe=>nS e.symm
 have dw :aE rb≠(aJ aR q cR).ownBlock:=λe=>nR e.symm
 have OS:=bE (show wc.ownsRow 0 3 1 (aJ (aE ⟨g,0,aC⟩) k cS) k (rest.map (aH aF)) from by
  have:=lM.st;rw[show({m with out:=m.out++T,S:=rest}:N.cE).S.length=k from(aN HN).2.1] at this;exact this)
 have OR:=bE (show wc.ownsRow 0 3 1 (aJ aR q cR) q (m.R.map (aH aF)) from by
  have:=lM.rt;rw[show({m with out:=m.out++T,S:=rest}:N.cE).R.length=q from(aN HN).2.2.2.2] at this;exact this)
 have HC:=bE hcut;clear hcut lM nA nS nR;obtain⟨rfl,rfl,rfl⟩:=aN HS;have d1:(wc.alloc (aU #[aH aF (L.lH (x==0))] 3)).drew.cell? ⟨rb,1,aC⟩=aE (aJ (aE ⟨g,0,aC⟩) k cS):=bJ c1 _;have d2:(wc.alloc (aU #[aH aF (L.lH (x==0))] 3)).cell? ⟨rb,1,aC⟩=aE (aJ (aE ⟨g,0,aC⟩) k cS):=bJ c1 _;go_wp2;go_region_law
  (first
    |(go_simp;refine(Ef _ _).mono ?_
      rintro e iF ⟨rfl,mG⟩;subst iF)
    |(refine dW _ (by rfl) _ _ 26 (by rfl) 3 iI (aH aF 0) 8 underlying26 hi hz pW jP rfl (aJ (aE ⟨g,0,aC⟩) k cS) k (rest.map (aH aF)) (by rfl) (by exact(aN OS).alloc _) (aJ (aE ⟨wc.heap.size,0,aC⟩) 1 1) (([L.lH (x==0)]:List Int).map (aH aF)) (by rfl) (lY wc (([L.lH (x==0)]:List Int).map (aH aF)) 3 rfl rfl) (gX _) (by unfold maxLen;simp;omega) (by simp;omega) ?_
      intro a3 iG w5 o3 g3 t3;have g3:(wc.alloc (aU #[aH aF (L.lH (x==0))] 3)).grownBy w5 (aJ (aE ⟨g,0,aC⟩) k cS).ownBlock:=⟨g3.os,g3.tape,g3.output,g3.size,g3.block⟩
      have e1:(wc.alloc (aU #[aH aF (L.lH (x==0))] 3)).cell? ⟨rb,1,aC⟩=aE (aJ (aE ⟨g,0,aC⟩) k cS):=bJ c1 _;have f4:(wc.alloc (aU #[aH aF (L.lH (x==0))] 3)).frozen? ⟨rb,1,aC⟩=aV:=cY (bU wc _ aC) c1 f1 (by simp);have f5:=cY g3 e1 f4 yN;have e5:=g3.cell e1 yN;have G3:=bE (bK g3 (bK o3 t3));clear g3 o3 t3 e1 f4))
 all_goals
  go_wp2;go_ret;have hh:=mB.Gq (xs:=[L.lH (x==0)]) (aN HC) ((bF _ _).alloc (bD _) _) (aN G3).1 (aN HN).2.1 (aN G3).2.1 (aN G3).2.2 (by show k+1<=16;exact ho) (λv hv=>by
   simp only[List.mem_cons,dR,or_false] at hv;rcases hv with rfl
   ·exact RQ _)
  exact⟨rfl,hh⟩
end
variable {w w3:aY}{rb n k gl:Nat}{vA vR:aG}{bs:List aG}{m:N.cE}
theorem mB.GW {cS:Nat}{aS:Option Addr}{rest l:List Int}{T:List UInt8}(hb:bA w.heap.size w w3)(h:cH w rb vA (aJ aS n cS) vR bs m)(hn:m.S.length=n)(hk:k<=n)(hr:m.S.take k=rest)(hT:m.out.length+T.length<=300)(zW:w.heap.size<=gl)(hl:∀j x,l[j]?=aE x->w3.cell? ⟨gl,j,aC⟩=aE (aH aF x)){O' :ByteArray}(hO:O' =⟨(m.out++T).toArray⟩):
 mB w rb vA (aJ aS n cS) vR (aJ aS k cS) bs {m with out:=m.out++T,S:=rest} gl l ((w3.setCell ⟨rb,3,aC⟩ (aI O')).setCell ⟨rb,1,aC⟩ (aJ aS k cS)).drew:=by
 subst hn hr hO;have h3:=h.below hb;have h4:=h3.TU (m.out++T) (by rw[bN];exact hT);have h5:=cH.EJ (m:={m with out:=m.out++T}) h4 (bF _ _) k hk;have Mc:=h.lt rb (.inl rfl);have Nr:gl≠rb:=by omega
 refine⟨h5.1.below (bF _ _).drew,?_,?_,λj x hx=>?_⟩
 ·have m1:=Mv.setCell (p:=⟨rb,3,aC⟩) (Mv.dS hb (dV rb vA (aJ aS m.S.length cS) vR)) (.inl (.inl rfl)) (aI ⟨(m.out++T).toArray⟩);have m2:=Mv.setCell (p:=⟨rb,1,aC⟩) m1 (.inl (.inl rfl)) (aJ aS k cS);exact⟨m2.os,m2.tape,m2.output,m2.size,m2.block⟩
 ·rintro i (e|e|e|e)
  ·exact .inl (.inl e)
  ·exact .inl (.inr (.inl e))
  ·exact .inl (.inr (.inr (.inl (by cases aS <;> exact e))))
  ·exact .inl (.inr (.inr (.inr e)))
 ·exact cQ (cQ (hl j x hx) Nr) Nr
variable {w1:aY}{vS:aG}
theorem cH.SR {cR:Nat}{aR:Option Addr}(h:cH w rb vA vS (aJ aR m.R.length cR) bs m)(hb:bA w.heap.size w w1)(k:Nat)(hk:k<=m.R.length):
 cH (w1.setCell ⟨rb,2,aC⟩ (aJ aR k cR)) rb vA vS (aJ aR k cR) bs {m with R:=m.R.take k}/\Mv (dV rb vA vS (aJ aR m.R.length cR)) w (w1.setCell ⟨rb,2,aC⟩ (aJ aR k cR))/\dG w (dV rb vA vS (aJ aR m.R.length cR)) (dV rb vA vS (aJ aR k cR)):=by
 have hg:w1.grownBy w1 (aJ aR m.R.length cR).ownBlock:=⟨rfl,rfl,rfl,bD _,λ_ _ _=>rfl⟩
 have fK:(aJ aR k cR).ownBlock=(aJ aR m.R.length cR).ownBlock:=by cases aR <;> rfl
 have hl:(m.R.take k).length=k:=by rw[dH];omega
 refine h.bu (R' :=m.R.take k) hb hg ?_ (.inl fK) (by have:=h.rl;omega) (λx hx=>h.ri x (List.mem_of_mem_take hx));rw[hl,List.map_take];have:=tJ (cK h.rt λk e=>hb.block k (h.rt.lt k e).2) k hk;exact this
variable {v' :aG}{w2:aY}
theorem mB.zM {pU :aG}{l xs:List Int}{wx:aY}(h:mB w rb vA vS vR pU bs m gl l wx)(hb:bA wx.heap.size wx w1)(hg:w1.grownBy w2 pU.ownBlock)(hk:m.S.length=k)(ho:w2.ownsRow 0 3 1 v' (k+(xs.map (aH aF)).length) (m.S.map (aH aF)++xs.map (aH aF)))(kD:v'.ownBlock=pU.ownBlock\/v'.ownBlock=aE w1.heap.size)(hl:k+xs.length<=16)(hi:∀x∈xs,dQ x):
 cH (w2.setCell ⟨rb,1,aC⟩ v') rb vA v' vR bs {m with S:=m.S++xs}/\Mv (dV rb vA vS vR) w (w2.setCell ⟨rb,1,aC⟩ v')/\dG w (dV rb vA vS vR) (dV rb vA v' vR):=by
 subst hk;have h1:=h.ref.GP (S' :=m.S++xs) hb hg (by rw[bN,List.map_append];rw[dO] at ho;exact ho) kD (by rw[bN];exact hl) (λy hy=>by
  rcases List.mem_append.1 hy with hy|hy
  ·exact h.ref.si y hy
  ·exact hi y hy)
 exact⟨h1.1,h.mv.trans h.fr h1.2.1,h.fr.trans h.mv.size h1.2.2⟩
section
attribute [local go_sem ↓] Go.wp_at_zero Go.wp_at_succ
theorem KR (w:aY)(rb:Nat)(vA vS vR:aG)(bs:List aG)(m:N.cE)(depth:Int)(s:ByteArray)(r u a:Nat)(T:List UInt8)(h:cH w rb vA vS vR bs m)(g cS:Nat)(vJ:vS=aJ (aE ⟨g,0,aC⟩) m.S.length cS)(lU:m.S.length<=cS)(hr:r<=m.R.length)(vG:r<=1)(hu:u<=1)(ha:a<=1)(ho:m.S.length+u<=16)(Tl:m.R.length-r+a<=16)(hT:m.out.length+T.length<=300)(ht:bH aQ 78 #[aI s] w λe w' =>e=aM (bC #[aH aF 0,aH aF r,aH aF u,aH aF a])/\w' =w)(hw:∀W vl,bH aQ 79 #[aK (aE ⟨rb,0,aC⟩),aI s,vl] W λe w' =>e=aM (aH aF 0)/\w' =W)(sG:∀W,bH aQ 80 #[aI s,aH aF 0] W λe w' =>e=aM (aI ⟨T.toArray⟩)/\bA W.heap.size W w')(hs:(s=⟨#[114,62]⟩/\r=1/\u=1/\a=0)):
 bH aQ 61 #[aK (aE ⟨rb,0,aC⟩),aI s,aH aF depth] w λe w' =>e=aM (aH aF 0)/\dP rb vA vS vR bs (N.kR {m with out:=m.out++T} s.data.toList [] m.S) w w' :=by
 obtain⟨iI,hi,hz,pW,jP⟩:=jJ;subst vJ;obtain⟨aR,cR,rfl,Ti,mH⟩:=cU h.rt;clear mH;have c1:=cq 1 h.mc rfl;have c2:=cq 2 h.mc rfl;have xJ:=h.sl;have xH:=h.rl;have src:lN w (aJ (if cS=m.S.length then(aE ⟨g,0,aC⟩:Option Addr) else aE ⟨g,m.S.length,aC⟩) (m.S.length-m.S.length) (cS-m.S.length)) (([]:List Int).map (aH aF)):=by
  have:=kL (k:=m.S.length) h.st lU (bD _);have e1:(m.S.map (aH aF)).drop m.S.length=([]:List Int).map (aH aF):=by rw[<-List.map_drop,List.drop_length]
  rwa[e1] at this
 have HR:=bE h;have zV:=bE hw;have xC:=bE sG;have HT:=bE ht;have HS:=bE hs;have So:=bE hT;have mU:(⟨m.out.toArray⟩:ByteArray).size+(⟨T.toArray⟩:ByteArray).size<=300:=by simpa[ByteArray.size] using hT
 generalize hO:(⟨m.out.toArray⟩:ByteArray)=O at mU;generalize zT:(⟨T.toArray⟩:ByteArray)=TT at mU xC;have HO:=bE (bK hO zT);clear h hO zT hw sG ht hs hT;generalize hn:m.S.length=n at*;generalize hq:m.R.length=q at*;obtain⟨k,hk⟩:∃k,k=n:=⟨_,rfl⟩
 have src:lN w (aJ (if cS=k then(aE ⟨g,0,aC⟩:Option Addr) else aE ⟨g,k,aC⟩) (n-k) (cS-k)) (([]:List Int).map (aH aF)):=by rw[hk];exact src
 generalize hx:(if cS=k then(aE ⟨g,0,aC⟩:Option Addr) else aE ⟨g,k,aC⟩)=xS at*;have HN:=bE (bK hn (bK hk hq));have i0:aF.wrap (n:Int)=(k:Int):=wj;have i1:(0:Int)<=(k:Int):=by omega
 have i2:(k:Int)<=(n:Int):=by omega
 have i3:(n:Int)<=(cS:Int):=by omega
 have Tm :(k:Int)<=(cS:Int):=by omega
 have i4:¬(n:Int)<0:=by omega
 have i6:=wi ((k:Int)+(u:Int));have i7:¬(k:Int)+(u:Int)>16:=by omega
 have xF:k+u<=16:=by omega
 obtain⟨p,hp⟩:∃p,p=q-r:=⟨_,rfl⟩
 have i5:¬(q:Int)<(r:Int):=by omega
 have i8:aF.wrap ((q:Int)-(r:Int))=(p:Int):=wj;have i9:=wi ((p:Int)+(a:Int));have i10:¬(p:Int)+(a:Int)>16:=by omega
 have HP:=bE (bK hp (bK hr Tl));have wL:0+(([]:List Int).map (aH aF)).length<=maxLen:=by unfold maxLen;simp
 have wN:(0+(([]:List Int).map (aH aF)).length)*8<=140737488355328:=by simp
 clear hn hq hp hr Tl hk;go_enter func61,ntmps61;go_wp2_with (
  go_at_call 78
  refine(aN HT).mono ?_;rintro e iF ⟨rfl,mG⟩;subst iF)
 go_region_held3 (λw' =>w'.cell? ⟨rb,1,aC⟩=aE (aJ (aE ⟨g,0,aC⟩) n cS)) (first|exact c1|go_keep)
  (first
    |(refine dW _ (by rfl) _ _ _ (by rfl) 3 iI (aH aF 0) 8 underlying26 hi hz pW jP rfl (aJ aC 0 0) 0 [] (by rfl) (aY.ownsRow_nil _ _ _ _) (aJ xS (n-k) (cS-k)) (([]:List Int).map (aH aF)) (by rfl) (by exact src) (gX _) wL wN ?_
      intro a1 pV w2 o1 g1 t1;have g1:w.grownBy w2 aC:=⟨g1.os,g1.tape,g1.output,g1.size,g1.block⟩
      have c1:=g1.cell c1 (by simp)))
 have eD:bA w.heap.size w w2:=⟨g1.os,g1.tape,g1.output,g1.size,λk hk=>g1.block k hk (by simp)⟩
 have qT:=(aN HR).below eD;have c2:=cq 2 qT.mc rfl;have H2:=bE eD;clear eD qT o1 t1 g1 hi hz pW jP src hx HT wL wN;go_upto_region 15 with (first
  |(go_at_call 79
    refine(aN zV w2 _).mono ?_;rintro e iF ⟨rfl,mG⟩;subst iF)
  |(go_at_call 80
    refine(aN xC w2).mono ?_;rintro e w3 ⟨rfl,eW⟩;have H3:=bE eW;clear eW))
 have eW:bA w.heap.size w w3:=(aN H2).trans ((aN H3).mono (aN H2).size);have oK:=(aN HR).below eW;have c1:=cq 1 oK.mc rfl;have c3:w3.cell? ⟨rb,3,aC⟩=aE (aI O):=by rw[<-(aN HO).1];exact aZ oK.mc rfl
 have f1:=bG 1 oK.mc;have f3:=bG 3 oK.mc;have H4:=bE (mB.GW (k:=k) (rest:=m.S) (T:=T) (l:=[]) (gl:=w.heap.size) eW (aN HR) (aN HN).1 (by have:=(aN HN).2.1;omega) (by rw[(aN HN).2.1,<-(aN HN).1,List.take_length]) (aN So) (bD _) (λj x hx=>by simp at hx) (O' :=O++TT) (by
  have:=aN HO;rw[<-this.1,<-this.2];exact kP _ _))
 have j0:¬(O.size:Int)+(TT.size:Int)>300:=by omega
 have j1:=wi ((O.size:Int)+(TT.size:Int));have j2:¬9223372036854775807<O.size+TT.size:=by omega
 clear eW oK H2 H3 xC zV c2;go_upto_region 19 with (fail)
 go_cut [] from 16 to 348 (λwx=>mB w rb vA (aJ (aE ⟨g,0,aC⟩) n cS) (aJ aR q cR) (aJ (aE ⟨g,0,aC⟩) k cS) bs {m with out:=m.out++T,S:=m.S} w.heap.size [] wx)
 case first=>
  go_region_law (fail)
  all_goals (go_wp2_with fail;go_meet;exact aN H4)
 case rest=>
 clear H4 c1 c3 f1 f3 j0 j1 j2 i0 i2 i3 Tm i4 i5 i6 i7 i8 i9 i10;obtain⟨iI,hi,hz,pW,jP⟩:=jJ;obtain⟨wz,YG⟩:∃z,z=wc:=⟨_,rfl⟩
 subst YG;have lM:=hcut.ref;have hlen:m.S.length=k:=(aN HN).1.trans (aN HN).2.1.symm;have zB:m.R.length=q:=(aN HN).2.2;have c1:=cq 1 lM.mc rfl;have c2:=cq 2 lM.mc rfl;have f1:=bG 1 lM.mc;obtain⟨nA,nS,nR⟩:=lM.pR;have yN :aE rb≠(aJ (aE ⟨g,0,aC⟩) k cS).ownBlock:=λe=>nS e.symm
 have OS:=bE (show wz.ownsRow 0 3 1 (aJ (aE ⟨g,0,aC⟩) k cS) k (m.S.map (aH aF)) from by
  have:=lM.st;rw[show({m with out:=m.out++T,S:=m.S}:N.cE).S.length=k from hlen] at this;exact this)
 have HC:=bE (bK hcut (bK hlen zB));clear hcut nA nS nR hlen;obtain⟨rfl,rfl,rfl,rfl⟩:=aN HS;obtain⟨R0,v,zL⟩:∃R0 v,m.R=R0++[v]:=by
  rcases List.eq_nil_or_concat m.R with e|⟨R0,v,e⟩
  ·have hz0:=(aN HP).2.1;rw[e] at zB;simp at zB;omega
  ·exact⟨R0,v,by simpa using e⟩
 obtain⟨gR,cap,UK,ET,EE⟩:=lM.rt.form (by show 0<m.R.length;rw[zL];simp);have DJ:=eM UK;subst DJ;clear UK cap ET EE;have hv:dQ v:=lM.ri v (by show v∈m.R;rw[zL];simp);have cv:wz.cell? ⟨gR,p,aC⟩=aE (aH aF v):=by
  have:=lM.rt.cells (g:=gR) rfl p (aH aF v) (by
   show(m.R.map (aH aF))[p]?=_;have nV:p=R0.length:=by have h1:=(aN HP).1;rw[zL] at zB;simp at zB;omega
   rw[zL,nV];simp)
  rwa[fE,dC] at this
 have TE:q=p+1:=by have h1:=(aN HP).1;have h2:=(aN HP).2.1;omega
 have m0:aF.wrap ((q:Int)-1)=(p:Int):=wj;have m1:(0:Int)<=(p:Int):=by omega
 have m2:(p:Int)<(q:Int):=by omega
 have m3:(p:Int)<=(cR:Int):=by omega
 have HV:=bE (bK zL (bK TE zB));have oC:m.R.getLast?.getD 0=v:=by rw[zL];simp
 have Jl:m.R.dropLast=m.R.take p:=by rw[zL,List.dropLast_concat];rw[zL] at zB;simp at zB;rw[show p=R0.length by omega,List.take_left]
 have HL:=bE (bK oC Jl);have d1:(wz.alloc (aU #[aH aF v] 3)).drew.cell? ⟨rb,1,aC⟩=aE (aJ (aE ⟨g,0,aC⟩) k cS):=bJ c1 _;have d2:(wz.alloc (aU #[aH aF v] 3)).cell? ⟨rb,1,aC⟩=aE (aJ (aE ⟨g,0,aC⟩) k cS):=bJ c1 _;have nGR:aE gR≠(aJ (aE ⟨g,0,aC⟩) k cS).ownBlock:=λe=>lM.ap gR e.symm rfl
 clear zL TE oC Jl lM zB;go_wp2;refine uR 21 (λw' :aY=>w'.cell? ⟨rb,1,aC⟩=aE (aJ (aE ⟨g,0,aC⟩) k cS)/\w'.cell? ⟨rb,2,aC⟩=aE (aJ (aE ⟨gR,0,aC⟩) q cR)/\w'.cell? ⟨gR,p,aC⟩=aE (aH aF v)) (by kernel_rfl) ⟨c1,c2,cv⟩ (λhc hS=>?_);refine uA 0 (aK (aE ⟨rb,0,aC⟩)) hc hS λhc=>?_
 refine uA 1 (aK (aE ⟨rb,0,aC⟩)) hc hS λhc=>?_
 refine uA 2 (aK (aE ⟨rb,0,aC⟩)) hc hS λhc=>?_
 refine uA 3 (aK (aE ⟨rb,1,aC⟩)) hc hS λhc=>?_
 refine uA 4 (aJ (aE ⟨g,0,aC⟩) k cS) hc hS λhc=>?_
 refine uA 5 (aK (aE ⟨rb,0,aC⟩)) hc hS λhc=>?_
 refine uA 6 (aK (aE ⟨rb,0,aC⟩)) hc hS λhc=>?_
 refine uA 7 (aK (aE ⟨rb,2,aC⟩)) hc hS λhc=>?_
 refine uA 8 (aJ (aE ⟨gR,0,aC⟩) q cR) hc hS λhc=>?_
 refine uA 9 (aK (aE ⟨rb,0,aC⟩)) hc hS λhc=>?_
 refine uA 10 (aK (aE ⟨rb,0,aC⟩)) hc hS λhc=>?_
 refine uA 11 (aK (aE ⟨rb,2,aC⟩)) hc hS λhc=>?_
 refine uA 12 (aJ (aE ⟨gR,0,aC⟩) q cR) hc hS λhc=>?_
 refine uA 13 (aH aF q) hc hS λhc=>?_
 refine uA 14 (aH aF p) hc hS λhc=>?_
 refine uA 15 (aK (aE ⟨gR,p,aC⟩)) hc hS λhc=>?_
 refine uA 16 (aH aF v) hc hS λhc=>?_
 refine uO 17 (by kernel_rfl) rfl (λK' hK=>?_);go_simp;refine hK.out _ _ (by exact⟨bJ c1 _,bJ c2 _,bJ cv _⟩) ?_;clear hK K';have hc:=hc.nx 17 (by kernel_rfl);refine uO 18 (by kernel_rfl) rfl (λK' hK=>?_);refine dW _ (by rfl) _ _ 26 (by rfl) 3 iI (aH aF 0) 8 underlying26 hi hz pW jP rfl (aJ (aE ⟨g,0,aC⟩) k cS) k (m.S.map (aH aF)) (by rfl) (by exact(aN OS).alloc _) (aJ (aE ⟨wz.heap.size,0,aC⟩) 1 1) (([v]:List Int).map (aH aF)) (by rfl) (lY wz (([v]:List Int).map (aH aF)) 3 rfl rfl) (gX _) (by unfold maxLen;simp;omega) (by simp;omega) ?_;intro a3 iG w5 o3 g3 t3;have g3:(wz.alloc (aU #[aH aF v] 3)).grownBy w5 (aJ (aE ⟨g,0,aC⟩) k cS).ownBlock:=⟨g3.os,g3.tape,g3.output,g3.size,g3.block⟩
 have e1:(wz.alloc (aU #[aH aF v] 3)).cell? ⟨rb,1,aC⟩=aE (aJ (aE ⟨g,0,aC⟩) k cS):=bJ c1 _;have f4:(wz.alloc (aU #[aH aF v] 3)).frozen? ⟨rb,1,aC⟩=aV:=cY (bU wz _ aC) c1 f1 (by simp);have f5:=cY g3 e1 f4 yN;have e5:=g3.cell e1 yN;have G3:=bE (bK g3 (bK o3 t3));have e6:=g3.cell (show(wz.alloc (aU #[aH aF v] 3)).cell? ⟨rb,2,aC⟩=_ from bJ c2 _) yN;have e7:=g3.cell (show(wz.alloc (aU #[aH aF v] 3)).cell? ⟨gR,p,aC⟩=_ from bJ cv _) nGR;clear g3 o3 t3 e1 f4;refine hK.out _ _ (by exact⟨e5,e6,e7⟩) ?_;clear hK K';have hc:=hc.nx 18 (by kernel_rfl);refine uA 19 (aK (aE ⟨rb,0,aC⟩)) hc (by exact⟨e5,e6,e7⟩) λhc=>?_
 refine uA 20 (aK (aE ⟨rb,1,aC⟩)) hc (by exact⟨e5,e6,e7⟩) λhc=>?_
 refine lA (by kernel_rfl) rfl (λK' hK=>?_);go_simp;refine hK.out _ _ ?_;clear hK K';refine wpAny_done (by kernel_rfl) ?_ _;have kk:cH (w5.setCell ⟨rb,1,aC⟩ (aJ a3 (k+1) iG)) rb vA (aJ a3 (k+1) iG) (aJ (aE ⟨gR,0,aC⟩) q cR) bs {m with out:=m.out++T,S:=m.S++[v]}/\Mv (dV rb vA (aJ (aE ⟨g,0,aC⟩) n cS) (aJ (aE ⟨gR,0,aC⟩) q cR)) w (w5.setCell ⟨rb,1,aC⟩ (aJ a3 (k+1) iG))/\dG w (dV rb vA (aJ (aE ⟨g,0,aC⟩) n cS) (aJ (aE ⟨gR,0,aC⟩) q cR)) (dV rb vA (aJ a3 (k+1) iG) (aJ (aE ⟨gR,0,aC⟩) q cR)):=mB.zM (xs:=[v]) (aN HC).1 ((bF _ _).alloc (bD _) _) (aN G3).1 (aN HC).2.1 (aN G3).2.1 (aN G3).2.2 (by show k+1<=16;omega) (λv hv=>by simp only[List.mem_cons,dR,or_false] at hv;subst hv;exact hv);generalize w5.setCell ⟨rb,1,aC⟩ (aJ a3 (k+1) iG)=wc at*;generalize En:aJ a3 (k+1) iG=Nw at kk;obtain⟨k1,k2,k3⟩:=kk;have c2:=cq 2 k1.mc rfl;have f2:=bG 2 k1.mc;have m4:(q:Int)<=(cR:Int):=by omega
 have K:=bE (bK k1 (bK k2 k3));clear k1 k2 k3 En;go_wp2;go_region_law (fail)
 all_goals
  go_wp2;go_ret;obtain⟨k1,k2,k3⟩:=aN K;obtain⟨z1,z2,z3⟩:=aN HV;have hh:=cH.SR (m:={m with out:=m.out++T,S:=m.S++[v]}) (k:=p) (cR:=cR) (aR:=aE ⟨gR,0,aC⟩) (by show cH wc rb vA Nw (aJ (aE ⟨gR,0,aC⟩) m.R.length cR) bs _;rw[z3];exact k1) (bF _ _) (by show p<=m.R.length;omega);have e1:({m with out:=m.out++T,S:=m.S++[v]}:N.cE).R.length=q:=z3;rw[e1] at hh;refine⟨rfl,?_⟩;have hd:N.kR {m with out:=m.out++T} [114,62] [] m.S={m with out:=m.out++T,S:=m.S++[v],R:=m.R.take p}:=by
   show({m with out:=m.out++T,S:=m.S++[m.R.getLast?.getD 0],R:=m.R.dropLast}:N.cE)=_;rw[(aN HL).1,(aN HL).2]
  show dP _ _ _ _ _ (N.kR {m with out:=m.out++T} [114,62] [] m.S) _ _;rw[hd];exact dP.drew (dP.trans k2 k3 ⟨_,_,_,hh.1,hh.2.1,hh.2.2⟩)
theorem LL (w:aY)(rb:Nat)(vA vS vR:aG)(bs:List aG)(m:N.cE)(depth:Int)(s:ByteArray)(r u a:Nat)(T:List UInt8)(h:cH w rb vA vS vR bs m)(vJ:vS=aJ aC 0 0)(qJ:m.S.length=0)(hr:r<=m.R.length)(vG:r<=1)(hu:u<=1)(ha:a<=1)(ho:m.S.length+u<=16)(Tl:m.R.length-r+a<=16)(hT:m.out.length+T.length<=300)(ht:bH aQ 78 #[aI s] w λe w' =>e=aM (bC #[aH aF 0,aH aF r,aH aF u,aH aF a])/\w' =w)(hw:∀W vl,bH aQ 79 #[aK (aE ⟨rb,0,aC⟩),aI s,vl] W λe w' =>e=aM (aH aF 0)/\w' =W)(sG:∀W,bH aQ 80 #[aI s,aH aF 0] W λe w' =>e=aM (aI ⟨T.toArray⟩)/\bA W.heap.size W w')(hs:(s=⟨#[114,62]⟩/\r=1/\u=1/\a=0)):
 bH aQ 61 #[aK (aE ⟨rb,0,aC⟩),aI s,aH aF depth] w λe w' =>e=aM (aH aF 0)/\dP rb vA vS vR bs (N.kR {m with out:=m.out++T} s.data.toList [] m.S) w w' :=by
 obtain⟨iI,hi,hz,pW,jP⟩:=jJ;subst vJ;obtain⟨aR,cR,rfl,Ti,mH⟩:=cU h.rt;clear mH;have c1:=cq 1 h.mc rfl;have c2:=cq 2 h.mc rfl;have xJ:=h.sl;have xH:=h.rl;have HR:=bE h;have zV:=bE hw;have xC:=bE sG;have HT:=bE ht;have HS:=bE hs;have So:=bE hT;have mU:(⟨m.out.toArray⟩:ByteArray).size+(⟨T.toArray⟩:ByteArray).size<=300:=by simpa[ByteArray.size] using hT
 generalize hO:(⟨m.out.toArray⟩:ByteArray)=O at mU;generalize zT:(⟨T.toArray⟩:ByteArray)=TT at mU xC;have HO:=bE (bK hO zT);clear h hO zT hw sG ht hs hT;generalize hn:m.S.length=n at*;generalize hq:m.R.length=q at*;have HN:=bE (bK hn (bK qJ hq));have z0:aF.wrap 0=0:=by rfl
 have i6:=wi (u:Int);have i7:¬(u:Int)>16:=by omega
 have xF:n+u<=16:=by omega
 obtain⟨p,hp⟩:∃p,p=q-r:=⟨_,rfl⟩
 have i5:¬(q:Int)<(r:Int):=by omega
 have i8:aF.wrap ((q:Int)-(r:Int))=(p:Int):=wj;have i9:=wi ((p:Int)+(a:Int));have i10:¬(p:Int)+(a:Int)>16:=by omega
 have HP:=bE (bK hp (bK hr Tl));have wL:0+(([]:List Int).map (aH aF)).length<=maxLen:=by unfold maxLen;simp
 have wN:(0+(([]:List Int).map (aH aF)).length)*8<=140737488355328:=by simp
 clear hn hq hp hr Tl qJ;go_enter func61,ntmps61;go_wp2_with (
  go_at_call 78
  refine(aN HT).mono ?_;rintro e iF ⟨rfl,mG⟩;subst iF)
 go_region_held3 (λw' =>w'.cell? ⟨rb,1,aC⟩=aE (aJ aC 0 0)) (first|exact c1|go_keep)
  (first
    |(refine dW _ (by rfl) _ _ _ (by rfl) 3 iI (aH aF 0) 8 underlying26 hi hz pW jP rfl (aJ aC 0 0) 0 [] (by rfl) (aY.ownsRow_nil _ _ _ _) (aJ aC 0 0) (([]:List Int).map (aH aF)) (by rfl) (by exact lN.nil _) (gX _) wL wN ?_
      intro a1 pV w2 o1 g1 t1;have g1:w.grownBy w2 aC:=⟨g1.os,g1.tape,g1.output,g1.size,g1.block⟩
      have c1:=g1.cell c1 (by simp)))
 have eD:bA w.heap.size w w2:=⟨g1.os,g1.tape,g1.output,g1.size,λk hk=>g1.block k hk (by simp)⟩
 have qT:=(aN HR).below eD;have c2:=cq 2 qT.mc rfl;have H2:=bE eD;clear eD qT o1 t1 g1 hi hz pW jP HT wL wN;go_upto_region 15 with (first
  |(go_at_call 79
    refine(aN zV w2 _).mono ?_;rintro e iF ⟨rfl,mG⟩;subst iF)
  |(go_at_call 80
    refine(aN xC w2).mono ?_;rintro e w3 ⟨rfl,eW⟩;have H3:=bE eW;clear eW))
 have eW:bA w.heap.size w w3:=(aN H2).trans ((aN H3).mono (aN H2).size);have oK:=(aN HR).below eW;have c1:=cq 1 oK.mc rfl;have c3:w3.cell? ⟨rb,3,aC⟩=aE (aI O):=by rw[<-(aN HO).1];exact aZ oK.mc rfl
 have f1:=bG 1 oK.mc;have f3:=bG 3 oK.mc;have H4:=bE (mB.GW (k:=0) (rest:=m.S) (T:=T) (l:=[]) (gl:=w.heap.size) eW (aN HR) ((aN HN).1.trans (aN HN).2.1) (bD _) (by rw[dU.1 ((aN HN).1.trans (aN HN).2.1)];rfl) (aN So) (bD _) (λj x hx=>by simp at hx) (O' :=O++TT) (by
  have:=aN HO;rw[<-this.1,<-this.2];exact kP _ _))
 have j0:¬(O.size:Int)+(TT.size:Int)>300:=by omega
 have j1:=wi ((O.size:Int)+(TT.size:Int));have j2:¬9223372036854775807<O.size+TT.size:=by omega
 clear eW oK H2 H3 xC zV c2;go_upto_region 19 with (fail)
 go_cut [] from 16 to 348 (λwx=>mB w rb vA (aJ aC 0 0) (aJ aR q cR) (aJ aC 0 0) bs {m with out:=m.out++T,S:=m.S} w.heap.size [] wx)
 case first=>
  go_region_law (fail)
  all_goals (go_wp2_with fail;go_meet;exact aN H4)
 case rest=>
 clear H4 c1 c3 f1 f3 j0 j1 j2 i5 i6 i7 i8 i9 i10;obtain⟨iI,hi,hz,pW,jP⟩:=jJ;obtain⟨wz,YG⟩:∃z,z=wc:=⟨_,rfl⟩
 subst YG;have lM:=hcut.ref;have hlen:m.S.length=0:=(aN HN).1.trans (aN HN).2.1;have zB:m.R.length=q:=(aN HN).2.2;have c1:=cq 1 lM.mc rfl;have c2:=cq 2 lM.mc rfl;have f1:=bG 1 lM.mc;obtain⟨nA,nS,nR⟩:=lM.pR;have yN :aE rb≠(aJ aC 0 0).ownBlock:=λe=>nS e.symm
 have OS:=bE (show wz.ownsRow 0 3 1 (aJ aC 0 0) 0 (m.S.map (aH aF)) from by
  have:=lM.st;rw[show({m with out:=m.out++T,S:=m.S}:N.cE).S.length=0 from hlen] at this;exact this)
 have HC:=bE (bK hcut (bK hlen zB));clear hcut nA nS nR hlen;obtain⟨rfl,rfl,rfl,rfl⟩:=aN HS;obtain⟨R0,v,zL⟩:∃R0 v,m.R=R0++[v]:=by
  rcases List.eq_nil_or_concat m.R with e|⟨R0,v,e⟩
  ·have hz0:=(aN HP).2.1;rw[e] at zB;simp at zB;omega
  ·exact⟨R0,v,by simpa using e⟩
 obtain⟨gR,cap,UK,ET,EE⟩:=lM.rt.form (by show 0<m.R.length;rw[zL];simp);have DJ:=eM UK;subst DJ;clear UK cap ET EE;have hv:dQ v:=lM.ri v (by show v∈m.R;rw[zL];simp);have cv:wz.cell? ⟨gR,p,aC⟩=aE (aH aF v):=by
  have:=lM.rt.cells (g:=gR) rfl p (aH aF v) (by
   show(m.R.map (aH aF))[p]?=_;have nV:p=R0.length:=by have h1:=(aN HP).1;rw[zL] at zB;simp at zB;omega
   rw[zL,nV];simp)
  rwa[fE,dC] at this
 have TE:q=p+1:=by have h1:=(aN HP).1;have h2:=(aN HP).2.1;omega
 have m0:aF.wrap ((q:Int)-1)=(p:Int):=wj;have m1:(0:Int)<=(p:Int):=by omega
 have m2:(p:Int)<(q:Int):=by omega
 have m3:(p:Int)<=(cR:Int):=by omega
 have HV:=bE (bK zL (bK TE zB));have oC:m.R.getLast?.getD 0=v:=by rw[zL];simp
 have Jl:m.R.dropLast=m.R.take p:=by rw[zL,List.dropLast_concat];rw[zL] at zB;simp at zB;rw[show p=R0.length by omega,List.take_left]
 have HL:=bE (bK oC Jl);have d1:(wz.alloc (aU #[aH aF v] 3)).drew.cell? ⟨rb,1,aC⟩=aE (aJ aC 0 0):=bJ c1 _;have d2:(wz.alloc (aU #[aH aF v] 3)).cell? ⟨rb,1,aC⟩=aE (aJ aC 0 0):=bJ c1 _;have nGR:aE gR≠(aJ aC 0 0).ownBlock:=λe=>lM.ap gR e.symm rfl
 clear zL TE oC Jl lM zB;go_wp2;refine uR 21 (λw' :aY=>w'.cell? ⟨rb,1,aC⟩=aE (aJ aC 0 0)/\w'.cell? ⟨rb,2,aC⟩=aE (aJ (aE ⟨gR,0,aC⟩) q cR)/\w'.cell? ⟨gR,p,aC⟩=aE (aH aF v)) (by kernel_rfl) ⟨c1,c2,cv⟩ (λhc hS=>?_);refine uA 0 (aK (aE ⟨rb,0,aC⟩)) hc hS λhc=>?_
 refine uA 1 (aK (aE ⟨rb,0,aC⟩)) hc hS λhc=>?_
 refine uA 2 (aK (aE ⟨rb,0,aC⟩)) hc hS λhc=>?_
 refine uA 3 (aK (aE ⟨rb,1,aC⟩)) hc hS λhc=>?_
 refine uA 4 (aJ aC 0 0) hc hS λhc=>?_
 refine uA 5 (aK (aE ⟨rb,0,aC⟩)) hc hS λhc=>?_
 refine uA 6 (aK (aE ⟨rb,0,aC⟩)) hc hS λhc=>?_
 refine uA 7 (aK (aE ⟨rb,2,aC⟩)) hc hS λhc=>?_
 refine uA 8 (aJ (aE ⟨gR,0,aC⟩) q cR) hc hS λhc=>?_
 refine uA 9 (aK (aE ⟨rb,0,aC⟩)) hc hS λhc=>?_
 refine uA 10 (aK (aE ⟨rb,0,aC⟩)) hc hS λhc=>?_
 refine uA 11 (aK (aE ⟨rb,2,aC⟩)) hc hS λhc=>?_
 refine uA 12 (aJ (aE ⟨gR,0,aC⟩) q cR) hc hS λhc=>?_
 refine uA 13 (aH aF q) hc hS λhc=>?_
 refine uA 14 (aH aF p) hc hS λhc=>?_
 refine uA 15 (aK (aE ⟨gR,p,aC⟩)) hc hS λhc=>?_
 refine uA 16 (aH aF v) hc hS λhc=>?_
 refine uO 17 (by kernel_rfl) rfl (λK' hK=>?_);go_simp;refine hK.out _ _ (by exact⟨bJ c1 _,bJ c2 _,bJ cv _⟩) ?_;clear hK K';have hc:=hc.nx 17 (by kernel_rfl);refine uO 18 (by kernel_rfl) rfl (λK' hK=>?_);refine dW _ (by rfl) _ _ 26 (by rfl) 3 iI (aH aF 0) 8 underlying26 hi hz pW jP rfl (aJ aC 0 0) 0 (m.S.map (aH aF)) (by rfl) (by exact(aN OS).alloc _) (aJ (aE ⟨wz.heap.size,0,aC⟩) 1 1) (([v]:List Int).map (aH aF)) (by rfl) (lY wz (([v]:List Int).map (aH aF)) 3 rfl rfl) (gX _) (by unfold maxLen;simp) (by simp) ?_;intro a3 iG w5 o3 g3 t3;have g3:(wz.alloc (aU #[aH aF v] 3)).grownBy w5 (aJ aC 0 0).ownBlock:=⟨g3.os,g3.tape,g3.output,g3.size,g3.block⟩
 have e1:(wz.alloc (aU #[aH aF v] 3)).cell? ⟨rb,1,aC⟩=aE (aJ aC 0 0):=bJ c1 _;have f4:(wz.alloc (aU #[aH aF v] 3)).frozen? ⟨rb,1,aC⟩=aV:=cY (bU wz _ aC) c1 f1 (by simp);have f5:=cY g3 e1 f4 yN;have e5:=g3.cell e1 yN;have G3:=bE (bK g3 (bK o3 t3));have e6:=g3.cell (show(wz.alloc (aU #[aH aF v] 3)).cell? ⟨rb,2,aC⟩=_ from bJ c2 _) yN;have e7:=g3.cell (show(wz.alloc (aU #[aH aF v] 3)).cell? ⟨gR,p,aC⟩=_ from bJ cv _) nGR;clear g3 o3 t3 e1 f4;refine hK.out _ _ (by exact⟨e5,e6,e7⟩) ?_;clear hK K';have hc:=hc.nx 18 (by kernel_rfl);refine uA 19 (aK (aE ⟨rb,0,aC⟩)) hc (by exact⟨e5,e6,e7⟩) λhc=>?_
 refine uA 20 (aK (aE ⟨rb,1,aC⟩)) hc (by exact⟨e5,e6,e7⟩) λhc=>?_
 refine lA (by kernel_rfl) rfl (λK' hK=>?_);go_simp;refine hK.out _ _ ?_;clear hK K';refine wpAny_done (by kernel_rfl) ?_ _;have kk:cH (w5.setCell ⟨rb,1,aC⟩ (aJ a3 (1) iG)) rb vA (aJ a3 (1) iG) (aJ (aE ⟨gR,0,aC⟩) q cR) bs {m with out:=m.out++T,S:=m.S++[v]}/\Mv (dV rb vA (aJ aC 0 0) (aJ (aE ⟨gR,0,aC⟩) q cR)) w (w5.setCell ⟨rb,1,aC⟩ (aJ a3 (1) iG))/\dG w (dV rb vA (aJ aC 0 0) (aJ (aE ⟨gR,0,aC⟩) q cR)) (dV rb vA (aJ a3 (1) iG) (aJ (aE ⟨gR,0,aC⟩) q cR)):=mB.zM (xs:=[v]) (aN HC).1 ((bF _ _).alloc (bD _) _) (aN G3).1 (aN HC).2.1 (aN G3).2.1 (aN G3).2.2 (by show 0+1<=16;omega) (λv hv=>by simp only[List.mem_cons,dR,or_false] at hv;subst hv;exact hv);generalize w5.setCell ⟨rb,1,aC⟩ (aJ a3 (1) iG)=wc at*;generalize En:aJ a3 (1) iG=Nw at kk;obtain⟨k1,k2,k3⟩:=kk;have c2:=cq 2 k1.mc rfl;have f2:=bG 2 k1.mc;have m4:(q:Int)<=(cR:Int):=by omega
 have K:=bE (bK k1 (bK k2 k3));clear k1 k2 k3 En;go_wp2;go_region_law (fail)
 all_goals
  go_wp2;go_ret;obtain⟨k1,k2,k3⟩:=aN K;obtain⟨z1,z2,z3⟩:=aN HV;have hh:=cH.SR (m:={m with out:=m.out++T,S:=m.S++[v]}) (k:=p) (cR:=cR) (aR:=aE ⟨gR,0,aC⟩) (by show cH wc rb vA Nw (aJ (aE ⟨gR,0,aC⟩) m.R.length cR) bs _;rw[z3];exact k1) (bF _ _) (by show p<=m.R.length;omega);have e1:({m with out:=m.out++T,S:=m.S++[v]}:N.cE).R.length=q:=z3;rw[e1] at hh;refine⟨rfl,?_⟩;have hd:N.kR {m with out:=m.out++T} [114,62] [] m.S={m with out:=m.out++T,S:=m.S++[v],R:=m.R.take p}:=by
   show({m with out:=m.out++T,S:=m.S++[m.R.getLast?.getD 0],R:=m.R.dropLast}:N.cE)=_;rw[(aN HL).1,(aN HL).2]
  show dP _ _ _ _ _ (N.kR {m with out:=m.out++T} [114,62] [] m.S) _ _;rw[hd];exact dP.drew (dP.trans k2 k3 ⟨_,_,_,hh.1,hh.2.1,hh.2.2⟩)
end
end Go.Proofs.YtgnlokmeohffaaaGreatDoor
