/- Parts of the proof: see the last text. -/
import Derived.Lib.Builder
import Derived.Laws.Externs
import Derived.OwnWalk
import Derived.ArgAppend
import Derived.Laws.MakeOwn
import Derived.Test.YtgnlokmeohffaaaGreatDoorG12
namespace Go.Proofs.YtgnlokmeohffaaaGreatDoor
set_option maxRecDepth 100000
set_option maxHeartbeats 3200000
open Option renaming none → aC, some → aE
open Go renaming IntKind.i64 → aF, Value → aG, Value.int → aH, Value.string → aI, Value.slice → aJ, Value.pointer → aK, Ending.returned → aM, Obj.cells → aU, World → aY, Value.tuple → bC, Value.bool → bB, Calls → bH, Value.agg → bM, Value.iface → bO
open Go.Proofs.Tryz renaming prog → aQ
open Bool renaming false → aV, true → aX
open Go.RowKit renaming Below → bA, Below.refl → bF
open Nat renaming le_refl → bD, zero_le → bZ, le_trans → cF, le_of_lt → cN, zero_add → dC, lt_of_lt_of_le → eC
open List renaming getElem?_eq_some_iff → bI, getElem?_eq_getElem → bL, length_append → bN, getElem?_append_right → bP, getElem?_append_left → bT, mem_of_getElem? → cG, getElem?_map → cI, length_cons → cX, take_succ_eq_append_getElem → dF, length_map → dO, length_take → dH, length_eq_zero_iff → dU, getElem?_eq_none → dZ, take_of_length_le → eB
open And renaming intro → bK
open Tryz
open Go.RowKit
theorem LJ (m:N.cE)(ws:List N.eE)(f p:Nat)(l:N.eE)(hl:ws[p]?=aE l):N.runs (f+1) m ws p=
 if(qR m ws p l).2.1≠0 then({(qR m ws p l).1 with S:=[],R:=[]},(qR m ws p l).2.1,(qR m ws p l).2.2.1) else N.runs f (qR m ws p l).1 ws (qR m ws p l).2.2.2:=by
 rw[N.runs,hl];unfold qR;by_cases h:1000<=m.steps
 ·have h2:1000<m.steps+1:=by omega
  simp only[eJ h,eJ h2];rfl
 ·have h2:¬1000<m.steps+1:=by omega
  simp only[dL h,dL h2]
variable {w:aY}{mb rb:Nat}{vO vB vW vS vR vT:aG}{s:L.gJ}
theorem EX {ab:Nat}(h:eV w mb rb vO vB vW vS vR vT s){c:Array aG}(ha:w.heap[ab]?=aE (aU c 36)):∀k,kZ mb rb vS vR vT k\/vW.ownBlock=aE k->k≠ab:=by
 rintro k ((rfl|rfl|e|e|e)|e)
 ·exact fN h.m ha (by decide)
 ·exact fN h.r ha (by decide)
 ·exact λx=>bW h.st ha (by decide) (x▸e)
 ·exact λx=>bW h.Fv ha (by decide) (x▸e)
 ·exact λx=>bW h.ot ha (by decide) (x▸e)
 ·exact λx=>bW h.wd ha (by decide) (x▸e)
variable {k:Nat}
theorem FU {ab:Nat}{c:Array aG}(ha:w.heap[ab]?=aE (aU c 36))(hk:oV w k):k≠ab:=by
 rintro rfl;obtain⟨cs,t,fr,hc,ht⟩:=hk;rw[ha] at hc;injection hc with hc;injection hc with _ hc _;subst hc
 revert ht
 decide
def gv (mb rb:Nat) (vO vW vS vR vT:aG) (wv:List Own) (m:N.cE) (w w' :aY):Prop:=
 ∃oJ Ci v1 v2 v3 Kp s',eV w' mb rb oJ Ci vW v1 v2 v3 s' /\jE w' m.all Kp oJ Ci /\Mv (iO mb rb vO vS vR vT wv) w w' /\dG w (iO mb rb vO vS vR vT wv) (iO mb rb oJ v1 v2 v3 Kp)/\s'.S=m.S/\s'.R=m.R/\s'.out=m.out
def ir (w0:aY) (mb rb:Nat) (vO vW vS vR vT:aG) (wv:List Own) (s:L.gJ) (n0:Nat) (res:N.cE×Int×Nat) (wr:aY):Prop:=
 ∃f oJ Ci v1 v2 v3 Kp s' Ce,lL wr mb rb oJ Ci vW v1 v2 v3 Kp s' Ce /\Mv (iO mb rb vO vS vR vT wv) w0 wr/\dG w0 (iO mb rb vO vS vR vT wv) (iO mb rb oJ v1 v2 v3 Kp)/\s'.words=s.words/\s'.depth=0/\s'.pos<=s.words.length/\Ce.length<=n0+s'.pos/\s.words.length-s'.pos<f/\N.runs f (fR s' Ce) s.words s'.pos=res
theorem XG (hS:Yf)(hT:Xn)(w:aY)(mb rb:Nat)(vO vB vW vS vR vT:aG)(wv:List Own)(s:L.gJ)(all:List N.iM)(h:lL w mb rb vO vB vW vS vR vT wv s all)(hw:xT s)(hold:all.length+1000<=1000000000000)(hd:s.depth=0)(hp:s.pos<=s.words.length):
 bH aQ 27 #[aK (aE ⟨rb,0,aC⟩)] w λr w' =>∃v,r=aM v/\v=bM #[aI ⟨(N.runs (s.words.length+1) (fR s all) s.words s.pos).1.out.toArray⟩,aH aF (N.runs (s.words.length+1) (fR s all) s.words s.pos).2.1,aH aF ((N.runs (s.words.length+1) (fR s all) s.words s.pos).2.2:Int)]/\
  gv mb rb vO vW vS vR vT wv (N.runs (s.words.length+1) (fR s all) s.words s.pos).1 w w' :=by
 generalize dJ:N.runs (s.words.length+1) (fR s all) s.words s.pos=res;obtain⟨aW,iD,rfl,_,_⟩:=cU h.run.wd;have hwl:=h.run.wl;have kO:bA w.heap.size w (w.alloc (aU #[aI ⟨#[]⟩,aH aF 0,aH aF 0] 36)):=(bF _ _).alloc (bD _) _;have eY:(w.alloc (aU #[aI ⟨#[]⟩,aH aF 0,aH aF 0] 36)).heap[w.heap.size]?=aE (aU #[aI ⟨#[]⟩,aH aF 0,aH aF 0] 36):=heap_alloc_new w _;refine QC w rb s.words.length iD aW (ir (w.alloc (aU #[aI ⟨#[]⟩,aH aF 0,aH aF 0] 36)) mb rb vO _ vS vR vT wv s (all.length) res) (λwr=>s.words.length+1-rP wr rb) _ hwl
  ⟨s.words.length+1,vO,vB,vS,vR,vT,wv,s,all,h.below kO,Mv.refl _ _,dG.refl _ _,rfl,hd,hp,Nat.le_add_right _ _,by omega,dJ⟩ (bE λwr hI=>?_)
 generalize(w.alloc (aU #[aI ⟨#[]⟩,aH aF 0,aH aF 0] 36))=w0 at*;obtain⟨f,oJ,Ci,v1,v2,v3,Kp,s',Ce,hR,pL,Gw,TK,MY,hps,VJ,hfu,fG⟩:=hI;have Ma:wr.heap[w.heap.size]?=aE (aU #[aI ⟨#[]⟩,aH aF 0,aH aF 0] 36):=(pL.block _ (cC eY) λx=>by have:=Qa h x;omega).trans eY;obtain⟨aT,cT,rfl,_,_⟩:=cU hR.run.ot;have GK:lW w0:=eU h.Ca (kO.block _ (lD h.Ca));have MZ:Mv (iO mb rb vO vS vR vT wv) w w0:=Mv.dS kO _;have c2:=cq 2 hR.run.r rfl;refine⟨s'.pos,aT,s'.out.length,cT,⟨s'.out.toArray⟩,by omega,?_,c2,aZ hR.run.r rfl,Ma,?_⟩
 ·exact aZ hR.run.r rfl
 obtain⟨f',rfl⟩:∃f',f=f' +1:=⟨f-1,by omega⟩
 by_cases eQ:s'.pos<s.words.length
 case neg=>
  refine .inl ⟨eQ,eV.told (hR.run.below (bF _ _).drew),λW hW=>?_⟩;have Sx:s.words[s'.pos]?=aC:=dZ (by omega);rw[N.runs,Sx] at fG;simp only at fG;rw[<-fG];refine⟨rfl,oJ,Ci,v1,v2,_,Kp,s',hR.run.kept λk hk=>hW.block k (hR.run.lt k hk) (EX hR.run Ma k hk),hR.own.kept λk hk=>hW.block k (kH hk) (FU Ma hk),?_,(dG.refl _ _).trans kO.size Gw,rfl,rfl,rfl⟩;have h1:=MZ.trans (dG.refl _ _) pL;refine⟨hW.os.trans h1.os,hW.tape.trans h1.tape,hW.output.trans h1.output,cF h1.size hW.size,λk hk hn=>(hW.block k (eC hk h1.size) (show k≠w.heap.size by omega)).trans (h1.block k hk hn)⟩
 case pos=>
  refine .inr ⟨eQ,?_⟩;obtain⟨l,hl⟩:∃l,s.words[s'.pos]?=aE l:=⟨_,bL eQ⟩
  rw[LJ _ _ _ _ l hl] at fG;have lC:=OH hS hT wr.drew mb rb oJ Ci _ v1 v2 _ Kp s' Ce l (hR.below (bF _ _).drew) (by rw[TK];exact hl) (λt ht=>hw t (by rw[<-TK];exact ht)) (by omega) MY;rw[TK] at lC;refine lC.mono ?_;rintro r w' ⟨rfl,Ns,vB2,x1,x2,x3,wv2,s2,g1,g2,g3,g4,g5,g6,g7,g8,g9⟩;have hmd:Mv (iO mb rb vO vS vR vT wv) w0 wr.drew:=pL.drew;have sZ:=hmd.trans Gw g3;have Cf:=Gw.trans hmd.size g4;have hab2:w'.heap[w.heap.size]?=aE (aU #[aI ⟨#[]⟩,aH aF 0,aH aF 0] 36):=(sZ.block _ (cC eY) λx=>by have:=Qa h x;omega).trans eY;refine⟨_,rfl,?_⟩;generalize hq:qR (fR s' Ce) s.words s'.pos l=q at*;by_cases hz:q.2.1=0
  ·refine .inr ⟨hz,?_⟩;obtain⟨e1,e2,e3⟩:=g9 hz;have xF:ac (fR s' Ce) s.words s'.pos q:=by
    rw[<-hq];unfold qR;by_cases hs:1000<=(fR s' Ce).steps
    ·exfalso;rw[<-hq] at hz;unfold qR at hz;rw[eJ hs] at hz;cases hz
    ·rw[dL hs];have:=T8 {fR s' Ce with steps:=(fR s' Ce).steps+1} s.words s'.pos l eQ (by simp only;omega);exact⟨this.lo,this.hi,this.st,this.ln⟩
   have ba:=xF.lo hz;have hhi:=xF.hi hz;have hst2:=xF.st hz;have hln2:=xF.ln;have hsp:s2.pos+1=q.2.2.2:=by
    rw[g6];unfold Rr;rw[eJ hz];omega
   rw[dL (by simpa using hz)] at fG;have TQ:Mv (kZ mb rb x1 x2 x3) w' (w'.setCell ⟨rb,2,aC⟩ (aH aF ((s2.pos:Int)+1))):=Mv.setCell (T:=kZ mb rb x1 x2 x3) (Mv.refl _ _) (.inl (.inr (.inl rfl))) _;have cf:=g1.setPos (s2.pos+1) (aH aF ((s2.pos:Int)+1)) (by simp);have hmN:Mv (iO mb rb vO vS vR vT wv) w0 (w'.setCell ⟨rb,2,aC⟩ (aH aF ((s2.pos:Int)+1))):=sZ.setCell (.inl (.inl (.inr (.inl rfl)))) _;refine⟨s2.pos,by omega,aZ g1.r rfl,bG 2 g1.r,⟨f',Ns,vB2,x1,x2,x3,wv2,_,q.1.all,⟨cf,g2.mv g1 TQ,?_,?_,?_,?_⟩,hmN,Cf,g5.trans TK,g7.trans MY,?_,?_,?_,?_⟩,?_⟩
   ·exact QP GK h.o4 hmN
   ·exact KW GK h.o4 Cf
   ·show s2.steps<=1000;omega
   ·show s2.depth<=12;rw[g7,MY];omega
   ·show s2.pos+1<=_;omega
   ·show q.1.all.length<=all.length+(s2.pos+1);have:(fR s' Ce).all.length=Ce.length:=rfl;omega
   ·show s.words.length-(s2.pos+1)<f';omega
   ·rw[<-fG];show N.runs f' ⟨q.1.all,s2.S,s2.R,s2.out,s2.steps⟩ s.words (s2.pos+1)=_;rw[e1,e2,e3,g8,hsp]
   ·show s.words.length+1-rP _ rb<s.words.length+1-rP wr rb;have p1:rP wr rb=s'.pos:=by unfold rP;rw[c2];simp
    have p2:rP (w'.setCell ⟨rb,2,aC⟩ (aH aF ((s2.pos:Int)+1))) rb=s2.pos+1:=by
     have:(w'.setCell ⟨rb,2,aC⟩ (aH aF ((s2.pos:Int)+1))).cell? ⟨rb,2,aC⟩=aE (aH aF ((s2.pos:Int)+1)):=aZ (bV g1.r 2 _) rfl;unfold rP;rw[this];simp only;omega
    rw[p1,p2];omega
  ·refine .inl ⟨hz,?_⟩;rw[eJ hz] at fG;rw[<-fG];refine(OI w' mb rb Ns vB2 _ x1 x2 x3 s2 q.2.1 g1).mono ?_;rintro r w3 ⟨rfl,El,Bz⟩;have hm3F:Mv (kZ mb rb x1 x2 x3) w' w3:=Bz.weaken λk hk=>.inl hk
   have hab3:w3.heap[w.heap.size]?=aE (aU #[aI ⟨#[]⟩,aH aF 0,aH aF 0] 36):=(Bz.block _ (cC hab2) λx=>by have:=cC h.run.m;omega).trans hab2;have ho3:=g2.mv g1 hm3F;have hsp:s2.pos=q.2.2.1:=by
    rw[g6];unfold Rr;rw[dL hz]
   refine⟨_,_,rfl,hab3,λW hW=>⟨by rw[g8,hsp],Ns,vB2,_,_,x3,wv2,_,El.kept λk hk=>hW.block k (El.lt k hk) (EX El hab3 k hk),ho3.kept λk hk=>hW.block k (kH hk) (FU hab3 hk),?_,?_,rfl,rfl,g8⟩⟩
   ·have h1:Mv (iO mb rb vO vS vR vT wv) w w3:=(MZ.trans (dG.refl _ _) sZ).trans (dG.refl _ _) (Bz.weaken λk hk=>.inl (.inl hk));exact⟨hW.os.trans h1.os,hW.tape.trans h1.tape,hW.output.trans h1.output,cF h1.size hW.size,λk hk hn=>(hW.block k (eC hk h1.size) (show k≠w.heap.size by omega)).trans (h1.block k hk hn)⟩
   ·intro k hk;have tC:iO mb rb Ns x1 x2 x3 wv2 k:=by
     rcases hk with (x|x|x|x|x)|x
     ·exact .inl (.inl x)
     ·exact .inl (.inr (.inl x))
     ·simp[aG.ownBlock] at x
     ·simp[aG.ownBlock] at x
     ·exact .inl (.inr (.inr (.inr (.inr x))))
     ·exact .inr x
    exact((dG.refl _ _).trans kO.size Cf) k tC
section
attribute [local go_sem ↓] Go.wp_at_zero Go.wp_at_succ
theorem BA (w:aY)(rb mb gW nW iD pos:Nat)(Uz:ByteArray)(V:aG)(code:Int)(P:aY->aY->Prop)(Q:aY->Prop)(hp:pos<nW)(H:Hid (bH aQ 51 #[aK (aE ⟨rb,0,aC⟩)] w λr w' =>r=aM (aH aF 0)/\
  (w'.cell? ⟨rb,0,aC⟩=aE (aK (aE ⟨mb,0,aC⟩))/\w'.cell? ⟨rb,1,aC⟩=aE (aJ (aE ⟨gW,0,aC⟩) nW iD)/\w'.cell? ⟨rb,2,aC⟩=aE (aH aF pos)/\w'.cell? ⟨gW,pos,aC⟩=aE (aI Uz))/\Q w'))(HM:Hid (∀w1 W,Q w1->bA w1.heap.size w1 W->bH aQ 53 #[aK (aE ⟨mb,0,aC⟩),aI Uz] W λr w' =>r=aM V/\bA W.heap.size W w'))(HD:Hid (∀w1 W,Q w1->bA w1.heap.size w1 W->bH aQ 52 #[aK (aE ⟨rb,0,aC⟩),V] W λr w' =>r=aM (aH aF code)/\P w1 w')):
 bH aQ 45 #[aK (aE ⟨rb,0,aC⟩)] w λr w' =>r=aM (aH aF code)/\∃w1,Q w1/\P w1 w' :=by
 have i1:(0:Int)<=(pos:Int):=by omega
 have i2:(pos:Int)<(nW:Int):=by omega
 go_enter func45,ntmps45;go_wp2_with fail
 refine(aN H).mono ?_;rintro e w1 ⟨rfl,⟨c0,c1,c2,c3⟩,hQ⟩;have HQ:=bE hQ;have hM:=bE (aN HM w1 w1.drew hQ (bF _ _).drew);clear hQ;go_wp2;refine Bq (m:=16) (S:=λw' :aY=>w'.cell? ⟨rb,0,aC⟩=aE (aK (aE ⟨mb,0,aC⟩))/\w'.cell? ⟨rb,1,aC⟩=aE (aJ (aE ⟨gW,0,aC⟩) nW iD)/\w'.cell? ⟨rb,2,aC⟩=aE (aH aF pos)/\w'.cell? ⟨gW,pos,aC⟩=aE (aI Uz)) (by kernel_rfl) (λhc=>?_);have hS:(λw' :aY=>w'.cell? ⟨rb,0,aC⟩=aE (aK (aE ⟨mb,0,aC⟩))/\w'.cell? ⟨rb,1,aC⟩=aE (aJ (aE ⟨gW,0,aC⟩) nW iD)/\w'.cell? ⟨rb,2,aC⟩=aE (aH aF pos)/\w'.cell? ⟨gW,pos,aC⟩=aE (aI Uz)) w1.drew:=⟨c0,c1,c2,c3⟩
 refine uA 0 (aK (aE ⟨rb,0,aC⟩)) hc hS λhc=>?_
 refine uA 1 (aK (aE ⟨rb,0,aC⟩)) hc hS λhc=>?_
 refine uA 2 (aK (aE ⟨rb,0,aC⟩)) hc hS λhc=>?_
 refine uA 3 (aK (aE ⟨rb,0,aC⟩)) hc hS λhc=>?_
 refine uA 4 (aK (aE ⟨mb,0,aC⟩)) hc hS λhc=>?_
 refine uA 5 (aK (aE ⟨rb,0,aC⟩)) hc hS λhc=>?_
 refine uA 6 (aK (aE ⟨rb,0,aC⟩)) hc hS λhc=>?_
 refine uA 7 (aK (aE ⟨rb,1,aC⟩)) hc hS λhc=>?_
 refine uA 8 (aJ (aE ⟨gW,0,aC⟩) nW iD) hc hS λhc=>?_
 refine uA 9 (aK (aE ⟨rb,0,aC⟩)) hc hS λhc=>?_
 refine uA 10 (aK (aE ⟨rb,0,aC⟩)) hc hS λhc=>?_
 refine uA 11 (aK (aE ⟨rb,2,aC⟩)) hc hS λhc=>?_
 refine uA 12 (aH aF pos) hc hS λhc=>?_
 refine uA 13 (aK (aE ⟨gW,pos,aC⟩)) hc hS λhc=>?_
 refine uA 14 (aI Uz) hc hS λhc=>?_
 refine Pg (i:=15) (o:={dst:=aE 24,op:=Op.call {callee:=Callee.value (Operand.func 53),args:=#[Operand.tmp 13,Operand.tmp 23],argTypes:=#[27,9]},type:=107,pos:= "run.go:37",after:=#[{on:=4,ground:=Ground.data},{on:=14,ground:=Ground.data}],guard:=aC}) (by kernel_rfl) (by rfl) rfl (λK' hK=>?_)
 go_simp;refine(aN hM).mono ?_;rintro e w2 ⟨rfl,hb⟩;have eD:bA w1.heap.size w1 w2:=⟨hb.os,hb.tape,hb.output,hb.size,hb.block⟩
 have d0:w2.cell? ⟨rb,0,aC⟩=aE (aK (aE ⟨mb,0,aC⟩)):=((eI eD).1 rb 0 (eG c0)).trans c0;have d1:w2.cell? ⟨rb,1,aC⟩=aE (aJ (aE ⟨gW,0,aC⟩) nW iD):=((eI eD).1 rb 1 (eG c1)).trans c1;have d2:w2.cell? ⟨rb,2,aC⟩=aE (aH aF pos):=((eI eD).1 rb 2 (eG c2)).trans c2;have d3:w2.cell? ⟨gW,pos,aC⟩=aE (aI Uz):=((eI eD).1 gW pos (eG c3)).trans c3;have hD:=bE (aN HD w1 w2 (aN HQ) eD);refine hK.out _ _ ⟨d0,d1,d2,d3⟩ ?_;clear hK K';try simp only[Act.put,List.setIfInBounds_toArray,List.set_cons_zero,List.set_cons_succ]
 refine lA (o:={dst:=aE 25,op:=Op.call {callee:=Callee.value (Operand.func 52),args:=#[Operand.tmp 9,Operand.tmp 24],argTypes:=#[87,107]},type:=33,pos:= "run.go:37",after:=#[{on:=0,ground:=Ground.data},{on:=15,ground:=Ground.data},{on:=15,ground:=Ground.chain}],guard:=aC}) (by kernel_rfl) rfl (λK' hK=>?_)
 go_simp;refine(aN hD).mono ?_;rintro e w3 ⟨rfl,hP⟩;have HP:=bE hP;clear hP;refine hK.out _ _ ?_;clear hK K';try simp only[Act.put,List.setIfInBounds_toArray,List.set_cons_zero,List.set_cons_succ]
 refine IX (i:=17) (o:={dst:=aE 2,op:=Op.assign (Operand.tmp 25),type:=33,pos:= "run.go:37",after:=#[{on:=16,ground:=Ground.data},{on:=16,ground:=Ground.chain},{on:=0,ground:=Ground.phase},{on:=1,ground:=Ground.phase},{on:=2,ground:=Ground.phase},{on:=3,ground:=Ground.phase},{on:=4,ground:=Ground.phase},{on:=5,ground:=Ground.phase},{on:=6,ground:=Ground.phase},{on:=7,ground:=Ground.phase},{on:=8,ground:=Ground.phase},{on:=9,ground:=Ground.phase},{on:=10,ground:=Ground.phase},{on:=11,ground:=Ground.phase},{on:=12,ground:=Ground.phase},{on:=13,ground:=Ground.phase},{on:=14,ground:=Ground.phase},{on:=15,ground:=Ground.phase},{on:=16,ground:=Ground.phase}],guard:=aC}) (by kernel_rfl) rfl (λK' hK=>?_)
 go_simp;refine hK.out _ _ ?_;clear hK K';try simp only[Act.put,List.setIfInBounds_toArray,List.set_cons_zero,List.set_cons_succ]
 refine wpAny_done (by kernel_rfl) ?_ _;go_wp2;go_ret;exact⟨rfl,w1,aN HQ,aN HP⟩
theorem X1 (w:aY)(rb:Nat)(code:Int)(hc:(code != 0)=aX)(P:aY->Prop)(H:Hid (bH aQ 51 #[aK (aE ⟨rb,0,aC⟩)] w λr w' =>r=aM (aH aF code)/\P w')):
 bH aQ 45 #[aK (aE ⟨rb,0,aC⟩)] w λr w' =>r=aM (aH aF code)/\P w' :=by
 go_enter func45,ntmps45;go_wp2_with fail
 refine(aN H).mono ?_;rintro e w' ⟨rfl,hP⟩;have HP:=bE hP;clear hP;go_wp2;go_ret;exact⟨rfl,aN HP⟩
theorem WW:Xn:=λw rb code hc P H=>X1 w rb code hc P H
theorem WX:Yf:=λw rb mb gW nW iD pos Uz V code P Q hp H HM HD=>BA w rb mb gW nW iD pos Uz V code P Q hp H HM HD
structure yC (w:aY) (mb:Nat) (vO vB vS vR:aG) (wv:List Own) (m:N.cE):Prop where
 mc:w.heap[mb]?=aE (aU #[vS,vR,vO,vB] 60)
 st:w.ownsRow 0 3 1 vS m.S.length (m.S.map (aH aF))
 rt:w.ownsRow 0 3 1 vR m.R.length (m.R.map (aH aF))
 ap:∀k,vS.ownBlock=aE k->vR.ownBlock=aE k->False
 sl:m.S.length<=16
 rl:m.R.length<=16
 si:∀x∈m.S,dQ x
 ri:∀x∈m.R,dQ x
 own:jE w m.all wv vO vB
def yF (mb:Nat) (vO vS vR:aG) (wv:List Own):Nat->Prop:=λk=>k=mb\/vS.ownBlock=aE k\/vR.ownBlock=aE k\/Lq wv k\/vO.ownBlock=aE k
variable {w' :aY}{wv:List Own}{m:N.cE}
theorem yC.kept (h:yC w mb vO vB vS vR wv m)(hk:∀k,yF mb vO vS vR wv k\/oV w k->w'.heap[k]?=w.heap[k]?):yC w' mb vO vB vS vR wv m where
 mc:=(hk mb (.inl (.inl rfl))).trans h.mc
 st:=cK h.st λk e=>hk k (.inl (.inr (.inl e)))
 rt:=cK h.rt λk e=>hk k (.inl (.inr (.inr (.inl e))))
 ap:=h.ap
 sl:=h.sl
 rl:=h.rl
 si:=h.si
 ri:=h.ri
 own:=h.own.kept λk e=>hk k (.inr e)
theorem yC.lt (h:yC w mb vO vB vS vR wv m):∀k,yF mb vO vS vR wv k\/oV w k->k<w.heap.size:=by
 rintro k ((rfl|e|e|e|e)|e)
 ·exact cC h.mc
 ·exact(h.st.lt k e).2
 ·exact(h.rt.lt k e).2
 ·exact Ir h.own e
 ·exact(h.own.row.lt k e).2
 ·exact kH e
theorem yC.below (h:yC w mb vO vB vS vR wv m)(hb:bA w.heap.size w w'):yC w' mb vO vB vS vR wv m:=h.kept λk hk=>hb.block k (h.lt k hk)
theorem yC.stay (h:yC w mb vO vB vS vR wv m)(out:N.eE)(st:Nat):yC w mb vO vB vS vR wv {m with out:=out,steps:=st}:=⟨h.mc,h.st,h.rt,h.ap,h.sl,h.rl,h.si,h.ri,h.own⟩
structure Lj (w:aY) (mb:Nat) (vO vB vS vR:aG) (wv:List Own) (m:N.cE):Prop where
 n:yC w mb vO vB vS vR wv m
 Ca:lW w
 o4:¬yF mb vO vS vR wv 3
theorem Lj.below (h:Lj w mb vO vB vS vR wv m)(hb:bA w.heap.size w w'):Lj w' mb vO vB vS vR wv m:=⟨h.n.below hb,eU h.Ca (hb.block _ (lD h.Ca)),h.o4⟩
def Rs (mb:Nat) (vO vS vR:aG) (wv:List Own) (m' :N.cE) (w w' :aY):Prop:=
 ∃oJ Ci v1 v2 Kp,Lj w' mb oJ Ci v1 v2 Kp m' /\Mv (yF mb vO vS vR wv) w w' /\dG w (yF mb vO vS vR wv) (yF mb oJ v1 v2 Kp)
theorem Rs.stay (h:Lj w mb vO vB vS vR wv m)(hb:bA w.heap.size w w'):Rs mb vO vS vR wv m w w' :=⟨vO,vB,vS,vR,wv,h.below hb,Mv.dS hb _,dG.refl _ _⟩
def De (r:N.cE×N.eE×Int×Nat):aG:=bM #[aI ⟨r.2.1.toArray⟩,aH aF r.2.2.1,aH aF (r.2.2.2:Int)]
theorem JA (l:List UInt8):∀cur,(L.iZ l cur).length<=l.length+1:=by
 induction l with
 |nil=>intro cur;unfold L.iZ;split <;> simp
 |cons c t ih=>
  intro cur;unfold L.iZ
  split
  ·split
   ·have:=ih [];simp;omega
   ·have:=ih [];simp;omega
  ·have:=ih (cur++[c]);simp;omega
theorem Fz (l:List UInt8):∀cur,cur≠[]\/(L.iZ l cur).length<=l.length:=by
 induction l with
 |nil=>intro cur;cases cur <;> simp[L.iZ]
 |cons c t ih=>
  intro cur;cases cur with
  |cons a b=>exact .inl (by simp)
  |nil=>
   right
   unfold L.iZ
   split
   ·rcases ih [] with h|h
    ·exact(h rfl).elim
    ·simp;omega
   ·have:=JA t ([]++[c]);simp at this ⊢;omega
theorem Lf (l:List UInt8):∀cur,∀t∈L.iZ l cur,t≠[]/\t.length<=cur.length+l.length:=by
 induction l with
 |nil=>
  intro cur t ht;unfold L.iZ at ht
  split at ht
  ·simp at ht
  ·rename_i jD
   have:t=cur:=by simpa using ht
   subst this;exact⟨by simpa using jD,by simp⟩
 |cons c u ih=>
  intro cur t ht;unfold L.iZ at ht
  split at ht
  ·split at ht
   ·obtain⟨h1,h2⟩:=ih [] t ht;exact⟨h1,by simp at h2 ⊢;omega⟩
   ·rename_i jD
    rcases List.mem_cons.1 ht with rfl|ht
    ·exact⟨by simpa using jD,by simp⟩
    ·obtain⟨h1,h2⟩:=ih [] t ht;exact⟨h1,by simp at h2 ⊢;omega⟩
  ·obtain⟨h1,h2⟩:=ih _ t ht;exact⟨h1,by simp at h2 ⊢;omega⟩
theorem WO (w:aY)(mb:Nat)(line:ByteArray)(hlen:¬line.size<=500):
 bH aQ 15 #[aK (aE ⟨mb,0,aC⟩),aI line] w λr w' =>r=aM (bM #[aI ⟨#[]⟩,aH aF 1,aH aF 0])/\bA w.heap.size w w' :=by
 have h1:(500:Int)<(line.size:Int):=by omega
 go_enter func15,ntmps15;go_wp2;have Fx:=heap_alloc_new w (aU #[aI ⟨#[]⟩,aH aF 1,aH aF 0] 36);have b0:=aZ (j:=0) Fx rfl;have b1:=aZ (j:=1) Fx rfl;have b2:=aZ (j:=2) Fx rfl;refine bodyPost_ret (v:=bM #[aI ⟨#[]⟩,aH aF 1,aH aF 0]) (by simp[results,results15,go_sem,b0,b1,b2]) rfl ⟨rfl,?_⟩;exact(bF _ _).alloc (bD _) _
def start (m:N.cE) (ws:List (List UInt8)):L.gJ:=⟨m.S,m.R,ws,0,0,0,[]⟩
theorem PE (w:aY)(mb:Nat)(vO vB vS vR:aG)(wv:List Own)(m:N.cE)(line:ByteArray)(hm:Lj w mb vO vB vS vR wv m)(hold:m.all.length+1000<=1000000000000)(hlen:line.size<=500):
 bH aQ 15 #[aK (aE ⟨mb,0,aC⟩),aI line] w λr w' =>r=aM (De (N.jL m line.data.toList))/\Rs mb vO vS vR wv (N.jL m line.data.toList).1 w w' :=by
 have hsz:=Lib.size_eq line;have hN:N.jL m line.data.toList=((N.runs ((L.split line.data.toList).length+1) (fR (start m (L.split line.data.toList)) m.all) (L.split line.data.toList) 0).1,(N.runs ((L.split line.data.toList).length+1) (fR (start m (L.split line.data.toList)) m.all) (L.split line.data.toList) 0).1.out,(N.runs ((L.split line.data.toList).length+1) (fR (start m (L.split line.data.toList)) m.all) (L.split line.data.toList) 0).2):=by
  unfold N.jL;rw[dL (by omega)];rfl
 rw[hN];have hwl:(L.split line.data.toList).length<=500:=by
  rcases Fz line.data.toList [] with h|h
  ·exact(h rfl).elim
  ·show(L.iZ line.data.toList []).length<=500;omega
 have UB:∀t∈L.split line.data.toList,t≠[]/\t.length<=500:=λt ht=>by
  obtain⟨h1,h2⟩:=Lf line.data.toList [] t ht;exact⟨h1,by simp at h2;omega⟩
 have HN:=bE hN;have Hm:=bE hm;have Hold:=bE hold;have Hwl:=bE (bK hwl UB);generalize TK:L.split line.data.toList=ws at*;generalize dJ:N.runs (ws.length+1) (fR (start m ws) m.all) ws 0=res at*;clear hm hold hwl UB hN hsz;go_enter func15,ntmps15;go_wp2_with fail
 have kO:bA w.heap.size w (w.alloc (aU #[aI ⟨#[]⟩,aH aF 0,aH aF 0] 36)):=(bF _ _).alloc (bD _) _;have xE:(w.alloc (aU #[aI ⟨#[]⟩,aH aF 0,aH aF 0] 36)).heap[w.heap.size]?=aE (aU #[aI ⟨#[]⟩,aH aF 0,aH aF 0] 36):=heap_alloc_new w _;generalize(w.alloc (aU #[aI ⟨#[]⟩,aH aF 0,aH aF 0] 36))=w0 at*;refine(JU line _ (by omega)).mono ?_;rintro e w1 ⟨vW,rfl,fK,fF⟩;rw[TK] at fK;obtain⟨aW,iD,NJ,_,_⟩:=cU fK;subst NJ;have Bg:=(aN Hm).n;have Ve:w.heap.size<w0.heap.size:=cC xE;have Nq:=fF.size;have MV:bA w.heap.size w w1:=kO.trans (fF.mono (cN Ve));have tB:bA w.heap.size w (w1.alloc (aU #[aK (aE ⟨mb,0,aC⟩),aJ aW ws.length iD,aH aF 0,aH aF 0,aH aF 0,aJ aC 0 0] 67)):=MV.alloc (by omega) _;have hltm:=cC Bg.mc;have hwd:w1.ownsRow 0 9 1 (aJ aW ws.length iD) ws.length (ws.map mQ):=by
  refine⟨fK.1,?_⟩;rcases fK.2 with h|⟨g,cap,cur,h1,_,h3⟩
  ·exact .inl h
  ·exact .inr ⟨g,cap,cur,h1,bZ _,h3⟩
 have Jk:=(aN Hm).below tB;have fG:eV (w1.alloc (aU #[aK (aE ⟨mb,0,aC⟩),aJ aW ws.length iD,aH aF 0,aH aF 0,aH aF 0,aJ aC 0 0] 67)) mb w1.heap.size vO vB (aJ aW ws.length iD) vS vR (aJ aC 0 0) (start m ws):=by
  refine⟨Jk.n.mc,heap_alloc_new w1 _,Jk.n.st,Jk.n.rt,aY.ownsRow_nil _ _ _ _,?_,Bg.ap,Bg.sl,Bg.rl,by simp[start],(aN Hwl).1,Bg.si,Bg.ri⟩;exact cK hwd λk e=>bA.heap_alloc _ _ _ (hwd.lt k e).2
 have hFW:¬iO mb w1.heap.size vO vS vR (aJ aC 0 0) wv 3:=by
  have Vm:=lD (aN Hm).Ca;have zF:=(aN Hm).o4;rintro((h|h|h|h|h)|h|h)
  ·exact zF (.inl h)
  ·omega
  ·exact zF (.inr (.inl h))
  ·exact zF (.inr (.inr (.inl h)))
  ·simp[aG.ownBlock] at h
  ·exact zF (.inr (.inr (.inr (.inl h))))
  ·exact zF (.inr (.inr (.inr (.inr h))))
 have DN:lL _ mb w1.heap.size vO vB (aJ aW ws.length iD) vS vR (aJ aC 0 0) wv (start m ws) m.all:=⟨fG,Jk.n.own,Jk.Ca,hFW,bZ _,bZ _⟩
 have kA:=XG WX WW _ mb w1.heap.size vO vB _ vS vR (aJ aC 0 0) wv (start m ws) m.all DN (aN Hwl).2 (aN Hold) rfl (bZ _);rw[show(start m ws).words=ws from rfl,show(start m ws).pos=0 from rfl,dJ] at kA;have Mc:(w1.alloc (aU #[aK (aE ⟨mb,0,aC⟩),aJ aW ws.length iD,aH aF 0,aH aF 0,aH aF 0,aJ aC 0 0] 67)).heap[w.heap.size]?=aE (aU #[aI ⟨#[]⟩,aH aF 0,aH aF 0] 36):=(bA.heap_alloc _ _ _ (by omega)).trans ((fF.block _ Ve).trans xE);have HA:=bE kA;have HRB:=bE Mc;have NA:=bE tB;have HRd:=bE DN;have Hl:=bE (bK Ve Nq);clear kA Mc tB fG Ve Nq Bg hwd hFW MV fF kO xE fK hltm DN Jk;go_wp2_with fail
 refine(aN HA).mono ?_;rintro e w3 ⟨_,rfl,rfl,Kz⟩;generalize(w1.alloc (aU #[aK (aE ⟨mb,0,aC⟩),aJ aW ws.length iD,aH aF 0,aH aF 0,aH aF 0,aJ aC 0 0] 67))=W at*;have hltW:w.heap.size<W.heap.size:=cC (aN HRB);have hnF:¬iO mb w1.heap.size vO vS vR (aJ aC 0 0) wv w.heap.size:=by
  have hl:=aN Hl;have Bg:=(aN Hm).n;rintro((h|h|h|h|h)|h|h)
  ·have:=cC Bg.mc;omega
  ·omega
  ·have:=(Bg.st.lt _ h).2;omega
  ·have:=(Bg.rt.lt _ h).2;omega
  ·simp[aG.ownBlock] at h
  ·have:=Ir Bg.own h;omega
  ·have:=(Bg.own.row.lt _ h).2;omega
 have eW:w3.heap[w.heap.size]?=aE (aU #[aI ⟨#[]⟩,aH aF 0,aH aF 0] 36):=by
  obtain⟨_,_,_,_,_,_,_,_,_,Bz,_⟩:=Kz;exact(Bz.block _ hltW hnF).trans (aN HRB)
 have b0:=cq 0 eW rfl;have b1:=cq 1 eW rfl;have b2:=cq 2 eW rfl;have g0:=bG 0 eW;have g1:=bG 1 eW;have g2:=bG 2 eW;have H3:=bE (bK Kz eW);clear Kz eW;go_wp2;refine bodyPost_ret (v:=De (res.1,res.1.out,res.2)) (by simp[De,results,results15,go_sem,b0,b1,b2]) rfl ⟨rfl,?_⟩;obtain⟨⟨oJ,Ci,x1,x2,x3,Kp,s',El,ho3,Bz,q8,e1,e2,_⟩,eW⟩:=aN H3;have gZ:∀k,k≠w.heap.size->(((w3.setCell ⟨w.heap.size,0,aC⟩ (aI ⟨res.1.out.toArray⟩)).setCell ⟨w.heap.size,1,aC⟩ (aH aF res.2.1)).setCell ⟨w.heap.size,2,aC⟩ (aH aF (res.2.2:Int))).heap[k]?=w3.heap[k]?:=λk jD=>
  (bA.heap_setCell _ _ _ _ jD).trans ((bA.heap_setCell _ _ _ _ jD).trans (bA.heap_setCell _ _ _ _ jD))
 have hk:∀k,iO mb w1.heap.size oJ x1 x2 x3 Kp k->k≠w.heap.size:=λk hk e=>by
  rcases q8 k hk with h|h
  ·exact hnF (e▸h)
  ·omega
 have bm:∀k,oV w3 k->k≠w.heap.size:=λk ⟨cs,t,fr,hc,ht⟩ e=>by
  rw[e,eW] at hc;injection hc with hc;injection hc with _ hc _;subst hc
  revert ht
  decide
 have hb:=aN NA;have hl:=aN Hl;have pL:Mv (yF mb vO vS vR wv) w w3:=⟨Bz.os.trans hb.os,Bz.tape.trans hb.tape,Bz.output.trans hb.output,cF hb.size Bz.size,λk hk hn=>(Bz.block k (by omega) (by
  rintro((h|h|h|h|h)|h|h)
  ·exact hn (.inl h)
  ·omega
  ·exact hn (.inr (.inl h))
  ·exact hn (.inr (.inr (.inl h)))
  ·simp[aG.ownBlock] at h
  ·exact hn (.inr (.inr (.inr (.inl h))))
  ·exact hn (.inr (.inr (.inr (.inr h)))))).trans (hb.block k hk)⟩
 have Nu:Mv (yF mb vO vS vR wv) w (((w3.setCell ⟨w.heap.size,0,aC⟩ (aI ⟨res.1.out.toArray⟩)).setCell ⟨w.heap.size,1,aC⟩ (aH aF res.2.1)).setCell ⟨w.heap.size,2,aC⟩ (aH aF (res.2.2:Int))):=
  ((pL.setCell (.inr (bD _)) _).setCell (.inr (bD _)) _).setCell (.inr (bD _)) _
 have Gw:dG w (yF mb vO vS vR wv) (yF mb oJ x1 x2 Kp):=by
  intro k hk;have hk' :iO mb w1.heap.size oJ x1 x2 x3 Kp k:=by
   rcases hk with h|h|h|h|h
   ·exact .inl (.inl h)
   ·exact .inl (.inr (.inr (.inl h)))
   ·exact .inl (.inr (.inr (.inr (.inl h))))
   ·exact .inr (.inl h)
   ·exact .inr (.inr h)
  rcases q8 k hk' with ((h|h|h|h|h)|h|h)|h
  ·exact .inl (.inl h)
  ·exact .inr (by omega)
  ·exact .inl (.inr (.inl h))
  ·exact .inl (.inr (.inr (.inl h)))
  ·simp[aG.ownBlock] at h
  ·exact .inl (.inr (.inr (.inr (.inl h))))
  ·exact .inl (.inr (.inr (.inr (.inr h))))
  ·exact .inr (by omega)
 have Vm:=lD (aN Hm).Ca;have zF:=(aN Hm).o4;refine⟨oJ,Ci,x1,x2,Kp,⟨⟨?_,?_,?_,El.ap,?_,?_,?_,?_,?_⟩,?_,?_⟩,Nu,Gw⟩
 ·exact(gZ mb (hk mb (.inl (.inl rfl)))).trans El.m
 ·show aY.ownsRow _ _ _ _ _ res.1.S.length _;rw[<-e1];exact cK El.st λk e=>gZ k (hk k (.inl (.inr (.inr (.inl e)))))
 ·show aY.ownsRow _ _ _ _ _ res.1.R.length _;rw[<-e2];exact cK El.Fv λk e=>gZ k (hk k (.inl (.inr (.inr (.inr (.inl e))))))
 ·show res.1.S.length<=16;rw[<-e1];exact El.sl
 ·show res.1.R.length<=16;rw[<-e2];exact El.rl
 ·show ∀x∈res.1.S,dQ x;rw[<-e1];exact El.si
 ·show ∀x∈res.1.R,dQ x;rw[<-e2];exact El.ri
 ·exact ho3.kept λk h=>gZ k (bm k h)
 ·exact eU (aN Hm).Ca (Nu.block _ Vm zF)
 ·intro h;rcases Gw _ h with h|h
  ·exact zF h
  ·omega
theorem fk (w:aY)(mb:Nat)(vO vB vS vR:aG)(wv:List Own)(m:N.cE)(line:ByteArray)(hm:Lj w mb vO vB vS vR wv m)(hold:m.all.length+1000<=1000000000000):
 bH aQ 15 #[aK (aE ⟨mb,0,aC⟩),aI line] w λr w' =>r=aM (De (N.jL m line.data.toList))/\Rs mb vO vS vR wv (N.jL m line.data.toList).1 w w' :=by
 by_cases hlen:line.size<=500
 ·exact PE w mb vO vB vS vR wv m line hm hold hlen
 ·have hsz:=Lib.size_eq line;have hN:N.jL m line.data.toList=(m,[],1,0):=by
   unfold N.jL;rw[eJ (by omega)]
  rw[hN];exact(WO w mb line hlen).mono λr w' hh=>⟨hh.1,Rs.stay hm hh.2⟩
end
variable {w' :aY}{b:Nat}{vA:aG}{bs:List aG}{m:N.cE}{cs:Array aG}{t:TypeId}{fr:Nat×Nat}
theorem cH.mvT (h:cH w rb vA vS vR bs m)(hb:w.heap[b]?=aE (aU cs t fr))(h1:t≠77)(h2:t≠98)(h3:t≠3)(h4:t≠101)(hm:Mv (λx=>x=b) w w'):cH w' rb vA vS vR bs m:=
 h.kept (λk hk=>hm.block k (h.lt k hk) λe=>h.lK hb h1 h2 h3 (e▸hk)) λk hk=>hm.block k (fW hk) λe=>by
  obtain⟨_,_,hc⟩:=hk;rw[e] at hc;exact h4 (cM hb hc)
theorem cH.em {pU xM :aG}(h:cH w rb vA vS vR bs m)(gZ:∀k,k≠rb->w'.heap[k]?=w.heap[k]?)(S' R' :List Int)(out:N.eE)(steps:Nat)(Me:w'.heap[rb]?=aE (aU #[vA,pU,xM,aI ⟨out.toArray⟩,aH aF steps] 77))(ho:out.length<=300)(jT:steps<=1001)(hS:(pU =vS/\S' =m.S)\/(pU =aJ aC 0 0/\S' =[]))(hR:(xM =vR/\R' =m.R)\/(xM =aJ aC 0 0/\R' =[])):cH w' rb vA pU xM bs {m with S:=S',R:=R',out:=out,steps:=steps}:=by
 obtain⟨n1,n2,n3⟩:=h.pR;have Vi:∀(j:Nat) (e:N.iM) (v:aG),m.all[j]?=aE e->bs[j]?=aE v->e.ended=aX->w'.ownsRow 0 101 3 v e.body.length (kJ e.body)/\e.body.length<=60:=λj e v h1 h2 h3=>by
  obtain⟨h4,h5⟩:=h.Xa j e v h1 h2 h3;refine⟨cV h4 λk e=>gZ k (h.Ku ?_),h5⟩;obtain⟨cur,hc⟩:=cJ h4 e;exact⟨cur,_,hc⟩
 have fL:=cV h.row λk e=>gZ k λx=>n1 (x▸e)
 have st:=cK h.st λk e=>gZ k λx=>n2 (x▸e)
 have rt:=cK h.rt λk e=>gZ k λx=>n3 (x▸e)
 rcases hS with ⟨rfl,rfl⟩|⟨rfl,rfl⟩ <;> rcases hR with ⟨rfl,rfl⟩|⟨rfl,rfl⟩
 ·exact⟨Me,fL,h.len,Vi,st,rt,h.ap,h.sl,h.rl,ho,jT,h.qU,h.si,h.ri,h.ni⟩
 ·exact⟨Me,fL,h.len,Vi,st,⟨rfl,.inl ⟨rfl,rfl⟩⟩,λk _ e=>by simp[aG.ownBlock] at e,h.sl,bZ _,ho,jT,h.qU,h.si,λx hx=>by simp at hx,h.ni⟩
 ·exact⟨Me,fL,h.len,Vi,⟨rfl,.inl ⟨rfl,rfl⟩⟩,rt,λk e _=>by simp[aG.ownBlock] at e,bZ _,h.rl,ho,jT,h.qU,λx hx=>by simp at hx,h.ri,h.ni⟩
 ·exact⟨Me,fL,h.len,Vi,⟨rfl,.inl ⟨rfl,rfl⟩⟩,⟨rfl,.inl ⟨rfl,rfl⟩⟩,λk e _=>by simp[aG.ownBlock] at e,bZ _,bZ _,ho,jT,h.qU,λx hx=>by simp at hx,λx hx=>by simp at hx,h.ni⟩
def FD (rb:Nat) (vA vS vR:aG) (m:N.cE) (w w' :aY):Prop:=
 ∃bs' pI pU xM,cH w' rb pI pU xM bs' m/\Mv (dV rb vA vS vR) w w' /\dG w (dV rb vA vS vR) (dV rb pI pU xM)
structure ev (w:aY) (rb:Nat) (vA vS vR:aG) (n0:Nat) (ws:List N.eE) (res:N.cE×Int×Nat) (xb:Nat) (wr:aY) (q f:Nat) (M:N.cE) (bs' :List aG) (pI pU xM vW:aG):Prop where
 ref:cH wr rb pI pU xM bs' M
 line:eH wr xb rb vW ws q
 mv:Mv (dV rb vA vS vR) w wr
 fresh:dG w (dV rb vA vS vR) (dV rb pI pU xM)
 rs:Ph w.heap.size wr
 fit:Ka M
 st:M.steps<=1000
 qle:q<=ws.length
 fuel:ws.length-q<f
 runs:N.runs f M ws q=res
 vI:M.all.length<=n0+q
 xge:w.heap.size<=xb
variable {T:Nat->Prop}{w1 w2:aY}
theorem Mv.more {T1 T2:Nat->Prop}(h:Mv T w w1)(hf:dG w T T1)(h2:Mv T2 w1 w2)(ht:∀k,T2 k->T1 k\/w.heap.size<=k):Mv T w w2:=h.trans (T' :=T2) (λk hk=>by
 rcases ht k hk with x|x
 ·exact hf k x
 ·exact .inr x) h2
theorem LP (w:aY)(rb:Nat)(vA vS vR:aG)(n0:Nat)(ws:List N.eE)(res:N.cE×Int×Nat)(Ru:n0+1000<=1000000000000)(hrlt:rb<w.heap.size)(xb:Nat)(wr:aY)(q f:Nat)(M:N.cE)(bs' :List aG)(pI pU xM vW:aG)(hI:ev w rb vA vS vR n0 ws res xb wr q f M bs' pI pU xM vW):
 ZZ (λwr=>∃q f M bs' pI pU xM vW,ev w rb vA vS vR n0 ws res xb wr q f M bs' pI pU xM vW) (λwr=>1000-Fl wr xb) (λout er wd w' =>out=⟨res.1.out.toArray⟩/\er=res.2.1/\wd=(res.2.2:Int)/\FD rb vA vS vR res.1 w w') rb xb w.heap.size wr:=by
 obtain⟨f',rfl⟩:∃f',f=f' +1:=⟨f-1,by have:=hI.fuel;omega⟩
 obtain⟨aW,cW,NJ,_,_⟩:=cU hI.line.l;have Gr:=hI.runs;refine⟨q,ws.length,cW,aW,hI.line.len,by have:=hI.qle;have:=hI.line.len;omega,by rw[<-NJ];exact aZ hI.line.c rfl,aZ hI.line.c rfl,hI.rs,?_⟩;by_cases hq:q<ws.length
 case neg=>
  refine .inl ⟨hq,⟨M.out.toArray⟩,aZ hI.ref.mc rfl,λW hW=>?_⟩;rw[N.runs,dZ (by omega)] at Gr;rw[<-Gr];refine⟨rfl,rfl,rfl,bs',pI,pU,xM,hI.ref.mvT hI.rs (by decide) (by decide) (by decide) (by decide) hW,?_,hI.fresh⟩;exact hI.mv.more hI.fresh hW λk hk=>.inr (by rw[hk];exact bD _)
 case pos=>
  refine .inr ⟨hq,?_⟩;obtain⟨s,hs⟩:∃s,ws[q]?=aE s:=⟨_,bL hq⟩
  rw[N.runs,hs] at Gr;simp only at Gr;have ZI:bA wr.heap.size wr (wr.alloc (aU #[aH aF 14,aH aF q] 94)).drew:=((bF _ _).alloc (bD _) _).drew;have hRF:=hI.ref.below ZI;have hLF:=hI.line.below ZI;have hfF:(wr.alloc (aU #[aH aF 14,aH aF q] 94)).drew.heap[wr.heap.size]?=aE (aU #[aH aF 14,aH aF q] 94):=heap_alloc_new wr _;have hSF:Ph w.heap.size (wr.alloc (aU #[aH aF 14,aH aF q] 94)).drew:=(ZI.block w.heap.size (cC hI.rs)).trans hI.rs;have hMF:=hI.mv.trans (dG.refl _ _) (Mv.dS ZI _);have zZ:w.heap.size<wr.heap.size:=cC hI.rs
  -- where a line SZ
  have SZ:∀(wX:aY) (MX:N.cE) (bX:List aG) (xA xS xR:aG) (er:Int) (wd:Nat),cH wX rb xA xS xR bX MX->Mv (dV rb vA vS vR) w wX->dG w (dV rb vA vS vR) (dV rb xA xS xR)->Ph w.heap.size wX->wX.heap[wr.heap.size]?=aE (aU #[aH aF er,aH aF wd] 94)->er≠0->res=({MX with S:=[],R:=[]},er,wd)->gd (λout er wd w' =>out=⟨res.1.out.toArray⟩/\er=res.2.1/\wd=(res.2.2:Int)/\FD rb vA vS vR res.1 w w') rb w.heap.size wr.heap.size er (wd:Int) wX:=by
   intro wX MX bX xA xS xR er wd g1 g2 g3 g4 g5 hz he;have gZ:∀k,k≠rb->((wX.setCell ⟨rb,1,aC⟩ (aJ aC 0 0)).setCell ⟨rb,2,aC⟩ (aJ aC 0 0)).heap[k]?=wX.heap[k]?:=λk hk=>(dA hk).trans (dA hk)
   have hr9:=g1.em gZ [] [] MX.out MX.steps (bV (bV g1.mc 1 (aJ aC 0 0)) 2 (aJ aC 0 0)) g1.ol g1.sp (.inr ⟨rfl,rfl⟩) (.inr ⟨rfl,rfl⟩);have hfb:wr.heap.size≠rb:=by omega
   have dl:Ph w.heap.size ((wX.setCell ⟨rb,1,aC⟩ (aJ aC 0 0)).setCell ⟨rb,2,aC⟩ (aJ aC 0 0)):=(gZ _ (by omega)).trans g4;have hf9:=(gZ wr.heap.size hfb).trans g5;refine⟨⟨MX.out.toArray⟩,xS,xR,hz,aZ g1.mc rfl,bG 1 g1.mc,aZ g1.mc rfl,bG 2 g1.mc,aZ g5 rfl,aZ hr9.mc rfl,aZ hf9 rfl,aZ hf9 rfl,dl,by omega,by omega,λW hW=>?_⟩;rw[he];refine⟨rfl,rfl,rfl,bX,xA,aJ aC 0 0,aJ aC 0 0,hr9.mvT dl (by decide) (by decide) (by decide) (by decide) hW,?_,?_⟩
   ·have h9:Mv (dV rb vA vS vR) w ((wX.setCell ⟨rb,1,aC⟩ (aJ aC 0 0)).setCell ⟨rb,2,aC⟩ (aJ aC 0 0)):=(g2.setCell (p:=⟨rb,1,aC⟩) (.inl (.inl rfl)) _).setCell (p:=⟨rb,2,aC⟩) (.inl (.inl rfl)) _;exact h9.more (dG.refl _ _) hW λk hk=>.inr (by rw[hk];exact bD _)
   ·rintro k (hk|hk|hk|hk)
    ·exact .inl (.inl hk)
    ·exact g3 k (.inr (.inl hk))
    ·simp[aG.ownBlock] at hk
    ·simp[aG.ownBlock] at hk
  refine(Vp _ rb pI pU xM bs' M hRF hI.st).mono ?_;rintro e w1 ⟨rfl,zX⟩;obtain⟨yA,yS,yR,N9,qV,u6⟩:=zX;have ZA:Mv (dV rb vA vS vR) w w1:=hMF.more hI.fresh qV λk hk=>.inl hk
  have cm:dG w (dV rb vA vS vR) (dV rb yA yS yR):=hI.fresh.trans hMF.size u6;have hfb1:w1.heap[wr.heap.size]?=aE (aU #[aH aF 14,aH aF q] 94):=(qV.block _ (cC hfF) (hRF.lK hfF (by decide) (by decide) (by decide))).trans hfF;have M7:Ph w.heap.size w1:=(qV.block _ (cC hSF) (hRF.lK hSF (by decide) (by decide) (by decide))).trans hSF;have UO:=hLF.mv hRF qV;by_cases dq:1000<M.steps+1
  ·left
   rw[eJ dq] at Gr;refine⟨by rw[show decide (M.steps+1<=1000)=aV from decide_eq_false (by omega)],?_⟩;exact SZ w1 {M with steps:=M.steps+1} bs' yA yS yR 14 q N9 ZA cm M7 hfb1 (by decide) Gr.symm
  ·right
   rw[dL dq] at Gr;refine⟨by rw[show decide (M.steps+1<=1000)=aX from decide_eq_true (by omega)],?_⟩;have bi:Ka {M with steps:=M.steps+1}:=hI.fit.fZ rfl;have sD:=hI.vI;have hlen:=hI.line.len;have kA:({M with steps:=M.steps+1}:N.cE).all.length=M.all.length:=rfl;refine(OW w1 rb xb q yA yS yR bs' {M with steps:=M.steps+1} vW ws s N9 bi UO hs (by show M.steps+1<=1000;omega) (by omega)).mono ?_;rintro e w2 ⟨er,wd,rfl,h1,h2,h3⟩;have xF:=T8 {M with steps:=M.steps+1} ws q s hq (by show M.steps+1<=1000;omega);have bf:=FO {M with steps:=M.steps+1} (by omega) ws q s bi;generalize N.one {M with steps:=M.steps+1} ws q s=R at*;obtain⟨M2,er2,wd2,nx⟩:=R;simp only at h1 h2 h3 Gr bf;subst h1;have hokln:=xF.ln;simp only at hokln;obtain⟨b2,zA,zS,zR,qT,sZ,Cf,sY⟩:=h3;have hM2:Mv (dV rb vA vS vR) w w2:=ZA.more cm sZ λk hk=>by
    rcases hk with hk|hk
    ·exact .inl hk
    ·exact .inr (by rw[hk];exact hI.xge)
   have hF2:dG w (dV rb vA vS vR) (dV rb zA zS zR):=cm.trans ZA.size Cf;have nx1:∀{b:Nat} {cs:Array aG} {t:TypeId} {fr:Nat×Nat},w1.heap[b]?=aE (aU cs t fr)->t≠77->t≠98->t≠3->t≠92->w2.heap[b]?=aE (aU cs t fr):=λhb t1 t2 t3 t4=>(sZ.block _ (cC hb) (by
    rintro(x|x)
    ·exact N9.lK hb t1 t2 t3 x
    ·rw[x] at hb;exact t4 (cM hb UO.c))).trans hb
   have EK:=nx1 hfb1 (by decide) (by decide) (by decide) (by decide);have Gy:Ph w.heap.size w2:=nx1 M7 (by decide) (by decide) (by decide) (by decide);have eR:=bV (bV EK 0 (aH aF er)) 1 (aH aF wd);have eR:((w2.setCell ⟨wr.heap.size,0,aC⟩ (aH aF er)).setCell ⟨wr.heap.size,1,aC⟩ (aH aF wd)).heap[wr.heap.size]?=aE (aU #[aH aF er,aH aF wd] 94):=eR;have DG:Mv (λx=>x=wr.heap.size) w2 ((w2.setCell ⟨wr.heap.size,0,aC⟩ (aH aF er)).setCell ⟨wr.heap.size,1,aC⟩ (aH aF wd)):=pK _ _;have oK:=qT.Jb EK DG;have hM3:Mv (dV rb vA vS vR) w ((w2.setCell ⟨wr.heap.size,0,aC⟩ (aH aF er)).setCell ⟨wr.heap.size,1,aC⟩ (aH aF wd)):=hM2.more (dG.refl _ _) DG λk hk=>.inr (by rw[hk];omega)
   have VK:Ph w.heap.size ((w2.setCell ⟨wr.heap.size,0,aC⟩ (aH aF er)).setCell ⟨wr.heap.size,1,aC⟩ (aH aF wd)):=(DG.block _ (cC Gy) (by omega)).trans Gy;refine⟨er,wd,rfl,⟨_,_,aZ EK rfl,aZ EK rfl⟩,bG 0 EK,bG 1 EK,?_⟩;by_cases hz:er=0
   ·right
    rw[dL (by simpa using hz)] at Gr;have N8:=(sY hz).Jb EK DG;have ba:=xF.lo hz;have hhi:=xF.hi hz;have jT:=xF.st hz;simp only at ba hhi jT;refine⟨hz,by rw[hz] at eR ⊢;exact aZ eR rfl,⟨nx,f',M2,b2,zA,zS,zR,vW,oK,N8,hM3,hF2,VK,bf,jT,hhi,by have:=hI.fuel;omega,Gr,by omega,hI.xge⟩,?_⟩;show 1000-Fl _ xb<1000-Fl wr xb;rw[Hu N8,Hu hI.line];omega
   ·left
    rw[eJ hz] at Gr;rw[h2 hz] at oK hM3 VK eR ⊢;exact SZ _ M2 b2 zA zS zR er wd2 oK hM3 hF2 VK eR hz Gr.symm
theorem WL (w:aY)(rb:Nat)(vA vS vR:aG)(bs:List aG)(m:N.cE)(text:ByteArray)(h:cH w rb vA vS vR bs m)(wM:Ka m)(hold:m.all.length+1000<=1000000000000):
 bH aQ 33 #[aK (aE ⟨rb,0,aC⟩),aI text] w λe w' =>e=aM (De (N.jL m text.data.toList))/\FD rb vA vS vR (N.jL m text.data.toList).1 w w' :=by
 have hsz:=Lib.size_eq text;unfold N.jL;by_cases hlen:text.size<=500
 ·rw[dL (by omega)];simp only;generalize TK:L.split text.data.toList=ws;generalize dJ:N.runs (ws.length+1) {m with out:=[],steps:=0} ws 0=res;have hlw:ws.length<=500:=by
   rw[<-TK];rcases Fz text.data.toList [] with x|x
   ·exact(x rfl).elim
   ·unfold L.split;omega
  have hsm:∀s∈ws,s.length<=500:=λs hs=>by
   rw[<-TK] at hs;have:=(Lf text.data.toList [] s hs).2;simp at this;omega
  have hrlt:=cC h.mc;have kO:bA w.heap.size w (w.alloc (aU #[aI ⟨#[]⟩,aH aF 0,aH aF 0] 36)):=(bF _ _).alloc (bD _) _;have h0:=h.below kO;have gZ:∀k,k≠rb->(((w.alloc (aU #[aI ⟨#[]⟩,aH aF 0,aH aF 0] 36)).setCell ⟨rb,3,aC⟩ (aI ⟨#[]⟩)).setCell ⟨rb,4,aC⟩ (aH aF 0)).heap[k]?=(w.alloc (aU #[aI ⟨#[]⟩,aH aF 0,aH aF 0] 36)).heap[k]?:=λk hk=>(dA hk).trans (dA hk)
  have vG:=h0.em gZ m.S m.R [] 0 (bV (bV h0.mc 3 (aI ⟨#[]⟩)) 4 (aH aF 0)) (bZ _) (by omega) (.inl ⟨rfl,rfl⟩) (.inl ⟨rfl,rfl⟩);have qV:Mv (dV rb vA vS vR) w (((w.alloc (aU #[aI ⟨#[]⟩,aH aF 0,aH aF 0] 36)).setCell ⟨rb,3,aC⟩ (aI ⟨#[]⟩)).setCell ⟨rb,4,aC⟩ (aH aF 0)):=((Mv.dS kO _).setCell (p:=⟨rb,3,aC⟩) (.inl (.inl rfl)) _).setCell (p:=⟨rb,4,aC⟩) (.inl (.inl rfl)) _;have M7:Ph w.heap.size (((w.alloc (aU #[aI ⟨#[]⟩,aH aF 0,aH aF 0] 36)).setCell ⟨rb,3,aC⟩ (aI ⟨#[]⟩)).setCell ⟨rb,4,aC⟩ (aH aF 0)):=(gZ _ (by omega)).trans (heap_alloc_new w _);refine(PX w rb text hlen _ _ (aZ h.mc rfl) (bG 3 h.mc) (aZ h.mc rfl) (bG 4 h.mc) (λxb wr=>∃q f M bs' pI pU xM vW,ev w rb vA vS vR m.all.length ws res xb wr q f M bs' pI pU xM vW) (λxb wr=>1000-Fl wr xb) (λout er wd w' =>out=⟨res.1.out.toArray⟩/\er=res.2.1/\wd=(res.2.2:Int)/\FD rb vA vS vR res.1 w w') ((Vw text _ (by omega)).mono ?_) (bE ?_)).mono ?_
  ·rintro e w1 ⟨v,rfl,fK,Og,fF⟩;rw[TK] at fK;obtain⟨aW,cW,hv,_,_⟩:=cU fK;subst hv;refine⟨aW,ws.length,cW,rfl,0,ws.length+1,{m with out:=[],steps:=0},bs,vA,vS,vR,aJ aW ws.length cW,?_⟩;have hbL:bA w1.heap.size w1 (w1.alloc (aU #[aK (aE ⟨rb,0,aC⟩),aJ aW ws.length cW,aH aF 0] 92)):=(bF _ _).alloc (bD _) _;have rF:=(vG.below fF).below hbL;have sZ:Mv (dV rb vA vS vR) w (w1.alloc (aU #[aK (aE ⟨rb,0,aC⟩),aJ aW ws.length cW,aH aF 0] 92)):=(qV.trans (dG.refl _ _) (Mv.dS fF _)).trans (dG.refl _ _) (Mv.dS hbL _);have Gy:Ph w.heap.size w1:=(fF.block _ (cC M7)).trans M7;refine⟨rF,⟨heap_alloc_new w1 _,cK fK λk e=>hbL.block k (fK.lt k e).2,hlw,hsm⟩,sZ,dG.refl _ _,(hbL.block _ (cC Gy)).trans Gy,wM.fZ rfl,bZ _,bZ _,by omega,dJ,bD _,?_⟩;have:=cC Gy;omega
  ·rintro xb wr ⟨q,f,M,bs',pI,pU,xM,vW,hI⟩;exact LP w rb vA vS vR m.all.length ws res (by omega) hrlt xb wr q f M bs' pI pU xM vW hI
  ·rintro e w' ⟨out,er,wd,rfl,rfl,rfl,rfl,hg⟩;exact⟨rfl,hg⟩
 ·rw[eJ (by omega)];exact(PU w rb text hlen).mono λe w' hh=>⟨hh.1,bs,vA,vS,vR,h.below hh.2,Mv.dS hh.2 _,dG.refl _ _⟩
theorem I2 (ws:List N.eE):∀(f:Nat) (m:N.cE) (q:Nat),Ka m->m.all.length+f<=1000000000000->m.steps<=1000->Ka (N.runs f m ws q).1/\(N.runs f m ws q).1.all.length<=m.all.length+f
 |0,m,q,h,_,_=>⟨h,bD _⟩
 |f+1,m,q,h,hl,jT=>by
  rw[N.runs];cases hs:ws[q]? with
  |none=>exact⟨h,by simp only;omega⟩
  |some s=>
   simp only;have hq:=(bI.1 hs).1;by_cases h1:1000<m.steps+1
   ·rw[eJ h1];exact⟨h.fZ rfl,by simp only;omega⟩
   ·rw[dL h1];have h0:Ka {m with steps:=m.steps+1}:=h.fZ rfl;have kA:({m with steps:=m.steps+1}:N.cE).all.length=m.all.length:=rfl;have xF:=T8 {m with steps:=m.steps+1} ws q s hq (by show m.steps+1<=1000;omega);have hf:=FO {m with steps:=m.steps+1} (by omega) ws q s h0;have VJ:=xF.ln;by_cases hz:(N.one {m with steps:=m.steps+1} ws q s).2.1=0
    ·rw[dL (by simpa using hz)];have hst' :=xF.st hz;obtain⟨k1,k2⟩:=I2 ws f _ (N.one {m with steps:=m.steps+1} ws q s).2.2.2 hf (by omega) hst';exact⟨k1,by omega⟩
    ·rw[eJ hz];exact⟨hf.fZ rfl,by simp only;omega⟩
theorem AU (m:N.cE)(text:N.eE)(h:Ka m)(hl:m.all.length+1000<=1000000000000):Ka (N.jL m text).1/\(N.jL m text).1.all.length<=m.all.length+501:=by
 unfold N.jL;by_cases hlen:500<text.length
 ·rw[eJ hlen];exact⟨h,Nat.le_add_right _ _⟩
 ·rw[dL hlen];simp only;have hlw:(L.split text).length<=500:=by
   rcases Fz text [] with x|x
   ·exact(x rfl).elim
   ·unfold L.split;omega
  obtain⟨k1,k2⟩:=I2 (L.split text) ((L.split text).length+1) {m with out:=[],steps:=0} 0 (h.fZ rfl) (by show m.all.length+_<=_;omega) (bZ _);have k2:(N.runs ((L.split text).length+1) {m with out:=[],steps:=0} (L.split text) 0).1.all.length<=m.all.length+((L.split text).length+1):=k2;exact⟨k1,by omega⟩
section
attribute [local go_sem ↓] Go.wp_at_zero Go.wp_at_succ
theorem VV:Ka N.new:=λj e h=>by simp[N.new] at h
theorem RF (w:aY):bH aQ 31 #[] w λe w' =>e=aM (aK (aE ⟨w.heap.size,0,aC⟩))/\cH w' w.heap.size (aJ aC 0 0) (aJ aC 0 0) (aJ aC 0 0) [] N.new/\bA w.heap.size w w' :=by
 have fin:cH (w.alloc (aU #[aJ aC 0 0,aJ aC 0 0,aJ aC 0 0,aI ⟨#[]⟩,aH aF 0] 77)) w.heap.size (aJ aC 0 0) (aJ aC 0 0) (aJ aC 0 0) [] N.new:=
  ⟨heap_alloc_new w _,⟨rfl,.inl ⟨rfl,rfl⟩⟩,rfl,λj e v h=>(by simp[N.new] at h),⟨rfl,.inl ⟨rfl,rfl⟩⟩,⟨rfl,.inl ⟨rfl,rfl⟩⟩,λk e _=>(by simp[aG.ownBlock] at e),bZ _,bZ _,bZ _,bZ _,bZ _,λx h=>(by simp[N.new] at h),λx h=>(by simp[N.new] at h),λx h=>(by simp[N.new] at h)⟩
 have Fin:=bE fin;clear fin;go_enter func31,ntmps31;go_wp2;go_ret;exact⟨rfl,aN Fin,(bF _ _).alloc (bD _) _⟩
def lE (all:List N.iM) (k:Nat):List N.eE:=((all.take k).filter N.there).map (·.name)
variable {all:List N.iM}
theorem Xz {e:N.iM}(h:all[k]?=aE e):lE all (k+1)=lE all k++if N.there e then[e.name] else[]:=by
 obtain⟨hk,he⟩:=bI.1 h;unfold lE;rw[dF hk,List.filter_append,List.map_append,he]
 congr 1
 cases ht:N.there e <;> simp[ht]
theorem C0 (all:List N.iM)(k:Nat):(lE all k).length<=k:=by
 unfold lE;rw[dO];refine cF (List.length_filter_le _ _) ?_;rw[dH];omega
theorem S5 (w:aY)(rb:Nat)(vA vS vR:aG)(bs:List aG)(m:N.cE)(h:cH w rb vA vS vR bs m):
 bH aQ 37 #[aK (aE ⟨rb,0,aC⟩)] w λe w' =>∃v,e=aM v/\w'.ownsRow w.heap.size 9 1 v (N.words m).length (xK (N.words m))/\bA w.heap.size w w' :=by
 obtain⟨iS,hi,hz,hs,jP⟩:=Iq;obtain⟨aA,cA,rE⟩:=h.slice;have hold:=h.qU;have HR:=bE h;have Lc:lE m.all m.all.length=N.words m:=by unfold lE N.words;rw[List.take_length]
 rw[<-Lc];clear h Lc;generalize hn:m.all.length=n at*;have Hn:=bE hn;clear hn;go_enter func37,ntmps37;go_wp2
 go_loopw [3,4] (λl i wr=>∃(k:Nat) (a:Option Addr) (cp:Nat),k<=n/\i=aH aF k/\l=aJ a (lE m.all k).length cp/\wr.ownsRow w.heap.size 9 1 (aJ a (lE m.all k).length cp) (lE m.all k).length (xK (lE m.all k))/\bA w.heap.size w wr) (λ_ i _=>match i with|aH _ k=>n-k.toNat|_=>0)
 case atStart=>exact⟨0,aC,0,bZ _,rfl,rfl,⟨rfl,.inl ⟨rfl,rfl⟩⟩,bF _ _⟩
 case round=>
  obtain⟨k,a,cp,hk,rfl,rfl,fL,hb⟩:=hrel;have hRr:=(aN HR).below hb;have c0:wr.cell? ⟨rb,0,aC⟩=aE (aJ aA n cA):=by rw[<-rE];exact aZ hRr.mc rfl
  by_cases eQ:k<n
  ·obtain⟨e,he⟩:∃e,m.all[k]?=aE e:=⟨_,bL (by rw[aN Hn];exact eQ)⟩
   obtain⟨g,cap,v,hv,_,hglt,q0,_,_,_,q4,q5,_⟩:=hRr.tA he;rw[rE] at hv
   replace hv:=eM hv
   subst hv;have lC:=Xz he;have hlk:=C0 m.all k;have HST:=bE lC;have EU:=bE fL;have HB:=bE hb;have HVA:=bE rE;clear lC fL hb hRr he;have k1:(k:Int)<(n:Int):=by omega
   have k0:(0:Int)<=(k:Int):=by omega
   have k2:=wi ((k:Int)+1);have dec:n-((k:Int)+1).toNat<n-(k:Int).toNat:=by omega
   have Dec:=bE dec;clear dec rE;cases kY:e.ended with
   |false=>
    rw[kY] at q4;have br:=bE (show lE m.all (k+1)=lE m.all k from by have:=aN HST;unfold N.there at this;rw[kY] at this;simpa using this);clear HST kY;generalize hl:(lE m.all k).length=ln at*;have HL:=bE hl;clear hl;go_wp2;refine⟨⟨k+1,a,cp,by omega,by simp,?_,?_,aN HB⟩,aN Dec⟩
    ·rw[aN br,aN HL]
    ·rw[aN br,aN HL];exact aN EU
   |true=>
    rw[kY] at q4;cases pS:e.gone with
    |true=>
     rw[pS] at q5;have br:=bE (show lE m.all (k+1)=lE m.all k from by have:=aN HST;unfold N.there at this;rw[kY,pS] at this;simpa using this);clear HST kY pS;generalize hl:(lE m.all k).length=ln at*;have HL:=bE hl;clear hl;go_wp2;refine⟨⟨k+1,a,cp,by omega,by simp,?_,?_,aN HB⟩,aN Dec⟩
     ·rw[aN br,aN HL]
     ·rw[aN br,aN HL];exact aN EU
    |false=>
     rw[pS] at q5;have br:=bE (show lE m.all (k+1)=lE m.all k++[e.name] from by have:=aN HST;unfold N.there at this;rw[kY,pS] at this;simpa using this);clear HST kY pS;generalize hl:(lE m.all k).length=ln at*;have HL:=bE hl;clear hl;have hsz:=(aN HB).size;have v0:=eG c0;have v1:=eG q0;go_wp2_with (
      at_builtin
      refine wpList_append_lies _ (by rfl) (.tmp 33) (.tmp 42) 23 (by rfl) w.heap.size 9 iS (aI ⟨#[]⟩) 1 16 underlying23 hi hz hs jP rfl (by decide) (aJ a ln cp) ln (xK (lE m.all k)) (by rfl) (by exact(aN EU).alloc _) ⟨wr.heap.size,0,aC⟩ 1 1 [aI ⟨e.name.toArray⟩] (by rfl) rfl (aY.news_of_block (heap_alloc_new wr _)) (λu hu=>by simp at hu;subst hu;rfl) (by decide) (by unfold maxLen;omega) (by omega) (by simp;omega) _ rfl ?_;intro g3 iG w3 jM dK qH Cc;have G3:=bE dK;have O3:=bE jM;clear dK jM qH)
     refine⟨⟨k+1,aE ⟨g3,0,aC⟩,iG,by omega,by simp,?_,?_,?_⟩,aN Dec⟩
     ·rw[aN br,bN,aN HL];rfl
     ·rw[aN br,bN,aN HL];unfold xK;rw[List.map_append];exact aN O3
     ·exact(((aN HB).alloc (aN HB).size _)).grown (aN G3) (by simp;omega) λj hj=>qC (aN EU) hj
  ·have k1:¬(k:Int)<(n:Int):=by omega
   obtain rfl:k=n:=by omega
   have EU:=bE (bK fL hb);clear fL hb hRr;generalize hl:(lE m.all k).length=ln at*;go_wp2;go_ret;exact⟨_,rfl,(aN EU).1,(aN EU).2⟩
end
theorem Ip:(aQ.info? 249).isSome=aX:=by kernel_rfl
theorem MA (b:Nat)(w:aY)(h0:w.cell? ⟨b,0,aC⟩=aE (aK (aE ⟨b,0,aC⟩))):
 bH aQ 176 #[aK (aE ⟨b,0,aC⟩)] w λe w' =>e=aM (bC #[])/\w' =w:=by
 obtain⟨j,hj⟩:=Option.isSome_iff_exists.1 Ip;go_enter func176,ntmps176;go_wp2;rw[Lib.run_neq_ptr_same w _ underlying247 hj];go_wp2;go_end0;exact⟨rfl,rfl⟩
theorem J1:∀j,aQ.info? 249=aE j->0<j.size:=by
 intro j hj;have h:(aQ.info? 249).map (λj=>decide (0<j.size))=aE aX:=by kernel_rfl
 rw[hj] at h;simpa using h
theorem CJ (b:Nat)(w:aY)(h0:w.cell? ⟨b,0,aC⟩=aE (aK aC))(Oh:w.shape? b=aE (249,2))(Nm:w.frozen? ⟨b,0,aC⟩=aV):
 bH aQ 176 #[aK (aE ⟨b,0,aC⟩)] w λe w' =>e=aM (bC #[])/\w' =w.setCell ⟨b,0,aC⟩ (aK (aE ⟨b,0,aC⟩)):=by
 obtain⟨j,hj⟩:=Option.isSome_iff_exists.1 Ip;go_enter func176,ntmps176;go_wp2;rw[Lib.run_to_unsafe w ⟨b,0,aC⟩ underlying247 underlying254 hj (Nat.ne_of_gt (J1 j hj)) Oh (Nat.zero_lt_succ 1)];simp only[Result.andThen];rw[Oper.upon_value];go_wp2;rw[run_callFunc_extern func177 (by kernel_rfl) (by kernel_rfl) (by kernel_rfl) (e:=Extern.AbiNoEscape.same) (by kernel_rfl)];rw[Lib.run_noEscape];simp only[Result.andThen];rw[Oper.upon_value];go_wp2;rw[Lib.run_from_unsafe w ⟨b,0,aC⟩ underlying254 underlying247 hj Oh (by kernel_rfl)];simp only[Result.andThen];rw[Oper.upon_value];go_wp2;go_end0;exact⟨rfl,rfl⟩
theorem Tt (B b:Nat)(bs:List aG)(w:aY)(h:Lib.IsBuilder 249 5 B b bs w):
 bH aQ 176 #[aK (aE ⟨b,0,aC⟩)] w λe w' =>e=aM (bC #[])/\(Lib.BuilderAt 249 5 B b (aK (aE ⟨b,0,aC⟩)) bs w' /\bA B w w'):=by
 rcases h with h|h
 ·refine(CJ b w h.cell0 h.shape h.frozen0).mono ?_;rintro e w' ⟨rfl,rfl⟩;exact⟨rfl,h.used _,(bF B w).setCell (p:=⟨b,0,aC⟩) h.1 _⟩
 ·refine(MA b w h.cell0).mono ?_;rintro e w' ⟨rfl,rfl⟩;exact⟨rfl,h,bF B _⟩
theorem Vo (B b:Nat)(bs:List aG)(s:ByteArray)(w:aY)(h:Lib.IsBuilder 249 5 B b bs w)(hlen:bs.length+s.size<=140737488355328)(hBw:B<=w.heap.size):
 bH aQ 174 #[aK (aE ⟨b,0,aC⟩),aI s] w λe w' =>e=aM (bC #[aH aF s.size,.nilIface])/\(Lib.BuilderAt 249 5 B b (aK (aE ⟨b,0,aC⟩)) (bs++Lib.strCells s) w' /\bA B w w'):=by
 have HH:=bE h;clear h;obtain⟨i0,hi,hz0,hz1,hz2⟩:=info_parts (P:=aQ) (e:=5) (z:=aH .u8 0) (size:=1) (bytes:=1) (by kernel_rfl);go_enter func174,ntmps174;go_wp2_with fail
 refine(Tt B b bs w (aN HH)).mono ?_;rintro e w1 ⟨rfl,h1,fF⟩;obtain⟨hB,v,Mi,fK,jD⟩:=h1;have c0:w1.cell? ⟨b,0,aC⟩=aE (aK (aE ⟨b,0,aC⟩)):=by rw[Lib.cell_of_heap Mi];rfl
 have c1:w1.cell? ⟨b,1,aC⟩=aE v:=by rw[Lib.cell_of_heap Mi];rfl
 go_wp2_with (at_builtin;refine Lib.wpList_append_own_string _ rfl _ _ 65 9 rfl B 5 i0 underlying65 underlying9 hi hz0 hz1 hz2 _ _ _ rfl fK s rfl ?c3 ?c4 ?c5 ?_)
 case c3=>unfold maxLen;omega
 case c4=>omega
 case c5=>have:=fF.size;omega
 intro v' w2 dz ei _;have eQ:b<w1.heap.size:=by
  rcases Nat.lt_or_ge b w1.heap.size with h' |h'
  ·exact h'
  ·simp[Array.getElem?_eq_none h'] at Mi
 have eD:w2.heap[b]?=aE (aU #[aK (aE ⟨b,0,aC⟩),v] 249 (0,0)):=by
  rw[ei.block b eQ (λe=>jD e.symm)];exact Mi
 have d0:w2.cell? ⟨b,0,aC⟩=aE (aK (aE ⟨b,0,aC⟩)):=by rw[Lib.cell_of_heap eD];rfl
 have d1:w2.cell? ⟨b,1,aC⟩=aE v:=by rw[Lib.cell_of_heap eD];rfl
 have f1:w2.frozen? ⟨b,1,aC⟩=aV:=Lib.frozen_of_heap eD 1;obtain⟨ao,n',cap,rfl⟩:∃ao n' cap,v' =aJ ao n' cap:=by
  rcases dz.2 with ⟨hv,_⟩|⟨g,cap,cur,hv,_⟩
  ·exact⟨_,_,_,hv⟩
  ·exact⟨_,_,_,hv⟩
 go_wp2;go_ret2;refine⟨rfl,?_,?_⟩
 ·exact Lib.BuilderAt.put (T:=249) (e:=5) hB eD (bs' :=bs++Lib.strCells s) (by simpa[Lib.strCells_length] using dz) (by decide)
 ·exact(fF.grown ei (by have:=fF.size;omega) (λk hk=>(fK.lt k hk).1)).setCell (p:=⟨b,1,aC⟩) hB _
section
attribute [local go_sem ↓] Go.wp_at_zero Go.wp_at_succ
theorem Ix (x:Int)(w:aY)(hx:dQ x)(htab:lW w):bH aQ 121 #[aH aF x] w λe w' =>e=aM (aI ⟨(Lib.itoa x).toArray⟩)/\bA w.heap.size w w' :=by
 refine(Tryz.strconv_Itoa x hx.1 hx.2 _ htab).mono ?_;rintro e w' ⟨rfl,k,os,hw⟩;exact⟨rfl,by rw[hw];exact Lib.below_grow _ _ (bD _) _ _⟩
theorem BP (x:Int)(w:aY)(hx:dQ x)(htab:lW w):bH aQ 169 #[aH aF x] w λe w' =>e=aM (aI ⟨(Lib.itoa x).toArray⟩)/\bA w.heap.size w w' :=by
 have HI:=bE (Ix x w hx htab);clear hx htab;go_enter func169,ntmps169;go_wp2_with fail
 refine(aN HI).mono ?_;rintro e w1 ⟨rfl,hb⟩;have HB:=bE hb;clear hb;go_wp2;go_ret;exact⟨rfl,aN HB⟩
theorem F7 (s:ByteArray)(w:aY):bH aQ 181 #[aI s] w λe w' =>e=aM (aI s)/\w' =w:=by
 go_enter func181,ntmps181;go_wp2;go_ret;exact⟨rfl,rfl⟩
theorem C5 (s:ByteArray)(a b c:Int)(w:aY):bH aQ 170 #[bM #[aI s,aH aF a,aH aF b,aH aF c]] w λe w' =>e=aM (aI s)/\bA w.heap.size w w' :=by
 go_enter func170,ntmps170;go_wp2;go_ret;exact⟨rfl,(bF _ _).alloc (bD _) _⟩
theorem Tw (s:ByteArray)(t:Int)(w:aY)(ht:dQ t)(htab:lW w):bH aQ 172 #[bM #[aI s,aH aF t]] w λe w' =>e=aM (aI ⟨(35::Lib.itoa t).toArray⟩)/\bA w.heap.size w w' :=by
 have kO:bA w.heap.size w (w.alloc (aU #[aI s,aH aF t] 127)):=(bF _ _).alloc (bD _) _;have HI:=bE (Ix t (w.alloc (aU #[aI s,aH aF t] 127)) ht (eU htab (kO.block _ (lD htab))));have hlen:=tR t ht.1 ht.2;have HB0:=bE kO;clear ht htab kO;go_enter func172,ntmps172;go_wp2_with fail
 refine(aN HI).mono ?_;rintro e w1 ⟨rfl,hb⟩;have hs:(⟨(Lib.itoa t).toArray⟩:ByteArray).size<=20:=by simpa[ByteArray.size] using hlen
 have hd:(⟨#[35]⟩++⟨(Lib.itoa t).toArray⟩:ByteArray)=⟨(35::Lib.itoa t).toArray⟩:=by
  apply ByteArray.ext;apply Array.ext';simp
 generalize(⟨(Lib.itoa t).toArray⟩:ByteArray)=D at*;have HB:=bE ((aN HB0).trans (hb.mono (aN HB0).size));have HD:=bE hd;clear hb hlen hd;go_wp2;go_ret;exact⟨Al (by rw[aN HD];rfl),aN HB⟩
def sJ (c:N.Cell):List UInt8:=if c.kind=1 then Lib.itoa c.n else if c.kind=2 then 35::Lib.itoa (1000+c.n) else c.name
theorem Ly {o:Own}{nm:List UInt8}{tok:Int}(h:uZ w o nm tok):∃T v,iW o=bO T v/\
 (∀F:Nat,(method (F+1) T v "String").run aQ w=.ok (172,bM #[aI ⟨nm.toArray⟩,aH aF tok]) w):=by
 cases o with
 |defn b=>
  obtain⟨x,h⟩:=h;have c0:=cq 0 h rfl;have c1:=cq 1 h rfl;refine⟨_,_,rfl,λF=>?_⟩;rw[show(method (F+1) 122 (aK (aE ⟨b,0,aC⟩)) "String").run aQ w=(do let v <-loadVar 127 ⟨b,0,aC⟩;pure (172,v):Sem (FuncId×aG)).run aQ w by kernel_rfl]
  simp[go_sem,c0,c1]
 |qW b=>
  obtain⟨x,h⟩:=h;have c0:=cq 0 h rfl;have c1:=cq 1 h rfl;refine⟨_,_,rfl,λF=>?_⟩;rw[show(method (F+1) 124 (aK (aE ⟨b,0,aC⟩)) "String").run aQ w=(do let v <-loadVar 127 ⟨b,0,aC⟩;pure (172,v):Sem (FuncId×aG)).run aQ w by kernel_rfl]
  simp[go_sem,c0,c1]
 |cons n t x=>
  obtain⟨rfl,rfl⟩:=h;exact⟨_,_,rfl,λF=>by kernel_rfl⟩
 |mark n t=>
  obtain⟨rfl,rfl⟩:=h;exact⟨_,_,rfl,λF=>by kernel_rfl⟩
theorem Jj:∀p∈L.oY++L.sV,p.name.length<=8:=by decide+kernel
theorem Qc {s:List UInt8}{p:L.Prim}(h:L.find s=aE p):p.name=s/\s.length<=8:=by
 have h1:=List.find?_some h;have h2:=List.mem_of_find?_eq_some h;have e:s=p.name:=by simpa using h1
 exact⟨e.symm,by rw[e];exact Jj p h2⟩
theorem Kj {s:List UInt8}(h:N.inner s=aX):s.length<=8:=by
 obtain⟨b,hb,he⟩:=List.any_eq_true.1 h;have e:s=b:=by simpa using he
 have key:∀b∈[N.kX,N.mM,N.fA,N.iQ,N.dT,N.jQ,N.jW,N.eN,N.gB,N.iR,N.eK,N.wI,N.fD,N.sW],b.length<=8:=by decide+kernel
 rw[e];exact key b hb
def ZW (w:aY) (v:aG) (s:List UInt8):Prop:=s.length<=30/\∃T x,v=bO T x/\∃f recv,(∀args W,(callFunc f args).run aQ W=.ok (.enter f args) W)/\(∀W,bA w.heap.size w W->∀F:Nat,(method (F+1) T x "String").run aQ W=.ok (f,recv) W)/\
 ∀W,bA w.heap.size w W->bH aQ f #[recv] W λe W' =>e=aM (aI ⟨s.toArray⟩)/\bA W.heap.size W W'
variable {all:List N.iM}{wv:List Own}
theorem PS (h:jE w all wv vO vB)(htab:lW w)(j:Nat)(c:N.Cell)(g:Nat)(hc:lI all j c)(hj:j<all.length):ZW w (fB wv (c,g)) (sJ c):=by
 have tabW:∀W,bA w.heap.size w W->lW W:=λW hb=>eU htab (hb.block _ (lD htab))
 have hold:=h.qU;rcases hc with ⟨hk,hn⟩|⟨hk,k,e,hn,VH,he,kY⟩|⟨hk,hf⟩|⟨hk,hi⟩
 ·have e1:fB wv (c,g)=bO 117 (aH aF c.n):=eJ hk;have e2:sJ c=Lib.itoa c.n:=eJ hk;rw[e1,e2];have hl:=tR c.n hn.1 hn.2;exact⟨by omega,_,_,rfl,169,aH aF c.n,enters_of func169 (by kernel_rfl) rfl,λW _ F=>by kernel_rfl,λW hb=>BP c.n W hn (tabW W hb)⟩
 ·obtain⟨o,ho⟩:∃o,wv[k]?=aE o:=⟨_,bL (by rw[h.len];omega)⟩
  have e1:fB wv (c,g)=iW o:=by
   show(if c.kind=1 then _ else if c.kind=2 then((wv[c.n.toNat]?).map iW).getD .nilIface else _)=_;rw[dL (by omega),eJ hk,hn];simp[ho]
  have e2:sJ c=35::Lib.itoa (1000+(k:Int)):=by
   unfold sJ;rw[dL (by omega),eJ hk,hn]
  rw[e1,e2];have nM:dQ (1000+(k:Int)):=⟨by omega,by omega⟩
  have hl:=tR _ nM.1 nM.2;obtain⟨T,x,hv,_⟩:=Ly ((h.tA k e o he ho kY).head);refine⟨by simp only[cX];omega,T,x,hv,172,bM #[aI ⟨e.name.toArray⟩,aH aF (1000+(k:Int))],enters_of func172 (by kernel_rfl) rfl,λW hb=>?_,λW hb=>Tw _ _ W nM (tabW W hb)⟩;obtain⟨T2,x2,En,hm⟩:=Ly (((h.below hb).tA k e o he ho kY).head);have e3:bO T x=bO T2 x2:=hv.symm.trans En;clear hv En;injection e3 with e3 e4;rw[e3,e4];exact hm
 ·obtain⟨p,hp⟩:=Option.isSome_iff_exists.1 hf;obtain⟨Mh,hl⟩:=Qc hp;have e1:fB wv (c,g)=bO 120 (dD p):=by
   show(if c.kind=1 then _ else if c.kind=2 then _ else if c.kind=3 then((L.find c.name).map λp=>bO 120 (dD p)).getD .nilIface else _)=_;rw[dL (by omega),dL (by omega),eJ hk,hp];rfl
  have e2:sJ c=p.name:=by
   unfold sJ;rw[dL (by omega),dL (by omega),Mh]
  rw[e1,e2];exact⟨by rw[Mh];omega,_,_,rfl,170,dD p,enters_of func170 (by kernel_rfl) rfl,λW _ F=>by kernel_rfl,λW _=>C5 _ _ _ _ W⟩
 ·have hl:=Kj hi;have e1:fB wv (c,g)=bO 196 (bM #[aI ⟨c.name.toArray⟩,aH aF g]):=by
   show(if c.kind=1 then _ else if c.kind=2 then _ else if c.kind=3 then _ else bO 196 (bM #[aI ⟨c.name.toArray⟩,aH aF g]))=_;rw[dL (by omega),dL (by omega),dL (by omega)]
  have e2:sJ c=c.name:=by
   unfold sJ;rw[dL (by omega),dL (by omega)]
  rw[e1,e2];refine⟨by omega,_,_,rfl,181,aI ⟨c.name.toArray⟩,enters_of func181 (by kernel_rfl) rfl,λW _ F=>by kernel_rfl,λW _=>(F7 _ W).mono ?_⟩;rintro e W' ⟨rfl,rfl⟩;exact⟨rfl,bF _ _⟩
def mV (ss:List (List UInt8)):List UInt8:=58::(ss.map λs=>32::s).flatten
theorem Xv (ss:List (List UInt8))(k:Nat)(s:List UInt8)(h:ss[k]?=aE s):mV (ss.take (k+1))=mV (ss.take k)++32::s:=by
 have hk:=(bI.1 h).1;rw[bL hk] at h;injection h with h;unfold mV;rw[dF hk,h];simp
theorem L2 (ss:List (List UInt8))(h:∀s∈ss,s.length<=30):(mV ss).length<=1+31*ss.length:=by
 unfold mV
 induction ss with
 |nil=>simp
 |cons s ss ih=>
  have h1:=ih λx hx=>h x (by simp[hx])
  have h2:=h s (by simp);simp only[List.map_cons,List.flatten_cons,cX,bN] at h1 ⊢;omega
theorem VW (w:aY)(b:Nat)(nm:ByteArray)(tok:Int)(aB:Option Addr)(cB:Nat)(vs:List aG)(ss:List (List UInt8))(hb:w.heap[b]?=aE (aU #[aI nm,aH aF tok,aJ aB vs.length cB] 180))(hn:vs.length<=60)(hl:vs.length=ss.length)(Gn:∀(k:Nat) (v:aG),vs[k]?=aE v->∃g,aB=aE ⟨g,0,aC⟩/\w.cell? ⟨g,k,aC⟩=aE v)(N6:∀(k:Nat) (v:aG) (s:List UInt8),vs[k]?=aE v->ss[k]?=aE s->ZW w v s):
 bH aQ 173 #[aK (aE ⟨b,0,aC⟩)] w λe w' =>e=aM (aI ⟨(mV ss).toArray⟩)/\bA w.heap.size w w' :=by
 have c2:=cq 2 hb rfl;have eQ:=cC hb;have HC:=bE Gn;have HS:=bE N6;have kA:∀s∈ss,s.length<=30:=by
  intro s hs;obtain⟨k,hk⟩:=List.getElem?_of_mem hs;obtain⟨v,hv⟩:∃v,vs[k]?=aE v:=⟨_,bL (by rw[hl];exact(bI.1 hk).1)⟩
  exact(N6 k v s hv hk).1
 have HA:=bE kA;clear Gn N6 hb kA;generalize Ru:vs.length=n at*;have HN:=bE Ru;clear Ru;have fresh:=Lib.fresh_isBuilder 249 5 w;have kO:bA w.heap.size w (w.alloc (aU #[aK aC,aJ aC 0 0] 249)):=(bF _ _).alloc (bD _) _;have HW:=bE (Vo w.heap.size w.heap.size [] ⟨#[58]⟩ _ fresh (by simp[ByteArray.size]) kO.size);have HB0:=bE kO;clear fresh kO;go_enter func173,ntmps173;go_wp2_with fail
 refine(aN HW).mono ?_;rintro e w1 ⟨rfl,hB1,fF⟩;have bq:=(aN HB0).trans fF;have d2:w1.cell? ⟨b,2,aC⟩=aE (aJ aB n cB):=((eI bq).1 b 2 eQ).trans c2;have H1:=bE (bK hB1 bq);clear hB1 fF bq HW;go_wp2
 go_loopw [12] (λi wr=>∃k:Nat,k<=n/\i=aH aF k/\Lib.BuilderAt 249 5 w.heap.size w.heap.size (aK (aE ⟨w.heap.size,0,aC⟩)) (Lib.byteCells (mV (ss.take k))) wr/\bA w.heap.size w wr) (λi _=>match i with|aH _ k=>n-k.toNat|_=>0)
 case atStart=>exact⟨0,bZ _,rfl,(aN H1).1,(aN H1).2⟩
 case round=>
  obtain⟨k,hk,rfl,hB,hbr⟩:=hrel;by_cases Mp:k<n
  ·have k1:(k:Int)<(n:Int):=by omega
   have k0:(0:Int)<=(k:Int):=by omega
   have k2:=wi ((k:Int)+1);obtain⟨v,hv⟩:∃v,vs[k]?=aE v:=⟨_,bL (by rw[aN HN];exact Mp)⟩
   obtain⟨s,hs⟩:∃s,ss[k]?=aE s:=⟨_,bL (by omega)⟩
   obtain⟨g,rfl,hc⟩:=aN HC k v hv;obtain⟨xJ,T,x,rfl,f,recv,pM,hm,gQ⟩:=aN HS k v s hv hs;have c3:wr.cell? ⟨g,k,aC⟩=aE (bO T x):=((eI hbr).1 g k (eG hc)).trans hc;have qV:=hm wr hbr;have Tk:=gQ wr hbr;have jT:=Xv ss k s hs;have hlen:=L2 (ss.take k) (λt ht=>aN HA t (List.mem_of_mem_take ht));have hlk:(ss.take k).length<=60:=by simp;omega
   have hsz:(⟨s.toArray⟩:ByteArray).size<=30:=by simpa[ByteArray.size] using xJ
   have hcat:Lib.strCells (⟨#[32]⟩++⟨s.toArray⟩)=Lib.byteCells (32::s):=by simp[Lib.strCells,Lib.byteCells]
   generalize hS:(⟨s.toArray⟩:ByteArray)=S at*;have HR:=bE (bK hB (bK hbr (bK jT (bK hlen (bK hlk hcat)))));have HCa:=bE Tk;clear hB hbr jT hlen hlk hcat Tk gQ hm hc xJ hv hs hS;go_wp2_with fail
   refine(aN HCa).mono ?_;rintro e w2 ⟨rfl,eD⟩;have hr:=aN HR;have hB2:Lib.BuilderAt 249 5 w.heap.size w.heap.size (aK (aE ⟨w.heap.size,0,aC⟩)) (Lib.byteCells (mV (ss.take k))) w2:=by
    obtain⟨q1,v1,q2,q3,q4⟩:=hr.1;refine⟨q1,v1,(eD.block _ (cC q2)).trans q2,?_,q4⟩;exact cK q3 λk e=>eD.block k (q3.lt k e).2
   have MH:=hr.2.1.trans (eD.mono hr.2.1.size);have hw:=Vo w.heap.size w.heap.size (Lib.byteCells (mV (ss.take k))) (⟨#[32]⟩++S) w2 (.inr hB2) (by
    have h1:=hr.2.2.2.1;have h2:=hr.2.2.2.2.1;have h3:(Lib.byteCells (mV (ss.take k))).length=(mV (ss.take k)).length:=by simp[Lib.byteCells]
    have h4:(⟨#[32]⟩++S:ByteArray).size=1+S.size:=by rw[ByteArray.size_append];rfl
    omega) MH.size
   have HW2:=bE (bK hw MH);clear hr hB2 MH hw eD;go_wp2_with fail
   refine(aN HW2).1.mono ?_;rintro e w3 ⟨rfl,hB3,eW⟩;have hr:=aN HR;rw[hr.2.2.2.2.2,<-show Lib.byteCells (mV (ss.take k)++32::s)=Lib.byteCells (mV (ss.take k))++Lib.byteCells (32::s) by simp[Lib.byteCells],<-hr.2.2.1] at hB3;have H3:=bE (bK hB3 ((aN HW2).2.trans eW));clear hB3 eW hr;go_wp2;refine⟨⟨k+1,by omega,by simp,(aN H3).1,(aN H3).2⟩,?_⟩;show n-((k:Int)+1).toNat<n-(k:Int).toNat;omega
  ·have k1:¬(k:Int)<(n:Int):=by omega
   have O0:ss.take k=ss:=eB (by omega);rw[O0] at hB;have N6:=Tryz.Builder_String w.heap.size w.heap.size (mV ss) wr (.inr hB) (by unfold mV;simp);have HB:=bE (bK N6 hbr);clear hB hbr N6 O0;go_wp2_with fail
   refine(aN HB).1.mono ?_;rintro e w2 ⟨rfl,eD⟩;have uG:=bE ((aN HB).2.trans eD);clear eD;go_wp2;go_ret;exact⟨rfl,aN uG⟩
theorem Ed {x:Int}(h:dQ x):(kM x).size<=20:=by
 obtain⟨h0,h1⟩:=h;have h2:(Lib.itoa x).length<=20:=by
  unfold Lib.itoa
  split
  ·have:=qN x.natAbs (by omega);simp;omega
  ·have:=qN x.toNat (by omega);omega
 simpa[kM,ByteArray.size] using h2
theorem Ny (pre:List UInt8)(x:Int):((⟨pre.toArray⟩:ByteArray)++kM x)=⟨(pre++Lib.itoa x).toArray⟩:=kP _ _
theorem WT (T:List UInt8)(x:Int):(((⟨T.toArray⟩:ByteArray)++(⟨#[32]⟩:ByteArray))++kM x)=⟨(T++32::Lib.itoa x).toArray⟩:=by
 rw[show(⟨#[32]⟩:ByteArray)=⟨([32]:List UInt8).toArray⟩ from rfl,kP T [32]];exact(Ny (T++[32]) x).trans (by rw[List.append_assoc];rfl)
theorem PQ (T:List UInt8)(x:Int):(((⟨T.toArray⟩:ByteArray)++(⟨#[32,35]⟩:ByteArray))++kM x)=⟨(T++32::35::Lib.itoa x).toArray⟩:=by
 rw[show(⟨#[32,35]⟩:ByteArray)=⟨([32,35]:List UInt8).toArray⟩ from rfl,kP T [32,35]];exact(Ny (T++[32,35]) x).trans (by rw[List.append_assoc];rfl)
variable {v:aG}
theorem FA {a b:ByteArray}(h:a=b):aM (bC #[aI a,v])=aM (bC #[aI b,v]):=by rw[h]
def xX (b:List N.Cell) (k:Nat):List UInt8:=[58]++((b.take k).map N.nX).flatten
variable {c:N.Cell}
theorem AO {b:List N.Cell}(h:b[k]?=aE c):xX b (k+1)=xX b k++N.nX c:=by
 obtain⟨hk,he⟩:=bI.1 h;unfold xX;rw[dF hk,List.map_append,List.flatten_append,he];simp
variable {j:Nat}
theorem E7 (h:lI all j c)(hj:j<=1000000000000):(N.nX c).length<=30:=by
 have key:∀x:Int,dQ x->(Lib.itoa x).length<=20:=λx hx=>by simpa[kM,ByteArray.size] using Ed hx
 unfold N.nX;rcases h with ⟨h1,nM⟩|⟨h2,k,e,hn,eQ,_,_⟩|⟨h3,hf⟩|⟨h4,nM⟩
 ·rw[eJ h1];have:=key c.n nM;simp;omega
 ·rw[dL (by omega),eJ h2];have:=key (1000+c.n) ⟨by omega,by omega⟩;simp;omega
 ·rw[dL (by omega),dL (by omega)];obtain⟨p,hp⟩:=Option.isSome_iff_exists.1 hf;have:=(Qc hp).2;simp;omega
 ·rw[dL (by omega),dL (by omega)];have:=Kj nM;simp;omega
theorem OG (w:aY)(rb:Nat)(vA vS vR:aG)(bs:List aG)(m:N.cE)(name:N.eE)(h:cH w rb vA vS vR bs m)(wM:Ka m):
 bH aQ 39 #[aK (aE ⟨rb,0,aC⟩),aI ⟨name.toArray⟩] w λe w' =>e=aM (bC #[aI ⟨(N.GX m name).1.toArray⟩,aH aF (N.GX m name).2])/\bA w.heap.size w w' :=by
 have eY:bH aQ 49 #[aK (aE ⟨rb,0,aC⟩),aI ⟨name.toArray⟩] w λe w' =>e=aM (nJ (N.fP m name))/\w' =w:=uK w rb vA vS vR bs m ⟨name.toArray⟩ h
 unfold N.GX;cases hk:N.fP m name with
 |none=>
  rw[hk] at eY;have HN:=bE eY;unfold nJ at HN;clear eY hk h wM;go_enter func39,ntmps39;go_wp2_with fail
  refine(aN HN).mono ?_;rintro e iF ⟨rfl,mG⟩;subst iF;go_wp2;go_ret2;exact⟨rfl,bF _ _⟩
 |some k=>
  rw[hk] at eY;obtain⟨Hd,e,he,kY⟩:=vN hk;have HN:=bE eY;unfold nJ at HN;have hf:=wM k e he kY;have hold:=h.qU;have IA:dQ e.n:=h.ni e (cG he);obtain⟨g,cap,v,rE,NL,hglt,q0,q1,q2,q3,q4,q5,_⟩:=h.tA he;obtain⟨fL,hlen⟩:=h.Xa k e v he NL kY;obtain⟨av,cv,hv⟩:∃a c,v=aJ a e.body.length c:=by
   rcases fL.2 with ⟨h1,h2⟩|⟨_,_,_,h1,_⟩
   ·exact⟨aC,0,by rw[h1,h2]⟩
   ·exact⟨_,_,h1⟩
  subst hv;have c0:w.cell? ⟨rb,0,aC⟩=aE (aJ (aE ⟨g,0,aC⟩) m.all.length cap):=by rw[<-rE];exact aZ h.mc rfl
  have k1:(k:Int)<(m.all.length:Int):=by omega
  have k0:¬(k:Int)<0:=by omega
  have k3:(0:Int)<=(k:Int):=by omega
  have hsz:=Ed IA;simp only[he];have HD:=bE (λW:aY=>An e.n W IA.1 IA.2);rcases hf.kind with Ha|Ha|Ha|Ha
  ·rw[dL (by omega),dL (by omega),dL (by omega)];rw[Ha] at q1;have q1:w.cell? ⟨g,k*6+1,aC⟩=aE (aH aF 1):=q1;have Gn:∀a,a<e.body.length->∃gb,av=aE ⟨gb,0,aC⟩/\Ax w gb e.body:=λa ha=>by
    rcases fL.2 with ⟨h1,h2⟩|⟨gb,cap,cur,h1,_,hg,hle,_,hs,ht⟩
    ·omega
    ·injection h1 with h1 _ _;refine⟨gb,h1,λj c hjc=>?_⟩;have Q8:=(bI.1 hjc).1;have uM:∀f x,f<3->(pF c)[f]?=aE x->w.cell? ⟨gb,j*3+f,aC⟩=aE x:=λf x hf hx=>by
      have h1:=yW e.body j c f hjc hf;rw[<-ht,List.getElem?_take,eJ (by omega),hx] at h1;rw[cell_of_row w gb (j*3+f) cur _ (0,0) hg,<-Array.getElem?_toList];exact h1
     exact⟨uM 0 _ (by omega) rfl,uM 1 _ (by omega) rfl,uM 2 _ (by omega) rfl⟩
   have HC:=bE Gn;have HOk:=bE hf.ok;have Lc:xX e.body e.body.length=[58]++(e.body.map N.nX).flatten:=by unfold xX;rw[List.take_length]
   rw[<-Lc];clear eY hk h wM hf Gn fL rE NL he Lc Ha IA hsz;generalize UA:m.all.length=nA at*;generalize Fx:e.body.length=n at*;have Hnb:=bE Fx;clear UA Fx;go_enter func39,ntmps39;go_wp2_with fail
   refine(aN HN).mono ?_;rintro e' iF ⟨rfl,mG⟩;subst iF;go_wp2;have Fx:(w.alloc (aU #[aI ⟨e.name.toArray⟩,aH aF 1,aH aF e.n,aJ av n cv,bB aX,bB e.gone] 98)).heap[w.heap.size]?=aE (aU #[aI ⟨e.name.toArray⟩,aH aF 1,aH aF e.n,aJ av n cv,bB aX,bB e.gone] 98):=heap_alloc_new w _;have YZ:=bE Fx;clear Fx
   go_loopw [8,9] (λsv i wr=>∃j:Nat,j<=n/\i=aH aF j/\sv=aI ⟨(xX e.body j).toArray⟩/\(xX e.body j).length<=1+30*j/\bA w.heap.size w wr/\wr.cell? ⟨w.heap.size,3,aC⟩=aE (aJ av n cv)/\w.heap.size<wr.heap.size) (λ_ i _=>match i with|aH _ j=>n-j.toNat|_=>0)
   case atStart=>exact⟨0,bZ _,rfl,rfl,bD _,(bF _ _).alloc (bD _) _,aZ (aN YZ) rfl,cC (aN YZ)⟩
   case round=>
    obtain⟨j,hj,rfl,rfl,hlj,hb,cb,hlw⟩:=hrel;clear YZ HN c0 q0 q1 q2 q3 q4 q5 HD;by_cases eQ:j<n
    ·obtain⟨c,hc⟩:∃c,e.body[j]?=aE c:=⟨_,bL (by rw[aN Hnb];exact eQ)⟩
     obtain⟨gb,Hf,Q6⟩:=aN HC j eQ;obtain⟨p0,p1,p2⟩:=Q6 j c hc;have zW:=eG p0;rw[<-hb.cell (p:=⟨gb,j*3,aC⟩) zW] at p0;rw[<-hb.cell (p:=⟨gb,j*3+1,aC⟩) zW] at p1;rw[<-hb.cell (p:=⟨gb,j*3+2,aC⟩) zW] at p2;have hgl2:=eG p0;have xF:=aN HOk c (cG hc);have lC:=AO hc;have nQ:=E7 xF (by omega);have sY:(xX e.body (j+1)).length<=1+30*(j+1):=by
      rw[lC,bN];omega
     have k4:(j:Int)<(n:Int):=by omega
     have k5:(0:Int)<=(j:Int):=by omega
     have k6:=wi ((j:Int)+1);have hss:(⟨(xX e.body j).toArray⟩:ByteArray).size<=2000:=by
      show(xX e.body j).toArray.size<=2000;simp;omega
     have dec:n-((j:Int)+1).toNat<n-(j:Int).toNat:=by omega
     have fin:∀(B:ByteArray) (W:aY),B=⟨(xX e.body j++N.nX c).toArray⟩->W=wr.alloc (aU #[aH aF c.kind,aH aF c.n,aI ⟨c.name.toArray⟩] 101)->(∃j' :Nat,j' <=n/\aH aF ((j:Int)+1)=aH aF j'/\aI B=aI ⟨(xX e.body j').toArray⟩/\(xX e.body j').length<=1+30*j' /\bA w.heap.size w W/\W.cell? ⟨w.heap.size,3,aC⟩=aE (aJ av n cv)/\w.heap.size<W.heap.size)/\n-((j:Int)+1).toNat<n-(j:Int).toNat:=λB W hB hW=>by
      subst hW;refine⟨⟨j+1,by omega,by simp,by rw[hB,lC],sY,hb.alloc hb.size _,bJ cb _,?_⟩,dec⟩;show w.heap.size<(wr.alloc _).heap.size;simp;omega
     have Fin:=bE fin;clear fin lC sY hlj Q6 hc dec;subst Hf;generalize hSS:(⟨(xX e.body j).toArray⟩:ByteArray)=SS at*;have HSS:=bE hSS;clear hSS;rcases xF with ⟨xI,nM⟩|⟨tC,jj,ee,hn,lT,_,_⟩|⟨TX,hfi⟩|⟨Gx,nM⟩
     ·have HT:=bE (show N.nX c=32::Lib.itoa c.n from eJ xI);rw[xI] at p0 Fin;have p0:wr.cell? ⟨gb,j*3,aC⟩=aE (aH aF 1):=p0;have HD:=bE (λW:aY=>An c.n W nM.1 nM.2);have Vg:=Ed nM;generalize Mm:kM c.n=D at*;have DK:=bE Mm;clear Mm xI nM nQ;go_wp2_with fail
      refine(aN HD _).mono ?_;rintro e' iF ⟨rfl,mG⟩;subst iF;go_wp2;refine aN Fin _ _ ?_ rfl;rw[<-aN HSS,<-aN DK,aN HT];exact WT _ _
     ·have HT:=bE (show N.nX c=32::35::Lib.itoa (1000+c.n) from(dL (by omega)).trans (eJ tC));have nM:dQ (1000+c.n):=⟨by omega,by omega⟩
      rw[tC] at p0 Fin;have p0:wr.cell? ⟨gb,j*3,aC⟩=aE (aH aF 2):=p0;have HD:=bE (λW:aY=>An (1000+c.n) W nM.1 nM.2);have k7:aF.wrap (1000+c.n)=1000+c.n:=wj;have Vg:=Ed nM;generalize Mm:kM (1000+c.n)=D at*;have DK:=bE Mm;clear Mm tC nM nQ hn lT;generalize c.n=cn at*;go_wp2_with fail
      refine(aN HD _).mono ?_;rintro e' iF ⟨rfl,mG⟩;subst iF;go_wp2;refine aN Fin _ _ ?_ rfl;rw[<-aN HSS,<-aN DK,aN HT];exact PQ _ _
     ·have HT:=bE (show N.nX c=32::c.name from(dL (by omega)).trans (dL (by omega)));obtain⟨pp,ZQ⟩:=Option.isSome_iff_exists.1 hfi;have Vg:(⟨c.name.toArray⟩:ByteArray).size<=8:=by
       show c.name.toArray.size<=8;have:=(Qc ZQ).2;simpa using this
      rw[TX] at p0 Fin;have p0:wr.cell? ⟨gb,j*3,aC⟩=aE (aH aF 3):=p0;generalize Mm:(⟨c.name.toArray⟩:ByteArray)=D at*;have DK:=bE Mm;clear Mm TX hfi nQ ZQ;go_wp2;refine aN Fin _ _ ?_ rfl;rw[<-aN HSS,<-aN DK,aN HT];rw[show(⟨#[32]⟩:ByteArray)=⟨([32]:List UInt8).toArray⟩ from rfl,kP,kP,List.append_assoc];rfl
     ·have HT:=bE (show N.nX c=32::c.name from(dL (by omega)).trans (dL (by omega)));have Vg:(⟨c.name.toArray⟩:ByteArray).size<=8:=by
       show c.name.toArray.size<=8;have:=Kj nM;simpa using this
      rw[Gx] at p0 Fin;have p0:wr.cell? ⟨gb,j*3,aC⟩=aE (aH aF 4):=p0;generalize Mm:(⟨c.name.toArray⟩:ByteArray)=D at*;have DK:=bE Mm;clear Mm Gx nM nQ;go_wp2;refine aN Fin _ _ ?_ rfl;rw[<-aN HSS,<-aN DK,aN HT];rw[show(⟨#[32]⟩:ByteArray)=⟨([32]:List UInt8).toArray⟩ from rfl,kP,kP,List.append_assoc];rfl
    ·have k4:¬(j:Int)<(n:Int):=by omega
     obtain rfl:j=n:=by omega
     have HB:=bE hb;clear hb hlj;go_wp2;go_ret2;exact⟨rfl,aN HB⟩
  ·rw[eJ Ha];rw[Ha] at q1;have q1:w.cell? ⟨g,k*6+1,aC⟩=aE (aH aF 2):=q1;clear eY hk h wM hf fL rE NL he Ha IA;generalize m.all.length=nA at*;generalize e.body.length=n at*;generalize Mm:kM e.n=D at*;have DK:=bE Mm;clear Mm;go_enter func39,ntmps39;go_wp2_with fail
   refine(aN HN).mono ?_;rintro e' iF ⟨rfl,mG⟩;subst iF;go_wp2_with fail
   refine(aN HD _).mono ?_;rintro e' iF ⟨rfl,mG⟩;subst iF;go_wp2;go_ret2;exact⟨FA (by rw[<-aN DK];exact Ny _ _),(bF _ _).alloc (bD _) _⟩
  ·rw[dL (by omega),eJ Ha];rw[Ha] at q1;have q1:w.cell? ⟨g,k*6+1,aC⟩=aE (aH aF 3):=q1;clear eY hk h wM hf fL rE NL he Ha IA;generalize m.all.length=nA at*;generalize e.body.length=n at*;generalize Mm:kM e.n=D at*;have DK:=bE Mm;clear Mm;go_enter func39,ntmps39;go_wp2_with fail
   refine(aN HN).mono ?_;rintro e' iF ⟨rfl,mG⟩;subst iF;go_wp2_with fail
   refine(aN HD _).mono ?_;rintro e' iF ⟨rfl,mG⟩;subst iF;go_wp2;go_ret2;exact⟨FA (by rw[<-aN DK];exact Ny _ _),(bF _ _).alloc (bD _) _⟩
  ·rw[dL (by omega),dL (by omega),eJ Ha];rw[Ha] at q1;have q1:w.cell? ⟨g,k*6+1,aC⟩=aE (aH aF 4):=q1;clear eY hk h wM hf fL rE NL he Ha IA HD hsz;generalize m.all.length=nA at*;generalize e.body.length=n at*;go_enter func39,ntmps39;go_wp2_with fail
   refine(aN HN).mono ?_;rintro e' iF ⟨rfl,mG⟩;subst iF;go_wp2;go_ret2;exact⟨rfl,(bF _ _).alloc (bD _) _⟩
end
theorem Co {b:Nat} {t:TypeId}:∀(vs:List aG) (o:Nat) (w:aY) (cur:Array aG),w.heap[b]?=aE (aU cur t)->∃cur',(w.setCells b o vs).heap[b]?=aE (aU cur' t)/\cur'.size=cur.size
 |[],_,_,cur,h=>⟨cur,h,rfl⟩
 |v::r,o,w,cur,h=>by
  obtain⟨c2,h2,h3⟩:=Co r (o+1) _ _ (bV h o v);exact⟨c2,h2,by rw[h3];simp⟩
theorem Cs {b:Nat}:∀(vs:List aG) (o:Nat) (w:aY),w.grownBy (w.setCells b o vs) (aE b)
 |[],_,w=>⟨rfl,rfl,rfl,bD _,λ_ _ _=>rfl⟩
 |v::r,o,w=>by
  have ih:=Cs (b:=b) r (o+1) (w.setCell ⟨b,o,aC⟩ v);have hs:(w.setCell ⟨b,o,aC⟩ v).heap.size=w.heap.size:=by simp[aY.setCell]
  exact⟨ih.os,ih.tape,ih.output,by have:=ih.size;rw[hs] at this;exact this,λk hk hn=>(ih.block k (by rw[hs];exact hk) hn).trans (bA.heap_setCell _ _ _ _ λe=>hn (by rw[e]))⟩
theorem Iw {w:aY} {base e n g cap:Nat} {cur:Array aG} {xs:List aG} (hl:xs.length=n) (hb:base<=g) (hg:w.heap[g]?=aE (aU cur e)) (hle:n<=cap) (hm:cap<=maxLen) (hs:cur.size=cap) (hc:∀j u,xs[j]?=aE u->w.cell? ⟨g,j,aC⟩=aE u):w.ownsRow base e 1 (aJ (aE ⟨g,0,aC⟩) n cap) n xs:=by
 refine⟨by rw[hl,Nat.mul_one],.inr ⟨g,cap,cur,rfl,hb,hg,hle,hm,by rw[hs,Nat.mul_one],?_⟩⟩;apply List.ext_getElem?;intro j;rw[List.getElem?_take];by_cases hj:j<n*1
 ·rw[eJ hj];obtain⟨u,hu⟩:∃u,xs[j]?=aE u:=⟨_,bL (by omega)⟩
  rw[hu];have:=hc j u hu;rw[cell_of_row w g j cur e (0,0) hg,<-Array.getElem?_toList] at this;exact this
 ·rw[dL hj,dZ (by omega)]
theorem tP {w:aY} {B B' e z n:Nat} {v:aG} {xs:List aG} (h:w.ownsRow B e z v n xs) (hb:B' <=B):w.ownsRow B' e z v n xs:=by
 refine⟨h.1,?_⟩;rcases h.2 with h1|⟨g,cap,cur,h2,h3,h4⟩
 ·exact .inl h1
 ·exact .inr ⟨g,cap,cur,h2,cF hb h3,h4⟩
theorem lJ {P:Program} (w:aY) {ops:Array Oper} {rest:List Oper} {o:Oper} {a:Act} {Q:Exit->Act->aY->Prop}
 (MF:o.guard=aC) (s x:Operand) (t:TypeId) (ho:o.op=.call {callee:=.builtin .append,args:=#[s,x],argTypes:=#[t,t]})
 (base:Nat) (e:TypeId) (i:TypeInfo) (z:aG) (bytes:Nat) (ht:P.underlying t=aE (TypeDesc.slice e)) (hi:P.info? e=aE i) (hz:i.zero=aE z) (tH:i.size=1) (jP:i.bytes=bytes) (hzs:z.cells.size=1)
 (v:aG) (n:Nat) (xs:List aG) (hs:a.eval s=v) (fK:w.ownsRow base e 1 v n xs)
 (ad:Addr) (m c:Nat) (news:List aG) (hx:a.eval x=aJ (aE ad) m c) (hl:news.length=m) (ch:∀j u,news[j]?=aE u->w.cell? (ad.add j)=aE u) (h1:∀u∈news,u.oneCell' =aX)
 (hm:0<m) (P5:n+m<=maxLen) (rD:(n+m)*bytes<=140737488355328) (az:base<=w.heap.size)
 (h:∀g cap w',w'.ownsRow base e 1 v n xs->w'.ownsRow base e 1 (aJ (aE ⟨g,0,aC⟩) (n+m) cap) (n+m) (xs++news)->w.grownBy w' v.ownBlock->(v.ownBlock=aE g\/w.heap.size<=g)->wpList P ops Q rest (a.put o.dst (aJ (aE ⟨g,0,aC⟩) (n+m) cap)) w'):wpList P ops Q (o::rest) a w:=by
 have hxl:xs.length=n:=by have:=fK.1;omega
 rcases fK.2 with ⟨hv,hn⟩|⟨g,cap,cur,hv,hbg,hg,hle,dm,hsz,Iz⟩
 ·have GE:xs=[]:=List.eq_nil_of_length_eq_zero (by omega);subst GE;subst hn;subst hv;refine wpList_append_grows w MF s x t ho e i z 1 bytes ht hi hz tH jP hzs (by decide) aC 0 0 [] hs (λ_=>⟨rfl,rfl⟩) rfl (λb hb=>by cases hb) ad m c news hx (by omega) ch h1 (by omega) P5 rD ?_;intro v' w' hr Nr;obtain⟨g,cap,Vh,_,_⟩:=hr.form (by omega);subst Vh;have Og:=(hr.lt g rfl).1;exact h g cap w' ⟨rfl,.inl ⟨rfl,rfl⟩⟩ (tP hr az) Nr (.inr Og)
 ·subst hv;have gK:∀j u,xs[j]?=aE u->w.cell? ⟨g,j,aC⟩=aE u:=λj u hu=>by
   have:=fK.cells (g:=g) rfl j u hu;rwa[fE,dC] at this
  refine wpList_append_arg w MF s x t ho e i z 1 bytes ht hi hz tH jP hzs (by decide) g 0 n cap xs hs (by omega) (λj u hu=>by rw[dC];exact gK j u hu) ad m c news hx (by omega) ch h1 (λhr j hj=>?_) P5 rD (λhr=>?_) (λhgt v' w' hr Nr=>?_)
  ·have eQ:0+n*1+j<cur.size:=by omega
   refine⟨?_,bG _ hg⟩;rw[cell_of_row w g _ cur e (0,0) hg,Array.getElem?_eq_getElem eQ];rfl
  ·obtain⟨cur',hg',pW⟩:=Co news (0+n*1) w cur hg;have hsome:∀j,j<news.length->(w.cell? ⟨g,0+n*1+j,aC⟩).isSome=aX:=λj hj=>by
    have eQ:0+n*1+j<cur.size:=by omega
    rw[cell_of_row w g _ cur e (0,0) hg,Array.getElem?_eq_getElem eQ];rfl
   have hold:∀j u,xs[j]?=aE u->(w.setCells g (0+n*1) news).cell? ⟨g,j,aC⟩=aE u:=λj u hu=>by
    have hj:=(bI.1 hu).1;rw[aY.cell?_setCells_out g news (0+n*1) w ⟨g,j,aC⟩ (λ_ _=>.inl (by show j<0+n*1;omega))];exact gK j u hu
   refine h g cap _ (Iw hxl hbg hg' hle dm (by omega) hold) (Iw (by rw[bN];omega) hbg hg' hr dm (by omega) λj u hu=>?_) ?_ (.inl rfl)
   ·by_cases hj:j<xs.length
    ·rw[bT hj] at hu;exact hold j u hu
    ·rw[bP (by omega)] at hu;obtain⟨eQ,he⟩:=bI.1 hu;have:=aY.cell?_setCells_in g news (0+n*1) w hsome (j-xs.length) eQ;rw[show 0+n*1+(j-xs.length)=j by omega,he] at this;exact this
   ·exact Cs news (0+n*1) w
  ·obtain⟨g2,xO,Vh,_,_⟩:=hr.form (by omega);subst Vh;have Og:=(hr.lt g2 rfl).1;have eP:w'.heap[g]?=w.heap[g]?:=Nr.block g (cC hg) (by simp);refine h g2 xO w' (cV fK λk hk=>?_) (tP hr az) ⟨Nr.os,Nr.tape,Nr.output,Nr.size,λk hk _=>Nr.block k hk (by simp)⟩ (.inr Og);have:g=k:=by simpa[aG.ownBlock] using hk
   rw[<-this];exact eP
theorem zK (c n:Int)(w:aY)(h0:-9223372036854775808<=c)(h1:c<=9223372036854775807)(hn:0<n)(EM:n<=9223372036854775807):
 bH aQ 32 #[aH aF c,aH aF n] w λe w' =>e=aM (aH aF ((if c<0 then -(c+1) else c)%n))/\w' =w:=by
 have jD:(n==0)=aV:=by rw[beq_eq_false_iff_ne];omega
 by_cases hc:c<0
 ·rw[eJ hc];have hm:0<=-(c+1):=by omega
  have sZ:-(c+1)<=9223372036854775807:=by omega
  go_enter func32,ntmps32;go_wp2;go_ret;exact⟨Oc (by rw[<-Int.neg_tmod,Int.tmod_eq_emod_of_nonneg hm]),rfl⟩
 ·rw[dL hc];go_enter func32,ntmps32;go_wp2;go_ret;exact⟨rfl,rfl⟩
theorem Rb (m:Nat)(s:List UInt8):
 (({data:=s.toArray}:ByteArray)++({data:=#[48,49,50,51,52,53,54,55,56,57]}:ByteArray).extract (m%10) (m%10+1))=⟨(s++[UInt8.ofNat (48+m%10)]).toArray⟩:=by
 have h:=yJ ⟨m%10,by omega⟩;simp only at h;rw[h];apply ByteArray.ext;simp
def Ck (i:Nat):List UInt8:=[40,109,105,110,101,32]++(Lib.decDigits i).reverse
theorem I5 (i:Nat)(w:aY)(h1:(i:Int)<=9223372036854775807):
 bH aQ 42 #[aH aF i] w λe w' =>e=aM (aI ⟨(Ck i).toArray⟩)/\w' =w:=by
 have hl:(Lib.decDigits i).length<=19:=qN i (by omega);go_enter func42,ntmps42;go_wp2
 go_loop [0,3] (λa b=>∃(m:Nat) (s:List UInt8),a=aH aF m/\b=aI ⟨s.toArray⟩/\m<=i/\s.length<=25/\Ck i=s++(Lib.decDigits m).reverse) (λa _=>(intOf a).toNat)
 case atStart=>exact⟨i,[40,109,105,110,101,32],rfl,rfl,bD _,by simp,rfl⟩
 case round=>
  obtain⟨m,s,rfl,rfl,hm,xJ,hs⟩:=hrel;have HS:=bE hs;clear hs;by_cases hz:m/10=0
  ·have hb:((m:Int)/10==0)=aX:=by rw[beq_iff_eq];omega
   clear hz;go_wp2;go_ret;refine⟨?_,rfl⟩;have hz:m/10=0:=by rw[beq_iff_eq] at hb;omega
   rw[Rb,aN HS,Ee hz];rfl
  ·have hb:((m:Int)/10==0)=aV:=by rw[beq_eq_false_iff_ne];omega
   have Hz:=bE hz;clear hz;go_wp2;refine⟨⟨m/10,s++[UInt8.ofNat (48+m%10)],by go_num,by rw[Rb],by omega,?_,?_⟩,?_⟩
   ·have h2:=congrArg List.length (aN HS);rw[Ae (aN Hz)] at h2;simp[Ck] at h2 ⊢;omega
   ·rw[aN HS,Ae (aN Hz)];simp
   ·have:=aN Hz;simp[intOf];omega
theorem XJ (w:aY):
 bH aQ 25 #[] w λr w' =>r=aM (aK (aE ⟨w.heap.size,0,aC⟩))/\w' =w.alloc (aU #[aJ aC 0 0,aJ aC 0 0,aJ aC 0 0,aH aF 0] 60):=by
 go_enter func25,ntmps25;go_wp2;go_ret;exact⟨rfl,rfl⟩
theorem KZ (w:aY)(mb n:Nat)(vS:aG)(S:List Int)(h0:w.cell? ⟨mb,0,aC⟩=aE vS)(hs:w.ownsRow 0 3 1 vS n (S.map (aH aF)))(hn:n<=16):
 bH aQ 16 #[aK (aE ⟨mb,0,aC⟩)] w λr w' =>∃v,r=aM v/\w'.ownsRow w.heap.size 3 1 v n (S.map (aH aF))/\bA w.heap.size w w' :=by
 have hl:S.length=n:=by simpa using hs.1
 rcases hs.2 with ⟨rfl,rfl⟩|⟨g,cap,cur,rfl,hg⟩
 ·have HS:=bE hl;clear hl hs;go_enter func16,ntmps16;go_wp2_with fail
  refine(Tryz.slices_Clone_int_nil 0 0 _).mono ?_;rintro e w' ⟨rfl,rfl⟩;go_wp2;go_ret;refine⟨_,rfl,?_,bF _ _⟩;rw[dU.1 (aN HS)];exact aY.ownsRow_nil _ _ _ _
 ·have hc:∀j,j<S.length->w.cell? ⟨g,0+j,aC⟩=aE (aH aF (S.getD j 0)):=λj hj=>by
   have:=hs.cells (g:=g) rfl j (aH aF S[j]) (by rw[cI,bL hj];rfl);rw[fE] at this;rw[this,List.getD_eq_getElem?_getD,bL hj];rfl
  have HC:=bE hc;have HS:=bE hl;clear hc hl hs hg;go_enter func16,ntmps16;go_wp2_with fail
  refine(Tryz.slices_Clone_int g 0 n cap S _ (by rw[aN HS];exact bD _) (by omega) (aN HC)).mono ?_;rintro e w' ⟨v',rfl,ho,_,hb⟩;have HO:=bE ho;have HB:=bE hb;clear ho hb;go_wp2;go_ret;refine⟨v',rfl,?_,aN HB⟩;have:=aN HO;rwa[eB (by rw[aN HS];exact bD _)] at this
def Zd (w:aY) (k:Nat):Prop:=∃cs t fr,w.heap[k]?=aE (aU cs t fr)/\(t=180\/t=107)
variable {wv:List Own}{j:Nat}
theorem rZ.GB {e:N.iM}{o:Own}(h:rZ w wv j e o)(ho:wv[j]?=aE o)(hv:∀k,Lq wv k->w'.heap[k]?=w.heap[k]?)(hd:∀k,Zd w k->w'.heap[k]?=w.heap[k]?):rZ w' wv j e o:=by
 cases o with
 |defn b=>
  obtain⟨h0,vB,body,h1,h2,h3⟩:=h;refine⟨h0,vB,body,(hd b ⟨_,_,_,h1,.inl rfl⟩).trans h1,cK h2 λk e=>hd k ?_,h3⟩;obtain⟨cur,hc⟩:=cZ h2 e;exact⟨cur,_,_,hc,.inr rfl⟩
 |qW b=>exact⟨h.1,h.2.1,(hv b ⟨j,ho⟩).trans h.2.2⟩
 |cons nm t n=>exact h
 |mark nm t=>exact h
variable {all:List N.iM}
theorem jE.GB (h:jE w all wv vO vB)(hr:∀k,vO.ownBlock=aE k->w'.heap[k]?=w.heap[k]?)(hv:∀k,Lq wv k->w'.heap[k]?=w.heap[k]?)(hd:∀k,Zd w k->w'.heap[k]?=w.heap[k]?):jE w' all wv vO vB where
 len:=h.len
 begun:=h.begun
 row:=cK h.row hr
 tA:=λj e o h1 h2 h3=>(h.tA j e o h1 h2 h3).GB h2 hv hd
 ok:=h.ok
 vI:=h.vI
 apart:=h.apart
 qU:=h.qU
 VP:=h.VP
theorem yC.sT (h:yC w mb vO vB vS vR wv m)(hk:Zd w k):¬yF mb vO vS vR wv k:=by
 obtain⟨cs,t,fr,hc,ht⟩:=hk;have key:∀{YT :Array aG} {t' :TypeId} {fr' :Nat×Nat},w.heap[k]?=aE (aU YT t' fr')->t' =t:=λh' =>by
  rw[hc] at h';injection h' with h';injection h' with _ h' _;exact h'.symm
 rintro(rfl|e|e|e|e)
 ·have:=key h.mc;subst this
  revert ht
  decide
 ·obtain⟨_,h'⟩:=cZ h.st e;have:=key h';subst this
  revert ht
  decide
 ·obtain⟨_,h'⟩:=cZ h.rt e;have:=key h';subst this
  revert ht
  decide
 ·obtain⟨j,hj⟩:=e;obtain⟨en,he,kY⟩:=h.own.VP j k hj;have:=h.own.tA j en _ he hj kY;have:=key this.2.2;subst this
  revert ht
  decide
 ·obtain⟨_,h'⟩:=cZ h.own.row e;have:=key h';subst this
  revert ht
  decide
def Cg (w:aY) (mb:Nat) (F:Nat->Prop) (m:N.cE):Prop:=∃vO vB vS vR wv,Lj w mb vO vB vS vR wv m/\F=yF mb vO vS vR wv
variable {F:Nat->Prop}
theorem Cg.lt (h:Cg w mb F m):∀k,F k->k<w.heap.size:=by
 obtain⟨_,_,_,_,_,h,rfl⟩:=h;exact λk hk=>h.n.lt k (.inl hk)
theorem Cg.Ca (h:Cg w mb F m):lW w/\¬F 3:=by
 obtain⟨_,_,_,_,_,h,rfl⟩:=h;exact⟨h.Ca,h.o4⟩
theorem Cg.below (h:Cg w mb F m)(hb:bA w.heap.size w w'):Cg w' mb F m:=by
 obtain⟨vO,vB,vS,vR,wv,h,rfl⟩:=h;exact⟨vO,vB,vS,vR,wv,h.below hb,rfl⟩
theorem Cg.self (h:Cg w mb F m):F mb:=by
 obtain⟨vO,vB,vS,vR,wv,_,rfl⟩:=h;exact .inl rfl
theorem Cg.tabAt (h:Cg w mb F m)(hm:Mv F w w'):lW w' :=eU h.Ca.1 (hm.block _ (lD h.Ca.1) h.Ca.2)
variable {nb:Nat}{G:Nat->Prop}
theorem Cg.apart {n:N.cE}(h:Cg w mb F m)(hn:Cg w nb G n)(hd:∀k,F k->¬G k)(hm:Mv G w w'):Cg w' mb F m:=by
 have ht:=hn.tabAt hm;obtain⟨vO,vB,vS,vR,wv,h,rfl⟩:=h;obtain⟨_,_,_,_,_,hn,rfl⟩:=hn;have hk:∀k,yF mb vO vS vR wv k->w'.heap[k]?=w.heap[k]?:=λk hk=>hm.block k (h.n.lt k (.inl hk)) (hd k hk)
 refine⟨vO,vB,vS,vR,wv,⟨⟨?_,?_,?_,h.n.ap,h.n.sl,h.n.rl,h.n.si,h.n.ri,?_⟩,ht,h.o4⟩,rfl⟩
 ·exact(hk mb (.inl rfl)).trans h.n.mc
 ·exact cK h.n.st λk e=>hk k (.inr (.inl e))
 ·exact cK h.n.rt λk e=>hk k (.inr (.inr (.inl e)))
 ·refine h.n.own.GB (λk e=>hk k (.inr (.inr (.inr (.inr e))))) (λk e=>hk k (.inr (.inr (.inr (.inl e))))) λk e=>hm.block k ?_ (hn.n.sT e)
  obtain⟨_,_,_,hc,_⟩:=e;exact cC hc
theorem BS {G' :Nat->Prop}(hF:∀k,F k->k<w.heap.size)(hd:∀k,F k->¬G k)(hf:dG w G G'):∀k,F k->¬G' k:=λk hk hg=>by
 rcases hf k hg with h|h
 ·exact hd k hk h
 ·have:=hF k hk;omega
theorem Cg.do (h:Cg w mb F m)(line:ByteArray)(hold:m.all.length+1000<=1000000000000):
 bH aQ 15 #[aK (aE ⟨mb,0,aC⟩),aI line] w λr w' =>r=aM (De (N.jL m line.data.toList))/\∃F',Cg w' mb F' (N.jL m line.data.toList).1/\Mv F w w' /\dG w F F' :=by
 obtain⟨vO,vB,vS,vR,wv,h,rfl⟩:=h;refine(fk w mb vO vB vS vR wv m line h hold).mono ?_;rintro r w' ⟨rfl,oJ,Ci,v1,v2,Kp,hm,pL,hf⟩;exact⟨rfl,_,⟨oJ,Ci,v1,v2,Kp,hm,rfl⟩,pL,hf⟩
theorem f7 (w:aY)(htab:lW w):bH aQ 25 #[] w λr w' =>r=aM (aK (aE ⟨w.heap.size,0,aC⟩))/\bA w.heap.size w w' /\Cg w' w.heap.size (λk=>k=w.heap.size) N.new:=by
 refine(XJ w).mono ?_;rintro r w' ⟨rfl,rfl⟩;have hb:bA w.heap.size w (w.alloc (aU #[aJ aC 0 0,aJ aC 0 0,aJ aC 0 0,aH aF 0] 60)):=(bF _ _).alloc (bD _) _;have Vm:=lD htab;refine⟨rfl,hb,aJ aC 0 0,aH aF 0,aJ aC 0 0,aJ aC 0 0,[],⟨⟨heap_alloc_new w _,aY.ownsRow_nil _ _ _ _,aY.ownsRow_nil _ _ _ _,λk h _=>by simp[aG.ownBlock] at h,by simp[N.new],by simp[N.new],by simp[N.new],by simp[N.new],?_⟩,eU htab (hb.block _ Vm),?_⟩,?_⟩
 ·exact⟨rfl,rfl,aY.ownsRow_nil _ _ _ _,λj e o h=>by simp[N.new] at h,λj e h=>by simp[N.new] at h,bZ _,λi j b h=>by simp at h,bZ _,λj b h=>by simp at h⟩
 ·rintro(h|h|h|⟨j,h⟩|h)
  ·omega
  ·simp[aG.ownBlock] at h
  ·simp[aG.ownBlock] at h
  ·simp at h
  ·simp[aG.ownBlock] at h
 ·funext k
  apply propext;constructor
  ·intro h;exact .inl h
  ·rintro(h|h|h|⟨j,h⟩|h)
   ·exact h
   ·simp[aG.ownBlock] at h
   ·simp[aG.ownBlock] at h
   ·simp at h
   ·simp[aG.ownBlock] at h
theorem Cg.stack (h:Cg w mb F m):bH aQ 16 #[aK (aE ⟨mb,0,aC⟩)] w λr w' =>∃v,r=aM v/\w'.ownsRow w.heap.size 3 1 v m.S.length (m.S.map (aH aF))/\bA w.heap.size w w' :=by
 obtain⟨vO,vB,vS,vR,wv,h,rfl⟩:=h;exact KZ w mb _ vS m.S (aZ h.n.mc rfl) h.n.st h.n.sl
theorem Qi (n:Nat)(w:aY)(h1:(n:Int)<=9223372036854775807):
 bH aQ 13 #[aH aF n] w λe w' =>e=aM (aI (uX n))/\w' =w:=by
 have eQ:¬((n:Int)<0):=by omega
 have hl:(Lib.decDigits n).length<=19:=qN n (by omega);go_enter func13,ntmps13;go_wp2
 go_loop [0,3] (λa b=>∃(m:Nat) (s:List UInt8),a=aH aF m/\b=aI ⟨s.toArray⟩/\m<=n/\s.length<=19/\Lib.decDigits n=Lib.decDigits m++s) (λa _=>(intOf a).toNat)
 case atStart=>exact⟨n,[],rfl,rfl,bD _,by simp,by simp⟩
 case round=>
  obtain⟨m,s,rfl,rfl,hm,xJ,hs⟩:=hrel;have HS:=bE hs;clear hs;by_cases hz:m/10=0
  ·have hb:((m:Int)/10==0)=aX:=by rw[beq_iff_eq];omega
   clear hz;go_wp2;go_ret;refine⟨?_,rfl⟩;have hz:m/10=0:=by rw[beq_iff_eq] at hb;omega
   rw[Ab,uX,aN HS,Ee hz];rfl
  ·have hb:((m:Int)/10==0)=aV:=by rw[beq_eq_false_iff_ne];omega
   have Hz:=bE hz;clear hz;go_wp2;refine⟨⟨m/10,UInt8.ofNat (48+m%10)::s,by go_num,by rw[Ab],by omega,?_,?_⟩,?_⟩
   ·have h2:=congrArg List.length (aN HS);rw[Ae (aN Hz)] at h2;simp at h2 ⊢;omega
   ·rw[aN HS,Ae (aN Hz)];simp
   ·have:=aN Hz;simp[intOf];omega
theorem gh (n:Int)(w:aY)(h0:-9223372036854775808<=n)(h1:n<=9223372036854775807):
 bH aQ 13 #[aH aF n] w λe w' =>e=aM (aI (kM n))/\w' =w:=by
 by_cases hn:0<=n
 ·obtain⟨k,rfl⟩:=Int.eq_ofNat_of_zero_le hn;rw[Ll];exact Qi k w h1
 ·have eQ:n<0:=by omega
  by_cases hm:-9223372036854775808<n
  ·obtain⟨k,hk⟩:=Int.eq_ofNat_of_zero_le (show 0<=-n by omega);have Hk:=bE hk;have hl:(Lib.decDigits k).length<=19:=qN k (by omega);have TW:kM n=⟨(45::Lib.decDigits k).toArray⟩:=by
    unfold kM Lib.itoa;rw[eJ eQ,show n.natAbs=k by omega]
   have Hneg:=bE TW;have SE:(k:Int)<=9223372036854775807:=by omega
   have Hkle:=bE SE;clear hk TW SE;go_enter func13,ntmps13;go_wp2_with fail
   rw[aN Hk];refine(Qi k _ (aN Hkle)).mono ?_;rintro e w' ⟨rfl,rfl⟩;have hsz:(uX k).size<=19:=by rw[Lk];exact hl
   go_wp2;go_ret;refine⟨?_,rfl⟩;rw[aN Hneg,uX,Rp];rfl
  ·have YN:n=-9223372036854775808:=by omega
   have hb:¬(-9223372036854775808<n):=hm;have hs:kM n=⟨#[45,57,50,50,51,51,55,50,48,51,54,56,53,52,55,55,53,56,48,56]⟩:=by
    rw[YN];exact Li
   have Hs:=bE hs;clear YN hm hs;go_enter func13,ntmps13;go_wp2;go_ret;refine⟨?_,rfl⟩;rw[aN Hs];rfl
theorem im (c n:Int)(w:aY)(h0:-9223372036854775808<=c)(h1:c<=9223372036854775807)(hn:0<n)(EM:n<=9223372036854775807):
 bH aQ 14 #[aH aF c,aH aF n] w λe w' =>e=aM (aH aF ((if c<0 then -(c+1) else c)%n))/\w' =w:=by
 have jD:(n==0)=aV:=by rw[beq_eq_false_iff_ne];omega
 by_cases hc:c<0
 ·rw[eJ hc];have hm:0<=-(c+1):=by omega
  have sZ:-(c+1)<=9223372036854775807:=by omega
  go_enter func14,ntmps14;go_wp2;go_ret;exact⟨Oc (by rw[<-Int.neg_tmod,Int.tmod_eq_emod_of_nonneg hm]),rfl⟩
 ·rw[dL hc];go_enter func14,ntmps14;go_wp2;go_ret;exact⟨rfl,rfl⟩
def tI (B:Nat) (w:aY) (mb:Nat) (m:N.cE):Prop:=B<=w.heap.size/\∃F,Cg w mb F m/\∀k,F k->B<=k
variable {B:Nat}
theorem tI.below (h:tI B w mb m)(hb:bA w.heap.size w w'):tI B w' mb m:=by
 obtain⟨h0,F,h,hF⟩:=h;exact⟨cF h0 hb.size,F,h.below hb,hF⟩
theorem tI.Ca (h:tI B w mb m):lW w:=by
 obtain⟨_,F,h,_⟩:=h;exact h.Ca.1
theorem Qq {F' :Nat->Prop}(hB:B<=w.heap.size)(hF:∀k,F k->B<=k)(hf:dG w F F'):∀k,F' k->B<=k:=λk hk=>by
 rcases hf k hk with h|h
 ·exact hF k h
 ·omega
theorem tI.do (h:tI B w mb m)(line:ByteArray)(hold:m.all.length+1000<=1000000000000):
 bH aQ 15 #[aK (aE ⟨mb,0,aC⟩),aI line] w λr w' =>r=aM (De (N.jL m line.data.toList))/\tI B w' mb (N.jL m line.data.toList).1/\bA B w w' :=by
 obtain⟨h0,F,h,hF⟩:=h;refine(h.do line hold).mono ?_;rintro r w' ⟨rfl,F',h',hm,hf⟩;exact⟨rfl,⟨cF h0 hm.size,F',h',Qq h0 hF hf⟩,hm.below hF h0⟩
theorem tI.new (w:aY)(hB:B<=w.heap.size)(htab:lW w):bH aQ 25 #[] w λr w' =>r=aM (aK (aE ⟨w.heap.size,0,aC⟩))/\bA w.heap.size w w' /\tI B w' w.heap.size N.new:=by
 refine(f7 w htab).mono ?_;rintro r w' ⟨rfl,hb,h⟩;exact⟨rfl,hb,cF hB hb.size,_,h,λk hk=>by rw[hk];exact hB⟩
theorem tI.stack (h:tI B w mb m):bH aQ 16 #[aK (aE ⟨mb,0,aC⟩)] w λr w' =>∃v,r=aM v/\w'.ownsRow w.heap.size 3 1 v m.S.length (m.S.map (aH aF))/\bA w.heap.size w w' :=by
 obtain⟨_,F,h,_⟩:=h;exact h.stack
theorem tI.vI (h:tI B w mb m):m.S.length<=16/\m.R.length<=16:=by
 obtain⟨_,F,⟨_,_,_,_,_,h,_⟩,_⟩:=h;exact⟨h.n.sl,h.n.rl⟩
theorem FQ (w:aY)(mb:Nat)(line out:ByteArray)(P:aY->Prop)(H:Hid (bH aQ 15 #[aK (aE ⟨mb,0,aC⟩),aI line] w λr w' =>r=aM (bM #[aI out,aH aF 0,aH aF 0])/\P w')):
 bH aQ 12 #[aK (aE ⟨mb,0,aC⟩),aI line,aI out] w λr w' =>r=aM (bB aX)/\∃W,P W/\bA W.heap.size W w' :=by
 go_enter func12,ntmps12;go_wp2_with fail
 refine(aN H).mono ?_;rintro e w1 ⟨rfl,hP⟩;have HP:=bE hP;clear hP;go_wp2;go_ret;exact⟨rfl,w1,aN HP,(bF _ _).alloc (bD _) _⟩
theorem tI.kR {m' :N.cE}(h:tI B w mb m)(line out:ByteArray)(hold:m.all.length+1000<=1000000000000)(hl:N.jL m line.data.toList=(m',out.data.toList,0,0)):
 bH aQ 12 #[aK (aE ⟨mb,0,aC⟩),aI line,aI out] w λr w' =>r=aM (bB aX)/\tI B w' mb m' /\bA B w w' :=by
 have h0:=h.1;have hd:=h.do line hold;rw[hl] at hd;refine(FQ w mb line out (λW=>tI B W mb m' /\bA B w W) (bE (hd.mono λr w' hh=>⟨hh.1.trans ?_,hh.2⟩))).mono ?_
 ·rfl
 ·rintro r w' ⟨rfl,W,⟨h1,h2⟩,hb⟩;exact⟨rfl,h1.below hb,h2.trans (hb.mono h1.1)⟩
def t6 (B:Nat) (w:aY) (mb nb:Nat) (m n:N.cE):Prop:=B<=w.heap.size/\∃F G,Cg w mb F m/\Cg w nb G n/\(∀k,F k->¬G k)/\(∀k,F k->B<=k)/\∀k,G k->B<=k
theorem t6.swap {n:N.cE}(h:t6 B w mb nb m n):t6 B w nb mb n m:=by
 obtain⟨h0,F,G,h1,h2,h3,h4,h5⟩:=h;exact⟨h0,G,F,h2,h1,λk hg hf=>h3 k hf hg,h5,h4⟩
theorem t6.below {n:N.cE}(h:t6 B w mb nb m n)(hb:bA w.heap.size w w'):t6 B w' mb nb m n:=by
 obtain⟨h0,F,G,h1,h2,h3⟩:=h;exact⟨cF h0 hb.size,F,G,h1.below hb,h2.below hb,h3⟩
theorem t6.Ca {n:N.cE}(h:t6 B w mb nb m n):lW w:=by
 obtain⟨_,F,G,h,_⟩:=h;exact h.Ca.1
theorem t6.left {n:N.cE}(h:t6 B w mb nb m n):tI B w mb m:=by
 obtain⟨h0,F,G,h1,h2,h3,h4,h5⟩:=h;exact⟨h0,F,h1,h4⟩
theorem t6.do {n:N.cE}(h:t6 B w mb nb m n)(line:ByteArray)(hold:m.all.length+1000<=1000000000000):
 bH aQ 15 #[aK (aE ⟨mb,0,aC⟩),aI line] w λr w' =>r=aM (De (N.jL m line.data.toList))/\t6 B w' mb nb (N.jL m line.data.toList).1 n/\bA B w w' :=by
 obtain⟨h0,F,G,h1,h2,h3,h4,h5⟩:=h;refine(h1.do line hold).mono ?_;rintro r w' ⟨rfl,F',h',hm,hf⟩;have h3' :=BS h2.lt (λk hg hF=>h3 k hF hg) hf;exact⟨rfl,⟨cF h0 hm.size,F',G,h',h2.apart h1 (λk hg hF=>h3 k hF hg) hm,λk hF hg=>h3' k hg hF,Qq h0 h4 hf,h5⟩,hm.below h4 h0⟩
theorem t6.kR {m' n:N.cE}(h:t6 B w mb nb m n)(line out:ByteArray)(hold:m.all.length+1000<=1000000000000)(hl:N.jL m line.data.toList=(m',out.data.toList,0,0)):
 bH aQ 12 #[aK (aE ⟨mb,0,aC⟩),aI line,aI out] w λr w' =>r=aM (bB aX)/\t6 B w' mb nb m' n/\bA B w w' :=by
 have hd:=h.do line hold;rw[hl] at hd;refine(FQ w mb line out (λW=>t6 B W mb nb m' n/\bA B w W) (bE (hd.mono λr w' hh=>⟨hh.1.trans ?_,hh.2⟩))).mono ?_
 ·rfl
 ·rintro r w' ⟨rfl,W,⟨h1,h2⟩,hb⟩;exact⟨rfl,h1.below hb,h2.trans (hb.mono h1.1)⟩
theorem tI.two (h:tI B w mb m):bH aQ 25 #[] w λr w' =>r=aM (aK (aE ⟨w.heap.size,0,aC⟩))/\bA w.heap.size w w' /\t6 B w' w.heap.size mb N.new m:=by
 obtain⟨h0,F,h,hF⟩:=h;refine(f7 w h.Ca.1).mono ?_;rintro r w' ⟨rfl,hb,hn⟩;exact⟨rfl,hb,cF h0 hb.size,_,F,hn,h.below hb,λk hk hf=>by have:=h.lt k hf;omega,λk hk=>by omega,hF⟩
section
attribute [local go_sem ↓] Go.wp_at_zero Go.wp_at_succ
theorem Pt (p l:List UInt8)(hp:p.length<=100)(hl:l.length<=20):(⟨p.toArray⟩++⟨l.toArray⟩:ByteArray)=⟨(p++l).toArray⟩/\(⟨l.toArray⟩:ByteArray).size<=20/\(⟨p.toArray⟩:ByteArray).size<=100:=by
 refine⟨?_,by simpa[ByteArray.size] using hl,by simpa[ByteArray.size] using hp⟩;apply ByteArray.ext;apply Array.ext';simp
theorem VY (w:aY)(b:Nat)(nm:ByteArray)(tok n:Int)(hb:w.heap[b]?=aE (aU #[aI nm,aH aF tok,aH aF n] 129))(hn:dQ n)(htab:lW w):
 bH aQ 178 #[aK (aE ⟨b,0,aC⟩)] w λe w' =>e=aM (aI ⟨([118,97,114,105,97,98,108,101,32]++Lib.itoa n).toArray⟩)/\bA w.heap.size w w' :=by
 have c2:=cq 2 hb rfl;have HI:=bE (Ix n w hn htab);have hl:=tR n hn.1 hn.2;clear hb hn htab;go_enter func178,ntmps178;go_wp2_with fail
 refine(aN HI).mono ?_;rintro e w1 ⟨rfl,hb⟩;obtain⟨hd,hs,_⟩:=Pt [118,97,114,105,97,98,108,101,32] (Lib.itoa n) (by decide) hl;generalize(⟨(Lib.itoa n).toArray⟩:ByteArray)=D at*;have HB:=bE hb;have HD:=bE hd;clear hb hl hd;go_wp2;go_ret;exact⟨Al (congrArg aI (aN HD)),aN HB⟩
theorem WG (w:aY)(nm:ByteArray)(tok n:Int)(hn:dQ n)(htab:lW w):
 bH aQ 179 #[bM #[aI nm,aH aF tok,aH aF n]] w λe w' =>e=aM (aI ⟨([99,111,110,115,116,97,110,116,32]++Lib.itoa n).toArray⟩)/\bA w.heap.size w w' :=by
 have kO:bA w.heap.size w (w.alloc (aU #[aI nm,aH aF tok,aH aF n] 130)):=(bF _ _).alloc (bD _) _;have HI:=bE (Ix n (w.alloc (aU #[aI nm,aH aF tok,aH aF n] 130)) hn (eU htab (kO.block _ (lD htab))));have hl:=tR n hn.1 hn.2;have HB0:=bE kO;clear hn htab kO;go_enter func179,ntmps179;go_wp2_with fail
 refine(aN HI).mono ?_;rintro e w1 ⟨rfl,hb⟩;obtain⟨hd,hs,_⟩:=Pt [99,111,110,115,116,97,110,116,32] (Lib.itoa n) (by decide) hl;generalize(⟨(Lib.itoa n).toArray⟩:ByteArray)=D at*;have HB:=bE ((aN HB0).trans (hb.mono (aN HB0).size));have HD:=bE hd;clear hb hl hd;go_wp2;go_ret;exact⟨Al (congrArg aI (aN HD)),aN HB⟩
theorem RI (w:aY)(nm:ByteArray)(tok:Int):
 bH aQ 180 #[bM #[aI nm,aH aF tok]] w λe w' =>e=aM (aI ⟨#[109,97,114,107,101,114]⟩)/\bA w.heap.size w w' :=by
 go_enter func180,ntmps180;go_wp2;go_ret;exact⟨rfl,(bF _ _).alloc (bD _) _⟩
theorem QD (w:aY)(mb:Nat)(s:ByteArray)(H:Hid (bH aQ 30 #[aK (aE ⟨mb,0,aC⟩),aI s] w λe w' =>e=aM .nilIface/\bA w.heap.size w w')):
 bH aQ 20 #[aK (aE ⟨mb,0,aC⟩),aI s] w λe w' =>e=aM (bC #[aI ⟨#[]⟩,aH aF 2])/\bA w.heap.size w w' :=by
 go_enter func20,ntmps20;go_wp2_with fail
 refine(aN H).mono ?_;rintro e w1 ⟨rfl,hb⟩;have HB:=bE hb;clear hb;go_wp2;go_ret2;exact⟨rfl,aN HB⟩
theorem Hh (w:aY)(mb:Nat)(s:ByteArray)(T:TypeId)(v:aG)(f:FuncId)(recv:aG)(Uz:ByteArray)(pM:∀args W,(callFunc f args).run aQ W=.ok (.enter f args) W)(H:Hid (bH aQ 30 #[aK (aE ⟨mb,0,aC⟩),aI s] w λe w' =>e=aM (bO T v)/\bA w.heap.size w w'))(HM:Hid (∀W,bA w.heap.size w W->(∀F:Nat,(method (F+1) T v "anvil/anvil.see").run aQ W=.ok (f,recv) W)/\bH aQ f #[recv] W λe W' =>e=aM (aI Uz)/\bA W.heap.size W W')):
 bH aQ 20 #[aK (aE ⟨mb,0,aC⟩),aI s] w λe w' =>e=aM (bC #[aI Uz,aH aF 0])/\bA w.heap.size w w' :=by
 go_enter func20,ntmps20;go_wp2_with fail
 refine(aN H).mono ?_;rintro e w1 ⟨rfl,hb⟩;obtain⟨hm,hc⟩:=aN HM w1 hb;have HC:=bE (bK hc hb);clear hb hc;go_wp2_with fail
 refine(aN HC).1.mono ?_;rintro e w2 ⟨rfl,eD⟩;have HB:=bE ((aN HC).2.trans (eD.mono (aN HC).2.size));clear eD;go_wp2;go_ret2;exact⟨rfl,aN HB⟩
theorem C3 (c:N.Cell):N.nX c=32::sJ c:=by
 unfold N.nX sJ
 split
 ·rfl
 ·split <;> rfl
theorem PD {e:N.iM}{o:Own}(h:rZ w wv j e o):(∃b,o=.defn b/\e.kind=1)\/(∃b,o=.qW b/\e.kind=2)\/(∃a b c,o=.cons a b c/\e.kind=3)\/(∃a b,o=.mark a b/\e.kind=4):=by
 cases o with
 |defn b=>exact .inl ⟨b,rfl,h.1⟩
 |qW b=>exact .inr (.inl ⟨b,rfl,h.1⟩)
 |cons a b c=>exact .inr (.inr (.inl ⟨a,b,c,rfl,h.1⟩))
 |mark a b=>exact .inr (.inr (.inr ⟨a,b,rfl,h.1⟩))
theorem XY (w:aY)(mb:Nat)(s:ByteArray)(m:N.cE)(wv:List Own)(vO vB:aG)(h2:w.cell? ⟨mb,2,aC⟩=aE vO)(h:jE w m.all wv vO vB)(htab:lW w):
 bH aQ 20 #[aK (aE ⟨mb,0,aC⟩),aI s] w λe w' =>e=aM (bC #[aI ⟨(N.GX m s.data.toList).1.toArray⟩,aH aF (N.GX m s.data.toList).2])/\bA w.heap.size w w' :=by
 have eY:=Fy w mb s m.all wv vO vB h2 h;have hsee:N.GX m s.data.toList=match N.eS m.all s.data.toList m.all.length with
  |none=>([],2)
  |some k=>match m.all[k]? with
   |none=>([],2)
   |some e=>
    if e.kind=2 then([118,97,114,105,97,98,108,101,32]++Lib.itoa e.n,0)
    else if e.kind=3 then([99,111,110,115,116,97,110,116,32]++Lib.itoa e.n,0)
    else if e.kind=4 then([109,97,114,107,101,114],0)
    else([58]++(e.body.map N.nX).flatten,0):=rfl
 rw[hsee];cases hk:N.eS m.all s.data.toList m.all.length with
 |none=>
  rw[hk] at eY;exact QD w mb s (bE eY)
 |some k=>
  rw[hk] at eY;obtain⟨Hd,e,UN,_,Ss⟩:=mN m.all _ _ _ hk;obtain⟨o,ho⟩:∃o,wv[k]?=aE o:=⟨_,bL (by rw[h.len];exact Hd)⟩
  have hv:mE wv (aE k)=iW o:=by unfold mE;rw[Option.bind_some,ho];rfl
  rw[hv] at eY;have kY:=jX Ss;have pM:=h.tA k e o UN ho kY;simp only[UN];rcases PD pM with ⟨b,rfl,Ha⟩|⟨b,rfl,Ha⟩|⟨x,y,z,rfl,Ha⟩|⟨x,y,rfl,Ha⟩
  ·rw[dL (by omega),dL (by omega),dL (by omega)];obtain⟨_,vB1,body,fF,fL,jN,hl60,_⟩:=pM;obtain⟨aB,cB,rfl,_,_⟩:=cU fL;have htxt:[58]++(e.body.map N.nX).flatten=mV (body.map λx=>sJ x.1):=by
    unfold mV;rw[<-jN,List.map_map,List.map_map];have hm:body.map (N.nX∘λx=>x.1)=body.map ((λs=>32::s)∘λx=>sJ x.1):=List.map_congr_left λx _=>C3 x.1
    rw[hm];rfl
   have hlen:(body.map (fB wv)).length=body.length:=by simp
   have xF:=h.ok k e UN kY;have zC:∀W,bA w.heap.size w W->bH aQ 173 #[aK (aE ⟨b,0,aC⟩)] W λr w' =>r=aM (aI ⟨(mV (body.map λx=>sJ x.1)).toArray⟩)/\bA W.heap.size W w' :=by
    intro W tB;have VG:=h.below tB;have htW:lW W:=eU htab (tB.block _ (lD htab));refine VW W b ⟨e.name.toArray⟩ (1000+(k:Int)) aB cB (body.map (fB wv)) (body.map λx=>sJ x.1) (by rw[hlen];exact(tB.block b (cC fF)).trans fF) (by rw[hlen];exact hl60) (by simp) ?_ ?_
    ·intro p v hv;have Sb:W.ownsRow 0 107 1 (aJ aB body.length cB) body.length (body.map (fB wv)):=cK fL λk e=>tB.block k (fL.lt k e).2
     have hp:p<body.length:=by have:=(bI.1 hv).1;simpa using this
     obtain⟨g,c1,hg,_,_⟩:=Sb.form (by omega);injection hg with hg _ _;refine⟨g,hg,?_⟩;subst hg;have:=Sb.cells (g:=g) rfl p v hv;rwa[fE,dC] at this
    ·intro p v t hv ht;rw[cI] at hv ht;cases hbp:body[p]? with
     |none=>rw[hbp] at hv;cases hv
     |some x=>
      rw[hbp] at hv ht;injection hv with hv;injection ht with ht;rw[<-hv,<-ht];refine PS VG htW k x.1 x.2 (xF x.1 ?_) Hd;rw[<-jN];exact List.mem_map_of_mem (cG hbp)
   rw[htxt];refine Hh w mb s 122 (aK (aE ⟨b,0,aC⟩)) 173 (aK (aE ⟨b,0,aC⟩)) _ (enters_of func173 (by kernel_rfl) rfl) (bE eY) (bE λW tB=>⟨λF=>by kernel_rfl,zC W tB⟩)
  ·rw[eJ Ha];refine Hh w mb s 124 (aK (aE ⟨b,0,aC⟩)) 178 (aK (aE ⟨b,0,aC⟩)) _ (enters_of func178 (by kernel_rfl) rfl) (bE eY) (bE λW tB=>⟨λF=>by kernel_rfl,?_⟩);exact VY W b _ _ e.n ((tB.block b (cC pM.2.2)).trans pM.2.2) pM.2.1 (eU htab (tB.block _ (lD htab)))
  ·rw[dL (by omega),eJ Ha];obtain⟨_,nM,_,_,rfl⟩:=pM;refine Hh w mb s 130 (bM #[aI ⟨x.toArray⟩,aH aF y,aH aF e.n]) 179 (bM #[aI ⟨x.toArray⟩,aH aF y,aH aF e.n]) _ (enters_of func179 (by kernel_rfl) rfl) (bE eY) (bE λW tB=>⟨λF=>by kernel_rfl,?_⟩);exact WG W _ _ e.n nM (eU htab (tB.block _ (lD htab)))
  ·rw[dL (by omega),dL (by omega),eJ Ha];refine Hh w mb s 132 (bM #[aI ⟨x.toArray⟩,aH aF y]) 180 (bM #[aI ⟨x.toArray⟩,aH aF y]) _ (enters_of func180 (by kernel_rfl) rfl) (bE eY) (bE λW _=>⟨λF=>by kernel_rfl,?_⟩);exact RI W _ _
theorem Vx (w:aY)(mb n:Nat)(vS:aG)(S:List Int)(h0:w.cell? ⟨mb,1,aC⟩=aE vS)(hs:w.ownsRow 0 3 1 vS n (S.map (aH aF)))(hn:n<=16):
 bH aQ 17 #[aK (aE ⟨mb,0,aC⟩)] w λr w' =>∃v,r=aM v/\w'.ownsRow w.heap.size 3 1 v n (S.map (aH aF))/\bA w.heap.size w w' :=by
 have hl:S.length=n:=by simpa using hs.1
 rcases hs.2 with ⟨rfl,rfl⟩|⟨g,cap,cur,rfl,hg⟩
 ·have HS:=bE hl;clear hl hs;go_enter func17,ntmps17;go_wp2_with fail
  refine(Tryz.slices_Clone_int_nil 0 0 _).mono ?_;rintro e w' ⟨rfl,rfl⟩;go_wp2;go_ret;refine⟨_,rfl,?_,bF _ _⟩;rw[dU.1 (aN HS)];exact aY.ownsRow_nil _ _ _ _
 ·have hc:∀j,j<S.length->w.cell? ⟨g,0+j,aC⟩=aE (aH aF (S.getD j 0)):=λj hj=>by
   have:=hs.cells (g:=g) rfl j (aH aF S[j]) (by rw[cI,bL hj];rfl);rw[fE] at this;rw[this,List.getD_eq_getElem?_getD,bL hj];rfl
  have HC:=bE hc;have HS:=bE hl;clear hc hl hs hg;go_enter func17,ntmps17;go_wp2_with fail
  refine(Tryz.slices_Clone_int g 0 n cap S _ (by rw[aN HS];exact bD _) (by omega) (aN HC)).mono ?_;rintro e w' ⟨v',rfl,ho,_,hb⟩;have HO:=bE ho;have HB:=bE hb;clear ho hb;go_wp2;go_ret;refine⟨v',rfl,?_,aN HB⟩;have:=aN HO;rwa[eB (by rw[aN HS];exact bD _)] at this
theorem tI.aside (h:tI B w mb m):bH aQ 17 #[aK (aE ⟨mb,0,aC⟩)] w λr w' =>∃v,r=aM v/\w'.ownsRow w.heap.size 3 1 v m.R.length (m.R.map (aH aF))/\bA w.heap.size w w' :=by
 obtain⟨_,F,⟨vO,vB,vS,vR,wv,h,rfl⟩,_⟩:=h;exact Vx w mb _ vR m.R (aZ h.n.mc rfl) h.n.rt h.n.rl
theorem PV:∃i,(aQ).info? 9=aE i/\i.zero=aE (aI ⟨#[]⟩)/\i.size=1/\i.bytes=16:=nE (by kernel_rfl)
def qQ (os:List r7) (k:Nat):List aG:=((os.take k).map λr=>aI ⟨r.nm.toArray⟩)++List.replicate (os.length-k) (aI ⟨#[]⟩)
theorem b7 (os:List r7)(k:Nat)(r:r7)(hr:os[k]?=aE r):(qQ os k).set k (aI ⟨r.nm.toArray⟩)=qQ os (k+1):=by
 have hk:=(bI.1 hr).1;unfold qQ;have hl:((os.take k).map λr=>aI ⟨r.nm.toArray⟩).length=k:=by simp;omega
 rw[List.set_append_right _ _ (by omega),hl,Nat.sub_self,show os.length-k=(os.length-(k+1))+1 by omega,List.replicate_succ,List.set_cons_zero];rw[dF hk,List.map_append,List.append_assoc];rw[bL hk] at hr;injection hr with hr;rw[<-hr];rfl
theorem W0 (w:aY)(mb g cap:Nat)(os:List r7)(h2:w.cell? ⟨mb,2,aC⟩=aE (aJ (aE ⟨g,0,aC⟩) os.length cap))(hn:os.length<=40)(sF:0<os.length)(hg:∀j r,os[j]?=aE r->w.cell? ⟨g,j,aC⟩=aE (iW r.o)/\uZ w r.o r.nm r.tok):
 bH aQ 11 #[aK (aE ⟨mb,0,aC⟩)] w λe w' =>e=aM (aJ (aE ⟨w.heap.size,0,aC⟩) os.length os.length)/\w'.heap[w.heap.size]?=aE (aU (qQ os os.length).toArray 9)/\bA w.heap.size w w' :=by
 have HG:=bE hg;have hz:=eG h2;clear hg;generalize Ru:os.length=n at*;have HN:=bE Ru;clear Ru;go_enter func11,ntmps11;obtain⟨i9,hi9,hz9,hs9,hb9⟩:=PV;have hmk:(Instr.makeSlice 23 (aH aF n) (aH aF n)).run aQ w=.ok (aJ (aE ⟨w.heap.size,0,aC⟩) n n) (w.alloc (aU (List.replicate n (aI ⟨#[]⟩)).toArray 9)):=by
  have h:=run_makeSlice (P:=aQ) (w:=w) 23 9 i9 (aI ⟨#[]⟩) underlying23 hi9 hz9 aF aF (n:Int) (n:Int) (by omega) (Int.le_refl _) (by rw[hs9];simp;omega) (by rw[hb9];omega) (by omega);rw[h,hs9,Int.toNat_natCast,Nat.mul_one]
  congr 3
  apply Array.ext';rw[List.toList_toArray];apply List.ext_getElem
  ·simp[madeCells]
  ·intro i h1 h2;simp[madeCells,aG.cells,Nat.mod_one]
 have kO:bA w.heap.size w (w.alloc (aU (List.replicate n (aI ⟨#[]⟩)).toArray 9)):=(bF _ _).alloc (bD _) _;have eY:=heap_alloc_new w (aU (List.replicate n (aI ⟨#[]⟩)).toArray 9);have TJ:List.replicate n (aI ⟨#[]⟩)=qQ os 0:=by unfold qQ;rw[aN HN];simp
 rw[TJ] at hmk eY kO;have d2:=bJ h2 (aU (qQ os 0).toArray 9);have H0:=bE (bK eY kO);clear TJ eY kO;go_wp2
 go_loopw [17] (λi wr=>∃k:Nat,k<=n/\i=aH aF k/\bA w.heap.size w wr/\wr.heap[w.heap.size]?=aE (aU (qQ os k).toArray 9)) (λi _=>match i with|aH _ k=>n-k.toNat|_=>0)
 case atStart=>exact⟨0,bZ _,rfl,(aN H0).2,(aN H0).1⟩
 case round=>
  obtain⟨k,hk,rfl,hb,fL⟩:=hrel;by_cases Mp:k<n
  ·have k1:(k:Int)<(n:Int):=by omega
   have k0:(0:Int)<=(k:Int):=by omega
   have k2:=wi ((k:Int)+1);obtain⟨r,hr⟩:∃r,os[k]?=aE r:=⟨_,bL (by rw[aN HN];exact Mp)⟩
   obtain⟨hc,hh⟩:=aN HG k r hr;obtain⟨T,v,hv,hm,_⟩:=pG (hh.below hb);rw[hv] at hc;have c3:wr.cell? ⟨g,k,aC⟩=aE (bO T v):=((eI hb).1 g k (eG hc)).trans hc;have lC:=b7 os k r hr;have hsz:(qQ os k).length=n:=by unfold qQ;rw[bN,dO,dH,List.length_replicate,aN HN];omega
   obtain⟨y,hy⟩:∃y,(qQ os k).toArray[k]?=aE y:=⟨_,by simp;exact bL (by omega)⟩
   have Lz:bA wr.heap.size wr (wr.alloc (aU #[aI ⟨r.nm.toArray⟩,aH aF r.tok] 127)):=(bF _ _).alloc (bD _) _;have GN:=(Lz.block _ (cC fL)).trans fL;have q1:=aZ (j:=k) GN hy;have q2:=bG k GN;have HR:=bE (bK lC (bK GN (bK hb Lz)));clear lC fL hb hc hh hv hr hsz hy GN Lz;go_wp2;have hx:=aN HR;refine⟨⟨k+1,by omega,by simp,?_,?_⟩,?_⟩
   ·exact(hx.2.2.1.trans (hx.2.2.2.mono hx.2.2.1.size)).setCell (p:=⟨w.heap.size,k,aC⟩) (bD _) _
   ·have:=bV hx.2.1 k (aI ⟨r.nm.toArray⟩);rw[this,<-hx.1];simp
   ·show n-((k:Int)+1).toNat<n-(k:Int).toNat;omega
  ·have k1:¬(k:Int)<(n:Int):=by omega
   obtain rfl:k=n:=by omega
   have HR:=bE (bK hb fL);clear hb fL;go_wp2;go_ret;exact⟨rfl,(aN HR).2,(aN HR).1⟩
theorem V3 (w:aY)(mb:Nat)(a:Option Addr)(cap:Nat)(h2:w.cell? ⟨mb,2,aC⟩=aE (aJ a 0 cap)):
 bH aQ 11 #[aK (aE ⟨mb,0,aC⟩)] w λe w' =>e=aM (aJ (aE ⟨w.heap.size,0,aC⟩) 0 0)/\w'.heap[w.heap.size]?=aE (aU #[] 9)/\bA w.heap.size w w' :=by
 have hmk:(Instr.makeSlice 23 (aH aF 0) (aH aF 0)).run aQ w=.ok (aJ (aE ⟨w.heap.size,0,aC⟩) 0 0) (w.alloc (aU #[] 9)):=by kernel_rfl
 have d2:=bJ h2 (aU #[] 9);go_enter func11,ntmps11;go_wp2
 go_loop [17] (λi=>i=aH aF 0) (λ_=>0)
 case atStart=>rfl
 case round=>
  obtain rfl:=hrel;go_wp2;go_ret;exact⟨rfl,heap_alloc_new w _,(bF _ _).alloc (bD _) _⟩
theorem Ow:∀(all:List N.iM) (wv:List Own) (j:Nat),wv.length=all.length->(gV j all wv).map (λr=>r.nm)=(all.filter N.there).map (·.name)
 |[],[],_,_=>rfl
 |[],_::_,_,h=>by simp at h
 |_::_,[],_,h=>by simp at h
 |e::t,o::u,j,h=>by
  have ih:=Ow t u (j+1) (by simpa using h);rw[gV,List.filter_cons];cases N.there e with
  |true=>simp only[if_true,List.map_cons,ih]
  |false=>simp only[Bool.false_eq_true,if_false,ih]
theorem A0 (os:List r7):qQ os os.length=(os.map λr=>r.nm).map mQ:=by
 unfold qQ;rw[List.take_length,Nat.sub_self,List.replicate_zero,List.append_nil,List.map_map];rfl
theorem Cg.words (h:Cg w mb F m):bH aQ 11 #[aK (aE ⟨mb,0,aC⟩)] w λr w' =>∃v,r=aM v/\w'.ownsRow w.heap.size 9 1 v (N.words m).length ((N.words m).map mQ)/\bA w.heap.size w w' /\(N.words m).length<=40:=by
 obtain⟨vO,vB,vS,vR,wv,h,rfl⟩:=h;have fK:=h.n.own;have h2:=cq 2 h.n.mc rfl;have Mh:(pT m.all wv).map (λr=>r.nm)=N.words m:=Ow m.all wv 0 fK.len;have hlen:(pT m.all wv).length=(N.words m).length:=by rw[<-Mh,dO]
 have sD:(N.words m).length<=40:=by
  rw[<-hlen];have:=fK.vI;rw[nH,dO] at this;exact this
 have fin:∀(w' :aY),w'.heap[w.heap.size]?=aE (aU ((N.words m).map mQ).toArray 9)->w'.ownsRow w.heap.size 9 1 (aJ (aE ⟨w.heap.size,0,aC⟩) (N.words m).length (N.words m).length) (N.words m).length ((N.words m).map mQ):=λw' hw=>
  ⟨by simp,.inr ⟨_,_,_,rfl,bD _,hw,bD _,by unfold maxLen;omega,by simp,by rw[List.toList_toArray];exact eB (by simp)⟩⟩
 by_cases h0:(pT m.all wv).length=0
 ·have Te:N.words m=[]:=dU.1 (by omega);have hv:∃a c,vO=aJ a 0 c:=by
   rcases fK.Sj with ⟨rfl,_⟩|⟨g,cap,rfl,_⟩
   ·exact⟨_,_,rfl⟩
   ·exact⟨_,_,by rw[h0]⟩
  obtain⟨a,c,rfl⟩:=hv;refine(V3 w mb a c h2).mono ?_;rintro r w' ⟨rfl,hr,hb⟩;have:=fin w' (by rw[Te];exact hr);rw[Te] at this ⊢;exact⟨_,rfl,this,hb,bZ _⟩
 ·rcases fK.Sj with ⟨rfl,xE⟩|⟨g,cap,rfl,hg⟩
  ·exact(h0 (by rw[xE];rfl)).elim
  ·refine(W0 w mb g cap (pT m.all wv) h2 (by omega) (by omega) hg).mono ?_;rintro r w' ⟨rfl,hr,hb⟩;rw[A0,Mh] at hr;rw[hlen];exact⟨_,rfl,fin w' hr,hb,sD⟩
theorem tI.words (h:tI B w mb m):bH aQ 11 #[aK (aE ⟨mb,0,aC⟩)] w λr w' =>∃v,r=aM v/\w'.ownsRow w.heap.size 9 1 v (N.words m).length ((N.words m).map mQ)/\bA w.heap.size w w' /\(N.words m).length<=40:=by
 obtain⟨_,F,h,_⟩:=h;exact h.words
theorem Cg.GX (h:Cg w mb F m)(s:ByteArray):bH aQ 20 #[aK (aE ⟨mb,0,aC⟩),aI s] w λe w' =>e=aM (bC #[aI ⟨(N.GX m s.data.toList).1.toArray⟩,aH aF (N.GX m s.data.toList).2])/\bA w.heap.size w w' :=by
 obtain⟨vO,vB,vS,vR,wv,h,rfl⟩:=h;exact XY w mb s m wv vO vB (aZ h.n.mc rfl) h.n.own h.Ca
theorem tI.GX (h:tI B w mb m)(s:ByteArray):bH aQ 20 #[aK (aE ⟨mb,0,aC⟩),aI s] w λe w' =>e=aM (bC #[aI ⟨(N.GX m s.data.toList).1.toArray⟩,aH aF (N.GX m s.data.toList).2])/\bA w.heap.size w w' :=by
 obtain⟨_,F,h,_⟩:=h;exact h.GX s
end
end Go.Proofs.YtgnlokmeohffaaaGreatDoor
