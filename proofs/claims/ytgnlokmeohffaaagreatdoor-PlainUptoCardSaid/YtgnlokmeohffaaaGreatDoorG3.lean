/- Parts of the proof: see the last text. -/
import Derived.Laws.IdiomStrings
import Derived.Deep.CutRange
import Derived.Test.YtgnlokmeohffaaaGreatDoorG2
namespace Go.Proofs.YtgnlokmeohffaaaGreatDoor
set_option maxRecDepth 100000
set_option maxHeartbeats 1600000
open Option renaming none → aC, some → aE
open Go renaming IntKind.i64 → aF, Value → aG, Value.int → aH, Value.string → aI, Value.slice → aJ, Value.pointer → aK, Ending.returned → aM, Obj.cells → aU, World → aY, Value.tuple → bC, Value.bool → bB, Calls → bH, World.grownBy_alloc → bU
open Go.Proofs.Tryz renaming prog → aQ
open Bool renaming false → aV, true → aX, or_eq_true → dY
open Go.RowKit renaming Below → bA, Below.refl → bF
open Nat renaming le_refl → bD, zero_le → bZ, le_trans → cF, zero_add → dC
open List renaming getElem?_eq_some_iff → bI, getElem?_eq_getElem → bL, length_append → bN, getElem?_append_right → bP, getElem?_append_left → bT, mem_of_getElem? → cG, length_cons → cX, take_succ_eq_append_getElem → dF, length_map → dO, length_take → dH, not_mem_nil → dR, take_of_length_le → eB
open And renaming intro → bK
open Tryz
open Go.RowKit
def pF (c:N.Cell):List aG:=[aH aF c.kind,aH aF c.n,aI ⟨c.name.toArray⟩]
def kJ (b:List N.Cell):List aG:=b.flatMap pF
def jR (e:N.iM) (v:aG):List aG:=[aI ⟨e.name.toArray⟩,aH aF e.kind,aH aF e.n,v,bB e.ended,bB e.gone]
def jA:List N.iM->List aG->List aG
 |e::t,v::u=>jR e v++jA t u
 |_,_=>[]
theorem Ao:∀(all:List N.iM) (bs:List aG),bs.length=all.length->(jA all bs).length=all.length*6
 |[],[],_=>rfl
 |[],_::_,h=>by simp at h
 |_::_,[],h=>by simp at h
 |e::t,v::u,h=>by
  have:=Ao t u (by simpa using h);simp only[jA,jR,bN,cX,List.length_nil,this];omega
theorem Ig:∀(all:List N.iM) (bs:List aG) (j:Nat) (e:N.iM) (v:aG) (f:Nat),all[j]?=aE e->bs[j]?=aE v->f<6->(jA all bs)[j*6+f]?=(jR e v)[f]?
 |[],_,_,_,_,_,h,_,_=>by simp at h
 |_::_,[],_,_,_,_,_,h,_=>by simp at h
 |e0::t,v0::u,0,e,v,f,h,h',hf=>by
  have:e0=e:=by simpa using h
  have:v0=v:=by simpa using h'
  subst_vars
  rw[jA,Nat.zero_mul,dC,bT (by simp only[jR,cX,List.length_nil];omega)]
 |e0::t,v0::u,j+1,e,v,f,h,h',hf=>by
  have h1:=Ig t u j e v f (by simpa using h) (by simpa using h') hf;rw[jA,bP (by simp only[jR,cX,List.length_nil];omega)];rw[<-h1]
  congr 1
  simp only[jR,cX,List.length_nil];omega
theorem Hy:∀(all:List N.iM) (bs:List aG) (j:Nat) (e e' :N.iM) (v:aG) (f:Nat) (x:aG),all[j]?=aE e->bs[j]?=aE v->f<6->(jR e v).set f x=jR e' v->(jA all bs).set (j*6+f) x=jA (all.set j e') bs
 |[],_,_,_,_,_,_,_,h,_,_,_=>by simp at h
 |_::_,[],_,_,_,_,_,_,_,h,_,_=>by simp at h
 |e0::t,v0::u,0,e,e',v,f,x,h,h',hf,hx=>by
  have:e0=e:=by simpa using h
  have:v0=v:=by simpa using h'
  subst_vars
  rw[jA,Nat.zero_mul,dC,List.set_append_left _ _ (by simp only[jR,cX,List.length_nil];omega),hx];rfl
 |e0::t,v0::u,j+1,e,e',v,f,x,h,h',hf,hx=>by
  have h1:=Hy t u j e e' v f x (by simpa using h) (by simpa using h') hf hx;have hl:(jR e0 v0).length=6:=rfl;rw[jA,List.set_append_right _ _ (by omega),hl,show(j+1)*6+f-6=j*6+f by omega,h1];rfl
theorem uE:∀(all:List N.iM) (bs:List aG) (e:N.iM) (v:aG),bs.length=all.length->jA (all++[e]) (bs++[v])=jA all bs++jR e v
 |[],[],e,v,_=>by simp[jA]
 |[],_::_,_,_,h=>by simp at h
 |_::_,[],_,_,h=>by simp at h
 |e0::t,v0::u,e,v,h=>by
  have:=uE t u e v (by simpa using h);simp only[List.cons_append,jA,this,List.append_assoc]
theorem VC (b:List N.Cell):(kJ b).length=b.length*3:=by
 induction b with
 |nil=>rfl
 |cons c t ih=>
  simp[kJ,pF] at ih ⊢;omega
theorem yW:∀(b:List N.Cell) (j:Nat) (c:N.Cell) (f:Nat),b[j]?=aE c->f<3->(kJ b)[j*3+f]?=(pF c)[f]?
 |[],_,_,_,h,_=>by simp at h
 |c0::t,0,c,f,h,hf=>by
  have:c0=c:=by simpa using h
  subst this;show(pF c0++kJ t)[0*3+f]?=_;rw[Nat.zero_mul,dC,bT (by simp only[pF,cX,List.length_nil];omega)]
 |c0::t,j+1,c,f,h,hf=>by
  have h1:=yW t j c f (by simpa using h) hf;show(pF c0++kJ t)[(j+1)*3+f]?=_;have hl:(pF c0).length=3:=rfl;rw[bP (by omega),hl,show(j+1)*3+f-3=j*3+f by omega,h1]
theorem Po (b:List N.Cell)(c:N.Cell):kJ (b++[c])=kJ b++pF c:=by simp[kJ]
structure cH (w:aY) (rb:Nat) (vA vS vR:aG) (bs:List aG) (m:N.cE):Prop where
 mc:w.heap[rb]?=aE (aU #[vA,vS,vR,aI ⟨m.out.toArray⟩,aH aF m.steps] 77)
 row:w.ownsRow 0 98 6 vA m.all.length (jA m.all bs)
 len:bs.length=m.all.length
 Xa:∀(j:Nat) (e:N.iM) (v:aG),m.all[j]?=aE e->bs[j]?=aE v->e.ended=aX->w.ownsRow 0 101 3 v e.body.length (kJ e.body)/\e.body.length<=60
 st:w.ownsRow 0 3 1 vS m.S.length (m.S.map (aH aF))
 rt:w.ownsRow 0 3 1 vR m.R.length (m.R.map (aH aF))
 ap:∀k,vS.ownBlock=aE k->vR.ownBlock=aE k->False
 sl:m.S.length<=16
 rl:m.R.length<=16
 ol:m.out.length<=300
 sp:m.steps<=1001
 qU:m.all.length<=1000000000000
 si:∀x∈m.S,dQ x
 ri:∀x∈m.R,dQ x
 ni:∀e∈m.all,dQ e.n
def dV (rb:Nat) (vA vS vR:aG):Nat->Prop:=λk=>k=rb\/vA.ownBlock=aE k\/vS.ownBlock=aE k\/vR.ownBlock=aE k
def tN (w:aY) (k:Nat):Prop:=∃cs fr,w.heap[k]?=aE (aU cs 101 fr)
variable {w w' :aY}{rb:Nat}{vA vS vR:aG}{bs:List aG}{m:N.cE}
theorem cH.kept (h:cH w rb vA vS vR bs m)(hk:∀k,dV rb vA vS vR k->w'.heap[k]?=w.heap[k]?)(hb:∀k,tN w k->w'.heap[k]?=w.heap[k]?):cH w' rb vA vS vR bs m where
 mc:=(hk rb (.inl rfl)).trans h.mc
 row:=cV h.row λk e=>hk k (.inr (.inl e))
 len:=h.len
 Xa:=λj e v h1 h2 h3=>by
  obtain⟨h4,h5⟩:=h.Xa j e v h1 h2 h3;refine⟨cV h4 λk e=>hb k ?_,h5⟩;obtain⟨cur,hc⟩:=cJ h4 e;exact⟨cur,_,hc⟩
 st:=cK h.st λk e=>hk k (.inr (.inr (.inl e)))
 rt:=cK h.rt λk e=>hk k (.inr (.inr (.inr e)))
 ap:=h.ap
 sl:=h.sl
 rl:=h.rl
 ol:=h.ol
 sp:=h.sp
 qU:=h.qU
 si:=h.si
 ri:=h.ri
 ni:=h.ni
variable {base e z n k:Nat}{v:aG}{xs:List aG}
theorem mC (h:w.ownsRow base e z v n xs)(hk:v.ownBlock=aE k):k<w.heap.size:=by
 obtain⟨cur,hc⟩:=cJ h hk;exact cC hc
theorem cH.lt (h:cH w rb vA vS vR bs m):∀k,dV rb vA vS vR k->k<w.heap.size:=by
 rintro k (rfl|e|e|e)
 ·exact cC h.mc
 ·exact mC h.row e
 ·exact(h.st.lt k e).2
 ·exact(h.rt.lt k e).2
theorem fW (h:tN w k):k<w.heap.size:=by
 obtain⟨_,_,h⟩:=h;exact cC h
theorem cH.below (h:cH w rb vA vS vR bs m)(hb:bA w.heap.size w w'):cH w' rb vA vS vR bs m:=
 h.kept (λk hk=>hb.block k (h.lt k hk)) λk hk=>hb.block k (fW hk)
theorem cH.sT (h:cH w rb vA vS vR bs m)(hk:tN w k):¬dV rb vA vS vR k:=by
 obtain⟨cs,fr,hc⟩:=hk;rintro(rfl|e|e|e)
 ·exact absurd (cM h.mc hc) (by decide)
 ·obtain⟨_,h'⟩:=cJ h.row e;exact absurd (cM h' hc) (by decide)
 ·obtain⟨_,h'⟩:=cZ h.st e;exact absurd (cM h' hc) (by decide)
 ·obtain⟨_,h'⟩:=cZ h.rt e;exact absurd (cM h' hc) (by decide)
variable {j:Nat}
theorem cH.tA (h:cH w rb vA vS vR bs m){e:N.iM}(he:m.all[j]?=aE e):∃g cap v,vA=aJ (aE ⟨g,0,aC⟩) m.all.length cap/\bs[j]?=aE v/\g<w.heap.size/\
 w.cell? ⟨g,j*6,aC⟩=aE (aI ⟨e.name.toArray⟩)/\w.cell? ⟨g,j*6+1,aC⟩=aE (aH aF e.kind)/\w.cell? ⟨g,j*6+2,aC⟩=aE (aH aF e.n)/\w.cell? ⟨g,j*6+3,aC⟩=aE v/\w.cell? ⟨g,j*6+4,aC⟩=aE (bB e.ended)/\w.cell? ⟨g,j*6+5,aC⟩=aE (bB e.gone)/\∀f,w.frozen? ⟨g,f,aC⟩=aV:=by
 have hj:=(bI.1 he).1;obtain⟨v,hv⟩:∃v,bs[j]?=aE v:=⟨_,bL (by rw[h.len];exact hj)⟩
 rcases h.row.2 with ⟨_,h0⟩|⟨g,cap,cur,rE,_,hg,hle,_,hs,ht⟩
 ·omega
 have uM:∀f x,f<6->(jR e v)[f]?=aE x->w.cell? ⟨g,j*6+f,aC⟩=aE x:=λf x hf hx=>by
  have h1:=Ig m.all bs j e v f he hv hf;rw[<-ht,List.getElem?_take] at h1;rw[eJ (by omega),hx] at h1;rw[cell_of_row w g (j*6+f) cur _ (0,0) hg,<-Array.getElem?_toList];exact h1
 exact⟨g,cap,v,rE,hv,cC hg,uM 0 _ (by omega) rfl,uM 1 _ (by omega) rfl,uM 2 _ (by omega) rfl,uM 3 _ (by omega) rfl,uM 4 _ (by omega) rfl,uM 5 _ (by omega) rfl,λf=>bG f hg⟩
section
attribute [local go_sem ↓] Go.wp_at_zero Go.wp_at_succ
theorem cH.slice (h:cH w rb vA vS vR bs m):∃a cap,vA=aJ a m.all.length cap:=by
 rcases h.row.2 with ⟨h1,h2⟩|⟨g,cap,cur,h1,_⟩
 ·exact⟨aC,0,by rw[h1,h2]⟩
 ·exact⟨_,cap,h1⟩
theorem eM {a b:Option Addr}{c n' c' :Nat}(h:aJ a n c=aJ b n' c'):a=b:=by
 injection h
def nJ:Option Nat->aG
 |none=>aH aF (-1)
 |some k=>aH aF k
theorem uK (w:aY)(rb:Nat)(vA vS vR:aG)(bs:List aG)(m:N.cE)(s:ByteArray)(h:cH w rb vA vS vR bs m):
 bH aQ 49 #[aK (aE ⟨rb,0,aC⟩),aI s] w λe w' =>e=aM (nJ (N.fP m s.data.toList))/\w' =w:=by
 obtain⟨aA,cA,rE⟩:=h.slice;have c0:w.cell? ⟨rb,0,aC⟩=aE (aJ aA m.all.length cA):=by rw[<-rE];exact aZ h.mc rfl
 have hold:=h.qU;have HR:=bE h;unfold N.fP;clear h;generalize hn:m.all.length=n at*;have Hn:=bE hn;clear hn;go_enter func49,ntmps49;have i0:=wi ((n:Int)-1);go_wp2
 go_loop [5] (λi=>∃k:Nat,k<=n/\i=aH aF ((k:Int)-1)/\N.eS m.all s.data.toList k=N.eS m.all s.data.toList n) (λi=>match i with|aH _ k=>(k+1).toNat|_=>0)
 case atStart=>exact⟨n,bD _,rfl,rfl⟩
 case round=>
  obtain⟨k,hk,rfl,hl⟩:=hrel;cases k with
  |zero=>
   have HL:=bE hl;clear hl;go_wp2;go_ret;refine⟨Al ?_,rfl⟩;rw[<-aN HL];rfl
  |succ k=>
   have eQ:k<m.all.length:=by rw[aN Hn];omega
   obtain⟨e,he⟩:∃e,m.all[k]?=aE e:=⟨_,bL eQ⟩
   obtain⟨g,cap,v,hv,_,_,q0,_,_,_,q4,q5,_⟩:=(aN HR).tA he;rw[rE] at hv
   replace hv:=eM hv
   subst hv;have lC:N.eS m.all s.data.toList (k+1)=if e.name==s.data.toList&&N.there e then aE k else N.eS m.all s.data.toList k:=by
    show(match m.all[k]? with|some e=>if e.name==s.data.toList&&N.there e then aE k else N.eS m.all s.data.toList k|none=>N.eS m.all s.data.toList k)=_;rw[he]
   rw[lC] at hl;have HL:=bE hl;have HVA:=bE rE;clear hl lC he eQ rE;have e1:((k+1:Nat):Int)-1=(k:Int):=by omega
   rw[e1];have k1:(k:Int)<(n:Int):=by omega
   have k0:(0:Int)<=(k:Int):=by omega
   have k2:=wi ((k:Int)-1);have xJ:s.toList=s.data.toList:=Go.ByteArray.toList_eq s;cases hq:(e.name==s.data.toList) with
   |false=>
    have hq' :(e.name==s.toList)=aV:=by rw[xJ];exact hq
    have uP:=bE (show N.eS m.all s.data.toList k=N.eS m.all s.data.toList n from by have:=aN HL;rw[hq,Bool.false_and] at this;exact this);clear hq HL xJ;go_wp2;refine⟨⟨k,by omega,rfl,aN uP⟩,?_⟩;show((k:Int)-1+1).toNat<((k:Int)+1).toNat;omega
   |true=>
    have hq' :(e.name==s.toList)=aX:=by rw[xJ];exact hq
    cases kY:e.ended with
    |false=>
     rw[kY] at q4;have uP:=bE (show N.eS m.all s.data.toList k=N.eS m.all s.data.toList n from by have:=aN HL;unfold N.there at this;rw[hq,kY] at this;exact this);clear hq HL xJ kY;go_wp2;refine⟨⟨k,by omega,rfl,aN uP⟩,?_⟩;show((k:Int)-1+1).toNat<((k:Int)+1).toNat;omega
    |true=>
     rw[kY] at q4;cases pS:e.gone with
     |true=>
      rw[pS] at q5;have uP:=bE (show N.eS m.all s.data.toList k=N.eS m.all s.data.toList n from by have:=aN HL;unfold N.there at this;rw[hq,kY,pS] at this;exact this);clear hq HL xJ kY pS;go_wp2;refine⟨⟨k,by omega,rfl,aN uP⟩,?_⟩;show((k:Int)-1+1).toNat<((k:Int)+1).toNat;omega
     |false=>
      rw[pS] at q5;have uP:=bE (show aE k=N.eS m.all s.data.toList n from by have:=aN HL;unfold N.there at this;rw[hq,kY,pS] at this;exact this);clear hq HL xJ kY pS;go_wp2;go_ret;refine⟨Al ?_,rfl⟩;rw[<-aN uP];rfl
theorem W6 (w:aY)(rb:Nat)(vA vS vR:aG)(bs:List aG)(m:N.cE)(h:cH w rb vA vS vR bs m):
 bH aQ 96 #[aK (aE ⟨rb,0,aC⟩)] w λe w' =>e=aM (aH aF (N.count m:Int))/\w' =w:=by
 obtain⟨aA,cA,rE⟩:=h.slice;have c0:w.cell? ⟨rb,0,aC⟩=aE (aJ aA m.all.length cA):=by rw[<-rE];exact aZ h.mc rfl
 have hold:=h.qU;have HR:=bE h;unfold N.count;clear h;generalize hn:m.all.length=n at*;have Hn:=bE hn;clear hn;go_enter func96,ntmps96;go_wp2
 go_loop [3,4] (λc i=>∃k:Nat,k<=n/\i=aH aF k/\c=aH aF (((m.all.take k).filter N.there).length:Int)) (λ_ i=>match i with|aH _ k=>n-k.toNat|_=>0)
 case atStart=>exact⟨0,bZ _,rfl,by simp⟩
 case round=>
  obtain⟨k,hk,rfl,rfl⟩:=hrel;have hc:((m.all.take k).filter N.there).length<=1000000000000:=cF (List.length_filter_le _ _) (by rw[dH];omega);by_cases Mp:k<n
  ·have eQ:k<m.all.length:=by rw[aN Hn];omega
   obtain⟨e,he⟩:∃e,m.all[k]?=aE e:=⟨_,bL eQ⟩
   obtain⟨g,cap,v,hv,_,_,_,_,_,_,q4,q5,_⟩:=(aN HR).tA he;rw[rE] at hv
   replace hv:=eM hv
   subst hv;have jT:((m.all.take (k+1)).filter N.there).length=((m.all.take k).filter N.there).length+if N.there e then 1 else 0:=by
    rw[dF eQ,List.filter_append,bN];rw[bL eQ] at he;injection he with he;rw[he];cases ht:N.there e with
    |true=>simp[ht]
    |false=>simp[ht]
   have HSt:=bE jT;have HVA:=bE rE;clear jT he eQ rE;have k1:(k:Int)<(n:Int):=by omega
   have k0:(0:Int)<=(k:Int):=by omega
   have k2:=wi ((k:Int)+1);generalize hC:((m.all.take k).filter N.there).length=C at*;have k3:=wi ((C:Int)+1);clear hC;cases kY:e.ended with
   |false=>
    rw[kY] at q4;have uP:=bE (show((m.all.take (k+1)).filter N.there).length=C from by have:=aN HSt;unfold N.there at this;rw[kY] at this;exact this);clear kY HSt;go_wp2;refine⟨⟨k+1,by omega,by simp,by rw[aN uP]⟩,?_⟩;show n-((k:Int)+1).toNat<n-(k:Int).toNat;omega
   |true=>
    rw[kY] at q4;cases pS:e.gone with
    |true=>
     rw[pS] at q5;have uP:=bE (show((m.all.take (k+1)).filter N.there).length=C from by have:=aN HSt;unfold N.there at this;rw[kY,pS] at this;exact this);clear kY pS HSt;go_wp2;refine⟨⟨k+1,by omega,by simp,by rw[aN uP]⟩,?_⟩;show n-((k:Int)+1).toNat<n-(k:Int).toNat;omega
    |false=>
     rw[pS] at q5;have uP:=bE (show((m.all.take (k+1)).filter N.there).length=C+1 from by have:=aN HSt;unfold N.there at this;rw[kY,pS] at this;exact this);clear kY pS HSt;go_wp2;refine⟨⟨k+1,by omega,by simp,by rw[aN uP];rfl⟩,?_⟩;show n-((k:Int)+1).toNat<n-(k:Int).toNat;omega
  ·have k1:¬(k:Int)<(n:Int):=by omega
   have O0:m.all.take k=m.all:=eB (by rw[aN Hn];omega);rw[O0] at hc ⊢;clear O0;go_wp2;go_ret;exact⟨rfl,rfl⟩
theorem Rj (w:aY)(rb:Nat)(vA vS vR:aG)(bs:List aG)(m:N.cE)(t:Int)(ht:dQ t)(h:cH w rb vA vS vR bs m):
 bH aQ 100 #[aK (aE ⟨rb,0,aC⟩),aH aF t] w λe w' =>e=aM (nJ (N.place m t))/\w' =w:=by
 obtain⟨aA,cA,rE⟩:=h.slice;have c0:w.cell? ⟨rb,0,aC⟩=aE (aJ aA m.all.length cA):=by rw[<-rE];exact aZ h.mc rfl
 have hold:=h.qU;have HR:=bE h;unfold N.place;clear h;obtain⟨t1,t2⟩:=ht;by_cases ba:t<1000
 ·rw[eJ ba];clear rE;generalize m.all.length=n at*;generalize hk:aF.wrap (t-1000)=kk;go_enter func100,ntmps100;go_wp2;go_ret;exact⟨rfl,rfl⟩
 ·rw[dL ba];have e0:aF.wrap (t-1000)=t-1000:=wj;obtain⟨k,hk⟩:∃k:Nat,t-1000=(k:Int):=⟨(t-1000).toNat,by omega⟩
  rw[hk] at e0 ⊢;rw[Int.toNat_natCast];have HK:=bE hk;cases he:m.all[k]? with
  |none=>
   have Og:m.all.length<=k:=by
    rcases Nat.lt_or_ge k m.all.length with h' |h'
    ·rw[bL h'] at he;cases he
    ·exact h'
   have k1:(m.all.length:Int)<=(k:Int):=by omega
   clear rE he Og;generalize m.all.length=n at*;have e1:aF.wrap (t-1000)=(k:Int):=by rw[hk];exact e0
   clear hk e0;go_enter func100,ntmps100;go_wp2;go_ret;exact⟨rfl,rfl⟩
  |some e=>
   have eQ:=(bI.1 he).1;obtain⟨g,cap,v,hv,_,_,_,_,_,_,q4,q5,_⟩:=(aN HR).tA he;rw[rE] at hv
   replace hv:=eM hv
   subst hv;have k1:(k:Int)<(m.all.length:Int):=by omega
   have k0:(0:Int)<=(k:Int):=by omega
   have e1:aF.wrap (t-1000)=(k:Int):=by rw[hk];exact e0
   clear hk e0 rE he eQ;generalize m.all.length=n at*;have nk:¬(k:Int)≥(n:Int):=by omega
   show bH _ _ _ _ λe' w' =>e' =aM (nJ (if N.there e then aE k else aC))/\w' =w
   cases pS:e.gone with
   |true=>
    have hp:(if N.there e then aE k else aC)=aC:=by unfold N.there;rw[pS];cases e.ended <;> rfl
    rw[hp];rw[pS] at q5;clear pS hp;go_enter func100,ntmps100;go_wp2;go_ret;exact⟨rfl,rfl⟩
   |false=>
    rw[pS] at q5;cases kY:e.ended with
    |false=>
     have hp:(if N.there e then aE k else aC)=aC:=by unfold N.there;rw[kY];rfl
     rw[hp];rw[kY] at q4;clear kY hp pS;go_enter func100,ntmps100;go_wp2;go_ret;exact⟨rfl,rfl⟩
    |true=>
     have hp:(if N.there e then aE k else aC)=aE k:=by unfold N.there;rw[kY,pS];rfl
     rw[hp];rw[kY] at q4;clear kY hp pS;go_enter func100,ntmps100;go_wp2;go_ret;exact⟨rfl,rfl⟩
def dP (rb:Nat) (vA vS vR:aG) (bs:List aG) (m:N.cE) (w w' :aY):Prop:=
 ∃pI pU xM,cH w' rb pI pU xM bs m/\Mv (dV rb vA vS vR) w w' /\dG w (dV rb vA vS vR) (dV rb pI pU xM)
theorem dP.stay (h:cH w rb vA vS vR bs m)(hb:bA w.heap.size w w'):dP rb vA vS vR bs m w w' :=⟨vA,vS,vR,h.below hb,Mv.dS hb _,dG.refl _ _⟩
variable {w1 w2:aY}
theorem dP.trans {ML VF VL:aG}(hm:Mv (dV rb vA vS vR) w w1)(hf:dG w (dV rb vA vS vR) (dV rb ML VF VL))(h:dP rb ML VF VL bs m w1 w2):dP rb vA vS vR bs m w w2:=by
 obtain⟨pI,pU,xM,h1,h2,h3⟩:=h;exact⟨pI,pU,xM,h1,hm.trans hf h2,hf.trans hm.size h3⟩
variable {W:aY}
theorem dP.after (hb:bA w.heap.size w W)(h:dP rb vA vS vR bs m W w'):dP rb vA vS vR bs m w w' :=dP.trans (Mv.dS hb _) (dG.refl _ _) h
theorem cH.pR (h:cH w rb vA vS vR bs m):vA.ownBlock≠aE rb/\vS.ownBlock≠aE rb/\vR.ownBlock≠aE rb:=by
 refine⟨λe=>?_,λe=>?_,λe=>?_⟩
 ·obtain⟨_,h'⟩:=cJ h.row e;exact absurd (cM h.mc h') (by decide)
 ·exact bW h.st h.mc (by decide) e
 ·exact bW h.rt h.mc (by decide) e
variable {i:Nat}{u:aG}
theorem dA (h:k≠rb):(w.setCell ⟨rb,i,aC⟩ u).heap[k]?=w.heap[k]?:=bA.heap_setCell _ _ _ _ h
theorem cH.Ku (h:cH w rb vA vS vR bs m)(hk:tN w k):k≠rb:=λe=>h.sT hk (.inl e)
theorem Vp (w:aY)(rb:Nat)(vA vS vR:aG)(bs:List aG)(m:N.cE)(h:cH w rb vA vS vR bs m)(hs:m.steps<=1000):
 bH aQ 47 #[aK (aE ⟨rb,0,aC⟩)] w λe w' =>e=aM (bB (decide (m.steps+1<=1000)))/\dP rb vA vS vR bs {m with steps:=m.steps+1} w w' :=by
 have c4:=cq 4 h.mc rfl;have f4:=bG 4 h.mc;have HR:=bE h;clear h;generalize hn:m.steps=n at*;have i0:aF.wrap ((n:Int)+1)=((n+1:Nat):Int):=wj;have Hn:=bE hn;clear hn;have fin:cH (w.setCell ⟨rb,4,aC⟩ (aH aF ((n+1:Nat):Int))) rb vA vS vR bs {m with steps:=n+1}:=by
  have h:=aN HR;obtain⟨n1,n2,n3⟩:=h.pR;exact⟨bV h.mc 4 _,cV h.row λk e=>dA λx=>n1 (x▸e),h.len,λj e v h1 h2 h3=>by
   obtain⟨h4,h5⟩:=h.Xa j e v h1 h2 h3;refine⟨cV h4 λk e=>dA (h.Ku ?_),h5⟩;obtain⟨cur,hc⟩:=cJ h4 e;exact⟨cur,_,hc⟩,cK h.st λk e=>dA λx=>n2 (x▸e),cK h.rt λk e=>dA λx=>n3 (x▸e),h.ap,h.sl,h.rl,h.ol,by show n+1<=1001;omega,h.qU,h.si,h.ri,h.ni⟩
 have Fin:=bE fin;clear fin;go_enter func47,ntmps47;go_wp2;go_ret;exact⟨Al (by show bB (decide ((n:Int)+1<=1000))=bB (decide (n+1<=1000));congr 1;exact decide_eq_decide.2 (by omega)),vA,vS,vR,aN Fin,Mv.setCell (T:=dV rb vA vS vR) (Mv.refl _ _) (.inl (.inl rfl)) _,dG.refl _ _⟩
theorem jJ:∃i,(aQ).info? 3=aE i/\i.zero=aE (aH aF 0)/\i.size=1/\i.bytes=8:=nE (by kernel_rfl)
variable {v' :aG}
theorem cH.GP {S' :List Int}(h:cH w rb vA vS vR bs m)(hb:bA w.heap.size w w1)(hg:w1.grownBy w2 vS.ownBlock)(ho:w2.ownsRow 0 3 1 v' S'.length (S'.map (aH aF)))(kD:v'.ownBlock=vS.ownBlock\/v'.ownBlock=aE w1.heap.size)(hl:S'.length<=16)(hi:∀x∈S',dQ x):
 cH (w2.setCell ⟨rb,1,aC⟩ v') rb vA v' vR bs {m with S:=S'}/\Mv (dV rb vA vS vR) w (w2.setCell ⟨rb,1,aC⟩ v')/\dG w (dV rb vA vS vR) (dV rb vA v' vR):=by
 obtain⟨n1,n2,n3⟩:=h.pR;have NP:=hb.size;have xN:∀k,k<w.heap.size->vS.ownBlock≠aE k->w2.heap[k]?=w.heap[k]?:=λk hk hn=>(hg.block k (by omega) (λe=>hn e.symm)).trans (hb.block k hk)
 have pQ:∀k,k<w.heap.size->vS.ownBlock≠aE k->k≠rb->(w2.setCell ⟨rb,1,aC⟩ v').heap[k]?=w.heap[k]?:=λk hk hn hr=>(dA hr).trans (xN k hk hn)
 have N7:=(xN rb (cC h.mc) n2).trans h.mc;have O8:v'.ownBlock≠aE rb:=λe=>bW ho N7 (by decide) e
 refine⟨⟨bV N7 1 v',cV h.row λk e=>pQ k (mC h.row e) (λx=>?_) (λx=>n1 (x▸e)),h.len,λj e v h1 h2 h3=>?_,cK ho λk e=>dA λx=>O8 (x▸e),cK h.rt λk e=>pQ k (h.rt.lt k e).2 (λx=>h.ap k x e) (λx=>n3 (x▸e)),?_,hl,h.rl,h.ol,h.sp,h.qU,hi,h.ri,h.ni⟩,?_,?_⟩
 ·obtain⟨_,h'⟩:=cJ h.row e;obtain⟨_,TF⟩:=cZ h.st x;exact absurd (cM h' TF) (by decide)
 ·obtain⟨h4,h5⟩:=h.Xa j e v h1 h2 h3;refine⟨cV h4 λk e=>?_,h5⟩;obtain⟨cur,hc⟩:=cJ h4 e;have ED:tN w k:=⟨cur,_,hc⟩
  exact pQ k (cC hc) (λx=>h.sT ED (.inr (.inr (.inl x)))) (h.Ku ED)
 ·intro k e1 e2;rcases kD with e|e
  ·exact h.ap k (e▸e1) e2
  ·rw[e] at e1;have:=(h.rt.lt k e2).2;injection e1 with e1;omega
 ·refine⟨?_,?_,?_,?_,λk hk hn=>pQ k hk (λx=>hn (.inr (.inr (.inl x)))) (λx=>hn (.inl x))⟩
  ·exact hg.os.trans hb.os
  ·exact hg.tape.trans hb.tape
  ·exact hg.output.trans hb.output
  ·show w.heap.size<=(w2.setCell _ _).heap.size;have:=hg.size;simp[aY.setCell];omega
 ·rintro k (e|e|e|e)
  ·exact .inl (.inl e)
  ·exact .inl (.inr (.inl e))
  ·rcases kD with x|x
   ·exact .inl (.inr (.inr (.inl (x▸e))))
   ·rw[x] at e;injection e with e;exact .inr (by omega)
  ·exact .inl (.inr (.inr (.inr e)))
theorem zJ (w:aY)(rb:Nat)(vA vS vR:aG)(bs:List aG)(m:N.cE)(x:Int)(hx:dQ x)(h:cH w rb vA vS vR bs m):
 bH aQ 59 #[aK (aE ⟨rb,0,aC⟩),aH aF x] w λe w' =>e=aM (aH aF (N.push m x).2)/\dP rb vA vS vR bs (N.push m x).1 w w' :=by
 obtain⟨iI,hi,hz,hs,jP⟩:=jJ;obtain⟨aS,cS,rfl,_,_⟩:=cU h.st;have c1:=cq 1 h.mc rfl;have f1:=bG 1 h.mc;have xJ:=h.sl;obtain⟨_,nS,_⟩:=h.pR;have HR:=bE h;unfold N.push;by_cases hful:16<=m.S.length
 ·rw[eJ hful];have k1:(16:Int)<=(m.S.length:Int):=by omega
  generalize m.S.length=n at*;clear h;go_enter func59,ntmps59;go_wp2;go_ret;exact⟨rfl,dP.stay (aN HR) (bF _ _)⟩
 ·rw[dL hful];have k1:¬(m.S.length:Int)≥16:=by omega
  have fK:=h.st;clear h;generalize hn:m.S.length=n at*;have Hn:=bE hn;clear hn;have HO:=bE fK;clear fK;go_enter func59,ntmps59;go_wp2_with (
   at_builtin
   refine kV _ (by rfl) (.tmp 15) (.tmp 17) 26 (by rfl) 3 iI (aH aF 0) 8 underlying26 hi hz hs jP rfl (aJ aS n cS) n (m.S.map (aH aF)) (by rfl) (by exact(aN HO).alloc _) (aJ (aE ⟨w.heap.size,0,aC⟩) 1 1) [aH aF x] (by rfl) (lY w [aH aF x] 3 rfl rfl) (λu hu=>by simp at hu;subst hu;rfl) (by unfold maxLen;simp;omega) (by simp;omega) ?_;intro a3 iG w3 jM dK qH;have dK:(w.alloc (aU #[aH aF x] 3)).grownBy w3 (aJ aS n cS).ownBlock:=⟨dK.os,dK.tape,dK.output,dK.size,dK.block⟩
   have e1:(w.alloc (aU #[aH aF x] 3)).cell? ⟨rb,1,aC⟩=aE (aJ aS n cS):=bJ c1 _;have f4:(w.alloc (aU #[aH aF x] 3)).frozen? ⟨rb,1,aC⟩=aV:=cY (bU w _ aC) c1 f1 (by simp);have yN :aE rb≠(aJ aS n cS).ownBlock:=λe=>nS e.symm
   have e5:=dK.cell e1 yN;have f5:=cY dK e1 f4 yN;have G3:=bE dK;have O3:=bE jM;have A3:=bE qH;clear dK jM qH e1 f4)
  go_ret;have h:=aN HR;have fF:bA w.heap.size w (w.alloc (aU #[aH aF x] 3)):=(bF _ _).alloc (bD _) _;have hlen:(m.S++[x]).length=n+1:=by rw[bN,aN Hn];rfl
  have hg:=h.GP (S' :=m.S++[x]) fF (aN G3) (by
   rw[hlen,List.map_append];exact aN O3) (aN A3) (by omega) (λy hy=>by
   rcases List.mem_append.1 hy with hy|hy
   ·exact h.si y hy
   ·have:y=x:=by simpa using hy
    rw[this];exact hx)
  exact⟨rfl,vA,_,vR,hg.1,hg.2.1,hg.2.2⟩
theorem cH.EJ {cS:Nat}{aS:Option Addr}(h:cH w rb vA (aJ aS m.S.length cS) vR bs m)(hb:bA w.heap.size w w1)(k:Nat)(hk:k<=m.S.length):
 cH (w1.setCell ⟨rb,1,aC⟩ (aJ aS k cS)) rb vA (aJ aS k cS) vR bs {m with S:=m.S.take k}/\Mv (dV rb vA (aJ aS m.S.length cS) vR) w (w1.setCell ⟨rb,1,aC⟩ (aJ aS k cS))/\dG w (dV rb vA (aJ aS m.S.length cS) vR) (dV rb vA (aJ aS k cS) vR):=by
 have hg:w1.grownBy w1 (aJ aS m.S.length cS).ownBlock:=⟨rfl,rfl,rfl,bD _,λ_ _ _=>rfl⟩
 have fK:(aJ aS k cS).ownBlock=(aJ aS m.S.length cS).ownBlock:=by cases aS <;> rfl
 have hl:(m.S.take k).length=k:=by rw[dH];omega
 refine h.GP (S' :=m.S.take k) hb hg ?_ (.inl fK) (by have:=h.sl;omega) (λx hx=>h.si x (List.mem_of_mem_take hx));rw[hl,List.map_take];have:=tJ (cK h.st λk e=>hb.block k (h.st.lt k e).2) k hk;exact this
def jK (m:N.cE):Int:=match N.pop m with
 |some (_,n)=>n
 |none=>0
def iK (m:N.cE):N.cE:=match N.pop m with
 |some (m1,_)=>m1
 |none=>m
theorem mR (w:aY)(rb:Nat)(vA vS vR:aG)(bs:List aG)(m:N.cE)(h:cH w rb vA vS vR bs m):
 bH aQ 73 #[aK (aE ⟨rb,0,aC⟩)] w λe w' =>e=aM (bC #[aH aF (jK m),aH aF (if m.S=[] then 6 else 0)])/\dP rb vA vS vR bs (iK m) w w' :=by
 obtain⟨aS,cS,rfl,hle,_⟩:=cU h.st;have c1:=cq 1 h.mc rfl;have f1:=bG 1 h.mc;have xJ:=h.sl;have HR:=bE h;rcases List.eq_nil_or_concat m.S with h0|⟨S,x,hS⟩
 ·have e1:N.pop m=aC:=by unfold N.pop;rw[h0];rfl
  have e2:jK m=0:=by unfold jK;rw[e1]
  have e3:iK m=m:=by unfold iK;rw[e1]
  rw[e2,e3,eJ h0];clear e1 e2 e3;have hz:m.S.length=0:=by rw[h0];rfl
  rw[hz] at c1;clear h hle xJ;go_enter func73,ntmps73;go_wp2;go_ret2;exact⟨rfl,dP.stay (aN HR) (bF _ _)⟩
 ·have hS:m.S=S++[x]:=by simpa using hS
  have e1:N.pop m=aE ({m with S:=S},x):=by unfold N.pop;rw[hS];simp
  have jD:m.S≠[]:=by rw[hS];simp
  have e2:jK m=x:=by unfold jK;rw[e1]
  have e3:iK m={m with S:=S}:=by unfold iK;rw[e1]
  rw[e2,e3,dL jD];clear e1 e2 e3;obtain⟨g,cap,vJ,_,_⟩:=h.st.form (by rw[hS];simp);have Nt:=eM vJ;subst Nt;have hlen:m.S.length=S.length+1:=by rw[hS];simp
  have cx:w.cell? ⟨g,S.length,aC⟩=aE (aH aF x):=by
   have:=h.st.cells (g:=g) rfl S.length (aH aF x) (by rw[hS];simp);rwa[fE,dC] at this
  clear h vJ;generalize hn:m.S.length=n at*;generalize hk:S.length=k at*;have Hn:=bE (bK hn (bK hk (bK hS hlen)));have i0:aF.wrap ((n:Int)-1)=(k:Int):=wj;have i1:(0:Int)<=(k:Int):=by omega
  have i2:(k:Int)<(n:Int):=by omega
  have i3:(k:Int)<=(cS:Int):=by omega
  have i4:(0:Int)<(n:Int):=by omega
  have i5:((n:Int)==0)=aV:=by rw[beq_eq_false_iff_ne];omega
  clear hn hk hS jD hlen;go_enter func73,ntmps73;go_wp2;go_region_held3 (λw' =>w'.cell? ⟨rb,1,aC⟩=aE (aJ (aE ⟨g,0,aC⟩) n cS)/\w'.cell? ⟨g,k,aC⟩=aE (aH aF x)) (first|exact⟨c1,cx⟩|go_keep) (fail)
  have d1:w.drew.cell? ⟨rb,1,aC⟩=aE (aJ (aE ⟨g,0,aC⟩) n cS):=c1;have e2:w.drew.frozen? ⟨rb,1,aC⟩=aV:=f1;go_wp2;go_region_law (fail)
  all_goals
   go_wp2;go_ret2;have hh:=aN Hn;have hR:=aN HR;have hs:=(cH.EJ (k:=k) (w1:=w.drew) (by rw[hh.1];exact hR) (bF _ _).drew (by rw[hh.1];omega))
   rw[hh.1,show m.S.take k=S by rw[hh.2.2.1,<-hh.2.1,List.take_left]] at hs;refine⟨rfl,vA,_,vR,?_,?_,hs.2.2⟩
   ·exact hs.1.below ⟨rfl,rfl,rfl,bD _,λ_ _=>rfl⟩
   ·exact⟨hs.2.1.os,hs.2.1.tape,hs.2.1.output,hs.2.1.size,hs.2.1.block⟩
variable {g cap f:Nat}
theorem cH.UY (h:cH w rb (aJ (aE ⟨g,0,aC⟩) m.all.length cap) vS vR bs m){e e' :N.iM}{x:aG}(he:m.all[j]?=aE e)(hf:f<6)(eR:∀v,(jR e v).set f x=jR e' v)(hb:e'.ended=aX->e.ended=aX/\e'.body=e.body)(hn:dQ e'.n):
 cH (w.setCell ⟨g,j*6+f,aC⟩ x) rb (aJ (aE ⟨g,0,aC⟩) m.all.length cap) vS vR bs {m with all:=m.all.set j e'}:=by
 have hj:=(bI.1 he).1;obtain⟨v,hv⟩:∃v,bs[j]?=aE v:=⟨_,bL (by rw[h.len];exact hj)⟩
 obtain⟨n1,n2,n3⟩:=h.pR;have Mc:rb≠g:=λx=>n1 (by rw[x];rfl)
 have gZ:∀k,k≠g->(w.setCell ⟨g,j*6+f,aC⟩ x).heap[k]?=w.heap[k]?:=λk hk=>bA.heap_setCell _ _ _ _ hk
 rcases h.row.2 with ⟨h0,_⟩|⟨g2,xO,cur,rE,eD,hg,hle,dm,hs,ht⟩
 ·cases h0
 have Vd:g2=g/\xO=cap:=by
  injection rE with a1 _ a3;injection a1 with a1;injection a1 with a1 _;exact⟨a1.symm,a3.symm⟩
 obtain⟨rfl,rfl⟩:=Vd;have Sm:∀{u:aG} {n:Nat} {xs:List aG} {k:Nat},w.ownsRow 0 3 1 u n xs->u.ownBlock=aE k->k≠g2:=λho hk e=>by
  obtain⟨_,h'⟩:=cZ ho hk;rw[e] at h';exact absurd (cM hg h') (by decide)
 have ED:∀k,tN w k->k≠g2:=λk ⟨cs,fr,hc⟩ e=>by
  rw[e] at hc;exact absurd (cM hg hc) (by decide)
 refine⟨(gZ rb Mc).trans h.mc,?_,by show bs.length=(m.all.set j e').length;rw[List.length_set];exact h.len,?_,cK h.st λk e=>gZ k (Sm h.st e),cK h.rt λk e=>gZ k (Sm h.rt e),h.ap,h.sl,h.rl,h.ol,h.sp,by show(m.all.set j e').length<=_;rw[List.length_set];exact h.qU,h.si,h.ri,?_⟩
 ·show(w.setCell ⟨g2,j*6+f,aC⟩ x).ownsRow 0 98 6 (aJ (aE ⟨g2,0,aC⟩) m.all.length xO) (m.all.set j e').length (jA (m.all.set j e') bs);rw[List.length_set];have hgs:=bV hg (j*6+f) x;refine⟨by rw[Ao _ _ (by rw[List.length_set];exact h.len),List.length_set],.inr ⟨g2,xO,_,rfl,eD,hgs,hle,dm,by simpa using hs,?_⟩⟩;rw[<-Hy m.all bs j e e' v f x he hv hf (eR v),<-ht];rw[Array.toList_setIfInBounds,List.take_set]
 ·intro i e2 v2 SD En MR;by_cases hij:j=i
  ·subst hij;have e3:e2=e' :=by
    have:(m.all.set j e')[j]?=aE e2:=SD;rw[List.getElem?_set_self hj] at this;injection this with this;exact this.symm
   subst e3;obtain⟨x1,x2⟩:=hb MR;obtain⟨h4,h5⟩:=h.Xa j e v2 he En x1;rw[x2];refine⟨cV h4 λk e=>gZ k (ED k ?_),h5⟩;obtain⟨ND,hc⟩:=cJ h4 e;exact⟨ND,_,hc⟩
  ·have e3:m.all[i]?=aE e2:=by
    have:(m.all.set j e')[i]?=aE e2:=SD;rwa[List.getElem?_set_ne hij] at this
   obtain⟨h4,h5⟩:=h.Xa i e2 v2 e3 En MR;refine⟨cV h4 λk e=>gZ k (ED k ?_),h5⟩;obtain⟨ND,hc⟩:=cJ h4 e;exact⟨ND,_,hc⟩
 ·intro y hy;rcases List.mem_or_eq_of_mem_set hy with hy|rfl
  ·exact h.ni y hy
  ·exact hn
def kW (all:List N.iM) (k i:Nat):List N.iM:=all.take k++((all.drop k).take (i-k)).map (λe=>{e with gone:=aX})++all.drop (max k i)
theorem Ov (all:List N.iM)(k:Nat):kW all k k=all:=by simp[kW]
theorem Yd (all:List N.iM)(k:Nat)(hk:k<=all.length):kW all k all.length=all.take k++(all.drop k).map λe=>{e with gone:=aX}:=by
 unfold kW;rw[Nat.max_eq_right hk,List.drop_length,List.append_nil];have h1:(all.drop k).take (all.length-k)=all.drop k:=eB (by simp);rw[h1]
theorem Ul (all:List N.iM)(k i:Nat)(e:N.iM)(hk:k<=i)(he:all[i]?=aE e):(kW all k i)[i]?=aE e/\(kW all k i).set i {e with gone:=aX}=kW all k (i+1):=by
 have hi:=(bI.1 he).1;have Q9:all[i]=e:=by rw[bL hi] at he;injection he
 have hl:(all.take k++((all.drop k).take (i-k)).map (λe:N.iM=>{e with gone:=aX})).length=i:=by simp;omega
 have hd:all.drop (max k i)=e::all.drop (i+1):=by rw[Nat.max_eq_right hk,List.drop_eq_getElem_cons hi,Q9]
 unfold kW;constructor
 ·rw[bP (by omega),hl,Nat.sub_self,hd];rfl
 ·rw[List.set_append_right _ _ (by omega),hl,Nat.sub_self,hd,List.set_cons_zero,Nat.max_eq_right (by omega:k<=i+1)];have h1:(all.drop k).take (i+1-k)=(all.drop k).take (i-k)++[e]:=by
   rw[show i+1-k=(i-k)+1 by omega,dF (by simp;omega)]
   congr 2
   simp[<-Q9,show k+(i-k)=i by omega]
  rw[h1];simp
theorem Zl (all:List N.iM)(k i:Nat)(hk:k<=i)(hi:i<=all.length):(kW all k i).length=all.length:=by
 unfold kW;simp;omega
theorem Ik (w:aY)(rb:Nat)(vA vS vR:aG)(bs:List aG)(m:N.cE)(k:Nat)(hk:k<=m.all.length)(h:cH w rb vA vS vR bs m):
 bH aQ 74 #[aK (aE ⟨rb,0,aC⟩),aH aF k] w λe w' =>e=aM (bC #[])/\dP rb vA vS vR bs (N.kF m k) w w' :=by
 obtain⟨aA,cA,rfl⟩:=h.slice;have hold:=h.qU;have HR:=bE h;have hN:N.kF m k={m with all:=kW m.all k m.all.length}:=by unfold N.kF;rw[Yd _ _ hk]
 rw[hN];clear hN h;generalize hn:m.all.length=n at*;have Hn:=bE hn;clear hn;go_enter func74,ntmps74;go_wp2
 go_loopw [4] (λi wr=>∃j:Nat,k<=j/\j<=n/\i=aH aF j/\cH wr rb (aJ aA n cA) vS vR bs {m with all:=kW m.all k j}/\Mv (dV rb (aJ aA n cA) vS vR) w wr) (λi _=>match i with|aH _ j=>n-j.toNat|_=>0)
 case atStart=>exact⟨k,bD _,hk,rfl,by rw[Ov];exact aN HR,Mv.refl _ _⟩
 case round=>
  obtain⟨j,VH,hjn,rfl,hr,hm⟩:=hrel;have c0:=cq 0 hr.mc rfl;by_cases eQ:j<n
  ·obtain⟨e,he⟩:∃e,m.all[j]?=aE e:=⟨_,bL (by rw[aN Hn];exact eQ)⟩
   obtain⟨h1,h2⟩:=Ul m.all k j e VH he;have hlen:(kW m.all k j).length=n:=by rw[Zl _ _ _ VH (by rw[aN Hn];omega),aN Hn]
   obtain⟨g,cap,v,hv,_,_,_,_,_,_,_,q5,f5⟩:=hr.tA (show({m with all:=kW m.all k j}:N.cE).all[j]?=aE e from h1);have Nt:=eM hv;subst Nt;have hre:=cH.UY (g:=g) (cap:=cA) (m:={m with all:=kW m.all k j}) (by show cH wr rb (aJ (aE ⟨g,0,aC⟩) (kW m.all k j).length cA) vS vR bs _;rw[hlen];exact hr) (j:=j) (f:=5) (e' :={e with gone:=aX}) (x:=bB aX) h1 (by omega) (λv=>rfl) (λx=>⟨x,rfl⟩) ((aN HR).ni e (cG he));have hre:cH (wr.setCell ⟨g,j*6+5,aC⟩ (bB aX)) rb (aJ (aE ⟨g,0,aC⟩) n cA) vS vR bs {m with all:=kW m.all k (j+1)}:=by
    have h3:cH (wr.setCell ⟨g,j*6+5,aC⟩ (bB aX)) rb (aJ (aE ⟨g,0,aC⟩) (kW m.all k j).length cA) vS vR bs {m with all:=(kW m.all k j).set j {e with gone:=aX}}:=hre;rwa[h2,hlen] at h3
   have H2:=bE (bK hre hm);have ff:=f5 (j*6+5);have k1:(j:Int)<(n:Int):=by omega
   have k0:(0:Int)<=(j:Int):=by omega
   have k2:=wi ((j:Int)+1);clear hr hm h1 h2 hlen hv hre he f5;go_wp2;refine⟨⟨j+1,by omega,by omega,by simp,(aN H2).1,Mv.setCell (p:=⟨g,j*6+5,aC⟩) (aN H2).2 (.inl (.inr (.inl rfl))) _⟩,?_⟩;show n-((j:Int)+1).toNat<n-(j:Int).toNat;omega
  ·obtain rfl:j=n:=by omega
   have k1:¬(j:Int)<(j:Int):=by omega
   have H2:=bE (bK hr hm);clear hr hm;go_wp2;go_end0;exact⟨rfl,_,vS,vR,(aN H2).1,(aN H2).2,dG.refl _ _⟩
end
theorem Cw (n:Nat)(w:aY)(h1:(n:Int)<=9223372036854775807):
 bH aQ 50 #[aH aF n] w λe w' =>e=aM (aI (uX n))/\w' =w:=by
 have eQ:¬((n:Int)<0):=by omega
 have YN:((n:Int)==-9223372036854775808)=aV:=by rw[beq_eq_false_iff_ne];omega
 have hl:(Lib.decDigits n).length<=19:=qN n (by omega);go_enter func50,ntmps50;go_wp2
 go_loop [0,3] (λa b=>∃(m:Nat) (s:List UInt8),a=aH aF m/\b=aI ⟨s.toArray⟩/\m<=n/\s.length<=19/\Lib.decDigits n=Lib.decDigits m++s) (λa _=>(intOf a).toNat)
 case atStart=>exact⟨n,[],rfl,rfl,bD _,by simp,by simp⟩
 case round=>
  obtain⟨m,s,rfl,rfl,hm,xJ,hs⟩:=hrel;have HS:=bE hs;clear hs;by_cases hz:m/10=0
  ·have hb:((m:Int)/10==0)=aX:=by rw[beq_iff_eq];omega
   clear hz;go_wp2;go_ret;refine⟨?_,rfl⟩;have hz:m/10=0:=by rw[beq_iff_eq] at hb;omega
   rw[Ab,uX,aN HS,Ee hz];rfl
  ·have hb:((m:Int)/10==0)=aV:=by rw[beq_eq_false_iff_ne];omega
   have Hz:=bE hz;clear hz;go_wp2;refine⟨⟨m/10,UInt8.ofNat (48+m%10)::s,by go_num,by rw[Ab],by omega,?_,?_⟩,?_⟩
   ·have h2:=congrArg List.length (aN HS);rw[Ae (aN Hz)] at h2;simp at h2 ⊢;omega
   ·rw[aN HS,Ae (aN Hz)];simp
   ·have:=aN Hz;simp[intOf];omega
theorem An (n:Int)(w:aY)(h0:-9223372036854775808<=n)(h1:n<=9223372036854775807):
 bH aQ 50 #[aH aF n] w λe w' =>e=aM (aI (kM n))/\w' =w:=by
 by_cases hn:0<=n
 ·obtain⟨k,rfl⟩:=Int.eq_ofNat_of_zero_le hn;rw[Ll];exact Cw k w h1
 ·have eQ:n<0:=by omega
  by_cases hm:-9223372036854775808<n
  ·obtain⟨k,hk⟩:=Int.eq_ofNat_of_zero_le (show 0<=-n by omega);have YN:(n==-9223372036854775808)=aV:=by rw[beq_eq_false_iff_ne];omega
   have Hk:=bE hk;have hl:(Lib.decDigits k).length<=19:=qN k (by omega);have TW:kM n=⟨(45::Lib.decDigits k).toArray⟩:=by
    unfold kM Lib.itoa;rw[eJ eQ,show n.natAbs=k by omega]
   have Hneg:=bE TW;have SE:(k:Int)<=9223372036854775807:=by omega
   have Hkle:=bE SE;clear hk TW SE;go_enter func50,ntmps50;go_wp2_with fail
   rw[aN Hk];refine(Cw k _ (aN Hkle)).mono ?_;rintro e w' ⟨rfl,rfl⟩;have hsz:(uX k).size<=19:=by rw[Lk];exact hl
   go_wp2;go_ret;refine⟨?_,rfl⟩;rw[aN Hneg,uX,Rp];rfl
  ·have hmn:n=-9223372036854775808:=by omega
   subst hmn;clear hn eQ hm h0 h1;go_enter func50,ntmps50;go_wp2;go_ret;refine⟨?_,rfl⟩;rw[Li];rfl
theorem Ef (b:Bool)(w:aY):
 bH aQ 81 #[bB b] w λe w' =>e=aM (aH aF (L.lH b))/\w' =w:=by
 cases b;all_goals
  go_enter func81,ntmps81;go_wp2;go_ret;exact⟨rfl,rfl⟩
def H5:List (List UInt8×Int×Int×Int×Int):=[([43],2,0,1,0),([45],2,0,1,0),([42],2,0,1,0),([47],2,0,1,0),([109,111,100],2,0,1,0),([61],2,0,1,0),([60],2,0,1,0),([62],2,0,1,0),([97,110,100],2,0,1,0),([111,114],2,0,1,0),([120,111,114],2,0,1,0),([110,111,116],1,0,1,0),([64],1,0,1,0),([100,117,112],1,0,2,0),([100,114,111,112],1,0,0,0),([46],1,0,0,0),([101,109,105,116],1,0,0,0),([101,120,101,99,117,116,101],1,0,0,0),([115,119,97,112],2,0,2,0),([111,118,101,114],2,0,3,0),([114,111,116],3,0,3,0),([62,114],1,0,0,1),([114,62],0,1,1,0),([114,64],0,1,1,1),([100,101,112,116,104],0,0,1,0),([33],2,0,0,0),([99,114],0,0,0,0)]
theorem Cx (w:aY):bH aQ 78 #[aI ⟨#[43]⟩] w λe w' =>e=aM (bC #[aH aF 2,aH aF 0,aH aF 1,aH aF 0])/\w' =w:=by
 go_enter func78,ntmps78;go_wp2;exact bodyPost_ret (v:=bC #[aH aF 2,aH aF 0,aH aF 1,aH aF 0]) (by simp[results,results78,go_sem]) rfl ⟨rfl,rfl⟩
theorem Cv (w:aY):bH aQ 78 #[aI ⟨#[45]⟩] w λe w' =>e=aM (bC #[aH aF 2,aH aF 0,aH aF 1,aH aF 0])/\w' =w:=by
 go_enter func78,ntmps78;go_wp2;exact bodyPost_ret (v:=bC #[aH aF 2,aH aF 0,aH aF 1,aH aF 0]) (by simp[results,results78,go_sem]) rfl ⟨rfl,rfl⟩
theorem Cu (w:aY):bH aQ 78 #[aI ⟨#[42]⟩] w λe w' =>e=aM (bC #[aH aF 2,aH aF 0,aH aF 1,aH aF 0])/\w' =w:=by
 go_enter func78,ntmps78;go_wp2;exact bodyPost_ret (v:=bC #[aH aF 2,aH aF 0,aH aF 1,aH aF 0]) (by simp[results,results78,go_sem]) rfl ⟨rfl,rfl⟩
theorem yK (w:aY):bH aQ 78 #[aI ⟨#[47]⟩] w λe w' =>e=aM (bC #[aH aF 2,aH aF 0,aH aF 1,aH aF 0])/\w' =w:=by
 go_enter func78,ntmps78;go_wp2;exact bodyPost_ret (v:=bC #[aH aF 2,aH aF 0,aH aF 1,aH aF 0]) (by simp[results,results78,go_sem]) rfl ⟨rfl,rfl⟩
theorem xW (w:aY):bH aQ 78 #[aI ⟨#[109,111,100]⟩] w λe w' =>e=aM (bC #[aH aF 2,aH aF 0,aH aF 1,aH aF 0])/\w' =w:=by
 go_enter func78,ntmps78;go_wp2;exact bodyPost_ret (v:=bC #[aH aF 2,aH aF 0,aH aF 1,aH aF 0]) (by simp[results,results78,go_sem]) rfl ⟨rfl,rfl⟩
theorem Cn (w:aY):bH aQ 78 #[aI ⟨#[61]⟩] w λe w' =>e=aM (bC #[aH aF 2,aH aF 0,aH aF 1,aH aF 0])/\w' =w:=by
 go_enter func78,ntmps78;go_wp2;exact bodyPost_ret (v:=bC #[aH aF 2,aH aF 0,aH aF 1,aH aF 0]) (by simp[results,results78,go_sem]) rfl ⟨rfl,rfl⟩
theorem Cy (w:aY):bH aQ 78 #[aI ⟨#[60]⟩] w λe w' =>e=aM (bC #[aH aF 2,aH aF 0,aH aF 1,aH aF 0])/\w' =w:=by
 go_enter func78,ntmps78;go_wp2;exact bodyPost_ret (v:=bC #[aH aF 2,aH aF 0,aH aF 1,aH aF 0]) (by simp[results,results78,go_sem]) rfl ⟨rfl,rfl⟩
theorem Ct (w:aY):bH aQ 78 #[aI ⟨#[62]⟩] w λe w' =>e=aM (bC #[aH aF 2,aH aF 0,aH aF 1,aH aF 0])/\w' =w:=by
 go_enter func78,ntmps78;go_wp2;exact bodyPost_ret (v:=bC #[aH aF 2,aH aF 0,aH aF 1,aH aF 0]) (by simp[results,results78,go_sem]) rfl ⟨rfl,rfl⟩
theorem Cq (w:aY):bH aQ 78 #[aI ⟨#[97,110,100]⟩] w λe w' =>e=aM (bC #[aH aF 2,aH aF 0,aH aF 1,aH aF 0])/\w' =w:=by
 go_enter func78,ntmps78;go_wp2;exact bodyPost_ret (v:=bC #[aH aF 2,aH aF 0,aH aF 1,aH aF 0]) (by simp[results,results78,go_sem]) rfl ⟨rfl,rfl⟩
theorem Dd (w:aY):bH aQ 78 #[aI ⟨#[111,114]⟩] w λe w' =>e=aM (bC #[aH aF 2,aH aF 0,aH aF 1,aH aF 0])/\w' =w:=by
 go_enter func78,ntmps78;go_wp2;exact bodyPost_ret (v:=bC #[aH aF 2,aH aF 0,aH aF 1,aH aF 0]) (by simp[results,results78,go_sem]) rfl ⟨rfl,rfl⟩
theorem Am (w:aY):bH aQ 78 #[aI ⟨#[120,111,114]⟩] w λe w' =>e=aM (bC #[aH aF 2,aH aF 0,aH aF 1,aH aF 0])/\w' =w:=by
 go_enter func78,ntmps78;go_wp2;exact bodyPost_ret (v:=bC #[aH aF 2,aH aF 0,aH aF 1,aH aF 0]) (by simp[results,results78,go_sem]) rfl ⟨rfl,rfl⟩
theorem vV (w:aY):bH aQ 78 #[aI ⟨#[110,111,116]⟩] w λe w' =>e=aM (bC #[aH aF 1,aH aF 0,aH aF 1,aH aF 0])/\w' =w:=by
 go_enter func78,ntmps78;go_wp2;exact bodyPost_ret (v:=bC #[aH aF 1,aH aF 0,aH aF 1,aH aF 0]) (by simp[results,results78,go_sem]) rfl ⟨rfl,rfl⟩
theorem wA (w:aY):bH aQ 78 #[aI ⟨#[64]⟩] w λe w' =>e=aM (bC #[aH aF 1,aH aF 0,aH aF 1,aH aF 0])/\w' =w:=by
 go_enter func78,ntmps78;go_wp2;exact bodyPost_ret (v:=bC #[aH aF 1,aH aF 0,aH aF 1,aH aF 0]) (by simp[results,results78,go_sem]) rfl ⟨rfl,rfl⟩
theorem vY (w:aY):bH aQ 78 #[aI ⟨#[100,117,112]⟩] w λe w' =>e=aM (bC #[aH aF 1,aH aF 0,aH aF 2,aH aF 0])/\w' =w:=by
 go_enter func78,ntmps78;go_wp2;exact bodyPost_ret (v:=bC #[aH aF 1,aH aF 0,aH aF 2,aH aF 0]) (by simp[results,results78,go_sem]) rfl ⟨rfl,rfl⟩
theorem wB (w:aY):bH aQ 78 #[aI ⟨#[100,114,111,112]⟩] w λe w' =>e=aM (bC #[aH aF 1,aH aF 0,aH aF 0,aH aF 0])/\w' =w:=by
 go_enter func78,ntmps78;go_wp2;exact bodyPost_ret (v:=bC #[aH aF 1,aH aF 0,aH aF 0,aH aF 0]) (by simp[results,results78,go_sem]) rfl ⟨rfl,rfl⟩
theorem vM (w:aY):bH aQ 78 #[aI ⟨#[46]⟩] w λe w' =>e=aM (bC #[aH aF 1,aH aF 0,aH aF 0,aH aF 0])/\w' =w:=by
 go_enter func78,ntmps78;go_wp2;exact bodyPost_ret (v:=bC #[aH aF 1,aH aF 0,aH aF 0,aH aF 0]) (by simp[results,results78,go_sem]) rfl ⟨rfl,rfl⟩
theorem sQ (w:aY):bH aQ 78 #[aI ⟨#[101,109,105,116]⟩] w λe w' =>e=aM (bC #[aH aF 1,aH aF 0,aH aF 0,aH aF 0])/\w' =w:=by
 go_enter func78,ntmps78;go_wp2;exact bodyPost_ret (v:=bC #[aH aF 1,aH aF 0,aH aF 0,aH aF 0]) (by simp[results,results78,go_sem]) rfl ⟨rfl,rfl⟩
theorem wE (w:aY):bH aQ 78 #[aI ⟨#[101,120,101,99,117,116,101]⟩] w λe w' =>e=aM (bC #[aH aF 1,aH aF 0,aH aF 0,aH aF 0])/\w' =w:=by
 go_enter func78,ntmps78;go_wp2;exact bodyPost_ret (v:=bC #[aH aF 1,aH aF 0,aH aF 0,aH aF 0]) (by simp[results,results78,go_sem]) rfl ⟨rfl,rfl⟩
theorem wK (w:aY):bH aQ 78 #[aI ⟨#[115,119,97,112]⟩] w λe w' =>e=aM (bC #[aH aF 2,aH aF 0,aH aF 2,aH aF 0])/\w' =w:=by
 go_enter func78,ntmps78;go_wp2;exact bodyPost_ret (v:=bC #[aH aF 2,aH aF 0,aH aF 2,aH aF 0]) (by simp[results,results78,go_sem]) rfl ⟨rfl,rfl⟩
theorem wF (w:aY):bH aQ 78 #[aI ⟨#[111,118,101,114]⟩] w λe w' =>e=aM (bC #[aH aF 2,aH aF 0,aH aF 3,aH aF 0])/\w' =w:=by
 go_enter func78,ntmps78;go_wp2;exact bodyPost_ret (v:=bC #[aH aF 2,aH aF 0,aH aF 3,aH aF 0]) (by simp[results,results78,go_sem]) rfl ⟨rfl,rfl⟩
theorem Aw (w:aY):bH aQ 78 #[aI ⟨#[114,111,116]⟩] w λe w' =>e=aM (bC #[aH aF 3,aH aF 0,aH aF 3,aH aF 0])/\w' =w:=by
 go_enter func78,ntmps78;go_wp2;exact bodyPost_ret (v:=bC #[aH aF 3,aH aF 0,aH aF 3,aH aF 0]) (by simp[results,results78,go_sem]) rfl ⟨rfl,rfl⟩
theorem vU (w:aY):bH aQ 78 #[aI ⟨#[62,114]⟩] w λe w' =>e=aM (bC #[aH aF 1,aH aF 0,aH aF 0,aH aF 1])/\w' =w:=by
 go_enter func78,ntmps78;go_wp2;exact bodyPost_ret (v:=bC #[aH aF 1,aH aF 0,aH aF 0,aH aF 1]) (by simp[results,results78,go_sem]) rfl ⟨rfl,rfl⟩
theorem sO (w:aY):bH aQ 78 #[aI ⟨#[114,62]⟩] w λe w' =>e=aM (bC #[aH aF 0,aH aF 1,aH aF 1,aH aF 0])/\w' =w:=by
 go_enter func78,ntmps78;go_wp2;exact bodyPost_ret (v:=bC #[aH aF 0,aH aF 1,aH aF 1,aH aF 0]) (by simp[results,results78,go_sem]) rfl ⟨rfl,rfl⟩
theorem sH (w:aY):bH aQ 78 #[aI ⟨#[114,64]⟩] w λe w' =>e=aM (bC #[aH aF 0,aH aF 1,aH aF 1,aH aF 1])/\w' =w:=by
 go_enter func78,ntmps78;go_wp2;exact bodyPost_ret (v:=bC #[aH aF 0,aH aF 1,aH aF 1,aH aF 1]) (by simp[results,results78,go_sem]) rfl ⟨rfl,rfl⟩
theorem sM (w:aY):bH aQ 78 #[aI ⟨#[100,101,112,116,104]⟩] w λe w' =>e=aM (bC #[aH aF 0,aH aF 0,aH aF 1,aH aF 0])/\w' =w:=by
 go_enter func78,ntmps78;go_wp2;exact bodyPost_ret (v:=bC #[aH aF 0,aH aF 0,aH aF 1,aH aF 0]) (by simp[results,results78,go_sem]) rfl ⟨rfl,rfl⟩
theorem wG (w:aY):bH aQ 78 #[aI ⟨#[33]⟩] w λe w' =>e=aM (bC #[aH aF 2,aH aF 0,aH aF 0,aH aF 0])/\w' =w:=by
 go_enter func78,ntmps78;go_wp2;exact bodyPost_ret (v:=bC #[aH aF 2,aH aF 0,aH aF 0,aH aF 0]) (by simp[results,results78,go_sem]) rfl ⟨rfl,rfl⟩
theorem oP (w:aY):bH aQ 78 #[aI ⟨#[99,114]⟩] w λe w' =>e=aM (bC #[aH aF 0,aH aF 0,aH aF 0,aH aF 0])/\w' =w:=by
 go_enter func78,ntmps78;go_wp2;exact bodyPost_ret (v:=bC #[aH aF 0,aH aF 0,aH aF 0,aH aF 0]) (by simp[results,results78,go_sem]) rfl ⟨rfl,rfl⟩
theorem gk (p:List UInt8×Int×Int×Int×Int)(hp:p∈H5)(w:aY):
 bH aQ 78 #[aI ⟨p.1.toArray⟩] w λe w' =>e=aM (bC #[aH aF p.2.1,aH aF p.2.2.1,aH aF p.2.2.2.1,aH aF p.2.2.2.2])/\w' =w:=by
 simp only[H5,List.mem_cons,dR,or_false] at hp;rcases hp with rfl|rfl|rfl|rfl|rfl|rfl|rfl|rfl|rfl|rfl|rfl|rfl|rfl|rfl|rfl|rfl|rfl|rfl|rfl|rfl|rfl|rfl|rfl|rfl|rfl|rfl|rfl
 ·exact Cx w
 ·exact Cv w
 ·exact Cu w
 ·exact yK w
 ·exact xW w
 ·exact Cn w
 ·exact Cy w
 ·exact Ct w
 ·exact Cq w
 ·exact Dd w
 ·exact Am w
 ·exact vV w
 ·exact wA w
 ·exact vY w
 ·exact wB w
 ·exact vM w
 ·exact sQ w
 ·exact wE w
 ·exact wK w
 ·exact wF w
 ·exact Aw w
 ·exact vU w
 ·exact sO w
 ·exact sH w
 ·exact sM w
 ·exact wG w
 ·exact oP w
theorem a7 (x y:Int)(w:aY):bH aQ 82 #[aI ⟨#[43]⟩,aH aF x,aH aF y] w λe w' =>e=aM (aH aF (wrap64 (x+y)))/\w' =w:=by
 go_enter func82,ntmps82;go_wp2;go_ret;exact⟨rfl,rfl⟩
theorem Zz (x y:Int)(w:aY):bH aQ 82 #[aI ⟨#[45]⟩,aH aF x,aH aF y] w λe w' =>e=aM (aH aF (wrap64 (x-y)))/\w' =w:=by
 go_enter func82,ntmps82;go_wp2;go_ret;exact⟨rfl,rfl⟩
theorem Yj (x y:Int)(w:aY):bH aQ 82 #[aI ⟨#[42]⟩,aH aF x,aH aF y] w λe w' =>e=aM (aH aF (wrap64 (x*y)))/\w' =w:=by
 go_enter func82,ntmps82;go_wp2;go_ret;exact⟨rfl,rfl⟩
theorem Xx (x y:Int)(w:aY):bH aQ 82 #[aI ⟨#[97,110,100]⟩,aH aF x,aH aF y] w λe w' =>e=aM (aH aF (bits .and aF x y))/\w' =w:=by
 go_enter func82,ntmps82;go_wp2;go_ret;exact⟨rfl,rfl⟩
theorem L6 (x y:Int)(w:aY):bH aQ 82 #[aI ⟨#[111,114]⟩,aH aF x,aH aF y] w λe w' =>e=aM (aH aF (bits .or aF x y))/\w' =w:=by
 go_enter func82,ntmps82;go_wp2;go_ret;exact⟨rfl,rfl⟩
theorem f6 (x y:Int)(w:aY):bH aQ 82 #[aI ⟨#[120,111,114]⟩,aH aF x,aH aF y] w λe w' =>e=aM (aH aF (bits .xor aF x y))/\w' =w:=by
 go_enter func82,ntmps82;go_wp2;go_ret;exact⟨rfl,rfl⟩
theorem Yv (x y:Int)(w:aY)(hy:¬y=0):bH aQ 82 #[aI ⟨#[47]⟩,aH aF x,aH aF y] w λe w' =>e=aM (aH aF (wrap64 (x.tdiv y)))/\w' =w:=by
 go_enter func82,ntmps82;go_wp2;go_ret;exact⟨rfl,rfl⟩
theorem Zj (x y:Int)(w:aY)(hy:¬y=0):bH aQ 82 #[aI ⟨#[109,111,100]⟩,aH aF x,aH aF y] w λe w' =>e=aM (aH aF (x.tmod y))/\w' =w:=by
 go_enter func82,ntmps82;go_wp2;go_ret;exact⟨rfl,rfl⟩
theorem x9 (x y:Int)(w:aY):bH aQ 82 #[aI ⟨#[61]⟩,aH aF x,aH aF y] w λe w' =>e=aM (aH aF (L.lH (x==y)))/\w' =w:=by
 go_enter func82,ntmps82;go_wp2_with fail
 refine(Ef _ _).mono ?_;rintro e w' ⟨rfl,rfl⟩;go_wp2;go_ret;exact⟨rfl,rfl⟩
theorem D5 (x y:Int)(w:aY):bH aQ 82 #[aI ⟨#[60]⟩,aH aF x,aH aF y] w λe w' =>e=aM (aH aF (L.lH (decide (x<y))))/\w' =w:=by
 go_enter func82,ntmps82;go_wp2_with fail
 refine(Ef _ _).mono ?_;rintro e w' ⟨rfl,rfl⟩;go_wp2;go_ret;exact⟨rfl,rfl⟩
theorem H6 (x y:Int)(w:aY):bH aQ 82 #[aI ⟨#[62]⟩,aH aF x,aH aF y] w λe w' =>e=aM (aH aF (L.lH (decide (y<x))))/\w' =w:=by
 go_enter func82,ntmps82;go_wp2_with fail
 refine(Ef _ _).mono ?_;rintro e w' ⟨rfl,rfl⟩;go_wp2;go_ret;exact⟨rfl,rfl⟩
theorem RH (l:List UInt8)(c:UInt8):((⟨l.toArray⟩:ByteArray)++(⟨#[c]⟩:ByteArray))=⟨(l++[c]).toArray⟩:=by
 apply ByteArray.ext;simp
theorem Zn (x:Int)(w:aY)(h0:-9223372036854775808<=x)(h1:x<=9223372036854775807):bH aQ 80 #[aI ⟨#[46]⟩,aH aF x] w λe w' =>e=aM (aI ⟨(Lib.itoa x++[32]).toArray⟩)/\w' =w:=by
 have hlen:(kM x).size<=20:=by
  have h2:(Lib.itoa x).length<=20:=by
   unfold Lib.itoa
   split
   ·have:=qN x.natAbs (by omega);simp;omega
   ·have:=qN x.toNat (by omega);omega
  simpa[kM,ByteArray.size] using h2
 have H:=bE (bK h0 h1);clear h0 h1;go_enter func80,ntmps80;go_wp2_with fail
 refine(An x _ (aN H).1 (aN H).2).mono ?_;rintro e w' ⟨rfl,rfl⟩;generalize hs:kM x=s at*;have Hs:=bE hs;clear hs;go_wp2;go_ret;exact⟨XH (by rw[<-aN Hs];exact RH _ _),rfl⟩
theorem x7 (x:Int)(w:aY):bH aQ 80 #[aI ⟨#[99,114]⟩,aH aF x] w λe w' =>e=aM (aI ⟨#[10]⟩)/\w' =w:=by
 go_enter func80,ntmps80;go_wp2;go_ret;exact⟨rfl,rfl⟩
theorem eX (s:ByteArray)(x:Int)(w:aY)(h1:(s.toList==[46])=aV)(h2:(s.toList==[101,109,105,116])=aV)(h3:(s.toList==[99,114])=aV):bH aQ 80 #[aI s,aH aF x] w λe w' =>e=aM (aI ⟨#[]⟩)/\w' =w:=by
 go_enter func80,ntmps80;go_wp2;go_ret;exact⟨rfl,rfl⟩
theorem Ux (x:Int)(w:aY)(h0:32<=x)(h1:x<=126):bH aQ 80 #[aI ⟨#[101,109,105,116]⟩,aH aF x] w λe w' =>e=aM (aI ⟨#[UInt8.ofNat x.toNat]⟩)/\bA w.heap.size w w' :=by
 have hconv:(convert 65 9 (aJ (aE ⟨w.heap.size,0,aC⟩) 1 1)).run aQ (w.alloc (aU #[aH .u8 x] 5))=.ok (aI ⟨#[UInt8.ofNat x.toNat]⟩) (w.alloc (aU #[aH .u8 x] 5)):=by
  refine run_convert_bytes_back _ 65 9 5 ⟨w.heap.size,0,aC⟩ 1 [UInt8.ofNat x.toNat] underlying65 underlying5 underlying9 λj hj=>?_
  obtain rfl:j=0:=by simpa using hj
  rw[fE,cell_of_row _ w.heap.size 0 _ 5 (0,0) (heap_alloc_new w _)];simp;omega
 go_enter func80,ntmps80;go_wp2;go_ret;exact⟨rfl,(bF _ _).alloc (bD _) _⟩
section
attribute [local go_sem ↓] Go.wp_at_zero Go.wp_at_succ
theorem gY (w:aY)(p vl:aG)(s:ByteArray)(h1:(s.toList==[47])=aV)(h2:(s.toList==[109,111,100])=aV)(h3:(s.toList==[101,109,105,116])=aV)(h4:(s.toList==[64])=aV)(h5:(s.toList==[33])=aV)(h6:(s.toList==[101,120,101,99,117,116,101])=aV):
 bH aQ 79 #[p,aI s,vl] w λe w' =>e=aM (aH aF 0)/\w' =w:=by
 go_enter func79,ntmps79;go_wp2;go_ret;exact⟨rfl,rfl⟩
theorem Lt (w:aY)(p:aG)(g c:Nat)(y:Int)(s:ByteArray)(hs:s=⟨#[47]⟩\/s=⟨#[109,111,100]⟩)(hy:w.cell? ⟨g,1,aC⟩=aE (aH aF y)):
 bH aQ 79 #[p,aI s,aJ (aE ⟨g,0,aC⟩) 2 c] w λe w' =>e=aM (aH aF (if y=0 then 8 else 0))/\w' =w:=by
 by_cases h0:y=0
 ·rw[eJ h0];subst h0;rcases hs with rfl|rfl
  ·go_enter func79,ntmps79;go_wp2;go_ret;exact⟨rfl,rfl⟩
  ·go_enter func79,ntmps79;go_wp2;go_ret;exact⟨rfl,rfl⟩
 ·rw[dL h0];have h1:(y==0)=aV:=by simp[h0]
  rcases hs with rfl|rfl
  ·go_enter func79,ntmps79;go_wp2;go_ret;exact⟨rfl,rfl⟩
  ·go_enter func79,ntmps79;go_wp2;go_ret;exact⟨rfl,rfl⟩
theorem J4 (w:aY)(p:aG)(g c:Nat)(x:Int)(hx:w.cell? ⟨g,0,aC⟩=aE (aH aF x)):
 bH aQ 79 #[p,aI ⟨#[101,109,105,116]⟩,aJ (aE ⟨g,0,aC⟩) 1 c] w λe w' =>e=aM (aH aF (if x<32\/126<x then 11 else 0))/\w' =w:=by
 by_cases h0:x<32
 ·rw[eJ (.inl h0)];go_enter func79,ntmps79;go_wp2;go_ret;exact⟨rfl,rfl⟩
 ·by_cases h1:126<x
  ·rw[eJ (.inr h1)];go_enter func79,ntmps79;go_wp2;go_ret;exact⟨rfl,rfl⟩
  ·rw[dL (by omega)];go_enter func79,ntmps79;go_wp2;go_ret;exact⟨rfl,rfl⟩
def rH (m:N.cE) (t:Int):Int:=
 match N.place m t with
 |some k=>(match m.all[k]? with|some e=>if e.kind=2 then 0 else 9|none=>9)
 |none=>9
theorem Rh {t:Int}(h:N.place m t=aE k):k<m.all.length/\t=1000+(k:Int):=by
 unfold N.place at h;by_cases h0:t<1000
 ·rw[eJ h0] at h;cases h
 ·rw[dL h0] at h;cases he:m.all[(t-1000).toNat]? with
  |none=>rw[he] at h;cases h
  |some e=>
   rw[he] at h;have eQ:=(bI.1 he).1;simp only at h;by_cases ht:N.there e=aX
   ·rw[eJ ht] at h;injection h with h;subst h;exact⟨eQ,by omega⟩
   ·rw[dL ht] at h;cases h
theorem Iv (w:aY)(rb g c T:Nat)(vA vS vR:aG)(bs:List aG)(m:N.cE)(x:Int)(s:ByteArray)(hs:(s=⟨#[64]⟩/\T=0)\/(s=⟨#[33]⟩/\T=1))(hx:w.cell? ⟨g,T,aC⟩=aE (aH aF x))(hi:dQ x)(h:cH w rb vA vS vR bs m):
 bH aQ 79 #[aK (aE ⟨rb,0,aC⟩),aI s,aJ (aE ⟨g,0,aC⟩) (T+1) c] w λe w' =>e=aM (aH aF (rH m x))/\w' =w:=by
 have HP:=bE (Rj w rb vA vS vR bs m x hi h);have HR:=bE h;unfold rH;obtain⟨aA,cA,rE⟩:=h.slice;have c0:w.cell? ⟨rb,0,aC⟩=aE (aJ aA m.all.length cA):=by rw[<-rE];exact aZ h.mc rfl
 have hold:=h.qU;cases hp:N.place m x with
 |none=>
  rw[hp] at HP;have HP:=bE (show bH aQ 100 #[aK (aE ⟨rb,0,aC⟩),aH aF x] w λe w' =>e=aM (aH aF (-1))/\w' =w from aN HP);clear h hp rE;show bH _ _ _ _ λe w' =>e=aM (aH aF 9)/\w' =w
  rcases hs with ⟨rfl,rfl⟩|⟨rfl,rfl⟩
  ·go_enter func79,ntmps79;go_wp2_with (
    go_at_call 100
    refine(aN HP).mono ?_;rintro e iF ⟨rfl,mG⟩;subst iF)
   go_ret;exact⟨rfl,rfl⟩
  ·go_enter func79,ntmps79;go_wp2_with (
    go_at_call 100
    refine(aN HP).mono ?_;rintro e iF ⟨rfl,mG⟩;subst iF)
   go_ret;exact⟨rfl,rfl⟩
 |some k=>
  rw[hp] at HP;have HP:=bE (show bH aQ 100 #[aK (aE ⟨rb,0,aC⟩),aH aF x] w λe w' =>e=aM (aH aF k)/\w' =w from aN HP);have eQ:=(Rh hp).1;obtain⟨e,he⟩:∃e,m.all[k]?=aE e:=⟨_,bL eQ⟩
  show bH _ _ _ _ λe' w' =>e' =aM (aH aF (match m.all[k]? with|some e=>if e.kind=2 then 0 else 9|none=>9))/\w' =w
  rw[he];show bH _ _ _ _ λe' w' =>e' =aM (aH aF (if e.kind=2 then 0 else 9))/\w' =w
  obtain⟨ga,cap,v,hv,_,_,_,q1,_⟩:=h.tA he;rw[rE] at hv
  replace hv:=eM hv
  subst hv;clear h hp he rE;generalize m.all.length=n at*;have k1:(k:Int)<(n:Int):=by omega
  have k0:(0:Int)<=(k:Int):=by omega
  have k9:¬(k:Int)<0:=by omega
  generalize e.kind=kd at*;have O0:((kd:Int) != 2)=!decide (kd=2):=by
   by_cases h2:kd=2
   ·subst h2;rfl
   ·simp[h2];omega
  by_cases h2:kd=2
  ·rw[eJ h2];subst h2;clear O0;rcases hs with ⟨rfl,rfl⟩|⟨rfl,rfl⟩
   ·go_enter func79,ntmps79;go_wp2_with (
     go_at_call 100
     refine(aN HP).mono ?_;rintro e iF ⟨rfl,mG⟩;subst iF)
    go_ret;exact⟨rfl,rfl⟩
   ·go_enter func79,ntmps79;go_wp2_with (
     go_at_call 100
     refine(aN HP).mono ?_;rintro e iF ⟨rfl,mG⟩;subst iF)
    go_ret;exact⟨rfl,rfl⟩
  ·rw[dL h2];have h2' :((kd:Int) != 2)=aX:=by rw[O0];simp[h2]
   have h2'' :((kd:Int)==2)=aV:=by simp;omega
   clear O0;rcases hs with ⟨rfl,rfl⟩|⟨rfl,rfl⟩
   ·go_enter func79,ntmps79;go_wp2_with (
     go_at_call 100
     refine(aN HP).mono ?_;rintro e iF ⟨rfl,mG⟩;subst iF)
    go_ret;exact⟨rfl,rfl⟩
   ·go_enter func79,ntmps79;go_wp2_with (
     go_at_call 100
     refine(aN HP).mono ?_;rintro e iF ⟨rfl,mG⟩;subst iF)
    go_ret;exact⟨rfl,rfl⟩
theorem u9 (w:aY)(rb g c:Nat)(vA vS vR:aG)(bs:List aG)(m:N.cE)(x:Int)(hx:w.cell? ⟨g,0,aC⟩=aE (aH aF x))(hi:dQ x)(h:cH w rb vA vS vR bs m):
 bH aQ 79 #[aK (aE ⟨rb,0,aC⟩),aI ⟨#[101,120,101,99,117,116,101]⟩,aJ (aE ⟨g,0,aC⟩) 1 c] w λe w' =>e=aM (aH aF (match N.place m x with|some _=>0|none=>10))/\w' =w:=by
 have HP:=bE (Rj w rb vA vS vR bs m x hi h);cases hp:N.place m x with
 |none=>
  rw[hp] at HP;have HP:=bE (show bH aQ 100 #[aK (aE ⟨rb,0,aC⟩),aH aF x] w λe w' =>e=aM (aH aF (-1))/\w' =w from aN HP);clear h hp;go_enter func79,ntmps79;go_wp2_with (
   go_at_call 100
   refine(aN HP).mono ?_;rintro e iF ⟨rfl,mG⟩;subst iF)
  go_ret;exact⟨rfl,rfl⟩
 |some k=>
  rw[hp] at HP;have HP:=bE (show bH aQ 100 #[aK (aE ⟨rb,0,aC⟩),aH aF x] w λe w' =>e=aM (aH aF k)/\w' =w from aN HP);have k9:¬(k:Int)<0:=by omega
  clear h hp;go_enter func79,ntmps79;go_wp2_with (
   go_at_call 100
   refine(aN HP).mono ?_;rintro e iF ⟨rfl,mG⟩;subst iF)
  go_ret;exact⟨rfl,rfl⟩
variable {g cap:Nat}
theorem kL (h:w.ownsRow 0 e 1 (aJ (aE ⟨g,0,aC⟩) n cap) n xs)(hn:n<=cap)(hk:k<=n):
 lN w (aJ (if cap=k then(aE ⟨g,0,aC⟩:Option Addr) else aE ⟨g,k,aC⟩) (n-k) (cap-k)) (xs.drop k):=by
 have:=wY (t:=n-k) h hn;rwa[show n-(n-k)=k by omega] at this
theorem kP (a b:List UInt8):((⟨a.toArray⟩:ByteArray)++(⟨b.toArray⟩:ByteArray))=⟨(a++b).toArray⟩:=by
 apply ByteArray.ext;rw[ByteArray.data_append];simp
theorem bQ {s:ByteArray}{l:List UInt8}(h:(s.data.toList==l)=aV):(s.toList==l)=aV:=by rw[Go.ByteArray.toList_eq];exact h
theorem cH.TU (h:cH w rb vA vS vR bs m)(T:List UInt8)(hl:T.length<=300):cH (w.setCell ⟨rb,3,aC⟩ (aI ⟨T.toArray⟩)) rb vA vS vR bs {m with out:=T}:=by
 obtain⟨n1,n2,n3⟩:=h.pR;exact⟨bV h.mc 3 _,cV h.row λk e=>dA λx=>n1 (x▸e),h.len,λj e v h1 h2 h3=>by
  obtain⟨h4,h5⟩:=h.Xa j e v h1 h2 h3;refine⟨cV h4 λk e=>dA (h.Ku ?_),h5⟩;obtain⟨cur,hc⟩:=cJ h4 e;exact⟨cur,_,hc⟩,cK h.st λk e=>dA λx=>n2 (x▸e),cK h.rt λk e=>dA λx=>n3 (x▸e),h.ap,h.sl,h.rl,hl,h.sp,h.qU,h.si,h.ri,h.ni⟩
structure mB (w:aY) (rb:Nat) (vA vS vR pU :aG) (bs:List aG) (m:N.cE) (gl:Nat) (l:List Int) (wx:aY):Prop where
 ref:cH wx rb vA pU vR bs m
 mv:Mv (dV rb vA vS vR) w wx
 fr:dG w (dV rb vA vS vR) (dV rb vA pU vR)
 ls:∀j x,l[j]?=aE x->wx.cell? ⟨gl,j,aC⟩=aE (aH aF x)
variable {w3:aY}{gl:Nat}
theorem mB.of {cS:Nat}{rest l:List Int}{T:List UInt8}(hb:bA w.heap.size w w3)(h:cH w rb vA (aJ (aE ⟨g,0,aC⟩) n cS) vR bs m)(hn:m.S.length=n)(hk:k<=n)(hr:m.S.take k=rest)(hT:m.out.length+T.length<=300)(zW:w.heap.size<=gl)(hl:∀j x,l[j]?=aE x->w3.cell? ⟨gl,j,aC⟩=aE (aH aF x)){O' :ByteArray}(hO:O' =⟨(m.out++T).toArray⟩):
 mB w rb vA (aJ (aE ⟨g,0,aC⟩) n cS) vR (aJ (aE ⟨g,0,aC⟩) k cS) bs {m with out:=m.out++T,S:=rest} gl l ((w3.setCell ⟨rb,3,aC⟩ (aI O')).setCell ⟨rb,1,aC⟩ (aJ (aE ⟨g,0,aC⟩) k cS)).drew:=by
 subst hn hr hO;have h3:=h.below hb;have h4:=h3.TU (m.out++T) (by rw[bN];exact hT);have h5:=cH.EJ (m:={m with out:=m.out++T}) h4 (bF _ _) k hk;have Mc:=h.lt rb (.inl rfl);have Nr:gl≠rb:=by omega
 refine⟨h5.1.below (bF _ _).drew,?_,?_,λj x hx=>?_⟩
 ·have m1:=Mv.setCell (p:=⟨rb,3,aC⟩) (Mv.dS hb (dV rb vA (aJ (aE ⟨g,0,aC⟩) m.S.length cS) vR)) (.inl (.inl rfl)) (aI ⟨(m.out++T).toArray⟩);have m2:=Mv.setCell (p:=⟨rb,1,aC⟩) m1 (.inl (.inl rfl)) (aJ (aE ⟨g,0,aC⟩) k cS);exact⟨m2.os,m2.tape,m2.output,m2.size,m2.block⟩
 ·rintro i (e|e|e|e)
  ·exact .inl (.inl e)
  ·exact .inl (.inr (.inl e))
  ·exact .inl (.inr (.inr (.inl e)))
  ·exact .inl (.inr (.inr (.inr e)))
 ·exact cQ (cQ (hl j x hx) Nr) Nr
variable {w1 w2:aY}{v' :aG}
theorem cH.bu {R' :List Int}(h:cH w rb vA vS vR bs m)(hb:bA w.heap.size w w1)(hg:w1.grownBy w2 vR.ownBlock)(ho:w2.ownsRow 0 3 1 v' R'.length (R'.map (aH aF)))(kD:v'.ownBlock=vR.ownBlock\/v'.ownBlock=aE w1.heap.size)(hl:R'.length<=16)(hi:∀x∈R',dQ x):
 cH (w2.setCell ⟨rb,2,aC⟩ v') rb vA vS v' bs {m with R:=R'}/\Mv (dV rb vA vS vR) w (w2.setCell ⟨rb,2,aC⟩ v')/\dG w (dV rb vA vS vR) (dV rb vA vS v'):=by
 obtain⟨n1,n2,n3⟩:=h.pR;have NP:=hb.size;have xN:∀k,k<w.heap.size->vR.ownBlock≠aE k->w2.heap[k]?=w.heap[k]?:=λk hk hn=>(hg.block k (by omega) (λe=>hn e.symm)).trans (hb.block k hk)
 have pQ:∀k,k<w.heap.size->vR.ownBlock≠aE k->k≠rb->(w2.setCell ⟨rb,2,aC⟩ v').heap[k]?=w.heap[k]?:=λk hk hn hr=>(dA hr).trans (xN k hk hn)
 have N7:=(xN rb (cC h.mc) n3).trans h.mc;have O8:v'.ownBlock≠aE rb:=λe=>bW ho N7 (by decide) e
 refine⟨⟨bV N7 2 v',cV h.row λk e=>pQ k (mC h.row e) (λx=>?_) (λx=>n1 (x▸e)),h.len,λj e v h1 h2 h3=>?_,cK h.st λk e=>pQ k (h.st.lt k e).2 (λx=>h.ap k e x) (λx=>n2 (x▸e)),cK ho λk e=>dA λx=>O8 (x▸e),?_,h.sl,hl,h.ol,h.sp,h.qU,h.si,hi,h.ni⟩,?_,?_⟩
 ·obtain⟨_,h'⟩:=cJ h.row e;obtain⟨_,TF⟩:=cZ h.rt x;exact absurd (cM h' TF) (by decide)
 ·obtain⟨h4,h5⟩:=h.Xa j e v h1 h2 h3;refine⟨cV h4 λk e=>?_,h5⟩;obtain⟨cur,hc⟩:=cJ h4 e;have ED:tN w k:=⟨cur,_,hc⟩
  exact pQ k (cC hc) (λx=>h.sT ED (.inr (.inr (.inr x)))) (h.Ku ED)
 ·intro k e1 e2;rcases kD with e|e
  ·exact h.ap k e1 (e▸e2)
  ·rw[e] at e2;have:=(h.st.lt k e1).2;injection e2 with e2;omega
 ·refine⟨?_,?_,?_,?_,λk hk hn=>pQ k hk (λx=>hn (.inr (.inr (.inr x)))) (λx=>hn (.inl x))⟩
  ·exact hg.os.trans hb.os
  ·exact hg.tape.trans hb.tape
  ·exact hg.output.trans hb.output
  ·show w.heap.size<=(w2.setCell _ _).heap.size;have:=hg.size;simp[aY.setCell];omega
 ·rintro k (e|e|e|e)
  ·exact .inl (.inl e)
  ·exact .inl (.inr (.inl e))
  ·exact .inl (.inr (.inr (.inl e)))
  ·rcases kD with x|x
   ·exact .inl (.inr (.inr (.inr (x▸e))))
   ·rw[x] at e;injection e with e;exact .inr (by omega)
theorem mB.done {pU :aG}{l:List Int}{wx:aY}(h:mB w rb vA vS vR pU bs m gl l wx):dP rb vA vS vR bs m w wx:=⟨vA,pU,vR,h.ref,h.mv,h.fr⟩
theorem mB.Gq {pU :aG}{l xs:List Int}{wx:aY}(h:mB w rb vA vS vR pU bs m gl l wx)(hb:bA wx.heap.size wx w1)(hg:w1.grownBy w2 pU.ownBlock)(hk:m.S.length=k)(ho:w2.ownsRow 0 3 1 v' (k+(xs.map (aH aF)).length) (m.S.map (aH aF)++xs.map (aH aF)))(kD:v'.ownBlock=pU.ownBlock\/v'.ownBlock=aE w1.heap.size)(hl:k+xs.length<=16)(hi:∀x∈xs,dQ x):
 dP rb vA vS vR bs {m with S:=m.S++xs} w (w2.setCell ⟨rb,1,aC⟩ v'):=by
 subst hk;have:=h.ref.GP (S' :=m.S++xs) hb hg (by rw[bN,List.map_append];rw[dO] at ho;exact ho) kD (by rw[bN];exact hl) (λy hy=>by
  rcases List.mem_append.1 hy with hy|hy
  ·exact h.ref.si y hy
  ·exact hi y hy)
 exact dP.trans h.mv h.fr ⟨_,_,_,this⟩
theorem mB.ZP {pU :aG}{l xs:List Int}{wx:aY}(h:mB w rb vA vS vR pU bs m gl l wx)(hb:bA wx.heap.size wx w1)(hg:w1.grownBy w2 vR.ownBlock)(hk:m.R.length=k)(ho:w2.ownsRow 0 3 1 v' (k+(xs.map (aH aF)).length) (m.R.map (aH aF)++xs.map (aH aF)))(kD:v'.ownBlock=vR.ownBlock\/v'.ownBlock=aE w1.heap.size)(hl:k+xs.length<=16)(hi:∀x∈xs,dQ x):
 dP rb vA vS vR bs {m with R:=m.R++xs} w (w2.setCell ⟨rb,2,aC⟩ v'):=by
 subst hk;have:=h.ref.bu (R' :=m.R++xs) hb hg (by rw[bN,List.map_append];rw[dO] at ho;exact ho) kD (by rw[bN];exact hl) (λy hy=>by
  rcases List.mem_append.1 hy with hy|hy
  ·exact h.ref.ri y hy
  ·exact hi y hy)
 exact dP.trans h.mv h.fr ⟨_,_,_,this⟩
theorem dP.drew (h:dP rb vA vS vR bs m w w'):dP rb vA vS vR bs m w w'.drew:=by
 obtain⟨a,b,c,h1,h2,h3⟩:=h;exact⟨a,b,c,h1.below (bF _ _).drew,⟨h2.os,h2.tape,h2.output,h2.size,h2.block⟩,h3⟩
theorem RQ (b:Bool):dQ (L.lH b):=by cases b <;> exact⟨by decide,by decide⟩
theorem Qt:∀{all:List N.iM} {j:Nat} {e:N.iM} (_:all[j]?=aE e) (f:N.iM->N.iM),all.modify j f=all.set j (f e)
 |[],_,_,h,_=>by simp at h
 |x::t,0,e,h,f=>by
  have:x=e:=by simpa using h
  subst this;rfl
 |x::t,j+1,e,h,f=>by
  have ih:=Qt (all:=t) (j:=j) (e:=e) (by simpa using h) f;simp[ih]
end
theorem fO (m:N.cE)(s:N.eE){r u a:Nat}(ht:N.takes s=(n,r,u,a))(h:m.S.length<n\/m.R.length<r):N.kC m s=(m,6,aC):=by
 unfold N.kC;simp only[ht];rw[eJ h]
theorem jO (m:N.cE)(s:N.eE){r u a:Nat}(ht:N.takes s=(n,r,u,a)){rest l:List Int}(hS:m.S=rest++l)(hl:l.length=n)(hR:r<=m.R.length):
 N.kC m s=if N.lG m s l≠0 then(m,N.lG m s l,aC) else if 16<rest.length+u\/16<m.R.length-r+a then(m,7,aC) else if 300<m.out.length+(N.told s (l.getD 0 0)).length then(m,12,aC)
  else(N.kR {m with out:=m.out++N.told s (l.getD 0 0)} s l rest,0,if s==[101,120,101,99,117,116,101] then aE (l.getD 0 0-1000).toNat else aC):=by
 have h1:m.S.length=rest.length+n:=by rw[hS,bN,hl]
 have h2:¬(m.S.length<n\/m.R.length<r):=by omega
 have h3:m.S.length-n=rest.length:=by omega
 have h4:m.S.drop rest.length=l:=by rw[hS,List.drop_left]
 have h5:m.S.take rest.length=rest:=by rw[hS,List.take_left]
 unfold N.kC;simp only[ht];rw[dL h2,h3,h4,h5]
theorem iT (l:List Int)(n:Nat)(h:¬l.length<n):∃rest top:List Int,l=rest++top/\top.length=n:=⟨l.take (l.length-n),l.drop (l.length-n),(List.take_append_drop _ _).symm,by rw[List.length_drop];omega⟩
section
open Go
section
variable {P:Program}{ops:Array Oper}{Q:Exit->Act->aY->Prop}{md:Region.Mode}{S:aY->Prop}{m:Nat}
def Ym (md:Region.Mode) (ops:Array Oper) (dN:Array Bool):Prop:=∀k ok,ops[k]?=aE ok->dN.getD k aV=aX->∀e∈ok.after,Region.binds md e=aX->dN.getD e.on aV=aX
variable {dN:Array Bool}
theorem Nk (h:dN.getD k aX=aV):dN.getD k aV=aV:=by
 rcases Nat.lt_or_ge k dN.size with h' |h'
 ·simp[h'] at h ⊢;exact h
 ·simp[Array.getElem?_eq_none h'] at h
theorem Ym.step (h:Ym md ops dN)(hj:j∈Region.ready md ops dN):Ym md ops (dN.setIfInBounds j aX):=by
 intro k ok hk hl e he hb;obtain⟨_,o,ho,kA⟩:=mem_ready.1 hj;by_cases hjk:j=k
 ·subst hjk;rw[ho] at hk;injection hk with hk;subst hk;exact getD_set_true (kA e he hb)
 ·rw[getD_set_ne aV hjk] at hl;exact getD_set_true (h k ok hk hl e he hb)
theorem Ym.none (n:Nat):Ym md ops (Array.replicate n aV):=by
 intro k ok _ hl;exfalso;rcases Nat.lt_or_ge k n with h' |h'
 ·simp[h'] at hl
 ·simp[h'] at hl
def Fh (md:Region.Mode) (ops:Array Oper):Nat->Nat->Nat->Bool
 |0,_,_=>aV
 |f+1,m,i=>match ops[m]? with
  |none=>aV
  |some o=>o.after.any λe=>Region.binds md e&&(e.on==i||Fh md ops f e.on i)
theorem Rn (hc:Ym md ops dN):∀(f m i:Nat),Fh md ops f m i=aX->(∀o,ops[m]?=aE o->∀e∈o.after,Region.binds md e=aX->dN.getD e.on aV=aX)->dN.getD i aV=aX
 |0,_,_,h,_=>by simp[Fh] at h
 |f+1,m,i,h,ha=>by
  unfold Fh at h;cases ho:ops[m]? with
  |none=>rw[ho] at h;cases h
  |some o=>
   rw[ho] at h;obtain⟨e,he,hb⟩:=Array.any_eq_true'.1 h;simp only[Bool.and_eq_true,dY,beq_iff_eq] at hb;have h1:=ha o ho e he hb.1;rcases hb.2 with h2|h2
   ·rw[<-h2];exact h1
   ·exact Rn hc f e.on i h2 λo' kT =>hc e.on o' kT h1
def pZ (P:Program) (md:Region.Mode) (ops:Array Oper) (Q:Exit->Act->aY->Prop) (S:aY->Prop) (m:Nat):Nat->Array Bool->Act->aY->Prop
 |0,_,_,_=>False
 |fuel+1,dN,a,w=>Region.ready md ops dN≠[]/\
  ∀i∈Region.ready md ops dN,(i=m->wpOp P ops Q i (wpAny P md ops Q fuel (dN.setIfInBounds i aX)) a w)/\
   (i≠m->wpOp P ops Q i (λa' w' =>S w' /\pZ P md ops Q S m fuel (dN.setIfInBounds i aX) a' w') a w)
theorem Cl:∀(fuel:Nat) (dN:Array Bool) (a:Act) (w:aY),pZ P md ops Q S m fuel dN a w->wpAny P md ops Q fuel dN a w
 |0,_,_,_,h=>h.elim
 |fuel+1,_,_,_,h=>⟨λh0=>(h.1 h0).elim,λi hi=>by
  by_cases him:i=m
  ·exact(h.2 i hi).1 him
  ·exact wpOp_mono (λa' w' h' =>Cl fuel _ a' w' h'.2) ((h.2 i hi).2 him)⟩
variable {i f:Nat}
theorem j5 {oi:Oper}(hi:ops[i]?=aE oi)(hsel:∀(j:Nat) (o:Oper) cs b,ops[j]?=aE o->o.op≠.select cs b)(hm:i≠m)(TD:Fh md ops f m i=aX)(hQ:∀c a w,Q (.panic c) (a.put oi.dst v) w->Q (.panic c) a w):
 ∀(fuel:Nat) (dN:Array Bool) (a:Act) (w:aY),Ym md ops dN->
  (∀j oj,ops[j]?=aE oj->j≠i->dN.getD j aX=aV->(∀e∈oj.after,Region.binds md e=aX->e.on≠i)->oi.apart ops oj=aX)->
  i∈Region.ready md ops dN->YieldsIf P ops S oi v a->S w->
  pZ P md ops Q S m fuel (dN.setIfInBounds i aX) (a.put oi.dst v) w->pZ P md ops Q S m (fuel+1) dN a w:=by
 intro fuel
 induction fuel with
 |zero=>intro dN a w _ _ _ _ _ H;exact H.elim
 |succ fuel ih=>
  intro dN a w hclo dy hr hy hS H;have hun:=Nk (mem_ready.1 hr).1;refine⟨λh=>(by rw[h] at hr;cases hr),λj hj=>⟨λhjm=>?_,λhjm=>?_⟩⟩
  ·exfalso;subst hjm;obtain⟨_,o,ho,kA⟩:=mem_ready.1 hj;have:=Rn hclo f j i TD λo' kT =>by
    rw[ho] at kT;injection kT with kT;subst kT;exact kA
   rw[hun] at this;cases this
  ·by_cases VQ:j=i
   ·subst VQ;exact hy.wpOp hi hS ⟨hS,H⟩
   ·have h1:=(H.2 j (ready_mono hj VQ)).2 hjm;obtain⟨hjun,oj,VO,kA⟩:=mem_ready.1 hj;have hnot:∀e∈oj.after,Region.binds md e=aX->e.on≠i:=λe he hb heq=>by
     have h1:=kA e he hb;rw[heq,hun] at h1;cases h1
    have h2:=wpOp_putIf VO (dy j oj VO VQ hjun hnot) (λcs b=>hsel i oi cs b hi) (λcs b=>hsel j oj cs b VO) hQ hy h1;refine wpOp_mono (λa' w' h3=>⟨h3.2.1,ih (dN.setIfInBounds j aX) a' w' (hclo.step hj) ?_ (ready_mono hr (Ne.symm VQ)) h3.1 h3.2.1 ?_⟩) h2
    ·intro k ok hk hki hun2 hno;refine dy k ok hk hki ?_ hno;by_cases hjk:j=k
     ·subst hjk;exact hjun
     ·rw[getD_set_ne aX hjk] at hun2;exact hun2
    ·rw[Array.setIfInBounds_comm _ _ VQ];exact h3.2.2
variable {fuel:Nat}{a:Act}
theorem L0 (f:Nat){oi:Oper}(hi:ops[i]?=aE oi)(hs:Region.noSelect ops=aX)(hm:(i != m)=aX)(TD:Fh md ops f m i=aX)(hf:Region.free md ops dN i=aX)(hr:(Region.ready md ops dN).contains i=aX)(hQ:∀c a w,Q (.panic c) (a.put oi.dst v) w->Q (.panic c) a w)(hc:Ym md ops dN)(hy:YieldsIf P ops S oi v a)(hS:S w)(h:Ym md ops (dN.setIfInBounds i aX)->pZ P md ops Q S m fuel (dN.setIfInBounds i aX) (a.put oi.dst v) w):pZ P md ops Q S m (fuel+1) dN a w:=by
 have Sf :i∈Region.ready md ops dN:=by simpa using hr
 exact j5 hi (Region.noSelect_spec hs) (by simpa using hm) TD hQ fuel dN a w hc (Region.free_spec hi hf) Sf hy hS (h (hc.step Sf))
theorem lA {o:Oper}(hr:Region.ready md ops dN=[m])(ho:ops[m]?=aE o)(h:∀K' :Act->aY->Prop,Shut (∀a w,wpAny P md ops Q fuel (dN.setIfInBounds m aX) a w->K' a w)->if Region.wanted o (yielded ops a.tmps)=aX then Oper.wp P o a w K' Q else K' (a.put o.dst undef) w):pZ P md ops Q S m (fuel+1) dN a w:=by
 refine⟨by rw[hr];simp,λi hi=>?_⟩;rw[hr] at hi;have hi:i=m:=by simpa using hi
 subst hi;exact⟨λ_=>wpOp_step ho (λK' hK=>h K' hK),λx=>(x rfl).elim⟩
theorem Pg {o:Oper}(hr:Region.ready md ops dN=[i])(hm:(i != m)=aX)(ho:ops[i]?=aE o)(h:∀K' :Act->aY->Prop,Shut (∀a w,S w->pZ P md ops Q S m fuel (dN.setIfInBounds i aX) a w->K' a w)->if Region.wanted o (yielded ops a.tmps)=aX then Oper.wp P o a w K' Q else K' (a.put o.dst undef) w):pZ P md ops Q S m (fuel+1) dN a w:=by
 refine⟨by rw[hr];simp,λj hj=>?_⟩;rw[hr] at hj;have hj:j=i:=by simpa using hj
 subst hj;exact⟨λx=>((by simpa using hm:¬j=m) x).elim,λ_=>wpOp_step ho (λK' hK=>h K' (λa w hS hW=>hK a w ⟨hS,hW⟩))⟩
theorem IX {o:Oper}(hr:Region.ready md ops dN=[i])(ho:ops[i]?=aE o)(h:∀K' :Act->aY->Prop,Shut (∀a w,wpAny P md ops Q fuel (dN.setIfInBounds i aX) a w->K' a w)->if Region.wanted o (yielded ops a.tmps)=aX then Oper.wp P o a w K' Q else K' (a.put o.dst undef) w):wpAny P md ops Q (fuel+1) dN a w:=
 wpAny_all hr (by simp) λj hj=>by
  have hj:j=i:=by simpa using hj
  subst hj;exact wpOp_step ho (λK' hK=>h K' hK)
theorem Bq {id:Nat}(hm:P.follows .mixedOrders=aX)(h:Ym .any ops (Array.replicate ops.size aV)->pZ P .any ops Q S m ops.size (Array.replicate ops.size aV) a w.drew):(Code.region id ops aX).wp P Q a w:=
 wp_region_any hm (Cl _ _ _ _ (h (Ym.none _)))
end
theorem jd:(∀(a:Act) (d:Nat) (v:aG),a.put (aE d) v={a with tmps:=a.tmps.setIfInBounds d v})/\(∀(a:Act) (v:aG),a.put aC v=a)/\(∀(l:List aG) (i:Nat) (x:aG),l.toArray.setIfInBounds i x=(l.set i x).toArray)/\(∀(x:aG) (l:List aG) (y:aG),(x::l).set 0 y=y::l)/\(∀(x:aG) (l:List aG) (i:Nat) (y:aG),(x::l).set (i+1) y=x::l.set i y):=⟨λ_ _ _=>rfl,λ_ _=>rfl,λ_ _ _=>by simp,λ_ _ _=>rfl,λ_ _ _ _=>rfl⟩
variable {b:Nat}{v1:aG}{t:TypeId}{fr:Nat×Nat}
theorem iy {v0:aG}(h:w.heap[b]?=aE (aU #[v0,v1] t fr)):w.cell? ⟨b,0,aC⟩=aE v0/\w.cell? ⟨b,1,aC⟩=aE v1:=by simp[aY.cell?,h]
variable {v2:aG}
theorem iq {v0:aG}(h:w.heap[b]?=aE (aU #[v0,v1,v2] t fr)):w.cell? ⟨b,0,aC⟩=aE v0/\w.cell? ⟨b,1,aC⟩=aE v1/\w.cell? ⟨b,2,aC⟩=aE v2:=by simp[aY.cell?,h]
variable {v3:aG}
theorem X4 {v0 v4 v5:aG}(h:w.heap[b]?=aE (aU #[v0,v1,v2,v3,v4,v5] t fr)):w.cell? ⟨b,0,aC⟩=aE v0/\w.cell? ⟨b,1,aC⟩=aE v1/\w.cell? ⟨b,2,aC⟩=aE v2/\w.cell? ⟨b,3,aC⟩=aE v3/\w.cell? ⟨b,4,aC⟩=aE v4/\w.cell? ⟨b,5,aC⟩=aE v5:=by simp[aY.cell?,h]
section
variable {P:Program}{ops:Array Oper}{Q:Exit->Act->aY->Prop}{md:Region.Mode}{S:aY->Prop}{m:Nat}
variable {fuel:Nat}{dN:Array Bool}{a:Act}
theorem uT (i:Nat)(v:aG){oi:Oper}(hi:ops[i]?=aE oi)(hs:(Region.noSelect ops&&(i != m)&&Fh md ops 30 m i&&Region.free md ops dN i&&(Region.ready md ops dN).contains i)=aX)(hQ:∀c a w,Q (.panic c) (a.put oi.dst v) w->Q (.panic c) a w)(hc:Ym md ops dN)(hw:Region.wanted oi (yielded ops a.tmps)=aX)(hy:∀w,S w->(execOp a.eval oi).run P w=.ok (.value v) w)(hS:S w)(h:Ym md ops (dN.setIfInBounds i aX)->pZ P md ops Q S m fuel (dN.setIfInBounds i aX) (a.put oi.dst v) w):pZ P md ops Q S m (fuel+1) dN a w:=by
 simp only[Bool.and_eq_true] at hs;obtain⟨⟨⟨⟨h1,h2⟩,h3⟩,h4⟩,h5⟩:=hs;exact L0 30 hi h1 h2 h3 h4 h5 hQ hc (.inl ⟨hw,hy⟩) hS h
theorem uA (i:Nat)(v:aG){oi:Oper}(hc:Ym md ops dN)(hS:S w)(h:Ym md ops (dN.setIfInBounds i aX)->pZ P md ops Q S m fuel (dN.setIfInBounds i aX) (a.put oi.dst v) w)(hi:ops[i]?=aE oi:=by exact rfl)(hs:(Region.noSelect ops&&(i != m)&&Fh md ops 30 m i&&Region.free md ops dN i&&(Region.ready md ops dN).contains i)=aX:=by kernel_rfl)(hQ:∀c a w,Q (.panic c) (a.put oi.dst v) w->Q (.panic c) a w:=by exact λ_ _ _ h=>h)(hw:Region.wanted oi (yielded ops a.tmps)=aX:=by exact rfl)(hy:∀w,S w->(execOp a.eval oi).run P w=.ok (.value v) w:=by first|(rintro w ⟨s0,s1,s2,s3,s4,s5,s6,s7,s8,s9⟩;go_simp;done)|(rintro w ⟨s0,s1,s2,s3,s4,s5,s6,s7,s8⟩;go_simp;done)|(rintro w ⟨s0,s1,s2,s3,s4,s5,s6,s7⟩;go_simp;done)|(rintro w ⟨s0,s1,s2,s3,s4,s5,s6⟩;go_simp;done)|(rintro w ⟨s0,s1,s2,s3,s4,s5⟩;go_simp;done)|(rintro w ⟨s0,s1,s2,s3,s4⟩;go_simp;done)|(rintro w ⟨s0,s1,s2,s3⟩;go_simp;done)|(rintro w ⟨s0,s1,s2⟩;go_simp;done)|(rintro w ⟨s0,s1⟩;go_simp;done)|(intro w s0;go_simp;done)):pZ P md ops Q S m (fuel+1) dN a w:=uT i v hi hs hQ hc hw hy hS h
theorem uO (i:Nat){o:Oper}(hs:(Region.ready md ops dN==[i]&&(i != m))=aX)(ho:ops[i]?=aE o)(h:∀K' :Act->aY->Prop,Shut (∀a w,S w->pZ P md ops Q S m fuel (dN.setIfInBounds i aX) a w->K' a w)->if Region.wanted o (yielded ops a.tmps)=aX then Oper.wp P o a w K' Q else K' (a.put o.dst undef) w):pZ P md ops Q S m (fuel+1) dN a w:=by
 simp only[Bool.and_eq_true] at hs;exact Pg (by simpa using hs.1) hs.2 ho h
theorem uR (m:Nat)(S:aY->Prop){id:Nat}(hm:P.follows .mixedOrders=aX)(hS:S w.drew)(h:Ym .any ops (Array.replicate ops.size aV)->S w.drew->pZ P .any ops Q S m ops.size (Array.replicate ops.size aV) a w.drew):(Code.region id ops aX).wp P Q a w:=Bq hm λhc=>h hc hS
end
variable {dN:Array Bool}
theorem Ym.nx {ops:Array Oper}{md:Region.Mode}(h:Ym md ops dN)(j:Nat)(hj:(Region.ready md ops dN).contains j=aX):Ym md ops (dN.setIfInBounds j aX):=h.step (by simpa using hj)
end
end Go.Proofs.YtgnlokmeohffaaaGreatDoor
