/- Parts of the proof: see the last text. -/
import Derived.Handy
import Derived.Test.YtgnlokmeohffaaaGreatDoorG1
namespace Go.Proofs.YtgnlokmeohffaaaGreatDoor
set_option maxRecDepth 100000
set_option maxHeartbeats 1600000
open Option renaming none → aC, some → aE
open Go renaming IntKind.i64 → aF, Value → aG, Value.int → aH, Value.string → aI, Value.slice → aJ, Value.pointer → aK, Ending.returned → aM, Obj.cells → aU, World → aY, Value.tuple → bC, Value.bool → bB, Calls → bH, Value.agg → bM, Value.iface → bO, Instr.typeAssert → bY
open Go.Proofs.Tryz renaming prog → aQ
open Bool renaming false → aV, true → aX, or_eq_true → dY
open Go.RowKit renaming Below → bA, Below.refl → bF
open Nat renaming le_refl → bD, zero_le → bZ, le_trans → cF, le_of_lt → cN, zero_add → dC, lt_of_lt_of_le → eC
open List renaming getElem?_eq_some_iff → bI, getElem?_eq_getElem → bL, length_append → bN, getElem?_append_right → bP, getElem?_append_left → bT, mem_of_getElem? → cG, getElem?_map → cI, length_cons → cX, mem_singleton → dE, take_succ_eq_append_getElem → dF, length_map → dO, length_take → dH, not_mem_nil → dR, length_eq_zero_iff → dU, getElem?_eq_none → dZ, take_of_length_le → eB, mem_cons_self → eF
open Tryz
open Go.RowKit
namespace N
open Go.RowKit
structure Part where
 kind:eE
 start:Nat
 waits:List Nat
structure iY where
 body:List (Cell×Nat)
 opens:List Part
def qK (b:List (Cell×Nat)) (p goal:Nat):List (Cell×Nat):=b.modify p λc=>(c.1,goal)
def mX (b:List (Cell×Nat)) (ps:List Nat) (goal:Nat):List (Cell×Nat):=ps.foldl (λb p=>qK b p goal) b
def shut (d:iY):iY:=
 match d.opens with
 |[]=>d
 |o::t=>⟨mX d.body o.waits d.body.length,t⟩
def fM:List Part->Nat->List Part
 |[],_=>[]
 |o::t,p=>if o.kind==iR then {o with waits:=o.waits++[p]}::t else o::fM t p
def settle (d:iY) (b:eE) (p:Nat):iY:=
 if b==mM||b==iR then⟨d.body,⟨b,p,[p]⟩::d.opens⟩
 else if b==dT then⟨d.body,⟨b,p,[]⟩::d.opens⟩
 else if b==fA then⟨(shut d).body,⟨b,p,[p]⟩::(shut d).opens⟩
 else if b==eN then(match d.opens with|[]=>d|o::t=>⟨d.body,⟨b,o.start,[p]⟩::t⟩)
 else if b==fD then⟨d.body,fM d.opens p⟩
 else if b==jQ||b==jW||b==gB||b==eK then(match d.opens with|[]=>d|o::t=>shut ⟨qK d.body p (o.start+1),o::t⟩)
 else if b==iQ then shut d
 else d
def add (d:iY) (c:Cell):iY:=
 if c.kind=4 then settle ⟨d.body++[(c,0)],d.opens⟩ c.name d.body.length else⟨d.body++[(c,0)],d.opens⟩
def cells (d:iY):List Cell:=d.body.map (·.1)
def kinds (d:iY):List eE:=d.opens.reverse.map (·.kind)
def Ch (b:eE):eE:=if b==mM||b==fA then mM else if b==eN then dT else iR
def Sa (b:eE):List eE:=if b==mM||b==fA then[iQ] else if b==eN then ends else[eK]
def Oe (b:eE):List eE:=if b==mM then[fA,iQ] else if b==fA then[iQ] else if b==eN then[gB] else[eK]
def fwd (b:eE):Bool:=b==mM||b==fA||b==eN||b==iR||b==fD
def bwd (b:eE):Bool:=b==jQ||b==jW||b==gB||b==eK
def goal (l:List Cell) (p:Nat) (b:eE):Nat:=
 if fwd b then ahead l p (Ch b) (Sa b) (Oe b) else if b==eK then fV l iR [eK] p 0 else fV l dT ends p 0
def Rx (k:eE):eE:=if k==mM||k==fA then mM else if k==dT||k==eN then dT else iR
def Ds (k b:eE):Bool:=(k==mM&&b==mM)||(k==fA&&b==fA)||(k==eN&&b==eN)||(k==iR&&(b==iR||b==fD))
abbrev l9:=eE->Int
def bump (k:l9) (X:eE):l9:=λY=>if Y=X then k Y+1 else k Y
def Jh (l:List Cell) (k:l9) (kind:eE) (p:Nat):Prop:=
 ∃c,l[p]?=aE c/\c.kind=4/\Ds kind c.name=aX/\∀more,fC (Ch c.name) (Sa c.name) (Oe c.name) (l.drop (p+1)++more) (p+1) 0=fC (Ch c.name) (Sa c.name) (Oe c.name) more l.length (k (Ch c.name))
def Wt (l:List Cell):l9->List Part->Prop
 |_,[]=>True
 |k,o::t=>(∀p∈o.waits,Jh l k o.kind p)/\Wt l (bump k (Rx o.kind)) t
variable {α:Type}
theorem NB (l:List α)(c:α)(p:Nat)(h:p<l.length):(l++[c]).drop (p+1)=l.drop (p+1)++[c]:=by
 rw[List.drop_append_of_le_length (by omega)]
variable {l:List Cell}{p:Nat}
theorem Bc {k k2:l9}{kind:eE}(c:Cell)(H:∀b,fwd b=aX->∀more n,fC (Ch b) (Sa b) (Oe b) (c::more) n (k (Ch b))=fC (Ch b) (Sa b) (Oe b) more (n+1) (k2 (Ch b)))(h:Jh l k kind p):Jh (l++[c]) k2 kind p:=by
 obtain⟨x,h1,h2,h3,h4⟩:=h;have hp:p<l.length:=(bI.1 h1).1;have hf:fwd x.name=aX:=by
  unfold Ds at h3;unfold fwd;simp only[dY,Bool.and_eq_true] at h3 ⊢;rcases h3 with ((h3|h3)|h3)|h3
  ·exact .inl (.inl (.inl (.inl h3.2)))
  ·exact .inl (.inl (.inl (.inr h3.2)))
  ·exact .inl (.inl (.inr h3.2))
  ·rcases h3.2 with h|h
   ·exact .inl (.inr h)
   ·exact .inr h
 refine⟨x,by rw[bT hp];exact h1,h2,h3,λmore=>?_⟩;rw[NB l c p hp,List.append_assoc,h4,List.singleton_append,H _ hf,bN];rfl
theorem SQ (k y:l9)(X:eE):bump (λY=>k Y+y Y) X=λY=>k Y+bump y X Y:=by
 funext Y
 unfold bump;show(if Y=X then k Y+y Y+1 else k Y+y Y)=k Y+if Y=X then y Y+1 else y Y
 split <;> omega
theorem P6 {y:l9}(h:∀X,0<=y X)(X:eE):∀Y,0<=bump y X Y:=λY=>by
 unfold bump;have:=h Y
 split <;> omega
theorem GL (c:Cell)(k k2:l9)(H:∀b,fwd b=aX->∀x:Int,0<=x->∀more n,fC (Ch b) (Sa b) (Oe b) (c::more) n (k (Ch b)+x)=fC (Ch b) (Sa b) (Oe b) more (n+1) (k2 (Ch b)+x)):
 ∀(t:List Part) (y:l9),(∀X,0<=y X)->Wt l (λY=>k Y+y Y) t->Wt (l++[c]) (λY=>k2 Y+y Y) t
 |[],_,_,_=>trivial
 |o::t,y,hy,h=>by
  refine⟨λp hp=>Bc c (λb hb more n=>H b hb _ (hy _) more n) (h.1 p hp),?_⟩;have h2:=h.2;rw[SQ] at h2 ⊢;exact GL c k k2 H t _ (P6 hy _) h2
def zero:l9:=λ_=>0
theorem Jn (c:Cell)(k k2:l9)(H:∀b,fwd b=aX->∀x:Int,0<=x->∀more n,fC (Ch b) (Sa b) (Oe b) (c::more) n (k (Ch b)+x)=fC (Ch b) (Sa b) (Oe b) more (n+1) (k2 (Ch b)+x)){t:List Part}(h:Wt l k t):Wt (l++[c]) k2 t:=by
 have:=GL c k k2 H t zero (λ_=>Int.le_refl 0) (by simpa[zero] using h);simpa[zero] using this
theorem Ep {b:eE}(h:fwd b=aX):b=mM\/b=fA\/b=eN\/b=iR\/b=fD:=by
 unfold fwd at h;simp only[dY,beq_iff_eq] at h;rcases h with (((h|h)|h)|h)|h
 ·exact .inl h
 ·exact .inr (.inl h)
 ·exact .inr (.inr (.inl h))
 ·exact .inr (.inr (.inr (.inl h)))
 ·exact .inr (.inr (.inr (.inr h)))
def idle (c:Cell):Prop:=c.kind≠4\/c.name=eN\/c.name=fD\/c.name=wI\/c.name=sW\/c.name=kX
theorem Gl {c:Cell}(h:idle c)(b:eE)(hb:fwd b=aX)(x:Int)(more:List Cell)(n:Nat):fC (Ch b) (Sa b) (Oe b) (c::more) n x=fC (Ch b) (Sa b) (Oe b) more (n+1) x:=by
 obtain⟨ck,cn,nm⟩:=c;by_cases hk:ck=4
 ·subst hk;rcases h with h|rfl|rfl|rfl|rfl|rfl
  ·exact(h rfl).elim
  all_goals (rcases Ep hb with rfl|rfl|rfl|rfl|rfl <;> (rw[fC];simp[Ch,Sa,Oe,ends,mM,fA,iQ,dT,jQ,jW,eN,gB,iR,eK,wI,fD,sW,kX]))
 ·rw[fC,if_pos hk]
theorem m5 {c:Cell}(hc:idle c){k:l9}{t:List Part}(h:Wt l k t):Wt (l++[c]) k t:=
 Jn c k k (λb hb _ _ more n=>Gl hc b hb _ more n) h
end N
namespace N
open Go.RowKit
variable {X:eE}
theorem CY (n0:Int)(hX:X=mM\/X=dT\/X=iR)(b:eE)(hb:fwd b=aX)(k:l9)(x:Int)(more:List Cell)(n:Nat):
 fC (Ch b) (Sa b) (Oe b) (⟨4,n0,X⟩::more) n (k (Ch b)+x)=fC (Ch b) (Sa b) (Oe b) more (n+1) (bump k X (Ch b)+x):=by
 rcases hX with rfl|rfl|rfl <;> rcases Ep hb with rfl|rfl|rfl|rfl|rfl <;>
  (rw[fC];simp[Ch,Sa,Oe,ends,bump,mM,fA,iQ,dT,jQ,jW,eN,gB,iR,eK,fD] <;> (congr 1;omega))
variable {l:List Cell}
theorem YL {n0:Int}(hX:X=mM\/X=dT\/X=iR){k:l9}{t:List Part}(h:Wt l k t):Wt (l++[⟨4,n0,X⟩]) (bump k X) t:=
 Jn _ k _ (λb hb x _ more n=>CY n0 hX b hb k x more n) h
def M6 (X s:eE):Prop:=(X=mM/\s=iQ)\/(X=dT/\(s=jQ\/s=jW\/s=gB))\/(X=iR/\s=eK)
theorem EV (n0:Int){s:eE}(hX:M6 X s)(b:eE)(hb:fwd b=aX)(k:l9)(hk:∀Y,0<=k Y)(x:Int)(hx:0<=x)(more:List Cell)(n:Nat):
 fC (Ch b) (Sa b) (Oe b) (⟨4,n0,s⟩::more) n (bump k X (Ch b)+x)=fC (Ch b) (Sa b) (Oe b) more (n+1) (k (Ch b)+x):=by
 have h1:=hk mM;have h2:=hk dT;have h3:=hk iR;have e1:¬(k mM+1+x=0):=by omega
 have e2:¬(k dT+1+x=0):=by omega
 have e3:¬(k iR+1+x=0):=by omega
 have f1:k mM+1+x-1=k mM+x:=by omega
 have f2:k dT+1+x-1=k dT+x:=by omega
 have f3:k iR+1+x-1=k iR+x:=by omega
 clear h1 h2 h3 hk;rcases hX with ⟨rfl,rfl⟩|⟨rfl,rfl|rfl|rfl⟩|⟨rfl,rfl⟩ <;> rcases Ep hb with rfl|rfl|rfl|rfl|rfl <;>
  (rw[fC];simp[Ch,Sa,Oe,ends,bump,mM,fA,iQ,dT,jQ,jW,eN,gB,iR,eK,fD] at e1 e2 e3 f1 f2 f3 ⊢ <;> simp[e1,e2,e3,f1,f2,f3])
theorem ZM {n0:Int}{s:eE}(hX:M6 X s){k:l9}(hk:∀Y,0<=k Y){t:List Part}(h:Wt l (bump k X) t):Wt (l++[⟨4,n0,s⟩]) k t:=
 Jn _ _ k (λb hb x hx more n=>EV n0 hX b hb k hk x hx more n) h
theorem CV (n0:Int)(b:eE)(hb:fwd b=aX)(k:l9)(hk:0<=k mM)(x:Int)(hx:0<=x)(more:List Cell)(n:Nat):
 fC (Ch b) (Sa b) (Oe b) (⟨4,n0,fA⟩::more) n (bump k mM (Ch b)+x)=fC (Ch b) (Sa b) (Oe b) more (n+1) (bump k mM (Ch b)+x):=by
 have e1:¬(k mM+1+x=0):=by omega
 clear hk;rcases Ep hb with rfl|rfl|rfl|rfl|rfl <;>
  (rw[fC];simp[Ch,Sa,Oe,ends,bump,mM,fA,iQ,dT,jQ,jW,eN,gB,iR,eK,fD] at e1 ⊢ <;> simp[e1])
theorem ZB {n0:Int}{k:l9}(hk:0<=k mM){t:List Part}(h:Wt l (bump k mM) t):Wt (l++[⟨4,n0,fA⟩]) (bump k mM) t:=
 Jn _ _ _ (λb hb x hx more n=>CV n0 b hb k hk x hx more n) h
def wanted (kind s:eE):Prop:=(kind=mM/\(s=fA\/s=iQ))\/(kind=fA/\s=iQ)\/(kind=eN/\s=gB)\/(kind=iR/\s=eK)
variable {p:Nat}
theorem found {n0:Int}{kind s:eE}(hw:wanted kind s)(h:Jh l zero kind p):
 ∃c,l[p]?=aE c/\c.kind=4/\fwd c.name=aX/\∀more,ahead (l++[⟨4,n0,s⟩]++more) p (Ch c.name) (Sa c.name) (Oe c.name)=l.length+1:=by
 obtain⟨x,h1,h2,h3,h4⟩:=h;have hp:p<l.length:=(bI.1 h1).1;have key:fwd x.name=aX/\∀more,fC (Ch x.name) (Sa x.name) (Oe x.name) (⟨4,n0,s⟩::more) l.length 0=l.length+1:=by
  unfold Ds at h3;simp only[dY,Bool.and_eq_true,beq_iff_eq] at h3;clear h4;rcases h3 with ((⟨rfl,h⟩|⟨rfl,h⟩)|⟨rfl,h⟩)|⟨rfl,h|h⟩ <;> rw[h] <;> refine⟨by decide,λmore=>?_⟩ <;> rcases hw with ⟨e,rfl|rfl⟩|⟨e,rfl⟩|⟨e,rfl⟩|⟨e,rfl⟩ <;>
   first
   |exact absurd e (by decide)
   |(rw[fC];simp[Oe,mM,fA,iQ,eN,gB,iR,eK,fD])
 refine⟨x,h1,h2,key.1,λmore=>?_⟩;unfold ahead;rw[List.append_assoc,List.drop_append_of_le_length (by omega),h4];exact key.2 more
theorem yU (l m:List Cell)(X:eE)(sh:List eE):∀(i:Nat) (d:Int),i<=l.length->fV (l++m) X sh i d=fV l X sh i d
 |0,_,_=>rfl
 |i+1,d,h=>by
  unfold fV;rw[bT (by omega)];cases l[i]? with
  |none=>rfl
  |some c=>simp only[yU l m X sh i _ (by omega)]
theorem Ky (l:List Cell)(c:Cell)(X:eE)(sh:List eE)(d:Int):fV (l++[c]) X sh (l++[c]).length d=
 (if c.kind≠4 then fV l X sh l.length d else if c.name==X/\d=0 then l.length+1 else if c.name==X then fV l X sh l.length (d-1) else if sh.any (λb=>c.name==b) then fV l X sh l.length (d+1) else fV l X sh l.length d):=by
 rw[bN,List.length_singleton,fV,bP (bD _),Nat.sub_self];simp only[List.getElem?_cons_zero,yU l [c] X sh l.length _ (bD _)]
def Se (X:eE):List eE:=if X==dT then ends else[eK]
def Bk (l:List Cell) (t:List Part):Prop:=∀X,(X=dT\/X=iR)->∀(d:Nat) (o:Part),(t.filter λo=>Rx o.kind==X)[d]?=aE o->fV l X (Se X) l.length d=o.start+1
theorem Of {t t' :List Part}(c:Cell)(h:Bk l t)(ht:∀X,(X=dT\/X=iR)->(t'.filter λo=>Rx o.kind==X).map (·.start)=(t.filter λo=>Rx o.kind==X).map (·.start))(hc:∀X,(X=dT\/X=iR)->c.kind≠4\/((c.name==X)=aV/\(Se X).any (λb=>c.name==b)=aV)):Bk (l++[c]) t' :=by
 intro X hX d o ho;rw[Ky];have hs:((t.filter λo=>Rx o.kind==X).map (·.start))[d]?=aE o.start:=by rw[<-ht X hX,cI,ho];rfl
 rw[cI] at hs;obtain⟨o',kT,he⟩:=Option.map_eq_some_iff.1 hs;have:=h X hX d o' kT;rw[he] at this;rcases hc X hX with hk|⟨h1,h2⟩
 ·rw[if_pos hk];exact this
 ·rw[h1,h2];simp only[Bool.false_eq_true,false_and,if_false]
  split <;> exact this
theorem YU {t:List Part}(n0:Int)(w:List Nat)(hX:X=mM\/X=dT\/X=iR)(h:Bk l t):Bk (l++[⟨4,n0,X⟩]) (⟨X,l.length,w⟩::t):=by
 intro Y hY d o ho;have SG:Rx X=X:=by rcases hX with rfl|rfl|rfl <;> rfl
 rw[Ky,if_neg (by simp)];rw[List.filter_cons] at ho;by_cases he:X=Y
 ·subst he;have ht:(Rx X==X)=aX:=by rw[SG];exact beq_self_eq_true X
  have hx:(X==X)=aX:=beq_self_eq_true X;simp only[ht,if_true] at ho;cases d with
  |zero=>
   simp only[List.getElem?_cons_zero,aE.injEq] at ho;rw[if_pos ⟨hx,rfl⟩,<-ho]
  |succ d=>
   simp only[List.getElem?_cons_succ] at ho;rw[if_neg (by simp;omega),if_pos hx,show((d+1:Nat):Int)-1=(d:Int) by omega];exact h X hY d o ho
 ·have ht:(Rx X==Y)=aV:=by rw[SG,beq_eq_false_iff_ne];exact he
  have hx:(X==Y)=aV:=by rw[beq_eq_false_iff_ne];exact he
  have hs:(Se Y).any (λb=>X==b)=aV:=by rcases hX with rfl|rfl|rfl <;> rcases hY with rfl|rfl <;> rfl
  simp only[ht,Bool.false_eq_true,if_false] at ho;simp only[hx,hs,Bool.false_eq_true,false_and,if_false];exact h Y hY d o ho
theorem YM {t:List Part}(n0:Int){s:eE}{o0:Part}(hX:M6 X s)(ho:Rx o0.kind=X)(h:Bk l (o0::t)):Bk (l++[⟨4,n0,s⟩]) t:=by
 intro Y hY d o kT;have hh:=h Y hY;rw[List.filter_cons] at hh;rw[Ky];rw[ho] at hh;rcases hX with ⟨rfl,rfl⟩|⟨rfl,rfl|rfl|rfl⟩|⟨rfl,rfl⟩ <;> rcases hY with rfl|rfl
 all_goals first
  |(have:=hh d o (by simpa[mM,dT,iR] using kT);simpa[Se,ends,dT,jQ,jW,gB,iR,eK,iQ] using this)
  |(have:=hh (d+1) o (by simpa using kT);simpa[Se,ends,dT,jQ,jW,gB,iR,eK,iQ] using this)
end N
namespace N
open Go.RowKit
def l7 (d:iY):Prop:=∀p c g,d.body[p]?=aE (c,g)->c.kind=4->(∃o∈d.opens,p∈o.waits)\/(∀more,(fwd c.name||bwd c.name)=aX->g=goal (cells d++more) p c.name)
structure Good (d:iY):Prop where
 wt:Wt (cells d) zero d.opens
 bk:Bk (cells d) d.opens
 se:l7 d
theorem UQ:Good ⟨[],[]⟩:=⟨trivial,λ_ _ _ _ h=>by simp at h,λ_ _ _ h=>by simp at h⟩
theorem iH (d:iY):(cells d).length=d.body.length:=by simp[cells]
theorem DY (b:List (Cell×Nat))(p g:Nat):(qK b p g).map (·.1)=b.map (·.1):=by
 apply List.ext_getElem?;intro i;rw[cI,cI,qK,List.getElem?_modify];cases b[i]? with
 |none=>rfl
 |some x=>
  show aE (if p=i then(x.1,g) else x).1=aE x.1
  split <;> rfl
theorem oO (ps:List Nat)(g:Nat):∀b:List (Cell×Nat),(mX b ps g).map (·.1)=b.map (·.1):=by
 induction ps with
 |nil=>intro b;rfl
 |cons p t ih=>intro b;exact(ih (qK b p g)).trans (DY b p g)
variable {p g i:Nat}
theorem M3 {b:List (Cell×Nat)}{c:Cell}{g' :Nat}(h:(qK b p g)[i]?=aE (c,g')):(i=p/\g' =g/\∃g0,b[i]?=aE (c,g0))\/(i≠p/\b[i]?=aE (c,g')):=by
 rw[qK,List.getElem?_modify] at h;cases hb:b[i]? with
 |none=>rw[hb] at h;simp at h
 |some x=>
  rw[hb] at h
  change aE (if p=i then(x.1,g) else x)=aE (c,g') at h
  injection h with h;by_cases hp:p=i
  ·rw[if_pos hp] at h;injection h with h1 h2;exact .inl ⟨hp.symm,h2.symm,x.2,by rw[<-h1]⟩
  ·rw[if_neg hp] at h;exact .inr ⟨λe=>hp e.symm,by rw[<-h]⟩
theorem Ei {c:Cell}{g' :Nat}:∀(ps:List Nat) {b:List (Cell×Nat)},(mX b ps g)[i]?=aE (c,g')->(i∈ps/\g' =g/\∃g0,b[i]?=aE (c,g0))\/(i∉ps/\b[i]?=aE (c,g'))
 |[],_,h=>.inr ⟨by simp,h⟩
 |p::t,b,h=>by
  rcases Ei t (b:=qK b p g) h with ⟨h1,h2,g0,h3⟩|⟨h1,h2⟩
  ·rcases M3 h3 with ⟨h4,_,g1,h5⟩|⟨_,h5⟩
   ·exact .inl ⟨List.mem_cons_of_mem _ h1,h2,g1,h5⟩
   ·exact .inl ⟨List.mem_cons_of_mem _ h1,h2,g0,h5⟩
  ·rcases M3 h2 with ⟨h4,h5,g1,h6⟩|⟨h4,h5⟩
   ·exact .inl ⟨by rw[h4];exact eF,h5,g1,h6⟩
   ·refine .inr ⟨λhm=>?_,h5⟩;rcases List.mem_cons.1 hm with e|e
    ·exact h4 e
    ·exact h1 e
variable {α:Type}
theorem hU {b:List α}{x y:α}(h:(b++[x])[i]?=aE y):b[i]?=aE y\/(i=b.length/\y=x):=by
 rcases Nat.lt_trichotomy i b.length with hl|he|hg
 ·rw[bT hl] at h;exact .inl h
 ·subst he;rw[bP (bD _),Nat.sub_self] at h;simp at h;exact .inr ⟨rfl,h.symm⟩
 ·rw[dZ (by simp;omega)] at h;cases h
variable {d:iY}
theorem l7.qU (h:l7 d)(c0:Cell){c:Cell}(hb:d.body[p]?=aE (c,g))(hk:c.kind=4):
 (∃o∈d.opens,p∈o.waits)\/(∀more,(fwd c.name||bwd c.name)=aX->g=goal (cells d++[c0]++more) p c.name):=by
 rcases h p c g hb hk with h1|h1
 ·exact .inl h1
 ·exact .inr λmore hf=>by rw[List.append_assoc];exact h1 _ hf
theorem rT (b:List (Cell×Nat))(t:List Part)(c:Cell)(g:Nat):cells ⟨b++[(c,g)],t⟩=cells ⟨b,t⟩++[c]:=by simp[cells]
theorem dh (b:List (Cell×Nat))(t t' :List Part):cells ⟨b,t⟩=cells ⟨b,t'⟩:=rfl
theorem Wv (h:Good d){c:Cell}(hc:c.kind≠4\/c.name=wI\/c.name=sW\/c.name=kX):Good ⟨d.body++[(c,0)],d.opens⟩:=by
 have hi:idle c:=by
  rcases hc with hc|hc|hc|hc
  ·exact .inl hc
  ·exact .inr (.inr (.inr (.inl hc)))
  ·exact .inr (.inr (.inr (.inr (.inl hc))))
  ·exact .inr (.inr (.inr (.inr (.inr hc))))
 refine⟨?_,?_,?_⟩
 ·rw[rT];exact m5 hi h.wt
 ·rw[rT];refine Of c h.bk (λ_ _=>rfl) λX hX=>?_
  rcases hc with hc|hc|hc|hc
  ·exact .inl hc
  all_goals (refine .inr ?_;rw[hc];rcases hX with rfl|rfl <;> decide)
 ·intro p x g hb hk;rw[rT];rcases hU hb with h1|⟨h1,h2⟩
  ·exact h.se.qU c h1 hk
  ·injection h2 with h2 _;subst h2;refine .inr λmore hf=>?_
   rcases hc with hc|hc|hc|hc
   ·exact(hc hk).elim
   all_goals (rw[hc] at hf;exact absurd hf (by decide))
theorem Dv (l:List Cell)(n0:Int)(kind b:eE)(h:Ds kind b=aX):Jh (l++[⟨4,n0,b⟩]) zero kind l.length:=by
 refine⟨⟨4,n0,b⟩,by rw[bP (bD _),Nat.sub_self];rfl,rfl,h,λmore=>?_⟩;rw[List.drop_eq_nil_of_le (by simp),List.nil_append,bN];rfl
variable {X:eE}
theorem Kq (h:Good d)(n0:Int)(w:List Nat)(hX:(X=dT/\w=[])\/((X=mM\/X=iR)/\w=[d.body.length])):Good ⟨d.body++[(⟨4,n0,X⟩,0)],⟨X,d.body.length,w⟩::d.opens⟩:=by
 have hX' :X=mM\/X=dT\/X=iR:=by rcases hX with ⟨h,_⟩|⟨h|h,_⟩ <;> simp[h]
 have ht:Rx X=X:=by rcases hX' with rfl|rfl|rfl <;> rfl
 refine⟨⟨λp hp=>?_,?_⟩,?_,?_⟩
 ·rw[rT];rcases hX with ⟨_,rfl⟩|⟨hx,rfl⟩
  ·simp at hp
  ·rw[dE] at hp;subst hp;rw[<-iH];exact Dv _ _ X X (by rcases hx with rfl|rfl <;> rfl)
 ·rw[rT,ht];exact YL hX' h.wt
 ·rw[rT,<-iH];exact YU n0 w hX' h.bk
 ·intro p x g hb hk;rw[rT];rcases hU hb with h1|⟨h1,h2⟩
  ·rcases h.se.qU ⟨4,n0,X⟩ h1 hk with ⟨o,ho,hp⟩|h2
   ·exact .inl ⟨o,List.mem_cons_of_mem _ ho,hp⟩
   ·exact .inr h2
  ·injection h2 with h2 _;subst h2;rcases hX with ⟨rfl,_⟩|⟨_,rfl⟩
   ·exact .inr λmore hf=>by cases hf
   ·exact .inl ⟨_,eF,by rw[h1];exact dE.2 rfl⟩
theorem Q4:∀Y,0<=zero Y:=λ_=>Int.le_refl 0
theorem Wr {b:List (Cell×Nat)}{o:Part}{t:List Part}(h:Good ⟨b,o::t⟩)(n0:Int){s:eE}(g0:Nat)(hX:M6 X s)(ho:Rx o.kind=X)(hw:wanted o.kind s\/o.waits=[])(hg:bwd s=aX->∀more,g0=goal (cells ⟨b,o::t⟩++[⟨4,n0,s⟩]++more) b.length s):Good ⟨mX (b++[(⟨4,n0,s⟩,g0)]) o.waits (b.length+1),t⟩:=by
 have nQ:cells ⟨mX (b++[(⟨4,n0,s⟩,g0)]) o.waits (b.length+1),t⟩=cells ⟨b,o::t⟩++[⟨4,n0,s⟩]:=by
  show(mX _ _ _).map _=_;rw[oO];simp[cells]
 refine⟨?_,?_,?_⟩
 ·rw[nQ];have:=h.wt.2;rw[ho] at this;exact ZM hX Q4 this
 ·rw[nQ];exact YM n0 hX ho h.bk
 ·intro p x g hb hk;rw[nQ];have hlen:(cells ⟨b,o::t⟩).length=b.length:=iH _;have nM:∀p∈o.waits,p<b.length:=λp hp=>by
   obtain⟨c,hc,_⟩:=h.wt.1 p hp;have:=(bI.1 hc).1;omega
  rcases Ei _ hb with ⟨hm,rfl,g1,fF⟩|⟨hm,fF⟩
  ·refine .inr λmore hf=>?_
   rcases hw with hw|hw
   ·obtain⟨c,hc,hc4,ZO,hah⟩:=found (n0:=n0) hw (h.wt.1 p hm);have hx:c=x:=by
     rcases hU fF with h1|⟨h1,_⟩
     ·have:(cells ⟨b,o::t⟩)[p]?=aE x:=by simp[cells,h1]
      rw[hc] at this;injection this
     ·have:=nM p hm;omega
    subst hx;unfold goal;rw[if_pos ZO,hah,hlen]
   ·rw[hw] at hm;simp at hm
  ·rcases hU fF with h1|⟨h1,h2⟩
   ·rcases h.se.qU ⟨4,n0,s⟩ h1 hk with ⟨o',kT,hp⟩|h2
    ·rcases List.mem_cons.1 kT with rfl|kT
     ·exact(hm hp).elim
     ·exact .inl ⟨o',kT,hp⟩
    ·exact .inr h2
   ·injection h2 with h2 h3;subst h2 h3 h1;refine .inr λmore hf=>?_
    have zF:fwd s=aV:=by rcases hX with ⟨_,rfl⟩|⟨_,rfl|rfl|rfl⟩|⟨_,rfl⟩ <;> decide
    rw[zF,Bool.false_or] at hf;exact hg hf more
theorem ME {b:List (Cell×Nat)}{o:Part}{t:List Part}(h:Good ⟨b,o::t⟩)(n0:Int)(ho:o.kind=mM):Good ⟨mX (b++[(⟨4,n0,fA⟩,0)]) o.waits (b.length+1),⟨fA,b.length,[b.length]⟩::t⟩:=by
 have nQ:cells ⟨mX (b++[(⟨4,n0,fA⟩,0)]) o.waits (b.length+1),⟨fA,b.length,[b.length]⟩::t⟩=cells ⟨b,o::t⟩++[⟨4,n0,fA⟩]:=by
  show(mX _ _ _).map _=_;rw[oO];simp[cells]
 have hlen:(cells ⟨b,o::t⟩).length=b.length:=iH _;have SG:Rx o.kind=mM:=by rw[ho];rfl
 refine⟨?_,?_,?_⟩
 ·rw[nQ];refine⟨λp hp=>?_,?_⟩
  ·rw[dE] at hp;subst hp;have:=Dv (cells ⟨b,o::t⟩) n0 fA fA rfl;rwa[hlen] at this
  ·have:=h.wt.2;rw[SG] at this;exact ZB (Int.le_refl 0) this
 ·rw[nQ];refine Of _ h.bk (λX hX=>?_) λX hX=>.inr ?_
  ·rw[List.filter_cons,List.filter_cons,SG];rcases hX with rfl|rfl <;> rfl
  ·rcases hX with rfl|rfl <;> exact⟨rfl,rfl⟩
 ·intro p x g hb hk;rw[nQ];have nM:∀p∈o.waits,p<b.length:=λp hp=>by
   obtain⟨c,hc,_⟩:=h.wt.1 p hp;have:=(bI.1 hc).1;omega
  rcases Ei _ hb with ⟨hm,rfl,g1,fF⟩|⟨hm,fF⟩
  ·refine .inr λmore hf=>?_
   obtain⟨c,hc,hc4,ZO,hah⟩:=found (n0:=n0) (s:=fA) (.inl ⟨ho,.inl rfl⟩) (h.wt.1 p hm);have hx:c=x:=by
    rcases hU fF with h1|⟨h1,_⟩
    ·have:(cells ⟨b,o::t⟩)[p]?=aE x:=by simp[cells,h1]
     rw[hc] at this;injection this
    ·have:=nM p hm;omega
   subst hx;unfold goal;rw[if_pos ZO,hah,hlen]
  ·rcases hU fF with h1|⟨h1,h2⟩
   ·rcases h.se.qU ⟨4,n0,fA⟩ h1 hk with ⟨o',kT,hp⟩|h2
    ·rcases List.mem_cons.1 kT with rfl|kT
     ·exact(hm hp).elim
     ·exact .inl ⟨o',List.mem_cons_of_mem _ kT,hp⟩
    ·exact .inr h2
   ·exact .inl ⟨_,eF,by rw[h1];exact dE.2 rfl⟩
theorem EB {b:List (Cell×Nat)}{o:Part}{t:List Part}(h:Good ⟨b,o::t⟩)(n0:Int)(ho:o.kind=dT):Good ⟨b++[(⟨4,n0,eN⟩,0)],⟨eN,o.start,[b.length]⟩::t⟩:=by
 have hlen:(cells ⟨b,o::t⟩).length=b.length:=iH _;have nQ:cells ⟨b++[(⟨4,n0,eN⟩,0)],⟨eN,o.start,[b.length]⟩::t⟩=cells ⟨b,o::t⟩++[⟨4,n0,eN⟩]:=by simp[cells]
 have SG:Rx o.kind=dT:=by rw[ho];rfl
 have Te:∀p,p∉o.waits:=λp hp=>by
  obtain⟨c,_,_,hc,_⟩:=h.wt.1 p hp;rw[ho] at hc;simp[Ds,dT,mM,fA,eN,iR] at hc
 refine⟨?_,?_,?_⟩
 ·rw[nQ];refine⟨λp hp=>?_,?_⟩
  ·rw[dE] at hp;subst hp;have:=Dv (cells ⟨b,o::t⟩) n0 eN eN rfl;rwa[hlen] at this
  ·have:=h.wt.2;rw[SG] at this;exact m5 (.inr (.inl rfl)) this
 ·rw[nQ];refine Of _ h.bk (λX hX=>?_) λX hX=>.inr ?_
  ·rw[List.filter_cons,List.filter_cons,SG];rcases hX with rfl|rfl <;> rfl
  ·rcases hX with rfl|rfl <;> exact⟨rfl,rfl⟩
 ·intro p x g hb hk;rw[nQ];rcases hU hb with h1|⟨h1,h2⟩
  ·rcases h.se.qU ⟨4,n0,eN⟩ h1 hk with ⟨o',kT,hp⟩|h2
   ·rcases List.mem_cons.1 kT with rfl|kT
    ·exact(Te p hp).elim
    ·exact .inl ⟨o',List.mem_cons_of_mem _ kT,hp⟩
   ·exact .inr h2
  ·exact .inl ⟨_,eF,by rw[h1];exact dE.2 rfl⟩
theorem Du {q:Nat}:∀{t:List Part},(∃o∈t,p∈o.waits)->∃o∈fM t q,p∈o.waits
 |[],⟨_,h,_⟩=>by simp at h
 |o::t,⟨x,hx,hp⟩=>by
  unfold fM
  split
  ·rcases List.mem_cons.1 hx with rfl|hx
   ·exact⟨_,eF,List.mem_append_left _ hp⟩
   ·exact⟨x,List.mem_cons_of_mem _ hx,hp⟩
  ·rcases List.mem_cons.1 hx with rfl|hx
   ·exact⟨_,eF,hp⟩
   ·obtain⟨y,hy,hp⟩:=Du (q:=q) ⟨x,hx,hp⟩;exact⟨y,List.mem_cons_of_mem _ hy,hp⟩
theorem Dn {q:Nat}:∀{t:List Part},(∃o∈t,o.kind=iR)->∃o∈fM t q,q∈o.waits
 |[],⟨_,h,_⟩=>by simp at h
 |o::t,⟨x,hx,hp⟩=>by
  unfold fM
  split
  ·exact⟨_,eF,List.mem_append_right _ (dE.2 rfl)⟩
  ·rename_i hn
   rcases List.mem_cons.1 hx with rfl|hx
   ·exact(hn (by rw[hp];rfl)).elim
   ·obtain⟨y,hy,hp⟩:=Dn (q:=q) ⟨x,hx,hp⟩;exact⟨y,List.mem_cons_of_mem _ hy,hp⟩
theorem Bi (q:Nat)(X:eE):∀t:List Part,((fM t q).filter λo=>Rx o.kind==X).map (·.start)=(t.filter λo=>Rx o.kind==X).map (·.start)
 |[]=>rfl
 |o::t=>by
  unfold fM
  split
  ·rw[List.filter_cons,List.filter_cons];show List.map _ (if(Rx o.kind==X)=aX then _ else _)=List.map _ (if(Rx o.kind==X)=aX then _ else _)
   split <;> rfl
  ·rw[List.filter_cons,List.filter_cons]
   split
   ·rw[List.map_cons,List.map_cons,Bi q X t]
   ·exact Bi q X t
variable {l:List Cell}
theorem P9 (n0:Int):∀(t:List Part) (k:l9),k iR=0->Wt l k t->(∀o∈t,Rx o.kind=iR->o.kind=iR)->Wt (l++[⟨4,n0,fD⟩]) k (fM t l.length)
 |[],_,_,_,_=>trivial
 |o::t,k,hk,h,hd=>by
  unfold fM
  split
  ·rename_i ho
   rw[beq_iff_eq] at ho;refine⟨λp hp=>?_,m5 (.inr (.inr (.inl rfl))) h.2⟩;rcases List.mem_append.1 hp with hp|hp
   ·exact Bc _ (λb hb more n=>Gl (.inr (.inr (.inl rfl))) b hb _ more n) (h.1 p hp)
   ·rw[dE] at hp;subst hp;refine⟨⟨4,n0,fD⟩,by rw[bP (bD _),Nat.sub_self];rfl,rfl,by show Ds o.kind fD=aX;rw[ho];rfl,λmore=>?_⟩;rw[List.drop_eq_nil_of_le (by simp),List.nil_append,bN];show fC iR _ _ _ _ _=fC iR _ _ _ _ (k iR);rw[hk];rfl
  ·rename_i ho
   rw[beq_iff_eq] at ho;have hn:Rx o.kind≠iR:=λe=>ho (hd o eF e)
   refine⟨λp hp=>Bc _ (λb hb more n=>Gl (.inr (.inr (.inl rfl))) b hb _ more n) (h.1 p hp),?_⟩;refine P9 n0 t _ ?_ h.2 λo' kT =>hd o' (List.mem_cons_of_mem _ kT)
   unfold bump;rw[if_neg λe=>hn e.symm];exact hk
theorem EH (h:Good d)(n0:Int)(ho:∃o∈d.opens,o.kind=iR)(hd:∀o∈d.opens,Rx o.kind=iR->o.kind=iR):Good ⟨d.body++[(⟨4,n0,fD⟩,0)],fM d.opens d.body.length⟩:=by
 have hlen:(cells d).length=d.body.length:=iH _;have nQ:cells ⟨d.body++[(⟨4,n0,fD⟩,0)],fM d.opens d.body.length⟩=cells d++[⟨4,n0,fD⟩]:=by simp[cells]
 refine⟨?_,?_,?_⟩
 ·rw[nQ];have:=P9 n0 d.opens zero rfl h.wt hd;rwa[hlen] at this
 ·rw[nQ];refine Of _ h.bk (λX _=>Bi _ X _) λX hX=>.inr ?_
  rcases hX with rfl|rfl <;> exact⟨rfl,rfl⟩
 ·intro p x g hb hk;rw[nQ];rcases hU hb with h1|⟨h1,h2⟩
  ·rcases h.se.qU ⟨4,n0,fD⟩ h1 hk with h3|h3
   ·exact .inl (Du h3)
   ·exact .inr h3
  ·subst h1;exact .inl (Dn ho)
end N
namespace N
open Go.RowKit
def inner (s:eE):Bool:=[kX,mM,fA,iQ,dT,jQ,jW,eN,gB,iR,eK,wI,fD,sW].any λb=>s==b
def kindOk (k:eE):Prop:=k=mM\/k=fA\/k=dT\/k=eN\/k=iR
structure Jo (d:iY):Prop where
 Eu:Good d
 ok:∀o∈d.opens,kindOk o.kind
theorem TV:Jo ⟨[],[]⟩:=⟨UQ,λ_ h=>by simp at h⟩
theorem Sc (b:List (Cell×Nat))(o:Part)(t:List Part):kinds ⟨b,o::t⟩=kinds ⟨b,t⟩++[o.kind]:=by simp[kinds]
theorem kinds_body (b b' :List (Cell×Nat))(t:List Part):kinds ⟨b,t⟩=kinds ⟨b',t⟩:=rfl
def Kx (l:List eE):Option eE->List eE
 |none=>l
 |some x=>l++[x]
theorem Kv (c:Cell)(g:Nat):∀b:List (Cell×Nat),qK (b++[(c,0)]) b.length g=b++[(c,g)]
 |[]=>rfl
 |x::b=>congrArg (x::·) (Kv c g b)
variable {d:iY}
theorem jI {of:List eE}{dest:Option eE}{o1:List eE}(h:turns (kinds d) of dest=aE o1):∃o t,d.opens=o::t/\of.any (λb=>o.kind==b)=aX/\o1=Kx (kinds ⟨d.body,t⟩) dest:=by
 obtain⟨b,os⟩:=d;cases os with
 |nil=>simp[turns,kinds] at h
 |cons o t=>
  refine⟨o,t,rfl,?_⟩;unfold turns at h;rw[Sc,List.getLast?_append,List.getLast?_singleton] at h;simp only[Option.some_or] at h;by_cases hc:of.any (λb=>o.kind==b)=aX
  ·rw[if_pos hc] at h;injection h with h;refine⟨hc,h.symm.trans ?_⟩;cases dest with
   |none=>simp[Kx]
   |some x=>simp[Kx]
  ·rw[if_neg hc] at h;cases h
theorem yZ (q:Nat):∀t:List Part,(fM t q).map (·.kind)=t.map (·.kind)
 |[]=>rfl
 |o::t=>by
  unfold fM
  split
  ·rfl
  ·rw[List.map_cons,List.map_cons,yZ q t]
theorem typ_do {k:eE}(h:kindOk k)(ht:Rx k=iR):k=iR:=by
 rcases h with rfl|rfl|rfl|rfl|rfl
 all_goals first|rfl|exact absurd ht (by decide)
theorem MK {b:List (Cell×Nat)}{o:Part}{t:List Part}(h:Good ⟨b,o::t⟩)(n0:Int){s:eE}(hb:bwd s=aX)(ht:Rx o.kind=(if s==eK then iR else dT)):
 ∀more,o.start+1=goal (cells ⟨b,o::t⟩++[⟨4,n0,s⟩]++more) b.length s:=by
 intro more;have hf:fwd s=aV:=by
  unfold bwd at hb;simp only[dY,beq_iff_eq] at hb;rcases hb with ((rfl|rfl)|rfl)|rfl <;> rfl
 have hlen:(cells ⟨b,o::t⟩).length=b.length:=iH _;unfold goal;rw[if_neg (by rw[hf];exact Bool.false_ne_true),List.append_assoc];by_cases hl:(s==eK)=aX
 ·rw[if_pos hl] at ht ⊢;rw[<-hlen,yU _ _ _ _ _ _ (bD _)];have:=h.bk iR (.inr rfl) 0 o (by rw[List.filter_cons,if_pos (by rw[ht];rfl)];rfl);exact this.symm
 ·rw[if_neg hl] at ht ⊢;rw[<-hlen,yU _ _ _ _ _ _ (bD _)];have:=h.bk dT (.inl rfl) 0 o (by rw[List.filter_cons,if_pos (by rw[ht];rfl)];rfl);exact this.symm
theorem Tc (h:Jo d)(s:eE)(o1:List eE)(hs:stands (kinds d) s=aE o1)(ht:s≠[39]):
 Jo (add d ⟨4,0,s⟩)/\kinds (add d ⟨4,0,s⟩)=o1/\cells (add d ⟨4,0,s⟩)=cells d++[⟨4,0,s⟩]:=by
 have uN:add d ⟨4,0,s⟩=settle ⟨d.body++[(⟨4,0,s⟩,0)],d.opens⟩ s d.body.length:=if_pos rfl;rw[uN];clear uN;unfold stands at hs;by_cases h1:(s==mM||s==dT||s==iR)=aX
 ·rw[if_pos h1] at hs;injection hs with hs;subst hs;simp only[dY,beq_iff_eq] at h1;have hk:∀w,kinds ⟨d.body++[(⟨4,0,s⟩,0)],⟨s,d.body.length,w⟩::d.opens⟩=kinds d++[s]:=λw=>by simp[kinds]
  have hc:∀w,cells ⟨d.body++[(⟨4,0,s⟩,0)],⟨s,d.body.length,w⟩::d.opens⟩=cells d++[⟨4,0,s⟩]:=λw=>by simp[cells]
  have xF:∀w,∀o∈(⟨s,d.body.length,w⟩::d.opens:List Part),kindOk o.kind:=λw o ho=>by
   rcases List.mem_cons.1 ho with rfl|ho
   ·rcases h1 with (rfl|rfl)|rfl
    ·exact .inl rfl
    ·exact .inr (.inr (.inl rfl))
    ·exact .inr (.inr (.inr (.inr rfl)))
   ·exact h.ok o ho
  rcases h1 with (rfl|rfl)|rfl
  ·exact⟨⟨Kq h.Eu 0 _ (.inr ⟨.inl rfl,rfl⟩),xF _⟩,hk _,hc _⟩
  ·exact⟨⟨Kq h.Eu 0 _ (.inl ⟨rfl,rfl⟩),xF _⟩,hk _,hc _⟩
  ·exact⟨⟨Kq h.Eu 0 _ (.inr ⟨.inr rfl,rfl⟩),xF _⟩,hk _,hc _⟩
 rw[if_neg h1] at hs;have Oh:∀(b:List (Cell×Nat)) (o:Part) (t:List Part) (g0:Nat) (s:eE),cells ⟨mX (b++[(⟨4,0,s⟩,g0)]) o.waits (b.length+1),t⟩=cells ⟨b,o::t⟩++[⟨4,0,s⟩]:=λb o t g0 s=>by
  show(mX _ _ _).map _=_;rw[oO];simp[cells]
 -- the goal of the word itself
 have pS:∀(b:List (Cell×Nat)) (c:Cell) (g:Nat),qK (b++[(c,0)]) b.length g=b++[(c,g)]:=λb c g=>Kv c g b
 have hlen1:∀(b:List (Cell×Nat)) (x:Cell×Nat),(b++[x]).length=b.length+1:=λb x=>by simp
 by_cases h2:(s==fA)=aX
 ·rw[if_pos h2] at hs;rw[beq_iff_eq] at h2;subst h2;obtain⟨o,t,he,mO,rfl⟩:=jI hs;obtain⟨b,os⟩:=d;subst he;have ho:o.kind=mM:=by simpa using mO
  refine⟨⟨?_,?_⟩,?_,?_⟩
  ·have:=ME h.Eu 0 ho;simpa[settle,shut,fA,mM,iR,dT] using this
  ·intro x hx;have hx:x∈(⟨fA,b.length,[b.length]⟩::t:List Part):=by simpa[settle,shut,fA,mM,iR,dT] using hx
   rcases List.mem_cons.1 hx with rfl|hx
   ·exact .inr (.inl rfl)
   ·exact h.ok x (List.mem_cons_of_mem _ hx)
  ·simp[settle,shut,fA,mM,iR,dT,kinds,Kx]
  ·have:=Oh b o t 0 fA;simpa[settle,shut,fA,mM,iR,dT,cells] using this
 rw[if_neg h2] at hs;by_cases h3:(s==iQ)=aX
 ·rw[if_pos h3] at hs;rw[beq_iff_eq] at h3;subst h3;obtain⟨o,t,he,mO,rfl⟩:=jI hs;obtain⟨b,os⟩:=d;subst he;have ho:o.kind=mM\/o.kind=fA:=by simpa using mO
  refine⟨⟨?_,?_⟩,?_,?_⟩
  ·have:=Wr h.Eu 0 0 (s:=iQ) (X:=mM) (.inl ⟨rfl,rfl⟩) (by rcases ho with e|e <;> rw[e] <;> rfl) (.inl (by rcases ho with e|e <;> simp[wanted,e])) (λe=>by cases e);simpa[settle,shut,iQ,fA,mM,iR,dT,eN,fD,jQ,jW,gB,eK] using this
  ·intro x hx;have hx:x∈t:=by simpa[settle,shut,iQ,fA,mM,iR,dT,eN,fD,jQ,jW,gB,eK] using hx
   exact h.ok x (List.mem_cons_of_mem _ hx)
  ·simp[settle,shut,iQ,fA,mM,iR,dT,eN,fD,jQ,jW,gB,eK,kinds,Kx]
  ·have:=Oh b o t 0 iQ;simpa[settle,shut,iQ,fA,mM,iR,dT,eN,fD,jQ,jW,gB,eK,cells] using this
 rw[if_neg h3] at hs
 -- words that go back
 have back:∀(b:List (Cell×Nat)) (o:Part) (t:List Part) (X:eE),Jo ⟨b,o::t⟩->bwd s=aX->M6 X s->Rx o.kind=X->(wanted o.kind s\/o.waits=[])->
  Jo (settle ⟨b++[(⟨4,0,s⟩,0)],o::t⟩ s b.length)/\kinds (settle ⟨b++[(⟨4,0,s⟩,0)],o::t⟩ s b.length)=kinds ⟨b,t⟩/\cells (settle ⟨b++[(⟨4,0,s⟩,0)],o::t⟩ s b.length)=cells ⟨b,o::t⟩++[⟨4,0,s⟩]:=by
  intro b o t X hf hb hX SG hw;have eR:settle ⟨b++[(⟨4,0,s⟩,0)],o::t⟩ s b.length=⟨mX (b++[(⟨4,0,s⟩,o.start+1)]) o.waits (b.length+1),t⟩:=by
   have e1:settle ⟨b++[(⟨4,0,s⟩,0)],o::t⟩ s b.length=shut ⟨qK (b++[(⟨4,0,s⟩,0)]) b.length (o.start+1),o::t⟩:=by
    unfold bwd at hb;simp only[dY,beq_iff_eq] at hb;rcases hb with ((rfl|rfl)|rfl)|rfl <;> rfl
   rw[e1,pS];show(⟨mX _ o.waits (b++[((⟨4,0,s⟩:Cell),o.start+1)]).length,t⟩:iY)=_;rw[hlen1]
  rw[eR];refine⟨⟨Wr hf.Eu 0 _ hX SG hw λ_=>MK hf.Eu 0 hb ?_,λx hx=>hf.ok x (List.mem_cons_of_mem _ hx)⟩,rfl,Oh b o t _ s⟩;rw[SG];rcases hX with ⟨rfl,rfl⟩|⟨rfl,rfl|rfl|rfl⟩|⟨rfl,rfl⟩
  ·cases hb
  all_goals rfl
 have begin0:∀(b:List (Cell×Nat)) (o:Part) (t:List Part),Good ⟨b,o::t⟩->o.kind=dT->o.waits=[]:=λb o t hg hk=>by
  refine List.eq_nil_iff_forall_not_mem.2 λp hp=>?_
  obtain⟨c,_,_,hc,_⟩:=hg.wt.1 p hp;rw[hk] at hc;simp[Ds,dT,mM,fA,eN,iR] at hc
 by_cases h4:(s==jQ||s==jW)=aX
 ·rw[if_pos h4] at hs;simp only[dY,beq_iff_eq] at h4;obtain⟨o,t,he,mO,rfl⟩:=jI hs;obtain⟨b,os⟩:=d;subst he;have ho:o.kind=dT:=by simpa using mO
  exact back b o t dT h (by rcases h4 with rfl|rfl <;> rfl) (.inr (.inl ⟨rfl,by rcases h4 with h4|h4 <;> simp[h4]⟩)) (by rw[ho];rfl) (.inr (begin0 b o t h.Eu ho))
 rw[if_neg h4] at hs;by_cases h5:(s==eN)=aX
 ·rw[if_pos h5] at hs;rw[beq_iff_eq] at h5;subst h5;obtain⟨o,t,he,mO,rfl⟩:=jI hs;obtain⟨b,os⟩:=d;subst he;have ho:o.kind=dT:=by simpa using mO
  refine⟨⟨EB h.Eu 0 ho,λx hx=>?_⟩,?_,?_⟩
  ·rcases List.mem_cons.1 hx with rfl|hx
   ·exact .inr (.inr (.inr (.inl rfl)))
   ·exact h.ok x (List.mem_cons_of_mem _ hx)
  ·simp[settle,fA,mM,iR,dT,eN,kinds,Kx]
  ·simp[settle,fA,mM,iR,dT,eN,cells]
 rw[if_neg h5] at hs;by_cases h6:(s==gB)=aX
 ·rw[if_pos h6] at hs;rw[beq_iff_eq] at h6;obtain⟨o,t,he,mO,rfl⟩:=jI hs;obtain⟨b,os⟩:=d;subst he;have ho:o.kind=eN:=by simpa using mO
  exact back b o t dT h (by rw[h6];rfl) (.inr (.inl ⟨rfl,.inr (.inr h6)⟩)) (by rw[ho];rfl) (.inl (.inr (.inr (.inl ⟨ho,h6⟩))))
 rw[if_neg h6] at hs;by_cases h7:(s==eK)=aX
 ·rw[if_pos h7] at hs;rw[beq_iff_eq] at h7;obtain⟨o,t,he,mO,rfl⟩:=jI hs;obtain⟨b,os⟩:=d;subst he;have ho:o.kind=iR:=by simpa using mO
  exact back b o t iR h (by rw[h7];rfl) (.inr (.inr ⟨rfl,h7⟩)) (by rw[ho];rfl) (.inl (.inr (.inr (.inr ⟨ho,h7⟩))))
 rw[if_neg h7] at hs;have plain:settle ⟨d.body++[(⟨4,0,s⟩,0)],d.opens⟩ s d.body.length=⟨d.body++[(⟨4,0,s⟩,0)],d.opens⟩->(s=wI\/s=sW\/s=kX)->kinds d=o1->
  Jo (settle ⟨d.body++[(⟨4,0,s⟩,0)],d.opens⟩ s d.body.length)/\kinds (settle ⟨d.body++[(⟨4,0,s⟩,0)],d.opens⟩ s d.body.length)=o1/\cells (settle ⟨d.body++[(⟨4,0,s⟩,0)],d.opens⟩ s d.body.length)=cells d++[⟨4,0,s⟩]:=by
  intro he hi hk;rw[he];exact⟨⟨Wv h.Eu (.inr hi),h.ok⟩,hk,by simp[cells]⟩
 by_cases h8:(s==wI||s==fD)=aX
 ·rw[if_pos h8] at hs;by_cases mO:(kinds d).any (λb=>b==iR)=aX
  ·rw[if_pos mO] at hs;injection hs with hs;simp only[dY,beq_iff_eq] at h8;rcases h8 with rfl|rfl
   ·exact plain rfl (.inl rfl) hs
   ·have Cd:∃o∈d.opens,o.kind=iR:=by
     rw[List.any_eq_true] at mO;obtain⟨x,hx,he⟩:=mO;unfold kinds at hx;rw[List.mem_map] at hx;obtain⟨o,ho,hk⟩:=hx;exact⟨o,List.mem_reverse.1 ho,by rw[hk];simpa using he⟩
    refine⟨⟨EH h.Eu 0 Cd λo ho=>typ_do (h.ok o ho),λx hx=>?_⟩,?_,?_⟩
    ·have hx:x.kind∈(fM d.opens d.body.length).map (·.kind):=List.mem_map_of_mem hx;rw[yZ,List.mem_map] at hx;obtain⟨y,hy,he⟩:=hx;rw[<-he];exact h.ok y hy
    ·rw[<-hs];show List.map _ (List.reverse (fM d.opens d.body.length))=List.map _ (List.reverse d.opens);rw[List.map_reverse,List.map_reverse,yZ]
    ·simp[settle,fA,mM,iR,dT,eN,fD,cells]
  ·rw[if_neg mO] at hs;cases hs
 rw[if_neg h8] at hs;by_cases h9:(s==kX||s==sW||s==[39])=aX
 ·rw[if_pos h9] at hs;injection hs with hs;simp only[dY,beq_iff_eq] at h9;rcases h9 with (rfl|rfl)|rfl
  ·exact plain rfl (.inr (.inr rfl)) hs
  ·exact plain rfl (.inr (.inl rfl)) hs
  ·exact(ht rfl).elim
 ·rw[if_neg h9] at hs;cases hs
theorem add_plain (h:Jo d)(c:Cell)(hc:c.kind≠4):Jo (add d c)/\kinds (add d c)=kinds d/\cells (add d c)=cells d++[c]:=by
 have uN:add d c=⟨d.body++[(c,0)],d.opens⟩:=if_neg hc;rw[uN];exact⟨⟨Wv h.Eu (.inl hc),h.ok⟩,rfl,by simp[cells]⟩
variable {p g:Nat}
theorem Sq (h:Jo d)(ho:d.opens=[]){c:Cell}(hb:d.body[p]?=aE (c,g))(hk:c.kind=4)(hf:(fwd c.name||bwd c.name)=aX):g=goal (cells d) p c.name:=by
 rcases h.Eu.se p c g hb hk with ⟨o,hm,_⟩|h1
 ·rw[ho] at hm;simp at hm
 ·have:=h1 [] hf;rwa[List.append_nil] at this
end N
namespace N
open Go.RowKit
def UI (c:Cell):Int:=if c.kind=4 then(if c.name==iR then 1 else if c.name==eK then -1 else 0) else 0
def dc (l:List Cell) (p:Nat):Int:=((l.take p).map UI).sum
variable {p:Nat}
theorem rB (l m:List Cell)(h:p<=l.length):dc (l++m) p=dc l p:=by
 unfold dc;rw[List.take_append_of_le_length h]
variable {l:List Cell}
theorem Be {c:Cell}(h:l[p]?=aE c):dc l (p+1)=dc l p+UI c:=by
 unfold dc;obtain⟨hp,he⟩:=bI.1 h;rw[dF hp,List.map_append,List.sum_append,he];simp
theorem Ji (l:List Cell)(c:Cell):dc (l++[c]) (l.length+1)=dc l l.length+UI c:=by
 have h:(l++[c])[l.length]?=aE c:=by rw[bP (bD _),Nat.sub_self];rfl
 rw[Be h,rB _ _ (bD _)]
def ref (l:List Cell) (p:Nat) (b:eE):Int:=if b==iR||b==eK then dc l p else if b==fD then dc l p-1 else dc l (p+1)
theorem kP (l m:List Cell)(b:eE)(h:p+1<=l.length):ref (l++m) p b=ref l p b:=by
 unfold ref;rw[rB l m (by omega),rB l m h]
def inLoop (b:eE):Bool:=b==eK||b==wI||b==fD
def Bl (l:List Cell) (p:Nat) (b:eE) (g:Nat):Prop:=((fwd b||bwd b)=aX->dc l g=ref l p b/\g<=l.length)/\(inLoop b=aX->1<=dc l p)
def one? (k:eE):Int:=if k==iR then 1 else 0
def lP:List Part->Int
 |[]=>0
 |o::t=>one? o.kind+lP t
theorem Bm:∀t,0<=lP t
 |[]=>Int.le_refl 0
 |o::t=>by
  have:=Bm t;unfold lP one?
  split <;> omega
theorem Ks:∀{t:List Part},(∃o∈t,o.kind=iR)->1<=lP t
 |[],⟨_,h,_⟩=>by simp at h
 |o::t,⟨x,hx,hk⟩=>by
  have h0:=Bm t;unfold lP one?;rcases List.mem_cons.1 hx with rfl|hx
  ·rw[hk];simp;omega
  ·have:=Ks ⟨x,hx,hk⟩
   split <;> omega
def WtD (l:List Cell):List Part->Prop
 |[]=>True
 |o::t=>o.start<l.length/\dc l (o.start+1)=lP t+one? o.kind/\(∀p∈o.waits,∃c,l[p]?=aE c/\ref l p c.name=lP t)/\WtD l t
theorem Bb (l m:List Cell):∀t,WtD l t->WtD (l++m) t
 |[],_=>trivial
 |o::t,⟨h1,h2,h3,h4⟩=>by
  refine⟨by rw[bN];omega,by rw[rB l m (by omega)];exact h2,λp hp=>?_,Bb l m t h4⟩;obtain⟨c,hc,hr⟩:=h3 p hp;have eQ:=(bI.1 hc).1;exact⟨c,by rw[bT eQ];exact hc,by rw[kP l m _ (by omega)];exact hr⟩
structure Deep (d:iY):Prop where
 now:dc (cells d) d.body.length=lP d.opens
 wt:WtD (cells d) d.opens
 jump:∀p c g,d.body[p]?=aE (c,g)->c.kind=4->((∃o∈d.opens,p∈o.waits)\/((fwd c.name||bwd c.name)=aX->dc (cells d) g=ref (cells d) p c.name/\g<=d.body.length))/\(inLoop c.name=aX->1<=dc (cells d) p)
theorem UV:Deep ⟨[],[]⟩:=⟨rfl,trivial,λ_ _ _ h=>by simp at h⟩
variable {d:iY}{g:Nat}
theorem Deep.qU (h:Deep d)(c0:Cell){c:Cell}(hb:d.body[p]?=aE (c,g))(hk:c.kind=4):
 ((∃o∈d.opens,p∈o.waits)\/((fwd c.name||bwd c.name)=aX->dc (cells d++[c0]) g=ref (cells d++[c0]) p c.name/\g<=d.body.length+1))/\(inLoop c.name=aX->1<=dc (cells d++[c0]) p):=by
 have eQ:p<(cells d).length:=by
  rw[iH];exact(bI.1 hb).1
 obtain⟨h1,h2⟩:=h.jump p c g hb hk;refine⟨?_,λhi=>by rw[rB _ _ (by omega)];exact h2 hi⟩;rcases h1 with h1|h1
 ·exact .inl h1
 ·refine .inr λhf=>?_
  obtain⟨h3,h4⟩:=h1 hf;rw[kP _ _ _ (by omega),rB _ _ (by rw[iH];exact h4)];exact⟨h3,by omega⟩
theorem Ek (h:Deep d){c:Cell}(hc:c.kind≠4\/c.name=sW\/c.name=kX\/(c.name=wI/\∃o∈d.opens,o.kind=iR)):Deep ⟨d.body++[(c,0)],d.opens⟩:=by
 have hd:UI c=0:=by
  unfold UI;rcases hc with hc|hc|hc|⟨hc,_⟩
  ·exact if_neg hc
  all_goals (rw[hc];split <;> rfl)
 have nQ:cells ⟨d.body++[(c,0)],d.opens⟩=cells d++[c]:=by simp[cells]
 refine⟨?_,?_,λp x g hb hk=>?_⟩
 ·rw[nQ];show dc _ (d.body++[(c,0)]).length=_;rw[bN,<-iH d];show dc _ ((cells d).length+1)=_;rw[Ji,hd,iH,h.now];simp
 ·rw[nQ];exact Bb _ _ _ h.wt
 ·rw[nQ];have hlen:(d.body++[(c,0)]).length=d.body.length+1:=by simp
  rcases hU hb with h1|⟨h1,h2⟩
  ·rw[hlen];exact h.qU c h1 hk
  ·injection h2 with h2 _;subst h2 h1;refine⟨.inr λhf=>?_,λhi=>?_⟩
   ·rcases hc with hc|hc|hc|⟨hc,_⟩
    ·exact(hc hk).elim
    all_goals (rw[hc] at hf;exact absurd hf (by decide))
   ·rcases hc with hc|hc|hc|⟨hc,Cd⟩
    ·exact(hc hk).elim
    ·rw[hc] at hi;exact absurd hi (by decide)
    ·rw[hc] at hi;exact absurd hi (by decide)
    ·rw[<-iH d,rB _ _ (bD _),iH,h.now];exact Ks Cd
variable {X:eE}
theorem Ko (h:Deep d)(w:List Nat)(hX:(X=dT/\w=[])\/((X=mM\/X=iR)/\w=[d.body.length])):Deep ⟨d.body++[(⟨4,0,X⟩,0)],⟨X,d.body.length,w⟩::d.opens⟩:=by
 have nQ:cells ⟨d.body++[(⟨4,0,X⟩,0)],⟨X,d.body.length,w⟩::d.opens⟩=cells d++[⟨4,0,X⟩]:=by simp[cells]
 have hd:UI ⟨4,0,X⟩=one? X:=by rcases hX with ⟨rfl,_⟩|⟨rfl|rfl,_⟩ <;> rfl
 have hlen:(d.body++[((⟨4,0,X⟩:Cell),0)]).length=d.body.length+1:=by simp
 have hnow:dc (cells d++[⟨4,0,X⟩]) (d.body.length+1)=lP d.opens+one? X:=by rw[<-iH d,Ji,hd,iH,h.now]
 have hhere:dc (cells d++[⟨4,0,X⟩]) d.body.length=lP d.opens:=by rw[rB _ _ (by rw[iH];exact bD _),h.now]
 have uM:(cells d++[(⟨4,0,X⟩:Cell)])[d.body.length]?=aE ⟨4,0,X⟩:=by rw[<-iH d,bP (bD _),Nat.sub_self];rfl
 refine⟨?_,⟨?_,?_,?_,?_⟩,λp x g hb hk=>?_⟩
 ·rw[nQ];show dc _ (d.body++[((⟨4,0,X⟩:Cell),0)]).length=one? X+lP d.opens;rw[hlen,hnow];omega
 ·rw[nQ,bN,iH];show d.body.length<d.body.length+1;omega
 ·rw[nQ];exact hnow
 ·intro p hp;rw[nQ];rcases hX with ⟨_,rfl⟩|⟨hx,rfl⟩
  ·simp at hp
  ·rw[dE] at hp;subst hp;refine⟨_,uM,?_⟩;rcases hx with rfl|rfl
   ·show dc _ (d.body.length+1)=_;rw[hnow];show lP d.opens+0=_;omega
   ·exact hhere
 ·rw[nQ];exact Bb _ _ _ h.wt
 ·rw[nQ];rcases hU hb with h1|⟨h1,h2⟩
  ·obtain⟨h3,h4⟩:=h.qU ⟨4,0,X⟩ h1 hk;rw[hlen];refine⟨?_,h4⟩;rcases h3 with ⟨o,ho,hp⟩|h3
   ·exact .inl ⟨o,List.mem_cons_of_mem _ ho,hp⟩
   ·exact .inr h3
  ·injection h2 with h2 _;subst h2;refine⟨?_,λhi=>?_⟩
   ·rcases hX with ⟨rfl,_⟩|⟨_,rfl⟩
    ·exact .inr λhf=>by cases hf
    ·exact .inl ⟨_,eF,by rw[h1];exact dE.2 rfl⟩
   ·rcases hX with ⟨rfl,_⟩|⟨rfl|rfl,_⟩ <;> cases hi
theorem zQ {b:List (Cell×Nat)}{o:Part}{t:List Part}(h:Deep ⟨b,o::t⟩){s:eE}(g0:Nat)(more:List Part)(nM:∀p∈o.waits,p<b.length)(qI:(s=iQ/\one? o.kind=0/\more=[])\/(s=fA/\one? o.kind=0/\more=[⟨fA,b.length,[b.length]⟩])\/((s=jQ\/s=jW\/s=gB)/\one? o.kind=0/\g0=o.start+1/\more=[])\/(s=eK/\one? o.kind=1/\g0=o.start+1/\more=[])):
 Deep ⟨mX (b++[(⟨4,0,s⟩,g0)]) o.waits (b.length+1),more++t⟩:=by
 obtain⟨MZ,R2,hw3,hw4⟩:=h.wt;have Wx:(cells ⟨b,o::t⟩).length=b.length:=iH _;have GF:dc (cells ⟨b,o::t⟩) b.length=one? o.kind+lP t:=h.now;have nQ:cells ⟨mX (b++[(⟨4,0,s⟩,g0)]) o.waits (b.length+1),more++t⟩=cells ⟨b,o::t⟩++[⟨4,0,s⟩]:=by
  show(mX _ _ _).map _=_;rw[oO];simp[cells]
 have hlen:(mX (b++[((⟨4,0,s⟩:Cell),g0)]) o.waits (b.length+1)).length=b.length+1:=by
  have:=oO o.waits (b.length+1) (b++[((⟨4,0,s⟩:Cell),g0)]);have h2:=congrArg List.length this;simpa using h2
 have hd:UI ⟨4,0,s⟩=- one? o.kind:=by
  rcases qI with ⟨rfl,h1,_⟩|⟨rfl,h1,_⟩|⟨rfl|rfl|rfl,h1,_⟩|⟨rfl,h1,_⟩ <;> rw[h1] <;> rfl
 have EM:dc (cells ⟨b,o::t⟩++[⟨4,0,s⟩]) (b.length+1)=lP t:=by
  have:=Ji (cells ⟨b,o::t⟩) ⟨4,0,s⟩;rw[Wx,hd,GF] at this;rw[this];omega
 have Ru:dc (cells ⟨b,o::t⟩++[⟨4,0,s⟩]) b.length=one? o.kind+lP t:=by rw[rB _ _ (by rw[Wx];exact bD _),GF]
 have uM:(cells ⟨b,o::t⟩++[(⟨4,0,s⟩:Cell)])[b.length]?=aE ⟨4,0,s⟩:=by rw[<-Wx,bP (bD _),Nat.sub_self];rfl
 have ak:more=[]\/(s=fA/\one? o.kind=0/\more=[⟨fA,b.length,[b.length]⟩]):=by
  rcases qI with ⟨_,_,h⟩|h|⟨_,_,_,h⟩|⟨_,_,_,h⟩
  ·exact .inl h
  ·exact .inr h
  ·exact .inl h
  ·exact .inl h
 refine⟨?_,?_,λp x g hb hk=>?_⟩
 ·rw[nQ];show dc _ (mX _ _ _).length=_;rw[hlen,EM];rcases ak with rfl|⟨_,_,rfl⟩
  ·rfl
  ·show lP t=0+lP t;omega
 ·rw[nQ];rcases ak with rfl|⟨rfl,h0,rfl⟩
  ·exact Bb _ _ _ hw4
  ·refine⟨by rw[bN,Wx];show b.length<b.length+1;omega,?_,λp hp=>?_,Bb _ _ _ hw4⟩
   ·show dc _ (b.length+1)=lP t+0;rw[EM];omega
   ·rw[dE] at hp;subst hp;exact⟨_,uM,EM⟩
 ·rw[nQ];show(_\/(_->_/\g<=(mX _ _ _).length))/\_;rw[hlen];have lift:(∃o' ∈t,p∈o'.waits)->∃o' ∈more++t,p∈o'.waits:=λ⟨o',h1,h2⟩=>⟨o',List.mem_append_right _ h1,h2⟩
  rcases Ei _ hb with ⟨hm,rfl,g1,fF⟩|⟨hm,fF⟩
  ·have eD:b[p]?=aE (x,g1):=by
    rcases hU fF with h1|⟨h1,_⟩
    ·exact h1
    ·have:=nM p hm;omega
   obtain⟨_,h4⟩:=h.qU ⟨4,0,s⟩ eD hk;refine⟨.inr λ_=>⟨?_,bD _⟩,h4⟩;obtain⟨c,hc,hr⟩:=hw3 p hm;have hx:c=x:=by
    have:(cells ⟨b,o::t⟩)[p]?=aE x:=by simp[cells,eD]
    rw[hc] at this;injection this
   subst hx;rw[EM,kP _ _ _ (by rw[Wx];have:=nM p hm;omega)];exact hr.symm
  ·rcases hU fF with h1|⟨h1,h2⟩
   ·obtain⟨h3,h4⟩:=h.qU ⟨4,0,s⟩ h1 hk;refine⟨?_,h4⟩;rcases h3 with ⟨o',kT,hp⟩|h3
    ·rcases List.mem_cons.1 kT with rfl|kT
     ·exact(hm hp).elim
     ·exact .inl (lift ⟨o',kT,hp⟩)
    ·exact .inr h3
   ·injection h2 with h2 h3;subst h2 h3 h1;refine⟨?_,λhi=>?_⟩
    ·rcases qI with ⟨rfl,_⟩|⟨rfl,_,rfl⟩|⟨hs,h0,rfl,rfl⟩|⟨rfl,h0,rfl,rfl⟩
     ·exact .inr λhf=>by cases hf
     ·exact .inl ⟨_,List.mem_append_left _ (dE.2 rfl),dE.2 rfl⟩
     ·refine .inr λ_=>⟨?_,by omega⟩
      rw[rB _ _ (by rw[Wx] at MZ ⊢;omega),R2,h0];rcases hs with rfl|rfl|rfl
      all_goals (show lP t+0=dc _ (b.length+1);rw[EM];omega)
     ·refine .inr λ_=>⟨?_,by rw[Wx] at MZ;omega⟩
      rw[rB _ _ (by rw[Wx] at MZ ⊢;omega),R2,h0];show lP t+1=dc _ b.length;rw[Ru,h0];omega
    ·have h0:=Bm t;rcases qI with ⟨rfl,_⟩|⟨rfl,_⟩|⟨rfl|rfl|rfl,_⟩|⟨rfl,h1,_⟩
     all_goals first
      |(cases hi;done)
      |(rw[Ru,h1];omega)
end N
namespace N
open Go.RowKit
theorem ER {b:List (Cell×Nat)}{o:Part}{t:List Part}(h:Deep ⟨b,o::t⟩)(ho:o.kind=dT)(Te:o.waits=[]):Deep ⟨b++[(⟨4,0,eN⟩,0)],⟨eN,o.start,[b.length]⟩::t⟩:=by
 obtain⟨MZ,R2,_,hw4⟩:=h.wt;have Wx:(cells ⟨b,o::t⟩).length=b.length:=iH _;have hk0:one? o.kind=0:=by rw[ho];rfl
 have GF:dc (cells ⟨b,o::t⟩) b.length=one? o.kind+lP t:=h.now;have nQ:cells ⟨b++[(⟨4,0,eN⟩,0)],⟨eN,o.start,[b.length]⟩::t⟩=cells ⟨b,o::t⟩++[⟨4,0,eN⟩]:=by simp[cells]
 have hlen:(b++[((⟨4,0,eN⟩:Cell),0)]).length=b.length+1:=by simp
 have EM:dc (cells ⟨b,o::t⟩++[⟨4,0,eN⟩]) (b.length+1)=lP t:=by
  have:=Ji (cells ⟨b,o::t⟩) ⟨4,0,eN⟩;rw[Wx,GF,hk0] at this;rw[this];show 0+lP t+0=_;omega
 have uM:(cells ⟨b,o::t⟩++[(⟨4,0,eN⟩:Cell)])[b.length]?=aE ⟨4,0,eN⟩:=by rw[<-Wx,bP (bD _),Nat.sub_self];rfl
 refine⟨?_,⟨?_,?_,λp hp=>?_,?_⟩,λp x g hb hk=>?_⟩
 ·rw[nQ];show dc _ (b++[((⟨4,0,eN⟩:Cell),0)]).length=0+lP t;rw[hlen,EM];omega
 ·rw[nQ,bN];show o.start<_;omega
 ·rw[nQ];show dc _ (o.start+1)=lP t+0;rw[rB _ _ (by omega),R2,hk0]
 ·rw[nQ];rw[dE] at hp;subst hp;exact⟨_,uM,EM⟩
 ·rw[nQ];exact Bb _ _ _ hw4
 ·rw[nQ];show(_\/(_->_/\g<=(b++[((⟨4,0,eN⟩:Cell),0)]).length))/\_;rw[hlen];rcases hU hb with h1|⟨h1,h2⟩
  ·obtain⟨h3,h4⟩:=h.qU ⟨4,0,eN⟩ h1 hk;refine⟨?_,h4⟩;rcases h3 with ⟨o',kT,hp⟩|h3
   ·rcases List.mem_cons.1 kT with rfl|kT
    ·rw[Te] at hp;simp at hp
    ·exact .inl ⟨o',List.mem_cons_of_mem _ kT,hp⟩
   ·exact .inr h3
  ·injection h2 with h2 _;subst h2;exact⟨.inl ⟨_,eF,by rw[h1];exact dE.2 rfl⟩,λhi=>by cases hi⟩
theorem yM (q:Nat):∀t,lP (fM t q)=lP t
 |[]=>rfl
 |o::t=>by
  unfold fM
  split
  ·rfl
  ·show one? o.kind+_=one? o.kind+_;rw[yM q t]
variable {l:List Cell}
theorem Wz:∀(t:List Part),WtD l t->dc l l.length=lP t->WtD (l++[⟨4,0,fD⟩]) (fM t l.length)
 |[],_,_=>trivial
 |o::t,⟨h1,h2,h3,h4⟩,hn=>by
  have hold:∀p∈o.waits,∃c,(l++[(⟨4,0,fD⟩:Cell)])[p]?=aE c/\ref (l++[⟨4,0,fD⟩]) p c.name=lP t:=λp hp=>by
   obtain⟨c,hc,hr⟩:=h3 p hp;have eQ:=(bI.1 hc).1;exact⟨c,by rw[bT eQ];exact hc,by rw[kP _ _ _ (by omega)];exact hr⟩
  unfold fM
  split
  ·rename_i ho
   refine⟨by rw[bN];show o.start<_;omega,by show dc _ (o.start+1)=_;rw[rB _ _ (by omega)];exact h2,λp hp=>?_,Bb _ _ _ h4⟩;rcases List.mem_append.1 hp with hp|hp
   ·exact hold p hp
   ·rw[dE] at hp;subst hp;refine⟨⟨4,0,fD⟩,by rw[bP (bD _),Nat.sub_self];rfl,?_⟩;show dc _ l.length-1=_;rw[rB _ _ (bD _),hn];show one? o.kind+lP t-1=lP t;unfold one?;rw[if_pos ho];omega
  ·rename_i ho
   refine⟨by rw[bN];omega,by rw[rB _ _ (by omega),yM];exact h2,λp hp=>?_,Wz t h4 ?_⟩
   ·rw[yM];exact hold p hp
   ·rw[hn];show one? o.kind+lP t=lP t;unfold one?;rw[if_neg ho];omega
variable {d:iY}
theorem CX (h:Deep d)(ho:∃o∈d.opens,o.kind=iR):Deep ⟨d.body++[(⟨4,0,fD⟩,0)],fM d.opens d.body.length⟩:=by
 have Wx:(cells d).length=d.body.length:=iH _;have nQ:cells ⟨d.body++[(⟨4,0,fD⟩,0)],fM d.opens d.body.length⟩=cells d++[⟨4,0,fD⟩]:=by simp[cells]
 have hlen:(d.body++[((⟨4,0,fD⟩:Cell),0)]).length=d.body.length+1:=by simp
 refine⟨?_,?_,λp x g hb hk=>?_⟩
 ·rw[nQ];show dc _ (d.body++[((⟨4,0,fD⟩:Cell),0)]).length=lP (fM d.opens d.body.length);rw[hlen,yM];have:=Ji (cells d) ⟨4,0,fD⟩;rw[Wx,h.now] at this;rw[this];show lP d.opens+0=_;omega
 ·rw[nQ];have:=Wz d.opens h.wt (by rw[Wx];exact h.now);rwa[Wx] at this
 ·rw[nQ];show(_\/(_->_/\g<=(d.body++[((⟨4,0,fD⟩:Cell),0)]).length))/\_;rw[hlen];rcases hU hb with h1|⟨h1,h2⟩
  ·obtain⟨h3,h4⟩:=h.qU ⟨4,0,fD⟩ h1 hk;refine⟨?_,h4⟩;rcases h3 with h3|h3
   ·exact .inl (Du h3)
   ·exact .inr h3
  ·injection h2 with h2 _;subst h2 h1;refine⟨.inl (Dn ho),λ_=>?_⟩;rw[rB _ _ (by rw[Wx];exact bD _),h.now];exact Ks ho
theorem P7 (hf:Jo d)(h:Deep d)(s:eE)(o1:List eE)(hs:stands (kinds d) s=aE o1)(ht:s≠[39]):Deep (add d ⟨4,0,s⟩):=by
 have uN:add d ⟨4,0,s⟩=settle ⟨d.body++[(⟨4,0,s⟩,0)],d.opens⟩ s d.body.length:=if_pos rfl;rw[uN];clear uN;have nM:∀o∈d.opens,∀t,d.opens=o::t->∀p∈o.waits,p<d.body.length:=λo _ t he p hp=>by
  have hw:=hf.Eu.wt;rw[he] at hw;obtain⟨c,hc,_⟩:=hw.1 p hp;have:=(bI.1 hc).1;rwa[iH] at this
 unfold stands at hs;by_cases h1:(s==mM||s==dT||s==iR)=aX
 ·simp only[dY,beq_iff_eq] at h1;rcases h1 with (rfl|rfl)|rfl
  ·exact Ko h _ (.inr ⟨.inl rfl,rfl⟩)
  ·exact Ko h _ (.inl ⟨rfl,rfl⟩)
  ·exact Ko h _ (.inr ⟨.inr rfl,rfl⟩)
 rw[if_neg h1] at hs;by_cases h2:(s==fA)=aX
 ·rw[if_pos h2] at hs;rw[beq_iff_eq] at h2;subst h2;obtain⟨o,t,he,mO,rfl⟩:=jI hs;have hk:o.kind=mM:=by simpa using mO
  have hi:=nM o (by rw[he];exact eF) t he;obtain⟨b,os⟩:=d;simp only at he;subst he;have:=zQ h 0 (s:=fA) [⟨fA,b.length,[b.length]⟩] hi (.inr (.inl ⟨rfl,by rw[hk];rfl,rfl⟩));simpa[settle,shut,fA,mM,iR,dT] using this
 rw[if_neg h2] at hs;by_cases h3:(s==iQ)=aX
 ·rw[if_pos h3] at hs;rw[beq_iff_eq] at h3;subst h3;obtain⟨o,t,he,mO,rfl⟩:=jI hs;have hk:o.kind=mM\/o.kind=fA:=by simpa using mO
  have hi:=nM o (by rw[he];exact eF) t he;obtain⟨b,os⟩:=d;simp only at he;subst he;have:=zQ h 0 (s:=iQ) [] hi (.inl ⟨rfl,by rcases hk with e|e <;> rw[e] <;> rfl,rfl⟩);simpa[settle,shut,iQ,fA,mM,iR,dT,eN,fD,jQ,jW,gB,eK] using this
 rw[if_neg h3] at hs;have back:∀(b:List (Cell×Nat)) (o:Part) (t:List Part),bwd s=aX->Deep ⟨mX (b++[(⟨4,0,s⟩,o.start+1)]) o.waits (b.length+1),[]++t⟩->Deep (settle ⟨b++[(⟨4,0,s⟩,0)],o::t⟩ s b.length):=by
  intro b o t hb hd;have e1:settle ⟨b++[(⟨4,0,s⟩,0)],o::t⟩ s b.length=shut ⟨qK (b++[(⟨4,0,s⟩,0)]) b.length (o.start+1),o::t⟩:=by
   unfold bwd at hb;simp only[dY,beq_iff_eq] at hb;rcases hb with ((rfl|rfl)|rfl)|rfl <;> rfl
  rw[e1,Kv];show Deep ⟨mX _ o.waits (b++[((⟨4,0,s⟩:Cell),o.start+1)]).length,t⟩;rw[bN];exact hd
 by_cases h4:(s==jQ||s==jW)=aX
 ·rw[if_pos h4] at hs;simp only[dY,beq_iff_eq] at h4;obtain⟨o,t,he,mO,rfl⟩:=jI hs;have hk:o.kind=dT:=by simpa using mO
  have hi:=nM o (by rw[he];exact eF) t he;obtain⟨b,os⟩:=d;simp only at he;subst he;exact back b o t (by rcases h4 with rfl|rfl <;> rfl) (zQ h (o.start+1) [] hi (.inr (.inr (.inl ⟨by rcases h4 with h4|h4 <;> simp[h4],by rw[hk];rfl,rfl,rfl⟩))))
 rw[if_neg h4] at hs;by_cases h5:(s==eN)=aX
 ·rw[if_pos h5] at hs;rw[beq_iff_eq] at h5;subst h5;obtain⟨o,t,he,mO,rfl⟩:=jI hs;have hk:o.kind=dT:=by simpa using mO
  obtain⟨b,os⟩:=d;simp only at he;subst he;have Te:o.waits=[]:=by
   refine List.eq_nil_iff_forall_not_mem.2 λp hp=>?_
   obtain⟨c,_,_,hc,_⟩:=hf.Eu.wt.1 p hp;rw[hk] at hc;simp[Ds,dT,mM,fA,eN,iR] at hc
  exact ER h hk Te
 rw[if_neg h5] at hs;by_cases h6:(s==gB)=aX
 ·rw[if_pos h6] at hs;rw[beq_iff_eq] at h6;obtain⟨o,t,he,mO,rfl⟩:=jI hs;have hk:o.kind=eN:=by simpa using mO
  have hi:=nM o (by rw[he];exact eF) t he;obtain⟨b,os⟩:=d;simp only at he;subst he;exact back b o t (by rw[h6];rfl) (zQ h (o.start+1) [] hi (.inr (.inr (.inl ⟨.inr (.inr h6),by rw[hk];rfl,rfl,rfl⟩))))
 rw[if_neg h6] at hs;by_cases h7:(s==eK)=aX
 ·rw[if_pos h7] at hs;rw[beq_iff_eq] at h7;obtain⟨o,t,he,mO,rfl⟩:=jI hs;have hk:o.kind=iR:=by simpa using mO
  have hi:=nM o (by rw[he];exact eF) t he;obtain⟨b,os⟩:=d;simp only at he;subst he;exact back b o t (by rw[h7];rfl) (zQ h (o.start+1) [] hi (.inr (.inr (.inr ⟨h7,by rw[hk];rfl,rfl,rfl⟩))))
 rw[if_neg h7] at hs;by_cases h8:(s==wI||s==fD)=aX
 ·rw[if_pos h8] at hs;by_cases mO:(kinds d).any (λb=>b==iR)=aX
  ·have Cd:∃o∈d.opens,o.kind=iR:=by
    rw[List.any_eq_true] at mO;obtain⟨x,hx,he⟩:=mO;unfold kinds at hx;rw[List.mem_map] at hx;obtain⟨o,ho,hk⟩:=hx;exact⟨o,List.mem_reverse.1 ho,by rw[hk];simpa using he⟩
   simp only[dY,beq_iff_eq] at h8;rcases h8 with rfl|rfl
   ·exact Ek h (.inr (.inr (.inr ⟨rfl,Cd⟩)))
   ·exact CX h Cd
  ·rw[if_neg mO] at hs;cases hs
 rw[if_neg h8] at hs;by_cases h9:(s==kX||s==sW||s==[39])=aX
 ·simp only[dY,beq_iff_eq] at h9;rcases h9 with (rfl|rfl)|rfl
  ·exact Ek h (.inr (.inr (.inl rfl)))
  ·exact Ek h (.inr (.inl rfl))
  ·exact(ht rfl).elim
 ·rw[if_neg h9] at hs;cases hs
theorem Dh (h:Deep d)(c:Cell)(hc:c.kind≠4):Deep (add d c):=by
 have uN:add d c=⟨d.body++[(c,0)],d.opens⟩:=if_neg hc;rw[uN];exact Ek h (.inl hc)
variable {p g:Nat}
theorem Rt (h:Deep d)(ho:d.opens=[]){c:Cell}(hb:d.body[p]?=aE (c,g))(hk:c.kind=4):Bl (cells d) p c.name g:=by
 obtain⟨h1,h2⟩:=h.jump p c g hb hk;refine⟨λhf=>?_,h2⟩;rcases h1 with ⟨o,hm,_⟩|h1
 ·rw[ho] at hm;simp at hm
 ·have:=h1 hf;rw[iH];exact this
end N
inductive Own where
 |defn (b:Nat)
 |qW (b:Nat)
 |cons (name:List UInt8) (t n:Int)
 |mark (name:List UInt8) (t:Int)
def iW:Own->aG
 |.defn b=>bO 122 (aK (aE ⟨b,0,aC⟩))
 |.qW b=>bO 124 (aK (aE ⟨b,0,aC⟩))
 |.cons nm t n=>bO 130 (bM #[aI ⟨nm.toArray⟩,aH aF t,aH aF n])
 |.mark nm t=>bO 132 (bM #[aI ⟨nm.toArray⟩,aH aF t])
def fB (wv:List Own) (x:N.Cell×Nat):aG:=
 if x.1.kind=1 then bO 117 (aH aF x.1.n)
 else if x.1.kind=2 then((wv[x.1.n.toNat]?).map iW).getD .nilIface
 else if x.1.kind=3 then((L.find x.1.name).map λp=>bO 120 (dD p)).getD .nilIface
 else bO 196 (bM #[aI ⟨x.1.name.toArray⟩,aH aF x.2])
def lI (all:List N.iM) (j:Nat) (c:N.Cell):Prop:=
 (c.kind=1/\dQ c.n)\/(c.kind=2/\∃k e,c.n=(k:Nat)/\k<j/\all[k]?=aE e/\e.ended=aX)\/(c.kind=3/\(L.find c.name).isSome=aX)\/(c.kind=4/\N.inner c.name=aX)
def rZ (w:aY) (wv:List Own) (j:Nat) (e:N.iM):Own->Prop
 |.defn b=>e.kind=1/\∃(vB:aG) (body:List (N.Cell×Nat)),w.heap[b]?=aE (aU #[aI ⟨e.name.toArray⟩,aH aF (1000+(j:Int)),vB] 180)/\
   w.ownsRow 0 107 1 vB body.length (body.map (fB wv))/\body.map (·.1)=e.body/\body.length<=60/\∀p c g,body[p]?=aE (c,g)->c.kind=4->((N.fwd c.name||N.bwd c.name)=aX->g=N.goal e.body p c.name)/\N.Bl e.body p c.name g
 |.qW b=>e.kind=2/\dQ e.n/\w.heap[b]?=aE (aU #[aI ⟨e.name.toArray⟩,aH aF (1000+(j:Int)),aH aF e.n] 129)
 |.cons nm t n=>e.kind=3/\dQ e.n/\nm=e.name/\t=1000+(j:Int)/\n=e.n
 |.mark nm t=>e.kind=4/\nm=e.name/\t=1000+(j:Int)
def dN (all:List N.iM) (wv:List Own):List aG:=((all.zip wv).filter λp=>N.there p.1).map λp=>iW p.2
structure jE (w:aY) (all:List N.iM) (wv:List Own) (vO vB:aG):Prop where
 len:wv.length=all.length
 begun:vB=aH aF (all.length:Int)
 row:w.ownsRow 0 62 1 vO (dN all wv).length (dN all wv)
 tA:∀j e o,all[j]?=aE e->wv[j]?=aE o->e.ended=aX->rZ w wv j e o
 ok:∀j e,all[j]?=aE e->e.ended=aX->∀c∈e.body,lI all j c
 vI:(dN all wv).length<=40
 apart:∀(i j b:Nat),wv[i]?=aE (Own.qW b)->wv[j]?=aE (Own.qW b)->i=j
 qU:all.length<=1000000000000
 VP:∀(j b:Nat),wv[j]?=aE (Own.qW b)->∃e,all[j]?=aE e/\e.ended=aX
def oV (w:aY) (k:Nat):Prop:=∃cs t fr,w.heap[k]?=aE (aU cs t fr)/\(t=180\/t=129\/t=107\/t=62)
variable {w:aY}{e n k:Nat}{v:aG}{xs:List aG}
theorem nK (h:w.ownsRow 0 e 1 v n xs)(he:e=107\/e=62)(hk:v.ownBlock=aE k):oV w k:=by
 obtain⟨cur,hc⟩:=cZ h hk;exact⟨cur,e,_,hc,by rcases he with h|h <;> simp[h]⟩
variable {w' :aY}{wv:List Own}{j:Nat}
theorem rZ.kept {e:N.iM}{o:Own}(h:rZ w wv j e o)(hk:∀k,oV w k->w'.heap[k]?=w.heap[k]?):rZ w' wv j e o:=by
 cases o with
 |defn b=>
  obtain⟨h0,vB,body,h1,h2,h3⟩:=h;exact⟨h0,vB,body,(hk b ⟨_,_,_,h1,.inl rfl⟩).trans h1,cK h2 λk e=>hk k (nK h2 (.inl rfl) e),h3⟩
 |qW b=>exact⟨h.1,h.2.1,(hk b ⟨_,_,_,h.2.2,.inr (.inl rfl)⟩).trans h.2.2⟩
 |cons nm t n=>exact h
 |mark nm t=>exact h
variable {all:List N.iM}{vO vB:aG}
theorem jE.kept (h:jE w all wv vO vB)(hk:∀k,oV w k->w'.heap[k]?=w.heap[k]?):jE w' all wv vO vB where
 len:=h.len
 begun:=h.begun
 row:=cK h.row λk e=>hk k (nK h.row (.inr rfl) e)
 tA:=λj e o h1 h2 h3=>(h.tA j e o h1 h2 h3).kept hk
 ok:=h.ok
 vI:=h.vI
 apart:=h.apart
 qU:=h.qU
 VP:=h.VP
theorem kH (h:oV w k):k<w.heap.size:=by
 obtain⟨_,_,_,h,_⟩:=h;exact cC h
theorem jE.below (h:jE w all wv vO vB)(hb:bA w.heap.size w w'):jE w' all wv vO vB:=
 h.kept λk hk=>hb.block k (kH hk)
variable {mb rb:Nat}{vW vS vR vT:aG}{s:L.gJ}
theorem jC (h:eV w mb rb vO vB vW vS vR vT s)(hk:oV w k):¬kZ mb rb vS vR vT k:=by
 obtain⟨cs,t,fr,hc,ht⟩:=hk;have key:∀{YT :Array aG} {t' :TypeId} {fr' :Nat×Nat},w.heap[k]?=aE (aU YT t' fr')->t' =t:=λh' =>by
  rw[hc] at h';injection h' with h';injection h' with _ h' _;exact h'.symm
 rintro(rfl|rfl|e|e|e)
 ·have:=key h.m;subst this
  revert ht
  decide
 ·have:=key h.r;subst this
  revert ht
  decide
 ·obtain⟨_,h'⟩:=cZ h.st e;have:=key h';subst this
  revert ht
  decide
 ·obtain⟨_,h'⟩:=cZ h.Fv e;have:=key h';subst this
  revert ht
  decide
 ·obtain⟨_,h'⟩:=cZ h.ot e;have:=key h';subst this
  revert ht
  decide
theorem jE.mv {vO1 vB1:aG}(h:jE w all wv vO vB)(hr:eV w mb rb vO1 vB1 vW vS vR vT s)(hm:Mv (kZ mb rb vS vR vT) w w'):jE w' all wv vO vB:=
 h.kept λk hk=>hm.block k (kH hk) (jC hr hk)
def Lq (wv:List Own) (k:Nat):Prop:=∃j:Nat,wv[j]?=aE (Own.qW k)
def iO (mb rb:Nat) (vO vS vR vT:aG) (wv:List Own):Nat->Prop:=λk=>kZ mb rb vS vR vT k\/Lq wv k\/vO.ownBlock=aE k
def fR (s:L.gJ) (all:List N.iM):N.cE:=⟨all,s.S,s.R,s.out,s.steps⟩
def gU (mb rb:Nat) (vO vB vW vS vR vT:aG) (wv:List Own) (s:L.gJ) (m:N.cE) (code:Int) (w w' :aY):Prop:=
 ∃oJ v1 v2 v3 s',eV w' mb rb oJ vB vW v1 v2 v3 s' /\jE w' m.all wv oJ vB/\Mv (iO mb rb vO vS vR vT wv) w w' /\dG w (iO mb rb vO vS vR vT wv) (iO mb rb oJ v1 v2 v3 wv)/\
  s'.words=s.words/\s'.pos=s.pos/\s'.depth=s.depth/\s'.out=m.out/\(code=0->s'.S=m.S/\s'.R=m.R/\s'.steps=m.steps)
section
attribute [local go_sem ↓] Go.wp_at_zero Go.wp_at_succ
theorem Al {a b:aG}(h:a=b):aM a=aM b:=by rw[h]
def uZ (w:aY) (o:Own) (nm:List UInt8) (tok:Int):Prop:=
 match o with
 |.defn b=>∃v,w.heap[b]?=aE (aU #[aI ⟨nm.toArray⟩,aH aF tok,v] 180)
 |.qW b=>∃v,w.heap[b]?=aE (aU #[aI ⟨nm.toArray⟩,aH aF tok,v] 129)
 |.cons n t _=>n=nm/\t=tok
 |.mark n t=>n=nm/\t=tok
theorem uZ.below {o:Own}{nm:List UInt8}{tok:Int}(h:uZ w o nm tok)(hb:bA w.heap.size w w'):uZ w' o nm tok:=by
 cases o with
 |defn b=>
  obtain⟨v,h⟩:=h;exact⟨v,(hb.block b (cC h)).trans h⟩
 |qW b=>
  obtain⟨v,h⟩:=h;exact⟨v,(hb.block b (cC h)).trans h⟩
 |cons n t x=>exact h
 |mark n t=>exact h
theorem rZ.head {e:N.iM}{o:Own}(h:rZ w wv j e o):uZ w o e.name (1000+(j:Int)):=by
 cases o with
 |defn b=>
  obtain⟨_,vB,_,h1,_⟩:=h;exact⟨vB,h1⟩
 |qW b=>exact⟨_,h.2.2⟩
 |cons n t x=>exact⟨h.2.2.1,h.2.2.2.1⟩
 |mark n t=>exact⟨h.2.1,h.2.2⟩
theorem pG {o:Own}{nm:List UInt8}{tok:Int}(h:uZ w o nm tok):∃T v,iW o=bO T v/\
 (∀F:Nat,(method (F+1) T v "Name").run aQ w=.ok (171,bM #[aI ⟨nm.toArray⟩,aH aF tok]) w)/\
 (∀F:Nat,(method (F+1) T v "Token").run aQ w=.ok (65,bM #[aI ⟨nm.toArray⟩,aH aF tok]) w):=by
 cases o with
 |defn b=>
  obtain⟨x,h⟩:=h;have c0:=cq 0 h rfl;have c1:=cq 1 h rfl;refine⟨_,_,rfl,λF=>?_,λF=>?_⟩
  ·rw[show(method (F+1) 122 (aK (aE ⟨b,0,aC⟩)) "Name").run aQ w=(do let v <-loadVar 127 ⟨b,0,aC⟩;pure (171,v):Sem (FuncId×aG)).run aQ w by kernel_rfl]
   simp[go_sem,c0,c1]
  ·rw[show(method (F+1) 122 (aK (aE ⟨b,0,aC⟩)) "Token").run aQ w=(do let v <-loadVar 127 ⟨b,0,aC⟩;pure (65,v):Sem (FuncId×aG)).run aQ w by kernel_rfl]
   simp[go_sem,c0,c1]
 |qW b=>
  obtain⟨x,h⟩:=h;have c0:=cq 0 h rfl;have c1:=cq 1 h rfl;refine⟨_,_,rfl,λF=>?_,λF=>?_⟩
  ·rw[show(method (F+1) 124 (aK (aE ⟨b,0,aC⟩)) "Name").run aQ w=(do let v <-loadVar 127 ⟨b,0,aC⟩;pure (171,v):Sem (FuncId×aG)).run aQ w by kernel_rfl]
   simp[go_sem,c0,c1]
  ·rw[show(method (F+1) 124 (aK (aE ⟨b,0,aC⟩)) "Token").run aQ w=(do let v <-loadVar 127 ⟨b,0,aC⟩;pure (65,v):Sem (FuncId×aG)).run aQ w by kernel_rfl]
   simp[go_sem,c0,c1]
 |cons n t x=>
  obtain⟨rfl,rfl⟩:=h;exact⟨_,_,rfl,λF=>by kernel_rfl,λF=>by kernel_rfl⟩
 |mark n t=>
  obtain⟨rfl,rfl⟩:=h;exact⟨_,_,rfl,λF=>by kernel_rfl,λF=>by kernel_rfl⟩
structure r7 where
 o:Own
 nm:List UInt8
 tok:Int
def tD (os:List r7) (name:List UInt8):Nat->Option Own
 |0=>aC
 |i+1=>match os[i]? with
  |some r=>if r.nm==name then aE r.o else tD os name i
  |none=>tD os name i
def Yy:Option Own->aG
 |none=>.nilIface
 |some o=>iW o
theorem B6 (w:aY)(mb g cap:Nat)(os:List r7)(s:ByteArray)(h2:w.cell? ⟨mb,2,aC⟩=aE (aJ (aE ⟨g,0,aC⟩) os.length cap))(hn:os.length<=40)(hg:∀j r,os[j]?=aE r->w.cell? ⟨g,j,aC⟩=aE (iW r.o)/\uZ w r.o r.nm r.tok):
 bH aQ 30 #[aK (aE ⟨mb,0,aC⟩),aI s] w λe w' =>e=aM (Yy (tD os s.data.toList os.length))/\bA w.heap.size w w' :=by
 have HG:=bE hg;have hz:=eG h2;clear hg;generalize Ru:os.length=n at*;go_enter func30,ntmps30;go_wp2
 go_loopw [5] (λi wr=>∃k:Nat,k<=n/\i=aH aF ((k:Int)-1)/\bA w.heap.size w wr/\tD os s.data.toList k=tD os s.data.toList n) (λi _=>match i with|aH _ k=>(k+1).toNat|_=>0)
 case atStart=>exact⟨n,bD _,rfl,bF _ _,rfl⟩
 case round=>
  obtain⟨k,hk,rfl,hb,hl⟩:=hrel;have d2:wr.cell? ⟨mb,2,aC⟩=aE (aJ (aE ⟨g,0,aC⟩) n cap):=((eI hb).1 mb 2 hz).trans h2;cases k with
  |zero=>
   have HB:=bE hb;have HL:=bE hl;clear hb hl;go_wp2;go_ret;refine⟨Al ?_,aN HB⟩;rw[<-aN HL];rfl
  |succ k=>
   have eQ:k<os.length:=by omega
   obtain⟨r,hr⟩:∃r,os[k]?=aE r:=⟨_,bL eQ⟩
   obtain⟨hc,hh⟩:=aN HG k r hr;obtain⟨T,v,hv,hm,_⟩:=pG (hh.below hb);rw[hv] at hc;have c3:wr.cell? ⟨g,k,aC⟩=aE (bO T v):=((eI hb).1 g k (eG hc)).trans hc;have lC:tD os s.data.toList (k+1)=if r.nm==s.data.toList then aE r.o else tD os s.data.toList k:=by
    show(match os[k]? with|some r=>if r.nm==s.data.toList then aE r.o else tD os s.data.toList k|none=>tD os s.data.toList k)=_;rw[hr]
   rw[lC] at hl;have xJ:s.toList=s.data.toList:=Go.ByteArray.toList_eq s;have HL:=bE hl;have HB:=bE hb;have HV:=bE hv;have HS:=bE xJ;clear hl hb lC hc hh hv xJ eQ hr;have e1:((k+1:Nat):Int)-1=(k:Int):=by omega
   rw[e1];have da2:∀o,(wr.alloc o).cell? ⟨mb,2,aC⟩=aE (aJ (aE ⟨g,0,aC⟩) n cap):=λo=>bJ d2 o
   have da3:∀o,(wr.alloc o).cell? ⟨g,k,aC⟩=aE (bO T v):=λo=>bJ c3 o
   have k1:(k:Int)<(n:Int):=by omega
   cases hq:(r.nm==s.data.toList) with
   |true=>
    have hq' :(r.nm==s.toList)=aX:=by rw[aN HS];exact hq
    have uP:=bE ((eJ hq).symm.trans (aN HL));clear hq HL;go_wp2;go_ret;refine⟨Al ?_,(aN HB).alloc (aN HB).size _⟩;rw[<-aN uP];exact(aN HV).symm
   |false=>
    have hq' :(r.nm==s.toList)=aV:=by rw[aN HS];exact hq
    have uP:=bE ((dL (by rw[hq];exact Bool.false_ne_true)).symm.trans (aN HL));clear hq HL;go_wp2;refine⟨⟨k,by omega,rfl,(aN HB).alloc (aN HB).size _,?_⟩,?_⟩
    ·exact aN uP
    ·show((k:Int)-1+1).toNat<((k:Int)+1).toNat;omega
end
theorem gn {b:Bool}(h:b=aX):aM (bB b)=aM (bB aX):=by rw[h]
theorem rS (s:ByteArray)(w:aY):
 bH aQ 68 #[aI s] w λe w' =>e=aM (bB (L.fJ s.toList))/\w' =w:=by
 go_enter func68,ntmps68;go_wp2;all_goals
  go_ret;refine⟨?_,rfl⟩;first
   |(simp only[L.fJ,L.wR,List.any_cons,List.any_nil,Bool.or_false,Bool.false_or,Bool.true_or, *];rfl)
   |(exfalso;simp_all;done)
theorem v6 (r:Nat)(w:aY)(h:r<=1114111):
 bH aQ 44 #[aH .i32 r] w λe w' =>e=aM (bB (L.qM r))/\w' =w:=by
 go_enter func44,ntmps44;go_wp2;all_goals
  go_ret;refine⟨mD ?_,rfl⟩;unfold L.qM;rw[Bool.eq_iff_iff];simp;omega
theorem V1 (w:aY):PredAtRunes aQ 44 #[] L.qM w:=by
 intro W x hx _;refine(v6 x W hx).mono ?_;rintro e w' ⟨rfl,rfl⟩;exact⟨rfl,0,rfl⟩
theorem JU (s:ByteArray)(w:aY)(hs:s.size<=4294967296):
 bH aQ 26 #[aI s] w λe w' =>∃v,e=aM v/\w'.ownsRow w.heap.size 9 1 v (L.split s.data.toList).length ((L.split s.data.toList).map λl=>aI ⟨l.toArray⟩)/\bA w.heap.size w w' :=by
 go_enter func26,ntmps26;go_wp2_with fail
 refine(Tryz.strings_FieldsFunc_runes 44 #[] (λ_ _=>rfl) L.qM s _ hs (V1 _)).mono ?_;rintro e w' ⟨B,rfl,hB,fK,tX⟩;go_wp2;go_ret;rw[L.Ml] at fK;refine⟨_,rfl,?_,tX⟩;show w'.ownsRow w.heap.size 9 1 (aJ (aE ⟨B,0,aC⟩) (Lib.goFieldsP L.qM s).length (Lib.goFieldsP L.qM s).length) _ _;rw[L.Ml];simpa only[dO,List.map_map,Function.comp_def] using fK
theorem Wa (s:ByteArray)(k:Nat)(h:k<s.size):s.data.toList.take (k+1)=s.data.toList.take k++[s[k]]:=by
 rw[dF (by simpa using h)];rfl
theorem Lr {l:List UInt8}{p:UInt8->Bool}(h:(l.take k).all p=aV):l.all p=aV:=by
 rw[<-List.take_append_drop k l,List.all_append,h];rfl
theorem E6 (s d:ByteArray)(neg:Bool)(res:Option Int)(w:aY)(HT:Hid ((⟨(Lib.trimPrefix s.data.toList (⟨#[45]⟩:ByteArray).data.toList).toArray⟩:ByteArray)=d))(HN:Hid (Lib.hasPrefix s.data.toList (⟨#[45]⟩:ByteArray).data.toList=neg))(HR:Hid (res=if d.data.toList.length=0\/18<d.data.toList.length\/d.data.toList.all L.isDigit=aV then aC else aE (if neg then -(L.kS d.data.toList:Int) else L.kS d.data.toList))):
 bH aQ 70 #[aI s] w λe w' =>e=aM (bC #[aH aF (res.getD 0),bB res.isSome])/\w' =w:=by
 have HS:=bE (Lib.size_eq d);have yP:d.toList=d.data.toList:=Go.ByteArray.toList_eq d;by_cases h0:d.size=0
 ·have hb:(d.toList==[])=aX:=by rw[yP];simp[dU.1 ((aN HS).symm.trans h0)]
  have rN:=bE (show res=aC by rw[aN HR,eJ (.inl ((aN HS).symm.trans h0))]);clear h0 yP;go_enter func70,ntmps70;go_wp2_with fail
  refine(Tryz.strings_CutPrefix s ⟨#[45]⟩ _).mono ?_;rintro e w' ⟨rfl,rfl⟩;rw[aN HT,aN HN];go_wp2;go_ret2;exact⟨tQ (by rw[aN rN];rfl) (by rw[aN rN];rfl),rfl⟩
 ·have hb:(d.toList==[])=aV:=by
   rw[yP,beq_eq_false_iff_ne];intro h;rw[aN HS,h] at h0;exact h0 rfl
  clear h0 yP;by_cases ZE:18<d.size
  ·have rN:=bE (show res=aC by rw[aN HR,eJ (.inr (.inl (by rw[<-aN HS];exact ZE)))]);go_enter func70,ntmps70;go_wp2_with fail
   refine(Tryz.strings_CutPrefix s ⟨#[45]⟩ _).mono ?_;rintro e w' ⟨rfl,rfl⟩;rw[aN HT,aN HN];go_wp2;go_ret2;exact⟨tQ (by rw[aN rN];rfl) (by rw[aN rN];rfl),rfl⟩
  ·have hle:d.size<=18:=by omega
   clear ZE;go_enter func70,ntmps70;go_wp2_with fail
   refine(Tryz.strings_CutPrefix s ⟨#[45]⟩ _).mono ?_;rintro e w' ⟨rfl,rfl⟩;rw[aN HT,aN HN];go_wp2
   go_loop [6,23] (λn i=>∃k:Nat,k<=d.size/\i=aH aF k/\n=aH aF (L.kS (d.data.toList.take k))/\(d.data.toList.take k).all L.isDigit=aX) (λ_ i=>d.size-(intOf i).toNat)
   case atStart=>exact⟨0,bZ _,rfl,rfl,rfl⟩
   case round=>
    obtain⟨k,hk,rfl,rfl,kA⟩:=hrel;by_cases eQ:k<d.size
    ·have Et:=Wa d k eQ;have Jl:=L.tU _ kA;have TI:=L.Si (d.data.toList.take k).length (by rw[dH];omega);have hsm:(L.kS (d.data.toList.take k):Int)<=99999999999999999:=by omega
     have hc:d[k].toNat<256:=UInt8.toNat_lt d[k];have Jm:((d[k].toNat:Int)<48\/57<(d[k].toNat:Int))->res=aC:=λhx=>by
      rw[aN HR,eJ];refine .inr (.inr (Lr (k:=k+1) ?_));rw[Et,List.all_append,kA];have:L.isDigit d[k]=aV:=by
       unfold L.isDigit;rw[Bool.and_eq_false_iff,decide_eq_false_iff_not,decide_eq_false_iff_not];omega
      simp[this]
     have uS:(48<=(d[k].toNat:Int)/\(d[k].toNat:Int)<=57)->(L.kS (d.data.toList.take k):Int)*10+((d[k].toNat:Int)-48)=(L.kS (d.data.toList.take (k+1)):Int)/\(d.data.toList.take (k+1)).all L.isDigit=aX:=λhx=>by
      rw[Et,L.Do,List.all_append,kA];have:L.isDigit d[k]=aX:=by
       unfold L.isDigit;rw[Bool.and_eq_true,decide_eq_true_eq,decide_eq_true_eq];omega
      refine⟨by omega,by simp[this]⟩
     have Np:=bE Jm;have Cb:=bE uS;clear Jl TI kA Et Jm uS;go_wp2;all_goals first
      |(go_ret2;exact⟨tQ (by rw[aN Np (by omega)];rfl) (by rw[aN Np (by omega)];rfl),rfl⟩)
      |exact⟨⟨k+1,by omega,by go_num,by rw[(aN Cb (by omega)).1],(aN Cb (by omega)).2⟩,by simp[intOf];omega⟩
    ·have r4:d.data.toList.take k=d.data.toList:=eB (by rw[<-aN HS];omega);rw[r4] at kA;rw[r4];have Jl:=L.tU _ kA;have TI:=L.m8 d.data.toList.length (by rw[<-aN HS];omega);have hsm:(L.kS d.data.toList:Int)<=999999999999999999:=by omega
     have rN:=bE (show res=aE (if neg then -(L.kS d.data.toList:Int) else L.kS d.data.toList) by
      rw[aN HR,dL];rintro(h|h|h)
      ·rw[beq_eq_false_iff_ne] at hb;exact hb (by rw[Go.ByteArray.toList_eq];exact dU.1 h)
      ·rw[<-aN HS] at h;omega
      ·rw[kA] at h;cases h)
     clear Jl TI kA r4;go_wp2;all_goals go_ret2
     ·exact⟨tQ (by rw[aN rN];simp[*]) (by rw[aN rN];rfl),rfl⟩
     ·exact⟨tQ (by rw[aN rN];simp[*]) (by rw[aN rN];rfl),rfl⟩
theorem Gj (s:ByteArray)(w:aY):
 bH aQ 70 #[aI s] w λe w' =>e=aM (bC #[aH aF ((L.number s.data.toList).getD 0),bB (L.number s.data.toList).isSome])/\w' =w:=by
 refine E6 s ⟨(Lib.trimPrefix s.data.toList [45]).toArray⟩ (Lib.hasPrefix s.data.toList [45]) (L.number s.data.toList) w (bE rfl) (bE rfl) (bE ?_);unfold L.number;rfl
theorem fg (w:aY):bH aQ 69 #[aI ⟨#[43]⟩] w λe w' =>e=aM (bC #[dD ⟨[43],2,0,0⟩,bB aX])/\bA w.heap.size w w' :=by
 go_enter func69,ntmps69;go_wp2;exact bodyPost_ret (v:=bC #[dD ⟨[43],2,0,0⟩,bB aX]) (by simp[results,results69,go_sem,dD]) rfl ⟨rfl,(bF _ _).alloc (bD _) _⟩
theorem fs (w:aY):bH aQ 69 #[aI ⟨#[45]⟩] w λe w' =>e=aM (bC #[dD ⟨[45],2,0,0⟩,bB aX])/\bA w.heap.size w w' :=by
 go_enter func69,ntmps69;go_wp2;exact bodyPost_ret (v:=bC #[dD ⟨[45],2,0,0⟩,bB aX]) (by simp[results,results69,go_sem,dD]) rfl ⟨rfl,(bF _ _).alloc (bD _) _⟩
theorem gf (w:aY):bH aQ 69 #[aI ⟨#[42]⟩] w λe w' =>e=aM (bC #[dD ⟨[42],2,0,0⟩,bB aX])/\bA w.heap.size w w' :=by
 go_enter func69,ntmps69;go_wp2;exact bodyPost_ret (v:=bC #[dD ⟨[42],2,0,0⟩,bB aX]) (by simp[results,results69,go_sem,dD]) rfl ⟨rfl,(bF _ _).alloc (bD _) _⟩
theorem fa (w:aY):bH aQ 69 #[aI ⟨#[47]⟩] w λe w' =>e=aM (bC #[dD ⟨[47],2,0,0⟩,bB aX])/\bA w.heap.size w w' :=by
 go_enter func69,ntmps69;go_wp2;exact bodyPost_ret (v:=bC #[dD ⟨[47],2,0,0⟩,bB aX]) (by simp[results,results69,go_sem,dD]) rfl ⟨rfl,(bF _ _).alloc (bD _) _⟩
theorem gg (w:aY):bH aQ 69 #[aI ⟨#[109,111,100]⟩] w λe w' =>e=aM (bC #[dD ⟨[109,111,100],2,0,0⟩,bB aX])/\bA w.heap.size w w' :=by
 go_enter func69,ntmps69;go_wp2;exact bodyPost_ret (v:=bC #[dD ⟨[109,111,100],2,0,0⟩,bB aX]) (by simp[results,results69,go_sem,dD]) rfl ⟨rfl,(bF _ _).alloc (bD _) _⟩
theorem fc (w:aY):bH aQ 69 #[aI ⟨#[61]⟩] w λe w' =>e=aM (bC #[dD ⟨[61],2,0,0⟩,bB aX])/\bA w.heap.size w w' :=by
 go_enter func69,ntmps69;go_wp2;exact bodyPost_ret (v:=bC #[dD ⟨[61],2,0,0⟩,bB aX]) (by simp[results,results69,go_sem,dD]) rfl ⟨rfl,(bF _ _).alloc (bD _) _⟩
theorem fi (w:aY):bH aQ 69 #[aI ⟨#[60]⟩] w λe w' =>e=aM (bC #[dD ⟨[60],2,0,0⟩,bB aX])/\bA w.heap.size w w' :=by
 go_enter func69,ntmps69;go_wp2;exact bodyPost_ret (v:=bC #[dD ⟨[60],2,0,0⟩,bB aX]) (by simp[results,results69,go_sem,dD]) rfl ⟨rfl,(bF _ _).alloc (bD _) _⟩
theorem fx (w:aY):bH aQ 69 #[aI ⟨#[62]⟩] w λe w' =>e=aM (bC #[dD ⟨[62],2,0,0⟩,bB aX])/\bA w.heap.size w w' :=by
 go_enter func69,ntmps69;go_wp2;exact bodyPost_ret (v:=bC #[dD ⟨[62],2,0,0⟩,bB aX]) (by simp[results,results69,go_sem,dD]) rfl ⟨rfl,(bF _ _).alloc (bD _) _⟩
theorem ft (w:aY):bH aQ 69 #[aI ⟨#[97,110,100]⟩] w λe w' =>e=aM (bC #[dD ⟨[97,110,100],2,0,0⟩,bB aX])/\bA w.heap.size w w' :=by
 go_enter func69,ntmps69;go_wp2;exact bodyPost_ret (v:=bC #[dD ⟨[97,110,100],2,0,0⟩,bB aX]) (by simp[results,results69,go_sem,dD]) rfl ⟨rfl,(bF _ _).alloc (bD _) _⟩
theorem fy (w:aY):bH aQ 69 #[aI ⟨#[111,114]⟩] w λe w' =>e=aM (bC #[dD ⟨[111,114],2,0,0⟩,bB aX])/\bA w.heap.size w w' :=by
 go_enter func69,ntmps69;go_wp2;exact bodyPost_ret (v:=bC #[dD ⟨[111,114],2,0,0⟩,bB aX]) (by simp[results,results69,go_sem,dD]) rfl ⟨rfl,(bF _ _).alloc (bD _) _⟩
theorem XP (w:aY):bH aQ 69 #[aI ⟨#[120,111,114]⟩] w λe w' =>e=aM (bC #[dD ⟨[120,111,114],2,0,0⟩,bB aX])/\bA w.heap.size w w' :=by
 go_enter func69,ntmps69;go_wp2;exact bodyPost_ret (v:=bC #[dD ⟨[120,111,114],2,0,0⟩,bB aX]) (by simp[results,results69,go_sem,dD]) rfl ⟨rfl,(bF _ _).alloc (bD _) _⟩
theorem XR (w:aY):bH aQ 69 #[aI ⟨#[110,111,116]⟩] w λe w' =>e=aM (bC #[dD ⟨[110,111,116],1,0,0⟩,bB aX])/\bA w.heap.size w w' :=by
 go_enter func69,ntmps69;go_wp2;exact bodyPost_ret (v:=bC #[dD ⟨[110,111,116],1,0,0⟩,bB aX]) (by simp[results,results69,go_sem,dD]) rfl ⟨rfl,(bF _ _).alloc (bD _) _⟩
theorem WF (w:aY):bH aQ 69 #[aI ⟨#[100,117,112]⟩] w λe w' =>e=aM (bC #[dD ⟨[100,117,112],1,0,1⟩,bB aX])/\bA w.heap.size w w' :=by
 go_enter func69,ntmps69;go_wp2;exact bodyPost_ret (v:=bC #[dD ⟨[100,117,112],1,0,1⟩,bB aX]) (by simp[results,results69,go_sem,dD]) rfl ⟨rfl,(bF _ _).alloc (bD _) _⟩
theorem WY (w:aY):bH aQ 69 #[aI ⟨#[100,114,111,112]⟩] w λe w' =>e=aM (bC #[dD ⟨[100,114,111,112],1,0,1⟩,bB aX])/\bA w.heap.size w w' :=by
 go_enter func69,ntmps69;go_wp2;exact bodyPost_ret (v:=bC #[dD ⟨[100,114,111,112],1,0,1⟩,bB aX]) (by simp[results,results69,go_sem,dD]) rfl ⟨rfl,(bF _ _).alloc (bD _) _⟩
theorem XE (w:aY):bH aQ 69 #[aI ⟨#[62,114]⟩] w λe w' =>e=aM (bC #[dD ⟨[62,114],1,0,1⟩,bB aX])/\bA w.heap.size w w' :=by
 go_enter func69,ntmps69;go_wp2;exact bodyPost_ret (v:=bC #[dD ⟨[62,114],1,0,1⟩,bB aX]) (by simp[results,results69,go_sem,dD]) rfl ⟨rfl,(bF _ _).alloc (bD _) _⟩
theorem WQ (w:aY):bH aQ 69 #[aI ⟨#[115,119,97,112]⟩] w λe w' =>e=aM (bC #[dD ⟨[115,119,97,112],2,0,1⟩,bB aX])/\bA w.heap.size w w' :=by
 go_enter func69,ntmps69;go_wp2;exact bodyPost_ret (v:=bC #[dD ⟨[115,119,97,112],2,0,1⟩,bB aX]) (by simp[results,results69,go_sem,dD]) rfl ⟨rfl,(bF _ _).alloc (bD _) _⟩
theorem XW (w:aY):bH aQ 69 #[aI ⟨#[111,118,101,114]⟩] w λe w' =>e=aM (bC #[dD ⟨[111,118,101,114],2,0,1⟩,bB aX])/\bA w.heap.size w w' :=by
 go_enter func69,ntmps69;go_wp2;exact bodyPost_ret (v:=bC #[dD ⟨[111,118,101,114],2,0,1⟩,bB aX]) (by simp[results,results69,go_sem,dD]) rfl ⟨rfl,(bF _ _).alloc (bD _) _⟩
theorem XN (w:aY):bH aQ 69 #[aI ⟨#[114,111,116]⟩] w λe w' =>e=aM (bC #[dD ⟨[114,111,116],3,0,1⟩,bB aX])/\bA w.heap.size w w' :=by
 go_enter func69,ntmps69;go_wp2;exact bodyPost_ret (v:=bC #[dD ⟨[114,111,116],3,0,1⟩,bB aX]) (by simp[results,results69,go_sem,dD]) rfl ⟨rfl,(bF _ _).alloc (bD _) _⟩
theorem WC (w:aY):bH aQ 69 #[aI ⟨#[114,62]⟩] w λe w' =>e=aM (bC #[dD ⟨[114,62],0,1,1⟩,bB aX])/\bA w.heap.size w w' :=by
 go_enter func69,ntmps69;go_wp2;exact bodyPost_ret (v:=bC #[dD ⟨[114,62],0,1,1⟩,bB aX]) (by simp[results,results69,go_sem,dD]) rfl ⟨rfl,(bF _ _).alloc (bD _) _⟩
theorem XQ (w:aY):bH aQ 69 #[aI ⟨#[114,64]⟩] w λe w' =>e=aM (bC #[dD ⟨[114,64],0,1,1⟩,bB aX])/\bA w.heap.size w w' :=by
 go_enter func69,ntmps69;go_wp2;exact bodyPost_ret (v:=bC #[dD ⟨[114,64],0,1,1⟩,bB aX]) (by simp[results,results69,go_sem,dD]) rfl ⟨rfl,(bF _ _).alloc (bD _) _⟩
theorem WV (w:aY):bH aQ 69 #[aI ⟨#[100,101,112,116,104]⟩] w λe w' =>e=aM (bC #[dD ⟨[100,101,112,116,104],0,0,1⟩,bB aX])/\bA w.heap.size w w' :=by
 go_enter func69,ntmps69;go_wp2;exact bodyPost_ret (v:=bC #[dD ⟨[100,101,112,116,104],0,0,1⟩,bB aX]) (by simp[results,results69,go_sem,dD]) rfl ⟨rfl,(bF _ _).alloc (bD _) _⟩
theorem WJ (w:aY):bH aQ 69 #[aI ⟨#[46]⟩] w λe w' =>e=aM (bC #[dD ⟨[46],1,0,2⟩,bB aX])/\bA w.heap.size w w' :=by
 go_enter func69,ntmps69;go_wp2;exact bodyPost_ret (v:=bC #[dD ⟨[46],1,0,2⟩,bB aX]) (by simp[results,results69,go_sem,dD]) rfl ⟨rfl,(bF _ _).alloc (bD _) _⟩
theorem XU (w:aY):bH aQ 69 #[aI ⟨#[101,109,105,116]⟩] w λe w' =>e=aM (bC #[dD ⟨[101,109,105,116],1,0,2⟩,bB aX])/\bA w.heap.size w w' :=by
 go_enter func69,ntmps69;go_wp2;exact bodyPost_ret (v:=bC #[dD ⟨[101,109,105,116],1,0,2⟩,bB aX]) (by simp[results,results69,go_sem,dD]) rfl ⟨rfl,(bF _ _).alloc (bD _) _⟩
theorem XK (w:aY):bH aQ 69 #[aI ⟨#[99,114]⟩] w λe w' =>e=aM (bC #[dD ⟨[99,114],0,0,2⟩,bB aX])/\bA w.heap.size w w' :=by
 go_enter func69,ntmps69;go_wp2;exact bodyPost_ret (v:=bC #[dD ⟨[99,114],0,0,2⟩,bB aX]) (by simp[results,results69,go_sem,dD]) rfl ⟨rfl,(bF _ _).alloc (bD _) _⟩
theorem XD (w:aY):bH aQ 69 #[aI ⟨#[64]⟩] w λe w' =>e=aM (bC #[dD ⟨[64],1,0,3⟩,bB aX])/\bA w.heap.size w w' :=by
 go_enter func69,ntmps69;go_wp2;exact bodyPost_ret (v:=bC #[dD ⟨[64],1,0,3⟩,bB aX]) (by simp[results,results69,go_sem,dD]) rfl ⟨rfl,(bF _ _).alloc (bD _) _⟩
theorem XS (w:aY):bH aQ 69 #[aI ⟨#[101,120,101,99,117,116,101]⟩] w λe w' =>e=aM (bC #[dD ⟨[101,120,101,99,117,116,101],1,0,3⟩,bB aX])/\bA w.heap.size w w' :=by
 go_enter func69,ntmps69;go_wp2;exact bodyPost_ret (v:=bC #[dD ⟨[101,120,101,99,117,116,101],1,0,3⟩,bB aX]) (by simp[results,results69,go_sem,dD]) rfl ⟨rfl,(bF _ _).alloc (bD _) _⟩
theorem WE (w:aY):bH aQ 69 #[aI ⟨#[33]⟩] w λe w' =>e=aM (bC #[dD ⟨[33],2,0,3⟩,bB aX])/\bA w.heap.size w w' :=by
 go_enter func69,ntmps69;go_wp2;exact bodyPost_ret (v:=bC #[dD ⟨[33],2,0,3⟩,bB aX]) (by simp[results,results69,go_sem,dD]) rfl ⟨rfl,(bF _ _).alloc (bD _) _⟩
theorem PL (p:L.Prim)(hp:p∈L.oY++L.sV)(w:aY):
 bH aQ 69 #[aI ⟨p.name.toArray⟩] w λe w' =>e=aM (bC #[dD p,bB aX])/\bA w.heap.size w w' :=by
 simp only[L.oY,L.sV,List.cons_append,List.nil_append,List.mem_cons,dR,or_false] at hp;rcases hp with rfl|rfl|rfl|rfl|rfl|rfl|rfl|rfl|rfl|rfl|rfl|rfl|rfl|rfl|rfl|rfl|rfl|rfl|rfl|rfl|rfl|rfl|rfl|rfl|rfl|rfl|rfl
 ·exact fg w
 ·exact fs w
 ·exact gf w
 ·exact fa w
 ·exact gg w
 ·exact fc w
 ·exact fi w
 ·exact fx w
 ·exact ft w
 ·exact fy w
 ·exact XP w
 ·exact XR w
 ·exact WF w
 ·exact WY w
 ·exact XE w
 ·exact WQ w
 ·exact XW w
 ·exact XN w
 ·exact WC w
 ·exact XQ w
 ·exact WV w
 ·exact WJ w
 ·exact XU w
 ·exact XK w
 ·exact XD w
 ·exact XS w
 ·exact WE w
theorem JK (s:ByteArray)(w:aY)(h:L.find s.toList=aC):
 bH aQ 69 #[aI s] w λe w' =>e=aM (bC #[bM #[aI ⟨#[]⟩,aH aF 0,aH aF 0,aH aF 0],bB aV])/\bA w.heap.size w w' :=by
 simp only[L.find,L.oY,L.sV,List.cons_append,List.nil_append,List.find?_eq_none,List.mem_cons,dR,or_false,forall_eq_or_imp,forall_eq,Bool.not_eq_true] at h;obtain⟨h0,h1,h2,h3,h4,h5,h6,h7,h8,h9,h10,h11,NH,h13,h14,h15,h16,h17,ZE,h19,h20,h21,h22,h23,h24,h25,h26⟩:=h;go_enter func69,ntmps69;go_wp2;exact bodyPost_ret (v:=bC #[bM #[aI ⟨#[]⟩,aH aF 0,aH aF 0,aH aF 0],bB aV]) (by simp[results,results69,go_sem]) rfl ⟨rfl,(bF _ _).alloc (bD _) _⟩
theorem I7 (s:ByteArray)(w:aY):
 bH aQ 69 #[aI s] w λe w' =>e=aM (bC #[((L.find s.data.toList).map dD).getD (bM #[aI ⟨#[]⟩,aH aF 0,aH aF 0,aH aF 0]),bB (L.find s.data.toList).isSome])/\bA w.heap.size w w' :=by
 have hl:s.toList=s.data.toList:=Go.ByteArray.toList_eq s;cases hf:L.find s.data.toList with
 |none=>exact JK s w (by rw[hl];exact hf)
 |some p=>
  have hm:=List.mem_of_find?_eq_some hf;have hn:=List.find?_some hf;have hs:s=⟨p.name.toArray⟩:=by
   apply ByteArray.ext;rw[beq_iff_eq] at hn;rw[<-hn]
  subst hs;exact PL p hm w
theorem Ri (w:aY)(mb:Nat)(s:ByteArray)(h2:w.cell? ⟨mb,2,aC⟩=aE (aJ aC 0 0)):
 bH aQ 30 #[aK (aE ⟨mb,0,aC⟩),aI s] w λe w' =>e=aM .nilIface/\w' =w:=by
 go_enter func30,ntmps30;go_wp2
 go_loop [5] (λi=>i=aH aF (-1)) (λ_=>0)
 case atStart=>rfl
 case round=>
  obtain rfl:=hrel;go_wp2;go_ret;exact⟨rfl,rfl⟩
theorem c7 {a b:aG}(h:a=b):aM a=aM b:=by rw[h]
def nI (l:List UInt8):aG:=
 match L.find l with
 |some p=>bO 120 (dD p)
 |none=>match L.number l with
  |some n=>bO 117 (aH aF n)
  |none=>.nilIface
theorem VD (w:aY)(mb:Nat)(s:ByteArray)(h2:w.cell? ⟨mb,2,aC⟩=aE (aJ aC 0 0))(hb:L.fJ s.data.toList=aV):
 bH aQ 53 #[aK (aE ⟨mb,0,aC⟩),aI s] w λe w' =>e=aM (nI s.data.toList)/\bA w.heap.size w w' :=by
 have hl:s.toList=s.data.toList:=Go.ByteArray.toList_eq s;have Hb:=bE hb;have Hl:=bE hl;have H2:=bE h2;clear hb hl;go_enter func53,ntmps53;go_wp2_with fail
 refine(rS s _).mono ?_;rintro e w' ⟨rfl,rfl⟩;rw[aN Hl,aN Hb];go_wp2_with fail
 refine(Ri _ mb s (aN H2)).mono ?_;rintro e w' ⟨rfl,rfl⟩;go_wp2_with fail
 refine(I7 s _).mono ?_;rintro e w1 ⟨rfl,fF⟩;cases hf:L.find s.data.toList with
 |some p=>
  have hm:nI s.data.toList=bO 120 (dD p):=by unfold nI;rw[hf]
  have Hm:=bE hm;clear hm hf;simp only[Option.map_some,Option.getD_some,Option.isSome_some,dD];go_wp2;go_ret;exact⟨c7 (by rw[aN Hm];rfl),fF.alloc fF.size _⟩
 |none=>
  simp only[Option.map_none,Option.getD_none,Option.isSome_none];go_wp2_with fail
  refine(Gj s _).mono ?_;rintro e w2 ⟨rfl,rfl⟩;cases hn:L.number s.data.toList with
  |some n=>
   have hm:nI s.data.toList=bO 117 (aH aF n):=by unfold nI;rw[hf,hn]
   have Hm:=bE hm;clear hm hf hn;simp only[Option.getD_some,Option.isSome_some];go_wp2;go_ret;exact⟨c7 (by rw[aN Hm];rfl),fF.alloc fF.size _⟩
  |none=>
   have hm:nI s.data.toList=.nilIface:=by unfold nI;rw[hf,hn]
   have Hm:=bE hm;clear hm hf hn;simp only[Option.getD_none,Option.isSome_none];go_wp2;go_ret;exact⟨c7 (by rw[aN Hm];rfl),fF.alloc fF.size _⟩
section
attribute [local go_sem ↓] Go.wp_at_zero Go.wp_at_succ
theorem CB (w:aY)(mb g cap:Nat)(os:List r7)(t:Int)(h2:w.cell? ⟨mb,2,aC⟩=aE (aJ (aE ⟨g,0,aC⟩) os.length cap))(hn:os.length<=40)(hg:∀j r,os[j]?=aE r->w.cell? ⟨g,j,aC⟩=aE (iW r.o)/\uZ w r.o r.nm r.tok):
 bH aQ 101 #[aK (aE ⟨mb,0,aC⟩),aH aF t] w λe w' =>e=aM (Yy ((os.find? λr=>r.tok==t).map (·.o)))/\bA w.heap.size w w' :=by
 have HG:=bE hg;clear hg;generalize Ru:os.length=n at*;go_enter func101,ntmps101;go_wp2
 go_loopw [12] (λi wr=>∃k:Nat,k<=n/\i=aH aF k/\bA w.heap.size w wr/\(os.drop k).find? (λr=>r.tok==t)=os.find? (λr=>r.tok==t)) (λi _=>match i with|aH _ k=>n-k.toNat|_=>0)
 case atStart=>exact⟨0,bZ _,rfl,bF _ _,rfl⟩
 case round=>
  obtain⟨k,hk,rfl,hb,hl⟩:=hrel;by_cases Mp:k<n
  ·have eQ:k<os.length:=by omega
   obtain⟨r,hr⟩:∃r,os[k]?=aE r:=⟨_,bL eQ⟩
   obtain⟨hc,hh⟩:=aN HG k r hr;obtain⟨T,v,hv,_,hm⟩:=pG (hh.below hb);rw[hv] at hc;have c3:wr.cell? ⟨g,k,aC⟩=aE (bO T v):=((eI hb).1 g k (eG hc)).trans hc;have hd:os.drop k=r::os.drop (k+1):=by
    rw[List.drop_eq_getElem_cons eQ];rw[bL eQ] at hr;injection hr with hr;rw[hr]
   rw[hd,List.find?_cons] at hl;have HL:=bE hl;have HB:=bE hb;have HV:=bE hv;clear hl hb hc hh hv eQ hr hd;have k1:(k:Int)<(n:Int):=by omega
   cases hq:(r.tok==t) with
   |true=>
    have uP:=bE (show aE r=os.find? (λr=>r.tok==t) from by have:=aN HL;rw[hq] at this;exact this);clear HL;go_wp2;go_ret;refine⟨Al ?_,(aN HB).alloc (aN HB).size _⟩;rw[<-aN uP];exact(aN HV).symm
   |false=>
    have uP:=bE (show(os.drop (k+1)).find? (λr=>r.tok==t)=os.find? (λr=>r.tok==t) from by have:=aN HL;rw[hq] at this;exact this);clear HL;go_wp2;refine⟨⟨k+1,by omega,by simp,(aN HB).alloc (aN HB).size _,aN uP⟩,?_⟩;show n-((k:Int)+1).toNat<n-(k:Int).toNat;omega
  ·have HB:=bE hb;have HL:=bE (show aC=os.find? (λr=>r.tok==t) from by rw[<-hl,List.drop_eq_nil_of_le (by omega)];rfl);clear hb hl;have k1:¬(k:Int)<(n:Int):=by omega
   go_wp2;go_ret;refine⟨Al ?_,aN HB⟩;rw[<-aN HL];rfl
theorem LQ (w:aY)(mb:Nat)(t:Int)(h2:w.cell? ⟨mb,2,aC⟩=aE (aJ aC 0 0)):
 bH aQ 101 #[aK (aE ⟨mb,0,aC⟩),aH aF t] w λe w' =>e=aM .nilIface/\w' =w:=by
 go_enter func101,ntmps101;go_wp2
 go_loop [12] (λi=>i=aH aF 0) (λ_=>0)
 case atStart=>rfl
 case round=>
  obtain rfl:=hrel;go_wp2;go_ret;exact⟨rfl,rfl⟩
def gV:Nat->List N.iM->List Own->List r7
 |j,e::t,o::u=>if N.there e then⟨o,e.name,1000+(j:Int)⟩::gV (j+1) t u else gV (j+1) t u
 |_,_,_=>[]
def pT (all:List N.iM) (wv:List Own):List r7:=gV 0 all wv
theorem Lu:∀(all:List N.iM) (wv:List Own) (j:Nat),dN all wv=(gV j all wv).map λr=>iW r.o
 |[],_,_=>rfl
 |_::_,[],_=>rfl
 |e::t,o::u,j=>by
  have ih:=Lu t u (j+1);unfold dN at ih ⊢;rw[List.zip_cons_cons,List.filter_cons,gV];show List.map _ (if N.there e=aX then _ else _)=_
  split
  ·rw[List.map_cons,List.map_cons,ih]
  ·exact ih
theorem nH (all:List N.iM)(wv:List Own):dN all wv=(pT all wv).map λr=>iW r.o:=Lu all wv 0
theorem Ii:∀(all:List N.iM) (wv:List Own) (j:Nat) (r:r7),r∈gV j all wv->∃i e,all[i]?=aE e/\wv[i]?=aE r.o/\N.there e=aX/\r.nm=e.name/\r.tok=1000+((j+i:Nat):Int)
 |[],_,_,_,h=>by simp[gV] at h
 |_::_,[],_,_,h=>by simp[gV] at h
 |e::t,o::u,j,r,h=>by
  rw[gV] at h;have tail:r∈gV (j+1) t u->∃i e',(e::t)[i]?=aE e' /\(o::u)[i]?=aE r.o/\N.there e' =aX/\r.nm=e'.name/\r.tok=1000+((j+i:Nat):Int):=λh=>by
   obtain⟨i,e',h1,h2,h3,h4,h5⟩:=Ii t u (j+1) r h;exact⟨i+1,e',h1,h2,h3,h4,by rw[h5];omega⟩
  split at h
  ·rename_i ht
   rcases List.mem_cons.1 h with rfl|h
   ·exact⟨0,e,rfl,rfl,ht,rfl,by simp⟩
   ·exact tail h
  ·exact tail h
theorem Ez:∀(all:List N.iM) (wv:List Own) (j:Nat) (e:N.iM) (o:Own),wv.length=all.length->gV j (all++[e]) (wv++[o])=gV j all wv++(if N.there e then[⟨o,e.name,1000+((j+all.length:Nat):Int)⟩] else[])
 |[],[],j,e,o,_=>by simp[gV]
 |[],_::_,_,_,_,h=>by simp at h
 |_::_,[],_,_,_,h=>by simp at h
 |a::t,b::u,j,e,o,h=>by
  have ih:=Ez t u (j+1) e o (by simpa using h);rw[List.cons_append,List.cons_append,gV,gV,ih,cX,show j+1+t.length=j+(t.length+1) by omega];by_cases ha:N.there a=aX
  ·rw[eJ ha,eJ ha];rfl
  ·rw[dL ha,dL ha]
theorem Ra (os os' :List r7)(name:List UInt8):∀i,i<=os.length->tD (os++os') name i=tD os name i
 |0,_=>rfl
 |i+1,h=>by
  unfold tD;rw[bT (by omega),Ra os os' name i (by omega)]
theorem AC (os:List r7)(r:r7)(name:List UInt8):tD (os++[r]) name (os++[r]).length=if r.nm==name then aE r.o else tD os name os.length:=by
 rw[bN,List.length_singleton,tD,bP (bD _),Nat.sub_self];simp only[List.getElem?_cons_zero,Ra os [r] name os.length (bD _)]
theorem Lp (all:List N.iM)(wv:List Own)(name:List UInt8)(hl:wv.length=all.length):∀n,n<=all.length->
 tD (pT (all.take n) (wv.take n)) name (pT (all.take n) (wv.take n)).length=(N.eS all name n).bind (wv[·]?)
 |0,_=>by simp[pT,gV,tD,N.eS]
 |n+1,h=>by
  have ih:=Lp all wv name hl n (by omega);have ha:all[n]?=aE all[n]:=bL (by omega);have hw:wv[n]?=aE wv[n]:=bL (by omega);rw[dF (by omega),dF (by omega)];unfold pT at ih ⊢;rw[Ez _ _ _ _ _ (by simp[hl])];unfold N.eS;rw[ha];simp only;by_cases ht:N.there all[n]=aX
  ·rw[eJ ht,AC,ht,Bool.and_true]
   split
   ·exact hw.symm
   ·exact ih
  ·rw[dL ht,List.append_nil];rw[Bool.not_eq_true] at ht;rw[ht,Bool.and_false];exact ih
theorem C2 (all:List N.iM)(wv:List Own)(name:List UInt8)(hl:wv.length=all.length):tD (pT all wv) name (pT all wv).length=(N.eS all name all.length).bind (wv[·]?):=by
 have:=Lp all wv name hl all.length (bD _);rwa[List.take_length,<-hl,List.take_length,hl] at this
theorem Vq:∀(all:List N.iM) (wv:List Own) (j:Nat) (t:Int),wv.length=all.length->
 ((gV j all wv).find? λr=>r.tok==t).map (·.o)=if t<1000+(j:Int) then aC else match all[(t-1000-j).toNat]? with|some e=>if N.there e then wv[(t-1000-j).toNat]? else aC|none=>aC
 |[],_,j,t,_=>by simp[gV]
 |_::_,[],_,_,h=>by simp at h
 |e::l,o::u,j,t,h=>by
  have ih:=Vq l u (j+1) t (by simpa using h);rw[gV];by_cases eQ:t<1000+(j:Int)
  ·rw[eJ eQ];rw[eJ (by omega)] at ih;have jD:((1000+(j:Int))==t)=aV:=by rw[beq_eq_false_iff_ne];omega
   split
   ·rw[List.find?_cons,jD];exact ih
   ·exact ih
  ·rw[dL eQ];by_cases he:t=1000+(j:Int)
   ·have h0:(t-1000-(j:Int)).toNat=0:=by omega
    rw[h0];rw[eJ (by omega)] at ih;have hq:((1000+(j:Int))==t)=aX:=by rw[beq_iff_eq];omega
    show Option.map _ (List.find? _ (if N.there e=aX then _ else _))=if N.there e=aX then aE o else aC
    split
    ·rw[List.find?_cons,hq];rfl
    ·exact ih
   ·have h0:(t-1000-(j:Int)).toNat=(t-1000-((j+1:Nat):Int)).toNat+1:=by omega
    rw[dL (by omega)] at ih;rw[h0];have hq:((1000+(j:Int))==t)=aV:=by rw[beq_eq_false_iff_ne];omega
    show Option.map _ (List.find? _ (if N.there e=aX then _ else _))=match l[(t-1000-((j+1:Nat):Int)).toNat]? with|some e=>if N.there e then u[(t-1000-((j+1:Nat):Int)).toNat]? else aC|none=>aC
    rw[<-ih]
    split
    ·rw[List.find?_cons,hq]
    ·rfl
theorem K0 (h:w.ownsRow 0 e 1 v n xs):(v=aJ aC 0 0/\xs=[])\/∃g cap,v=aJ (aE ⟨g,0,aC⟩) n cap:=by
 have hl:=h.1;rcases h.2 with ⟨h1,h2⟩|⟨g,cap,_,h1,_⟩
 ·exact .inl ⟨h1,dU.1 (by omega)⟩
 ·exact .inr ⟨g,cap,h1⟩
theorem jE.Sj (h:jE w all wv vO vB):(vO=aJ aC 0 0/\pT all wv=[])\/
 ∃g cap,vO=aJ (aE ⟨g,0,aC⟩) (pT all wv).length cap/\∀j r,(pT all wv)[j]?=aE r->w.cell? ⟨g,j,aC⟩=aE (iW r.o)/\uZ w r.o r.nm r.tok:=by
 have fL:=h.row;rw[nH,dO] at fL;rcases K0 fL with ⟨h1,h2⟩|⟨g,cap,h1⟩
 ·exact .inl ⟨h1,by simpa using h2⟩
 ·refine .inr ⟨g,cap,h1,λj r hr=>⟨?_,?_⟩⟩
  ·have:=(h1▸fL).cells (g:=g) rfl j (iW r.o) (by rw[cI,hr];rfl);rwa[fE,dC] at this
  ·obtain⟨i,e,h3,h4,h5,h6,h7⟩:=Ii all wv 0 r (cG hr);have:=(h.tA i e r.o h3 h4 (by unfold N.there at h5;simp at h5;exact h5.1)).head;rw[<-h6] at this;rw[h7,dC];exact this
def mE (wv:List Own) (k:Option Nat):aG:=Yy (k.bind (wv[·]?))
theorem Fy (w:aY)(mb:Nat)(s:ByteArray)(all:List N.iM)(wv:List Own)(vO vB:aG)(h2:w.cell? ⟨mb,2,aC⟩=aE vO)(h:jE w all wv vO vB):
 bH aQ 30 #[aK (aE ⟨mb,0,aC⟩),aI s] w λe w' =>e=aM (mE wv (N.eS all s.data.toList all.length))/\bA w.heap.size w w' :=by
 have hr:=C2 all wv s.data.toList h.len;unfold mE;rw[<-hr];rcases h.Sj with ⟨rfl,h0⟩|⟨g,cap,rfl,hg⟩
 ·rw[h0];exact(Ri w mb s h2).mono λe w' hh=>⟨hh.1,by rw[hh.2];exact bF _ _⟩
 ·exact B6 w mb g cap _ s h2 (by have:=h.vI;rwa[nH,dO] at this) hg
theorem Ke (w:aY)(mb:Nat)(t:Int)(s:L.gJ)(all:List N.iM)(wv:List Own)(vO vB:aG)(h2:w.cell? ⟨mb,2,aC⟩=aE vO)(h:jE w all wv vO vB):
 bH aQ 101 #[aK (aE ⟨mb,0,aC⟩),aH aF t] w λe w' =>e=aM (mE wv (N.place (fR s all) t))/\bA w.heap.size w w' :=by
 have hr:=Vq all wv 0 t h.len;have hp:(N.place (fR s all) t).bind (wv[·]?)=((gV 0 all wv).find? λr=>r.tok==t).map (·.o):=by
  rw[hr];unfold N.place fR;simp only[Int.natCast_zero,Int.add_zero,Int.sub_zero]
  split
  ·rfl
  ·cases all[(t-1000).toNat]? with
   |none=>rfl
   |some e=>simp only;split <;> rfl
 unfold mE;rw[hp];rcases h.Sj with ⟨rfl,h0⟩|⟨g,cap,rfl,hg⟩
 ·unfold pT at h0;rw[h0];exact(LQ w mb t h2).mono λe w' hh=>⟨hh.1,by rw[hh.2];exact bF _ _⟩
 ·exact CB w mb g cap _ t h2 (by have:=h.vI;rwa[nH,dO] at this) hg
def rJ (all:List N.iM) (wv:List Own) (l:List UInt8):aG:=
 if L.fJ l then bO 134 (aI ⟨l.toArray⟩)
 else match N.eS all l all.length with
  |some k=>mE wv (aE k)
  |none=>nI l
theorem Za (w:aY)(mb:Nat)(s:ByteArray)(hb:L.fJ s.data.toList=aX):
 bH aQ 53 #[aK (aE ⟨mb,0,aC⟩),aI s] w λe w' =>e=aM (bO 134 (aI s))/\w' =w:=by
 have hl:s.toList=s.data.toList:=Go.ByteArray.toList_eq s;have Hb:=bE hb;have Hl:=bE hl;clear hb hl;go_enter func53,ntmps53;go_wp2_with fail
 refine(rS s _).mono ?_;rintro e w' ⟨rfl,rfl⟩;rw[aN Hl,aN Hb];go_wp2;go_ret;exact⟨rfl,rfl⟩
theorem D8 (w:aY)(mb:Nat)(s:ByteArray)(T:TypeId)(v:aG)(P:aY->Prop)(hb:L.fJ s.data.toList=aV)(H:Hid (bH aQ 30 #[aK (aE ⟨mb,0,aC⟩),aI s] w λe w' =>e=aM (bO T v)/\P w')):
 bH aQ 53 #[aK (aE ⟨mb,0,aC⟩),aI s] w λe w' =>e=aM (bO T v)/\P w' :=by
 have hl:s.toList=s.data.toList:=Go.ByteArray.toList_eq s;have Hb:=bE hb;have Hl:=bE hl;clear hb hl;go_enter func53,ntmps53;go_wp2_with fail
 refine(rS s _).mono ?_;rintro e w' ⟨rfl,rfl⟩;rw[aN Hl,aN Hb];go_wp2_with fail
 refine(aN H).mono ?_;rintro e w' ⟨rfl,hP⟩;have HP:=bE hP;clear hP;go_wp2;go_ret;exact⟨rfl,aN HP⟩
theorem b8 (w:aY)(mb:Nat)(s:ByteArray)(hb:L.fJ s.data.toList=aV)(H:Hid (bH aQ 30 #[aK (aE ⟨mb,0,aC⟩),aI s] w λe w' =>e=aM .nilIface/\bA w.heap.size w w')):
 bH aQ 53 #[aK (aE ⟨mb,0,aC⟩),aI s] w λe w' =>e=aM (nI s.data.toList)/\bA w.heap.size w w' :=by
 have hl:s.toList=s.data.toList:=Go.ByteArray.toList_eq s;have Hb:=bE hb;have Hl:=bE hl;clear hb hl;go_enter func53,ntmps53;go_wp2_with fail
 refine(rS s _).mono ?_;rintro e w' ⟨rfl,rfl⟩;rw[aN Hl,aN Hb];go_wp2_with fail
 refine(aN H).mono ?_;rintro e w0 ⟨rfl,kO⟩;go_wp2_with fail
 refine(I7 s _).mono ?_;rintro e w1 ⟨rfl,fF⟩;have fF:=kO.trans (fF.mono kO.size);cases hf:L.find s.data.toList with
 |some p=>
  have hm:nI s.data.toList=bO 120 (dD p):=by unfold nI;rw[hf]
  have Hm:=bE hm;clear hm hf;simp only[Option.map_some,Option.getD_some,Option.isSome_some,dD];go_wp2;go_ret;exact⟨Al (by rw[aN Hm];rfl),fF.alloc fF.size _⟩
 |none=>
  simp only[Option.map_none,Option.getD_none,Option.isSome_none];go_wp2_with fail
  refine(Gj s _).mono ?_;rintro e w2 ⟨rfl,rfl⟩;cases hn:L.number s.data.toList with
  |some n=>
   have hm:nI s.data.toList=bO 117 (aH aF n):=by unfold nI;rw[hf,hn]
   have Hm:=bE hm;clear hm hf hn;simp only[Option.getD_some,Option.isSome_some];go_wp2;go_ret;exact⟨Al (by rw[aN Hm];rfl),fF.alloc fF.size _⟩
  |none=>
   have hm:nI s.data.toList=.nilIface:=by unfold nI;rw[hf,hn]
   have Hm:=bE hm;clear hm hf hn;simp only[Option.getD_none,Option.isSome_none];go_wp2;go_ret;exact⟨Al (by rw[aN Hm];rfl),fF.alloc fF.size _⟩
theorem vZ (o:Own):∃T v,iW o=bO T v:=by cases o <;> exact⟨_,_,rfl⟩
theorem mN (all:List N.iM)(l:List UInt8):∀n k,N.eS all l n=aE k->k<n/\∃e,all[k]?=aE e/\e.name=l/\N.there e=aX
 |0,_,h=>by cases h
 |n+1,k,h=>by
  unfold N.eS at h;cases ha:all[n]? with
  |none=>
   rw[ha] at h;have:=mN all l n k h;exact⟨by omega,this.2⟩
  |some e=>
   rw[ha] at h;simp only at h
   split at h
   ·rename_i hc
    rw[Bool.and_eq_true,beq_iff_eq] at hc;injection h with h;subst h;exact⟨by omega,e,ha,hc⟩
   ·have:=mN all l n k h;exact⟨by omega,this.2⟩
theorem Lh (w:aY)(mb:Nat)(s:ByteArray)(all:List N.iM)(wv:List Own)(vO vB:aG)(h2:w.cell? ⟨mb,2,aC⟩=aE vO)(h:jE w all wv vO vB):
 bH aQ 53 #[aK (aE ⟨mb,0,aC⟩),aI s] w λe w' =>e=aM (rJ all wv s.data.toList)/\bA w.heap.size w w' :=by
 unfold rJ;by_cases hb:L.fJ s.data.toList=aX
 ·rw[eJ hb];exact(Za w mb s hb).mono λe w' hh=>⟨hh.1,by rw[hh.2];exact bF _ _⟩
 ·rw[dL hb];rw[Bool.not_eq_true] at hb;have hn:=Fy w mb s all wv vO vB h2 h;cases hk:N.eS all s.data.toList all.length with
  |none=>
   rw[hk] at hn;exact b8 w mb s hb (bE hn)
  |some k=>
   rw[hk] at hn;obtain⟨eQ,_⟩:=mN all _ _ _ hk;obtain⟨o,hw⟩:∃o,wv[k]?=aE o:=⟨_,bL (by rw[h.len];exact eQ)⟩
   have hv:mE wv (aE k)=iW o:=by unfold mE;rw[Option.bind_some,hw];rfl
   obtain⟨T,v,he⟩:=vZ o;rw[hv,he] at hn;show bH _ _ _ _ λe w' =>e=aM (mE wv (aE k))/\_
   rw[hv,he];exact D8 w mb s T v _ hb (bE hn)
theorem Kd (v:aG)(W:aY):(bY (bO 117 v) 107 117 aX).run aQ W=.ok (bC #[v,bB aX]) W:=by kernel_rfl
theorem Pu (v:aG)(W:aY):(bY (bO 120 v) 107 117 aX).run aQ W=.ok (bC #[aH aF 0,bB aV]) W:=by kernel_rfl
theorem Xu (v:aG)(W:aY):(bY (bO 120 v) 107 120 aX).run aQ W=.ok (bC #[v,bB aX]) W:=by kernel_rfl
theorem Rf (v:aG)(W:aY):(bY (bO 122 v) 107 117 aX).run aQ W=.ok (bC #[aH aF 0,bB aV]) W:=by kernel_rfl
theorem Zo (v:aG)(W:aY):(bY (bO 122 v) 107 120 aX).run aQ W=.ok (bC #[bM #[aI ⟨#[]⟩,aH aF 0,aH aF 0,aH aF 0],bB aV]) W:=by kernel_rfl
theorem Yl (v:aG)(W:aY):(bY (bO 122 v) 107 122 aX).run aQ W=.ok (bC #[v,bB aX]) W:=by kernel_rfl
theorem Ol (v:aG)(W:aY):(bY (bO 124 v) 107 117 aX).run aQ W=.ok (bC #[aH aF 0,bB aV]) W:=by kernel_rfl
theorem Ze (v:aG)(W:aY):(bY (bO 124 v) 107 120 aX).run aQ W=.ok (bC #[bM #[aI ⟨#[]⟩,aH aF 0,aH aF 0,aH aF 0],bB aV]) W:=by kernel_rfl
theorem a8 (v:aG)(W:aY):(bY (bO 124 v) 107 122 aX).run aQ W=.ok (bC #[aK aC,bB aV]) W:=by kernel_rfl
theorem Yx (v:aG)(W:aY):(bY (bO 124 v) 107 124 aX).run aQ W=.ok (bC #[v,bB aX]) W:=by kernel_rfl
theorem Oo (v:aG)(W:aY):(bY (bO 130 v) 107 117 aX).run aQ W=.ok (bC #[aH aF 0,bB aV]) W:=by kernel_rfl
theorem Xh (v:aG)(W:aY):(bY (bO 130 v) 107 120 aX).run aQ W=.ok (bC #[bM #[aI ⟨#[]⟩,aH aF 0,aH aF 0,aH aF 0],bB aV]) W:=by kernel_rfl
theorem Zi (v:aG)(W:aY):(bY (bO 130 v) 107 122 aX).run aQ W=.ok (bC #[aK aC,bB aV]) W:=by kernel_rfl
theorem Xl (v:aG)(W:aY):(bY (bO 130 v) 107 124 aX).run aQ W=.ok (bC #[aK aC,bB aV]) W:=by kernel_rfl
theorem Ys (v:aG)(W:aY):(bY (bO 130 v) 107 130 aX).run aQ W=.ok (bC #[v,bB aX]) W:=by kernel_rfl
theorem Rq (v:aG)(W:aY):(bY (bO 132 v) 107 117 aX).run aQ W=.ok (bC #[aH aF 0,bB aV]) W:=by kernel_rfl
theorem f9 (v:aG)(W:aY):(bY (bO 132 v) 107 120 aX).run aQ W=.ok (bC #[bM #[aI ⟨#[]⟩,aH aF 0,aH aF 0,aH aF 0],bB aV]) W:=by kernel_rfl
theorem Xs (v:aG)(W:aY):(bY (bO 132 v) 107 122 aX).run aQ W=.ok (bC #[aK aC,bB aV]) W:=by kernel_rfl
theorem b9 (v:aG)(W:aY):(bY (bO 132 v) 107 124 aX).run aQ W=.ok (bC #[aK aC,bB aV]) W:=by kernel_rfl
theorem Xm (v:aG)(W:aY):(bY (bO 132 v) 107 130 aX).run aQ W=.ok (bC #[bM #[aI ⟨#[]⟩,aH aF 0,aH aF 0],bB aV]) W:=by kernel_rfl
theorem Xj (v:aG)(W:aY):(bY (bO 132 v) 107 132 aX).run aQ W=.ok (bC #[v,bB aX]) W:=by kernel_rfl
theorem Pn (v:aG)(W:aY):(bY (bO 134 v) 107 117 aX).run aQ W=.ok (bC #[aH aF 0,bB aV]) W:=by kernel_rfl
theorem Zu (v:aG)(W:aY):(bY (bO 134 v) 107 120 aX).run aQ W=.ok (bC #[bM #[aI ⟨#[]⟩,aH aF 0,aH aF 0,aH aF 0],bB aV]) W:=by kernel_rfl
theorem Yn (v:aG)(W:aY):(bY (bO 134 v) 107 122 aX).run aQ W=.ok (bC #[aK aC,bB aV]) W:=by kernel_rfl
theorem Zy (v:aG)(W:aY):(bY (bO 134 v) 107 124 aX).run aQ W=.ok (bC #[aK aC,bB aV]) W:=by kernel_rfl
theorem Xd (v:aG)(W:aY):(bY (bO 134 v) 107 130 aX).run aQ W=.ok (bC #[bM #[aI ⟨#[]⟩,aH aF 0,aH aF 0],bB aV]) W:=by kernel_rfl
theorem Zt (v:aG)(W:aY):(bY (bO 134 v) 107 132 aX).run aQ W=.ok (bC #[bM #[aI ⟨#[]⟩,aH aF 0],bB aV]) W:=by kernel_rfl
theorem d6 (v:aG)(W:aY):(bY (bO 134 v) 107 134 aX).run aQ W=.ok (bC #[v,bB aX]) W:=by kernel_rfl
theorem Uk (W:aY):(bY .nilIface 107 117 aX).run aQ W=.ok (bC #[aH aF 0,bB aV]) W:=by kernel_rfl
theorem J2 (W:aY):(bY .nilIface 107 120 aX).run aQ W=.ok (bC #[bM #[aI ⟨#[]⟩,aH aF 0,aH aF 0,aH aF 0],bB aV]) W:=by kernel_rfl
theorem A5 (W:aY):(bY .nilIface 107 122 aX).run aQ W=.ok (bC #[aK aC,bB aV]) W:=by kernel_rfl
theorem B0 (W:aY):(bY .nilIface 107 124 aX).run aQ W=.ok (bC #[aK aC,bB aV]) W:=by kernel_rfl
theorem A7 (W:aY):(bY .nilIface 107 130 aX).run aQ W=.ok (bC #[bM #[aI ⟨#[]⟩,aH aF 0,aH aF 0],bB aV]) W:=by kernel_rfl
theorem G2 (W:aY):(bY .nilIface 107 132 aX).run aQ W=.ok (bC #[bM #[aI ⟨#[]⟩,aH aF 0],bB aV]) W:=by kernel_rfl
theorem I9 (W:aY):(bY .nilIface 107 134 aX).run aQ W=.ok (bC #[aI ⟨#[]⟩,bB aV]) W:=by kernel_rfl
theorem tL (w:aY)(nm:ByteArray)(tok:Int):bH aQ 65 #[bM #[aI nm,aH aF tok]] w λr w' =>r=aM (aH aF tok)/\bA w.heap.size w w' :=by
 go_enter func65,ntmps65;go_wp2;go_ret;exact⟨rfl,(bF _ _).alloc (bD _) _⟩
theorem fh (w:aY)(rb:Nat)(n:Int)(code:Int)(P:aY->Prop)(H:Hid (bH aQ 62 #[aK (aE ⟨rb,0,aC⟩),aH aF n] w λr w' =>r=aM (aH aF code)/\P w')):
 bH aQ 52 #[aK (aE ⟨rb,0,aC⟩),bO 117 (aH aF n)] w λr w' =>r=aM (aH aF code)/\P w' :=by
 have a0:=Kd (aH aF n);go_enter func52,ntmps52;go_wp2_with fail
 refine(aN H).mono ?_;rintro e w' ⟨rfl,hP⟩;have HP:=bE hP;clear hP;go_wp2;go_ret;exact⟨rfl,aN HP⟩
theorem XL (w:aY)(rb:Nat)(nm:ByteArray)(t a g:Int)(code:Int)(P:aY->Prop)(H:Hid (∀W,bA w.heap.size w W->bH aQ 63 #[aK (aE ⟨rb,0,aC⟩),bM #[aI nm,aH aF t,aH aF a,aH aF g]] W λr w' =>r=aM (aH aF code)/\P w')):
 bH aQ 52 #[aK (aE ⟨rb,0,aC⟩),bO 120 (bM #[aI nm,aH aF t,aH aF a,aH aF g])] w λr w' =>r=aM (aH aF code)/\P w' :=by
 have a0:=Pu (bM #[aI nm,aH aF t,aH aF a,aH aF g]);have a1:=Xu (bM #[aI nm,aH aF t,aH aF a,aH aF g]);go_enter func52,ntmps52;go_wp2_with fail
 refine(aN H _ ((bF _ _).alloc (bD _) _)).mono ?_;rintro e w' ⟨rfl,hP⟩;have HP:=bE hP;clear hP;go_wp2;go_ret;exact⟨rfl,aN HP⟩
theorem XO (w:aY)(rb b:Nat)(code:Int)(P:aY->Prop)(H:Hid (bH aQ 64 #[aK (aE ⟨rb,0,aC⟩),aK (aE ⟨b,0,aC⟩)] w λr w' =>r=aM (aH aF code)/\P w')):
 bH aQ 52 #[aK (aE ⟨rb,0,aC⟩),bO 122 (aK (aE ⟨b,0,aC⟩))] w λr w' =>r=aM (aH aF code)/\P w' :=by
 have a0:=Rf (aK (aE ⟨b,0,aC⟩));have a1:=Zo (aK (aE ⟨b,0,aC⟩));have a2:=Yl (aK (aE ⟨b,0,aC⟩));go_enter func52,ntmps52;go_wp2_with fail
 refine(aN H).mono ?_;rintro e w' ⟨rfl,hP⟩;have HP:=bE hP;clear hP;go_wp2;go_ret;exact⟨rfl,aN HP⟩
theorem WS (w:aY)(rb b:Nat)(nm:ByteArray)(tok:Int)(h0:w.cell? ⟨b,0,aC⟩=aE (aI nm))(h1:w.cell? ⟨b,1,aC⟩=aE (aH aF tok))(code:Int)(P:aY->Prop)(H:Hid (∀W,bA w.heap.size w W->bH aQ 62 #[aK (aE ⟨rb,0,aC⟩),aH aF tok] W λr w' =>r=aM (aH aF code)/\P w')):
 bH aQ 52 #[aK (aE ⟨rb,0,aC⟩),bO 124 (aK (aE ⟨b,0,aC⟩))] w λr w' =>r=aM (aH aF code)/\P w' :=by
 have a0:=Ol (aK (aE ⟨b,0,aC⟩));have a1:=Ze (aK (aE ⟨b,0,aC⟩));have a2:=a8 (aK (aE ⟨b,0,aC⟩));have a3:=Yx (aK (aE ⟨b,0,aC⟩));go_enter func52,ntmps52;go_wp2_with fail
 refine(tL _ nm tok).mono ?_;rintro e w1 ⟨rfl,hb⟩;have HB:=bE hb;clear hb;go_wp2_with fail
 refine(aN H _ (aN HB)).mono ?_;rintro e w' ⟨rfl,hP⟩;have HP:=bE hP;clear hP;go_wp2;go_ret;exact⟨rfl,aN HP⟩
theorem WZ (w:aY)(rb:Nat)(nm:ByteArray)(tok n:Int)(code:Int)(P:aY->Prop)(H:Hid (∀W,bA w.heap.size w W->bH aQ 62 #[aK (aE ⟨rb,0,aC⟩),aH aF n] W λr w' =>r=aM (aH aF code)/\P w')):
 bH aQ 52 #[aK (aE ⟨rb,0,aC⟩),bO 130 (bM #[aI nm,aH aF tok,aH aF n])] w λr w' =>r=aM (aH aF code)/\P w' :=by
 have a0:=Oo (bM #[aI nm,aH aF tok,aH aF n]);have a1:=Xh (bM #[aI nm,aH aF tok,aH aF n]);have a2:=Zi (bM #[aI nm,aH aF tok,aH aF n]);have a3:=Xl (bM #[aI nm,aH aF tok,aH aF n]);have a4:=Ys (bM #[aI nm,aH aF tok,aH aF n]);go_enter func52,ntmps52;go_wp2_with fail
 refine(aN H _ ((bF _ _).alloc (bD _) _)).mono ?_;rintro e w' ⟨rfl,hP⟩;have HP:=bE hP;clear hP;go_wp2;go_ret;exact⟨rfl,aN HP⟩
theorem Ay (w:aY)(rb:Nat)(s:ByteArray)(code:Int)(P:aY->Prop)(H:Hid (bH aQ 67 #[aK (aE ⟨rb,0,aC⟩),aI s] w λr w' =>r=aM (aH aF code)/\P w')):
 bH aQ 52 #[aK (aE ⟨rb,0,aC⟩),bO 134 (aI s)] w λr w' =>r=aM (aH aF code)/\P w' :=by
 have a0:=Pn (aI s);have a1:=Zu (aI s);have a2:=Yn (aI s);have a3:=Zy (aI s);have a4:=Xd (aI s);have a5:=Zt (aI s);have a6:=d6 (aI s);go_enter func52,ntmps52;go_wp2_with fail
 refine(aN H).mono ?_;rintro e w' ⟨rfl,hP⟩;have HP:=bE hP;clear hP;go_wp2;go_ret;exact⟨rfl,aN HP⟩
theorem gi (w:aY)(rb:Nat):
 bH aQ 52 #[aK (aE ⟨rb,0,aC⟩),.nilIface] w λr w' =>r=aM (aH aF 2)/\w' =w:=by
 have a0:=Uk;have a1:=J2;have a2:=A5;have a3:=B0;have a4:=A7;have a5:=G2;have a6:=I9;go_enter func52,ntmps52;go_wp2;go_ret;exact⟨rfl,rfl⟩
theorem W4 (w:aY)(mb rb n k gG:Nat)(aS:Option Addr)(xE:w.cell? ⟨rb,0,aC⟩=aE (aK (aE ⟨mb,0,aC⟩)))(Em:w.cell? ⟨mb,0,aC⟩=aE (aJ aS n gG))(hn:n<=16)(hk:k<=2)(h:n<k):
 bH aQ 114 #[aK (aE ⟨rb,0,aC⟩),aH aF k] w λr w' =>r=aM (bC #[aJ aC 0 0,aH aF 6])/\w' =w:=by
 have h1:(n:Int)-(k:Int)<0:=by omega
 have i0:=wi ((n:Int)-(k:Int));go_enter func114,ntmps114;go_wp2;go_ret2;exact⟨rfl,rfl⟩
theorem Vv (w:aY)(mb rb g n k gG:Nat)(xE:w.cell? ⟨rb,0,aC⟩=aE (aK (aE ⟨mb,0,aC⟩)))(Em:w.cell? ⟨mb,0,aC⟩=aE (aJ (aE ⟨g,0,aC⟩) n gG))(fm0:w.frozen? ⟨mb,0,aC⟩=aV)(hn:n<=16)(hk:k<=n)(hc:n<=gG)(x:Option Addr)(hx:(if gG=n-k then(aE ⟨g,0,aC⟩:Option Addr) else aE ⟨g,n-k,aC⟩)=x):
 bH aQ 114 #[aK (aE ⟨rb,0,aC⟩),aH aF k] w λr w' =>r=aM (bC #[aJ x (n-(n-k)) (gG-(n-k)),aH aF 0])/\w' =(w.setCell ⟨mb,0,aC⟩ (aJ (aE ⟨g,0,aC⟩) (n-k) gG)).drew:=by
 have i0:=wi ((n:Int)-(k:Int));have i1:(0:Int)<=(n:Int)-(k:Int):=by omega
 have i3:¬((n:Int)-(k:Int)<0):=by omega
 have i2:(n:Int)-(k:Int)<=(n:Int):=by omega
 have i4:(n:Int)<=(gG:Int):=by omega
 have i5:(n:Int)-(k:Int)<=(gG:Int):=by omega
 go_enter func114,ntmps114;go_wp2;go_region_law (fail)
 all_goals (go_wp2;go_ret2;exact⟨rfl,rfl⟩)
variable {g:Nat}
theorem eV.taken {gG:Nat}(h:eV w mb rb vO vB vW (aJ (aE ⟨g,0,aC⟩) s.S.length gG) vR vT s)(k:Nat):
 eV ((w.setCell ⟨mb,0,aC⟩ (aJ (aE ⟨g,0,aC⟩) (s.S.length-k) gG)).drew) mb rb vO vB vW (aJ (aE ⟨g,0,aC⟩) (s.S.length-k) gG) vR vT {s with S:=s.S.take (s.S.length-k)}:=by
 have eR:=bV h.m 0 (aJ (aE ⟨g,0,aC⟩) (s.S.length-k) gG);have gZ:∀j,j≠mb->(w.setCell ⟨mb,0,aC⟩ (aJ (aE ⟨g,0,aC⟩) (s.S.length-k) gG)).heap[j]?=w.heap[j]?:=λj hj=>bA.heap_setCell _ _ _ _ hj
 have hlen:(s.S.take (s.S.length-k)).length=s.S.length-k:=by rw[dH];omega
 refine⟨eR,(gZ rb (fN h.r h.m (by decide))).trans h.r,?_,?_,?_,?_,h.ap,?_,h.rl,h.ol,h.wl,λx hx=>h.si x (List.mem_of_mem_take hx),h.ri⟩
 ·show aY.ownsRow _ _ _ _ _ (s.S.take (s.S.length-k)).length _;rw[hlen];show aY.ownsRow _ _ _ _ _ _ ((s.S.take (s.S.length-k)).map (aH aF));rw[List.map_take];have:=tJ h.st (s.S.length-k) (Nat.sub_le _ _);exact cK this λj e=>gZ j λx=>bW h.st h.m (by decide) (x▸e)
 ·exact cK h.Fv λj e=>gZ j λx=>bW h.Fv h.m (by decide) (x▸e)
 ·exact cK h.ot λj e=>gZ j λx=>bW h.ot h.m (by decide) (x▸e)
 ·exact cK h.wd λj e=>gZ j λx=>bW h.wd h.m (by decide) (x▸e)
 ·show(s.S.take (s.S.length-k)).length<=16;have:=h.sl;omega
theorem Hg (w:aY)(mb rb k:Nat)(vO vB vW vS vR vT:aG)(s:L.gJ)(fG:eV w mb rb vO vB vW vS vR vT s)(hk:1<=k)(tC:k<=2):
 bH aQ 114 #[aK (aE ⟨rb,0,aC⟩),aH aF k] w λr w' =>
  if s.S.length<k then r=aM (bC #[aJ aC 0 0,aH aF 6])/\w' =w
  else ∃g o c v1,r=aM (bC #[aJ (aE ⟨g,o,aC⟩) k c,aH aF 0])/\(∀j u,(s.S.drop (s.S.length-k))[j]?=aE u->w'.cell? ⟨g,o+j,aC⟩=aE (aH aF u))/\
   eV w' mb rb vO vB vW v1 vR vT {s with S:=s.S.take (s.S.length-k)}/\Mv (kZ mb rb vS vR vT) w w' /\dG w (kZ mb rb vS vR vT) (kZ mb rb v1 vR vT):=by
 by_cases h:s.S.length<k
 ·simp only[eJ h];obtain⟨aS,gG,aR,jS,aT,qG,rfl,rfl,rfl,lS,lR⟩:=fG.EG;exact W4 w mb rb _ k gG aS (aZ fG.r rfl) (aZ fG.m rfl) fG.sl tC h
 ·simp only[dL h];rcases jB fG.st with ⟨_,h0,_⟩|⟨g,gG,rfl,lS⟩
  ·omega
  have hs:=wY (t:=k) fG.st lS;have Bg:=aZ (j:=0) fG.m rfl;generalize hx:(if gG=s.S.length-k then(aE ⟨g,0,aC⟩:Option Addr) else aE ⟨g,s.S.length-k,aC⟩)=x at hs;refine(Vv w mb rb g s.S.length k gG (aZ fG.r rfl) Bg (bG 0 fG.m) fG.sl (by omega) lS x hx).mono ?_;rintro r w' ⟨rfl,rfl⟩;have O0:s.S.length-(s.S.length-k)=k:=by omega
  rw[O0] at hs ⊢;have NQ:∃o,x=aE ⟨g,o,aC⟩:=by
   rw[<-hx]
   split
   ·exact⟨_,rfl⟩
   ·exact⟨_,rfl⟩
  obtain⟨o,rfl⟩:=NQ;refine⟨g,o,_,_,rfl,λj u hu=>?_,fG.taken k,((Mv.refl _ _).setCell (.inl (.inl rfl)) _).drew,dG.refl _ _⟩;rcases hs with ⟨h1,_⟩|⟨b,o',c',h1,h2,h3⟩
  ·cases h1
  ·injection h1 with h1;injection h1 with h1;injection h1 with h4 h5;subst h4 h5;have jD:g≠mb:=λe=>bW fG.st fG.m (by decide) (by rw[e];rfl)
   have:=h3 j (aH aF u) (by rw[<-List.map_drop,cI,hu];rfl);exact cQ this jD
theorem L9 (w:aY)(mb rb b o c k j:Nat)(hj:k=j+1)(tC:k<=2)(tok:Int)(V:aG)(code:Int)(P:aY->aY->Prop)(hr:w.cell? ⟨rb,0,aC⟩=aE (aK (aE ⟨mb,0,aC⟩)))(ht:w.cell? ⟨b,o+j,aC⟩=aE (aH aF tok))(HT:Hid (∀W,bA w.heap.size w W->bH aQ 101 #[aK (aE ⟨mb,0,aC⟩),aH aF tok] W λr w' =>r=aM V/\bA W.heap.size W w'))(HF:Hid (∀W,bA w.heap.size w W->bH aQ 102 #[aK (aE ⟨rb,0,aC⟩),V] W λr w' =>r=aM (aH aF code)/\P W w')):
 bH aQ 85 #[aK (aE ⟨rb,0,aC⟩),bM #[aI ⟨#[64]⟩,aH aF (k:Nat),aH aF 0,aH aF 3],aJ (aE ⟨b,o,aC⟩) k c] w λr w' =>r=aM (aH aF code)/\∃W,bA w.heap.size w W/\P W w' :=by
 have fF:bA w.heap.size w (w.alloc (aU #[aI ⟨#[64]⟩,aH aF (k:Nat),aH aF 0,aH aF 3] 120)):=(bF _ _).alloc (bD _) _;have i0:aF.wrap ((k:Int)-1)=(j:Int):=wj;have i1:(0:Int)<=(j:Int):=by omega
 have i2:(j:Int)<(k:Int):=by omega
 have i3:(0:Int)<(k:Int):=by omega
 clear hj tC;have hz1:w.heap.size<(w.alloc (aU #[aI ⟨#[64]⟩,aH aF (k:Nat),aH aF 0,aH aF 3] 120)).heap.size:=by simp
 have c0:(w.alloc (aU #[aI ⟨#[64]⟩,aH aF (k:Nat),aH aF 0,aH aF 3] 120)).cell? ⟨w.heap.size,0,aC⟩=aE (aI ⟨#[64]⟩):=aZ (heap_alloc_new w _) rfl;have r0:=bJ hr (aU #[aI ⟨#[64]⟩,aH aF (k:Nat),aH aF 0,aH aF 3] 120);have t0:=bJ ht (aU #[aI ⟨#[64]⟩,aH aF (k:Nat),aH aF 0,aH aF 3] 120);go_enter func85,ntmps85;go_wp2;generalize(w.alloc (aU #[aI ⟨#[64]⟩,aH aF (k:Nat),aH aF 0,aH aF 3] 120))=w1 at*;clear hr ht;go_region_held3 (λw' =>w'.cell? ⟨rb,0,aC⟩=aE (aK (aE ⟨mb,0,aC⟩))/\w'.cell? ⟨b,o+j,aC⟩=aE (aH aF tok)) (first|exact⟨r0,t0⟩|exact(by assumption)|go_keep)
  ((go_at_call 101;refine(aN HT _ fF.drew).mono ?_
    rintro e w2 ⟨rfl,eD⟩;have eW:bA w.heap.size w w2:=fF.drew.trans (eD.mono (cN hz1));have c0:=((eI eD).1 w.heap.size 0 hz1).trans c0;have r0:=((eI eD).1 rb 0 (eG (w:=w1) r0)).trans r0;have t0:=((eI eD).1 b (o+j) (eG (w:=w1) t0)).trans t0;have hz2:w.heap.size<w2.heap.size:=eC hz1 eD.size))
 go_wp2_with fail
 refine(aN HF _ (by first|exact eW|exact eW.drew)).mono ?_;rintro e w3 ⟨rfl,hP⟩;have HP:=bE hP;clear hP;go_wp2;go_ret;exact⟨rfl,_,by first|exact eW|exact eW.drew,aN HP⟩
theorem I4 (w:aY)(mb rb b o c k j:Nat)(hj:k=j+1)(tC:k<=2)(tok x:Int)(V:aG)(code:Int)(P:aY->aY->Prop)(hr:w.cell? ⟨rb,0,aC⟩=aE (aK (aE ⟨mb,0,aC⟩)))(ht:w.cell? ⟨b,o+j,aC⟩=aE (aH aF tok))(h0:w.cell? ⟨b,o,aC⟩=aE (aH aF x))(HT:Hid (∀W,bA w.heap.size w W->bH aQ 101 #[aK (aE ⟨mb,0,aC⟩),aH aF tok] W λr w' =>r=aM V/\bA W.heap.size W w'))(HF:Hid (∀W,bA w.heap.size w W->bH aQ 103 #[aK (aE ⟨rb,0,aC⟩),V,aH aF x] W λr w' =>r=aM (aH aF code)/\P W w')):
 bH aQ 85 #[aK (aE ⟨rb,0,aC⟩),bM #[aI ⟨#[33]⟩,aH aF (k:Nat),aH aF 0,aH aF 3],aJ (aE ⟨b,o,aC⟩) k c] w λr w' =>r=aM (aH aF code)/\∃W,bA w.heap.size w W/\P W w' :=by
 have fF:bA w.heap.size w (w.alloc (aU #[aI ⟨#[33]⟩,aH aF (k:Nat),aH aF 0,aH aF 3] 120)):=(bF _ _).alloc (bD _) _;have i0:aF.wrap ((k:Int)-1)=(j:Int):=wj;have i1:(0:Int)<=(j:Int):=by omega
 have i2:(j:Int)<(k:Int):=by omega
 have i3:(0:Int)<(k:Int):=by omega
 clear hj tC;have hz1:w.heap.size<(w.alloc (aU #[aI ⟨#[33]⟩,aH aF (k:Nat),aH aF 0,aH aF 3] 120)).heap.size:=by simp
 have c0:(w.alloc (aU #[aI ⟨#[33]⟩,aH aF (k:Nat),aH aF 0,aH aF 3] 120)).cell? ⟨w.heap.size,0,aC⟩=aE (aI ⟨#[33]⟩):=aZ (heap_alloc_new w _) rfl;have r0:=bJ hr (aU #[aI ⟨#[33]⟩,aH aF (k:Nat),aH aF 0,aH aF 3] 120);have t0:=bJ ht (aU #[aI ⟨#[33]⟩,aH aF (k:Nat),aH aF 0,aH aF 3] 120);have x0:=bJ h0 (aU #[aI ⟨#[33]⟩,aH aF (k:Nat),aH aF 0,aH aF 3] 120);have zb:b<(w.alloc (aU #[aI ⟨#[33]⟩,aH aF (k:Nat),aH aF 0,aH aF 3] 120)).heap.size:=eG x0;go_enter func85,ntmps85;go_wp2;generalize(w.alloc (aU #[aI ⟨#[33]⟩,aH aF (k:Nat),aH aF 0,aH aF 3] 120))=w1 at*;clear hr ht h0;go_region_held3 (λw' =>w'.cell? ⟨rb,0,aC⟩=aE (aK (aE ⟨mb,0,aC⟩))/\w'.cell? ⟨b,o+j,aC⟩=aE (aH aF tok)) (first|exact⟨r0,t0⟩|exact(by assumption)|go_keep)
  ((go_at_call 101;refine(aN HT _ fF.drew).mono ?_
    rintro e w2 ⟨rfl,eD⟩;have eW:bA w.heap.size w w2:=fF.drew.trans (eD.mono (cN hz1));have c0:=((eI eD).1 w.heap.size 0 hz1).trans c0;have r0:=((eI eD).1 rb 0 (eG (w:=w1) r0)).trans r0;have t0:=((eI eD).1 b (o+j) (eG (w:=w1) t0)).trans t0;have x0:=((eI eD).1 b o zb).trans x0;have hz2:w.heap.size<w2.heap.size:=eC hz1 eD.size))
 go_wp2_with fail
 refine(aN HF _ (by first|exact eW|exact eW.drew)).mono ?_;rintro e w3 ⟨rfl,hP⟩;have HP:=bE hP;clear hP;go_wp2;go_ret;exact⟨rfl,_,by first|exact eW|exact eW.drew,aN HP⟩
theorem Ue (w:aY)(mb rb b o c k j:Nat)(hj:k=j+1)(tC:k<=2)(tok:Int)(V:aG)(code:Int)(P:aY->aY->Prop)(hr:w.cell? ⟨rb,0,aC⟩=aE (aK (aE ⟨mb,0,aC⟩)))(ht:w.cell? ⟨b,o+j,aC⟩=aE (aH aF tok))(HT:Hid (∀W,bA w.heap.size w W->bH aQ 101 #[aK (aE ⟨mb,0,aC⟩),aH aF tok] W λr w' =>r=aM V/\bA W.heap.size W w'))(HF:Hid (∀W,bA w.heap.size w W->bH aQ 104 #[aK (aE ⟨rb,0,aC⟩),V] W λr w' =>r=aM (aH aF code)/\P W w')):
 bH aQ 85 #[aK (aE ⟨rb,0,aC⟩),bM #[aI ⟨#[101,120,101,99,117,116,101]⟩,aH aF (k:Nat),aH aF 0,aH aF 3],aJ (aE ⟨b,o,aC⟩) k c] w λr w' =>r=aM (aH aF code)/\∃W,bA w.heap.size w W/\P W w' :=by
 have fF:bA w.heap.size w (w.alloc (aU #[aI ⟨#[101,120,101,99,117,116,101]⟩,aH aF (k:Nat),aH aF 0,aH aF 3] 120)):=(bF _ _).alloc (bD _) _;have i0:aF.wrap ((k:Int)-1)=(j:Int):=wj;have i1:(0:Int)<=(j:Int):=by omega
 have i2:(j:Int)<(k:Int):=by omega
 have i3:(0:Int)<(k:Int):=by omega
 clear hj tC;have hz1:w.heap.size<(w.alloc (aU #[aI ⟨#[101,120,101,99,117,116,101]⟩,aH aF (k:Nat),aH aF 0,aH aF 3] 120)).heap.size:=by simp
 have c0:(w.alloc (aU #[aI ⟨#[101,120,101,99,117,116,101]⟩,aH aF (k:Nat),aH aF 0,aH aF 3] 120)).cell? ⟨w.heap.size,0,aC⟩=aE (aI ⟨#[101,120,101,99,117,116,101]⟩):=aZ (heap_alloc_new w _) rfl;have r0:=bJ hr (aU #[aI ⟨#[101,120,101,99,117,116,101]⟩,aH aF (k:Nat),aH aF 0,aH aF 3] 120);have t0:=bJ ht (aU #[aI ⟨#[101,120,101,99,117,116,101]⟩,aH aF (k:Nat),aH aF 0,aH aF 3] 120);go_enter func85,ntmps85;go_wp2;generalize(w.alloc (aU #[aI ⟨#[101,120,101,99,117,116,101]⟩,aH aF (k:Nat),aH aF 0,aH aF 3] 120))=w1 at*;clear hr ht;go_region_held3 (λw' =>w'.cell? ⟨rb,0,aC⟩=aE (aK (aE ⟨mb,0,aC⟩))/\w'.cell? ⟨b,o+j,aC⟩=aE (aH aF tok)) (first|exact⟨r0,t0⟩|exact(by assumption)|go_keep)
  ((go_at_call 101;refine(aN HT _ fF.drew).mono ?_
    rintro e w2 ⟨rfl,eD⟩;have eW:bA w.heap.size w w2:=fF.drew.trans (eD.mono (cN hz1));have c0:=((eI eD).1 w.heap.size 0 hz1).trans c0;have r0:=((eI eD).1 rb 0 (eG (w:=w1) r0)).trans r0;have t0:=((eI eD).1 b (o+j) (eG (w:=w1) t0)).trans t0;have hz2:w.heap.size<w2.heap.size:=eC hz1 eD.size))
 go_wp2_with fail
 refine(aN HF _ (by first|exact eW|exact eW.drew)).mono ?_;rintro e w3 ⟨rfl,hP⟩;have HP:=bE hP;clear hP;go_wp2;go_ret;exact⟨rfl,_,by first|exact eW|exact eW.drew,aN HP⟩
def ja:aG->aG
 |bO t v=>if t=124 then v else aK aC
 |_=>aK aC
theorem QA (v:aG)(W:aY):(bY (bO 122 v) 62 124 aX).run aQ W=.ok (bC #[aK aC,bB aV]) W:=by kernel_rfl
theorem OJ (v:aG)(W:aY):(bY (bO 130 v) 62 124 aX).run aQ W=.ok (bC #[aK aC,bB aV]) W:=by kernel_rfl
theorem OZ (v:aG)(W:aY):(bY (bO 132 v) 62 124 aX).run aQ W=.ok (bC #[aK aC,bB aV]) W:=by kernel_rfl
theorem I0 (v:aG)(W:aY):(bY (bO 124 v) 62 124 aX).run aQ W=.ok (bC #[v,bB aX]) W:=by kernel_rfl
theorem XT (W:aY):(bY .nilIface 62 124 aX).run aQ W=.ok (bC #[aK aC,bB aV]) W:=by kernel_rfl
theorem IW (w:aY)(rb:Nat)(V:aG)(hv:∀W,(bY V 62 124 aX).run aQ W=.ok (bC #[aK aC,bB aV]) W):
 bH aQ 102 #[aK (aE ⟨rb,0,aC⟩),V] w λr w' =>r=aM (aH aF 9)/\w' =w:=by
 go_enter func102,ntmps102;go_wp2;go_ret;exact⟨rfl,rfl⟩
theorem MB (w:aY)(rb:Nat)(V:aG)(x:Int)(hv:∀W,(bY V 62 124 aX).run aQ W=.ok (bC #[aK aC,bB aV]) W):
 bH aQ 103 #[aK (aE ⟨rb,0,aC⟩),V,aH aF x] w λr w' =>r=aM (aH aF 9)/\w' =w:=by
 go_enter func103,ntmps103;go_wp2;go_ret;exact⟨rfl,rfl⟩
theorem Y1 (w:aY)(rb b:Nat)(n code:Int)(P:aY->Prop)(h2:w.cell? ⟨b,2,aC⟩=aE (aH aF n))(H:Hid (bH aQ 83 #[aK (aE ⟨rb,0,aC⟩),aH aF 1,aH aF 0,bM #[aJ (aE ⟨w.heap.size,0,aC⟩) 1 1,aJ aC 0 0,aI ⟨#[]⟩]] (w.alloc (aU #[aH aF n] 3)) λr w' =>r=aM (aH aF code)/\P w')):
 bH aQ 102 #[aK (aE ⟨rb,0,aC⟩),bO 124 (aK (aE ⟨b,0,aC⟩))] w λr w' =>r=aM (aH aF code)/\P w' :=by
 have hv:=I0 (aK (aE ⟨b,0,aC⟩));go_enter func102,ntmps102;go_wp2_with fail
 refine(aN H).mono ?_;rintro e w' ⟨rfl,hP⟩;have HP:=bE hP;clear hP;go_wp2;go_ret;exact⟨rfl,aN HP⟩
theorem BD (w:aY)(rb b:Nat)(n x code:Int)(P:aY->Prop)(h2:w.cell? ⟨b,2,aC⟩=aE (aH aF n))(f2:w.frozen? ⟨b,2,aC⟩=aV)(H:Hid (bH aQ 83 #[aK (aE ⟨rb,0,aC⟩),aH aF 2,aH aF 0,bM #[aJ aC 0 0,aJ aC 0 0,aI ⟨#[]⟩]] (w.setCell ⟨b,2,aC⟩ (aH aF x)) λr w' =>r=aM (aH aF code)/\P w')):
 bH aQ 103 #[aK (aE ⟨rb,0,aC⟩),bO 124 (aK (aE ⟨b,0,aC⟩)),aH aF x] w λr w' =>r=aM (aH aF code)/\P w' :=by
 have hv:=I0 (aK (aE ⟨b,0,aC⟩));go_enter func103,ntmps103;go_wp2_with fail
 refine(aN H).mono ?_;rintro e w' ⟨rfl,hP⟩;have HP:=bE hP;clear hP;go_wp2;go_ret;exact⟨rfl,aN HP⟩
theorem u7 (w:aY)(rb:Nat):
 bH aQ 104 #[aK (aE ⟨rb,0,aC⟩),.nilIface] w λr w' =>r=aM (aH aF 10)/\w' =w:=by
 go_enter func104,ntmps104;go_wp2;go_ret;exact⟨rfl,rfl⟩
theorem Zg (w:aY)(rb:Nat)(T:TypeId)(v:aG)(code:Int)(P:aY->Prop)(H:Hid (bH aQ 114 #[aK (aE ⟨rb,0,aC⟩),aH aF 1] w λr w' =>∃vT,r=aM (bC #[vT,aH aF 0])/\bH aQ 52 #[aK (aE ⟨rb,0,aC⟩),bO T v] w' λr w' =>r=aM (aH aF code)/\P w')):
 bH aQ 104 #[aK (aE ⟨rb,0,aC⟩),bO T v] w λr w' =>r=aM (aH aF code)/\P w' :=by
 go_enter func104,ntmps104;go_wp2_with fail
 refine(aN H).mono ?_;rintro e w' ⟨vT,rfl,hD⟩;have HD:=bE hD;clear hD;go_wp2_with fail
 refine(aN HD).mono ?_;rintro e w' ⟨rfl,hP⟩;have HP:=bE hP;clear hP;go_wp2;go_ret;exact⟨rfl,aN HP⟩
end
theorem JP (R:List Int)(h:R≠[]):R.take (R.length-1)++[R.getLast?.getD 0]=R:=by
 rcases List.eq_nil_or_concat R with rfl|⟨l,x,rfl⟩
 ·exact(h rfl).elim
 ·simp
theorem BK (s:L.gJ)(all:List N.iM)(p:L.Prim)(hp:p∈L.oY):N.kC (fR s all) p.name=(fR (L.zD s p).1 all,(L.zD s p).2,aC):=by
 obtain⟨S,R,ws,pos,steps,depth,out⟩:=s;have hR:=JP R;simp only[L.oY,List.mem_cons,dR,or_false] at hp;rcases hp with rfl|rfl|rfl|rfl|rfl|rfl|rfl|rfl|rfl|rfl|rfl|rfl|rfl|rfl|rfl|rfl|rfl|rfl|rfl|rfl|rfl|rfl|rfl|rfl
 all_goals
  simp[N.kC,N.takes,N.lG,N.told,N.kR,N.oG,L.zD,L.Dx,L.j6,L.jV,fR]
 all_goals (repeat' split)
 all_goals first
  |rfl
  |(exfalso;omega)
  |(exfalso;simp only[cX,List.length_nil] at*;omega)
  |(simp_all;done)
  |(rw[List.getLast?_eq_getElem?,List.dropLast_eq_take];done)
  |(have h1:=hR (by assumption);rw[List.getLast?_eq_getElem?] at h1 ⊢;simp only[h1])
structure lL (w:aY) (mb rb:Nat) (vO vB vW vS vR vT:aG) (wv:List Own) (s:L.gJ) (all:List N.iM):Prop where
 run:eV w mb rb vO vB vW vS vR vT s
 own:jE w all wv vO vB
 Ca:lW w
 o4:¬iO mb rb vO vS vR vT wv 3
 st:s.steps<=1000
 dp:s.depth<=12
theorem lL.below (h:lL w mb rb vO vB vW vS vR vT wv s all)(hb:bA w.heap.size w w'):lL w' mb rb vO vB vW vS vR vT wv s all:=
 ⟨h.run.below hb,h.own.below hb,eU h.Ca (hb.block _ (lD h.Ca)),h.o4,h.st,h.dp⟩
variable {v1 v2 v3:aG}
theorem rV (h:dG w (kZ mb rb vS vR vT) (kZ mb rb v1 v2 v3)):dG w (iO mb rb vO vS vR vT wv) (iO mb rb vO v1 v2 v3 wv):=λk hk=>by
 rcases hk with hk|hk
 ·rcases h k hk with x|x
  ·exact .inl (.inl x)
  ·exact .inr x
 ·exact .inl (.inr hk)
variable {code:Int}
theorem gU.Jr {s' :L.gJ}(hr:eV w mb rb vO vB vW vS vR vT s)(ho:jE w all wv vO vB)(h:Ge mb rb vO vB vW vS vR vT s' w w')(hs:L.YO s s'):gU mb rb vO vB vW vS vR vT wv s (fR s' all) code w w' :=by
 obtain⟨v1,v2,v3,h1,h2,h3⟩:=h;exact⟨vO,v1,v2,v3,s',h1,ho.mv hr h2,h2.weaken λk hk=>.inl hk,rV h3,hs.1,hs.2.1,hs.2.2.2,rfl,λ_=>⟨rfl,rfl,rfl⟩⟩
theorem gU.stay (hr:eV w mb rb vO vB vW vS vR vT s)(ho:jE w all wv vO vB)(hb:bA w.heap.size w w'):gU mb rb vO vB vW vS vR vT wv s (fR s all) code w w' :=
 gU.Jr hr ho (Ge.stay hr hb) ⟨rfl,rfl,rfl,rfl⟩
variable {W:aY}{m:N.cE}
theorem gU.after (hb:bA w.heap.size w W)(h:gU mb rb vO vB vW vS vR vT wv s m code W w'):gU mb rb vO vB vW vS vR vT wv s m code w w' :=by
 obtain⟨oJ,v1,v2,v3,s',h1,h2,h3,h4,h5⟩:=h;exact⟨oJ,v1,v2,v3,s',h1,h2,(Mv.dS hb _).trans (dG.refl _ _) h3,(dG.refl _ _).trans hb.size h4,h5⟩
def Td (s:L.gJ) (m:N.cE):L.gJ:={s with S:=m.S,R:=m.R,out:=m.out,steps:=m.steps}
theorem gU.open (hr:lL w mb rb vO vB vW vS vR vT wv s all)(h:gU mb rb vO vB vW vS vR vT wv s m 0 w w')(jT:m.steps<=1000):
 ∃oJ v1 v2 v3,lL w' mb rb oJ vB vW v1 v2 v3 wv (Td s m) m.all/\Mv (iO mb rb vO vS vR vT wv) w w' /\dG w (iO mb rb vO vS vR vT wv) (iO mb rb oJ v1 v2 v3 wv):=by
 obtain⟨oJ,v1,v2,v3,s',h1,h2,h3,h4,h5,h6,NH,h7,h8⟩:=h;obtain⟨h9,h10,h11⟩:=h8 rfl;have hs:s' =Td s m:=by
  obtain⟨S,R,ws,p,st,d,out⟩:=s';obtain⟨S',R',ws',p',st',d',out'⟩:=s;simp only at h5 h6 h7 h9 h10 h11 NH;subst h5 h6 h7 h9 h10 h11 NH;rfl
 subst hs;refine⟨oJ,v1,v2,v3,⟨h1,h2,?_,?_,jT,hr.dp⟩,h3,h4⟩
 ·exact eU hr.Ca (h3.block _ (lD hr.Ca) hr.o4)
 ·intro hf;rcases h4 _ hf with x|x
  ·exact hr.o4 x
  ·have:=lD hr.Ca;omega
variable {w1 w2:aY}{m2:N.cE}
theorem gU.trans {oJ :aG}(hm:Mv (iO mb rb vO vS vR vT wv) w w1)(hf:dG w (iO mb rb vO vS vR vT wv) (iO mb rb oJ v1 v2 v3 wv))(h:gU mb rb oJ vB vW v1 v2 v3 wv (Td s m) m2 code w1 w2):gU mb rb vO vB vW vS vR vT wv s m2 code w w2:=by
 obtain⟨vO,x1,x2,x3,s',h1,h2,h3,h4,h5⟩:=h;exact⟨vO,x1,x2,x3,s',h1,h2,hm.trans hf h3,hf.trans hm.size h4,h5⟩
theorem NU (s:L.gJ)(all:List N.iM)(n:Int)(hR:s.R.length<=16)(ho:s.out.length<=300):N.push (fR s all) n=(fR (L.jV s 0 0 ⟨[n],[],[],0⟩).1 all,(L.jV s 0 0 ⟨[n],[],[],0⟩).2):=by
 unfold N.push L.jV fR;by_cases h:16<=s.S.length
 ·rw[eJ h,eJ (by left;simp;omega)]
 ·rw[dL h,dL (by simp;omega),dL (by simp;omega)];simp
theorem J0 (w:aY)(mb rb:Nat)(vO vB vW vS vR vT:aG)(wv:List Own)(s:L.gJ)(all:List N.iM)(n:Int)(h:lL w mb rb vO vB vW vS vR vT wv s all)(hn:dQ n):
 bH aQ 62 #[aK (aE ⟨rb,0,aC⟩),aH aF n] w λr w' =>r=aM (aH aF (N.push (fR s all) n).2)/\gU mb rb vO vB vW vS vR vT wv s (N.push (fR s all) n).1 (N.push (fR s all) n).2 w w' :=by
 rw[NU s all n h.run.rl h.run.ol];exact(XA w mb rb vO vB vW vS vR vT s n h.run hn).mono λr w' hh=>⟨hh.1,gU.Jr h.run h.own hh.2 (L.uQ _ _ _ _)⟩
theorem Zf {Ce :List N.iM}(wv:List Own)(h:all.map N.there=Ce.map N.there):dN all wv=dN Ce wv:=by
 have key:∀(all:List N.iM) (wv:List Own),dN all wv=(((all.map N.there).zip wv).filter λp=>p.1).map λp=>iW p.2:=by
  intro all
  induction all with
  |nil=>intro wv;rfl
  |cons e t ih=>
   intro wv;cases wv with
   |nil=>rfl
   |cons o u=>
    have:=ih u;unfold dN at this ⊢;rw[List.zip_cons_cons,List.map_cons,List.zip_cons_cons,List.filter_cons,List.filter_cons];simp only
    split
    ·rw[List.map_cons,List.map_cons,this]
    ·exact this
 rw[key,key,h]
variable {α:Type}
theorem Af {l:List α}{f:α->α}{x:α}(h:(l.modify k f)[j]?=aE x):∃y,l[j]?=aE y/\x=if k=j then f y else y:=by
 rw[List.getElem?_modify] at h;cases hl:l[j]? with
 |none=>rw[hl] at h;cases h
 |some y=>
  rw[hl] at h;injection h with h;exact⟨y,rfl,h.symm⟩
theorem Qo {l:List α}{f:α->α}{y:α}(h:l[j]?=aE y):(l.modify k f)[j]?=aE (if k=j then f y else y):=by
 rw[List.getElem?_modify,h];rfl
variable {b:Nat}
theorem jE.DI (h:jE w all wv vO vB){e:N.iM}(ho:wv[k]?=aE (.qW b))(he:all[k]?=aE e)(Kz:e.ended=aX){x:Int}(hx:dQ x):
 jE (w.setCell ⟨b,2,aC⟩ (aH aF x)) (all.modify k λe=>{e with n:=x}) wv vO vB:=by
 have pM:=h.tA k e _ he ho Kz;obtain⟨tC,_,eP⟩:=pM;have gZ:∀j,j≠b->(w.setCell ⟨b,2,aC⟩ (aH aF x)).heap[j]?=w.heap[j]?:=λj hj=>bA.heap_setCell _ _ _ _ hj
 have Ss:(all.modify k λe=>{e with n:=x}).map N.there=all.map N.there:=by
  apply List.ext_getElem?;intro i;rw[cI,cI,List.getElem?_modify];cases all[i]? with
  |none=>rfl
  |some y=>
   show aE (N.there (if k=i then {y with n:=x} else y))=aE (N.there y)
   split <;> rfl
 have DX:=Zf wv Ss;refine⟨?_,?_,?_,?_,?_,?_,h.apart,?_,?_⟩
 ·rw[List.length_modify];exact h.len
 ·rw[List.length_modify];exact h.begun
 ·rw[DX];exact cK h.row λj hj=>gZ j λhjb=>bW h.row eP (by decide) (hjb▸hj)
 ·intro j e' o hj VO kY;obtain⟨y,hy,rfl⟩:=Af hj;by_cases VH:k=j
  ·subst VH;rw[he] at hy;injection hy with hy;rw[ho] at VO;injection VO with VO;subst hy VO;rw[eJ rfl];refine⟨tC,hx,?_⟩;exact bV eP 2 _
  ·rw[dL VH] at kY ⊢;have NR:=h.tA j y o hy VO kY;cases o with
   |defn d=>
    obtain⟨h0,Ci,body,h1,h2,h3⟩:=NR;refine⟨h0,Ci,body,(gZ d (fN h1 eP (by decide))).trans h1,cK h2 λi hi=>gZ i λhib=>bW h2 eP (by decide) (hib▸hi),h3⟩
   |qW d=>
    refine⟨NR.1,NR.2.1,(gZ d λhdb=>VH ?_).trans NR.2.2⟩;subst hdb;exact h.apart k j d ho VO
   |cons nm t n=>exact NR
   |mark nm t=>exact NR
 ·intro j e' hj kY c hc;obtain⟨y,hy,rfl⟩:=Af hj;have xF:lI all j c:=by
   by_cases VH:k=j
   ·rw[eJ VH] at kY hc;exact h.ok j y hy kY c hc
   ·rw[dL VH] at kY hc;exact h.ok j y hy kY c hc
  rcases xF with h1|⟨h1,i,e2,h2,h3,h4,h5⟩|h1|h1
  ·exact .inl h1
  ·refine .inr (.inl ⟨h1,i,_,h2,h3,Qo h4,?_⟩)
   split
   ·exact h5
   ·exact h5
  ·exact .inr (.inr (.inl h1))
  ·exact .inr (.inr (.inr h1))
 ·rw[DX];exact h.vI
 ·rw[List.length_modify];exact h.qU
 ·intro j b' hj;obtain⟨y,hy,kY⟩:=h.VP j b' hj;refine⟨_,Qo hy,?_⟩
  split
  ·exact kY
  ·exact kY
theorem wW {t:Int}(h:N.place (fR s all) t=aE k):∃e,all[k]?=aE e/\N.there e=aX/\t=1000+(k:Int):=by
 unfold N.place fR at h;simp only at h
 split at h
 ·cases h
 ·cases ha:all[(t-1000).toNat]? with
  |none=>rw[ha] at h;cases h
  |some e=>
   rw[ha] at h;simp only at h
   split at h
   ·rename_i eQ ht
    injection h with h;subst h;exact⟨e,ha,ht,by omega⟩
   ·cases h
theorem jX {e:N.iM}(h:N.there e=aX):e.ended=aX:=by
 unfold N.there at h;rw[Bool.and_eq_true] at h;exact h.1
theorem K5 (h:jE w all wv vO vB)(s:L.gJ)(t:Int):
 ((∀W,(bY (mE wv (N.place (fR s all) t)) 62 124 aX).run aQ W=.ok (bC #[aK aC,bB aV]) W)/\
  (match N.place (fR s all) t with|some k=>(match all[k]? with|some e=>if e.kind=2 then(0:Int) else 9|none=>9)|none=>9)=9)\/
 ∃k b e,N.place (fR s all) t=aE k/\wv[k]?=aE (.qW b)/\all[k]?=aE e/\e.ended=aX/\e.kind=2/\mE wv (N.place (fR s all) t)=bO 124 (aK (aE ⟨b,0,aC⟩)):=by
 cases hp:N.place (fR s all) t with
 |none=>exact .inl ⟨λW=>XT W,rfl⟩
 |some k=>
  obtain⟨e,he,ht,_⟩:=wW hp;have eQ:k<wv.length:=by
   rw[h.len];exact(bI.1 he).1
  obtain⟨o,ho⟩:∃o,wv[k]?=aE o:=⟨_,bL eQ⟩
  have pM:=h.tA k e o he ho (jX ht);have hv:mE wv (aE k)=iW o:=by unfold mE;rw[Option.bind_some,ho];rfl
  rw[hv];cases o with
  |defn b=>
   refine .inl ⟨λW=>QA _ W,?_⟩;simp only[he];rw[dL (by rw[pM.1];decide)]
  |cons nm tk n=>
   refine .inl ⟨λW=>OJ _ W,?_⟩;simp only[he];rw[dL (by rw[pM.1];decide)]
  |mark nm tk=>
   refine .inl ⟨λW=>OZ _ W,?_⟩;simp only[he];rw[dL (by rw[pM.1];decide)]
  |qW b=>exact .inr ⟨k,b,e,rfl,ho,he,jX ht,pM.1,rfl⟩
theorem NF (S:List Int)(k:Nat):S.take (S.length-k)++S.drop (S.length-k)=S:=List.take_append_drop _ _
theorem Rc (s:L.gJ)(all:List N.iM)(x:Int)(hT:s.S.drop (s.S.length-1)=[x])(h1:1<=s.S.length)(hw:(match N.place (fR s all) x with|some k=>(match all[k]? with|some e=>if e.kind=2 then(0:Int) else 9|none=>9)|none=>9)=9):N.kC (fR s all) [64]=(fR s all,9,aC):=by
 unfold N.kC;have ht:N.takes [64]=(1,0,1,0):=by decide
 have hl:(fR s all).S.drop ((fR s all).S.length-1)=[x]:=hT;simp only[ht,hl];rw[dL (by show ¬(s.S.length<1\/s.R.length<0);omega)];have zZ:N.lG (fR s all) [64] [x]=9:=hw;rw[zZ];rfl
theorem Na (s:L.gJ)(all:List N.iM)(x:Int)(k:Nat)(e:N.iM)(hT:s.S.drop (s.S.length-1)=[x])(h1:1<=s.S.length)(h16:s.S.length<=16)(hR:s.R.length<=16)(ho:s.out.length<=300)(hp:N.place (fR s all) x=aE k)(he:all[k]?=aE e)(hk:e.kind=2):N.kC (fR s all) [64]=(fR (L.jV s 1 0 ⟨[e.n],[],[],0⟩).1 all,(L.jV s 1 0 ⟨[e.n],[],[],0⟩).2,aC):=by
 obtain⟨e',he',_,hx⟩:=wW hp;rw[he] at he';injection he' with he';subst he';unfold N.kC;have ht:N.takes [64]=(1,0,1,0):=by decide
 have hl:(fR s all).S.drop ((fR s all).S.length-1)=[x]:=hT;simp only[ht,hl];rw[dL (by show ¬(s.S.length<1\/s.R.length<0);omega)];have zZ:N.lG (fR s all) [64] [x]=0:=by
  show(match N.place (fR s all) x with|some k=>(match all[k]? with|some e=>if e.kind=2 then(0:Int) else 9|none=>9)|none=>9)=0;rw[hp];simp only[he];rw[eJ hk]
 rw[zZ];have hc:L.jV s 1 0 ⟨[e.n],[],[],0⟩=({s with S:=s.S.take (s.S.length-1)++[e.n],R:=s.R.take (s.R.length-0)++[],out:=s.out++[]},0):=
  (dL (by simp;omega)).trans (dL (by simp;omega))
 rw[hc];simp only[ne_eq,not_true_eq_false,if_false];rw[dL (by show ¬(16<s.S.length-1+1\/16<s.R.length-0+0);omega),dL (by show ¬(300<s.out.length+0);omega)];have hxk:(x-1000).toNat=k:=by omega
 show((⟨all,s.S.take (s.S.length-1)++[(all[(x-1000).toNat]?.map (·.n)).getD 0],s.R,s.out++[],s.steps⟩:N.cE),(0:Int),(aC:Option Nat))=_;rw[hxk,he];simp[fR]
theorem CO (w:aY)(mb rb:Nat)(vO vB vW vS vR vT:aG)(wv:List Own)(s:L.gJ)(all:List N.iM)(h:lL w mb rb vO vB vW vS vR vT wv s all):
 bH aQ 63 #[aK (aE ⟨rb,0,aC⟩),dD ⟨[64],1,0,3⟩] w λr w' =>r=aM (aH aF (N.kC (fR s all) [64]).2.1)/\(N.kC (fR s all) [64]).2.2=aC/\gU mb rb vO vB vW vS vR vT wv s (N.kC (fR s all) [64]).1 (N.kC (fR s all) [64]).2.1 w w' :=by
 by_cases hu:s.S.length<1\/s.R.length<0
 ·have hd:N.kC (fR s all) [64]=(fR s all,6,aC):=eJ hu;rw[hd];exact(Ap w mb rb vO vB vW vS vR vT s _ 1 0 3 h.run hu).mono λr w' hh=>⟨hh.1,rfl,gU.stay h.run h.own hh.2⟩
 ·have h1:1<=s.S.length:=by omega
  have pJ:(s.S.drop (s.S.length-1)).length=1:=by rw[List.length_drop];omega
  obtain⟨x,hx⟩:∃x,s.S.drop (s.S.length-1)=[x]:=List.length_eq_one_iff.1 pJ;have tail:∀(code:Int) (Q:aY->aY->Prop),(∀W,bA w.heap.size w W->bH aQ 102 #[aK (aE ⟨rb,0,aC⟩),mE wv (N.place (fR s all) x)] W λr w' =>r=aM (aH aF code)/\Q W w')->
   bH aQ 63 #[aK (aE ⟨rb,0,aC⟩),dD ⟨[64],1,0,3⟩] w λr w' =>r=aM (aH aF code)/\∃W,bA w.heap.size w W/\Q W w' :=by
   intro code Q hF;refine(uI w mb rb vO vB vW vS vR vT s ⟨#[64]⟩ 1 0 3 code (λW w' =>∃W',bA W.heap.size W W' /\bA w.heap.size w W/\Q W' w') h.run h1 (bZ _) λFY pI hs _=>.inl ⟨rfl,λW hb=>?_⟩).mono ?_
   ·rw[hx] at hs;obtain⟨b,o,c,y,hy,rfl,hc⟩:=uB hs rfl;injection hy with hy;subst hy;refine(L9 W mb rb b o c 1 0 rfl (by decide) x (mE wv (N.place (fR s all) x)) code (λW' w' =>Q W' w') (aZ (h.run.below hb).r rfl) (dX hc hb) (bE λW1 fF=>?_) (bE λW1 fF=>?_)).mono ?_
    ·have vG:=(h.below hb).below fF;exact Ke W1 mb x s all wv vO vB (aZ vG.run.m rfl) vG.own
    ·exact hF W1 (hb.trans (fF.mono hb.size))
    ·rintro r w' ⟨rfl,W',Ew,hq⟩;exact⟨rfl,W',Ew,hb,hq⟩
   ·rintro r w' ⟨rfl,W,_,W',Ew,hb,hq⟩;exact⟨rfl,W',hb.trans (Ew.mono hb.size),hq⟩
  rcases K5 h.own s x with ⟨r5,hw⟩|⟨k,b,e,hp,ho,he,kY,tC,hv⟩
  ·rw[Rc s all x hx h1 hw];refine(tail 9 (λW w' =>w' =W) λW hb=>IW W rb _ r5).mono ?_;rintro r w' ⟨rfl,W,hb,rfl⟩;exact⟨rfl,rfl,gU.stay h.run h.own hb⟩
  ·rw[Na s all x k e hx h1 h.run.sl h.run.rl h.run.ol hp he tC];refine(tail (L.jV s 1 0 ⟨[e.n],[],[],0⟩).2 (λW w' =>gU mb rb vO vB vW vS vR vT wv s (fR (L.jV s 1 0 ⟨[e.n],[],[],0⟩).1 all) (L.jV s 1 0 ⟨[e.n],[],[],0⟩).2 W w') λW hb=>?_).mono ?_
   ·rw[hv];have hr:=h.below hb;obtain⟨_,nM,eP⟩:=hr.own.tA k e _ he ho kY;have hba:bA W.heap.size W (W.alloc (aU #[aH aF e.n] 3)):=(bF _ _).alloc (bD _) _;refine Y1 W rb b e.n _ _ (aZ eP rfl) (bE ?_);refine(Ah (W.alloc (aU #[aH aF e.n] 3)) mb rb vO vB vW vS vR vT _ s 1 0 W.heap.size ⟨[e.n],[],[],0⟩ (hr.run.below hba) (λk hk=>hr.run.lt k (.inl hk))
     ⟨_,_,rfl,lY W [aH aF e.n] 3 rfl rfl,lN.nil _,sN (bD _),kU⟩ h1 (bZ _) (by simp) (by simp) (by simp) (by simpa using nM) (by simp)).mono ?_
    rintro r w' ⟨rfl,hg⟩;exact⟨rfl,gU.after hba (gU.Jr (hr.run.below hba) (hr.own.below hba) hg (L.uQ _ _ _ _))⟩
   ·rintro r w' ⟨rfl,W,hb,hg⟩;exact⟨rfl,rfl,gU.after hb hg⟩
theorem Pz (s:L.gJ)(all:List N.iM)(x y:Int)(hT:s.S.drop (s.S.length-2)=[x,y])(h1:2<=s.S.length)(hw:(match N.place (fR s all) y with|some k=>(match all[k]? with|some e=>if e.kind=2 then(0:Int) else 9|none=>9)|none=>9)=9):N.kC (fR s all) [33]=(fR s all,9,aC):=by
 unfold N.kC;have ht:N.takes [33]=(2,0,0,0):=by decide
 have hl:(fR s all).S.drop ((fR s all).S.length-2)=[x,y]:=hT;simp only[ht,hl];rw[dL (by show ¬(s.S.length<2\/s.R.length<0);omega)];have zZ:N.lG (fR s all) [33] [x,y]=9:=hw;rw[zZ];rfl
theorem Nj (s:L.gJ)(all:List N.iM)(x y:Int)(k:Nat)(e:N.iM)(hT:s.S.drop (s.S.length-2)=[x,y])(h1:2<=s.S.length)(h16:s.S.length<=16)(hR:s.R.length<=16)(ho:s.out.length<=300)(hp:N.place (fR s all) y=aE k)(he:all[k]?=aE e)(hk:e.kind=2):N.kC (fR s all) [33]=(fR (L.jV s 2 0 ⟨[],[],[],0⟩).1 (all.modify k λe=>{e with n:=x}),(L.jV s 2 0 ⟨[],[],[],0⟩).2,aC)/\(L.jV s 2 0 ⟨[],[],[],0⟩).2=0:=by
 obtain⟨e',he',_,hx⟩:=wW hp;unfold N.kC;have ht:N.takes [33]=(2,0,0,0):=by decide
 have hl:(fR s all).S.drop ((fR s all).S.length-2)=[x,y]:=hT;simp only[ht,hl];rw[dL (by show ¬(s.S.length<2\/s.R.length<0);omega)];have zZ:N.lG (fR s all) [33] [x,y]=0:=by
  show(match N.place (fR s all) y with|some k=>(match all[k]? with|some e=>if e.kind=2 then(0:Int) else 9|none=>9)|none=>9)=0;rw[hp];simp only[he];rw[eJ hk]
 rw[zZ];have hc:L.jV s 2 0 ⟨[],[],[],0⟩=({s with S:=s.S.take (s.S.length-2)++[],R:=s.R.take (s.R.length-0)++[],out:=s.out++[]},0):=
  (dL (by simp;omega)).trans (dL (by simp;omega))
 rw[hc];simp only[ne_eq,not_true_eq_false,if_false];rw[dL (by show ¬(16<s.S.length-2+0\/16<s.R.length-0+0);omega),dL (by show ¬(300<s.out.length+0);omega)];have hxk:(y-1000).toNat=k:=by omega
 refine⟨?_,trivial⟩;show((⟨all.modify (y-1000).toNat λe=>{e with n:=x},s.S.take (s.S.length-2),s.R,s.out++[],s.steps⟩:N.cE),(0:Int),(aC:Option Nat))=_;rw[hxk];simp[fR]
variable {cs:Array aG}
theorem eV.DI (h:eV w mb rb vO vB vW vS vR vT s)(hb:w.heap[b]?=aE (aU cs 129))(u:aG):eV (w.setCell ⟨b,2,aC⟩ u) mb rb vO vB vW vS vR vT s:=by
 refine h.kept λk hk=>bA.heap_setCell _ _ _ _ ?_
 rintro rfl;rcases hk with hk|hk
 ·exact jC h ⟨_,_,_,hb,.inr (.inl rfl)⟩ hk
 ·exact bW h.wd hb (by decide) hk
theorem Z4 (w:aY)(mb rb:Nat)(vO vB vW vS vR vT:aG)(wv:List Own)(s:L.gJ)(all:List N.iM)(h:lL w mb rb vO vB vW vS vR vT wv s all):
 bH aQ 63 #[aK (aE ⟨rb,0,aC⟩),dD ⟨[33],2,0,3⟩] w λr w' =>r=aM (aH aF (N.kC (fR s all) [33]).2.1)/\(N.kC (fR s all) [33]).2.2=aC/\gU mb rb vO vB vW vS vR vT wv s (N.kC (fR s all) [33]).1 (N.kC (fR s all) [33]).2.1 w w' :=by
 by_cases hu:s.S.length<2\/s.R.length<0
 ·have hd:N.kC (fR s all) [33]=(fR s all,6,aC):=eJ hu;rw[hd];exact(Ap w mb rb vO vB vW vS vR vT s _ 2 0 3 h.run hu).mono λr w' hh=>⟨hh.1,rfl,gU.stay h.run h.own hh.2⟩
 ·have h1:2<=s.S.length:=by omega
  have pJ:(s.S.drop (s.S.length-2)).length=2:=by rw[List.length_drop];omega
  obtain⟨x,y,hx⟩:∃x y,s.S.drop (s.S.length-2)=[x,y]:=by
   match s.S.drop (s.S.length-2),pJ with
   |[x,y],_=>exact⟨x,y,rfl⟩
  have tail:∀(code:Int) (Q:aY->aY->Prop),(∀W,bA w.heap.size w W->bH aQ 103 #[aK (aE ⟨rb,0,aC⟩),mE wv (N.place (fR s all) y),aH aF x] W λr w' =>r=aM (aH aF code)/\Q W w')->
   bH aQ 63 #[aK (aE ⟨rb,0,aC⟩),dD ⟨[33],2,0,3⟩] w λr w' =>r=aM (aH aF code)/\∃W,bA w.heap.size w W/\Q W w' :=by
   intro code Q hF;refine(uI w mb rb vO vB vW vS vR vT s ⟨#[33]⟩ 2 0 3 code (λW w' =>∃W',bA W.heap.size W W' /\bA w.heap.size w W/\Q W' w') h.run h1 (bZ _) λFY pI hs _=>.inl ⟨rfl,λW hb=>?_⟩).mono ?_
   ·rw[hx] at hs;obtain⟨b,o,c,x',y',hy,rfl,hc0,GQ⟩:=pO hs rfl;injection hy with hy1 NR;injection NR with NR;subst hy1 NR;refine(I4 W mb rb b o c 2 1 rfl (by decide) y x (mE wv (N.place (fR s all) y)) code (λW' w' =>Q W' w') (aZ (h.run.below hb).r rfl) (dX GQ hb) (dX hc0 hb) (bE λW1 fF=>?_) (bE λW1 fF=>?_)).mono ?_
    ·have vG:=(h.below hb).below fF;exact Ke W1 mb y s all wv vO vB (aZ vG.run.m rfl) vG.own
    ·exact hF W1 (hb.trans (fF.mono hb.size))
    ·rintro r w' ⟨rfl,W',Ew,hq⟩;exact⟨rfl,W',Ew,hb,hq⟩
   ·rintro r w' ⟨rfl,W,_,W',Ew,hb,hq⟩;exact⟨rfl,W',hb.trans (Ew.mono hb.size),hq⟩
  rcases K5 h.own s y with ⟨r5,hw⟩|⟨k,b,e,hp,ho,he,kY,tC,hv⟩
  ·rw[Pz s all x y hx h1 hw];refine(tail 9 (λW w' =>w' =W) λW hb=>MB W rb _ x r5).mono ?_;rintro r w' ⟨rfl,W,hb,rfl⟩;exact⟨rfl,rfl,gU.stay h.run h.own hb⟩
  ·obtain⟨hpr,hc0⟩:=Nj s all x y k e hx h1 h.run.sl h.run.rl h.run.ol hp he tC;rw[hpr];have hxin:dQ x:=h.run.si x (List.mem_of_mem_drop (i:=s.S.length-2) (by rw[hx];simp));refine(tail (L.jV s 2 0 ⟨[],[],[],0⟩).2 (λW w' =>gU mb rb vO vB vW vS vR vT wv s (fR (L.jV s 2 0 ⟨[],[],[],0⟩).1 (all.modify k λe=>{e with n:=x})) (L.jV s 2 0 ⟨[],[],[],0⟩).2 W w') λW hb=>?_).mono ?_
   ·rw[hv];have hr:=h.below hb;obtain⟨_,nM,eP⟩:=hr.own.tA k e _ he ho kY;have TL:=hr.run.DI eP (aH aF x);have hown2:=hr.own.DI ho he kY hxin;refine BD W rb b e.n x _ _ (aZ eP rfl) (bG 2 eP) (bE ?_);refine(Ah (W.setCell ⟨b,2,aC⟩ (aH aF x)) mb rb vO vB vW vS vR vT _ s 2 0 (W.setCell ⟨b,2,aC⟩ (aH aF x)).heap.size ⟨[],[],[],0⟩ TL (λk hk=>TL.lt k (.inl hk))
     ⟨_,_,rfl,lN.nil _,lN.nil _,kU,kU⟩ h1 (bZ _) (by simp) (by simp) (by simp) (by simp) (by simp)).mono ?_
    rintro r w' ⟨rfl,hg⟩;refine⟨rfl,?_⟩;obtain⟨oJ,v1,v2,v3,s',g1,g2,g3,g4,g5⟩:=gU.Jr (code:=(L.jV s 2 0 ⟨[],[],[],0⟩).2) TL hown2 hg (L.uQ _ _ _ _);have pL:Mv (iO mb rb vO vS vR vT wv) W (W.setCell ⟨b,2,aC⟩ (aH aF x)):=(Mv.refl _ _).setCell (.inl (.inr (.inl ⟨k,ho⟩))) _;exact⟨oJ,v1,v2,v3,s',g1,g2,pL.trans (dG.refl _ _) g3,(dG.refl _ _).trans pL.size g4,g5⟩
   ·rintro r w' ⟨rfl,W,hb,hg⟩;exact⟨rfl,rfl,gU.after hb hg⟩
section
attribute [local go_sem ↓] Go.wp_at_zero Go.wp_at_succ
def lV (r:List (Int×Int)):List aG:=r.flatMap λp=>[aH aF p.2,aH aF p.1]
theorem tZ (r:List (Int×Int)):(lV r).length=r.length*2:=by
 induction r with
 |nil=>rfl
 |cons p t ih=>
  simp[lV] at ih ⊢;omega
theorem qF (r:List (Int×Int))(p:Int×Int):lV (r++[p])=lV r++[aH aF p.2,aH aF p.1]:=by simp[lV]
structure mS (w:aY) (cb rb db pos:Nat) (vL:aG) (r:List (Int×Int)):Prop where
 c:w.heap[cb]?=aE (aU #[aK (aE ⟨rb,0,aC⟩),aK (aE ⟨db,0,aC⟩),aH aF pos,vL] 163)
 l:w.ownsRow 0 206 2 vL r.length (lV r)
 li:∀p∈r,dQ p.1/\dQ p.2
variable {base z:Nat}
theorem cJ (h:w.ownsRow base e z v n xs)(hk:v.ownBlock=aE k):∃cur,w.heap[k]?=aE (aU cur e):=by
 rcases h.2 with ⟨rfl,_⟩|⟨g,cap,cur,rfl,_,hg,_⟩
 ·simp[aG.ownBlock] at hk
 ·simp[aG.ownBlock] at hk;subst hk;exact⟨cur,hg⟩
theorem cV (h:w.ownsRow base e z v n xs)(hk:∀k,v.ownBlock=aE k->w'.heap[k]?=w.heap[k]?):w'.ownsRow base e z v n xs:=by
 refine⟨h.1,?_⟩;rcases h.2 with h1|⟨g,cap,cur,rfl,hb,hg,hr⟩
 ·exact .inl h1
 ·exact .inr ⟨g,cap,cur,rfl,hb,by rw[hk g rfl];exact hg,hr⟩
variable {cap:Nat}
theorem Gb {a:Option Addr}(h:w.ownsRow base e z (aJ a n cap) n xs)(k:Nat)(hk:k<=n):w.ownsRow base e z (aJ a k cap) k (xs.take (k*z)):=by
 have hl:=h.1;have hkz:k*z<=n*z:=Nat.mul_le_mul_right z hk;refine⟨by rw[dH];omega,?_⟩;rcases h.2 with ⟨h1,h2⟩|⟨g,mT,cur,h1,hb,hg,hle,hm,hs,ht⟩
 ·injection h1 with h3 h4 h5;exact .inl ⟨by rw[h3,h5,show k=0 by omega],by omega⟩
 ·injection h1 with h3 h4 h5;subst h5;refine .inr ⟨g,cap,cur,by rw[h3],hb,hg,by omega,hm,hs,?_⟩;rw[<-ht,List.take_take,Nat.min_eq_left hkz]
def Cz (w:aY) (k:Nat):Prop:=∃cs t fr,w.heap[k]?=aE (aU cs t fr)/\(t=163\/t=206)
variable {cb pos:Nat}{vL:aG}{r:List (Int×Int)}
theorem mS.block {db:Nat}(h:mS w cb rb db pos vL r)(hk:k=cb\/vL.ownBlock=aE k):Cz w k:=by
 rcases hk with rfl|hk
 ·exact⟨_,_,_,h.c,.inl rfl⟩
 ·obtain⟨cur,hc⟩:=cJ h.l hk;exact⟨_,_,_,hc,.inr rfl⟩
theorem mS.kept {db:Nat}(h:mS w cb rb db pos vL r)(hk:∀k,k=cb\/vL.ownBlock=aE k->w'.heap[k]?=w.heap[k]?):mS w' cb rb db pos vL r:=
 ⟨(hk cb (.inl rfl)).trans h.c,cV h.l λk e=>hk k (.inr e),h.li⟩
theorem Wd (h:Cz w k):k<w.heap.size:=by
 obtain⟨_,_,_,h,_⟩:=h;exact cC h
theorem mS.below {db:Nat}(h:mS w cb rb db pos vL r)(hb:bA w.heap.size w w'):mS w' cb rb db pos vL r:=
 h.kept λk hk=>hb.block k (Wd (h.block hk))
variable {t:TypeId}{fr:Nat×Nat}
theorem cM {YT :Array aG}{t' :TypeId}{fr' :Nat×Nat}(h:w.heap[k]?=aE (aU cs t fr))(h' :w.heap[k]?=aE (aU YT t' fr')):t=t' :=by
 rw[h] at h';injection h' with h';injection h'
theorem yV (h:eV w mb rb vO vB vW vS vR vT s)(hk:Cz w k):¬(kZ mb rb vS vR vT k\/vW.ownBlock=aE k):=by
 obtain⟨cs,t,fr,hc,ht⟩:=hk;rintro((rfl|rfl|e|e|e)|e)
 ·have:=cM hc h.m;subst this
  revert ht
  decide
 ·have:=cM hc h.r;subst this
  revert ht
  decide
 ·obtain⟨_,h'⟩:=cZ h.st e;have:=cM hc h';subst this
  revert ht
  decide
 ·obtain⟨_,h'⟩:=cZ h.Fv e;have:=cM hc h';subst this
  revert ht
  decide
 ·obtain⟨_,h'⟩:=cZ h.ot e;have:=cM hc h';subst this
  revert ht
  decide
 ·obtain⟨_,h'⟩:=cZ h.wd e;have:=cM hc h';subst this
  revert ht
  decide
theorem vQ (h:oV w k)(hk:Cz w k):False:=by
 obtain⟨_,t,_,h1,h2⟩:=h;obtain⟨_,t',_,h3,h4⟩:=hk;have:=cM h1 h3;subst this
 revert h2 h4
 rintro(rfl|rfl|rfl|rfl) <;> decide
theorem We (h:jE w all wv vO vB)(hk:Lq wv k):oV w k:=by
 obtain⟨j,hj⟩:=hk;obtain⟨e,he,kY⟩:=h.VP j k hj;obtain⟨_,_,hb⟩:=h.tA j e _ he hj kY;exact⟨_,_,_,hb,.inr (.inl rfl)⟩
theorem X6 (w:aY)(cb rb:Nat)(goal:Int)(P:aY->Prop)(h0:w.cell? ⟨cb,0,aC⟩=aE (aK (aE ⟨rb,0,aC⟩)))(H:Hid (bH aQ 114 #[aK (aE ⟨rb,0,aC⟩),aH aF 1] w λr w' =>r=aM (bC #[aJ aC 0 0,aH aF 6])/\P w')):
 bH aQ 129 #[aK (aE ⟨cb,0,aC⟩),aH aF goal] w λr w' =>r=aM (aH aF 6)/\P w' :=by
 go_enter func129,ntmps129;go_wp2_with fail
 refine(aN H).mono ?_;rintro e w1 ⟨rfl,hP⟩;have HP:=bE hP;clear hP;go_wp2;go_ret;exact⟨rfl,aN HP⟩
theorem KF (w:aY)(cb rb:Nat)(goal pos:Int)(P:aY->Prop)(h0:w.cell? ⟨cb,0,aC⟩=aE (aK (aE ⟨rb,0,aC⟩)))(H:Hid (bH aQ 114 #[aK (aE ⟨rb,0,aC⟩),aH aF 1] w λr w' =>∃g o c,r=aM (bC #[aJ (aE ⟨g,o,aC⟩) 1 c,aH aF 0])/\w'.cell? ⟨g,o,aC⟩=aE (aH aF 0)/\w'.cell? ⟨cb,2,aC⟩=aE (aH aF pos)/\w'.frozen? ⟨cb,2,aC⟩=aV/\P w')):
 bH aQ 129 #[aK (aE ⟨cb,0,aC⟩),aH aF goal] w λr w' =>r=aM (aH aF 0)/\∃w1,P w1/\w' =w1.setCell ⟨cb,2,aC⟩ (aH aF goal):=by
 go_enter func129,ntmps129;go_wp2_with fail
 refine(aN H).mono ?_;rintro e w1 ⟨g,o,c,rfl,c0,c2,f2,hP⟩;have HP:=bE hP;clear hP;go_wp2;go_ret;exact⟨rfl,w1,aN HP,rfl⟩
theorem V2 (w:aY)(cb rb:Nat)(x goal:Int)(hx:(x==0)=aV)(P:aY->Prop)(h0:w.cell? ⟨cb,0,aC⟩=aE (aK (aE ⟨rb,0,aC⟩)))(H:Hid (bH aQ 114 #[aK (aE ⟨rb,0,aC⟩),aH aF 1] w λr w' =>∃g o c,r=aM (bC #[aJ (aE ⟨g,o,aC⟩) 1 c,aH aF 0])/\w'.cell? ⟨g,o,aC⟩=aE (aH aF x)/\P w')):
 bH aQ 129 #[aK (aE ⟨cb,0,aC⟩),aH aF goal] w λr w' =>r=aM (aH aF 0)/\P w' :=by
 go_enter func129,ntmps129;go_wp2_with fail
 refine(aN H).mono ?_;rintro e w1 ⟨g,o,c,rfl,c0,hP⟩;have HP:=bE hP;clear hP;go_wp2;go_ret;exact⟨rfl,aN HP⟩
theorem G1 (w:aY)(cb rb:Nat)(goal:Int)(P:aY->Prop)(h0:w.cell? ⟨cb,0,aC⟩=aE (aK (aE ⟨rb,0,aC⟩)))(H:Hid (bH aQ 114 #[aK (aE ⟨rb,0,aC⟩),aH aF 2] w λr w' =>r=aM (bC #[aJ aC 0 0,aH aF 6])/\P w')):
 bH aQ 130 #[aK (aE ⟨cb,0,aC⟩),aH aF goal] w λr w' =>r=aM (aH aF 6)/\P w' :=by
 go_enter func130,ntmps130;go_wp2_with fail
 refine(aN H).mono ?_;rintro e w1 ⟨rfl,hP⟩;have HP:=bE hP;clear hP;go_wp2;go_ret;exact⟨rfl,aN HP⟩
theorem AP (w:aY)(cb rb:Nat)(x y goal pos:Int)(hxy:¬y<x)(P:aY->Prop)(h0:w.cell? ⟨cb,0,aC⟩=aE (aK (aE ⟨rb,0,aC⟩)))(H:Hid (bH aQ 114 #[aK (aE ⟨rb,0,aC⟩),aH aF 2] w λr w' =>∃g o c,r=aM (bC #[aJ (aE ⟨g,o,aC⟩) 2 c,aH aF 0])/\w'.cell? ⟨g,o,aC⟩=aE (aH aF x)/\w'.cell? ⟨g,o+1,aC⟩=aE (aH aF y)/\w'.cell? ⟨cb,2,aC⟩=aE (aH aF pos)/\w'.frozen? ⟨cb,2,aC⟩=aV/\P w')):
 bH aQ 130 #[aK (aE ⟨cb,0,aC⟩),aH aF goal] w λr w' =>r=aM (aH aF 0)/\∃w1,P w1/\w' =w1.drew.setCell ⟨cb,2,aC⟩ (aH aF goal):=by
 go_enter func130,ntmps130;go_wp2_with fail
 refine(aN H).mono ?_;rintro e w1 ⟨g,o,c,rfl,c0,c1,c2,f2,hP⟩;have HP:=bE hP;clear hP;go_wp2;go_region_held3 (λw' =>w'.cell? ⟨g,o,aC⟩=aE (aH aF x)/\w'.cell? ⟨g,o+1,aC⟩=aE (aH aF y)) (first|exact⟨c0,c1⟩|go_keep) (fail)
 go_wp2;go_ret;exact⟨rfl,w1,aN HP,rfl⟩
end
namespace N
open Go.RowKit
def gC (f:Nat) (m:cE) (depth:Nat) (c:Cell):cE×Int:=
 if c.kind=1 then push m c.n
 else if c.kind=2 then owns f m c.n.toNat depth
 else match (kC m c.name).2.2 with
  |some j=>owns f (kC m c.name).1 j depth
  |none=>((kC m c.name).1,(kC m c.name).2.1)
def pC (f:Nat) (k:Nat) (l:List Cell) (depth:Nat) (p:cE×Int) (next:Nat) (r:List (Int×Int)):cE×Int:=if p.2≠0 then p else body f p.1 k l depth next r
def dI (m:cE):cE:={m with steps:=m.steps+1}
theorem wQ (f:Nat)(m:cE)(k:Nat)(l:List Cell)(depth at' :Nat)(r:List (Int×Int))(h:l[at']?=aC):body (f+1) m k l depth at' r=(m,0):=by
 rw[body,h]
theorem Dm (f:Nat)(m:cE)(k:Nat)(l:List Cell)(depth at' :Nat)(r:List (Int×Int))(c:Cell)(h:l[at']?=aE c)(hs:1000<=m.steps):body (f+1) m k l depth at' r=(dI m,14):=by
 rw[body,h];exact if_pos hs
theorem Eo (f:Nat)(m:cE)(depth j:Nat):(match m.all[j]? with
 |none=>(m,(0:Int))
 |some e=>if e.kind=2 then push m (1000+j) else if e.kind=3 then push m e.n else if e.kind=4 then(kF m j,0) else if 12<=depth then(m,13) else body f m j e.body (depth+1) 0 [])=owns f m j depth:=by
 unfold owns;cases m.all[j]? <;> rfl
theorem tY (f:Nat)(m:cE)(k:Nat)(l:List Cell)(depth at' :Nat)(r:List (Int×Int))(c:Cell)(h:l[at']?=aE c)(hs:¬1000<=m.steps)(hk:c.kind=1\/c.kind=2\/c.kind=3):
 body (f+1) m k l depth at' r=pC f k l depth (gC f (dI m) depth c) (at' +1) r:=by
 rw[body,h];simp only[if_neg hs];rcases hk with hk|hk|hk
 ·have e1:gC f (dI m) depth c=push (dI m) c.n:=if_pos hk;rw[e1];exact if_pos hk
 ·have e1:gC f (dI m) depth c=owns f (dI m) c.n.toNat depth:=(if_neg (by omega)).trans (if_pos hk);rw[e1];unfold pC;simp only[<-Eo];exact(if_neg (by omega)).trans (if_pos hk)
 ·have e1:gC f (dI m) depth c=match (kC (dI m) c.name).2.2 with|some j=>owns f (kC (dI m) c.name).1 j depth|none=>((kC (dI m) c.name).1,(kC (dI m) c.name).2.1):=(if_neg (by omega)).trans (if_neg (by omega))
  rw[e1];refine((if_neg (by omega)).trans ((if_neg (by omega)).trans (if_pos hk))).trans ?_;show(match (kC (dI m) c.name).2.2 with|some j=>_|none=>_)=_;cases(kC (dI m) c.name).2.2 with
  |none=>rfl
  |some j=>
   unfold pC;simp only[<-Eo];rfl
theorem Wy (f:Nat)(m:cE)(k:Nat)(l:List Cell)(depth at' :Nat)(r:List (Int×Int))(c:Cell)(h:l[at']?=aE c)(hs:¬1000<=m.steps)(hk:c.kind=4):
 body (f+1) m k l depth at' r=
  if c.name==sW then(dI m,0)
  else if c.name==kX then pC f k l depth (owns f (dI m) k depth) (at' +1) r
  else if c.name==iR||c.name==eK||c.name==wI||c.name==fD then pC f k l depth ((rounds (dI m) l at' c.name r).1,(rounds (dI m) l at' c.name r).2.2.2) (rounds (dI m) l at' c.name r).2.1 (rounds (dI m) l at' c.name r).2.2.1
  else pC f k l depth ((ways (dI m) l at' c.name).1,(ways (dI m) l at' c.name).2.2) (ways (dI m) l at' c.name).2.1 r:=by
 rw[body,h];simp only[if_neg hs];refine((if_neg (by omega)).trans ((if_neg (by omega)).trans (if_neg (by omega)))).trans ?_;unfold pC;simp only[<-Eo];rfl
theorem qL (m:cE)(n:Int):(push m n).1.steps=m.steps:=by unfold push;split <;> rfl
theorem EC (m:cE)(s:eE)(l rest:List Int):(kR m s l rest).steps=m.steps:=by
 unfold kR;simp only[apply_ite cE.steps,ite_self]
theorem Sl (m:cE)(s:eE):(kC m s).1.steps=m.steps:=by
 unfold kC;simp only
 repeat' split
 all_goals first
  |rfl
  |exact EC _ _ _ _
theorem MO {m m1:cE}{n:Int}(h:pop m=aE (m1,n)):m1.steps=m.steps:=by
 unfold pop at h;cases hl:m.S.getLast? with
 |none=>rw[hl] at h;cases h
 |some x=>
  rw[hl] at h;injection h with h;injection h with h _;rw[<-h]
theorem Rw (m:cE)(l:List Cell)(a:Nat)(s:eE):(ways m l a s).1.steps=m.steps:=by
 unfold ways
 split
 ·cases hp:pop m with
  |none=>rfl
  |some q=>
   obtain⟨m1,n⟩:=q;have:=MO hp;simp only
   repeat' split
   all_goals exact this
 ·repeat' split
  all_goals rfl
theorem Js (m:cE)(l:List Cell)(a:Nat)(s:eE)(r:List (Int×Int)):(rounds m l a s r).1.steps=m.steps:=by
 unfold rounds;simp only
 repeat' split
 all_goals first
  |rfl
  |exact qL _ _
theorem Vl (m:cE)(k:Nat):(kF m k).steps=m.steps:=rfl
def mW (m:cE) (p:cE×Int):Prop:=m.steps<=p.1.steps/\(p.2=0->m.steps<=1000->p.1.steps<=1000)
theorem fY {m:cE}{p:cE×Int}(h:p.1.steps=m.steps):mW m p:=⟨by omega,λ_ _=>by omega⟩
variable {f:Nat}
theorem uF (hb:∀m k l d a r,mW m (body f m k l d a r))(m:cE)(j depth:Nat):mW m (owns f m j depth):=by
 unfold owns;cases m.all[j]? with
 |none=>exact fY rfl
 |some e=>
  simp only
  split
  ·exact fY (qL _ _)
  ·split
   ·exact fY (qL _ _)
   ·split
    ·exact fY (Vl _ _)
    ·split
     ·exact fY rfl
     ·exact hb _ _ _ _ _ _
theorem Rz (hb:∀m k l d a r,mW m (body f m k l d a r)){m m0:cE}{p:cE×Int}(hp:mW m0 p)(h0:m.steps<=m0.steps)(h1:m.steps<=1000->m0.steps<=1000)(k:Nat)(l:List Cell)(depth next:Nat)(r:List (Int×Int)):mW m (pC f k l depth p next r):=by
 unfold pC
 split
 ·exact⟨cF h0 hp.1,λh hm=>hp.2 h (h1 hm)⟩
 ·rename_i hz
  have hz:p.2=0:=by simpa using hz
  have:=hb p.1 k l depth next r
  exact⟨cF h0 (cF hp.1 this.1),λh hm=>this.2 h (hp.2 hz (h1 hm))⟩
theorem yQ (hb:∀m k l d a r,mW m (body f m k l d a r))(m:cE)(depth:Nat)(c:Cell):mW m (gC f m depth c):=by
 unfold gC
 split
 ·exact fY (qL _ _)
 ·split
  ·exact uF hb _ _ _
  ·cases(kC m c.name).2.2 with
   |none=>exact fY (Sl _ _)
   |some j=>
    have:=uF hb (kC m c.name).1 j depth;unfold mW at this ⊢;rw[Sl] at this;exact this
theorem Gs:∀f m k l d a r,mW m (body f m k l d a r)
 |0,m,_,_,_,_,_=>fY rfl
 |f+1,m,k,l,d,a,r=>by
  have hb:=Gs f;cases hl:l[a]? with
  |none=>
   rw[wQ f m k l d a r hl];exact fY rfl
  |some c=>
   by_cases hs:1000<=m.steps
   ·rw[Dm f m k l d a r c hl hs];exact⟨Nat.le_succ _,λh=>by cases h⟩
   ·have h0:m.steps<=(dI m).steps:=Nat.le_succ _;have h1:m.steps<=1000->(dI m).steps<=1000:=λ_=>by show m.steps+1<=1000;omega
    by_cases hk:c.kind=1\/c.kind=2\/c.kind=3
    ·rw[tY f m k l d a r c hl hs hk];exact Rz hb (yQ hb _ _ _) h0 h1 _ _ _ _ _
    ·have jN:∃p next r',mW (dI m) p/\(body (f+1) m k l d a r=(dI m,0)\/body (f+1) m k l d a r=pC f k l d p next r'):=by
      rw[body,hl];simp only[if_neg hs];rw[if_neg (show ¬c.kind=1 by omega),if_neg (show ¬c.kind=2 by omega),if_neg (show ¬c.kind=3 by omega)]
      split
      ·exact⟨(dI m,0),0,[],fY rfl,.inl rfl⟩
      ·split
       ·refine⟨owns f (dI m) k d,a+1,r,uF hb _ _ _,.inr ?_⟩;unfold pC;simp only[<-Eo];rfl
       ·split
        ·exact⟨((rounds (dI m) l a c.name r).1,(rounds (dI m) l a c.name r).2.2.2),_,_,fY (Js _ _ _ _ _),.inr rfl⟩
        ·exact⟨((ways (dI m) l a c.name).1,(ways (dI m) l a c.name).2.2),_,_,fY (Rw _ _ _ _),.inr rfl⟩
     obtain⟨p,next,r',hp,h2|h2⟩:=jN
     ·rw[h2];exact⟨h0,λ_=>h1⟩
     ·rw[h2];exact Rz hb hp h0 h1 _ _ _ _ _
theorem Gk (f:Nat)(m:cE)(j depth:Nat):mW m (owns f m j depth):=uF (Gs f) m j depth
theorem oH (f:Nat)(m:cE)(depth:Nat)(c:Cell):mW m (gC f m depth c):=yQ (Gs f) m depth c
end N
end Go.Proofs.YtgnlokmeohffaaaGreatDoor
