/- Parts of the proof: see the last text. -/
import Derived.Test.YtgnlokmeohffaaaGreatDoorG4
import Derived.Test.YtgnlokmeohffaaaGreatDoorG6
import Derived.Test.YtgnlokmeohffaaaGreatDoorG7
import Derived.Test.YtgnlokmeohffaaaGreatDoorG10
namespace Go.Proofs.YtgnlokmeohffaaaGreatDoor
set_option maxRecDepth 100000
set_option maxHeartbeats 3200000
open Option renaming none → aC, some → aE
open Go renaming IntKind.i64 → aF, Value → aG, Value.int → aH, Value.string → aI, Value.slice → aJ, Value.pointer → aK, Ending.returned → aM, Obj.cells → aU, World → aY, Value.tuple → bC, Value.bool → bB, Calls → bH, Value.agg → bM
open Go.Proofs.Tryz renaming prog → aQ
open Bool renaming false → aV, true → aX, or_eq_true → dY
open Go.RowKit renaming Below → bA, Below.refl → bF
open Nat renaming le_refl → bD, zero_le → bZ, le_of_lt → cN, zero_add → dC
open List renaming getElem?_eq_some_iff → bI, getElem?_eq_getElem → bL, length_append → bN, getElem?_append_right → bP, getElem?_append_left → bT, mem_of_getElem? → cG, getElem?_map → cI, mem_singleton → dE, take_succ_eq_append_getElem → dF, length_take → dH, not_mem_nil → dR, getElem?_eq_none → dZ, take_of_length_le → eB
open And renaming intro → bK
open Tryz
open Go.RowKit
def fS (w:aY) (rb:Nat) (vA vS vR:aG) (bs:List aG) (m:N.cE) (depth:Int) (s:N.eE):Prop:=
 bH aQ 61 #[aK (aE ⟨rb,0,aC⟩),aI ⟨s.toArray⟩,aH aF depth] w λe w' =>e=aM (aH aF (N.kC m s).2.1)/\dP rb vA vS vR bs (N.kC m s).1 w w'
theorem xU {l:List Int}(h:l.length=1):∃x,l=[x]:=by
 match l,h with
 |[x],_=>exact⟨x,rfl⟩
theorem pN {l:List Int}(h:l.length=2):∃x y,l=[x,y]:=by
 match l,h with
 |[x,y],_=>exact⟨x,y,rfl⟩
theorem JV {l:List Int}(h:l.length=3):∃x y z,l=[x,y,z]:=by
 match l,h with
 |[x,y,z],_=>exact⟨x,y,z,rfl⟩
theorem BG (w:aY)(rb:Nat)(vA vS vR:aG)(bs:List aG)(m:N.cE)(depth:Int)(h:cH w rb vA vS vR bs m):fS w rb vA vS vR bs m depth [110,111,116]:=by
 have ht:N.takes [110,111,116]=(1,0,1,0):=rfl;have hR:=h.rl;unfold fS;by_cases hu:m.S.length<1\/m.R.length<0
 ·rw[fO m _ ht hu];exact iV w rb vA vS vR bs m depth _ 1 0 1 0 h hu (vV w)
 obtain⟨rest,l,hS,hl⟩:=iT m.S 1 (λx=>hu (.inl x));obtain⟨x,rfl⟩:=xU hl;have hw:N.lG m [110,111,116] [x]=0:=rfl;have hW:=λ(W:aY) (vl:aG)=>gY W (aK (aE ⟨rb,0,aC⟩)) vl ⟨#[110,111,116]⟩ (bQ rfl) (bQ rfl) (bQ rfl) (bQ rfl) (bQ rfl) (bQ rfl)
 have sB:∀W:aY,bH aQ 80 #[aI ⟨#[110,111,116]⟩,aH aF x] W λe w' =>e=aM (aI ⟨([]:List UInt8).toArray⟩)/\bA W.heap.size W w' :=λW=>(eX _ x W (bQ rfl) (bQ rfl) (bQ rfl)).mono λe w' h=>⟨h.1,h.2▸bF _ _⟩
 rw[jO m _ ht hS hl (bZ _),hw];by_cases ho:16<rest.length+1\/16<m.R.length-0+0
 ·rw[dL (by simp),eJ ho];exact Aa w rb vA vS vR bs m depth _ 1 0 [] rest x h hS (by decide) (by decide) 7 (vV w) (.inr (.inl ⟨rfl,ho,λW gl cap _ _=>hW W _⟩))
 rw[dL (by simp),dL ho,dL (by show ¬300<m.out.length+0;have:=h.ol;omega)];exact fw w rb vA vS vR bs m depth _ 1 0 [] rest x h hS (by decide) (by decide) (by omega) (by omega) (by have:=h.ol;simpa using this) (vV w) (λW gl cap _ _=>hW W _) sB ⟨rfl,rfl,rfl⟩
theorem AZ (w:aY)(rb:Nat)(vA vS vR:aG)(bs:List aG)(m:N.cE)(depth:Int)(h:cH w rb vA vS vR bs m):fS w rb vA vS vR bs m depth [100,117,112]:=by
 have ht:N.takes [100,117,112]=(1,0,2,0):=rfl;have hR:=h.rl;unfold fS;by_cases hu:m.S.length<1\/m.R.length<0
 ·rw[fO m _ ht hu];exact iV w rb vA vS vR bs m depth _ 1 0 2 0 h hu (vY w)
 obtain⟨rest,l,hS,hl⟩:=iT m.S 1 (λx=>hu (.inl x));obtain⟨x,rfl⟩:=xU hl;have hw:N.lG m [100,117,112] [x]=0:=rfl;have hW:=λ(W:aY) (vl:aG)=>gY W (aK (aE ⟨rb,0,aC⟩)) vl ⟨#[100,117,112]⟩ (bQ rfl) (bQ rfl) (bQ rfl) (bQ rfl) (bQ rfl) (bQ rfl)
 have sB:∀W:aY,bH aQ 80 #[aI ⟨#[100,117,112]⟩,aH aF x] W λe w' =>e=aM (aI ⟨([]:List UInt8).toArray⟩)/\bA W.heap.size W w' :=λW=>(eX _ x W (bQ rfl) (bQ rfl) (bQ rfl)).mono λe w' h=>⟨h.1,h.2▸bF _ _⟩
 rw[jO m _ ht hS hl (bZ _),hw];by_cases ho:16<rest.length+2\/16<m.R.length-0+0
 ·rw[dL (by simp),eJ ho];exact Aa w rb vA vS vR bs m depth _ 2 0 [] rest x h hS (by decide) (by decide) 7 (vY w) (.inr (.inl ⟨rfl,ho,λW gl cap _ _=>hW W _⟩))
 rw[dL (by simp),dL ho,dL (by show ¬300<m.out.length+0;have:=h.ol;omega)];exact ib w rb vA vS vR bs m depth _ 2 0 [] rest x h hS (by decide) (by decide) (by omega) (by omega) (by have:=h.ol;simpa using this) (vY w) (λW gl cap _ _=>hW W _) sB (.inl ⟨rfl,rfl,rfl⟩)
theorem C9 (w:aY)(rb:Nat)(vA vS vR:aG)(bs:List aG)(m:N.cE)(depth:Int)(h:cH w rb vA vS vR bs m):fS w rb vA vS vR bs m depth [100,114,111,112]:=by
 have ht:N.takes [100,114,111,112]=(1,0,0,0):=rfl;have hR:=h.rl;unfold fS;by_cases hu:m.S.length<1\/m.R.length<0
 ·rw[fO m _ ht hu];exact iV w rb vA vS vR bs m depth _ 1 0 0 0 h hu (wB w)
 obtain⟨rest,l,hS,hl⟩:=iT m.S 1 (λx=>hu (.inl x));obtain⟨x,rfl⟩:=xU hl;have hw:N.lG m [100,114,111,112] [x]=0:=rfl;have hW:=λ(W:aY) (vl:aG)=>gY W (aK (aE ⟨rb,0,aC⟩)) vl ⟨#[100,114,111,112]⟩ (bQ rfl) (bQ rfl) (bQ rfl) (bQ rfl) (bQ rfl) (bQ rfl)
 have sB:∀W:aY,bH aQ 80 #[aI ⟨#[100,114,111,112]⟩,aH aF x] W λe w' =>e=aM (aI ⟨([]:List UInt8).toArray⟩)/\bA W.heap.size W w' :=λW=>(eX _ x W (bQ rfl) (bQ rfl) (bQ rfl)).mono λe w' h=>⟨h.1,h.2▸bF _ _⟩
 rw[jO m _ ht hS hl (bZ _),hw];by_cases ho:16<rest.length+0\/16<m.R.length-0+0
 ·rw[dL (by simp),eJ ho];exact Aa w rb vA vS vR bs m depth _ 0 0 [] rest x h hS (by decide) (by decide) 7 (wB w) (.inr (.inl ⟨rfl,ho,λW gl cap _ _=>hW W _⟩))
 rw[dL (by simp),dL ho,dL (by show ¬300<m.out.length+0;have:=h.ol;omega)];exact ib w rb vA vS vR bs m depth _ 0 0 [] rest x h hS (by decide) (by decide) (by omega) (by omega) (by have:=h.ol;simpa using this) (wB w) (λW gl cap _ _=>hW W _) sB (.inr (.inl ⟨rfl,rfl,rfl⟩))
theorem v8 (w:aY)(rb:Nat)(vA vS vR:aG)(bs:List aG)(m:N.cE)(depth:Int)(h:cH w rb vA vS vR bs m):fS w rb vA vS vR bs m depth [115,119,97,112]:=by
 have ht:N.takes [115,119,97,112]=(2,0,2,0):=rfl;have hR:=h.rl;unfold fS;by_cases hu:m.S.length<2\/m.R.length<0
 ·rw[fO m _ ht hu];exact iV w rb vA vS vR bs m depth _ 2 0 2 0 h hu (wK w)
 obtain⟨rest,l,hS,hl⟩:=iT m.S 2 (λx=>hu (.inl x));obtain⟨x,y,rfl⟩:=pN hl;have hw:N.lG m [115,119,97,112] [x,y]=0:=rfl;have hW:=λ(W:aY) (vl:aG)=>gY W (aK (aE ⟨rb,0,aC⟩)) vl ⟨#[115,119,97,112]⟩ (bQ rfl) (bQ rfl) (bQ rfl) (bQ rfl) (bQ rfl) (bQ rfl)
 have sB:∀W:aY,bH aQ 80 #[aI ⟨#[115,119,97,112]⟩,aH aF x] W λe w' =>e=aM (aI ⟨([]:List UInt8).toArray⟩)/\bA W.heap.size W w' :=λW=>(eX _ x W (bQ rfl) (bQ rfl) (bQ rfl)).mono λe w' h=>⟨h.1,h.2▸bF _ _⟩
 rw[jO m _ ht hS hl (bZ _),hw];by_cases ho:16<rest.length+2\/16<m.R.length-0+0
 ·rw[dL (by simp),eJ ho];exact Qe w rb vA vS vR bs m depth _ 2 0 rest x y h hS (by decide) (by decide) 7 (wK w) (.inr ⟨rfl,ho,λW gl cap _ _=>hW W _⟩)
 rw[dL (by simp),dL ho,dL (by show ¬300<m.out.length+0;have:=h.ol;omega)];exact jc w rb vA vS vR bs m depth _ 2 0 [] rest x y h hS (by decide) (by decide) (by omega) (by omega) (by have:=h.ol;simpa using this) (wK w) (λW gl cap _ _=>hW W _) sB (.inl ⟨rfl,rfl,rfl⟩)
theorem G0 (w:aY)(rb:Nat)(vA vS vR:aG)(bs:List aG)(m:N.cE)(depth:Int)(h:cH w rb vA vS vR bs m):fS w rb vA vS vR bs m depth [111,118,101,114]:=by
 have ht:N.takes [111,118,101,114]=(2,0,3,0):=rfl;have hR:=h.rl;unfold fS;by_cases hu:m.S.length<2\/m.R.length<0
 ·rw[fO m _ ht hu];exact iV w rb vA vS vR bs m depth _ 2 0 3 0 h hu (wF w)
 obtain⟨rest,l,hS,hl⟩:=iT m.S 2 (λx=>hu (.inl x));obtain⟨x,y,rfl⟩:=pN hl;have hw:N.lG m [111,118,101,114] [x,y]=0:=rfl;have hW:=λ(W:aY) (vl:aG)=>gY W (aK (aE ⟨rb,0,aC⟩)) vl ⟨#[111,118,101,114]⟩ (bQ rfl) (bQ rfl) (bQ rfl) (bQ rfl) (bQ rfl) (bQ rfl)
 have sB:∀W:aY,bH aQ 80 #[aI ⟨#[111,118,101,114]⟩,aH aF x] W λe w' =>e=aM (aI ⟨([]:List UInt8).toArray⟩)/\bA W.heap.size W w' :=λW=>(eX _ x W (bQ rfl) (bQ rfl) (bQ rfl)).mono λe w' h=>⟨h.1,h.2▸bF _ _⟩
 rw[jO m _ ht hS hl (bZ _),hw];by_cases ho:16<rest.length+3\/16<m.R.length-0+0
 ·rw[dL (by simp),eJ ho];exact Qe w rb vA vS vR bs m depth _ 3 0 rest x y h hS (by decide) (by decide) 7 (wF w) (.inr ⟨rfl,ho,λW gl cap _ _=>hW W _⟩)
 rw[dL (by simp),dL ho,dL (by show ¬300<m.out.length+0;have:=h.ol;omega)];exact jc w rb vA vS vR bs m depth _ 3 0 [] rest x y h hS (by decide) (by decide) (by omega) (by omega) (by have:=h.ol;simpa using this) (wF w) (λW gl cap _ _=>hW W _) sB (.inr ⟨rfl,rfl,rfl⟩)
theorem U3 (w:aY)(rb:Nat)(vA vS vR:aG)(bs:List aG)(m:N.cE)(depth:Int)(h:cH w rb vA vS vR bs m):fS w rb vA vS vR bs m depth [114,111,116]:=by
 have ht:N.takes [114,111,116]=(3,0,3,0):=rfl;have hR:=h.rl;unfold fS;by_cases hu:m.S.length<3\/m.R.length<0
 ·rw[fO m _ ht hu];exact iV w rb vA vS vR bs m depth _ 3 0 3 0 h hu (Aw w)
 obtain⟨rest,l,hS,hl⟩:=iT m.S 3 (λx=>hu (.inl x));obtain⟨x,y,z,rfl⟩:=JV hl;have hw:N.lG m [114,111,116] [x,y,z]=0:=rfl;have hW:=λ(W:aY) (vl:aG)=>gY W (aK (aE ⟨rb,0,aC⟩)) vl ⟨#[114,111,116]⟩ (bQ rfl) (bQ rfl) (bQ rfl) (bQ rfl) (bQ rfl) (bQ rfl)
 have sB:∀W:aY,bH aQ 80 #[aI ⟨#[114,111,116]⟩,aH aF x] W λe w' =>e=aM (aI ⟨([]:List UInt8).toArray⟩)/\bA W.heap.size W w' :=λW=>(eX _ x W (bQ rfl) (bQ rfl) (bQ rfl)).mono λe w' h=>⟨h.1,h.2▸bF _ _⟩
 rw[jO m _ ht hS hl (bZ _),hw];have ho:¬(16<rest.length+3\/16<m.R.length-0+0):=by
  have h1:=h.sl;rw[hS,bN,hl] at h1;omega
 rw[dL (by simp),dL ho,dL (by show ¬300<m.out.length+0;have:=h.ol;omega)];exact je w rb vA vS vR bs m depth _ 3 0 [] rest x y z h hS (by decide) (by decide) (by omega) (by omega) (by have:=h.ol;simpa using this) (Aw w) (λW gl cap _ _=>hW W _) sB ⟨rfl,rfl,rfl⟩
theorem Y6 (w:aY)(rb:Nat)(vA vS vR:aG)(bs:List aG)(m:N.cE)(depth:Int)(h:cH w rb vA vS vR bs m):fS w rb vA vS vR bs m depth [62,114]:=by
 have ht:N.takes [62,114]=(1,0,0,1):=rfl;have hR:=h.rl;unfold fS;by_cases hu:m.S.length<1\/m.R.length<0
 ·rw[fO m _ ht hu];exact iV w rb vA vS vR bs m depth _ 1 0 0 1 h hu (vU w)
 obtain⟨rest,l,hS,hl⟩:=iT m.S 1 (λx=>hu (.inl x));obtain⟨x,rfl⟩:=xU hl;have hw:N.lG m [62,114] [x]=0:=rfl;have hW:=λ(W:aY) (vl:aG)=>gY W (aK (aE ⟨rb,0,aC⟩)) vl ⟨#[62,114]⟩ (bQ rfl) (bQ rfl) (bQ rfl) (bQ rfl) (bQ rfl) (bQ rfl)
 have sB:∀W:aY,bH aQ 80 #[aI ⟨#[62,114]⟩,aH aF x] W λe w' =>e=aM (aI ⟨([]:List UInt8).toArray⟩)/\bA W.heap.size W w' :=λW=>(eX _ x W (bQ rfl) (bQ rfl) (bQ rfl)).mono λe w' h=>⟨h.1,h.2▸bF _ _⟩
 rw[jO m _ ht hS hl (bZ _),hw];by_cases ho:16<rest.length+0\/16<m.R.length-0+1
 ·rw[dL (by simp),eJ ho];exact Aa w rb vA vS vR bs m depth _ 0 1 [] rest x h hS (by decide) (by decide) 7 (vU w) (.inr (.inl ⟨rfl,ho,λW gl cap _ _=>hW W _⟩))
 rw[dL (by simp),dL ho,dL (by show ¬300<m.out.length+0;have:=h.ol;omega)];exact ib w rb vA vS vR bs m depth _ 0 1 [] rest x h hS (by decide) (by decide) (by omega) (by omega) (by have:=h.ol;simpa using this) (vU w) (λW gl cap _ _=>hW W _) sB (.inr (.inr (.inr (.inr ⟨rfl,rfl,rfl⟩))))
theorem Z0 (w:aY)(rb:Nat)(vA vS vR:aG)(bs:List aG)(m:N.cE)(depth:Int)(h:cH w rb vA vS vR bs m):fS w rb vA vS vR bs m depth [43]:=by
 have ht:N.takes [43]=(2,0,1,0):=rfl;have hR:=h.rl;unfold fS;by_cases hu:m.S.length<2\/m.R.length<0
 ·rw[fO m _ ht hu];exact iV w rb vA vS vR bs m depth _ 2 0 1 0 h hu (Cx w)
 obtain⟨rest,l,hS,hl⟩:=iT m.S 2 (λx=>hu (.inl x));obtain⟨x,y,rfl⟩:=pN hl;have hW:=λ(W:aY) (gl cap:Nat) (_:∀j v,([x,y]:List Int)[j]?=aE v->W.cell? ⟨gl,j,aC⟩=aE (aH aF v))=>gY W (aK (aE ⟨rb,0,aC⟩)) (aJ (aE ⟨gl,0,aC⟩) 2 cap) ⟨#[43]⟩ (bQ rfl) (bQ rfl) (bQ rfl) (bQ rfl) (bQ rfl) (bQ rfl)
 have hw:N.lG m [43] [x,y]=0:=rfl;rw[jO m _ ht hS hl (bZ _),hw];have sB:∀W:aY,bH aQ 80 #[aI ⟨#[43]⟩,aH aF x] W λe w' =>e=aM (aI ⟨([]:List UInt8).toArray⟩)/\bA W.heap.size W w' :=λW=>(eX _ x W (bQ rfl) (bQ rfl) (bQ rfl)).mono λe w' h=>⟨h.1,h.2▸bF _ _⟩
 have ho:¬(16<rest.length+1\/16<m.R.length-0+0):=by
  have h1:=h.sl;rw[hS,bN,hl] at h1;omega
 rw[dL (by simp),dL ho,dL (by show ¬300<m.out.length+0;have:=h.ol;omega)];have hz:N.oG [43] x y=wrap64 (x+y):=rfl;have hd:N.kR {m with out:=m.out++([]:List UInt8)} [43] [x,y] rest={m with out:=m.out++([]:List UInt8),S:=rest++[wrap64 (x+y)]}:=by rw[<-hz];rfl
 have h2:=Qb w rb vA vS vR bs m depth ⟨#[43]⟩ 1 0 [] rest x y h hS (by decide) (by decide) (by omega) (by omega) (by have:=h.ol;simpa using this) (Cx w) (λW gl cap _ hc=>hW W gl cap hc) sB rfl (bQ rfl) (bQ rfl) (bQ rfl) (bQ rfl) (bQ rfl) (bQ rfl) (bQ rfl) (bQ rfl) (bQ rfl) (bQ rfl) (bQ rfl) (bQ rfl) (bQ rfl) (bQ rfl) (bQ rfl) (bQ rfl) (wrap64 (x+y)) (Hj _) (λW=>a7 x y W);refine h2.mono λe w' hh=>⟨hh.1,?_⟩
 show dP _ _ _ _ _ (N.kR {m with out:=m.out++([]:List UInt8)} [43] [x,y] rest) _ _;rw[hd];exact hh.2
theorem AA (w:aY)(rb:Nat)(vA vS vR:aG)(bs:List aG)(m:N.cE)(depth:Int)(h:cH w rb vA vS vR bs m):fS w rb vA vS vR bs m depth [45]:=by
 have ht:N.takes [45]=(2,0,1,0):=rfl;have hR:=h.rl;unfold fS;by_cases hu:m.S.length<2\/m.R.length<0
 ·rw[fO m _ ht hu];exact iV w rb vA vS vR bs m depth _ 2 0 1 0 h hu (Cv w)
 obtain⟨rest,l,hS,hl⟩:=iT m.S 2 (λx=>hu (.inl x));obtain⟨x,y,rfl⟩:=pN hl;have hW:=λ(W:aY) (gl cap:Nat) (_:∀j v,([x,y]:List Int)[j]?=aE v->W.cell? ⟨gl,j,aC⟩=aE (aH aF v))=>gY W (aK (aE ⟨rb,0,aC⟩)) (aJ (aE ⟨gl,0,aC⟩) 2 cap) ⟨#[45]⟩ (bQ rfl) (bQ rfl) (bQ rfl) (bQ rfl) (bQ rfl) (bQ rfl)
 have hw:N.lG m [45] [x,y]=0:=rfl;rw[jO m _ ht hS hl (bZ _),hw];have sB:∀W:aY,bH aQ 80 #[aI ⟨#[45]⟩,aH aF x] W λe w' =>e=aM (aI ⟨([]:List UInt8).toArray⟩)/\bA W.heap.size W w' :=λW=>(eX _ x W (bQ rfl) (bQ rfl) (bQ rfl)).mono λe w' h=>⟨h.1,h.2▸bF _ _⟩
 have ho:¬(16<rest.length+1\/16<m.R.length-0+0):=by
  have h1:=h.sl;rw[hS,bN,hl] at h1;omega
 rw[dL (by simp),dL ho,dL (by show ¬300<m.out.length+0;have:=h.ol;omega)];have hz:N.oG [45] x y=wrap64 (x-y):=rfl;have hd:N.kR {m with out:=m.out++([]:List UInt8)} [45] [x,y] rest={m with out:=m.out++([]:List UInt8),S:=rest++[wrap64 (x-y)]}:=by rw[<-hz];rfl
 have h2:=Qb w rb vA vS vR bs m depth ⟨#[45]⟩ 1 0 [] rest x y h hS (by decide) (by decide) (by omega) (by omega) (by have:=h.ol;simpa using this) (Cv w) (λW gl cap _ hc=>hW W gl cap hc) sB rfl (bQ rfl) (bQ rfl) (bQ rfl) (bQ rfl) (bQ rfl) (bQ rfl) (bQ rfl) (bQ rfl) (bQ rfl) (bQ rfl) (bQ rfl) (bQ rfl) (bQ rfl) (bQ rfl) (bQ rfl) (bQ rfl) (wrap64 (x-y)) (Hj _) (λW=>Zz x y W);refine h2.mono λe w' hh=>⟨hh.1,?_⟩
 show dP _ _ _ _ _ (N.kR {m with out:=m.out++([]:List UInt8)} [45] [x,y] rest) _ _;rw[hd];exact hh.2
theorem BF (w:aY)(rb:Nat)(vA vS vR:aG)(bs:List aG)(m:N.cE)(depth:Int)(h:cH w rb vA vS vR bs m):fS w rb vA vS vR bs m depth [42]:=by
 have ht:N.takes [42]=(2,0,1,0):=rfl;have hR:=h.rl;unfold fS;by_cases hu:m.S.length<2\/m.R.length<0
 ·rw[fO m _ ht hu];exact iV w rb vA vS vR bs m depth _ 2 0 1 0 h hu (Cu w)
 obtain⟨rest,l,hS,hl⟩:=iT m.S 2 (λx=>hu (.inl x));obtain⟨x,y,rfl⟩:=pN hl;have hW:=λ(W:aY) (gl cap:Nat) (_:∀j v,([x,y]:List Int)[j]?=aE v->W.cell? ⟨gl,j,aC⟩=aE (aH aF v))=>gY W (aK (aE ⟨rb,0,aC⟩)) (aJ (aE ⟨gl,0,aC⟩) 2 cap) ⟨#[42]⟩ (bQ rfl) (bQ rfl) (bQ rfl) (bQ rfl) (bQ rfl) (bQ rfl)
 have hw:N.lG m [42] [x,y]=0:=rfl;rw[jO m _ ht hS hl (bZ _),hw];have sB:∀W:aY,bH aQ 80 #[aI ⟨#[42]⟩,aH aF x] W λe w' =>e=aM (aI ⟨([]:List UInt8).toArray⟩)/\bA W.heap.size W w' :=λW=>(eX _ x W (bQ rfl) (bQ rfl) (bQ rfl)).mono λe w' h=>⟨h.1,h.2▸bF _ _⟩
 have ho:¬(16<rest.length+1\/16<m.R.length-0+0):=by
  have h1:=h.sl;rw[hS,bN,hl] at h1;omega
 rw[dL (by simp),dL ho,dL (by show ¬300<m.out.length+0;have:=h.ol;omega)];have hz:N.oG [42] x y=wrap64 (x*y):=rfl;have hd:N.kR {m with out:=m.out++([]:List UInt8)} [42] [x,y] rest={m with out:=m.out++([]:List UInt8),S:=rest++[wrap64 (x*y)]}:=by rw[<-hz];rfl
 have h2:=Qb w rb vA vS vR bs m depth ⟨#[42]⟩ 1 0 [] rest x y h hS (by decide) (by decide) (by omega) (by omega) (by have:=h.ol;simpa using this) (Cu w) (λW gl cap _ hc=>hW W gl cap hc) sB rfl (bQ rfl) (bQ rfl) (bQ rfl) (bQ rfl) (bQ rfl) (bQ rfl) (bQ rfl) (bQ rfl) (bQ rfl) (bQ rfl) (bQ rfl) (bQ rfl) (bQ rfl) (bQ rfl) (bQ rfl) (bQ rfl) (wrap64 (x*y)) (Hj _) (λW=>Yj x y W);refine h2.mono λe w' hh=>⟨hh.1,?_⟩
 show dP _ _ _ _ _ (N.kR {m with out:=m.out++([]:List UInt8)} [42] [x,y] rest) _ _;rw[hd];exact hh.2
theorem AY (w:aY)(rb:Nat)(vA vS vR:aG)(bs:List aG)(m:N.cE)(depth:Int)(h:cH w rb vA vS vR bs m):fS w rb vA vS vR bs m depth [47]:=by
 have ht:N.takes [47]=(2,0,1,0):=rfl;have hR:=h.rl;unfold fS;by_cases hu:m.S.length<2\/m.R.length<0
 ·rw[fO m _ ht hu];exact iV w rb vA vS vR bs m depth _ 2 0 1 0 h hu (yK w)
 obtain⟨rest,l,hS,hl⟩:=iT m.S 2 (λx=>hu (.inl x));obtain⟨x,y,rfl⟩:=pN hl;have hW:=λ(W:aY) (gl cap:Nat) (hc:∀j v,([x,y]:List Int)[j]?=aE v->W.cell? ⟨gl,j,aC⟩=aE (aH aF v))=>Lt W (aK (aE ⟨rb,0,aC⟩)) gl cap y ⟨#[47]⟩ (.inl rfl) (hc 1 y rfl)
 have Te:N.lG m [47] [x,y]=if y=0 then 8 else 0:=rfl;rw[jO m _ ht hS hl (bZ _),Te];by_cases hy:y=0
 ·rw[eJ hy,eJ (by decide)];refine Qe w rb vA vS vR bs m depth _ 1 0 rest x y h hS (by decide) (by decide) 8 (yK w) (.inl ⟨rfl,λW gl cap _ hc=>?_⟩);have h1:=hW W gl cap hc;rwa[eJ hy] at h1
 rw[dL hy];have hW:∀(W:aY) (gl cap:Nat),(∀j v,([x,y]:List Int)[j]?=aE v->W.cell? ⟨gl,j,aC⟩=aE (aH aF v))->bH aQ 79 #[aK (aE ⟨rb,0,aC⟩),aI ⟨#[47]⟩,aJ (aE ⟨gl,0,aC⟩) 2 cap] W λe w' =>e=aM (aH aF 0)/\w' =W:=λW gl cap hc=>by
  have h1:=hW W gl cap hc;rwa[dL hy] at h1
 have sB:∀W:aY,bH aQ 80 #[aI ⟨#[47]⟩,aH aF x] W λe w' =>e=aM (aI ⟨([]:List UInt8).toArray⟩)/\bA W.heap.size W w' :=λW=>(eX _ x W (bQ rfl) (bQ rfl) (bQ rfl)).mono λe w' h=>⟨h.1,h.2▸bF _ _⟩
 have ho:¬(16<rest.length+1\/16<m.R.length-0+0):=by
  have h1:=h.sl;rw[hS,bN,hl] at h1;omega
 rw[dL (by simp),dL ho,dL (by show ¬300<m.out.length+0;have:=h.ol;omega)];have hz:N.oG [47] x y=wrap64 (x.tdiv y):=rfl;have hd:N.kR {m with out:=m.out++([]:List UInt8)} [47] [x,y] rest={m with out:=m.out++([]:List UInt8),S:=rest++[wrap64 (x.tdiv y)]}:=by rw[<-hz];rfl
 have h2:=Qb w rb vA vS vR bs m depth ⟨#[47]⟩ 1 0 [] rest x y h hS (by decide) (by decide) (by omega) (by omega) (by have:=h.ol;simpa using this) (yK w) (λW gl cap _ hc=>hW W gl cap hc) sB rfl (bQ rfl) (bQ rfl) (bQ rfl) (bQ rfl) (bQ rfl) (bQ rfl) (bQ rfl) (bQ rfl) (bQ rfl) (bQ rfl) (bQ rfl) (bQ rfl) (bQ rfl) (bQ rfl) (bQ rfl) (bQ rfl) (wrap64 (x.tdiv y)) (Hj _) (λW=>Yv x y W hy);refine h2.mono λe w' hh=>⟨hh.1,?_⟩
 show dP _ _ _ _ _ (N.kR {m with out:=m.out++([]:List UInt8)} [47] [x,y] rest) _ _;rw[hd];exact hh.2
theorem AK (w:aY)(rb:Nat)(vA vS vR:aG)(bs:List aG)(m:N.cE)(depth:Int)(h:cH w rb vA vS vR bs m):fS w rb vA vS vR bs m depth [109,111,100]:=by
 have ht:N.takes [109,111,100]=(2,0,1,0):=rfl;have hR:=h.rl;unfold fS;by_cases hu:m.S.length<2\/m.R.length<0
 ·rw[fO m _ ht hu];exact iV w rb vA vS vR bs m depth _ 2 0 1 0 h hu (xW w)
 obtain⟨rest,l,hS,hl⟩:=iT m.S 2 (λx=>hu (.inl x));obtain⟨x,y,rfl⟩:=pN hl;have Q7:dQ x:=h.si x (by rw[hS];simp);have hW:=λ(W:aY) (gl cap:Nat) (hc:∀j v,([x,y]:List Int)[j]?=aE v->W.cell? ⟨gl,j,aC⟩=aE (aH aF v))=>Lt W (aK (aE ⟨rb,0,aC⟩)) gl cap y ⟨#[109,111,100]⟩ (.inr rfl) (hc 1 y rfl)
 have Te:N.lG m [109,111,100] [x,y]=if y=0 then 8 else 0:=rfl;rw[jO m _ ht hS hl (bZ _),Te];by_cases hy:y=0
 ·rw[eJ hy,eJ (by decide)];refine Qe w rb vA vS vR bs m depth _ 1 0 rest x y h hS (by decide) (by decide) 8 (xW w) (.inl ⟨rfl,λW gl cap _ hc=>?_⟩);have h1:=hW W gl cap hc;rwa[eJ hy] at h1
 rw[dL hy];have hW:∀(W:aY) (gl cap:Nat),(∀j v,([x,y]:List Int)[j]?=aE v->W.cell? ⟨gl,j,aC⟩=aE (aH aF v))->bH aQ 79 #[aK (aE ⟨rb,0,aC⟩),aI ⟨#[109,111,100]⟩,aJ (aE ⟨gl,0,aC⟩) 2 cap] W λe w' =>e=aM (aH aF 0)/\w' =W:=λW gl cap hc=>by
  have h1:=hW W gl cap hc;rwa[dL hy] at h1
 have sB:∀W:aY,bH aQ 80 #[aI ⟨#[109,111,100]⟩,aH aF x] W λe w' =>e=aM (aI ⟨([]:List UInt8).toArray⟩)/\bA W.heap.size W w' :=λW=>(eX _ x W (bQ rfl) (bQ rfl) (bQ rfl)).mono λe w' h=>⟨h.1,h.2▸bF _ _⟩
 have ho:¬(16<rest.length+1\/16<m.R.length-0+0):=by
  have h1:=h.sl;rw[hS,bN,hl] at h1;omega
 rw[dL (by simp),dL ho,dL (by show ¬300<m.out.length+0;have:=h.ol;omega)];have hz:N.oG [109,111,100] x y=x.tmod y:=rfl;have hd:N.kR {m with out:=m.out++([]:List UInt8)} [109,111,100] [x,y] rest={m with out:=m.out++([]:List UInt8),S:=rest++[x.tmod y]}:=by rw[<-hz];rfl
 have h2:=Qb w rb vA vS vR bs m depth ⟨#[109,111,100]⟩ 1 0 [] rest x y h hS (by decide) (by decide) (by omega) (by omega) (by have:=h.ol;simpa using this) (xW w) (λW gl cap _ hc=>hW W gl cap hc) sB rfl (bQ rfl) (bQ rfl) (bQ rfl) (bQ rfl) (bQ rfl) (bQ rfl) (bQ rfl) (bQ rfl) (bQ rfl) (bQ rfl) (bQ rfl) (bQ rfl) (bQ rfl) (bQ rfl) (bQ rfl) (bQ rfl) (x.tmod y) (FN Q7 _) (λW=>Zj x y W hy);refine h2.mono λe w' hh=>⟨hh.1,?_⟩
 show dP _ _ _ _ _ (N.kR {m with out:=m.out++([]:List UInt8)} [109,111,100] [x,y] rest) _ _;rw[hd];exact hh.2
theorem JH (w:aY)(rb:Nat)(vA vS vR:aG)(bs:List aG)(m:N.cE)(depth:Int)(h:cH w rb vA vS vR bs m):fS w rb vA vS vR bs m depth [61]:=by
 have ht:N.takes [61]=(2,0,1,0):=rfl;have hR:=h.rl;unfold fS;by_cases hu:m.S.length<2\/m.R.length<0
 ·rw[fO m _ ht hu];exact iV w rb vA vS vR bs m depth _ 2 0 1 0 h hu (Cn w)
 obtain⟨rest,l,hS,hl⟩:=iT m.S 2 (λx=>hu (.inl x));obtain⟨x,y,rfl⟩:=pN hl;have hW:=λ(W:aY) (gl cap:Nat) (_:∀j v,([x,y]:List Int)[j]?=aE v->W.cell? ⟨gl,j,aC⟩=aE (aH aF v))=>gY W (aK (aE ⟨rb,0,aC⟩)) (aJ (aE ⟨gl,0,aC⟩) 2 cap) ⟨#[61]⟩ (bQ rfl) (bQ rfl) (bQ rfl) (bQ rfl) (bQ rfl) (bQ rfl)
 have hw:N.lG m [61] [x,y]=0:=rfl;rw[jO m _ ht hS hl (bZ _),hw];have sB:∀W:aY,bH aQ 80 #[aI ⟨#[61]⟩,aH aF x] W λe w' =>e=aM (aI ⟨([]:List UInt8).toArray⟩)/\bA W.heap.size W w' :=λW=>(eX _ x W (bQ rfl) (bQ rfl) (bQ rfl)).mono λe w' h=>⟨h.1,h.2▸bF _ _⟩
 have ho:¬(16<rest.length+1\/16<m.R.length-0+0):=by
  have h1:=h.sl;rw[hS,bN,hl] at h1;omega
 rw[dL (by simp),dL ho,dL (by show ¬300<m.out.length+0;have:=h.ol;omega)];have hz:N.oG [61] x y=L.lH (x==y):=rfl;have hd:N.kR {m with out:=m.out++([]:List UInt8)} [61] [x,y] rest={m with out:=m.out++([]:List UInt8),S:=rest++[L.lH (x==y)]}:=by rw[<-hz];rfl
 have h2:=Qb w rb vA vS vR bs m depth ⟨#[61]⟩ 1 0 [] rest x y h hS (by decide) (by decide) (by omega) (by omega) (by have:=h.ol;simpa using this) (Cn w) (λW gl cap _ hc=>hW W gl cap hc) sB rfl (bQ rfl) (bQ rfl) (bQ rfl) (bQ rfl) (bQ rfl) (bQ rfl) (bQ rfl) (bQ rfl) (bQ rfl) (bQ rfl) (bQ rfl) (bQ rfl) (bQ rfl) (bQ rfl) (bQ rfl) (bQ rfl) (L.lH (x==y)) (Ib _) (λW=>x9 x y W);refine h2.mono λe w' hh=>⟨hh.1,?_⟩
 show dP _ _ _ _ _ (N.kR {m with out:=m.out++([]:List UInt8)} [61] [x,y] rest) _ _;rw[hd];exact hh.2
theorem JS (w:aY)(rb:Nat)(vA vS vR:aG)(bs:List aG)(m:N.cE)(depth:Int)(h:cH w rb vA vS vR bs m):fS w rb vA vS vR bs m depth [60]:=by
 have ht:N.takes [60]=(2,0,1,0):=rfl;have hR:=h.rl;unfold fS;by_cases hu:m.S.length<2\/m.R.length<0
 ·rw[fO m _ ht hu];exact iV w rb vA vS vR bs m depth _ 2 0 1 0 h hu (Cy w)
 obtain⟨rest,l,hS,hl⟩:=iT m.S 2 (λx=>hu (.inl x));obtain⟨x,y,rfl⟩:=pN hl;have hW:=λ(W:aY) (gl cap:Nat) (_:∀j v,([x,y]:List Int)[j]?=aE v->W.cell? ⟨gl,j,aC⟩=aE (aH aF v))=>gY W (aK (aE ⟨rb,0,aC⟩)) (aJ (aE ⟨gl,0,aC⟩) 2 cap) ⟨#[60]⟩ (bQ rfl) (bQ rfl) (bQ rfl) (bQ rfl) (bQ rfl) (bQ rfl)
 have hw:N.lG m [60] [x,y]=0:=rfl;rw[jO m _ ht hS hl (bZ _),hw];have sB:∀W:aY,bH aQ 80 #[aI ⟨#[60]⟩,aH aF x] W λe w' =>e=aM (aI ⟨([]:List UInt8).toArray⟩)/\bA W.heap.size W w' :=λW=>(eX _ x W (bQ rfl) (bQ rfl) (bQ rfl)).mono λe w' h=>⟨h.1,h.2▸bF _ _⟩
 have ho:¬(16<rest.length+1\/16<m.R.length-0+0):=by
  have h1:=h.sl;rw[hS,bN,hl] at h1;omega
 rw[dL (by simp),dL ho,dL (by show ¬300<m.out.length+0;have:=h.ol;omega)];have hz:N.oG [60] x y=L.lH (decide (x<y)):=rfl;have hd:N.kR {m with out:=m.out++([]:List UInt8)} [60] [x,y] rest={m with out:=m.out++([]:List UInt8),S:=rest++[L.lH (decide (x<y))]}:=by rw[<-hz];rfl
 have h2:=Qb w rb vA vS vR bs m depth ⟨#[60]⟩ 1 0 [] rest x y h hS (by decide) (by decide) (by omega) (by omega) (by have:=h.ol;simpa using this) (Cy w) (λW gl cap _ hc=>hW W gl cap hc) sB rfl (bQ rfl) (bQ rfl) (bQ rfl) (bQ rfl) (bQ rfl) (bQ rfl) (bQ rfl) (bQ rfl) (bQ rfl) (bQ rfl) (bQ rfl) (bQ rfl) (bQ rfl) (bQ rfl) (bQ rfl) (bQ rfl) (L.lH (decide (x<y))) (Ib _) (λW=>D5 x y W);refine h2.mono λe w' hh=>⟨hh.1,?_⟩
 show dP _ _ _ _ _ (N.kR {m with out:=m.out++([]:List UInt8)} [60] [x,y] rest) _ _;rw[hd];exact hh.2
theorem LF (w:aY)(rb:Nat)(vA vS vR:aG)(bs:List aG)(m:N.cE)(depth:Int)(h:cH w rb vA vS vR bs m):fS w rb vA vS vR bs m depth [62]:=by
 have ht:N.takes [62]=(2,0,1,0):=rfl;have hR:=h.rl;unfold fS;by_cases hu:m.S.length<2\/m.R.length<0
 ·rw[fO m _ ht hu];exact iV w rb vA vS vR bs m depth _ 2 0 1 0 h hu (Ct w)
 obtain⟨rest,l,hS,hl⟩:=iT m.S 2 (λx=>hu (.inl x));obtain⟨x,y,rfl⟩:=pN hl;have hW:=λ(W:aY) (gl cap:Nat) (_:∀j v,([x,y]:List Int)[j]?=aE v->W.cell? ⟨gl,j,aC⟩=aE (aH aF v))=>gY W (aK (aE ⟨rb,0,aC⟩)) (aJ (aE ⟨gl,0,aC⟩) 2 cap) ⟨#[62]⟩ (bQ rfl) (bQ rfl) (bQ rfl) (bQ rfl) (bQ rfl) (bQ rfl)
 have hw:N.lG m [62] [x,y]=0:=rfl;rw[jO m _ ht hS hl (bZ _),hw];have sB:∀W:aY,bH aQ 80 #[aI ⟨#[62]⟩,aH aF x] W λe w' =>e=aM (aI ⟨([]:List UInt8).toArray⟩)/\bA W.heap.size W w' :=λW=>(eX _ x W (bQ rfl) (bQ rfl) (bQ rfl)).mono λe w' h=>⟨h.1,h.2▸bF _ _⟩
 have ho:¬(16<rest.length+1\/16<m.R.length-0+0):=by
  have h1:=h.sl;rw[hS,bN,hl] at h1;omega
 rw[dL (by simp),dL ho,dL (by show ¬300<m.out.length+0;have:=h.ol;omega)];have hz:N.oG [62] x y=L.lH (decide (y<x)):=rfl;have hd:N.kR {m with out:=m.out++([]:List UInt8)} [62] [x,y] rest={m with out:=m.out++([]:List UInt8),S:=rest++[L.lH (decide (y<x))]}:=by rw[<-hz];rfl
 have h2:=Qb w rb vA vS vR bs m depth ⟨#[62]⟩ 1 0 [] rest x y h hS (by decide) (by decide) (by omega) (by omega) (by have:=h.ol;simpa using this) (Ct w) (λW gl cap _ hc=>hW W gl cap hc) sB rfl (bQ rfl) (bQ rfl) (bQ rfl) (bQ rfl) (bQ rfl) (bQ rfl) (bQ rfl) (bQ rfl) (bQ rfl) (bQ rfl) (bQ rfl) (bQ rfl) (bQ rfl) (bQ rfl) (bQ rfl) (bQ rfl) (L.lH (decide (y<x))) (Ib _) (λW=>H6 x y W);refine h2.mono λe w' hh=>⟨hh.1,?_⟩
 show dP _ _ _ _ _ (N.kR {m with out:=m.out++([]:List UInt8)} [62] [x,y] rest) _ _;rw[hd];exact hh.2
theorem W5 (w:aY)(rb:Nat)(vA vS vR:aG)(bs:List aG)(m:N.cE)(depth:Int)(h:cH w rb vA vS vR bs m):fS w rb vA vS vR bs m depth [97,110,100]:=by
 have ht:N.takes [97,110,100]=(2,0,1,0):=rfl;have hR:=h.rl;unfold fS;by_cases hu:m.S.length<2\/m.R.length<0
 ·rw[fO m _ ht hu];exact iV w rb vA vS vR bs m depth _ 2 0 1 0 h hu (Cq w)
 obtain⟨rest,l,hS,hl⟩:=iT m.S 2 (λx=>hu (.inl x));obtain⟨x,y,rfl⟩:=pN hl;have hW:=λ(W:aY) (gl cap:Nat) (_:∀j v,([x,y]:List Int)[j]?=aE v->W.cell? ⟨gl,j,aC⟩=aE (aH aF v))=>gY W (aK (aE ⟨rb,0,aC⟩)) (aJ (aE ⟨gl,0,aC⟩) 2 cap) ⟨#[97,110,100]⟩ (bQ rfl) (bQ rfl) (bQ rfl) (bQ rfl) (bQ rfl) (bQ rfl)
 have hw:N.lG m [97,110,100] [x,y]=0:=rfl;rw[jO m _ ht hS hl (bZ _),hw];have sB:∀W:aY,bH aQ 80 #[aI ⟨#[97,110,100]⟩,aH aF x] W λe w' =>e=aM (aI ⟨([]:List UInt8).toArray⟩)/\bA W.heap.size W w' :=λW=>(eX _ x W (bQ rfl) (bQ rfl) (bQ rfl)).mono λe w' h=>⟨h.1,h.2▸bF _ _⟩
 have ho:¬(16<rest.length+1\/16<m.R.length-0+0):=by
  have h1:=h.sl;rw[hS,bN,hl] at h1;omega
 rw[dL (by simp),dL ho,dL (by show ¬300<m.out.length+0;have:=h.ol;omega)];have hz:N.oG [97,110,100] x y=bits .and aF x y:=rfl;have hd:N.kR {m with out:=m.out++([]:List UInt8)} [97,110,100] [x,y] rest={m with out:=m.out++([]:List UInt8),S:=rest++[bits .and aF x y]}:=by rw[<-hz];rfl
 have h2:=Qb w rb vA vS vR bs m depth ⟨#[97,110,100]⟩ 1 0 [] rest x y h hS (by decide) (by decide) (by omega) (by omega) (by have:=h.ol;simpa using this) (Cq w) (λW gl cap _ hc=>hW W gl cap hc) sB rfl (bQ rfl) (bQ rfl) (bQ rfl) (bQ rfl) (bQ rfl) (bQ rfl) (bQ rfl) (bQ rfl) (bQ rfl) (bQ rfl) (bQ rfl) (bQ rfl) (bQ rfl) (bQ rfl) (bQ rfl) (bQ rfl) (bits .and aF x y) (Nz _ _ _) (λW=>Xx x y W);refine h2.mono λe w' hh=>⟨hh.1,?_⟩
 show dP _ _ _ _ _ (N.kR {m with out:=m.out++([]:List UInt8)} [97,110,100] [x,y] rest) _ _;rw[hd];exact hh.2
theorem JF (w:aY)(rb:Nat)(vA vS vR:aG)(bs:List aG)(m:N.cE)(depth:Int)(h:cH w rb vA vS vR bs m):fS w rb vA vS vR bs m depth [111,114]:=by
 have ht:N.takes [111,114]=(2,0,1,0):=rfl;have hR:=h.rl;unfold fS;by_cases hu:m.S.length<2\/m.R.length<0
 ·rw[fO m _ ht hu];exact iV w rb vA vS vR bs m depth _ 2 0 1 0 h hu (Dd w)
 obtain⟨rest,l,hS,hl⟩:=iT m.S 2 (λx=>hu (.inl x));obtain⟨x,y,rfl⟩:=pN hl;have hW:=λ(W:aY) (gl cap:Nat) (_:∀j v,([x,y]:List Int)[j]?=aE v->W.cell? ⟨gl,j,aC⟩=aE (aH aF v))=>gY W (aK (aE ⟨rb,0,aC⟩)) (aJ (aE ⟨gl,0,aC⟩) 2 cap) ⟨#[111,114]⟩ (bQ rfl) (bQ rfl) (bQ rfl) (bQ rfl) (bQ rfl) (bQ rfl)
 have hw:N.lG m [111,114] [x,y]=0:=rfl;rw[jO m _ ht hS hl (bZ _),hw];have sB:∀W:aY,bH aQ 80 #[aI ⟨#[111,114]⟩,aH aF x] W λe w' =>e=aM (aI ⟨([]:List UInt8).toArray⟩)/\bA W.heap.size W w' :=λW=>(eX _ x W (bQ rfl) (bQ rfl) (bQ rfl)).mono λe w' h=>⟨h.1,h.2▸bF _ _⟩
 have ho:¬(16<rest.length+1\/16<m.R.length-0+0):=by
  have h1:=h.sl;rw[hS,bN,hl] at h1;omega
 rw[dL (by simp),dL ho,dL (by show ¬300<m.out.length+0;have:=h.ol;omega)];have hz:N.oG [111,114] x y=bits .or aF x y:=rfl;have hd:N.kR {m with out:=m.out++([]:List UInt8)} [111,114] [x,y] rest={m with out:=m.out++([]:List UInt8),S:=rest++[bits .or aF x y]}:=by rw[<-hz];rfl
 have h2:=Qb w rb vA vS vR bs m depth ⟨#[111,114]⟩ 1 0 [] rest x y h hS (by decide) (by decide) (by omega) (by omega) (by have:=h.ol;simpa using this) (Dd w) (λW gl cap _ hc=>hW W gl cap hc) sB rfl (bQ rfl) (bQ rfl) (bQ rfl) (bQ rfl) (bQ rfl) (bQ rfl) (bQ rfl) (bQ rfl) (bQ rfl) (bQ rfl) (bQ rfl) (bQ rfl) (bQ rfl) (bQ rfl) (bQ rfl) (bQ rfl) (bits .or aF x y) (Nz _ _ _) (λW=>L6 x y W);refine h2.mono λe w' hh=>⟨hh.1,?_⟩
 show dP _ _ _ _ _ (N.kR {m with out:=m.out++([]:List UInt8)} [111,114] [x,y] rest) _ _;rw[hd];exact hh.2
theorem AX (w:aY)(rb:Nat)(vA vS vR:aG)(bs:List aG)(m:N.cE)(depth:Int)(h:cH w rb vA vS vR bs m):fS w rb vA vS vR bs m depth [120,111,114]:=by
 have ht:N.takes [120,111,114]=(2,0,1,0):=rfl;have hR:=h.rl;unfold fS;by_cases hu:m.S.length<2\/m.R.length<0
 ·rw[fO m _ ht hu];exact iV w rb vA vS vR bs m depth _ 2 0 1 0 h hu (Am w)
 obtain⟨rest,l,hS,hl⟩:=iT m.S 2 (λx=>hu (.inl x));obtain⟨x,y,rfl⟩:=pN hl;have hW:=λ(W:aY) (gl cap:Nat) (_:∀j v,([x,y]:List Int)[j]?=aE v->W.cell? ⟨gl,j,aC⟩=aE (aH aF v))=>gY W (aK (aE ⟨rb,0,aC⟩)) (aJ (aE ⟨gl,0,aC⟩) 2 cap) ⟨#[120,111,114]⟩ (bQ rfl) (bQ rfl) (bQ rfl) (bQ rfl) (bQ rfl) (bQ rfl)
 have hw:N.lG m [120,111,114] [x,y]=0:=rfl;rw[jO m _ ht hS hl (bZ _),hw];have sB:∀W:aY,bH aQ 80 #[aI ⟨#[120,111,114]⟩,aH aF x] W λe w' =>e=aM (aI ⟨([]:List UInt8).toArray⟩)/\bA W.heap.size W w' :=λW=>(eX _ x W (bQ rfl) (bQ rfl) (bQ rfl)).mono λe w' h=>⟨h.1,h.2▸bF _ _⟩
 have ho:¬(16<rest.length+1\/16<m.R.length-0+0):=by
  have h1:=h.sl;rw[hS,bN,hl] at h1;omega
 rw[dL (by simp),dL ho,dL (by show ¬300<m.out.length+0;have:=h.ol;omega)];have hz:N.oG [120,111,114] x y=bits .xor aF x y:=rfl;have hd:N.kR {m with out:=m.out++([]:List UInt8)} [120,111,114] [x,y] rest={m with out:=m.out++([]:List UInt8),S:=rest++[bits .xor aF x y]}:=by rw[<-hz];rfl
 have h2:=Qb w rb vA vS vR bs m depth ⟨#[120,111,114]⟩ 1 0 [] rest x y h hS (by decide) (by decide) (by omega) (by omega) (by have:=h.ol;simpa using this) (Am w) (λW gl cap _ hc=>hW W gl cap hc) sB rfl (bQ rfl) (bQ rfl) (bQ rfl) (bQ rfl) (bQ rfl) (bQ rfl) (bQ rfl) (bQ rfl) (bQ rfl) (bQ rfl) (bQ rfl) (bQ rfl) (bQ rfl) (bQ rfl) (bQ rfl) (bQ rfl) (bits .xor aF x y) (Nz _ _ _) (λW=>f6 x y W);refine h2.mono λe w' hh=>⟨hh.1,?_⟩
 show dP _ _ _ _ _ (N.kR {m with out:=m.out++([]:List UInt8)} [120,111,114] [x,y] rest) _ _;rw[hd];exact hh.2
theorem U5 (w:aY)(rb:Nat)(vA vS vR:aG)(bs:List aG)(m:N.cE)(depth:Int)(h:cH w rb vA vS vR bs m):fS w rb vA vS vR bs m depth [46]:=by
 have ht:N.takes [46]=(1,0,0,0):=rfl;have hR:=h.rl;unfold fS;by_cases hu:m.S.length<1\/m.R.length<0
 ·rw[fO m _ ht hu];exact iV w rb vA vS vR bs m depth _ 1 0 0 0 h hu (vM w)
 obtain⟨rest,l,hS,hl⟩:=iT m.S 1 (λx=>hu (.inl x));obtain⟨x,rfl⟩:=xU hl;have Q7:dQ x:=h.si x (by rw[hS];simp);have hW:=λ(W:aY) (gl cap:Nat) (_:∀j v,([x]:List Int)[j]?=aE v->W.cell? ⟨gl,j,aC⟩=aE (aH aF v))=>gY W (aK (aE ⟨rb,0,aC⟩)) (aJ (aE ⟨gl,0,aC⟩) 1 cap) ⟨#[46]⟩ (bQ rfl) (bQ rfl) (bQ rfl) (bQ rfl) (bQ rfl) (bQ rfl)
 have hw:N.lG m [46] [x]=0:=rfl;rw[jO m _ ht hS hl (bZ _),hw];have pJ:(Lib.itoa x++[32]:List UInt8).length<=300:=by
  have:=tR x Q7.1 Q7.2;simp;omega
 have sB:∀W:aY,bH aQ 80 #[aI ⟨#[46]⟩,aH aF x] W λe w' =>e=aM (aI ⟨(Lib.itoa x++[32]:List UInt8).toArray⟩)/\bA W.heap.size W w' :=λW=>(Zn x W Q7.1 Q7.2).mono λe w' h=>⟨h.1,h.2▸bF _ _⟩
 have ho:¬(16<rest.length+0\/16<m.R.length-0+0):=by
  have h1:=h.sl;rw[hS,bN,hl] at h1;omega
 have sG:N.told [46] (([x]:List Int).getD 0 0)=Lib.itoa x++[32]:=rfl;rw[dL (by simp),dL ho,sG];by_cases sE:300<m.out.length+(Lib.itoa x++[32]:List UInt8).length
 ·rw[eJ sE];exact Aa w rb vA vS vR bs m depth _ 0 0 (Lib.itoa x++[32]) rest x h hS (by decide) (by decide) 12 (vM w) (.inr (.inr ⟨rfl,by omega,by omega,sE,pJ,λW gl cap _ hc=>hW W gl cap hc,sB⟩))
 rw[dL sE];exact ib w rb vA vS vR bs m depth _ 0 0 (Lib.itoa x++[32]) rest x h hS (by decide) (by decide) (by omega) (by omega) (by omega) (vM w) (λW gl cap _ hc=>hW W gl cap hc) sB (.inr (.inr (.inl ⟨rfl,rfl,rfl⟩)))
theorem y9 (w:aY)(rb:Nat)(vA vS vR:aG)(bs:List aG)(m:N.cE)(depth:Int)(h:cH w rb vA vS vR bs m):fS w rb vA vS vR bs m depth [101,109,105,116]:=by
 have ht:N.takes [101,109,105,116]=(1,0,0,0):=rfl;have hR:=h.rl;unfold fS;by_cases hu:m.S.length<1\/m.R.length<0
 ·rw[fO m _ ht hu];exact iV w rb vA vS vR bs m depth _ 1 0 0 0 h hu (sQ w)
 obtain⟨rest,l,hS,hl⟩:=iT m.S 1 (λx=>hu (.inl x));obtain⟨x,rfl⟩:=xU hl;have hW:=λ(W:aY) (gl cap:Nat) (hc:∀j v,([x]:List Int)[j]?=aE v->W.cell? ⟨gl,j,aC⟩=aE (aH aF v))=>J4 W (aK (aE ⟨rb,0,aC⟩)) gl cap x (hc 0 x rfl)
 have Te:N.lG m [101,109,105,116] [x]=if x<32\/126<x then 11 else 0:=rfl;rw[jO m _ ht hS hl (bZ _),Te];by_cases hy:x<32\/126<x
 ·rw[eJ hy,eJ (by decide)];refine Aa w rb vA vS vR bs m depth _ 0 0 [] rest x h hS (by decide) (by decide) 11 (sQ w) (.inl ⟨rfl,λW gl cap _ hc=>?_⟩);have h1:=hW W gl cap hc;rwa[eJ hy] at h1
 rw[dL hy];have hW:∀(W:aY) (gl cap:Nat),(∀j v,([x]:List Int)[j]?=aE v->W.cell? ⟨gl,j,aC⟩=aE (aH aF v))->bH aQ 79 #[aK (aE ⟨rb,0,aC⟩),aI ⟨#[101,109,105,116]⟩,aJ (aE ⟨gl,0,aC⟩) 1 cap] W λe w' =>e=aM (aH aF 0)/\w' =W:=λW gl cap hc=>by
  have h1:=hW W gl cap hc;rwa[dL hy] at h1
 have pJ:([UInt8.ofNat x.toNat]:List UInt8).length<=300:=by simp
 have sB:∀W:aY,bH aQ 80 #[aI ⟨#[101,109,105,116]⟩,aH aF x] W λe w' =>e=aM (aI ⟨([UInt8.ofNat x.toNat]:List UInt8).toArray⟩)/\bA W.heap.size W w' :=λW=>Ux x W (by omega) (by omega)
 have ho:¬(16<rest.length+0\/16<m.R.length-0+0):=by
  have h1:=h.sl;rw[hS,bN,hl] at h1;omega
 have sG:N.told [101,109,105,116] (([x]:List Int).getD 0 0)=[UInt8.ofNat x.toNat]:=rfl;rw[dL (by simp),dL ho,sG];by_cases sE:300<m.out.length+([UInt8.ofNat x.toNat]:List UInt8).length
 ·rw[eJ sE];exact Aa w rb vA vS vR bs m depth _ 0 0 ([UInt8.ofNat x.toNat]) rest x h hS (by decide) (by decide) 12 (sQ w) (.inr (.inr ⟨rfl,by omega,by omega,sE,pJ,λW gl cap _ hc=>hW W gl cap hc,sB⟩))
 rw[dL sE];exact ib w rb vA vS vR bs m depth _ 0 0 ([UInt8.ofNat x.toNat]) rest x h hS (by decide) (by decide) (by omega) (by omega) (by omega) (sQ w) (λW gl cap _ hc=>hW W gl cap hc) sB (.inr (.inr (.inr (.inl ⟨rfl,rfl,rfl⟩))))
theorem Ye (w:aY)(rb:Nat)(vA vS vR:aG)(bs:List aG)(m:N.cE)(depth:Int)(h:cH w rb vA vS vR bs m):fS w rb vA vS vR bs m depth [114,62]:=by
 have ht:N.takes [114,62]=(0,1,1,0):=rfl;have hR:=h.rl;have hSl:=h.sl;unfold fS;by_cases hu:m.S.length<0\/m.R.length<1
 ·rw[fO m _ ht hu];exact iV w rb vA vS vR bs m depth _ 0 1 1 0 h hu (sO w)
 have Tb:1<=m.R.length:=by omega
 have hW:=λ(W:aY) (vl:aG)=>gY W (aK (aE ⟨rb,0,aC⟩)) vl ⟨#[114,62]⟩ (bQ rfl) (bQ rfl) (bQ rfl) (bQ rfl) (bQ rfl) (bQ rfl)
 have hw:N.lG m [114,62] []=0:=rfl;have sB:∀W:aY,bH aQ 80 #[aI ⟨#[114,62]⟩,aH aF 0] W λe w' =>e=aM (aI ⟨([]:List UInt8).toArray⟩)/\bA W.heap.size W w' :=λW=>(eX _ 0 W (bQ rfl) (bQ rfl) (bQ rfl)).mono λe w' h=>⟨h.1,h.2▸bF _ _⟩
 have sG:N.told [114,62] (([]:List Int).getD 0 0)=[]:=rfl;rw[jO m _ ht (rest:=m.S) (l:=[]) (by simp) rfl Tb,hw];rcases jB h.st with ⟨hv,n0,_⟩|⟨gS,gG,hv,lS⟩
 ·have ho:¬(16<m.S.length+1\/16<m.R.length-1+0):=by omega
  rw[dL (by simp),dL ho,sG];have sE:¬300<m.out.length+([]:List UInt8).length:=by have:=h.ol;simp;omega
  rw[dL sE];exact LL w rb vA vS vR bs m depth _ 1 1 0 ([]) h hv n0 Tb (by decide) (by decide) (by decide) (by omega) (by omega) (by omega) (sO w) hW sB ⟨rfl,rfl,rfl,rfl⟩
 ·skip
  by_cases ho:16<m.S.length+1\/16<m.R.length-1+0
  ·rw[dL (by simp),eJ ho];exact Db w rb vA vS vR bs m depth _ 1 1 0 [] h gS gG hv lS Tb (by decide) (by decide) (by decide) 7 (sO w) hW (.inl ⟨rfl,ho⟩)
  rw[dL (by simp),dL ho,sG];have sE:¬300<m.out.length+([]:List UInt8).length:=by have:=h.ol;simp;omega
  rw[dL sE];exact KR w rb vA vS vR bs m depth _ 1 1 0 ([]) h gS gG hv lS Tb (by decide) (by decide) (by decide) (by omega) (by omega) (by omega) (sO w) hW sB ⟨rfl,rfl,rfl,rfl⟩
theorem BE (w:aY)(rb:Nat)(vA vS vR:aG)(bs:List aG)(m:N.cE)(depth:Int)(h:cH w rb vA vS vR bs m):fS w rb vA vS vR bs m depth [114,64]:=by
 have ht:N.takes [114,64]=(0,1,1,1):=rfl;have hR:=h.rl;have hSl:=h.sl;unfold fS;by_cases hu:m.S.length<0\/m.R.length<1
 ·rw[fO m _ ht hu];exact iV w rb vA vS vR bs m depth _ 0 1 1 1 h hu (sH w)
 have Tb:1<=m.R.length:=by omega
 have hW:=λ(W:aY) (vl:aG)=>gY W (aK (aE ⟨rb,0,aC⟩)) vl ⟨#[114,64]⟩ (bQ rfl) (bQ rfl) (bQ rfl) (bQ rfl) (bQ rfl) (bQ rfl)
 have hw:N.lG m [114,64] []=0:=rfl;have sB:∀W:aY,bH aQ 80 #[aI ⟨#[114,64]⟩,aH aF 0] W λe w' =>e=aM (aI ⟨([]:List UInt8).toArray⟩)/\bA W.heap.size W w' :=λW=>(eX _ 0 W (bQ rfl) (bQ rfl) (bQ rfl)).mono λe w' h=>⟨h.1,h.2▸bF _ _⟩
 have sG:N.told [114,64] (([]:List Int).getD 0 0)=[]:=rfl;rw[jO m _ ht (rest:=m.S) (l:=[]) (by simp) rfl Tb,hw];rcases jB h.st with ⟨hv,n0,_⟩|⟨gS,gG,hv,lS⟩
 ·have ho:¬(16<m.S.length+1\/16<m.R.length-1+1):=by omega
  rw[dL (by simp),dL ho,sG];have sE:¬300<m.out.length+([]:List UInt8).length:=by have:=h.ol;simp;omega
  rw[dL sE];exact fl w rb vA vS vR bs m depth _ 1 1 1 ([]) h hv n0 Tb (by decide) (by decide) (by decide) (by omega) (by omega) (by omega) (sH w) hW sB (.inl ⟨rfl,rfl,rfl,rfl⟩)
 ·skip
  by_cases ho:16<m.S.length+1\/16<m.R.length-1+1
  ·rw[dL (by simp),eJ ho];exact Db w rb vA vS vR bs m depth _ 1 1 1 [] h gS gG hv lS Tb (by decide) (by decide) (by decide) 7 (sH w) hW (.inl ⟨rfl,ho⟩)
  rw[dL (by simp),dL ho,sG];have sE:¬300<m.out.length+([]:List UInt8).length:=by have:=h.ol;simp;omega
  rw[dL sE];exact ep w rb vA vS vR bs m depth _ 1 1 1 ([]) h gS gG hv lS Tb (by decide) (by decide) (by decide) (by omega) (by omega) (by omega) (sH w) hW sB (.inl ⟨rfl,rfl,rfl,rfl⟩)
theorem Xw (w:aY)(rb:Nat)(vA vS vR:aG)(bs:List aG)(m:N.cE)(depth:Int)(h:cH w rb vA vS vR bs m):fS w rb vA vS vR bs m depth [100,101,112,116,104]:=by
 have ht:N.takes [100,101,112,116,104]=(0,0,1,0):=rfl;have hR:=h.rl;have hSl:=h.sl;unfold fS;by_cases hu:m.S.length<0\/m.R.length<0
 ·rw[fO m _ ht hu];exact iV w rb vA vS vR bs m depth _ 0 0 1 0 h hu (sM w)
 have Tb:0<=m.R.length:=by omega
 have hW:=λ(W:aY) (vl:aG)=>gY W (aK (aE ⟨rb,0,aC⟩)) vl ⟨#[100,101,112,116,104]⟩ (bQ rfl) (bQ rfl) (bQ rfl) (bQ rfl) (bQ rfl) (bQ rfl)
 have hw:N.lG m [100,101,112,116,104] []=0:=rfl;have sB:∀W:aY,bH aQ 80 #[aI ⟨#[100,101,112,116,104]⟩,aH aF 0] W λe w' =>e=aM (aI ⟨([]:List UInt8).toArray⟩)/\bA W.heap.size W w' :=λW=>(eX _ 0 W (bQ rfl) (bQ rfl) (bQ rfl)).mono λe w' h=>⟨h.1,h.2▸bF _ _⟩
 have sG:N.told [100,101,112,116,104] (([]:List Int).getD 0 0)=[]:=rfl;rw[jO m _ ht (rest:=m.S) (l:=[]) (by simp) rfl Tb,hw];rcases jB h.st with ⟨hv,n0,_⟩|⟨gS,gG,hv,lS⟩
 ·have ho:¬(16<m.S.length+1\/16<m.R.length-0+0):=by omega
  rw[dL (by simp),dL ho,sG];have sE:¬300<m.out.length+([]:List UInt8).length:=by have:=h.ol;simp;omega
  rw[dL sE];exact fl w rb vA vS vR bs m depth _ 0 1 0 ([]) h hv n0 Tb (by decide) (by decide) (by decide) (by omega) (by omega) (by omega) (sM w) hW sB (.inr (.inl ⟨rfl,rfl,rfl,rfl⟩))
 ·skip
  by_cases ho:16<m.S.length+1\/16<m.R.length-0+0
  ·rw[dL (by simp),eJ ho];exact Db w rb vA vS vR bs m depth _ 0 1 0 [] h gS gG hv lS Tb (by decide) (by decide) (by decide) 7 (sM w) hW (.inl ⟨rfl,ho⟩)
  rw[dL (by simp),dL ho,sG];have sE:¬300<m.out.length+([]:List UInt8).length:=by have:=h.ol;simp;omega
  rw[dL sE];exact ep w rb vA vS vR bs m depth _ 0 1 0 ([]) h gS gG hv lS Tb (by decide) (by decide) (by decide) (by omega) (by omega) (by omega) (sM w) hW sB (.inr (.inl ⟨rfl,rfl,rfl,rfl⟩))
theorem IM (w:aY)(rb:Nat)(vA vS vR:aG)(bs:List aG)(m:N.cE)(depth:Int)(h:cH w rb vA vS vR bs m):fS w rb vA vS vR bs m depth [99,114]:=by
 have ht:N.takes [99,114]=(0,0,0,0):=rfl;have hR:=h.rl;have hSl:=h.sl;unfold fS;by_cases hu:m.S.length<0\/m.R.length<0
 ·rw[fO m _ ht hu];exact iV w rb vA vS vR bs m depth _ 0 0 0 0 h hu (oP w)
 have Tb:0<=m.R.length:=by omega
 have hW:=λ(W:aY) (vl:aG)=>gY W (aK (aE ⟨rb,0,aC⟩)) vl ⟨#[99,114]⟩ (bQ rfl) (bQ rfl) (bQ rfl) (bQ rfl) (bQ rfl) (bQ rfl)
 have hw:N.lG m [99,114] []=0:=rfl;have sB:∀W:aY,bH aQ 80 #[aI ⟨#[99,114]⟩,aH aF 0] W λe w' =>e=aM (aI ⟨([10]:List UInt8).toArray⟩)/\bA W.heap.size W w' :=λW=>(x7 0 W).mono λe w' h=>⟨h.1,h.2▸bF _ _⟩
 have sG:N.told [99,114] (([]:List Int).getD 0 0)=[10]:=rfl;rw[jO m _ ht (rest:=m.S) (l:=[]) (by simp) rfl Tb,hw];rcases jB h.st with ⟨hv,n0,_⟩|⟨gS,gG,hv,lS⟩
 ·have ho:¬(16<m.S.length+0\/16<m.R.length-0+0):=by omega
  rw[dL (by simp),dL ho,sG];by_cases sE:300<m.out.length+([10]:List UInt8).length
  ·rw[eJ sE];exact QS w rb vA vS vR bs m depth _ 0 0 0 ([10]) h hv n0 Tb (by decide) (by decide) (by decide) 12 (oP w) hW (⟨rfl,by omega,by omega,sE,by decide,sB⟩)
  rw[dL sE];exact fl w rb vA vS vR bs m depth _ 0 0 0 ([10]) h hv n0 Tb (by decide) (by decide) (by decide) (by omega) (by omega) (by omega) (oP w) hW sB (.inr (.inr ⟨rfl,rfl,rfl,rfl⟩))
 ·skip
  by_cases ho:16<m.S.length+0\/16<m.R.length-0+0
  ·rw[dL (by simp),eJ ho];exact Db w rb vA vS vR bs m depth _ 0 0 0 [] h gS gG hv lS Tb (by decide) (by decide) (by decide) 7 (oP w) hW (.inl ⟨rfl,ho⟩)
  rw[dL (by simp),dL ho,sG];by_cases sE:300<m.out.length+([10]:List UInt8).length
  ·rw[eJ sE];exact Db w rb vA vS vR bs m depth _ 0 0 0 ([10]) h gS gG hv lS Tb (by decide) (by decide) (by decide) 12 (oP w) hW (.inr ⟨rfl,by omega,by omega,sE,by decide,sB⟩)
  rw[dL sE];exact ep w rb vA vS vR bs m depth _ 0 0 0 ([10]) h gS gG hv lS Tb (by decide) (by decide) (by decide) (by omega) (by omega) (by omega) (oP w) hW sB (.inr (.inr ⟨rfl,rfl,rfl,rfl⟩))
variable {m:N.cE}
theorem Fq {t:Int}(h:rH m t=0):∃(j:Nat) (e:N.iM),m.all[j]?=aE e/\t=1000+(j:Int):=by
 unfold rH at h;cases hp:N.place m t with
 |none=>rw[hp] at h;exact absurd (show(9:Int)=0 from h) (by decide)
 |some k=>
  obtain⟨h1,h2⟩:=Rh hp;exact⟨k,_,bL h1,h2⟩
theorem KD (w:aY)(rb:Nat)(vA vS vR:aG)(bs:List aG)(m:N.cE)(depth:Int)(h:cH w rb vA vS vR bs m):fS w rb vA vS vR bs m depth [64]:=by
 have ht:N.takes [64]=(1,0,1,0):=rfl;have hR:=h.rl;unfold fS;by_cases hu:m.S.length<1\/m.R.length<0
 ·rw[fO m _ ht hu];exact iV w rb vA vS vR bs m depth _ 1 0 1 0 h hu (wA w)
 obtain⟨rest,l,hS,hl⟩:=iT m.S 1 (λx=>hu (.inl x));obtain⟨x,rfl⟩:=xU hl;have Q7:dQ x:=h.si x (by rw[hS];simp);have hW:∀(W:aY) (gl cap:Nat),cH W rb vA vS vR bs m->(∀j v,([x]:List Int)[j]?=aE v->W.cell? ⟨gl,j,aC⟩=aE (aH aF v))->bH aQ 79 #[aK (aE ⟨rb,0,aC⟩),aI ⟨#[64]⟩,aJ (aE ⟨gl,0,aC⟩) 1 cap] W λe w' =>e=aM (aH aF (rH m x))/\w' =W:=
  λW gl cap Bh hc=>Iv W rb gl cap 0 vA vS vR bs m x ⟨#[64]⟩ (.inl ⟨rfl,rfl⟩) (hc 0 x rfl) Q7 Bh
 have Te:N.lG m [64] [x]=rH m x:=rfl;rw[jO m _ ht hS hl (bZ _),Te];by_cases hy:rH m x=0
 ·obtain⟨j,E,hj,j7⟩:=Fq hy;rw[hy] at hW ⊢;have sB:∀W:aY,bH aQ 80 #[aI ⟨#[64]⟩,aH aF x] W λe w' =>e=aM (aI ⟨([]:List UInt8).toArray⟩)/\bA W.heap.size W w' :=λW=>(eX _ x W (bQ rfl) (bQ rfl) (bQ rfl)).mono λe w' h=>⟨h.1,h.2▸bF _ _⟩
  have ho:¬(16<rest.length+1\/16<m.R.length-0+0):=by
   have h1:=h.sl;rw[hS,bN,hl] at h1;omega
  rw[dL (by simp),dL ho,dL (by show ¬300<m.out.length+0;have:=h.ol;omega)];exact gu w rb vA vS vR bs m depth _ 1 0 [] rest x h hS (by decide) (by decide) (by omega) (by omega) (by have:=h.ol;simpa using this) (wA w) hW sB ⟨rfl,rfl,rfl⟩ j E hj j7
 ·rw[eJ hy];exact Aa w rb vA vS vR bs m depth _ 1 0 [] rest x h hS (by decide) (by decide) _ (wA w) (.inl ⟨by simpa using hy,hW⟩)
theorem Y8 (w:aY)(rb:Nat)(vA vS vR:aG)(bs:List aG)(m:N.cE)(depth:Int)(h:cH w rb vA vS vR bs m):fS w rb vA vS vR bs m depth [33]:=by
 have ht:N.takes [33]=(2,0,0,0):=rfl;have hR:=h.rl;unfold fS;by_cases hu:m.S.length<2\/m.R.length<0
 ·rw[fO m _ ht hu];exact iV w rb vA vS vR bs m depth _ 2 0 0 0 h hu (wG w)
 obtain⟨rest,l,hS,hl⟩:=iT m.S 2 (λx=>hu (.inl x));obtain⟨x,y,rfl⟩:=pN hl;have Q7:dQ y:=h.si y (by rw[hS];simp);have hW:∀(W:aY) (gl cap:Nat),cH W rb vA vS vR bs m->(∀j v,([x,y]:List Int)[j]?=aE v->W.cell? ⟨gl,j,aC⟩=aE (aH aF v))->bH aQ 79 #[aK (aE ⟨rb,0,aC⟩),aI ⟨#[33]⟩,aJ (aE ⟨gl,0,aC⟩) 2 cap] W λe w' =>e=aM (aH aF (rH m y))/\w' =W:=
  λW gl cap Bh hc=>Iv W rb gl cap 1 vA vS vR bs m y ⟨#[33]⟩ (.inr ⟨rfl,rfl⟩) (hc 1 y rfl) Q7 Bh
 have Te:N.lG m [33] [x,y]=rH m y:=rfl;rw[jO m _ ht hS hl (bZ _),Te];by_cases hy:rH m y=0
 ·obtain⟨j,E,hj,j7⟩:=Fq hy;rw[hy] at hW ⊢;have sB:∀W:aY,bH aQ 80 #[aI ⟨#[33]⟩,aH aF x] W λe w' =>e=aM (aI ⟨([]:List UInt8).toArray⟩)/\bA W.heap.size W w' :=λW=>(eX _ x W (bQ rfl) (bQ rfl) (bQ rfl)).mono λe w' h=>⟨h.1,h.2▸bF _ _⟩
  have ho:¬(16<rest.length+0\/16<m.R.length-0+0):=by
   have h1:=h.sl;rw[hS,bN,hl] at h1;omega
  rw[dL (by simp),dL ho,dL (by show ¬300<m.out.length+0;have:=h.ol;omega)];exact eu w rb vA vS vR bs m depth _ 0 0 [] rest x y h hS (by decide) (by decide) (by omega) (by omega) (by have:=h.ol;simpa using this) (wG w) hW sB ⟨rfl,rfl,rfl⟩ j E hj j7
 ·rw[eJ hy];exact Qe w rb vA vS vR bs m depth _ 0 0 rest x y h hS (by decide) (by decide) _ (wG w) (.inl ⟨by simpa using hy,hW⟩)
def rG (O:N.cE->Nat->N.cE×Int) (m:N.cE) (s:N.eE):N.cE×Int:=
 match (N.kC m s).2.2 with
 |some j=>O (N.kC m s).1 j
 |none=>((N.kC m s).1,(N.kC m s).2.1)
def QO (rb:Nat) (vA vR:aG) (bs:List aG) (m:N.cE) (depth:Int) (O:N.cE->Nat->N.cE×Int):Prop:=
 ∀(W:aY) (pU :aG) (j:Nat) (M:N.cE),cH W rb vA pU vR bs M->M.all=m.all->M.steps=m.steps->(∃e,M.all[j]?=aE e/\e.ended=aX)->bH aQ 60 #[aK (aE ⟨rb,0,aC⟩),aH aF j,aH aF depth] W λe w' =>e=aM (aH aF (O M j).2)/\dP rb vA pU vR bs (O M j).1 W w'
variable {k:Nat}
theorem K9 {t:Int}(h:N.place m t=aE k):∃e,m.all[k]?=aE e/\e.ended=aX:=by
 unfold N.place at h;by_cases h0:t<1000
 ·rw[eJ h0] at h;cases h
 ·rw[dL h0] at h;cases he:m.all[(t-1000).toNat]? with
  |none=>rw[he] at h;cases h
  |some e=>
   rw[he] at h;simp only at h;by_cases ht:N.there e=aX
   ·rw[eJ ht] at h;injection h with h;subst h;exact⟨e,he,jX ht⟩
   ·rw[dL ht] at h;cases h
theorem E0 (w:aY)(rb:Nat)(vA vS vR:aG)(bs:List aG)(m:N.cE)(depth:Int)(O:N.cE->Nat->N.cE×Int)(h:cH w rb vA vS vR bs m)(fK:QO rb vA vR bs m depth O):
 bH aQ 61 #[aK (aE ⟨rb,0,aC⟩),aI ⟨#[101,120,101,99,117,116,101]⟩,aH aF depth] w λe w' =>e=aM (aH aF (rG O m [101,120,101,99,117,116,101]).2)/\dP rb vA vS vR bs (rG O m [101,120,101,99,117,116,101]).1 w w' :=by
 have ht:N.takes [101,120,101,99,117,116,101]=(1,0,0,0):=rfl;have hR:=h.rl;unfold rG;by_cases hu:m.S.length<1\/m.R.length<0
 ·rw[fO m _ ht hu];exact iV w rb vA vS vR bs m depth _ 1 0 0 0 h hu (wE w)
 obtain⟨rest,l,hS,hl⟩:=iT m.S 1 (λx=>hu (.inl x));obtain⟨x,rfl⟩:=xU hl;have Q7:dQ x:=h.si x (by rw[hS];simp);have hW:∀(W:aY) (gl cap:Nat),cH W rb vA vS vR bs m->(∀j v,([x]:List Int)[j]?=aE v->W.cell? ⟨gl,j,aC⟩=aE (aH aF v))->bH aQ 79 #[aK (aE ⟨rb,0,aC⟩),aI ⟨#[101,120,101,99,117,116,101]⟩,aJ (aE ⟨gl,0,aC⟩) 1 cap] W λe w' =>e=aM (aH aF (match N.place m x with|some _=>0|none=>10))/\w' =W:=
  λW gl cap Bh hc=>u9 W rb gl cap vA vS vR bs m x (hc 0 x rfl) Q7 Bh
 have Te:N.lG m [101,120,101,99,117,116,101] [x]=(match N.place m x with|some _=>0|none=>10):=rfl;rw[jO m _ ht hS hl (bZ _),Te];cases hp:N.place m x with
 |none=>
  rw[hp] at hW;rw[eJ (by decide)];exact Aa w rb vA vS vR bs m depth _ 0 0 [] rest x h hS (by decide) (by decide) 10 (wE w) (.inl ⟨rfl,hW⟩)
 |some j=>
  rw[hp] at hW;obtain⟨hj,j7⟩:=Rh hp;have sB:∀W:aY,bH aQ 80 #[aI ⟨#[101,120,101,99,117,116,101]⟩,aH aF x] W λe w' =>e=aM (aI ⟨([]:List UInt8).toArray⟩)/\bA W.heap.size W w' :=λW=>(eX _ x W (bQ rfl) (bQ rfl) (bQ rfl)).mono λe w' h=>⟨h.1,h.2▸bF _ _⟩
  have ho:¬(16<rest.length+0\/16<m.R.length-0+0):=by
   have h1:=h.sl;rw[hS,bN,hl] at h1;omega
  rw[dL (by simp),dL ho,dL (by show ¬300<m.out.length+0;have:=h.ol;omega)];have R1:(x-1000).toNat=j:=by omega
  have hold:=h.qU;show bH _ _ _ _ λe w' =>e=aM (aH aF (O {m with out:=m.out++([]:List UInt8),S:=rest} (x-1000).toNat).2)/\dP rb vA vS vR bs (O {m with out:=m.out++([]:List UInt8),S:=rest} (x-1000).toNat).1 w w'
  rw[R1];exact WI w rb vA vS vR bs m depth _ 0 0 [] rest x h hS (by decide) (by decide) (by omega) (by omega) (by have:=h.ol;simpa using this) (wE w) hW sB ⟨rfl,rfl,rfl⟩ j j7 (by omega) _ _ (λW pU Bh=>fK W pU j _ Bh rfl rfl (K9 hp))
theorem JG (m:N.cE)(s:N.eE)(h:(s==[101,120,101,99,117,116,101])=aV):(N.kC m s).2.2=aC:=by
 unfold N.kC;simp only[h]
 split
 ·rfl
 split
 ·rfl
 split
 ·rfl
 split
 ·rfl
 ·rfl
variable {w:aY}{rb:Nat}{vA vS vR:aG}{bs:List aG}
theorem fS.then {depth:Int}{s:N.eE}(h:fS w rb vA vS vR bs m depth s)(hs:(s==[101,120,101,99,117,116,101])=aV)(O:N.cE->Nat->N.cE×Int):
 bH aQ 61 #[aK (aE ⟨rb,0,aC⟩),aI ⟨s.toArray⟩,aH aF depth] w λe w' =>e=aM (aH aF (rG O m s).2)/\dP rb vA vS vR bs (rG O m s).1 w w' :=by
 unfold rG;rw[JG m s hs];exact h
theorem Oy (w:aY)(rb:Nat)(vA vS vR:aG)(bs:List aG)(m:N.cE)(depth:Int)(O:N.cE->Nat->N.cE×Int)(s:N.eE)(hs:N.rC s=aX)(h:cH w rb vA vS vR bs m)(fK:QO rb vA vR bs m depth O):
 bH aQ 61 #[aK (aE ⟨rb,0,aC⟩),aI ⟨s.toArray⟩,aH aF depth] w λe w' =>e=aM (aH aF (rG O m s).2)/\dP rb vA vS vR bs (rG O m s).1 w w' :=by
 have hm:s∈N.Wm:=by
  unfold N.rC at hs;obtain⟨b,hb,he⟩:=List.any_eq_true.1 hs;rw[eq_of_beq he];exact hb
 simp only[N.Wm,List.mem_cons,dR,or_false] at hm;rcases hm with rfl|rfl|rfl|rfl|rfl|rfl|rfl|rfl|rfl|rfl|rfl|rfl|rfl|rfl|rfl|rfl|rfl|rfl|rfl|rfl|rfl|rfl|rfl|rfl|rfl|rfl|rfl
 ·exact(Z0 w rb vA vS vR bs m depth h).then rfl O
 ·exact(AA w rb vA vS vR bs m depth h).then rfl O
 ·exact(BF w rb vA vS vR bs m depth h).then rfl O
 ·exact(AY w rb vA vS vR bs m depth h).then rfl O
 ·exact(AK w rb vA vS vR bs m depth h).then rfl O
 ·exact(JH w rb vA vS vR bs m depth h).then rfl O
 ·exact(JS w rb vA vS vR bs m depth h).then rfl O
 ·exact(LF w rb vA vS vR bs m depth h).then rfl O
 ·exact(W5 w rb vA vS vR bs m depth h).then rfl O
 ·exact(JF w rb vA vS vR bs m depth h).then rfl O
 ·exact(AX w rb vA vS vR bs m depth h).then rfl O
 ·exact(BG w rb vA vS vR bs m depth h).then rfl O
 ·exact(AZ w rb vA vS vR bs m depth h).then rfl O
 ·exact(C9 w rb vA vS vR bs m depth h).then rfl O
 ·exact(v8 w rb vA vS vR bs m depth h).then rfl O
 ·exact(G0 w rb vA vS vR bs m depth h).then rfl O
 ·exact(U3 w rb vA vS vR bs m depth h).then rfl O
 ·exact(Y6 w rb vA vS vR bs m depth h).then rfl O
 ·exact(Ye w rb vA vS vR bs m depth h).then rfl O
 ·exact(BE w rb vA vS vR bs m depth h).then rfl O
 ·exact(Xw w rb vA vS vR bs m depth h).then rfl O
 ·exact(U5 w rb vA vS vR bs m depth h).then rfl O
 ·exact(y9 w rb vA vS vR bs m depth h).then rfl O
 ·exact(IM w rb vA vS vR bs m depth h).then rfl O
 ·exact(KD w rb vA vS vR bs m depth h).then rfl O
 ·exact(Y8 w rb vA vS vR bs m depth h).then rfl O
 ·exact E0 w rb vA vS vR bs m depth O h fK
structure Xb (all:List N.iM) (j:Nat) (e:N.iM):Prop where
 kind:e.kind=1\/e.kind=2\/e.kind=3\/e.kind=4
 ok:∀c∈e.body,lI all j c
 jump:∀p c,e.body[p]?=aE c->c.kind=4->N.Bl e.body p c.name (N.goal e.body p c.name)
 small:e.body.length<=60
def Ka (m:N.cE):Prop:=∀j e,m.all[j]?=aE e->e.ended=aX->Xb m.all j e
variable {m2:N.cE}{j:Nat}{c:N.Cell}
theorem J3 (hk:N.Kept m m2)(h:lI m.all j c):lI m2.all j c:=by
 rcases h with h|⟨h1,k,x,h2,h3,h4,h5⟩|h|h
 ·exact .inl h
 ·obtain⟨e2,g1,g2⟩:=hk k x h4;exact .inr (.inl ⟨h1,k,e2,h2,h3,g1,by rw[g2.2.1];exact h5⟩)
 ·exact .inr (.inr (.inl h))
 ·exact .inr (.inr (.inr h))
theorem Ka.kept (h:Ka m)(hk:N.Kept m m2)(hl:N.zE m m2):Ka m2:=λj e2 Kt kY=>by
 have eQ:=(bI.1 Kt).1;unfold N.zE at hl;obtain⟨e,he⟩:∃e,m.all[j]?=aE e:=⟨_,bL (by omega)⟩
 obtain⟨e3,g1,g2,g3,g4,_⟩:=hk j e he;rw[g1] at Kt;injection Kt with Kt;subst Kt;have hf:=h j e he (by rw[<-g3];exact kY);exact⟨by rw[g4];exact hf.kind,λc hc=>J3 hk (hf.ok c (by rw[<-g2];exact hc)),λp c hp h4=>by rw[g2] at hp ⊢;exact hf.jump p c hp h4,by rw[g2];exact hf.small⟩
theorem Ka.snoc (h:Ka m)(e:N.iM)(he:e.ended=aX->Xb m.all m.all.length e)(m2:N.cE)(h2:m2.all=m.all++[e]):Ka m2:=λj e2 Kt kY=>by
 rw[h2] at Kt ⊢;rcases N.hU Kt with hj|⟨hj,hx⟩
 ·have hf:=h j e2 hj kY;exact⟨hf.kind,λc hc=>Aj e (hf.ok c hc),hf.jump,hf.small⟩
 ·subst hx;subst hj;have hf:=he kY;exact⟨hf.kind,λc hc=>Aj _ (hf.ok c hc),hf.jump,hf.small⟩
theorem Ka.fZ (h:Ka m)(ha:m2.all=m.all):Ka m2:=by
 unfold Ka at h ⊢;rw[ha];exact h
theorem Pw {l:List UInt8}(h:N.iU m l=aE c):c.kind≠4/\lI m.all m.all.length c:=by
 unfold N.iU N.fP at h;cases hk:N.eS m.all l m.all.length with
 |some k=>
  obtain⟨Hd,e,he,_,Ss⟩:=mN m.all _ _ _ hk;rw[hk] at h;injection h with h;subst h;exact⟨by show(2:Nat)≠4;decide,.inr (.inl ⟨rfl,k,e,rfl,Hd,he,jX Ss⟩)⟩
 |none=>
  rw[hk] at h;simp only at h;rw[xQ] at h
  split at h
  ·rename_i hp
   injection h with h;subst h;exact⟨by show(3:Nat)≠4;decide,.inr (.inr (.inl ⟨rfl,hp⟩))⟩
  ·obtain⟨n,hn,hx⟩:=Option.map_eq_some_iff.1 h;subst hx;exact⟨by show(1:Nat)≠4;decide,.inl ⟨rfl,L.Wp hn⟩⟩
theorem K7 (m:N.cE)(hold:m.all.length<=1000000000000)(ws:List (List UInt8))(p:Nat)(d:N.iY)(s:List UInt8)(h:Bs m.all d)(hz:(jY m ws p d s).1=0):Bs m.all (jY m ws p d s).2.1:=by
 have plain:∀c,c.kind≠4->lI m.all m.all.length c->¬60<=d.body.length->Bs m.all (N.add d c):=λc hk xF hl=>by
  obtain⟨h1,_,h3⟩:=N.add_plain h.Nv c hk;obtain⟨b1,b2⟩:=N.Je h.bulk c;refine⟨h1,N.Dh h.deep c hk,b1,λx hx=>?_,by rw[b2];omega⟩;rw[h3] at hx;rcases List.mem_append.1 hx with hx|hx
  ·exact h.ok x hx
  ·rw[dE] at hx;rw[hx];exact xF
 unfold jY at hz ⊢;by_cases hJ:L.fJ s=aV
 ·rw[eJ hJ] at hz ⊢;cases zY:N.iU m s with
  |none=>rw[zY] at hz;cases hz
  |some c=>
   rw[zY] at hz;have Me:=Pw zY;simp only at hz ⊢;by_cases hl:60<=d.body.length
   ·rw[eJ hl] at hz;cases hz
   ·rw[dL hl];exact plain c Me.1 Me.2 hl
 ·rw[dL hJ] at hz ⊢;cases jT:N.stands (N.kinds d) s with
  |none=>rw[jT] at hz;cases hz
  |some o1=>
   rw[jT] at hz;simp only at hz ⊢;by_cases Jy:(s==[39])=aX
   ·rw[eJ Jy] at hz ⊢;by_cases he:N.dB m ws[p+1]? aV≠0
    ·rw[eJ he] at hz;cases hz
    ·rw[dL he] at hz ⊢;cases hk:N.fP m ((ws[p+1]?).getD []) with
     |none=>rw[hk] at hz;cases hz
     |some k=>
      rw[hk] at hz;simp only at hz ⊢;by_cases hl:60<=d.body.length
      ·rw[eJ hl] at hz;cases hz
      ·rw[dL hl];unfold N.fP at hk;obtain⟨Hd,_⟩:=mN m.all _ _ _ hk;have nM:dQ (1000+(k:Int)):=⟨by omega,by omega⟩
       exact plain ⟨1,1000+(k:Int),[]⟩ (show(1:Nat)≠4 by decide) (.inl ⟨rfl,nM⟩) hl
   ·rw[dL Jy] at hz ⊢;by_cases hl:60<=d.body.length
    ·rw[eJ hl] at hz;cases hz
    ·rw[dL hl];have ht:s≠[39]:=λe=>Jy (by rw[e];rfl)
     obtain⟨h1,_,h3⟩:=N.Tc h.Nv s o1 jT ht;obtain⟨b1,b2⟩:=N.Je h.bulk ⟨4,0,s⟩;refine⟨h1,N.P7 h.Nv h.deep s o1 jT ht,b1,λx hx=>?_,by rw[b2];omega⟩;rw[h3] at hx;rcases List.mem_append.1 hx with hx|hx
     ·exact h.ok x hx
     ·rw[dE] at hx;rw[hx];exact .inr (.inr (.inr ⟨rfl,Hi jT ht⟩))
theorem Vt (m:N.cE)(hold:m.all.length<=1000000000000)(ws:List (List UInt8)):∀(f p:Nat) (d:N.iY),Bs m.all d->(N.reads m ws f p (N.kinds d) (N.cells d)).2.1=0->∃d',Bs m.all d' /\d'.opens=[]/\N.cells d' =(N.reads m ws f p (N.kinds d) (N.cells d)).1
 |0,p,d,_,hz=>by cases hz
 |f+1,p,d,h,hz=>by
  cases hs:ws[p]? with
  |none=>
   rw[N.reads,hs] at hz;cases hz
  |some s=>
   by_cases sR:(s==[59])=aV\/d.opens≠[]
   ·obtain⟨k1,k2⟩:=Oj m ws f p d s h hs sR;by_cases h0:(jY m ws p d s).1=0
    ·rw[k2 h0] at hz ⊢;exact Vt m hold ws f _ _ (K7 m hold ws p d s h h0) hz
    ·exact(h0 ((k1 h0).1▸hz)).elim
   ·rw[not_or,Bool.not_eq_false,Decidable.not_not] at sR;refine⟨d,h,sR.2,?_⟩;rw[N.reads,hs];simp only;rw[eJ sR.1]
    split <;> rfl
theorem IQ (m:N.cE)(hold:m.all.length<=1000000000000)(ws:List (List UInt8))(f p:Nat)(nm:List UInt8)(hz:(N.reads m ws f p [] []).2.1=0):Xb m.all m.all.length ⟨nm,1,0,(N.reads m ws f p [] []).1,aX,aV⟩:=by
 obtain⟨d,hd,Sr,nQ⟩:=Vt m hold ws f p ⟨[],[]⟩ (Vs _) hz;have nQ:N.cells d=(N.reads m ws f p [] []).1:=nQ;rw[<-nQ];refine⟨.inl rfl,hd.ok,λq c hq h4=>?_,by show(N.cells d).length<=60;rw[N.iH];exact hd.small⟩;have hq:(N.cells d)[q]?=aE c:=hq;show N.Bl (N.cells d) q c.name (N.goal (N.cells d) q c.name);unfold N.cells at hq;rw[cI] at hq;obtain⟨⟨c',g⟩,hx,Q0⟩:=Option.map_eq_some_iff.1 hq;simp only at Q0;subst Q0;have hj:=N.Rt hd.deep Sr hx h4;refine⟨λhf=>?_,hj.2⟩;rw[<-N.Sq hd.Nv Sr hx h4 hf];exact hj.1 hf
theorem FO (m:N.cE)(hold:m.all.length<=1000000000000)(ws:List N.eE)(p:Nat)(l:N.eE)(h:Ka m):Ka (N.one m ws p l).1:=by
 have Ry:∀(nm:N.eE) (k:Nat) (n:Int),(k=2\/k=3\/k=4)->Xb m.all m.all.length ⟨nm,k,n,[],aX,aV⟩:=λnm k n hk=>
  ⟨.inr hk,λc hc=>(by simp at hc),λp c hp=>(by simp at hp),bZ _⟩
 by_cases h1:l=Ng
 ·rw[h1,Ob]
  split
  ·exact h
  ·refine h.snoc _ (λhe=>?_) _ rfl;have hz:(N.reads m ws (ws.length+1) (p+2) [] []).2.1=0:=by
    have:((N.reads m ws (ws.length+1) (p+2) [] []).2.1==0)=aX:=he;exact eq_of_beq this
   have:=IQ m hold ws (ws.length+1) (p+2) ((ws[p+1]?).getD []) hz;exact⟨this.kind,this.ok,this.jump,this.small⟩
 by_cases h2:l=Uh
 ·rw[h2,Az]
  split
  ·exact h
  ·cases N.fP m ((ws[p+1]?).getD []) with
   |none=>exact h
   |some k=>exact h.fZ (N.rK _ _)
 by_cases h3:l=To
 ·rw[h3,Ih]
  split
  ·exact h
  ·exact h.snoc _ (λ_=>Ry _ 2 0 (.inl rfl)) _ rfl
 by_cases h4:l=Uq
 ·rw[h4,Ht]
  split
  ·exact h
  ·cases lO:N.pop m with
   |none=>exact h
   |some q=>
    obtain⟨m1,n⟩:=q;have ha:=N.j8 lO;exact h.snoc _ (λ_=>Ry _ 3 n (.inr (.inl rfl))) _ (by simp only;rw[ha])
 by_cases h5:l=Fo
 ·rw[h5,Cp]
  split
  ·exact h
  ·exact h.snoc _ (λ_=>Ry _ 4 0 (.inr (.inr rfl))) _ rfl
 by_cases h6:l=Ff
 ·rw[h6,wV]
  split
  ·exact h
  ·cases N.fP m ((ws[p+1]?).getD []) with
   |none=>exact h
   |some k=>exact h.kept (N.Jq m k) (N.Dp m k)
 rw[Il m ws p l h1 h2 h3 h4 h5 h6];cases L.fJ l with
 |true=>exact h
 |false=>
  rw[dL (by simp)];cases N.iU m l with
  |none=>exact h
  |some c=>exact h.kept (N.rO N.fuel m 0 c) (N.sX N.fuel m 0 c)
section
attribute [local go_sem ↓] Go.wp_at_zero Go.wp_at_succ
theorem RV (f:Nat){depth:Nat}{e:N.iM}(he:m.all[j]?=aE e)(hk:e.kind=2):N.owns f m j depth=N.push m (1000+j):=by
 unfold N.owns;rw[he];exact eJ hk
theorem QU (f:Nat){depth:Nat}{e:N.iM}(he:m.all[j]?=aE e)(hk:e.kind=3):N.owns f m j depth=N.push m e.n:=by
 unfold N.owns;rw[he];exact(dL (by omega)).trans (eJ hk)
theorem IE (f:Nat){depth:Nat}{e:N.iM}(he:m.all[j]?=aE e)(hk:e.kind=4):N.owns f m j depth=(N.kF m j,0):=by
 unfold N.owns;rw[he];exact(dL (by omega)).trans ((dL (by omega)).trans (eJ hk))
theorem QW (f:Nat){depth:Nat}{e:N.iM}(he:m.all[j]?=aE e)(hk:e.kind=1):N.owns f m j depth=if 12<=depth then(m,13) else N.body f m j e.body (depth+1) 0 []:=by
 unfold N.owns;rw[he];exact(dL (by omega)).trans ((dL (by omega)).trans (dL (by omega)))
theorem RJ (w:aY)(rb:Nat)(vA vS vR:aG)(bs:List aG)(m:N.cE)(j:Nat)(e:N.iM)(depth f:Nat)(h:cH w rb vA vS vR bs m)(he:m.all[j]?=aE e)(kY:e.ended=aX)(hk:e.kind=1\/e.kind=2\/e.kind=3\/e.kind=4)(hd:depth<=12)(jN:e.kind=1->depth<12->∀W,cH W rb vA vS vR bs m->bH aQ 77 #[aK (aE ⟨rb,0,aC⟩),aH aF j,aH aF ((depth+1:Nat):Int)] W λr w' =>r=aM (aH aF (N.body f m j e.body (depth+1) 0 []).2)/\dP rb vA vS vR bs (N.body f m j e.body (depth+1) 0 []).1 W w'):
 bH aQ 60 #[aK (aE ⟨rb,0,aC⟩),aH aF j,aH aF depth] w λr w' =>r=aM (aH aF (N.owns f m j depth).2)/\dP rb vA vS vR bs (N.owns f m j depth).1 w w' :=by
 have hj:=(bI.1 he).1;have hold:=h.qU;have IA:dQ e.n:=h.ni e (cG he);obtain⟨g,cap,v,rE,NL,hglt,q0,q1,q2,q3,q4,q5,_⟩:=h.tA he;obtain⟨av,nv,cv,rfl⟩:∃a n c,v=aJ a n c:=by
  rcases(h.Xa j e v he NL kY).1.2 with ⟨h1,_⟩|⟨_,_,_,h1,_⟩
  ·exact⟨_,_,_,h1⟩
  ·exact⟨_,_,_,h1⟩
 clear NL;have c0:w.cell? ⟨rb,0,aC⟩=aE (aJ (aE ⟨g,0,aC⟩) m.all.length cap):=by rw[<-rE];exact aZ h.mc rfl
 have k1:(j:Int)<(m.all.length:Int):=by omega
 have k0:(0:Int)<=(j:Int):=by omega
 have k2:=wi (1000+(j:Int));have k3:=wi ((depth:Int)+1);have fF:∀o:Obj,bA w.heap.size w (w.alloc o):=λo=>(bF _ _).alloc (bD _) _
 have sS:∀(x:Int) (o:Obj),dQ x->bH aQ 59 #[aK (aE ⟨rb,0,aC⟩),aH aF x] (w.alloc o) λr w' =>r=aM (aH aF (N.push m x).2)/\dP rb vA vS vR bs (N.push m x).1 w w' :=λx o hx=>(zJ _ rb vA vS vR bs m x hx (h.below (fF o))).mono λr w' hh=>⟨hh.1,dP.after (fF o) hh.2⟩
 rcases hk with hk|hk|hk|hk
 ·rw[QW f he hk];rw[hk] at q1;have q1:w.cell? ⟨g,j*6+1,aC⟩=aE (aH aF 1):=q1;by_cases NH:12<=depth
  ·rw[eJ NH];have d1:(12:Int)<=(depth:Int):=by omega
   have HR:=bE (λo=>dP.stay h (fF o));clear h sS jN he rE hk hj hold NH hd fF IA;generalize m.all.length=n at*;go_enter func60,ntmps60;go_wp2;go_ret;exact⟨rfl,aN HR _⟩
  ·rw[dL NH];have d1:¬(depth:Int)≥12:=by omega
   have HB:=bE (λo:Obj=>(jN hk (by omega) _ (h.below (fF o))).mono (λr w' hh=>bK hh.1 (dP.after (fF o) hh.2)));clear h sS jN he rE hk hj hold NH hd fF IA;generalize m.all.length=n at*;generalize N.body f m j e.body (depth+1) 0 []=res at*;go_enter func60,ntmps60;go_wp2_with fail
   refine(aN HB _).mono ?_;rintro r w2 ⟨rfl,hg⟩;have HG:=bE hg;clear hg;go_wp2;go_ret;exact⟨rfl,aN HG⟩
 ·rw[RV f he hk];rw[hk] at q1;have q1:w.cell? ⟨g,j*6+1,aC⟩=aE (aH aF 2):=q1;have HP:=bE (λo=>sS (1000+(j:Int)) o ⟨by omega,by omega⟩);clear h sS jN he rE hk hj hold hd fF IA;generalize m.all.length=n at*;generalize N.push m (1000+(j:Int))=pm at*;go_enter func60,ntmps60;go_wp2_with fail
  refine(aN HP _).mono ?_;rintro r w2 ⟨rfl,hg⟩;have HG:=bE hg;clear hg;go_wp2;go_ret;exact⟨rfl,aN HG⟩
 ·rw[QU f he hk];rw[hk] at q1;have q1:w.cell? ⟨g,j*6+1,aC⟩=aE (aH aF 3):=q1;have HP:=bE (λo=>sS e.n o IA);clear h sS jN he rE hk hj hold hd fF IA;generalize m.all.length=n at*;generalize N.push m e.n=pm at*;generalize e.n=en at*;go_enter func60,ntmps60;go_wp2_with fail
  refine(aN HP _).mono ?_;rintro r w2 ⟨rfl,hg⟩;have HG:=bE hg;clear hg;go_wp2;go_ret;exact⟨rfl,aN HG⟩
 ·rw[IE f he hk];rw[hk] at q1;have q1:w.cell? ⟨g,j*6+1,aC⟩=aE (aH aF 4):=q1;have HP:=bE (λo:Obj=>(Ik _ rb vA vS vR bs m j (by omega) (h.below (fF o))).mono (λr w' hh=>bK hh.1 (dP.after (fF o) hh.2)));clear h sS jN he rE hk hj hold hd fF IA;generalize m.all.length=n at*;generalize N.kF m j=pm at*;go_enter func60,ntmps60;go_wp2_with fail
  refine(aN HP _).mono ?_;rintro r w2 ⟨rfl,hg⟩;have HG:=bE hg;clear hg;go_wp2;go_ret;exact⟨rfl,aN HG⟩
def qP:List N.eE:=[N.iR,N.eK,N.wI,N.fD]
def Lv (P:aY->Nat->aG->Prop) (μ:aY->Nat) (fU:Int->aY->Prop) (wr:aY) (a:Nat) (vr:aG) (code:Int) (w2:aY):Prop:=(code≠0/\fU code w2)\/(code=0/\P w2 a vr/\μ w2<μ wr)
def iu (P:aY->Nat->aG->Prop) (μ:aY->Nat) (fU:Int->aY->Prop) (rb k:Nat) (depth:Int) (vl:aG) (wr:aY) (a:Nat) (vr:aG) (W:aY) (ck cn:Int) (nm:List UInt8):Prop:=
 (ck=1/\bH aQ 59 #[aK (aE ⟨rb,0,aC⟩),aH aF cn] W λe w2=>∃code,e=aM (aH aF code)/\Lv P μ fU wr (a+1) vr code w2)\/
 (ck=2/\bH aQ 60 #[aK (aE ⟨rb,0,aC⟩),aH aF cn,aH aF depth] W λe w2=>∃code,e=aM (aH aF code)/\Lv P μ fU wr (a+1) vr code w2)\/
 (ck=3/\bH aQ 61 #[aK (aE ⟨rb,0,aC⟩),aI ⟨nm.toArray⟩,aH aF depth] W λe w2=>∃code,e=aM (aH aF code)/\Lv P μ fU wr (a+1) vr code w2)\/
 (ck=4/\nm=[101,120,105,116]/\fU 0 W)\/
 (ck=4/\nm=[114,101,99,117,114,115,101]/\bH aQ 60 #[aK (aE ⟨rb,0,aC⟩),aH aF k,aH aF depth] W λe w2=>∃code,e=aM (aH aF code)/\Lv P μ fU wr (a+1) vr code w2)\/
 (ck=4/\(nm==[101,120,105,116])=aV/\(nm==[114,101,99,117,114,115,101])=aV/\(qP.any λb=>nm==b)=aX/\∀W2,bA W.heap.size W W2->bH aQ 98 #[aK (aE ⟨rb,0,aC⟩),vl,aH aF a,vr] W2 λe w2=>∃(code:Int) (a' :Nat) (NK :aG),e=aM (bC #[aH aF a',NK,aH aF code])/\Lv P μ fU wr a' NK code w2)\/
 (ck=4/\(nm==[101,120,105,116])=aV/\(nm==[114,101,99,117,114,115,101])=aV/\(qP.any λb=>nm==b)=aV/\∀W2,bA W.heap.size W W2->bH aQ 99 #[aK (aE ⟨rb,0,aC⟩),vl,aH aF a] W2 λe w2=>∃(code:Int) (a' :Nat),e=aM (bC #[aH aF a',aH aF code])/\Lv P μ fU wr a' vr code w2)
def gr (P:aY->Nat->aG->Prop) (μ:aY->Nat) (fU:Int->aY->Prop) (rb k:Nat) (depth:Int) (al:Option Addr) (n cl:Nat) (wr:aY) (a:Nat) (vr:aG):Prop:=
 (¬a<n/\fU 0 wr)\/(a<n/\bH aQ 47 #[aK (aE ⟨rb,0,aC⟩)] wr λe w1=>(e=aM (bB aV)/\fU 14 w1)\/(e=aM (bB aX)/\∃(gb:Nat) (ck cn:Int) (nm:List UInt8),al=aE ⟨gb,0,aC⟩/\gb<w1.heap.size/\w1.cell? ⟨gb,a*3,aC⟩=aE (aH aF ck)/\w1.cell? ⟨gb,a*3+1,aC⟩=aE (aH aF cn)/\w1.cell? ⟨gb,a*3+2,aC⟩=aE (aI ⟨nm.toArray⟩)/\
  ∀W,bA w1.heap.size w1 W->iu P μ fU rb k depth (aJ al n cl) wr a vr W ck cn nm))
theorem CL (w:aY)(rb k:Nat)(depth:Int)(gA ZC nA:Nat)(al:Option Addr)(n cl:Nat)(hk:k<nA)(hn:n<=60)(c0:w.cell? ⟨rb,0,aC⟩=aE (aJ (aE ⟨gA,0,aC⟩) nA ZC))(c3:w.cell? ⟨gA,k*6+3,aC⟩=aE (aJ al n cl))(P:aY->Nat->aG->Prop)(μ:aY->Nat)(fU:Int->aY->Prop)(H0:P w 0 (aJ aC 0 0))(H:Hid (∀wr a vr,P wr a vr->gr P μ fU rb k depth al n cl wr a vr)):
 bH aQ 77 #[aK (aE ⟨rb,0,aC⟩),aH aF k,aH aF depth] w λe w' =>∃code,e=aM (aH aF code)/\fU code w' :=by
 have k1:(k:Int)<(nA:Int):=by omega
 have k0:(0:Int)<=(k:Int):=by omega
 have HH0:=bE H0;clear H0;go_enter func77,ntmps77;go_wp2
 go_loopw [8,9] (λvr i wr=>∃a:Nat,i=aH aF a/\P wr a vr) (λ_ _ wr=>μ wr)
 case atStart=>exact⟨0,rfl,aN HH0⟩
 case round=>
  obtain⟨a,rfl,hP⟩:=hrel;have hh:=aN H wr a u8 hP;clear hP HH0 c0 c3;rcases hh with ⟨Og,mL⟩|⟨eQ,lC⟩
  ·have HP:=bE mL;have a1:¬(a:Int)<(n:Int):=by omega
   clear mL Og;go_wp2;go_ret;exact⟨0,rfl,aN HP⟩
  ·have a1:(a:Int)<(n:Int):=by omega
   have a0:(0:Int)<=(a:Int):=by omega
   have a2:=wi ((a:Int)+1);have HS:=bE lC;clear lC eQ;go_wp2_with fail
   refine(aN HS).mono ?_;rintro e w1 (⟨rfl,mL⟩|⟨rfl,gb,ck,cn,nm,rfl,Hf,q0,q1,q2,ZH⟩)
   ·have HP:=bE mL;clear mL;go_wp2;go_ret;exact⟨14,rfl,aN HP⟩
   ·have HA:=bE (ZH (w1.alloc (aU #[aH aF ck,aH aF cn,aI ⟨nm.toArray⟩] 101)) ((bF _ _).alloc (bD _) _));clear ZH;rcases aN HA with ⟨rfl,hc⟩|⟨rfl,hc⟩|⟨rfl,hc⟩|⟨rfl,rfl,hc⟩|⟨rfl,rfl,hc⟩|⟨rfl,h1,h2,h3,hc⟩|⟨rfl,h1,h2,h3,hc⟩
    ·have HC:=bE hc;clear hc HA;go_wp2_with fail
     refine(aN HC).mono ?_;rintro e w2 ⟨code,rfl,(⟨hz,hp⟩|⟨rfl,hp⟩)⟩
     ·have hz' :(code==0)=aV:=by rw[beq_eq_false_iff_ne];exact hz
      have HP:=bE hp;clear hp hz;go_wp2;go_ret;exact⟨code,rfl,aN HP⟩
     ·have HP:=bE hp;clear hp;go_wp2;exact⟨⟨a+1,by simp,(aN HP).1⟩,(aN HP).2⟩
    ·have HC:=bE hc;clear hc HA;go_wp2_with fail
     refine(aN HC).mono ?_;rintro e w2 ⟨code,rfl,(⟨hz,hp⟩|⟨rfl,hp⟩)⟩
     ·have hz' :(code==0)=aV:=by rw[beq_eq_false_iff_ne];exact hz
      have HP:=bE hp;clear hp hz;go_wp2;go_ret;exact⟨code,rfl,aN HP⟩
     ·have HP:=bE hp;clear hp;go_wp2;exact⟨⟨a+1,by simp,(aN HP).1⟩,(aN HP).2⟩
    ·have HC:=bE hc;clear hc HA;go_wp2_with fail
     refine(aN HC).mono ?_;rintro e w2 ⟨code,rfl,(⟨hz,hp⟩|⟨rfl,hp⟩)⟩
     ·have hz' :(code==0)=aV:=by rw[beq_eq_false_iff_ne];exact hz
      have HP:=bE hp;clear hp hz;go_wp2;go_ret;exact⟨code,rfl,aN HP⟩
     ·have HP:=bE hp;clear hp;go_wp2;exact⟨⟨a+1,by simp,(aN HP).1⟩,(aN HP).2⟩
    ·have HC:=bE hc;clear hc HA;go_wp2;go_ret;exact⟨0,rfl,aN HC⟩
    ·have HC:=bE hc;clear hc HA;go_wp2_with fail
     refine(aN HC).mono ?_;rintro e w2 ⟨code,rfl,(⟨hz,hp⟩|⟨rfl,hp⟩)⟩
     ·have hz' :(code==0)=aV:=by rw[beq_eq_false_iff_ne];exact hz
      have HP:=bE hp;clear hp hz;go_wp2;go_ret;exact⟨code,rfl,aN HP⟩
     ·have HP:=bE hp;clear hp;go_wp2;exact⟨⟨a+1,by simp,(aN HP).1⟩,(aN HP).2⟩
    ·have HC:=bE (hc ((w1.alloc (aU #[aH aF 4,aH aF cn,aI ⟨nm.toArray⟩] 101)).alloc (aU #[aI ⟨#[100,111]⟩,aI ⟨#[108,111,111,112]⟩,aI ⟨#[105]⟩,aI ⟨#[108,101,97,118,101]⟩] 9)) ((bF _ _).alloc (bD _) _));have nM:=sP ⟨nm.toArray⟩ (w1.heap.size+1) 4 qP ((w1.alloc (aU #[aH aF 4,aH aF cn,aI ⟨nm.toArray⟩] 101)).alloc (aU #[aI ⟨#[100,111]⟩,aI ⟨#[108,111,111,112]⟩,aI ⟨#[105]⟩,aI ⟨#[108,101,97,118,101]⟩] 9)) 9 (by decide) (lF w1 _ _);have Mh:(⟨nm.toArray⟩:ByteArray).toList=nm:=by rw[Go.ByteArray.toList_eq]
     rw[Mh,h3] at nM;have HI:=bE nM;clear hc HA nM Mh h3;go_wp2_with fail
     refine(aN HI).mono ?_;rintro e iF ⟨rfl,mG⟩;subst iF;go_wp2_with fail
     refine(aN HC).mono ?_;rintro e w2 ⟨code,a',vr2,rfl,(⟨hz,hp⟩|⟨rfl,hp⟩)⟩
     ·have hz' :(code==0)=aV:=by rw[beq_eq_false_iff_ne];exact hz
      have HP:=bE hp;clear hp hz;go_wp2;go_ret;exact⟨code,rfl,aN HP⟩
     ·have HP:=bE hp;clear hp;go_wp2;exact⟨⟨a',rfl,(aN HP).1⟩,(aN HP).2⟩
    ·have HC:=bE (hc ((w1.alloc (aU #[aH aF 4,aH aF cn,aI ⟨nm.toArray⟩] 101)).alloc (aU #[aI ⟨#[100,111]⟩,aI ⟨#[108,111,111,112]⟩,aI ⟨#[105]⟩,aI ⟨#[108,101,97,118,101]⟩] 9)) ((bF _ _).alloc (bD _) _));have nM:=sP ⟨nm.toArray⟩ (w1.heap.size+1) 4 qP ((w1.alloc (aU #[aH aF 4,aH aF cn,aI ⟨nm.toArray⟩] 101)).alloc (aU #[aI ⟨#[100,111]⟩,aI ⟨#[108,111,111,112]⟩,aI ⟨#[105]⟩,aI ⟨#[108,101,97,118,101]⟩] 9)) 9 (by decide) (lF w1 _ _);have Mh:(⟨nm.toArray⟩:ByteArray).toList=nm:=by rw[Go.ByteArray.toList_eq]
     rw[Mh,h3] at nM;have HI:=bE nM;clear hc HA nM Mh h3;go_wp2_with fail
     refine(aN HI).mono ?_;rintro e iF ⟨rfl,mG⟩;subst iF;go_wp2_with fail
     refine(aN HC).mono ?_;rintro e w2 ⟨code,a',rfl,(⟨hz,hp⟩|⟨rfl,hp⟩)⟩
     ·have hz' :(code==0)=aV:=by rw[beq_eq_false_iff_ne];exact hz
      have HP:=bE hp;clear hp hz;go_wp2;go_ret;exact⟨code,rfl,aN HP⟩
     ·have HP:=bE hp;clear hp;go_wp2;exact⟨⟨a',rfl,(aN HP).1⟩,(aN HP).2⟩
end
theorem Xy {l:List N.Cell}{a:Nat}(h:l[a]?=aE c)(h4:c.kind=4):N.dc l (a+1)=N.dc l a+(if c.name==N.iR then 1 else if c.name==N.eK then -1 else 0):=by
 rw[N.Be h];unfold N.UI;rw[eJ h4]
theorem Ro {l:List N.Cell}{a:Nat}(h:l[a]?=aE c)(h4:c.kind≠4):N.dc l (a+1)=N.dc l a:=by
 rw[N.Be h];unfold N.UI;rw[dL h4];omega
variable {r:List (Int×Int)}
theorem JI (m:N.cE){l:List N.Cell}{a:Nat}(h:l[a]?=aE c)(h4:c.kind=4)(eO:c.name=N.iR\/c.name=N.eK\/c.name=N.wI\/c.name=N.fD)(hj:N.Bl l a c.name (N.goal l a c.name))(hr:(r.length:Int)=N.dc l a):
 (N.rounds m l a c.name r).2.2.2=0->((N.rounds m l a c.name r).2.2.1.length:Int)=N.dc l (N.rounds m l a c.name r).2.1/\(N.rounds m l a c.name r).2.2.1.length<=r.length+1:=by
 have hd:=Xy h h4;rcases eO with e|e|e|e
 ·rw[e] at hj hd ⊢;have hg:N.dc l (N.ahead l a N.iR [N.eK] [N.eK])=N.dc l a:=(hj.1 rfl).1;have hd:N.dc l (a+1)=N.dc l a+1:=hd;unfold N.rounds;simp only;rw[eJ (by rfl)]
  split
  ·intro h0;cases h0
  ·split
   ·exact λ_=>⟨by rw[hg];exact hr,Nat.le_succ _⟩
   ·refine λ_=>⟨?_,by simp⟩
    show((r++[_]).length:Int)=N.dc l (a+1);rw[hd,bN,List.length_singleton];omega
 ·rw[e] at hj hd ⊢;have hg:N.dc l (N.fV l N.iR [N.eK] a 0)=N.dc l a:=(hj.1 rfl).1;have hd:N.dc l (a+1)=N.dc l a+-1:=hd;have h1:1<=N.dc l a:=hj.2 rfl;have Jl:r.dropLast.length=r.length-1:=List.length_dropLast;unfold N.rounds;simp only;rw[dL (by decide),eJ (by rfl)]
  split
  ·refine λ_=>⟨?_,?_⟩
   ·show((r.dropLast++[_]).length:Int)=N.dc l (N.fV l N.iR [N.eK] a 0);rw[hg,bN,List.length_singleton,Jl];omega
   ·show(r.dropLast++[_]).length<=r.length+1;rw[bN,List.length_singleton,Jl];omega
  ·refine λ_=>⟨?_,?_⟩
   ·show(r.dropLast.length:Int)=N.dc l (a+1);rw[hd,Jl];omega
   ·show r.dropLast.length<=r.length+1;omega
 ·rw[e] at hj hd ⊢;have hd:N.dc l (a+1)=N.dc l a+0:=hd;unfold N.rounds;simp only;rw[dL (by decide),dL (by decide),dL (by decide)];exact λ_=>⟨by show(r.length:Int)=N.dc l (a+1);rw[hd];omega,Nat.le_succ _⟩
 ·rw[e] at hj hd ⊢;have hg:N.dc l (N.ahead l a N.iR [N.eK] [N.eK])=N.dc l a-1:=(hj.1 rfl).1;have h1:1<=N.dc l a:=hj.2 rfl;have Jl:r.dropLast.length=r.length-1:=List.length_dropLast;unfold N.rounds;simp only;rw[dL (by decide),dL (by decide),eJ (by rfl)];refine λ_=>⟨?_,?_⟩
  ·show(r.dropLast.length:Int)=N.dc l (N.ahead l a N.iR [N.eK] [N.eK]);rw[hg,Jl];omega
  ·show r.dropLast.length<=r.length+1;omega
theorem WA (m:N.cE){l:List N.Cell}{a:Nat}(h:l[a]?=aE c)(h4:c.kind=4)(eO:c.name∈[N.mM,N.fA,N.iQ,N.dT,N.jQ,N.jW,N.eN,N.gB])(hj:N.Bl l a c.name (N.goal l a c.name)):
 (N.ways m l a c.name).2.2=0->N.dc l (N.ways m l a c.name).2.1=N.dc l a:=by
 have hd:=Xy h h4;simp only[List.mem_cons,dR,or_false] at eO;have key:∀(n:N.eE) (g:Nat),(N.ways m l a n).2.2=0->(N.ways m l a n).2.1=g\/(N.ways m l a n).2.1=a+1->N.dc l g=N.dc l a->N.dc l (a+1)=N.dc l a->N.dc l (N.ways m l a n).2.1=N.dc l a:=λn g _ h2 h3 h4=>by
  rcases h2 with h2|h2 <;> rw[h2]
  ·exact h3
  ·exact h4
 have pop:∀(n:N.eE) (g:Nat),(N.ways m l a n=match N.pop m with|none=>(m,0,6)|some (m1,x)=>if x=0 then(m1,g,0) else(m1,a+1,0))->(N.ways m l a n).2.2=0->(N.ways m l a n).2.1=g\/(N.ways m l a n).2.1=a+1:=λn g h1 h0=>by
  rw[h1] at h0 ⊢;cases hp:N.pop m with
  |none=>
   rw[hp] at h0;cases h0
  |some q=>
   obtain⟨m1,x⟩:=q;simp only
   split
   ·exact .inl rfl
   ·exact .inr rfl
 have UU:∀(n:N.eE),(n=N.mM\/n=N.jQ\/n=N.eN)->N.ways m l a n=match N.pop m with|none=>(m,0,6)|some (m1,x)=>if x=0 then(m1,N.goal l a n,0) else(m1,a+1,0):=λn hn=>by
  rcases hn with rfl|rfl|rfl
  ·unfold N.ways;cases N.pop m with
   |none=>rfl
   |some q=>obtain⟨m1,x⟩:=q;rfl
  ·unfold N.ways;cases N.pop m with
   |none=>rfl
   |some q=>obtain⟨m1,x⟩:=q;rfl
  ·unfold N.ways;cases N.pop m with
   |none=>rfl
   |some q=>obtain⟨m1,x⟩:=q;rfl
 rcases eO with e|e|e|e|e|e|e|e
 all_goals rw[e] at hj hd ⊢
 ·have hd:N.dc l (a+1)=N.dc l a:=hd.trans (Int.add_zero _);have hg:N.dc l (N.goal l a N.mM)=N.dc l (a+1):=(hj.1 rfl).1;exact λh0=>key _ _ h0 (pop _ _ (UU _ (.inl rfl)) h0) (hg.trans hd) hd
 ·have hd:N.dc l (a+1)=N.dc l a:=hd.trans (Int.add_zero _);have hg:N.dc l (N.goal l a N.fA)=N.dc l (a+1):=(hj.1 rfl).1;exact λh0=>key _ (N.goal l a N.fA) h0 (.inl rfl) (hg.trans hd) hd
 ·have hd:N.dc l (a+1)=N.dc l a:=hd.trans (Int.add_zero _);exact λ_=>hd
 ·have hd:N.dc l (a+1)=N.dc l a:=hd.trans (Int.add_zero _);exact λ_=>hd
 ·have hd:N.dc l (a+1)=N.dc l a:=hd.trans (Int.add_zero _);have hg:N.dc l (N.goal l a N.jQ)=N.dc l (a+1):=(hj.1 rfl).1;exact λh0=>key _ _ h0 (pop _ _ (UU _ (.inr (.inl rfl))) h0) (hg.trans hd) hd
 ·have hd:N.dc l (a+1)=N.dc l a:=hd.trans (Int.add_zero _);have hg:N.dc l (N.goal l a N.jW)=N.dc l (a+1):=(hj.1 rfl).1;exact λh0=>key _ (N.goal l a N.jW) h0 (.inl rfl) (hg.trans hd) hd
 ·have hd:N.dc l (a+1)=N.dc l a:=hd.trans (Int.add_zero _);have hg:N.dc l (N.goal l a N.eN)=N.dc l (a+1):=(hj.1 rfl).1;exact λh0=>key _ _ h0 (pop _ _ (UU _ (.inr (.inr rfl))) h0) (hg.trans hd) hd
 ·have hd:N.dc l (a+1)=N.dc l a:=hd.trans (Int.add_zero _);have hg:N.dc l (N.goal l a N.gB)=N.dc l (a+1):=(hj.1 rfl).1;exact λh0=>key _ (N.goal l a N.gB) h0 (.inl rfl) (hg.trans hd) hd
def Zq (rb:Nat) (bs:List aG) (F:Nat):Prop:=
 ∀(w:aY) (vA vS vR:aG) (m:N.cE) (k:Nat) (e:N.iM) (depth:Nat),cH w rb vA vS vR bs m->Ka m->m.all[k]?=aE e->e.ended=aX->depth<=12->m.steps<=1000->1000-m.steps<F->
  bH aQ 77 #[aK (aE ⟨rb,0,aC⟩),aH aF k,aH aF depth] w λr w' =>r=aM (aH aF (N.body F m k e.body depth 0 []).2)/\dP rb vA vS vR bs (N.body F m k e.body depth 0 []).1 w w'
def FB (rb:Nat) (bs:List aG) (f:Nat):Prop:=
 ∀(w:aY) (vA vS vR:aG) (m:N.cE) (j:Nat) (e:N.iM) (depth:Nat),cH w rb vA vS vR bs m->Ka m->m.all[j]?=aE e->e.ended=aX->depth<=12->m.steps<=1000->1000-m.steps<f->
  bH aQ 60 #[aK (aE ⟨rb,0,aC⟩),aH aF j,aH aF depth] w λr w' =>r=aM (aH aF (N.owns f m j depth).2)/\dP rb vA vS vR bs (N.owns f m j depth).1 w w'
variable {f:Nat}
theorem Pj (hb:Zq rb bs f):FB rb bs f:=λw vA vS vR m j e depth h wM he kY hd jT hf=>
 RJ w rb vA vS vR bs m j e depth f h he kY (wM j e he kY).kind hd λ_ zO W hW=>hb W vA vS vR m j e (depth+1) hW wM he kY (by omega) jT hf
theorem Fc (f:Nat)(m:N.cE)(depth:Nat)(c:N.Cell)(hk:c.kind=3):rG (λM j=>N.owns f M j depth) m c.name=N.gC f m depth c:=by
 unfold rG N.gC;rw[dL (by omega),dL (by omega)];cases(N.kC m c.name).2.2 <;> rfl
def Ai (w:aY) (rb:Nat):Nat:=match w.cell? ⟨rb,4,aC⟩ with|some (aH _ p)=>p.toNat|_=>0
theorem Wb (h:cH w rb vA vS vR bs m):Ai w rb=m.steps:=by
 have:w.cell? ⟨rb,4,aC⟩=aE (aH aF m.steps):=aZ h.mc rfl;unfold Ai;rw[this];simp
variable {w0 W w2:aY}{B:Nat}{vr:aG}
theorem vH.far {ML VF VL:aG}(hm:Mv (dV rb vA vS vR) w0 W)(hf:dG w0 (dV rb vA vS vR) (dV rb ML VF VL))(hr:fH W B vr r)(hB:w0.heap.size<=B)(h:vH rb ML VF VL vr bs m W w2):dP rb vA vS vR bs m w0 w2:=by
 obtain⟨pI,pU,xM,h1,h2,h3⟩:=h;refine⟨pI,pU,xM,h1,hm.trans (T' :=λk=>dV rb ML VF VL k\/vr.ownBlock=aE k) (λk hk=>?_) h2,hf.trans hm.size h3⟩;rcases hk with hk|hk
 ·exact hf k hk
 ·right
  have:=qC hr.row hk;omega
theorem WM {nm:N.eE}(h:N.inner nm=aX):nm=N.sW\/nm=N.kX\/((nm==N.sW)=aV/\(nm==N.kX)=aV/\(((qP.any λb=>nm==b)=aX/\(nm=N.iR\/nm=N.eK\/nm=N.wI\/nm=N.fD))\/((qP.any λb=>nm==b)=aV/\nm∈[N.mM,N.fA,N.iQ,N.dT,N.jQ,N.jW,N.eN,N.gB]))):=by
 unfold N.inner at h;simp only[List.any_cons,List.any_nil,Bool.or_false,dY,beq_iff_eq] at h;rcases h with rfl|rfl|rfl|rfl|rfl|rfl|rfl|rfl|rfl|rfl|rfl|rfl|rfl|rfl
 ·exact .inr (.inl rfl)
 ·exact .inr (.inr ⟨rfl,rfl,.inr ⟨rfl,by simp⟩⟩)
 ·exact .inr (.inr ⟨rfl,rfl,.inr ⟨rfl,by simp⟩⟩)
 ·exact .inr (.inr ⟨rfl,rfl,.inr ⟨rfl,by simp⟩⟩)
 ·exact .inr (.inr ⟨rfl,rfl,.inr ⟨rfl,by simp⟩⟩)
 ·exact .inr (.inr ⟨rfl,rfl,.inr ⟨rfl,by simp⟩⟩)
 ·exact .inr (.inr ⟨rfl,rfl,.inr ⟨rfl,by simp⟩⟩)
 ·exact .inr (.inr ⟨rfl,rfl,.inr ⟨rfl,by simp⟩⟩)
 ·exact .inr (.inr ⟨rfl,rfl,.inr ⟨rfl,by simp⟩⟩)
 ·exact .inr (.inr ⟨rfl,rfl,.inl ⟨rfl,.inl rfl⟩⟩)
 ·exact .inr (.inr ⟨rfl,rfl,.inl ⟨rfl,.inr (.inl rfl)⟩⟩)
 ·exact .inr (.inr ⟨rfl,rfl,.inl ⟨rfl,.inr (.inr (.inl rfl))⟩⟩)
 ·exact .inr (.inr ⟨rfl,rfl,.inl ⟨rfl,.inr (.inr (.inr rfl))⟩⟩)
 ·exact .inl rfl
variable {α:Type}
theorem FI {nm:N.eE}(x y:α):(if nm==N.iR||nm==N.eK||nm==N.wI||nm==N.fD then x else y)=if(qP.any λb=>nm==b)=aX then x else y:=by
 have:(nm==N.iR||nm==N.eK||nm==N.wI||nm==N.fD)=(qP.any λb=>nm==b):=by simp[qP,Bool.or_assoc]
 rw[this]
theorem LW (rb:Nat)(bs:List aG)(F:Nat)(ih:∀f,f<F->Zq rb bs f):Zq rb bs F:=by
 intro w0 vA vS vR m k e depth h wM he kY hd jT hfu;have hj:=(bI.1 he).1;obtain⟨gA,ZC,v,rE,NL,hglt,_,_,_,q3,_,_,_⟩:=h.tA he;obtain⟨fL,hlen⟩:=h.Xa k e v he NL kY;have c0:w0.cell? ⟨rb,0,aC⟩=aE (aJ (aE ⟨gA,0,aC⟩) m.all.length ZC):=by rw[<-rE];exact aZ h.mc rfl
 obtain⟨al,cl,hv⟩:∃a c,v=aJ a e.body.length c:=by
  rcases fL.2 with ⟨h1,h2⟩|⟨_,_,_,h1,_⟩
  ·exact⟨aC,0,by rw[h1,h2]⟩
  ·exact⟨_,_,h1⟩
 subst hv;have hbody0:∀a,a<e.body.length->∃gb,al=aE ⟨gb,0,aC⟩/\iJ w0 gb e.body:=λa ha=>by
  rcases fL.2 with ⟨h1,h2⟩|⟨gb,cap,cur,h1,_,hg,hle,_,hs,ht⟩
  ·omega
  ·injection h1 with h1 _ _;refine⟨gb,h1,⟨cur,_,hg⟩,λj c hjc=>?_,hlen⟩;have Q8:=(bI.1 hjc).1;have uM:∀f x,f<3->(pF c)[f]?=aE x->w0.cell? ⟨gb,j*3+f,aC⟩=aE x:=λf x hf hx=>by
    have h1:=yW e.body j c f hjc hf;rw[<-ht,List.getElem?_take,eJ (by omega),hx] at h1;rw[cell_of_row w0 gb (j*3+f) cur _ (0,0) hg,<-Array.getElem?_toList];exact h1
   exact⟨uM 0 _ (by omega) rfl,uM 1 _ (by omega) rfl,uM 2 _ (by omega) rfl⟩
 generalize hl:e.body=l at*;generalize dJ:N.body F m k l depth 0 []=res at*
 let P:aY->Nat->aG->Prop:=λwr a vr=>∃f m1 r,f<=F/\dP rb vA vS vR bs m1 w0 wr/\m1.steps<=1000/\1000-m1.steps<f/\N.Kept m m1/\N.zE m m1/\fH wr w0.heap.size vr r/\r.length<=m1.steps/\(a<l.length->(r.length:Int)=N.dc l a)/\N.body f m1 k l depth a r=res
 let fU:Int->aY->Prop:=λcode w' =>code=res.2/\dP rb vA vS vR bs res.1 w0 w'
 have post:∀(p:N.cE×Int) (w' :aY),p=res->dP rb vA vS vR bs p.1 w0 w' ->fU p.2 w' :=λp w' hp hg=>by
  subst hp;exact⟨rfl,hg⟩
 have H0:P w0 0 (aJ aC 0 0):=⟨F,m,[],bD _,dP.stay h (bF _ _),jT,hfu,N.Kept.fZ rfl,N.zE.fZ rfl,⟨⟨rfl,.inl ⟨rfl,rfl⟩⟩,λp hp=>by simp at hp⟩,bZ _,λ_=>by simp[N.dc],dJ⟩
 refine(CL w0 rb k (depth:Int) gA ZC m.all.length al l.length cl hj hlen c0 q3 P (λw=>1000-Ai w rb) fU H0 (bE ?_)).mono ?_
 ·intro wr a vr hP;obtain⟨f,m1,r,hfF,pS,UC,u6,SV,VJ,hR,xH,hdc,jN⟩:=hP;obtain⟨f',rfl⟩:∃f',f=f' +1:=⟨f-1,by omega⟩
  obtain⟨yA,yS,yR,YR,pL,Gw⟩:=pS;have MS:Ai wr rb=m1.steps:=Wb YR;by_cases ha:a<l.length
  case neg=>
   refine .inl ⟨ha,?_⟩;rw[N.wQ f' m1 k l depth a r (dZ (by omega))] at jN;exact post _ _ jN ⟨yA,yS,yR,YR,pL,Gw⟩
  case pos=>
   refine .inr ⟨ha,?_⟩;obtain⟨c,hc⟩:∃c,l[a]?=aE c:=⟨_,bL ha⟩
   refine(Vp wr rb yA yS yR bs m1 YR UC).mono ?_;rintro ee w1 ⟨rfl,zX⟩;have Gt:dP rb vA vS vR bs (N.dI m1) w0 w1:=dP.trans pL Gw zX;by_cases hs:1000<=m1.steps
   ·left
    rw[N.Dm f' m1 k l depth a r c hc hs] at jN;exact⟨by rw[show decide (m1.steps+1<=1000)=aV from decide_eq_false (by omega)],post _ _ jN Gt⟩
   ·right
    refine⟨by rw[show decide (m1.steps+1<=1000)=aX from decide_eq_true (by omega)],?_⟩;obtain⟨gb,Jv,hB0⟩:=hbody0 a ha;obtain⟨zA,zS,zR,hRef1,hmv1,ZJ⟩:=Gt;have hB1:iJ w1 gb l:=hB0.mv h hmv1;have N9:fH w1 w0.heap.size vr r:=by
     obtain⟨_,_,_,_,Bg,_⟩:=zX;exact hR.mv YR Bg
    obtain⟨x0,x1,x2⟩:=hB1.cells a c hc;refine⟨gb,(c.kind:Int),c.n,c.name,Jv,fW hB1.blk,x0,x1,x2,λW hW=>?_⟩;have Md:=hRef1.below hW;have hBW:=hB1.below hW;have Bh:=N9.below hW;have YH:Mv (dV rb vA vS vR) w0 W:=hmv1.trans (dG.refl _ _) (Mv.dS hW _);have YK:(N.dI m1).steps<=1000:=by show m1.steps+1<=1000;omega
    have jl:1000-(N.dI m1).steps<f' :=by show 1000-(m1.steps+1)<f';omega
    have GT:Ka (N.dI m1):=(wM.kept SV VJ).fZ rfl;have hent1:∃e1,m1.all[k]?=aE e1/\e1.ended=aX/\e1.body=l:=by
     obtain⟨e1,h1,h2,h3,_,_⟩:=SV k e he;exact⟨e1,h1,by rw[h3];exact kY,by rw[h2];exact hl⟩
    obtain⟨e1,ZD,hen1,Tn⟩:=hent1;have hfe:=GT k e1 ZD hen1;have o9:=hfe.ok c (by rw[Tn];exact cG hc);have fK:=Pj (ih f' (by omega))
    -- what is done Fh on
    have lead:∀(p:N.cE×Int) (next:Nat) (r' :List (Int×Int)) (NK :aG) (w2:aY),N.pC f' k l depth p next r' =res->N.mW (N.dI m1) p->N.Kept (N.dI m1) p.1->N.zE (N.dI m1) p.1->dP rb vA vS vR bs p.1 w0 w2->(p.2=0->fH w2 w0.heap.size NK r' /\r'.length<=r.length+1/\(next<l.length->(r'.length:Int)=N.dc l next))->Lv P (λw=>1000-Ai w rb) fU wr next NK p.2 w2:=by
     intro p next r' NK w2 hon dn tC sY Jw Tb
     by_cases hz:p.2=0
     ·right
      obtain⟨h1,h2,h3⟩:=Tb hz;have hon' :N.body f' p.1 k l depth next r' =res:=by
       rw[<-hon];unfold N.pC;rw[dL (by simpa using hz)]
      have NP:=dn.1;have Vg:=dn.2 hz YK;have hs3:(N.dI m1).steps=m1.steps+1:=rfl;have hmu2:Ai w2 rb=p.1.steps:=by
       obtain⟨_,_,_,hx,_,_⟩:=Jw;exact Wb hx
      refine⟨hz,⟨f',p.1,r',by omega,Jw,Vg,by omega,(SV.trans (N.Kept.fZ rfl:N.Kept m1 (N.dI m1))).trans tC,(VJ.trans (N.zE.fZ rfl:N.zE m1 (N.dI m1))).trans sY,h1,by omega,h3,hon'⟩,?_⟩;show 1000-Ai w2 rb<1000-Ai wr rb;rw[hmu2,MS];omega
     ·left
      refine⟨hz,post p w2 ?_ Jw⟩;rw[<-hon];unfold N.pC;rw[eJ hz]
    have plain:∀(ck:N.cE×Int) (fn:Nat) (args:Array aG),N.pC f' k l depth ck (a+1) r=res->N.mW (N.dI m1) ck->N.Kept (N.dI m1) ck.1->N.zE (N.dI m1) ck.1->N.dc l (a+1)=N.dc l a->(bH aQ fn args W λe w2=>e=aM (aH aF ck.2)/\dP rb zA zS zR bs ck.1 W w2)->bH aQ fn args W λe w2=>∃code,e=aM (aH aF code)/\Lv P (λw=>1000-Ai w rb) fU wr (a+1) vr code w2:=by
     intro ck fn args hon dn tC sY hda gQ;refine gQ.mono λe w2 hh=>⟨_,hh.1,lead ck (a+1) r vr w2 hon dn tC sY (dP.trans YH ZJ hh.2) λ_=>⟨?_,Nat.le_succ _,λ_=>by rw[hda];exact hdc ha⟩⟩
     obtain⟨_,_,_,_,Bg,_⟩:=hh.2;exact Bh.mv Md Bg
    rcases o9 with ⟨xI,nM⟩|⟨tC,jj,ee,hn,eQ,Q9,DT⟩|⟨TX,Ja⟩|⟨Gx,hinn⟩
    ·-- a number
     left
     refine⟨by rw[xI];rfl,?_⟩;rw[N.tY f' m1 k l depth a r c hc hs (.inl xI)] at jN;have e1:N.gC f' (N.dI m1) depth c=N.push (N.dI m1) c.n:=eJ xI;refine plain _ _ _ jN (N.oH _ _ _ _) (N.rO _ _ _ _) (N.sX _ _ _ _) (Ro hc (by omega)) ?_;rw[e1];exact zJ W rb zA zS zR bs _ c.n nM Md
    ·-- a word of one's own
     right;left
     refine⟨by rw[tC];rfl,?_⟩;rw[N.tY f' m1 k l depth a r c hc hs (.inr (.inl tC))] at jN;have e1:N.gC f' (N.dI m1) depth c=N.owns f' (N.dI m1) jj depth:=by
      have:c.n.toNat=jj:=by omega
      rw[<-this];exact(dL (by omega)).trans (eJ tC)
     refine plain _ _ _ jN (N.oH _ _ _ _) (N.rO _ _ _ _) (N.sX _ _ _ _) (Ro hc (by omega)) ?_;rw[e1,hn];exact fK W zA zS zR _ jj ee depth Md GT Q9 DT hd YK jl
    ·-- a word of the language
     right;right;left
     refine⟨by rw[TX];rfl,?_⟩;rw[N.tY f' m1 k l depth a r c hc hs (.inr (.inr TX))] at jN;refine plain _ _ _ jN (N.oH _ _ _ _) (N.rO _ _ _ _) (N.sX _ _ _ _) (Ro hc (by omega)) ?_;rw[<-Fc f' _ depth c TX];refine Oy W rb zA zS zR bs _ (depth:Int) _ c.name (by rw[xQ];exact Ja) Md ?_;intro W' pU jj M hM kA q9 ⟨ee,Q9,DT⟩;exact fK W' zA pU zR M jj ee depth hM (GT.fZ kA) Q9 DT hd (by rw[q9];exact YK) (by rw[q9];exact jl)
    ·-- a bold word
     rw[N.Wy f' m1 k l depth a r c hc hs Gx] at jN;have hck:(c.kind:Int)=4:=by rw[Gx];rfl
     have Wk:N.Bl l a c.name (N.goal l a c.name):=by
      have:=hfe.jump a c (by rw[Tn];exact hc) Gx;rwa[Tn] at this
     rcases WM hinn with hx|hx|⟨n1,n2,⟨n3,hx⟩|⟨n3,hx⟩⟩
     ·right;right;right;left
      refine⟨hck,hx,?_⟩;rw[hx,eJ (by rfl)] at jN;exact post _ _ jN ⟨zA,zS,zR,Md,YH,ZJ⟩
     ·right;right;right;right;left
      refine⟨hck,hx,?_⟩;have u5:N.dc l (a+1)=N.dc l a:=by
       have:=Xy hc Gx;rw[hx] at this;exact this.trans (Int.add_zero _)
      rw[hx,dL (by decide),eJ (by rfl)] at jN;exact plain _ _ _ jN (N.Gk _ _ _ _) (N.cK _ _ _ _) (N.UG _ _ _ _) u5 (fK W zA zS zR _ k e1 depth Md GT ZD hen1 hd YK jl)
     ·right;right;right;right;right;left
      refine⟨hck,n1,n2,n3,λW2 YE=>?_⟩;rw[dL (by rw[n1];exact Bool.false_ne_true),dL (by rw[n2];exact Bool.false_ne_true),FI,eJ n3] at jN;have GY:=Md.below YE;have qT:=Bh.below YE;have Nu:Mv (dV rb vA vS vR) w0 W2:=YH.trans (dG.refl _ _) (Mv.dS YE _);have jD:c.name=N.iR\/((c.name=N.eK\/c.name=N.wI\/c.name=N.fD)/\r≠[]):=by
       rcases hx with hx|hx
       ·exact .inl hx
       ·refine .inr ⟨hx,λh0=>?_⟩;have h1:1<=N.dc l a:=Wk.2 (by rcases hx with h|h|h <;> rw[h] <;> rfl);have:=hdc ha;rw[h0] at this;simp at this;omega
      have gQ:=J7 W2 rb zA zS zR bs (N.dI m1) gb cl l a c w0.heap.size vr r GY (hBW.below YE) hc jD qT (by omega) Nu.size;unfold mF at gQ;rw[Jv];refine gQ.mono λee w2 hh=>?_
      obtain⟨NK,h1,h2,h3⟩:=hh;have dn:N.mW (N.dI m1) ((N.rounds (N.dI m1) l a c.name r).1,(N.rounds (N.dI m1) l a c.name r).2.2.2):=N.fY (N.Js _ _ _ _ _);refine⟨_,_,NK,h1,lead ((N.rounds (N.dI m1) l a c.name r).1,(N.rounds (N.dI m1) l a c.name r).2.2.2) _ _ NK w2 jN dn (N.Kept.fZ (N.Bd _ _ _ _ _)) (N.zE.fZ (N.Bd _ _ _ _ _)) (vH.far Nu ZJ qT (bD _) h2) λh0=>?_⟩;have:=JI (N.dI m1) hc Gx hx Wk (hdc ha) h0;exact⟨h3 h0,this.2,λ_=>this.1⟩
     ·right;right;right;right;right;right
      refine⟨hck,n1,n2,n3,λW2 YE=>?_⟩;rw[dL (by rw[n1];exact Bool.false_ne_true),dL (by rw[n2];exact Bool.false_ne_true),FI,dL (by rw[n3];exact Bool.false_ne_true)] at jN;have GY:=Md.below YE;have qT:=Bh.below YE;have Nu:Mv (dV rb vA vS vR) w0 W2:=YH.trans (dG.refl _ _) (Mv.dS YE _);have gQ:=IK W2 rb zA zS zR bs (N.dI m1) gb cl l a c GY (hBW.below YE) hc hx;unfold kQ at gQ;rw[Jv];refine gQ.mono λee w2 hh=>?_
      have dn:N.mW (N.dI m1) ((N.ways (N.dI m1) l a c.name).1,(N.ways (N.dI m1) l a c.name).2.2):=N.fY (N.Rw _ _ _ _);refine⟨_,_,hh.1,lead ((N.ways (N.dI m1) l a c.name).1,(N.ways (N.dI m1) l a c.name).2.2) _ r vr w2 jN dn (N.Kept.fZ (N.Jg _ _ _ _)) (N.zE.fZ (N.Jg _ _ _ _)) (dP.trans Nu ZJ hh.2) λh0=>?_⟩;obtain⟨_,_,_,_,Bg,_⟩:=hh.2;exact⟨qT.mv GY Bg,Nat.le_succ _,λ_=>by rw[WA (N.dI m1) hc Gx hx Wk h0];exact hdc ha⟩
 ·rintro r w' ⟨code,rfl,h1,h2⟩;exact⟨by rw[h1],h2⟩
theorem PK (rb:Nat)(bs:List aG):∀F,Zq rb bs F:=λF=>by
 induction F using Nat.strongRecOn with
 |ind F ih=>exact LW rb bs F ih
theorem QV (rb:Nat)(bs:List aG)(f:Nat):FB rb bs f:=Pj (PK rb bs f)
theorem Gc (s:ByteArray)(k:Nat)(h:k<s.size):s.data.toList.take (k+1)=s.data.toList.take k++[s[k]]:=by
 rw[dF (by simpa using h)];rfl
theorem Ag {l:List UInt8}{p:UInt8->Bool}(h:(l.take k).all p=aV):l.all p=aV:=by
 rw[<-List.take_append_drop k l,List.all_append,h];rfl
theorem Ox (s d:ByteArray)(res:Option Int)(w:aY)(hs:0<s.size)(h45:s[0].toNat=45)(hd:s.extract 1 s.size=d)(hdz:s.size-1=d.size)(HR:Hid (res=if d.data.toList.length=0\/18<d.data.toList.length\/d.data.toList.all L.isDigit=aV then aC else aE (-(L.kS d.data.toList:Int)))):
 bH aQ 76 #[aI s] w λe w' =>e=aM (bC #[aH aF (res.getD 0),bB res.isSome])/\w' =w:=by
 have HS:=bE (Lib.size_eq d);by_cases h0:d.size=0
 ·have rN:=bE (show res=aC by rw[aN HR,eJ (.inl ((aN HS).symm.trans h0))]);go_enter func76,ntmps76;go_wp2;go_ret2;exact⟨tQ (by rw[aN rN];rfl) (by rw[aN rN];rfl),rfl⟩
 ·have Og:¬((d.size:Int)<1):=by omega
  by_cases ZE:18<d.size
  ·have rN:=bE (show res=aC by rw[aN HR,eJ (.inr (.inl (by rw[<-aN HS];exact ZE)))]);go_enter func76,ntmps76;go_wp2;go_ret2;exact⟨tQ (by rw[aN rN];rfl) (by rw[aN rN];rfl),rfl⟩
  ·have hle:d.size<=18:=by omega
   clear ZE;go_enter func76,ntmps76;go_wp2
   go_loop [5,6] (λn i=>∃k:Nat,k<=d.size/\i=aH aF k/\n=aH aF (L.kS (d.data.toList.take k))/\(d.data.toList.take k).all L.isDigit=aX) (λ_ i=>d.size-(intOf i).toNat)
   case atStart=>exact⟨0,bZ _,rfl,rfl,rfl⟩
   case round=>
    obtain⟨k,hk,rfl,rfl,kA⟩:=hrel;by_cases eQ:k<d.size
    ·have Et:=Gc d k eQ;have Jl:=L.tU _ kA;have TI:=L.Si (d.data.toList.take k).length (by rw[dH];omega);have hsm:(L.kS (d.data.toList.take k):Int)<=99999999999999999:=by omega
     have hc:d[k].toNat<256:=UInt8.toNat_lt d[k];have Jm:((d[k].toNat:Int)<48\/57<(d[k].toNat:Int))->res=aC:=λhx=>by
      rw[aN HR,eJ];refine .inr (.inr (Ag (k:=k+1) ?_));rw[Et,List.all_append,kA];have:L.isDigit d[k]=aV:=by
       unfold L.isDigit;rw[Bool.and_eq_false_iff,decide_eq_false_iff_not,decide_eq_false_iff_not];omega
      simp[this]
     have uS:(48<=(d[k].toNat:Int)/\(d[k].toNat:Int)<=57)->(L.kS (d.data.toList.take k):Int)*10+((d[k].toNat:Int)-48)=(L.kS (d.data.toList.take (k+1)):Int)/\(d.data.toList.take (k+1)).all L.isDigit=aX:=λhx=>by
      rw[Et,L.Do,List.all_append,kA];have:L.isDigit d[k]=aX:=by
       unfold L.isDigit;rw[Bool.and_eq_true,decide_eq_true_eq,decide_eq_true_eq];omega
      refine⟨by omega,by simp[this]⟩
     have Np:=bE Jm;have Cb:=bE uS;clear Jl TI kA Et Jm uS;go_wp2;all_goals first
      |(go_ret2;exact⟨tQ (by rw[aN Np (by omega)];rfl) (by rw[aN Np (by omega)];rfl),rfl⟩)
      |exact⟨⟨k+1,by omega,by go_num,by rw[(aN Cb (by omega)).1],(aN Cb (by omega)).2⟩,by simp[intOf];omega⟩
    ·have r4:d.data.toList.take k=d.data.toList:=eB (by rw[<-aN HS];omega);rw[r4] at kA;rw[r4];have Jl:=L.tU _ kA;have TI:=L.m8 d.data.toList.length (by rw[<-aN HS];omega);have hsm:(L.kS d.data.toList:Int)<=999999999999999999:=by omega
     have rN:=bE (show res=aE (-(L.kS d.data.toList:Int)) by
      rw[aN HR,dL];rintro(h|h|h)
      ·rw[<-aN HS] at h;exact h0 h
      ·rw[<-aN HS] at h;omega
      ·rw[kA] at h;cases h)
     clear Jl TI kA r4;go_wp2;go_ret2;exact⟨tQ (by rw[aN rN];rfl) (by rw[aN rN];rfl),rfl⟩
theorem Qj (d:ByteArray)(res:Option Int)(w:aY)(hs:0<d.size)(h45:((d[0].toNat:Int)==45)=aV)(HR:Hid (res=if d.data.toList.length=0\/18<d.data.toList.length\/d.data.toList.all L.isDigit=aV then aC else aE ((L.kS d.data.toList:Int)))):
 bH aQ 76 #[aI d] w λe w' =>e=aM (bC #[aH aF (res.getD 0),bB res.isSome])/\w' =w:=by
 have HS:=bE (Lib.size_eq d);by_cases h0:d.size=0
 ·have rN:=bE (show res=aC by rw[aN HR,eJ (.inl ((aN HS).symm.trans h0))]);go_enter func76,ntmps76;go_wp2;go_ret2;exact⟨tQ (by rw[aN rN];rfl) (by rw[aN rN];rfl),rfl⟩
 ·have Og:¬((d.size:Int)<1):=by omega
  by_cases ZE:18<d.size
  ·have rN:=bE (show res=aC by rw[aN HR,eJ (.inr (.inl (by rw[<-aN HS];exact ZE)))]);go_enter func76,ntmps76;go_wp2;go_ret2;exact⟨tQ (by rw[aN rN];rfl) (by rw[aN rN];rfl),rfl⟩
  ·have hle:d.size<=18:=by omega
   clear ZE;go_enter func76,ntmps76;go_wp2
   go_loop [5,6] (λn i=>∃k:Nat,k<=d.size/\i=aH aF k/\n=aH aF (L.kS (d.data.toList.take k))/\(d.data.toList.take k).all L.isDigit=aX) (λ_ i=>d.size-(intOf i).toNat)
   case atStart=>exact⟨0,bZ _,rfl,rfl,rfl⟩
   case round=>
    obtain⟨k,hk,rfl,rfl,kA⟩:=hrel;by_cases eQ:k<d.size
    ·have Et:=Gc d k eQ;have Jl:=L.tU _ kA;have TI:=L.Si (d.data.toList.take k).length (by rw[dH];omega);have hsm:(L.kS (d.data.toList.take k):Int)<=99999999999999999:=by omega
     have hc:d[k].toNat<256:=UInt8.toNat_lt d[k];have Jm:((d[k].toNat:Int)<48\/57<(d[k].toNat:Int))->res=aC:=λhx=>by
      rw[aN HR,eJ];refine .inr (.inr (Ag (k:=k+1) ?_));rw[Et,List.all_append,kA];have:L.isDigit d[k]=aV:=by
       unfold L.isDigit;rw[Bool.and_eq_false_iff,decide_eq_false_iff_not,decide_eq_false_iff_not];omega
      simp[this]
     have uS:(48<=(d[k].toNat:Int)/\(d[k].toNat:Int)<=57)->(L.kS (d.data.toList.take k):Int)*10+((d[k].toNat:Int)-48)=(L.kS (d.data.toList.take (k+1)):Int)/\(d.data.toList.take (k+1)).all L.isDigit=aX:=λhx=>by
      rw[Et,L.Do,List.all_append,kA];have:L.isDigit d[k]=aX:=by
       unfold L.isDigit;rw[Bool.and_eq_true,decide_eq_true_eq,decide_eq_true_eq];omega
      refine⟨by omega,by simp[this]⟩
     have Np:=bE Jm;have Cb:=bE uS;clear Jl TI kA Et Jm uS;go_wp2;all_goals first
      |(go_ret2;exact⟨tQ (by rw[aN Np (by omega)];rfl) (by rw[aN Np (by omega)];rfl),rfl⟩)
      |exact⟨⟨k+1,by omega,by go_num,by rw[(aN Cb (by omega)).1],(aN Cb (by omega)).2⟩,by simp[intOf];omega⟩
    ·have r4:d.data.toList.take k=d.data.toList:=eB (by rw[<-aN HS];omega);rw[r4] at kA;rw[r4];have Jl:=L.tU _ kA;have TI:=L.m8 d.data.toList.length (by rw[<-aN HS];omega);have hsm:(L.kS d.data.toList:Int)<=999999999999999999:=by omega
     have rN:=bE (show res=aE ((L.kS d.data.toList:Int)) by
      rw[aN HR,dL];rintro(h|h|h)
      ·rw[<-aN HS] at h;exact h0 h
      ·rw[<-aN HS] at h;omega
      ·rw[kA] at h;cases h)
     clear Jl TI kA r4;go_wp2;go_ret2;exact⟨tQ (by rw[aN rN];rfl) (by rw[aN rN];rfl),rfl⟩
theorem Pm (w:aY):
 bH aQ 76 #[aI ⟨#[]⟩] w λe w' =>e=aM (bC #[aH aF 0,bB aV])/\w' =w:=by
 go_enter func76,ntmps76;go_wp2;go_ret2;exact⟨rfl,rfl⟩
theorem Pk (s:ByteArray)(w:aY):
 bH aQ 76 #[aI s] w λe w' =>e=aM (bC #[aH aF ((L.number s.data.toList).getD 0),bB (L.number s.data.toList).isSome])/\w' =w:=by
 by_cases hs:0<s.size
 ·have hsz:=Lib.size_eq s;have an:s.data.toList=s[0]::s.data.toList.tail:=by
   cases hl:s.data.toList with
   |nil=>exact absurd (show s.size=0 by rw[hsz,hl];rfl) (by omega)
   |cons c t=>
    have:s[0]=c:=by
     have h1:s.data.toList[0]'(by rw[<-hsz];exact hs)=s[0]:=rfl;rw[<-h1];simp[hl]
    rw[this];rfl
  by_cases h45:s[0].toNat=45
  ·have hc:s[0]=45:=UInt8.toNat_inj.1 (by rw[h45];rfl);have hp:Lib.hasPrefix s.data.toList [45]=aX:=by rw[an,hc];rfl
   have ht:Lib.trimPrefix s.data.toList [45]=(s.extract 1 s.size).data.toList:=by
    unfold Lib.trimPrefix;rw[eJ hp];simp;exact(eB (by rw[List.length_tail,hsz];exact bD _)).symm
   refine Ox s (s.extract 1 s.size) (L.number s.data.toList) w hs h45 rfl (by simp) (bE ?_);unfold L.number;rw[ht,hp];rfl
  ·have hc:Lib.hasPrefix s.data.toList [45]=aV:=by
    rw[an];simp only[Lib.hasPrefix,List.isPrefixOf,Bool.and_true,beq_eq_false_iff_ne];intro e;rw[<-e] at h45;exact h45 rfl
   have ht:Lib.trimPrefix s.data.toList [45]=s.data.toList:=by
    unfold Lib.trimPrefix;rw[dL (by rw[hc];simp)]
   refine Qj s (L.number s.data.toList) w hs (by rw[beq_eq_false_iff_ne];omega) (bE ?_);unfold L.number;rw[ht,hc];rfl
 ·have hs0:s=⟨#[]⟩:=by
   apply ByteArray.ext;have hz:s.size=0:=by omega
   exact Array.eq_empty_of_size_eq_zero hz
  subst hs0;exact Pm w
section
attribute [local go_sem ↓] Go.wp_at_zero Go.wp_at_succ
theorem lZ (h1:bA w.heap.size w W)(h2:bA W.heap.size W w2):bA w.heap.size w w2:=h1.trans (h2.mono h1.size)
theorem II (s:N.eE):rC s=N.rC s:=by
 unfold rC N.rC;rw[show N.Wm=FK++EW from rfl,List.any_append]
def xZ (c:N.Cell):aG:=bM #[aH aF c.kind,aH aF c.n,aI ⟨c.name.toArray⟩]
def EZ:Option N.Cell->aG
 |some c=>xZ c
 |none=>bM #[aH aF 1,aH aF 0,aI ⟨#[]⟩]
theorem vN {s:N.eE}(h:N.fP m s=aE k):k<m.all.length/\∃e,m.all[k]?=aE e/\e.ended=aX:=by
 obtain⟨h1,e,h2,_,h3⟩:=mN m.all _ _ _ h;exact⟨h1,e,h2,jX h3⟩
theorem Ar (w:aY)(rb:Nat)(vA vS vR:aG)(bs:List aG)(m:N.cE)(s:N.eE)(h:cH w rb vA vS vR bs m):
 bH aQ 58 #[aK (aE ⟨rb,0,aC⟩),aI ⟨s.toArray⟩] w λe w' =>e=aM (bC #[EZ (N.iU m s),bB (N.iU m s).isSome])/\bA w.heap.size w w' :=by
 have hold:=h.qU;have fF:bA w.heap.size w (w.alloc (aU #[aH aF 0,aH aF 0,aI ⟨#[]⟩] 101)):=(bF _ _).alloc (bD _) _;have eY:=uK (w.alloc (aU #[aH aF 0,aH aF 0,aI ⟨#[]⟩] 101)) rb vA vS vR bs m ⟨s.toArray⟩ (h.below fF);have eY:bH aQ 49 #[aK (aE ⟨rb,0,aC⟩),aI ⟨s.toArray⟩] (w.alloc (aU #[aH aF 0,aH aF 0,aI ⟨#[]⟩] 101)) λe w' =>e=aM (nJ (N.fP m s))/\w' =(w.alloc (aU #[aH aF 0,aH aF 0,aI ⟨#[]⟩] 101)):=eY
 have hpr:=QX ⟨s.toArray⟩ (w.alloc (aU #[aH aF 0,aH aF 0,aI ⟨#[]⟩] 101));have hstl:(⟨s.toArray⟩:ByteArray).toList=s:=by rw[Go.ByteArray.toList_eq]
 rw[hstl,II] at hpr;have hnum:∀W:aY,bH aQ 76 #[aI ⟨s.toArray⟩] W λe w' =>e=aM (bC #[aH aF ((L.number s).getD 0),bB (L.number s).isSome])/\w' =W:=λW=>Pk ⟨s.toArray⟩ W
 have hN:N.iU m s=match N.fP m s with|some k=>aE ⟨2,k,[]⟩|none=>if N.rC s then aE ⟨3,0,s⟩ else(L.number s).map λn=>⟨1,n,[]⟩:=rfl
 have HB:=bE fF;have HP:=bE hpr;have HM:=bE hnum;clear hpr hnum fF hstl;cases hk:N.fP m s with
 |some k=>
  rw[hk] at hN eY;have Hd:=(vN hk).1;simp only at hN;rw[hN];have HN:=bE eY;have k0:(0:Int)<=(k:Int):=by omega
  clear eY hN hk h;unfold nJ at HN;go_enter func58,ntmps58;go_wp2_with fail
  refine(aN HN).mono ?_;rintro e iF ⟨rfl,mG⟩;subst iF;go_wp2;exact bodyPost_ret (v:=bC #[bM #[aH aF 2,aH aF k,aI ⟨#[]⟩],bB aX]) (by simp[results,results58,go_sem]) rfl ⟨rfl,(bF _ _).alloc (bD _) _⟩
 |none=>
  rw[hk] at hN eY;simp only at hN;have HN:=bE eY;clear eY hk h;unfold nJ at HN;cases hp:N.rC s with
  |true=>
   rw[hp,eJ rfl] at hN;rw[hN];rw[hp] at HP;clear hN hp;go_enter func58,ntmps58;go_wp2_with fail
   refine(aN HN).mono ?_;rintro e iF ⟨rfl,mG⟩;subst iF;go_wp2_with fail
   refine(aN HP).mono ?_;rintro e w2 ⟨rfl,eD⟩;have t8:bA w.heap.size w w2:=lZ (aN HB) eD;have eP:w2.heap[w.heap.size]?=aE (aU #[aH aF 0,aH aF 0,aI ⟨#[]⟩] 101):=(eD.block w.heap.size (by simp)).trans (heap_alloc_new w _);have b0:=cq 0 eP rfl;have b1:=cq 1 eP rfl;have b2:=cq 2 eP rfl;have f0:=bG 0 eP;have f1:=bG 1 eP;have f2:=bG 2 eP;have uG:=bE (bK t8 eP);clear eD eP t8;go_wp2;have eR:=bV (bV (bV (aN uG).2 0 (aH aF 3)) 1 (aH aF 0)) 2 (aI ⟨s.toArray⟩);have c0:=aZ (j:=0) eR rfl;have c1:=aZ (j:=1) eR rfl;have c2:=aZ (j:=2) eR rfl;exact bodyPost_ret (v:=bC #[bM #[aH aF 3,aH aF 0,aI ⟨s.toArray⟩],bB aX]) (by simp[results,results58,go_sem,c0,c1,c2]) rfl ⟨rfl,(((aN uG).1.setCell (bD _) _).setCell (bD _) _).setCell (bD _) _⟩
  |false=>
   rw[hp,dL Bool.false_ne_true] at hN;rw[hN];rw[hp] at HP;clear hN hp;have pL:EZ ((L.number s).map λn=>(⟨1,n,[]⟩:N.Cell))=bM #[aH aF 1,aH aF ((L.number s).getD 0),aI ⟨#[]⟩]:=by
    cases L.number s <;> rfl
   have hms:((L.number s).map λn=>(⟨1,n,[]⟩:N.Cell)).isSome=(L.number s).isSome:=by
    cases L.number s <;> rfl
   rw[pL,hms];clear pL hms;generalize(L.number s).getD 0=x at*;generalize(L.number s).isSome=ok at*;go_enter func58,ntmps58;go_wp2_with fail
   refine(aN HN).mono ?_;rintro e iF ⟨rfl,mG⟩;subst iF;go_wp2_with fail
   refine(aN HP).mono ?_;rintro e w2 ⟨rfl,eD⟩;have t8:bA w.heap.size w w2:=lZ (aN HB) eD;have eP:w2.heap[w.heap.size]?=aE (aU #[aH aF 0,aH aF 0,aI ⟨#[]⟩] 101):=(eD.block w.heap.size (by simp)).trans (heap_alloc_new w _);have b0:=cq 0 eP rfl;have b1:=cq 1 eP rfl;have b2:=cq 2 eP rfl;have f0:=bG 0 eP;have f1:=bG 1 eP;have f2:=bG 2 eP;have uG:=bE (bK t8 eP);clear eD eP t8;go_wp2_with fail
   refine(aN HM w2).mono ?_;rintro e iF ⟨rfl,mG⟩;subst iF;go_wp2;have eR:=bV (bV (bV (aN uG).2 0 (aH aF 1)) 1 (aH aF x)) 2 (aI ⟨#[]⟩);have c0:=aZ (j:=0) eR rfl;have c1:=aZ (j:=1) eR rfl;have c2:=aZ (j:=2) eR rfl;exact bodyPost_ret (v:=bC #[bM #[aH aF 1,aH aF x,aI ⟨#[]⟩],bB ok]) (by simp[results,results58,go_sem,c0,c1,c2]) rfl ⟨rfl,(((aN uG).1.setCell (bD _) _).setCell (bD _) _).setCell (bD _) _⟩
end
def oW (c:UInt8):Bool:=decide (33<=c.toNat)&&decide (c.toNat<=126)
def mI (l:List UInt8):Bool:=l.all oW&&(decide (l.length<=12)&&(!(L.number l).isSome&&!L.fJ l))
theorem Yb (s:ByteArray)(w:aY)(hs:s.size<=4294967296):
 bH aQ 95 #[aI s] w λe w' =>e=aM (bB (mI s.data.toList))/\bA w.heap.size w w' :=by
 have HS:=bE (Lib.size_eq s);have HL:=bE (Go.ByteArray.toList_eq s);go_enter func95,ntmps95;go_wp2
 go_loop [3] (λi=>∃k:Nat,k<=s.size/\i=aH aF k/\(s.data.toList.take k).all oW=aX) (λi=>s.size-(intOf i).toNat)
 case atStart=>exact⟨0,bZ _,rfl,rfl⟩
 case round=>
  obtain⟨k,hk,rfl,kA⟩:=hrel;by_cases eQ:k<s.size
  ·have Et:=Gc s k eQ;have Jm:((s[k].toNat:Int)<33\/126<(s[k].toNat:Int))->mI s.data.toList=aV:=λhx=>by
    have h1:s.data.toList.all oW=aV:=by
     refine Ag (k:=k+1) ?_;rw[Et,List.all_append,kA];have:oW s[k]=aV:=by
      unfold oW;rw[Bool.and_eq_false_iff,decide_eq_false_iff_not,decide_eq_false_iff_not];omega
     simp[this]
    unfold mI;rw[h1];rfl
   have uS:(33<=(s[k].toNat:Int)/\(s[k].toNat:Int)<=126)->(s.data.toList.take (k+1)).all oW=aX:=λhx=>by
    rw[Et,List.all_append,kA];have:oW s[k]=aX:=by
     unfold oW;rw[Bool.and_eq_true,decide_eq_true_eq,decide_eq_true_eq];omega
    simp[this]
   have Np:=bE Jm;have Cb:=bE uS;clear kA Et Jm uS;go_wp2;all_goals first
    |(go_ret;exact⟨mD (aN Np (by omega)).symm,bF _ _⟩)
    |exact⟨⟨k+1,by omega,by go_num,aN Cb (by omega)⟩,by simp[intOf];omega⟩
  ·have r4:s.data.toList.take k=s.data.toList:=eB (by rw[<-aN HS];omega);rw[r4] at kA;have Hall:=bE kA;clear kA r4;go_wp2_with fail
   refine(Pk s _).mono ?_;rintro e w1 ⟨rfl,rfl⟩;go_wp2_with fail
   refine(rI s _).mono ?_;rintro e w2 ⟨rfl,hb⟩;rw[aN HL];have hn:mI s.data.toList=(decide (s.size<=12)&&(!(L.number s.data.toList).isSome&&!L.fJ s.data.toList)):=by
    unfold mI;rw[aN Hall,Bool.true_and,aN HS]
   have HN:=bE hn;clear hn;generalize(L.number s.data.toList).isSome=x1 at*;generalize L.fJ s.data.toList=x2 at*;by_cases NH:s.size<=12
   ·have DK:=bE (show mI s.data.toList=(!x1&&!x2) by rw[aN HN];simp[NH]);cases x1 <;> cases x2;all_goals
     go_wp2;go_ret;exact⟨mD (aN DK).symm,hb⟩
   ·have DK:=bE (show mI s.data.toList=aV by rw[aN HN];simp[NH]);go_wp2;go_ret;exact⟨mD (aN DK).symm,hb⟩
section
attribute [local go_sem ↓] Go.wp_at_zero Go.wp_at_succ
structure eH (w:aY) (xb rb:Nat) (vW:aG) (ws:List N.eE) (p:Nat):Prop where
 c:w.heap[xb]?=aE (aU #[aK (aE ⟨rb,0,aC⟩),vW,aH aF p] 92)
 l:w.ownsRow 0 9 1 vW ws.length (ws.map λl=>aI ⟨l.toArray⟩)
 len:ws.length<=500
 small:∀s∈ws,s.length<=500
variable {w' :aY}{xb p:Nat}{vW:aG}{ws:List N.eE}
theorem eH.kept (h:eH w xb rb vW ws p)(h1:w'.heap[xb]?=w.heap[xb]?)(h2:∀k,vW.ownBlock=aE k->w'.heap[k]?=w.heap[k]?):eH w' xb rb vW ws p:=⟨h1.trans h.c,cK h.l h2,h.len,h.small⟩
theorem eH.below (h:eH w xb rb vW ws p)(hb:bA w.heap.size w w'):eH w' xb rb vW ws p:=h.kept (hb.block xb (cC h.c)) λk e=>hb.block k (h.l.lt k e).2
variable {cs:Array aG}{t:TypeId}{fr:Nat×Nat}
theorem cH.lK (h:cH w rb vA vS vR bs m)(hk:w.heap[k]?=aE (aU cs t fr))(h1:t≠77)(h2:t≠98)(h3:t≠3):¬dV rb vA vS vR k:=by
 rintro(rfl|e|e|e)
 ·exact h1 (cM hk h.mc)
 ·obtain⟨_,h'⟩:=cJ h.row e;exact h2 (cM hk h')
 ·obtain⟨_,h'⟩:=cZ h.st e;exact h3 (cM hk h')
 ·obtain⟨_,h'⟩:=cZ h.rt e;exact h3 (cM hk h')
theorem eH.mv (h:eH w xb rb vW ws p)(hr:cH w rb vA vS vR bs m)(hm:Mv (dV rb vA vS vR) w w'):eH w' xb rb vW ws p:=by
 refine h.kept (hm.block xb (cC h.c) (hr.lK h.c (by decide) (by decide) (by decide))) λk e=>?_
 obtain⟨_,h'⟩:=cZ h.l e;exact hm.block k (cC h') (hr.lK h' (by decide) (by decide) (by decide))
theorem eH.at (h:eH w xb rb vW ws p)(q:Nat)(u:aG)(hu:u=aH aF q):eH (w.setCell ⟨xb,2,aC⟩ u) xb rb vW ws q:=by
 subst hu;refine⟨bV h.c 2 _,cK h.l λk e=>dA λx=>?_,h.len,h.small⟩;obtain⟨_,h'⟩:=cZ h.l e;rw[x] at h';exact absurd (cM h.c h') (by decide)
variable {i:Nat}{u:aG}
theorem cH.q7 (h:cH w rb vA vS vR bs m)(hl:eH w xb rb vW ws p):cH (w.setCell ⟨xb,i,aC⟩ u) rb vA vS vR bs m:=
 h.kept (λk hk=>dA λe=>h.lK hl.c (by decide) (by decide) (by decide) (e▸hk)) λk hk=>dA λe=>by
  obtain⟨_,_,hc⟩:=hk;rw[e] at hc;exact absurd (cM hl.c hc) (by decide)
theorem eH.word {q:Nat}{s:N.eE}(h:eH w xb rb vW ws p)(hq:ws[q]?=aE s):∃g cap,vW=aJ (aE ⟨g,0,aC⟩) ws.length cap/\w.cell? ⟨g,q,aC⟩=aE (aI ⟨s.toArray⟩)/\g≠xb:=by
 have eQ:=(bI.1 hq).1;rcases jB h.l with ⟨_,h2,_⟩|⟨g,cap,h1,_⟩
 ·omega
 ·subst h1;refine⟨g,cap,rfl,?_,?_⟩
  ·have:=h.l.cells (g:=g) rfl q (aI ⟨s.toArray⟩) (by rw[cI,hq];rfl);rwa[fE,dC] at this
  ·intro e;obtain⟨_,h'⟩:=cZ h.l (k:=g) rfl;rw[e] at h';exact absurd (cM h.c h') (by decide)
def mK (m:N.cE) (s:Option N.eE) (fits:Bool):N.eE:=if N.dB m s fits=0 then s.getD [] else[]
def oQ (p:Nat):Option N.eE->Nat
 |none=>p
 |some _=>p+1
theorem Z3 (w:aY)(rb xb p:Nat)(vW:aG)(ws:List N.eE)(fits:Bool)(hl:eH w xb rb vW ws p)(hp:ws[p]?=aC):
 bH aQ 71 #[aK (aE ⟨xb,0,aC⟩),bB fits] w λe w' =>e=aM (bC #[aI ⟨#[]⟩,aH aF 4])/\bA w.heap.size w w' :=by
 obtain⟨aW,cW,rfl,_,_⟩:=cU hl.l;have c1:=cq 1 hl.c rfl;have c2:=cq 2 hl.c rfl;have Og:ws.length<=p:=by
  rcases Nat.lt_or_ge p ws.length with h' |h'
  ·rw[bL h'] at hp;cases hp
  ·exact h'
 have k1:(ws.length:Int)<=(p:Int):=by omega
 clear hp Og hl;generalize ws.length=n at*;go_enter func71,ntmps71;go_wp2;go_region_held3 (λw' =>w'.cell? ⟨xb,1,aC⟩=aE (aJ aW n cW)/\w'.cell? ⟨xb,2,aC⟩=aE (aH aF p)) (first|exact⟨c1,c2⟩|go_keep) (fail)
 go_wp2;go_ret2;exact⟨rfl,(bF _ _).drew⟩
theorem BM (w:aY)(rb xb p:Nat)(vA vS vR:aG)(bs:List aG)(m:N.cE)(vW:aG)(ws:List N.eE)(s:N.eE)(fits:Bool)(h:cH w rb vA vS vR bs m)(hl:eH w xb rb vW ws p)(hp:ws[p]?=aE s):
 bH aQ 71 #[aK (aE ⟨xb,0,aC⟩),bB fits] w λe w' =>e=aM (bC #[aI ⟨(mK m (aE s) fits).toArray⟩,aH aF (N.dB m (aE s) fits)])/\cH w' rb vA vS vR bs m/\eH w' xb rb vW ws (p+1)/\Mv (λk=>k=xb) w w' :=by
 obtain⟨g,cap,rfl,cs,hgx⟩:=hl.word hp;have eQ:=(bI.1 hp).1;have hlen:=hl.len;have hss:=hl.small s (cG hp);have c0:=cq 0 hl.c rfl;have c1:=cq 1 hl.c rfl;have c2:=cq 2 hl.c rfl;have f2:=bG 2 hl.c;have jT:(⟨s.toArray⟩:ByteArray).toList=s:=by rw[Go.ByteArray.toList_eq]
 -- the world behind 'at++'
 have NM:bA (w.setCell ⟨xb,2,aC⟩ (aH aF ((p:Int)+1))).heap.size (w.setCell ⟨xb,2,aC⟩ (aH aF ((p:Int)+1))) (w.setCell ⟨xb,2,aC⟩ (aH aF ((p:Int)+1))).drew.drew:=(bF _ _).drew.drew;have Tn:=(hl.at (p+1) (aH aF ((p:Int)+1)) (by simp)).below NM;have vG:=(h.q7 (i:=2) (u:=aH aF ((p:Int)+1)) hl).below NM;have qV:Mv (λk=>k=xb) w (w.setCell ⟨xb,2,aC⟩ (aH aF ((p:Int)+1))).drew.drew:=(Mv.setCell (T:=λk=>k=xb) (p:=⟨xb,2,aC⟩) (Mv.refl _ _) (.inl rfl) _).drew.drew;generalize hW1:(w.setCell ⟨xb,2,aC⟩ (aH aF ((p:Int)+1))).drew.drew=W1 at Tn vG qV;have hfi:∀W:aY,bH aQ 95 #[aI ⟨s.toArray⟩] W λe w' =>e=aM (bB (mI s))/\bA W.heap.size W w' :=λW=>Yb ⟨s.toArray⟩ W (by show s.toArray.size<=_;simp;omega)
 have vK:∀W:aY,bH aQ 54 #[aI ⟨s.toArray⟩] W λe w' =>e=aM (bB (L.fJ s))/\bA W.heap.size W w' :=λW=>by
  have:=rI ⟨s.toArray⟩ W;rwa[jT] at this
 have Ss:∀W:aY,bA W1.heap.size W1 W->bH aQ 96 #[aK (aE ⟨rb,0,aC⟩)] W λe w' =>e=aM (aH aF (N.count m))/\w' =W:=λW hW=>W6 W rb vA vS vR bs m (vG.below hW)
 have zF:mI s=N.mI s:=rfl;rw[zF] at hfi;have dJ:N.dB m (aE s) fits=if L.fJ s||(fits&&!N.mI s) then 4 else if fits/\40<=N.count m then 5 else 0:=rfl
 have fin:∀W:aY,bA W1.heap.size W1 W->cH W rb vA vS vR bs m/\eH W xb rb (aJ (aE ⟨g,0,aC⟩) ws.length cap) ws (p+1)/\Mv (λk=>k=xb) w W:=λW hW=>⟨vG.below hW,Tn.below hW,qV.trans (dG.refl _ _) (Mv.dS hW _)⟩
 have d0:∀W:aY,bA W1.heap.size W1 W->W.cell? ⟨xb,0,aC⟩=aE (aK (aE ⟨rb,0,aC⟩)):=λW hW=>aZ (Tn.below hW).c rfl
 unfold mK;rw[dJ];have Hfi:=bE hfi;have Hbo:=bE vK;have Hth:=bE Ss;have Fin:=bE fin;have Hd0:=bE d0;have HW1:=bE hW1;have k1:(p:Int)<(ws.length:Int):=by omega
 have k0:(0:Int)<=(p:Int):=by omega
 have k2:=wi ((p:Int)+1);clear hfi vK Ss fin d0 Tn vG qV dJ zF jT h hl hp eQ hlen hss NM hW1;generalize ws.length=n at*;generalize N.count m=C at*;generalize N.mI s=nf at*;generalize L.fJ s=bo at*;go_enter func71,ntmps71;go_wp2;go_region_held3 (λw' =>w'.cell? ⟨xb,1,aC⟩=aE (aJ (aE ⟨g,0,aC⟩) n cap)/\w'.cell? ⟨xb,2,aC⟩=aE (aH aF p)) (first|exact⟨c1,c2⟩|go_keep) (fail)
 go_wp2;go_region_held3 (λw' =>w'.cell? ⟨xb,1,aC⟩=aE (aJ (aE ⟨g,0,aC⟩) n cap)/\w'.cell? ⟨xb,2,aC⟩=aE (aH aF p)/\w'.cell? ⟨g,p,aC⟩=aE (aI ⟨s.toArray⟩)) (first|exact⟨c1,c2,cs⟩|go_keep) (fail)
 go_wp2_with fail
 rw[aN HW1];refine(aN Hfi W1).mono ?_;rintro e w2 ⟨rfl,eD⟩;have uG:=bE eD;clear eD;go_wp2_with fail
 refine(aN Hbo w2).mono ?_;rintro e w3 ⟨rfl,eW⟩;have Bv:=bE (lZ (aN uG) eW);have d3:=aN Hd0 w3 (aN Bv);clear eW;go_wp2_with fail
 refine(aN Hth w3 (aN Bv)).mono ?_;rintro e o8 ⟨rfl,mG⟩;subst o8;cases bo with
 |true=>
  go_wp2;all_goals
   go_ret2;exact⟨by simp,aN Fin w3 (aN Bv)⟩
 |false=>
  cases fits with
  |false=>
   go_wp2;go_ret2;exact⟨by simp,aN Fin w3 (aN Bv)⟩
  |true=>
   cases nf with
   |false=>
    go_wp2;go_ret2;exact⟨by simp,aN Fin w3 (aN Bv)⟩
   |true=>
    by_cases hC:40<=C
    ·have hC' :(40:Int)<=(C:Int):=by omega
     go_wp2;go_ret2;exact⟨by simp,aN Fin w3 (aN Bv)⟩
    ·have hC' :¬(C:Int)≥40:=by omega
     go_wp2;go_ret2;exact⟨by simp,aN Fin w3 (aN Bv)⟩
variable {w1:aY}{v' v:aG}
theorem cH.FX {e:N.iM}(h:cH w rb vA vS vR bs m)(hb:bA w.heap.size w w1)(hg:w1.grownBy w2 vA.ownBlock)(ho:w2.ownsRow 0 98 6 v' (m.all.length+1) (jA m.all bs++jR e v))(kD:v'.ownBlock=vA.ownBlock\/v'.ownBlock=aE w1.heap.size)(hold:m.all.length+1<=1000000000000)(hn:dQ e.n)(Vi:e.ended=aX->(w2.setCell ⟨rb,0,aC⟩ v').ownsRow 0 101 3 v e.body.length (kJ e.body)/\e.body.length<=60):
 cH (w2.setCell ⟨rb,0,aC⟩ v') rb v' vS vR (bs++[v]) {m with all:=m.all++[e]}/\Mv (dV rb vA vS vR) w (w2.setCell ⟨rb,0,aC⟩ v')/\dG w (dV rb vA vS vR) (dV rb v' vS vR):=by
 obtain⟨n1,n2,n3⟩:=h.pR;have NP:=hb.size;have xN:∀k,k<w.heap.size->vA.ownBlock≠aE k->w2.heap[k]?=w.heap[k]?:=λk hk hn=>(hg.block k (by omega) (λe=>hn e.symm)).trans (hb.block k hk)
 have pQ:∀k,k<w.heap.size->vA.ownBlock≠aE k->k≠rb->(w2.setCell ⟨rb,0,aC⟩ v').heap[k]?=w.heap[k]?:=λk hk hn hr=>(dA hr).trans (xN k hk hn)
 have N7:=(xN rb (cC h.mc) n1).trans h.mc;have O8:v'.ownBlock≠aE rb:=λe=>by
  obtain⟨_,h'⟩:=cJ ho e;exact absurd (cM N7 h') (by decide)
 have nA:∀{k:Nat} {u:aG} {n:Nat} {xs:List aG},w.ownsRow 0 3 1 u n xs->u.ownBlock=aE k->vA.ownBlock≠aE k:=λhu hk x=>by
  obtain⟨_,h'⟩:=cJ h.row x;obtain⟨_,TF⟩:=cZ hu hk;exact absurd (cM h' TF) (by decide)
 refine⟨⟨bV N7 0 v',?_,by simp[h.len],λj e2 v2 h1 h2 h3=>?_,cK h.st λk e=>pQ k (h.st.lt k e).2 (nA h.st e) (λx=>n2 (x▸e)),cK h.rt λk e=>pQ k (h.rt.lt k e).2 (nA h.rt e) (λx=>n3 (x▸e)),h.ap,h.sl,h.rl,h.ol,h.sp,by simpa using hold,h.si,h.ri,λx hx=>?_⟩,?_,?_⟩
 ·show aY.ownsRow _ _ _ _ _ (m.all++[e]).length (jA (m.all++[e]) (bs++[v]));rw[bN,uE _ _ _ _ h.len];exact cV ho λk e=>dA λx=>O8 (x▸e)
 ·have h1:(m.all++[e])[j]?=aE e2:=h1;rcases N.hU h1 with hj|⟨hj,hx⟩
  ·have Q8:=(bI.1 hj).1;rw[bT (by rw[h.len];exact Q8)] at h2;obtain⟨h4,h5⟩:=h.Xa j e2 v2 hj h2 h3;refine⟨cV h4 λk e=>?_,h5⟩;obtain⟨cur,hc⟩:=cJ h4 e;have ED:tN w k:=⟨cur,_,hc⟩
   exact pQ k (cC hc) (λx=>h.sT ED (.inr (.inl x))) (h.Ku ED)
  ·subst hx;rw[hj,<-h.len,bP (bD _),Nat.sub_self] at h2;have:v=v2:=by simpa using h2
   subst this;exact Vi h3
 ·rcases List.mem_append.1 hx with hx|hx
  ·exact h.ni x hx
  ·rw[dE] at hx;rw[hx];exact hn
 ·refine⟨?_,?_,?_,?_,λk hk hn=>pQ k hk (λx=>hn (.inr (.inl x))) (λx=>hn (.inl x))⟩
  ·exact hg.os.trans hb.os
  ·exact hg.tape.trans hb.tape
  ·exact hg.output.trans hb.output
  ·show w.heap.size<=(w2.setCell _ _).heap.size;have:=hg.size;simp[aY.setCell];omega
 ·rintro k (e|e|e|e)
  ·exact .inl (.inl e)
  ·rcases kD with x|x
   ·exact .inl (.inr (.inl (x▸e)))
   ·rw[x] at e;injection e with e;exact .inr (by omega)
  ·exact .inl (.inr (.inr (.inl e)))
  ·exact .inl (.inr (.inr (.inr e)))
def mZ (rb xb:Nat) (vA vS vR vW:aG) (bs:List aG) (m:N.cE) (ws:List N.eE) (p:Nat) (w w' :aY):Prop:=
 ∃pI pU xM,cH w' rb pI pU xM bs m/\eH w' xb rb vW ws p/\Mv (λk=>dV rb vA vS vR k\/k=xb) w w' /\dG w (dV rb vA vS vR) (dV rb pI pU xM)
theorem mZ.then (h:mZ rb xb vA vS vR vW bs m ws p w w1)(hb:bA w1.heap.size w1 w2):mZ rb xb vA vS vR vW bs m ws p w w2:=by
 obtain⟨a,b,c,h1,h2,h3,h4⟩:=h;exact⟨a,b,c,h1.below hb,h2.below hb,h3.trans (dG.refl _ _) (Mv.dS hb _),h4⟩
theorem mZ.after {ML VF VL:aG}(hm:Mv (λk=>dV rb vA vS vR k\/k=xb) w w1)(hf:dG w (dV rb vA vS vR) (dV rb ML VF VL))(h:mZ rb xb ML VF VL vW bs m ws p w1 w2):mZ rb xb vA vS vR vW bs m ws p w w2:=by
 obtain⟨a,b,c,h1,h2,h3,h4⟩:=h;refine⟨a,b,c,h1,h2,hm.trans (T' :=λk=>dV rb ML VF VL k\/k=xb) (λk hk=>?_) h3,hf.trans hm.size h4⟩;rcases hk with hk|hk
 ·rcases hf k hk with x|x
  ·exact .inl (.inl x)
  ·exact .inr x
 ·exact .inl (.inr hk)
variable {m0:N.cE}
theorem dP.line (h:dP rb vA vS vR bs m w w')(hr:cH w rb vA vS vR bs m0)(hl:eH w xb rb vW ws p):mZ rb xb vA vS vR vW bs m ws p w w' :=by
 obtain⟨a,b,c,h1,h2,h3⟩:=h;exact⟨a,b,c,h1,hl.mv hr h2,h2.weaken λk hk=>.inl hk,h3⟩
theorem pH (w:aY)(rb xb p:Nat)(vA vS vR:aG)(bs:List aG)(m:N.cE)(vW:aG)(ws:List N.eE)(fits:Bool)(h:cH w rb vA vS vR bs m)(hl:eH w xb rb vW ws p):
 bH aQ 71 #[aK (aE ⟨xb,0,aC⟩),bB fits] w λe w' =>e=aM (bC #[aI ⟨(mK m ws[p]? fits).toArray⟩,aH aF (N.dB m ws[p]? fits)])/\cH w' rb vA vS vR bs m/\eH w' xb rb vW ws (oQ p ws[p]?)/\Mv (λk=>k=xb) w w' :=by
 cases hp:ws[p]? with
 |none=>exact(Z3 w rb xb p vW ws fits hl hp).mono λe w' hh=>⟨hh.1,h.below hh.2,hl.below hh.2,Mv.dS hh.2 _⟩
 |some s=>exact BM w rb xb p vA vS vR bs m vW ws s fits h hl hp
def oZ (m:N.cE) (nx:Option N.eE) (tok:Bool):N.cE×Int:=
 if N.dB m nx aV≠0 then(m,N.dB m nx aV) else
 match N.fP m (nx.getD []) with
 |none=>(m,2)
 |some k=>if tok then N.push m (1000+k) else(N.kF m k,0)
theorem Z5 (w:aY)(rb xb p:Nat)(vA vS vR:aG)(bs:List aG)(m:N.cE)(vW:aG)(ws:List N.eE)(tok:Bool)(s:List UInt8)(hs:(s==[39])=tok)(h:cH w rb vA vS vR bs m)(hl:eH w xb rb vW ws p):
 bH aQ 57 #[aK (aE ⟨xb,0,aC⟩),aI ⟨s.toArray⟩] w λe w' =>e=aM (aH aF (oZ m ws[p]? tok).2)/\mZ rb xb vA vS vR vW bs (oZ m ws[p]? tok).1 ws (oQ p ws[p]?) w w' :=by
 have eO:=pH w rb xb p vA vS vR bs m vW ws aV h hl;have hold:=h.qU;generalize ws[p]?=nx at*;generalize hpa:oQ p nx=pa at*;clear hpa;have mL:∀w1,cH w1 rb vA vS vR bs m->eH w1 xb rb vW ws pa->Mv (λk=>k=xb) w w1->∀M w2,dP rb vA vS vR bs M w1 w2->mZ rb xb vA vS vR vW bs M ws pa w w2:=λw1 h1 h2 h3 M w2 h4=>mZ.after (h3.weaken λk hk=>.inr hk) (dG.refl _ _) (h4.line h1 h2)
 have HN:=bE eO;have HP:=bE mL;clear eO mL h hl;unfold oZ;by_cases he:N.dB m nx aV≠0
 ·rw[eJ he];have hz:(N.dB m nx aV==0)=aV:=by rw[beq_eq_false_iff_ne];exact he
  clear he;generalize N.dB m nx aV=er at*;generalize mK m nx aV=tx at*;go_enter func57,ntmps57;go_wp2_with fail
  refine(aN HN).mono ?_;rintro e w1 ⟨rfl,h1,h2,h3⟩;have HG:=bE (aN HP w1 h1 h2 h3 m w1 (dP.stay h1 (bF _ _)));clear h1 h2 h3;go_wp2;go_ret;exact⟨rfl,aN HG⟩
 ·rw[dL he];have YS:N.dB m nx aV=0:=by simpa using he
  have Tj:mK m nx aV=nx.getD []:=eJ YS;rw[YS,Tj] at HN;clear he YS Tj;generalize nx.getD []=nm at*;have eY:∀w1,cH w1 rb vA vS vR bs m->bH aQ 49 #[aK (aE ⟨rb,0,aC⟩),aI ⟨nm.toArray⟩] w1 λe w' =>e=aM (nJ (N.fP m nm))/\w' =w1:=λw1 h1=>uK w1 rb vA vS vR bs m ⟨nm.toArray⟩ h1
  cases hk:N.fP m nm with
  |none=>
   rw[hk] at eY;have HE:=bE eY;unfold nJ at HE;clear eY hk;go_enter func57,ntmps57;go_wp2_with fail
   refine(aN HN).mono ?_;rintro e w1 ⟨rfl,h1,h2,h3⟩;have HG:=bE (aN HP w1 h1 h2 h3 m w1 (dP.stay h1 (bF _ _)));have d0:=cq 0 h2.c rfl;have jx:=bE h1;clear h1 h2 h3;go_wp2_with fail
   refine(aN HE w1 (aN jx)).mono ?_;rintro e iF ⟨rfl,mG⟩;subst iF;go_wp2;go_ret;exact⟨rfl,aN HG⟩
  |some k=>
   rw[hk] at eY;have HE:=bE eY;unfold nJ at HE;have Hd:=(vN hk).1;have k0:¬(k:Int)<0:=by omega
   have k2:=wi (1000+(k:Int));have nM:dQ (1000+(k:Int)):=⟨by omega,by omega⟩
   cases tok with
   |true=>
    have HU:=bE (λ(w1:aY) (h1:cH w1 rb vA vS vR bs m)=>zJ w1 rb vA vS vR bs m (1000+(k:Int)) nM h1);clear eY hk Hd hold nM;show bH _ _ _ _ λe w' =>e=aM (aH aF (N.push m (1000+(k:Int))).2)/\mZ rb xb vA vS vR vW bs (N.push m (1000+(k:Int))).1 ws pa w w'
    generalize N.push m (1000+(k:Int))=pm at*;go_enter func57,ntmps57;go_wp2_with fail
    refine(aN HN).mono ?_;rintro e w1 ⟨rfl,h1,h2,h3⟩;have HG:=bE (aN HP w1 h1 h2 h3);have d0:=cq 0 h2.c rfl;have jx:=bE h1;clear h1 h2 h3;go_wp2_with fail
    refine(aN HE w1 (aN jx)).mono ?_;rintro e iF ⟨rfl,mG⟩;subst iF;go_wp2_with fail
    refine(aN HU w1 (aN jx)).mono ?_;rintro e w2 ⟨rfl,hg⟩;have HG2:=bE (aN HG _ _ hg);clear hg;go_wp2;go_ret;exact⟨rfl,aN HG2⟩
   |false=>
    have HU:=bE (λ(w1:aY) (h1:cH w1 rb vA vS vR bs m)=>Ik w1 rb vA vS vR bs m k (cN Hd) h1);clear eY hk Hd hold nM;show bH _ _ _ _ λe w' =>e=aM (aH aF 0)/\mZ rb xb vA vS vR vW bs (N.kF m k) ws pa w w'
    generalize N.kF m k=pm at*;go_enter func57,ntmps57;go_wp2_with fail
    refine(aN HN).mono ?_;rintro e w1 ⟨rfl,h1,h2,h3⟩;have HG:=bE (aN HP w1 h1 h2 h3);have d0:=cq 0 h2.c rfl;have jx:=bE h1;clear h1 h2 h3;go_wp2_with fail
    refine(aN HE w1 (aN jx)).mono ?_;rintro e iF ⟨rfl,mG⟩;subst iF;go_wp2_with fail
    refine(aN HU w1 (aN jx)).mono ?_;rintro e w2 ⟨rfl,hg⟩;have HG2:=bE (aN HG _ _ hg);clear hg;go_wp2;go_ret;exact⟨rfl,aN HG2⟩
end
end Go.Proofs.YtgnlokmeohffaaaGreatDoor
