/- Parts of the proof: see the last text. -/
import Derived.Lib.ItoaNum
import Derived.WalkKit
import Derived.Deep.AppendLies
import Derived.Below
import Derived.Lib.AppendStr
import Derived.Test.YtgnlokmeohffaaaGreatDoorProg
import Derived.WalkSpells
import Derived.WalkLawsBesides
import Derived.Deep.QuietTactic
import Derived.Deep.RegionHeld3
import Derived.Deep.DrawnRows
import Derived.Deep.RegionLaw
import Derived.BigQuiet
import Derived.Lib.Strings
import Derived.Test.YtgnlokmeohffaaaGreatDoorShelf
import Derived.Lib.AppendIntMem
import Derived.Lib.FieldsP
import Derived.Lib.TrimUEq
namespace Go.Proofs.YtgnlokmeohffaaaGreatDoor
set_option maxRecDepth 100000
set_option maxHeartbeats 1600000
open Option renaming none → aC, some → aE
open Go renaming IntKind.i64 → aF, Value → aG, Value.int → aH, Value.string → aI, Value.slice → aJ, Value.pointer → aK, Ending.returned → aM, Obj.cells → aU, World → aY, Value.tuple → bC, Value.bool → bB, Calls → bH, Value.agg → bM, World.grownBy_alloc → bU
open Go.Proofs.Tryz renaming prog → aQ
open Bool renaming false → aV, true → aX
open Go.RowKit renaming Below → bA, Below.refl → bF
open Nat renaming le_refl → bD, zero_le → bZ, le_trans → cF, le_of_lt → cN, zero_add → dC, lt_of_lt_of_le → eC
open And renaming intro → bK
open List renaming getElem?_eq_getElem → bL, length_append → bN, mem_of_getElem? → cG, getElem?_map → cI, length_cons → cX, length_map → dO, length_take → dH, not_mem_nil → dR, length_eq_zero_iff → dU
open Tryz
open Go.RowKit
theorem bE {p:Prop}(h:p):Hid p:=h
theorem Oc {k:IntKind}{a b:Int}(h:a=b):aM (aH k a)=aM (aH k b):=by rw[h]
theorem XH {a b:ByteArray}(h:a=b):aM (aI a)=aM (aI b):=by rw[h]
theorem mD {a b:Bool}(h:a=b):aM (bB a)=aM (bB b):=by rw[h]
theorem tQ {k:IntKind}{a a' :Int}{b b' :Bool}(h:a=a')(h2:b=b'):aM (bC #[aH k a,bB b])=aM (bC #[aH k a',bB b']):=by rw[h,h2]
theorem aN {p:Prop}(h:Hid p):p:=h
variable {α:Type}
theorem dL {c:Prop}[Decidable c](h:¬c){t e:α}:(if c then t else e)=e:=_root_.if_neg h
theorem eJ {c:Prop}[Decidable c](h:c){t e:α}:(if c then t else e)=t:=_root_.if_pos h
theorem wi (x:Int)(h:-9223372036854775808<=x/\x<=9223372036854775807:=by omega):aF.wrap x=x:=by rw[IntKind.wrap_i64];omega
theorem wj {x y:Int}(h:x=y/\-9223372036854775808<=x/\x<=9223372036854775807:=by omega):aF.wrap x=y:=by rw[IntKind.wrap_i64];omega
def uX (n:Nat):ByteArray:=⟨(Lib.decDigits n).toArray⟩
def kM (n:Int):ByteArray:=⟨(Lib.itoa n).toArray⟩
theorem Ll (n:Nat):kM (n:Int)=uX n:=by
 unfold kM uX Lib.itoa;rw[dL (by omega)];simp
theorem yJ:∀i:Fin 10,(({data:=#[48,49,50,51,52,53,54,55,56,57]}:ByteArray).extract i.val (i.val+1))=⟨#[UInt8.ofNat (48+i.val)]⟩:=by decide+kernel
theorem Ab (m:Nat)(s:List UInt8):
 (({data:=#[48,49,50,51,52,53,54,55,56,57]}:ByteArray).extract (m%10) (m%10+1)++{data:=s.toArray})=⟨(UInt8.ofNat (48+m%10)::s).toArray⟩:=by
 have h:=yJ ⟨m%10,by omega⟩;simp only at h;rw[h];apply ByteArray.ext;simp
theorem Ee {m:Nat}(h:m/10=0):Lib.decDigits m=[UInt8.ofNat (48+m%10)]:=by
 rw[Lib.decDigits,dif_pos (by omega),Nat.mod_eq_of_lt (by omega)]
theorem Ae {m:Nat}(h:m/10≠0):Lib.decDigits m=Lib.decDigits (m/10)++[UInt8.ofNat (48+m%10)]:=by
 rw[Lib.decDigits,dif_neg (by omega)]
theorem S7 (k u:Nat)(h:u<10 ^ (k+1)):Lib.nDigits u<=k+1:=by
 induction k generalizing u with
 |zero=>rw[Lib.nDigits_small (by simpa using h)];exact bD _
 |succ k ih=>
  by_cases h2:u<10
  ·rw[Lib.nDigits_small h2];omega
  ·rw[Lib.nDigits_big h2];have:=ih (u/10) (by rw[Nat.pow_succ] at h;omega);omega
theorem qN (n:Nat)(h:(n:Int)<=9223372036854775808):(Lib.decDigits n).length<=19:=by
 rw[Lib.decDigits_length];exact S7 18 n (by simp only[Nat.reducePow,Nat.reduceAdd];omega)
theorem Lk (n:Nat):(uX n).size=(Lib.decDigits n).length:=by simp[uX,ByteArray.size]
theorem Rp (l:List UInt8):(({data:=#[45]}:ByteArray)++{data:=l.toArray})=⟨(45::l).toArray⟩:=by
 apply ByteArray.ext;simp
theorem Li:kM (-9223372036854775808)=⟨#[45,57,50,50,51,51,55,50,48,51,54,56,53,52,55,55,53,56,48,56]⟩:=by
 unfold kM Lib.itoa;rw[eJ (by omega),show(-9223372036854775808:Int).natAbs=9223372036854775808 from rfl];simp only[Ae,Ee,ne_eq,Nat.reduceDiv,Nat.reduceMod,Nat.reduceAdd,Nat.reduceEqDiff,not_false_eq_true];rfl
theorem fE (b o j:Nat):(⟨b,o,aC⟩:Addr).add j=⟨b,o+j,aC⟩:=by unfold Addr.add;split <;> simp_all
def lN (w:aY) (v:aG) (xs:List aG):Prop:=
 (v=aJ aC 0 0/\xs=[])\/∃b o c,v=aJ (aE ⟨b,o,aC⟩) xs.length c/\b<w.heap.size/\∀j u,xs[j]?=aE u->w.cell? ⟨b,o+j,aC⟩=aE u
theorem lN.nil (w:aY):lN w (aJ aC 0 0) []:=.inl ⟨rfl,rfl⟩
variable {w:aY}{v:aG}{xs:List aG}
theorem lN.len (h:lN w v xs):∃a c,v=aJ a xs.length c:=by
 rcases h with ⟨rfl,rfl⟩|⟨b,o,c,rfl,_⟩
 ·exact⟨_,_,rfl⟩
 ·exact⟨_,_,rfl⟩
structure Mv (T:Nat->Prop) (w w' :aY):Prop where
 os:w'.os=w.os
 tape:w'.tape=w.tape
 output:w'.output=w.output
 size:w.heap.size<=w'.heap.size
 block:∀k,k<w.heap.size->¬T k->w'.heap[k]?=w.heap[k]?
def dG (w:aY) (T T' :Nat->Prop):Prop:=∀k,T' k->T k\/w.heap.size<=k
theorem Mv.refl (T:Nat->Prop)(w:aY):Mv T w w:=⟨rfl,rfl,rfl,bD _,λ_ _ _=>rfl⟩
theorem dG.refl (T:Nat->Prop)(w:aY):dG w T T:=λ_ h=>.inl h
variable {T:Nat->Prop}
theorem Mv.trans {T' :Nat->Prop}{a b c:aY}(h:Mv T a b)(hf:dG a T T')(k:Mv T' b c):Mv T a c:=
 ⟨k.os.trans h.os,k.tape.trans h.tape,k.output.trans h.output,cF h.size k.size,λi hi ht=>
  (k.block i (eC hi h.size) (λht' =>Or.elim (hf i ht') ht (λx=>by omega))).trans (h.block i hi ht)⟩
theorem dG.trans {T' T'' :Nat->Prop}{a b:aY}(hs:a.heap.size<=b.heap.size)(h:dG a T T')(k:dG b T' T''):dG a T T'' :=λi hi=>by
 rcases k i hi with x|x
 ·exact h i x
 ·exact .inr (by omega)
variable {B:Nat}{w' :aY}
theorem Mv.below (h:Mv T w w')(hT:∀k,T k->B<=k)(hB:B<=w.heap.size):bA B w w' :=
 ⟨h.os,h.tape,h.output,h.size,λk hk=>h.block k (by omega) (λht=>by have:=hT k ht;omega)⟩
theorem Mv.dS (h:bA w.heap.size w w')(T:Nat->Prop):Mv T w w' :=⟨h.os,h.tape,h.output,h.size,λk hk _=>h.block k hk⟩
theorem Mv.weaken {T' :Nat->Prop}(h:Mv T w w')(ht:∀k,T k->T' k):Mv T' w w' :=⟨h.os,h.tape,h.output,h.size,λk hk hn=>h.block k hk (λx=>hn (ht k x))⟩
theorem Mv.drew (h:Mv T w w'):Mv T w w'.drew:=⟨h.os,h.tape,h.output,h.size,h.block⟩
theorem Mv.alloc (h:Mv T w w')(o:Obj):Mv T w (w'.alloc o):=
 ⟨h.os,h.tape,h.output,by have:=h.size;simp;omega,λk hk ht=>(bA.heap_alloc _ _ _ (by have:=h.size;omega)).trans (h.block k hk ht)⟩
theorem Mv.setCell (h:Mv T w w'){p:Addr}(hp:T p.block\/w.heap.size<=p.block)(u:aG):Mv T w (w'.setCell p u):=
 ⟨h.os,h.tape,h.output,by have:=h.size;simpa[aY.setCell] using this,λk hk ht=>(bA.heap_setCell _ _ _ _ (by rintro rfl;exact Or.elim hp ht (λx=>by omega))).trans (h.block k hk ht)⟩
theorem Mv.grown {w'' :aY}{row:Option Nat}(h:Mv T w w')(hg:w'.grownBy w'' row)(hr:∀k,row=aE k->T k\/w.heap.size<=k):Mv T w w'' :=
 ⟨hg.os.trans h.os,hg.tape.trans h.tape,hg.output.trans h.output,cF h.size hg.size,λk hk ht=>
  (hg.block k (eC hk h.size) (λe=>Or.elim (hr k e.symm) ht (λx=>by omega))).trans (h.block k hk ht)⟩
theorem lN.kept (h:lN w v xs)(hs:w.heap.size<=w'.heap.size)(hk:∀b,v.ownBlock=aE b->w'.heap[b]?=w.heap[b]?):lN w' v xs:=by
 rcases h with h|⟨b,o,c,rfl,hb,hc⟩
 ·exact .inl h
 ·refine .inr ⟨b,o,c,rfl,by omega,λj u hu=>?_⟩;rw[aY.cell?_of_block (w:=w) (hk b rfl)];exact hc j u hu
theorem lN.lt (h:lN w v xs):∀b,v.ownBlock=aE b->b<w.heap.size:=by
 rcases h with ⟨rfl,_⟩|⟨b,o,c,rfl,hb,hc⟩
 ·intro b h;simp[aG.ownBlock] at h
 ·intro b' h;simp[aG.ownBlock] at h;omega
theorem lN.below (h:lN w v xs)(hb:bA w.heap.size w w'):lN w' v xs:=
 h.kept hb.size λb e=>hb.block b (h.lt b e)
variable {base e n:Nat}
theorem lN.ju (h:w.ownsRow base e 1 v n xs):lN w v xs:=by
 have hl:=h.1;have hc:=@aY.ownsRow.cells w base e 1 v n xs h;have eQ:=h.lt;rcases h.2 with ⟨rfl,rfl⟩|⟨g,cap,cur,rfl,_⟩
 ·exact .inl ⟨rfl,dU.1 (by omega)⟩
 ·refine .inr ⟨g,0,cap,by rw[hl,Nat.mul_one],(eQ g rfl).2,λj u hu=>?_⟩;have:=hc rfl j u hu;rwa[fE] at this
theorem Pv {P:Program}(w:aY)(t ty e:TypeId)(i:TypeInfo)(z:aG)(bytes:Nat)(ht:P.underlying t=aE (TypeDesc.slice e))(hi:P.info? e=aE i)(hz:i.zero=aE z)(tH:i.size=1)(jP:i.bytes=bytes)(hzs:z.cells.size=1)(v:aG)(n:Nat)(xs:List aG)(fK:w.ownsRow 0 e 1 v n xs)(x:aG)(news:List aG)(hx:lN w x news)(h1:∀u∈news,u.oneCell' =aX)(P5:n+news.length<=maxLen)(rD:(n+news.length)*bytes<=140737488355328):
 ∃v' w',(Builtin.append_ #[t,t] ty #[v,x]).run P w=.ok v' w' /\w'.ownsRow 0 e 1 v' (n+news.length) (xs++news)/\w.grownBy w' v.ownBlock/\
  (v'.ownBlock=v.ownBlock\/v'.ownBlock=aE w.heap.size):=by
 rcases hx with ⟨rfl,rfl⟩|⟨b,o,c,rfl,_,hc⟩
 ·refine⟨v,w,?_,by simpa using fK,⟨rfl,rfl,rfl,bD _,λ_ _ _=>rfl⟩,.inl rfl⟩;rcases fK.2 with ⟨rfl,rfl⟩|⟨g,cap,cur,rfl,_,_,hle,_⟩
  ·simp[Builtin.append_,run_underlying ht,sizeOf,typeInfo,hi,Builtin.lenOf,Builtin.firstCells]
  ·simp[Builtin.append_,run_underlying ht,sizeOf,typeInfo,hi,Builtin.lenOf,Builtin.firstCells,hle,storeCells]
 ·obtain⟨v',w',hr,h2,h3,_,h5⟩:=run_append_own_at (P:=P) w 0 t ty e i z 1 bytes ht hi hz tH jP hzs (by omega) v n xs fK ⟨b,o,aC⟩ news.length c news (by omega) (λj u hu=>by rw[fE];exact hc j u hu) h1 P5 rD (bZ _);exact⟨v',w',hr,h2,h3,h5⟩
variable {g:Nat}{cs:Array aG}{t:TypeId}{fr:Nat×Nat}
theorem fm {c:Nat}(h:w.heap[g]?=aE (aU cs t fr)):lN w (aJ (aE ⟨g,0,aC⟩) cs.size c) cs.toList:=by
 refine .inr ⟨g,0,c,by simp,(Array.getElem?_eq_some_iff.1 h).1,λj u hu=>?_⟩;rw[dC,cell_of_row w g j cs t fr h];simpa using hu
theorem vC (xs:List aG)(t:TypeId){c:Nat}(hn:xs.length=n)(h:w.heap[g]?=aE (aU xs.toArray t (0,0))):lN w (aJ (aE ⟨g,0,aC⟩) n c) xs:=by
 have:=fm (c:=c) h;simpa[hn] using this
theorem lF (w:aY)(a b:Obj):((w.alloc a).alloc b).heap[w.heap.size+1]?=aE b:=by
 have:=heap_alloc_new (w.alloc a) b;simpa using this
theorem Qr (w:aY)(a b c:Obj):(((w.alloc a).alloc b).alloc c).heap[w.heap.size+1+1]?=aE c:=by
 have:=heap_alloc_new ((w.alloc a).alloc b) c;simpa using this
theorem Cj (w:aY)(a b c:Obj):(((w.alloc a).alloc b).alloc c).heap[w.heap.size+1]?=aE b:=by
 rw[bA.heap_alloc _ _ _ (by simp),lF]
theorem bJ {a:Addr}(h:w.cell? a=aE v)(o:Obj):(w.alloc o).cell? a=aE v:=(bU w o aC).cell h (by simp)
variable {b:Nat}
theorem eG {o:Nat}(h:w.cell? ⟨b,o,aC⟩=aE v):b<w.heap.size:=aY.block_lt_of_cell? w _ h
def qX (B:Nat) (w:aY) (v:aG) (lays aside:List Int) (tells:List UInt8):Prop:=
 ∃vL vA,v=bM #[vL,vA,aI ⟨tells.toArray⟩]/\lN w vL (lays.map (aH aF))/\lN w vA (aside.map (aH aF))/\(∀k,vL.ownBlock=aE k->B<=k)/\(∀k,vA.ownBlock=aE k->B<=k)
theorem kU:∀{B:Nat} (k:Nat),aG.ownBlock (aJ aC 0 0)=aE k->B<=k:=λk h=>by simp[aG.ownBlock] at h
theorem sN {o c:Nat}(h:B<=g):∀k,aG.ownBlock (aJ (aE ⟨g,o,aC⟩) n c)=aE k->B<=k:=λk e=>by simp[aG.ownBlock] at e;omega
theorem lY (w:aY)(xs:List aG)(t:TypeId){c:Nat}(hn:xs.length=n)(hg:w.heap.size=g):lN (w.alloc (aU xs.toArray t)) (aJ (aE ⟨g,0,aC⟩) n c) xs:=
 vC xs t hn (by subst hg;exact heap_alloc_new w _)
theorem lN.drew (h:lN w v xs):lN w.drew v xs:=h
theorem lN.setCell (h:lN w v xs)(hB:∀k,v.ownBlock=aE k->B<=k){p:Addr}(hp:p.block<B)(u:aG):lN (w.setCell p u) v xs:=
 h.kept (by simp[aY.setCell]) λb e=>bA.heap_setCell _ _ _ _ (by have:=hB b e;omega)
theorem lN.alloc (h:lN w v xs)(o:Obj):lN (w.alloc o) v xs:=
 h.kept (by simp) λb e=>bA.heap_alloc _ _ _ (h.lt b e)
variable {W w1:aY}
theorem eI (hb:bA W.heap.size W w1):(∀b o,b<W.heap.size->w1.cell? ⟨b,o,aC⟩=W.cell? ⟨b,o,aC⟩)/\(∀b o,b<W.heap.size->w1.frozen? ⟨b,o,aC⟩=W.frozen? ⟨b,o,aC⟩):=
 ⟨λb o h=>hb.cell (p:=⟨b,o,aC⟩) h,λb o h=>hb.frozen (p:=⟨b,o,aC⟩) h⟩
theorem cU (h:w.ownsRow base e 1 v n xs):∃a cap,v=aJ a n cap/\n<=cap/\(a=aC->n=0/\cap=0):=by
 rcases h.2 with ⟨rfl,rfl⟩|⟨g,cap,cur,rfl,_,_,hle,_⟩
 ·exact⟨_,_,rfl,bD _,λ_=>⟨rfl,rfl⟩⟩
 ·exact⟨_,_,rfl,hle,λh=>by cases h⟩
variable {cap:Nat}
theorem tJ {a:Option Addr}(h:w.ownsRow base e 1 (aJ a n cap) n xs)(k:Nat)(hk:k<=n):w.ownsRow base e 1 (aJ a k cap) k (xs.take k):=by
 have hl:=h.1;refine⟨by rw[dH];omega,?_⟩;rcases h.2 with ⟨h1,h2⟩|⟨g,mT,cur,h1,hb,hg,hle,hm,hs,ht⟩
 ·injection h1 with h3 h4 h5;exact .inl ⟨by rw[h3,h5,show k=0 by omega],by omega⟩
 ·injection h1 with h3 h4 h5;subst h5;refine .inr ⟨g,cap,cur,by rw[h3],hb,hg,by omega,hm,hs,?_⟩;rw[<-ht,List.take_take,Nat.mul_one,Nat.mul_one,Nat.min_eq_left hk]
theorem Qz {P:Program}(w:aY)(t u ty e:TypeId)(i:TypeInfo)(ht:P.underlying t=aE (TypeDesc.slice e))(hu:P.underlying u=aE TypeDesc.string)(hi:P.info? e=aE i)(hz:i.zero=aE (aH .u8 0))(tH:i.size=1)(jP:i.bytes=1)(v:aG)(n:Nat)(xs:List aG)(fK:w.ownsRow 0 e 1 v n xs)(s:ByteArray)(P5:n+s.size<=maxLen)(rD:n+s.size<=140737488355328):
 ∃v' w',(Builtin.append_ #[t,u] ty #[v,aI s]).run P w=.ok v' w' /\w'.ownsRow 0 e 1 v' (n+s.size) (xs++Lib.strCells s)/\w.grownBy w' v.ownBlock/\
  (v'.ownBlock=v.ownBlock\/v'.ownBlock=aE w.heap.size):=by
 obtain⟨v',w',hr,h2,h3,h4⟩:=Lib.run_append_own_string (P:=P) w 0 t u ty e i ht hu hi hz tH jP v n xs fK s P5 rD (bZ _);refine⟨v',w',hr,h2,h3,?_⟩;have hsmall:n+s.size<=9223372036854775807:=by simp only[maxLen] at P5;omega
 rcases fK.2 with ⟨rfl,rfl⟩|⟨g,cap,cur,rfl,_,hg,hle,hm,hs,ht'⟩
 ·by_cases hm:s.size=0
  ·rw[h4.2 ⟨rfl,hm⟩];exact .inl rfl
  ·have rF:=run_append_nil_string (P:=P) w t u ty e i (aH .u8 0) ht hu hi hz s (by omega) (by omega) (by rw[jP];omega);rw[hr] at rF;injection rF with h5 _;rw[h5];exact .inr rfl
 ·by_cases hroom:n+s.size<=cap
  ·have rF:=Lib.run_append_room_string (P:=P) w t u ty e i ht hu hi tH g n cap cur hg s hroom (by omega);rw[hr] at rF;injection rF with h5 _;rw[h5];exact .inl rfl
  ·have holds:∀j u,xs[j]?=aE u->w.cell? ((⟨g,0,aC⟩:Addr).add j)=aE u:=fK.cells (g:=g) rfl;have rF:=Lib.run_append_grow_string (P:=P) w t u ty e i (aH .u8 0) ht hu hi hz ⟨g,0,aC⟩ n cap xs (by rw[tH];exact fK.1) holds s (by omega) (by omega) (by rw[jP];exact growslice_fits (by omega) (by omega));rw[hr] at rF;injection rF with h5 _;rw[h5];exact .inr rfl
section
variable {P:Program} (w:aY)
variable {a:Act}{Q:Exit->Act->aY->Prop}
theorem Fe {o:Oper}{K:Act->aY->Prop}(s x:Operand)(t:TypeId)(ho:o.op=.call {callee:=.builtin .append,args:=#[s,x],argTypes:=#[t,t]})(e:TypeId)(i:TypeInfo)(z:aG)(bytes:Nat)(ht:P.underlying t=aE (TypeDesc.slice e))(hi:P.info? e=aE i)(hz:i.zero=aE z)(tH:i.size=1)(jP:i.bytes=bytes)(hzs:z.cells.size=1)(v:aG)(n:Nat)(xs:List aG)(hs:a.eval s=v)(fK:w.ownsRow 0 e 1 v n xs)(vx:aG)(news:List aG)(hx:a.eval x=vx)(SH:lN w vx news)(h1:∀u∈news,u.oneCell' =aX)(P5:n+news.length<=maxLen)(rD:(n+news.length)*bytes<=140737488355328)(h:∀a' mT w',w'.ownsRow 0 e 1 (aJ a' (n+news.length) mT) (n+news.length) (xs++news)->w.grownBy w' v.ownBlock->((aJ a' (n+news.length) mT).ownBlock=v.ownBlock\/(aJ a' (n+news.length) mT).ownBlock=aE w.heap.size)->K (a.put o.dst (aJ a' (n+news.length) mT)) w'):o.wp P a w K Q:=by
 obtain⟨v',w',hr,h2,h3,h4⟩:=Pv (P:=P) w t o.type e i z bytes ht hi hz tH jP hzs v n xs fK vx news SH h1 P5 rD;obtain⟨a',mT,rfl,_,_⟩:=cU h2;unfold Oper.wp execOp;simp only[ho,resolve,invoke,builtin,Sem.run_bind,Sem.run_pure,Result.andThen_ok,List.map_toArray,List.map_cons,List.map_nil,hs,hx,hr];exact h a' mT w' h2 h3 h4
theorem dW {ops:Array Oper}{o:Oper}{K:Act->aY->Prop}{E:Prop}(MF:o.guard=aC)(s x:Operand)(t:TypeId)(ho:o.op=.call {callee:=.builtin .append,args:=#[s,x],argTypes:=#[t,t]})(e:TypeId)(i:TypeInfo)(z:aG)(bytes:Nat)(ht:P.underlying t=aE (TypeDesc.slice e))(hi:P.info? e=aE i)(hz:i.zero=aE z)(tH:i.size=1)(jP:i.bytes=bytes)(hzs:z.cells.size=1)(v:aG)(n:Nat)(xs:List aG)(hs:a.eval s=v)(fK:w.ownsRow 0 e 1 v n xs)(vx:aG)(news:List aG)(hx:a.eval x=vx)(SH:lN w vx news)(h1:∀u∈news,u.oneCell' =aX)(P5:n+news.length<=maxLen)(rD:(n+news.length)*bytes<=140737488355328)(h:∀a' mT w',w'.ownsRow 0 e 1 (aJ a' (n+news.length) mT) (n+news.length) (xs++news)->w.grownBy w' v.ownBlock->((aJ a' (n+news.length) mT).ownBlock=v.ownBlock\/(aJ a' (n+news.length) mT).ownBlock=aE w.heap.size)->K (a.put o.dst (aJ a' (n+news.length) mT)) w'):
 if Region.wanted o (yielded ops a.tmps)=aX then Oper.wp P o a w K Q else E:=by
 have hw:Region.wanted o (yielded ops a.tmps)=aX:=by simp[Region.wanted,MF]
 rw[if_pos hw];exact Fe w s x t ho e i z bytes ht hi hz tH jP hzs v n xs hs fK vx news hx SH h1 P5 rD h
theorem kV {ops:Array Oper}{rest:List Oper}{o:Oper}(MF:o.guard=aC)(s x:Operand)(t:TypeId)(ho:o.op=.call {callee:=.builtin .append,args:=#[s,x],argTypes:=#[t,t]})(e:TypeId)(i:TypeInfo)(z:aG)(bytes:Nat)(ht:P.underlying t=aE (TypeDesc.slice e))(hi:P.info? e=aE i)(hz:i.zero=aE z)(tH:i.size=1)(jP:i.bytes=bytes)(hzs:z.cells.size=1)(v:aG)(n:Nat)(xs:List aG)(hs:a.eval s=v)(fK:w.ownsRow 0 e 1 v n xs)(vx:aG)(news:List aG)(hx:a.eval x=vx)(SH:lN w vx news)(h1:∀u∈news,u.oneCell' =aX)(P5:n+news.length<=maxLen)(rD:(n+news.length)*bytes<=140737488355328)(h:∀a' mT w',w'.ownsRow 0 e 1 (aJ a' (n+news.length) mT) (n+news.length) (xs++news)->w.grownBy w' v.ownBlock->((aJ a' (n+news.length) mT).ownBlock=v.ownBlock\/(aJ a' (n+news.length) mT).ownBlock=aE w.heap.size)->wpList P ops Q rest (a.put o.dst (aJ a' (n+news.length) mT)) w'):wpList P ops Q (o::rest) a w:=
 wpList_plain MF λ_ hK=>Fe w s x t ho e i z bytes ht hi hz tH jP hzs v n xs hs fK vx news hx SH h1 P5 rD λa' mT w' h2 h3 h4=>hK _ _ (h a' mT w' h2 h3 h4)
theorem Ub {o:Oper}{K:Act->aY->Prop}(sl x:Operand)(t u:TypeId)(ho:o.op=.call {callee:=.builtin .append,args:=#[sl,x],argTypes:=#[t,u]})(e:TypeId)(i:TypeInfo)(ht:P.underlying t=aE (TypeDesc.slice e))(hu:P.underlying u=aE TypeDesc.string)(hi:P.info? e=aE i)(hz:i.zero=aE (aH .u8 0))(tH:i.size=1)(jP:i.bytes=1)(v:aG)(n:Nat)(xs:List aG)(hs:a.eval sl=v)(fK:w.ownsRow 0 e 1 v n xs)(s:ByteArray)(hx:a.eval x=aI s)(P5:n+s.size<=maxLen)(rD:n+s.size<=140737488355328)(h:∀a' mT w',w'.ownsRow 0 e 1 (aJ a' (n+s.size) mT) (n+s.size) (xs++Lib.strCells s)->w.grownBy w' v.ownBlock->((aJ a' (n+s.size) mT).ownBlock=v.ownBlock\/(aJ a' (n+s.size) mT).ownBlock=aE w.heap.size)->K (a.put o.dst (aJ a' (n+s.size) mT)) w'):o.wp P a w K Q:=by
 obtain⟨v',w',hr,h2,h3,h4⟩:=Qz (P:=P) w t u o.type e i ht hu hi hz tH jP v n xs fK s P5 rD;obtain⟨a',mT,rfl,_,_⟩:=cU h2;unfold Oper.wp execOp;simp only[ho,resolve,invoke,builtin,Sem.run_bind,Sem.run_pure,Result.andThen_ok,List.map_toArray,List.map_cons,List.map_nil,hs,hx,hr];exact h a' mT w' h2 h3 h4
theorem Mx {ops:Array Oper}{o:Oper}{K:Act->aY->Prop}{E:Prop}(MF:o.guard=aC)(sl x:Operand)(t u:TypeId)(ho:o.op=.call {callee:=.builtin .append,args:=#[sl,x],argTypes:=#[t,u]})(e:TypeId)(i:TypeInfo)(ht:P.underlying t=aE (TypeDesc.slice e))(hu:P.underlying u=aE TypeDesc.string)(hi:P.info? e=aE i)(hz:i.zero=aE (aH .u8 0))(tH:i.size=1)(jP:i.bytes=1)(v:aG)(n:Nat)(xs:List aG)(hs:a.eval sl=v)(fK:w.ownsRow 0 e 1 v n xs)(s:ByteArray)(hx:a.eval x=aI s)(P5:n+s.size<=maxLen)(rD:n+s.size<=140737488355328)(h:∀a' mT w',w'.ownsRow 0 e 1 (aJ a' (n+s.size) mT) (n+s.size) (xs++Lib.strCells s)->w.grownBy w' v.ownBlock->((aJ a' (n+s.size) mT).ownBlock=v.ownBlock\/(aJ a' (n+s.size) mT).ownBlock=aE w.heap.size)->K (a.put o.dst (aJ a' (n+s.size) mT)) w'):
 if Region.wanted o (yielded ops a.tmps)=aX then Oper.wp P o a w K Q else E:=by
 have hw:Region.wanted o (yielded ops a.tmps)=aX:=by simp[Region.wanted,MF]
 rw[if_pos hw];exact Ub w sl x t u ho e i ht hu hi hz tH jP v n xs hs fK s hx P5 rD h
end
namespace L
structure Prim where
 name:List UInt8
 takes:Nat
 aside:Nat
 group:Nat
def oY:List Prim:=[⟨[43],2,0,0⟩,⟨[45],2,0,0⟩,⟨[42],2,0,0⟩,⟨[47],2,0,0⟩,⟨[109,111,100],2,0,0⟩,⟨[61],2,0,0⟩,⟨[60],2,0,0⟩,⟨[62],2,0,0⟩,⟨[97,110,100],2,0,0⟩,⟨[111,114],2,0,0⟩,⟨[120,111,114],2,0,0⟩,
 ⟨[110,111,116],1,0,0⟩,⟨[100,117,112],1,0,1⟩,⟨[100,114,111,112],1,0,1⟩,⟨[62,114],1,0,1⟩,⟨[115,119,97,112],2,0,1⟩,⟨[111,118,101,114],2,0,1⟩,⟨[114,111,116],3,0,1⟩,⟨[114,62],0,1,1⟩,⟨[114,64],0,1,1⟩,⟨[100,101,112,116,104],0,0,1⟩,
 ⟨[46],1,0,2⟩,⟨[101,109,105,116],1,0,2⟩,⟨[99,114],0,0,2⟩]
def sV:List Prim:=[⟨[64],1,0,3⟩,⟨[101,120,101,99,117,116,101],1,0,3⟩,⟨[33],2,0,3⟩]
def find (l:List UInt8):Option Prim:=(oY++sV).find? λp=>l==p.name
def lH (b:Bool):Int:=if b then -1 else 0
def Mq (y v:Int):Int:=if y=0 then 0 else v
def yT (y:Int):Int:=if y=0 then 8 else 0
end L
def dD (p:L.Prim):aG:=bM #[aI ⟨p.name.toArray⟩,aH aF p.takes,aH aF p.aside,aH aF p.group]
namespace L
open Go.RowKit
structure Eff where
 lays:List Int
 aside:List Int
 tells:List UInt8
 err:Int
def j6 (n:List UInt8) (x y z a d:Int):Eff:=
 if n==[43] then(⟨[wrap64 (x+y)],[],[],0⟩)
 else if n==[45] then(⟨[wrap64 (x-y)],[],[],0⟩)
 else if n==[42] then(⟨[wrap64 (x*y)],[],[],0⟩)
 else if n==[47] then(if y=0 then⟨[],[],[],8⟩ else⟨[wrap64 (x.tdiv y)],[],[],0⟩)
 else if n==[109,111,100] then(if y=0 then⟨[],[],[],8⟩ else⟨[x.tmod y],[],[],0⟩)
 else if n==[61] then(⟨[lH (x==y)],[],[],0⟩)
 else if n==[60] then(⟨[lH (decide (x<y))],[],[],0⟩)
 else if n==[62] then(⟨[lH (decide (y<x))],[],[],0⟩)
 else if n==[97,110,100] then(⟨[bits .and aF x y],[],[],0⟩)
 else if n==[111,114] then(⟨[bits .or aF x y],[],[],0⟩)
 else if n==[120,111,114] then(⟨[bits .xor aF x y],[],[],0⟩)
 else if n==[110,111,116] then(⟨[lH (x==0)],[],[],0⟩)
 else if n==[100,117,112] then(⟨[x,x],[],[],0⟩)
 else if n==[100,114,111,112] then(⟨[],[],[],0⟩)
 else if n==[62,114] then(⟨[],[x],[],0⟩)
 else if n==[115,119,97,112] then(⟨[y,x],[],[],0⟩)
 else if n==[111,118,101,114] then(⟨[x,y,x],[],[],0⟩)
 else if n==[114,111,116] then(⟨[y,z,x],[],[],0⟩)
 else if n==[114,62] then(⟨[a],[],[],0⟩)
 else if n==[114,64] then(⟨[a],[a],[],0⟩)
 else if n==[100,101,112,116,104] then(⟨[d],[],[],0⟩)
 else if n==[46] then(⟨[],[],Lib.itoa x++[32],0⟩)
 else if n==[101,109,105,116] then(if x<32\/126<x then⟨[],[],[],11⟩ else⟨[],[],[UInt8.ofNat x.toNat],0⟩)
 else if n==[99,114] then(⟨[],[],[10],0⟩)
 else⟨[],[],[],0⟩
def Dx (n:List UInt8) (T A:List Int) (d:Int):Eff:=j6 n (T.getD 0 0) (T.getD 1 0) (T.getD 2 0) (A.getD 0 0) d
end L
def dQ (x:Int):Prop:=-9223372036854775808<=x/\x<=9223372036854775807
namespace L
structure gJ where
 S:List Int
 R:List Int
 words:List (List UInt8)
 pos:Nat
 steps:Nat
 depth:Nat
 out:List UInt8
def jV (s:gJ) (t a:Nat) (e:Eff):gJ×Int:=
 if 16<s.S.length-t+e.lays.length\/16<s.R.length-a+e.aside.length then(s,7)
 else if 300<s.out.length+e.tells.length then(s,12)
 else({s with S:=s.S.take (s.S.length-t)++e.lays,R:=s.R.take (s.R.length-a)++e.aside,out:=s.out++e.tells},0)
end L
def uL (c:UInt8):aG:=aH .u8 c.toNat
def mQ (l:List UInt8):aG:=aI ⟨l.toArray⟩
structure eV (w:aY) (mb rb:Nat) (vO vB vW vS vR vT:aG) (s:L.gJ):Prop where
 m:w.heap[mb]?=aE (aU #[vS,vR,vO,vB] 60)
 r:w.heap[rb]?=aE (aU #[aK (aE ⟨mb,0,aC⟩),vW,aH aF s.pos,aH aF s.steps,aH aF s.depth,vT] 67)
 st:w.ownsRow 0 3 1 vS s.S.length (s.S.map (aH aF))
 Fv:w.ownsRow 0 3 1 vR s.R.length (s.R.map (aH aF))
 ot:w.ownsRow 0 5 1 vT s.out.length (s.out.map uL)
 wd:w.ownsRow 0 9 1 vW s.words.length (s.words.map mQ)
 ap:∀k,vS.ownBlock=aE k->vR.ownBlock=aE k->False
 sl:s.S.length<=16
 rl:s.R.length<=16
 ol:s.out.length<=300
 wl:s.words.length<=500
 si:∀x∈s.S,dQ x
 ri:∀x∈s.R,dQ x
def kZ (mb rb:Nat) (vS vR vT:aG):Nat->Prop:=λk=>k=mb\/k=rb\/vS.ownBlock=aE k\/vR.ownBlock=aE k\/vT.ownBlock=aE k
variable {k:Nat}
theorem cZ (h:w.ownsRow base e 1 v n xs)(hk:v.ownBlock=aE k):∃cur,w.heap[k]?=aE (aU cur e):=by
 rcases h.2 with ⟨rfl,_⟩|⟨g,cap,cur,rfl,_,hg,_⟩
 ·simp[aG.ownBlock] at hk
 ·simp[aG.ownBlock] at hk;subst hk;exact⟨cur,hg⟩
theorem fN {c c' :Array aG}{t' :TypeId}{f f' :Nat×Nat}(h:w.heap[k]?=aE (aU c t f))(h' :w.heap[g]?=aE (aU c' t' f'))(ht:t≠t'):k≠g:=by
 rintro rfl;rw[h] at h';injection h' with h1;injection h1 with _ h2;exact ht h2
theorem cK (h:w.ownsRow base e 1 v n xs)(hk:∀k,v.ownBlock=aE k->w'.heap[k]?=w.heap[k]?):w'.ownsRow base e 1 v n xs:=by
 refine⟨h.1,?_⟩;rcases h.2 with h1|⟨g,cap,cur,rfl,hb,hg,hr⟩
 ·exact .inl h1
 ·exact .inr ⟨g,cap,cur,rfl,hb,by rw[hk g rfl];exact hg,hr⟩
variable {mb rb:Nat}{vO vB vW vS vR vT:aG}{s:L.gJ}
theorem eV.kept (h:eV w mb rb vO vB vW vS vR vT s)(hk:∀k,kZ mb rb vS vR vT k\/vW.ownBlock=aE k->w'.heap[k]?=w.heap[k]?):eV w' mb rb vO vB vW vS vR vT s where
 m:=by rw[hk mb (.inl (.inl rfl))];exact h.m
 r:=by rw[hk rb (.inl (.inr (.inl rfl)))];exact h.r
 st:=cK h.st λk e=>hk k (.inl (.inr (.inr (.inl e))))
 Fv:=cK h.Fv λk e=>hk k (.inl (.inr (.inr (.inr (.inl e)))))
 ot:=cK h.ot λk e=>hk k (.inl (.inr (.inr (.inr (.inr e)))))
 wd:=cK h.wd λk e=>hk k (.inr e)
 ap:=h.ap
 sl:=h.sl
 rl:=h.rl
 ol:=h.ol
 wl:=h.wl
 si:=h.si
 ri:=h.ri
theorem cC {o:Obj}(h:w.heap[k]?=aE o):k<w.heap.size:=(Array.getElem?_eq_some_iff.1 h).1
theorem eV.lt (h:eV w mb rb vO vB vW vS vR vT s):∀k,kZ mb rb vS vR vT k\/vW.ownBlock=aE k->k<w.heap.size:=by
 rintro k ((rfl|rfl|e|e|e)|e)
 ·exact cC h.m
 ·exact cC h.r
 ·exact(h.st.lt k e).2
 ·exact(h.Fv.lt k e).2
 ·exact(h.ot.lt k e).2
 ·exact(h.wd.lt k e).2
theorem eV.below (h:eV w mb rb vO vB vW vS vR vT s)(hb:bA w.heap.size w w'):eV w' mb rb vO vB vW vS vR vT s:=
 h.kept λk hk=>hb.block k (h.lt k hk)
variable {j:Nat}
theorem aZ (h:w.heap[b]?=aE (aU cs t))(hv:cs[j]?=aE v):w.cell? ⟨b,j,aC⟩=aE v:=by
 rw[cell_of_row w b j cs t (0,0) h];exact hv
theorem cq (j:Nat)(h:w.heap[b]?=aE (aU cs t))(hv:cs[j]?=aE v):w.cell? ⟨b,j,aC⟩=aE v:=aZ h hv
theorem bG (j:Nat)(h:w.heap[b]?=aE (aU cs t)):w.frozen? ⟨b,j,aC⟩=aV:=by
 simp[aY.frozen?,h]
theorem pE (a:Option Addr)(n c:Nat):(aJ a n c).ownBlock=a.map (·.block):=by cases a <;> rfl
structure ij (w1 w3:aY) (bS bR:Option Nat) (v1 v2:aG) (k1 k2:Nat) (xs ys:List aG):Prop where
 os:w3.os=w1.os
 tape:w3.tape=w1.tape
 output:w3.output=w1.output
 size:w1.heap.size<=w3.heap.size
 block:∀k,k<w1.heap.size->aE k≠bS->aE k≠bR->w3.heap[k]?=w1.heap[k]?
 o1:w3.ownsRow 0 3 1 v1 k1 xs
 o2:w3.ownsRow 0 3 1 v2 k2 ys
 t1:∀k,v1.ownBlock=aE k->bS=aE k\/w1.heap.size<=k
 t2:∀k,v2.ownBlock=aE k->bR=aE k\/w1.heap.size<=k
 ap:∀k,v1.ownBlock=aE k->v2.ownBlock=aE k->False
variable {w3:aY}{v1 v2:aG}
theorem ij.symm {bS bR:Option Nat}{k1 k2:Nat}{ys:List aG}(h:ij w1 w3 bS bR v1 v2 k1 k2 xs ys):ij w1 w3 bR bS v2 v1 k2 k1 ys xs:=
 ⟨h.os,h.tape,h.output,h.size,λk a b c=>h.block k a c b,h.o2,h.o1,h.t2,h.t1,λk a b=>h.ap k b a⟩
variable {w2:aY}
theorem VX {bS bR:Option Nat}{k1 k2:Nat}{ys:List aG}(g1:w1.grownBy w2 bS)(g2:w2.grownBy w3 bR)(o1:w2.ownsRow 0 3 1 v1 k1 xs)(o2:w3.ownsRow 0 3 1 v2 k2 ys)(t1:v1.ownBlock=bS\/v1.ownBlock=aE w1.heap.size)(t2:v2.ownBlock=bR\/v2.ownBlock=aE w2.heap.size)(hR:∀k,bR=aE k->k<w1.heap.size)(ap:∀k,bS=aE k->bR=aE k->False):
 ij w1 w3 bS bR v1 v2 k1 k2 xs ys:=by
 have eQ:=o1.lt;have jD:∀k,v1.ownBlock=aE k->aE k≠bR:=λk hk e=>by
  rcases t1 with t|t
  ·exact ap k (t▸hk) e.symm
  ·have:=hR k e.symm;rw[t] at hk;injection hk with hk;omega
 have NP:=g1.size;refine⟨g2.os.trans g1.os,g2.tape.trans g1.tape,g2.output.trans g1.output,cF g1.size g2.size,λk hk h1 h2=>(g2.block k (by omega) h2).trans (g1.block k hk h1),?_,o2,?_,?_,?_⟩
 ·exact cK o1 λk hk=>g2.block k (eQ k hk).2 (jD k hk)
 ·intro k hk;rcases t1 with t|t
  ·exact .inl (t▸hk)
  ·rw[t] at hk;injection hk with hk;exact .inr (by omega)
 ·intro k hk;rcases t2 with t|t
  ·exact .inl (t▸hk)
  ·rw[t] at hk;injection hk with hk;exact .inr (by omega)
 ·intro k hk tC;rcases t2 with t|t
  ·exact jD k hk (t▸tC).symm
  ·rw[t] at tC;injection tC with tC;have:=(eQ k hk).2;omega
theorem bV (h:w.heap[b]?=aE (aU cs t fr))(j:Nat)(u:aG):(w.setCell ⟨b,j,aC⟩ u).heap[b]?=aE (aU (cs.setIfInBounds j u) t fr):=by
 simp[aY.setCell,Array.getElem?_modify,h]
theorem bW {c:Array aG}{f:Nat×Nat}(h:w.ownsRow base e 1 v n xs)(hk:w.heap[k]?=aE (aU c t f))(ht:t≠e):v.ownBlock≠aE k:=λhv=>by
 obtain⟨cur,hc⟩:=cZ h hv;exact fN hk hc ht rfl
variable {w0:aY}{v3:aG}
theorem S8 {w4 w5 w6:aY}{lays aside:List Int}{tells:List UInt8}{t a:Nat}(Sp:eV w0 mb rb vO vB vW vS vR vT s)(tX:bA w0.heap.size w0 w1)(two:ij w1 w3 vS.ownBlock vR.ownBlock v1 v2 (s.S.length-t+lays.length) (s.R.length-a+aside.length) ((s.S.map (aH aF)).take (s.S.length-t)++lays.map (aH aF)) ((s.R.map (aH aF)).take (s.R.length-a)++aside.map (aH aF)))(h4o:w4.os=w3.os)(h4t:w4.tape=w3.tape)(h4p:w4.output=w3.output)(h4s:w4.heap.size=w3.heap.size)(h4b:∀k,k≠mb->w4.heap[k]?=w3.heap[k]?)(h4m:w4.heap[mb]?=aE (aU #[v1,v2,vO,vB] 60))(g5:w4.grownBy w5 vT.ownBlock)(o5:w5.ownsRow 0 5 1 v3 (s.out.length+tells.length) (s.out.map uL++tells.map uL))(t5:v3.ownBlock=vT.ownBlock\/v3.ownBlock=aE w4.heap.size)(h6o:w6.os=w5.os)(h6t:w6.tape=w5.tape)(h6p:w6.output=w5.output)(h6s:w6.heap.size=w5.heap.size)(h6b:∀k,k≠rb->w6.heap[k]?=w5.heap[k]?)(h6r:w6.heap[rb]?=aE (aU #[aK (aE ⟨mb,0,aC⟩),vW,aH aF s.pos,aH aF s.steps,aH aF s.depth,v3] 67))(Tn:s.S.length-t+lays.length<=16)(sY:s.R.length-a+aside.length<=16)(N8:s.out.length+tells.length<=300)(hi1:∀x∈lays,dQ x)(SD:∀x∈aside,dQ x):
 eV w6 mb rb vO vB vW v1 v2 v3 {s with S:=s.S.take (s.S.length-t)++lays,R:=s.R.take (s.R.length-a)++aside,out:=s.out++tells}/\
 Mv (kZ mb rb vS vR vT) w0 w6/\dG w0 (kZ mb rb vS vR vT) (kZ mb rb v1 v2 v3):=by
 have gI:=Sp.below tX;have Nq:=gI.lt;have fF:=tX.size;have hs3:=two.size
 -- the blocks that are of other types
 have neSm:=bW gI.st gI.m (by decide);have neRm:=bW gI.Fv gI.m (by decide);have neTm:=bW gI.ot gI.m (by decide);have neWm:=bW gI.wd gI.m (by decide);have neSr:=bW gI.st gI.r (by decide);have neRr:=bW gI.Fv gI.r (by decide);have neTr:=bW gI.ot gI.r (by decide);have neWr:=bW gI.wd gI.r (by decide);have nemr:mb≠rb:=fN gI.m gI.r (by decide);have ltm:=Nq mb (.inl (.inl rfl));have ltr:=Nq rb (.inl (.inr (.inl rfl)));have neST:∀k,vS.ownBlock=aE k->vT.ownBlock=aE k->False:=λk e1 e2=>by
  obtain⟨c1,h1⟩:=cZ gI.st e1;obtain⟨c2,h2⟩:=cZ gI.ot e2;exact fN h1 h2 (by decide) rfl
 have UZ:∀k,vR.ownBlock=aE k->vT.ownBlock=aE k->False:=λk e1 e2=>by
  obtain⟨c1,h1⟩:=cZ gI.Fv e1;obtain⟨c2,h2⟩:=cZ gI.ot e2;exact fN h1 h2 (by decide) rfl
 have neSW:∀k,vS.ownBlock=aE k->vW.ownBlock=aE k->False:=λk e1 e2=>by
  obtain⟨c1,h1⟩:=cZ gI.st e1;obtain⟨c2,h2⟩:=cZ gI.wd e2;exact fN h1 h2 (by decide) rfl
 have neRW:∀k,vR.ownBlock=aE k->vW.ownBlock=aE k->False:=λk e1 e2=>by
  obtain⟨c1,h1⟩:=cZ gI.Fv e1;obtain⟨c2,h2⟩:=cZ gI.wd e2;exact fN h1 h2 (by decide) rfl
 have neTW:∀k,vT.ownBlock=aE k->vW.ownBlock=aE k->False:=λk e1 e2=>by
  obtain⟨c1,h1⟩:=cZ gI.ot e1;obtain⟨c2,h2⟩:=cZ gI.wd e2;exact fN h1 h2 (by decide) rfl
 -- a row that is aC of T's,and neither the run's block,is behind all as it was behind the two appends
 have late:∀k,k<w3.heap.size->k≠mb->k≠rb->vT.ownBlock≠aE k->w6.heap[k]?=w3.heap[k]?:=λk hk h1 h2 h3=>
  (h6b k h2).trans ((g5.block k (by omega) (λe=>h3 e.symm)).trans (h4b k h1))
 have o1lt:=two.o1.lt;have o2lt:=two.o2.lt;have c1:∀k,v1.ownBlock=aE k->k≠mb/\k≠rb/\vT.ownBlock≠aE k:=λk hk=>by
  rcases two.t1 k hk with e|e
  ·exact⟨λh=>neSm (h▸e),λh=>neSr (h▸e),λh=>neST k e h⟩
  ·exact⟨by omega,by omega,λh=>by have:=Nq k (.inl (.inr (.inr (.inr (.inr h)))));omega⟩
 have c2:∀k,v2.ownBlock=aE k->k≠mb/\k≠rb/\vT.ownBlock≠aE k:=λk hk=>by
  rcases two.t2 k hk with e|e
  ·exact⟨λh=>neRm (h▸e),λh=>neRr (h▸e),λh=>UZ k e h⟩
  ·exact⟨by omega,by omega,λh=>by have:=Nq k (.inl (.inr (.inr (.inr (.inr h)))));omega⟩
 have c3:∀k,v3.ownBlock=aE k->k≠rb:=λk hk=>by
  rcases t5 with e|e
  ·rw[e] at hk;exact λh=>neTr (h▸hk)
  ·rw[e] at hk;injection hk with hk;omega
 refine⟨⟨?_,h6r,?_,?_,?_,?_,two.ap,?_,?_,?_,Sp.wl,?_,?_⟩,⟨?_,?_,?_,?_,?_⟩,?_⟩
 ·rw[h6b mb nemr,g5.block mb (by omega) (λe=>neTm e.symm)];exact h4m
 ·have:=cK two.o1 (w' :=w6) λk hk=>late k (o1lt k hk).2 (c1 k hk).1 (c1 k hk).2.1 (c1 k hk).2.2
  simpa[List.map_take] using this
 ·have:=cK two.o2 (w' :=w6) λk hk=>late k (o2lt k hk).2 (c2 k hk).1 (c2 k hk).2.1 (c2 k hk).2.2
  simpa[List.map_take] using this
 ·have:=cK o5 (w' :=w6) λk hk=>h6b k (c3 k hk)
  simpa using this
 ·refine cK gI.wd λk hk=>?_
  have xI:=Nq k (.inr hk);rw[late k (by omega) (λh=>neWm (h▸hk)) (λh=>neWr (h▸hk)) (λh=>neTW k h hk),two.block k xI (λe=>neSW k e.symm hk) (λe=>neRW k e.symm hk)]
 ·simp only[bN,dH];omega
 ·simp only[bN,dH];omega
 ·simp only[bN];omega
 ·intro x hx;rcases List.mem_append.1 hx with h|h
  ·exact Sp.si x (List.mem_of_mem_take h)
  ·exact hi1 x h
 ·intro x hx;rcases List.mem_append.1 hx with h|h
  ·exact Sp.ri x (List.mem_of_mem_take h)
  ·exact SD x h
 ·rw[h6o,g5.os,h4o,two.os,tX.os]
 ·rw[h6t,g5.tape,h4t,two.tape,tX.tape]
 ·rw[h6p,g5.output,h4p,two.output,tX.output]
 ·have:=g5.size;omega
 ·intro k hk hn;have n1:k≠mb:=λh=>hn (.inl h)
  have n2:k≠rb:=λh=>hn (.inr (.inl h))
  have n3:aE k≠vS.ownBlock:=λh=>hn (.inr (.inr (.inl h.symm)))
  have n4:aE k≠vR.ownBlock:=λh=>hn (.inr (.inr (.inr (.inl h.symm))))
  have n5:vT.ownBlock≠aE k:=λh=>hn (.inr (.inr (.inr (.inr h))))
  rw[late k (by omega) n1 n2 n5,two.block k (by omega) n3 n4,tX.block k hk]
 ·rintro k (rfl|rfl|e|e|e)
  ·exact .inl (.inl rfl)
  ·exact .inl (.inr (.inl rfl))
  ·rcases two.t1 k e with h|h
   ·exact .inl (.inr (.inr (.inl h)))
   ·exact .inr (by omega)
  ·rcases two.t2 k e with h|h
   ·exact .inl (.inr (.inr (.inr (.inl h))))
   ·exact .inr (by omega)
  ·rcases t5 with h|h
   ·exact .inl (.inr (.inr (.inr (.inr (h▸e)))))
   ·rw[h] at e;injection e with e;exact .inr (by omega)
section
attribute [local go_sem ↓] Go.wp_at_zero Go.wp_at_succ
theorem Ln (w:aY)(mb rb:Nat)(n m q t a p1 p2 gG jS qG c1 c2:Nat)(aS aR aT l1 l2:Option Addr)(tells:ByteArray)(err:Int)(xE:∀o,(w.alloc o).cell? ⟨rb,0,aC⟩=aE (aK (aE ⟨mb,0,aC⟩)))(SO:∀o,(w.alloc o).cell? ⟨rb,5,aC⟩=aE (aJ aT q qG))(Em:∀o,(w.alloc o).cell? ⟨mb,0,aC⟩=aE (aJ aS n gG))(qV:∀o,(w.alloc o).cell? ⟨mb,1,aC⟩=aE (aJ aR m jS))(hn:n<=16)(hm:m<=16)(hq:q<=300)(ht:t<=n)(ha:a<=m)(hcS:n<=gG)(Ti:m<=jS)(hp1:p1<=3)(hp2:p2<=3)(Et:tells.size<=100)(H:Hid (((16<n-t+p1\/16<m-a+p2)->err=7)/\((n-t+p1<=16/\m-a+p2<=16)->err=12/\300<q+tells.size))):
 bH aQ 83 #[aK (aE ⟨rb,0,aC⟩),aH aF t,aH aF a,bM #[aJ l1 p1 c1,aJ l2 p2 c2,aI tells]] w λe w' =>e=aM (aH aF err)/\bA w.heap.size w w' :=by
 have i0:=wi ((n:Int)-(t:Int));have i9:=wi ((m:Int)-(a:Int));have i8:=wi ((q:Int)+(tells.size:Int));have i1:(0:Int)<=(n:Int)-(t:Int):=by omega
 have i2:(n:Int)-(t:Int)<=(gG:Int):=by omega
 have i3:(0:Int)<=(m:Int)-(a:Int):=by omega
 have i4:(m:Int)-(a:Int)<=(jS:Int):=by omega
 go_enter func83,ntmps83;go_wp2;go_region_held3 (λw' =>w'.cell? ⟨mb,0,aC⟩=aE (aJ aS n gG)/\w'.cell? ⟨mb,1,aC⟩=aE (aJ aR m jS)) (go_keep) (fail)
 all_goals go_wp2
 all_goals first
  |(go_ret;exact⟨Oc ((aN H).1 (by omega)).symm,(((bF _ _).alloc (bD _) _).drew)⟩)
  |(go_region_held3 (λw' =>w'.cell? ⟨rb,5,aC⟩=aE (aJ aT q qG)/\w'.cell? ⟨w.heap.size,2,aC⟩=aE (aI tells)) (go_keep) (fail)
    have hb:=(aN H).2 (by omega);have eD:=hb.2;have fF:=bE hb.1;clear hb;go_wp2;go_ret;exact⟨Oc (aN fF).symm,(((bF _ _).alloc (bD _) _).drew).drew⟩)
theorem nE {z:aG}(h:((aQ).info? t).map (λi=>(i.zero,i.size,i.bytes))=aE (aE z,n,b)):∃i,(aQ).info? t=aE i/\i.zero=aE z/\i.size=n/\i.bytes=b:=by
 cases hi:(aQ).info? t with
 |none=>rw[hi] at h;cases h
 |some i=>
  rw[hi] at h;simp only[Option.map_some,aE.injEq,Prod.mk.injEq] at h;exact⟨i,rfl,h.1,h.2.1,h.2.2⟩
theorem aa:∃i,(aQ).info? 3=aE i/\i.zero=aE (aH aF 0)/\i.size=1/\i.bytes=8:=nE (by kernel_rfl)
theorem ig:∃i,(aQ).info? 5=aE i/\i.zero=aE (aH .u8 0)/\i.size=1/\i.bytes=1:=nE (by kernel_rfl)
theorem gX (l:List Int):∀u∈l.map (aH aF),u.oneCell' =aX:=by
 intro u hu;simp only[List.mem_map] at hu;obtain⟨x,_,rfl⟩:=hu;rfl
theorem cY {row:Option Nat}(hg:w.grownBy w' row)(hc:w.cell? ⟨b,j,aC⟩=aE v)(hf:w.frozen? ⟨b,j,aC⟩=aV)(jD:aE b≠row):w'.frozen? ⟨b,j,aC⟩=aV:=
 (hg.frozen_far ⟨b,j,aC⟩ (eG hc) jD).trans hf
variable {u:aG}
theorem cQ {b' j' :Nat}(h:w.cell? ⟨b',j',aC⟩=aE v)(jD:b' ≠b):(w.setCell ⟨b,j,aC⟩ u).cell? ⟨b',j',aC⟩=aE v:=by
 rw[aY.cell?_of_block (w:=w) (bA.heap_setCell _ _ _ _ jD)];exact h
theorem LN {row:Option Nat}(h:lN w v xs)(hg:w.grownBy w' row)(jD:∀k,v.ownBlock=aE k->aE k≠row):lN w' v xs:=
 h.kept hg.size λb e=>hg.block b (h.lt b e) (jD b e)
theorem CN {row:Option Nat}(h:w.ownsRow base e 1 v n xs)(hg:w.grownBy w' row)(jD:∀k,v.ownBlock=aE k->aE k≠row):w'.ownsRow base e 1 v n xs:=
 cK h λb e=>hg.block b (h.lt b e).2 (jD b e)
theorem F8 (w:aY)(mb rb:Nat)(vO vB vW:aG)(n m q t a p1 p2 gG jS qG c1 c2:Nat)(aS aR aT l1 l2:Option Addr)(tells:ByteArray)(s:L.gJ)(lays aside:List Int)(B:Nat)(YB:Hid (eV w mb rb vO vB vW (aJ aS n gG) (aJ aR m jS) (aJ aT q qG) s))(HB:Hid (∀k,kZ mb rb (aJ aS n gG) (aJ aR m jS) (aJ aT q qG) k->k<B))(HL:Hid (lN w (aJ l1 p1 c1) (lays.map (aH aF))/\∀k,(aJ l1 p1 c1).ownBlock=aE k->B<=k))(HA:Hid (lN w (aJ l2 p2 c2) (aside.map (aH aF))/\∀k,(aJ l2 p2 c2).ownBlock=aE k->B<=k))(Hlen:Hid (s.S.length=n/\s.R.length=m/\s.out.length=q/\lays.length=p1/\aside.length=p2))(Hin:Hid ((∀x∈lays,dQ x)/\∀x∈aside,dQ x))(xE:∀o,(w.alloc o).cell? ⟨rb,0,aC⟩=aE (aK (aE ⟨mb,0,aC⟩)))(SO:∀o,(w.alloc o).cell? ⟨rb,5,aC⟩=aE (aJ aT q qG))(Em:∀o,(w.alloc o).cell? ⟨mb,0,aC⟩=aE (aJ aS n gG))(qV:∀o,(w.alloc o).cell? ⟨mb,1,aC⟩=aE (aJ aR m jS))(hn:n<=16)(hm:m<=16)(hq:q<=300)(ht:t<=n)(ha:a<=m)(hcS:n<=gG)(Ti:m<=jS)(hp1:p1<=3)(hp2:p2<=3)(Et:tells.size<=100)(h1:n-t+p1<=16)(h2:m-a+p2<=16)(h3:q+tells.size<=300):
 bH aQ 83 #[aK (aE ⟨rb,0,aC⟩),aH aF t,aH aF a,bM #[aJ l1 p1 c1,aJ l2 p2 c2,aI tells]] w λe w' =>e=aM (aH aF 0)/\
  ∃v1 v2 v3,eV w' mb rb vO vB vW v1 v2 v3 {s with S:=s.S.take (s.S.length-t)++lays,R:=s.R.take (s.R.length-a)++aside,out:=s.out++tells.data.toList}/\Mv (kZ mb rb (aJ aS n gG) (aJ aR m jS) (aJ aT q qG)) w w' /\dG w (kZ mb rb (aJ aS n gG) (aJ aR m jS) (aJ aT q qG)) (kZ mb rb v1 v2 v3):=by
 have i0:=wi ((n:Int)-(t:Int));have i9:=wi ((m:Int)-(a:Int));have i8:=wi ((q:Int)+(tells.size:Int));have i1:(0:Int)<=(n:Int)-(t:Int):=by omega
 have i2:(n:Int)-(t:Int)<=(gG:Int):=by omega
 have i3:(0:Int)<=(m:Int)-(a:Int):=by omega
 have i4:(m:Int)-(a:Int)<=(jS:Int):=by omega
 go_enter func83,ntmps83;go_wp2;go_region_held3 (λw' =>w'.cell? ⟨mb,0,aC⟩=aE (aJ aS n gG)/\w'.cell? ⟨mb,1,aC⟩=aE (aJ aR m jS)) (go_keep) (fail)
 go_wp2;go_region_held3 (λw' =>w'.cell? ⟨rb,5,aC⟩=aE (aJ aT q qG)/\w'.cell? ⟨w.heap.size,2,aC⟩=aE (aI tells)) (go_keep) (fail)
 go_wp2;obtain⟨i3t,hi3,l8,hs3,eW⟩:=aa;have fG:=aN YB;obtain⟨n1,n2,n3,n4,n5⟩:=aN Hlen;have tX:bA w.heap.size w (w.alloc (aU #[aJ l1 p1 c1,aJ l2 p2 c2,aI tells] 157)).drew.drew:=(((bF _ _).alloc (bD _) _).drew).drew;have hE:(w.alloc (aU #[aJ l1 p1 c1,aJ l2 p2 c2,aI tells] 157)).drew.drew.heap[w.heap.size]?=aE (aU #[aJ l1 p1 c1,aJ l2 p2 c2,aI tells] 157):=heap_alloc_new w _;generalize MZ:(w.alloc (aU #[aJ l1 p1 c1,aJ l2 p2 c2,aI tells] 157)).drew.drew=w1 at*;clear MZ;have gI:=fG.below tX;have oS:w1.ownsRow 0 3 1 (aJ aS (n-t) gG) (n-t) ((s.S.map (aH aF)).take (n-t)):=tJ (n1▸gI.st) (n-t) (by omega);have oR:w1.ownsRow 0 3 1 (aJ aR (m-a) jS) (m-a) ((s.R.map (aH aF)).take (m-a)):=tJ (n2▸gI.Fv) (m-a) (by omega);have sL:=(aN HL).1.below tX;have sA:=(aN HA).1.below tX;have mb0:=cq 0 gI.m rfl;have mb1:=cq 1 gI.m rfl;have fz0:=bG 0 gI.m;have fz1:=bG 1 gI.m;have e0:=cq 0 hE rfl;have e1:=cq 1 hE rfl;have DL:w.heap.size≠mb:=by have:=cC fG.m;omega
 have neES:aE w.heap.size≠(aJ aS (n-t) gG).ownBlock:=λe=>by have:=fG.lt w.heap.size (.inl (.inr (.inr (.inl (by rw[pE] at e ⊢;exact e.symm)))));omega
 have neER:aE w.heap.size≠(aJ aR (m-a) jS).ownBlock:=λe=>by have:=fG.lt w.heap.size (.inl (.inr (.inr (.inr (.inl (by rw[pE] at e ⊢;exact e.symm))))));omega
 have YD:aE mb≠(aJ aS (n-t) gG).ownBlock:=λe=>bW oS gI.m (by decide) e.symm
 have YF:aE mb≠(aJ aR (m-a) jS).ownBlock:=λe=>bW oR gI.m (by decide) e.symm
 have neRS:∀k,(aJ aR (m-a) jS).ownBlock=aE k->aE k≠(aJ aS (n-t) gG).ownBlock:=λk e e' =>fG.ap k (by rw[pE] at e' ⊢;exact e'.symm) (by rw[pE] at e ⊢;exact e)
 have neSR:∀k,(aJ aS (n-t) gG).ownBlock=aE k->aE k≠(aJ aR (m-a) jS).ownBlock:=λk e e' =>neRS k e'.symm e.symm
 have neLR:∀k,(aJ l1 p1 c1).ownBlock=aE k->aE k≠(aJ aR (m-a) jS).ownBlock:=λk e e' =>by
  have:=(aN HL).2 k e;have:=aN HB k (.inr (.inr (.inr (.inl (by rw[pE] at e' ⊢;exact e'.symm)))));omega
 have neAS:∀k,(aJ l2 p2 c2).ownBlock=aE k->aE k≠(aJ aS (n-t) gG).ownBlock:=λk e e' =>by
  have:=(aN HA).2 k e;have:=aN HB k (.inr (.inr (.inl (by rw[pE] at e' ⊢;exact e'.symm))));omega
 have wL:n-t+(lays.map (aH aF)).length<=maxLen:=by unfold maxLen;simp;omega
 have mx2:m-a+(aside.map (aH aF)).length<=maxLen:=by unfold maxLen;simp;omega
 have wN:(n-t+(lays.map (aH aF)).length)*8<=140737488355328:=by simp;omega
 have by2:(m-a+(aside.map (aH aF)).length)*8<=140737488355328:=by simp;omega
 have HE:=bE hE;have Hbel:=bE tX;have Hrun1:=bE gI;have N1:=bE n1;have N2:=bE n2;have N3:=bE n3;have N4:=bE n4;have N5:=bE n5;clear hE tX gI fG n1 n2 n3 n4 n5 xE SO Em qV;go_region_held3 (λw' =>w'.cell? ⟨w.heap.size,0,aC⟩=aE (aJ l1 p1 c1)/\w'.cell? ⟨w.heap.size,1,aC⟩=aE (aJ l2 p2 c2)) (first|exact⟨e0,e1⟩|exact⟨cQ e0 DL,cQ e1 DL⟩|exact⟨cQ (cQ e0 DL) DL,cQ (cQ e1 DL) DL⟩|go_keep)
  (first
    |(refine dW _ (by rfl) _ _ _ (by rfl) 3 i3t (aH aF 0) 8 underlying26 hi3 l8 hs3 eW rfl (aJ aS (n-t) gG) (n-t) ((s.S.map (aH aF)).take (n-t)) (by rfl) (by exact oS) (aJ l1 p1 c1) (lays.map (aH aF)) (by rfl) (by exact sL) (gX lays) wL wN ?_
      intro a1 pV w2 o1 g1 t1;have g1:w1.grownBy w2 (aJ aS (n-t) gG).ownBlock:=⟨g1.os,g1.tape,g1.output,g1.size,g1.block⟩
      have e0:=g1.cell e0 neES;have e1:=g1.cell e1 neES;have fz0:=cY g1 mb0 fz0 YD;have fz1:=cY g1 mb1 fz1 YD;have mb0:=g1.cell mb0 YD;have mb1:=g1.cell mb1 YD;have oR:=CN oR g1 neRS;have sA:=LN sA g1 neAS)
    |(refine dW _ (by rfl) _ _ _ (by rfl) 3 i3t (aH aF 0) 8 underlying26 hi3 l8 hs3 eW rfl (aJ aR (m-a) jS) (m-a) ((s.R.map (aH aF)).take (m-a)) (by rfl) (by exact oR) (aJ l2 p2 c2) (aside.map (aH aF)) (by rfl) (by exact sA) (gX aside) mx2 by2 ?_
      intro a2 xO w3 o2 g2 t2;have g2:w2.grownBy w3 (aJ aR (m-a) jS).ownBlock:=⟨g2.os,g2.tape,g2.output,g2.size,g2.block⟩
      have e0:=g2.cell e0 neER;have e1:=g2.cell e1 neER;have fz0:=cY g2 mb0 fz0 YF;have fz1:=cY g2 mb1 fz1 YF;have mb0:=g2.cell mb0 YF;have mb1:=g2.cell mb1 YF))
 clear hi3 l8 hs3 eW oS sL;have bSe:(aJ aS (n-t) gG).ownBlock=(aJ aS n gG).ownBlock:=by rw[pE,pE]
 have bRe:(aJ aR (m-a) jS).ownBlock=(aJ aR m jS).ownBlock:=by rw[pE,pE]
 rw[bSe] at g1 t1;rw[bRe] at g2 t2;simp only[dO] at o1 o2 t1 t2;have gI:=aN Hrun1;have two:=VX g1 g2 o1 o2 t1 t2 (λk e=>gI.lt k (.inl (.inr (.inr (.inr (.inl e)))))) gI.ap;have ltm:=gI.lt mb (.inl (.inl rfl));have ltr:=gI.lt rb (.inl (.inr (.inl rfl)));have nemr:rb≠mb:=fN gI.r gI.m (by decide);have Bz:w3.heap[mb]?=_:=(two.block mb ltm (λe=>bW gI.st gI.m (by decide) e.symm) (λe=>bW gI.Fv gI.m (by decide) e.symm)).trans gI.m;have h4m:=bV (bV Bz 0 (aJ a1 (n-t+lays.length) pV)) 1 (aJ a2 (m-a+aside.length) xO);have h4b:∀k,k≠mb->((w3.setCell ⟨mb,0,aC⟩ (aJ a1 (n-t+lays.length) pV)).setCell ⟨mb,1,aC⟩ (aJ a2 (m-a+aside.length) xO)).heap[k]?=w3.heap[k]?:=λk hk=>(bA.heap_setCell _ _ _ _ hk).trans (bA.heap_setCell _ _ _ _ hk)
 have h4s:((w3.setCell ⟨mb,0,aC⟩ (aJ a1 (n-t+lays.length) pV)).setCell ⟨mb,1,aC⟩ (aJ a2 (m-a+aside.length) xO)).heap.size=w3.heap.size:=by simp[aY.setCell]
 have h4o:((w3.setCell ⟨mb,0,aC⟩ (aJ a1 (n-t+lays.length) pV)).setCell ⟨mb,1,aC⟩ (aJ a2 (m-a+aside.length) xO)).os=w3.os:=rfl;have h4t:((w3.setCell ⟨mb,0,aC⟩ (aJ a1 (n-t+lays.length) pV)).setCell ⟨mb,1,aC⟩ (aJ a2 (m-a+aside.length) xO)).tape=w3.tape:=rfl;have h4p:((w3.setCell ⟨mb,0,aC⟩ (aJ a1 (n-t+lays.length) pV)).setCell ⟨mb,1,aC⟩ (aJ a2 (m-a+aside.length) xO)).output=w3.output:=rfl;generalize((w3.setCell ⟨mb,0,aC⟩ (aJ a1 (n-t+lays.length) pV)).setCell ⟨mb,1,aC⟩ (aJ a2 (m-a+aside.length) xO))=w4 at*;have TC:w4.heap[rb]?=_:=(h4b rb nemr).trans ((two.block rb ltr (λe=>bW gI.st gI.r (by decide) e.symm) (λe=>bW gI.Fv gI.r (by decide) e.symm)).trans gI.r);have hE4:w4.heap[w.heap.size]?=_:=(h4b _ DL).trans ((two.block _ (cC (aN HE)) (bSe▸neES) (bRe▸neER)).trans (aN HE));have oT1:w1.ownsRow 0 5 1 (aJ aT q qG) q (s.out.map uL):=by have:=gI.ot;rw[aN N3] at this;exact this
 have oT:w4.ownsRow 0 5 1 (aJ aT q qG) q (s.out.map uL):=cK oT1 λk e=>(h4b k (λh=>bW gI.ot gI.m (by decide) (h▸e))).trans (two.block k (gI.lt k (.inl (.inr (.inr (.inr (.inr e))))))
  (λe' =>by obtain⟨c1,x1⟩:=cZ gI.st e'.symm;obtain⟨c2,x2⟩:=cZ gI.ot e;exact fN x1 x2 (by decide) rfl)
  (λe' =>by obtain⟨c1,x1⟩:=cZ gI.Fv e'.symm;obtain⟨c2,x2⟩:=cZ gI.ot e;exact fN x1 x2 (by decide) rfl))
 have rb5:=cq 5 TC rfl;have fz5:=bG 5 TC;have e2:=cq 2 hE4 rfl;have neER' :w.heap.size≠rb:=by have:=cC (aN YB).r;omega
 have neET:aE w.heap.size≠(aJ aT q qG).ownBlock:=λe=>by have:=(aN YB).lt w.heap.size (.inl (.inr (.inr (.inr (.inr e.symm)))));omega
 have UZ:aE rb≠(aJ aT q qG).ownBlock:=λe=>bW oT TC (by decide) e.symm
 have Htwo:=bE two;have H4m:=bE h4m;have H4b:=bE h4b;have H4s:=bE h4s;have H4:=bE (bK h4o (bK h4t h4p));have Hr4:=bE TC;clear two h4m h4b h4s h4o h4t h4p TC hE4 gI Bz oT1 o1 o2 g1 g2 t1 t2 e0 e1 fz0 fz1 mb0 mb1 oR sA;obtain⟨i5t,hi5,hz5,hs5,hb5⟩:=ig;go_wp2;go_region_law
  ((refine Mx _ (by rfl) _ _ _ _ (by rfl) 5 i5t underlying65 underlying9 hi5 hz5 hs5 hb5 (aJ aT q qG) q (s.out.map uL) (by rfl) (by exact oT) tells (by rfl) (by unfold maxLen;omega) (by omega) ?_
    intro a3 iG w5 o3 g3 t3;have g3:w4.grownBy w5 (aJ aT q qG).ownBlock:=⟨g3.os,g3.tape,g3.output,g3.size,g3.block⟩
    have e2:=g3.cell e2 neET;have fz5:=cY g3 rb5 fz5 UZ;have rb5:=g3.cell rb5 UZ))
 all_goals
  have hw4:rb<w4.heap.size:=cC (aN Hr4);have SO:w5.heap[rb]?=_:=(g3.block rb hw4 UZ).trans (aN Hr4);have h6r:=bV SO 5 (aJ a3 (q+tells.size) iG);have H6r:=bE h6r;have T3:=bE t3;have G3:=bE g3;have O3:=bE o3;clear h6r SO t3 g3 o3 e2 fz5 rb5;go_wp2;go_ret;obtain rfl:=aN N1;obtain rfl:=aN N2;obtain rfl:=aN N3;obtain rfl:=aN N4;obtain rfl:=aN N5;have hsz:=Lib.size_eq tells;refine⟨rfl,_,_,_,S8 (t:=t) (a:=a) (lays:=lays) (aside:=aside) (tells:=tells.data.toList) (aN YB) (aN Hbel) (aN Htwo) (aN H4).1 (aN H4).2.1 (aN H4).2.2 (aN H4s) (aN H4b) (aN H4m) (aN G3) ?_ (aN T3) rfl rfl rfl (by simp[aY.setCell]) (λk hk=>bA.heap_setCell _ _ _ _ hk) (aN H6r) h1 h2 (by rw[<-hsz];exact h3) (aN Hin).1 (aN Hin).2⟩;rw[<-hsz];exact aN O3
end
theorem eV.EG (h:eV w mb rb vO vB vW vS vR vT s):
 ∃aS gG aR jS aT qG,vS=aJ aS s.S.length gG/\vR=aJ aR s.R.length jS/\vT=aJ aT s.out.length qG/\s.S.length<=gG/\s.R.length<=jS:=by
 obtain⟨aS,gG,e1,l1,_⟩:=cU h.st;obtain⟨aR,jS,e2,l2,_⟩:=cU h.Fv;obtain⟨aT,qG,e3,_,_⟩:=cU h.ot;exact⟨aS,gG,aR,jS,aT,qG,e1,e2,e3,l1,l2⟩
theorem Ah (w:aY)(mb rb:Nat)(vO vB vW vS vR vT vE:aG)(s:L.gJ)(t a B:Nat)(e:L.Eff)(fG:eV w mb rb vO vB vW vS vR vT s)(hB:∀k,kZ mb rb vS vR vT k->k<B)(hE:qX B w vE e.lays e.aside e.tells)(ht:t<=s.S.length)(ha:a<=s.R.length)(Tn:e.lays.length<=3)(sY:e.aside.length<=3)(N8:e.tells.length<=100)(hi1:∀x∈e.lays,dQ x)(SD:∀x∈e.aside,dQ x):
 bH aQ 83 #[aK (aE ⟨rb,0,aC⟩),aH aF t,aH aF a,vE] w λr w' =>r=aM (aH aF (L.jV s t a e).2)/\
  ∃v1 v2 v3,eV w' mb rb vO vB vW v1 v2 v3 (L.jV s t a e).1/\Mv (kZ mb rb vS vR vT) w w' /\dG w (kZ mb rb vS vR vT) (kZ mb rb v1 v2 v3):=by
 obtain⟨vL,vA,rfl,sL,sA,oL,oA⟩:=hE;obtain⟨aL,cL,eL⟩:=sL.len;obtain⟨aA,cA,eA⟩:=sA.len;rw[dO] at eL eA;obtain⟨aS,gG,aR,jS,aT,qG,rfl,rfl,rfl,lS,lR⟩:=fG.EG;subst eL eA;have Et:(⟨e.tells.toArray⟩:ByteArray).size=e.tells.length:=by simp[ByteArray.size]
 have xE:∀o,(w.alloc o).cell? ⟨rb,0,aC⟩=aE (aK (aE ⟨mb,0,aC⟩)):=λo=>bJ (aZ fG.r rfl) o
 have SO:∀o,(w.alloc o).cell? ⟨rb,5,aC⟩=aE (aJ aT s.out.length qG):=λo=>bJ (aZ fG.r rfl) o
 have Em:∀o,(w.alloc o).cell? ⟨mb,0,aC⟩=aE (aJ aS s.S.length gG):=λo=>bJ (aZ fG.m rfl) o
 have qV:∀o,(w.alloc o).cell? ⟨mb,1,aC⟩=aE (aJ aR s.R.length jS):=λo=>bJ (aZ fG.m rfl) o
 by_cases GU:16<s.S.length-t+e.lays.length\/16<s.R.length-a+e.aside.length
 ·have hc:L.jV s t a e=(s,7):=eJ GU;rw[hc];refine(Ln w mb rb _ _ _ t a _ _ gG jS qG cL cA aS aR aT aL aA ⟨e.tells.toArray⟩ 7 xE SO Em qV fG.sl fG.rl fG.ol ht ha lS lR Tn sY (by omega) (bE ⟨λ_=>rfl,λh=>by omega⟩)).mono ?_;rintro r w' ⟨rfl,hb⟩;exact⟨rfl,_,_,_,fG.below hb,Mv.dS hb _,dG.refl _ _⟩
 ·by_cases sE:300<s.out.length+e.tells.length
  ·have hc:L.jV s t a e=(s,12):=(dL GU).trans (eJ sE);rw[hc];refine(Ln w mb rb _ _ _ t a _ _ gG jS qG cL cA aS aR aT aL aA ⟨e.tells.toArray⟩ 12 xE SO Em qV fG.sl fG.rl fG.ol ht ha lS lR Tn sY (by omega) (bE ⟨λh=>(GU h).elim,λ_=>⟨rfl,by omega⟩⟩)).mono ?_;rintro r w' ⟨rfl,hb⟩;exact⟨rfl,_,_,_,fG.below hb,Mv.dS hb _,dG.refl _ _⟩
  ·have hc:L.jV s t a e=({s with S:=s.S.take (s.S.length-t)++e.lays,R:=s.R.take (s.R.length-a)++e.aside,out:=s.out++e.tells},0):=(dL GU).trans (dL sE);rw[hc];refine(F8 w mb rb vO vB vW _ _ _ t a _ _ gG jS qG cL cA aS aR aT aL aA ⟨e.tells.toArray⟩ s e.lays e.aside B (bE fG) (bE hB) (bE ⟨sL,oL⟩) (bE ⟨sA,oA⟩) (bE ⟨rfl,rfl,rfl,rfl,rfl⟩) (bE ⟨hi1,SD⟩) xE SO Em qV fG.sl fG.rl fG.ol ht ha lS lR Tn sY (by omega) (by omega) (by omega) (by omega)).mono ?_;rintro r w' ⟨rfl,v1,v2,v3,h1,h2,h3⟩;exact⟨rfl,v1,v2,v3,by simpa using h1,h2,h3⟩
theorem OC {a a' b b' :Int}(h:a=a')(h2:b=b'):aM (bC #[aH aF a,aH aF b])=aM (bC #[aH aF a',aH aF b']):=by rw[h,h2]
theorem Eh (b:Bool)(w:aY):
 bH aQ 120 #[bB b] w λe w' =>e=aM (aH aF (L.lH b))/\w' =w:=by
 cases b;all_goals
  go_enter func120,ntmps120;go_wp2;go_ret;exact⟨rfl,rfl⟩
theorem BU (x y:Int)(w:aY):
 bH aQ 119 #[aI ⟨#[109,111,100]⟩,aH aF x,aH aF y] w λe w' =>e=aM (bC #[aH aF (L.Mq y (x.tmod y)),aH aF (L.yT y)])/\w' =w:=by
 by_cases h:y=0
 ·subst h;go_enter func119,ntmps119;go_wp2;go_ret2;exact⟨rfl,rfl⟩
 ·have hb:(y==0)=aV:=by rw[beq_eq_false_iff_ne];exact h
  go_enter func119,ntmps119;go_wp2;go_ret2;exact⟨OC (by rw[L.Mq,dL h]) (by rw[L.yT,dL h]),rfl⟩
theorem U2 (x y:Int)(w:aY):
 bH aQ 119 #[aI ⟨#[47]⟩,aH aF x,aH aF y] w λe w' =>e=aM (bC #[aH aF (L.Mq y (wrap64 (x.tdiv y))),aH aF (L.yT y)])/\w' =w:=by
 by_cases h:y=0
 ·subst h;go_enter func119,ntmps119;go_wp2;go_ret2;exact⟨rfl,rfl⟩
 ·have hb:(y==0)=aV:=by rw[beq_eq_false_iff_ne];exact h
  go_enter func119,ntmps119;go_wp2;go_ret2;exact⟨OC (by rw[L.Mq,dL h]) (by rw[L.yT,dL h]),rfl⟩
theorem AW (b o c:Nat)(x y:Int)(w:aY)(h0:w.cell? ⟨b,o,aC⟩=aE (aH aF x))(h1:w.cell? ⟨b,o+1,aC⟩=aE (aH aF y)):
 bH aQ 105 #[aI ⟨#[43]⟩,aJ (aE ⟨b,o,aC⟩) 2 c] w λe w' =>e=aM (bC #[aH aF (wrap64 (x+y)),aH aF 0])/\∃n,w' =w.drewN n:=by
 go_enter func105,ntmps105;go_wp2
 go_quiet (fail)
 go_wp2;go_ret2;exact⟨rfl,_,rfl⟩
theorem T9 (b o c:Nat)(x y:Int)(w:aY)(h0:w.cell? ⟨b,o,aC⟩=aE (aH aF x))(h1:w.cell? ⟨b,o+1,aC⟩=aE (aH aF y)):
 bH aQ 105 #[aI ⟨#[45]⟩,aJ (aE ⟨b,o,aC⟩) 2 c] w λe w' =>e=aM (bC #[aH aF (wrap64 (x-y)),aH aF 0])/\∃n,w' =w.drewN n:=by
 go_enter func105,ntmps105;go_wp2
 go_quiet (fail)
 go_wp2;go_ret2;exact⟨rfl,_,rfl⟩
theorem Z1 (b o c:Nat)(x y:Int)(w:aY)(h0:w.cell? ⟨b,o,aC⟩=aE (aH aF x))(h1:w.cell? ⟨b,o+1,aC⟩=aE (aH aF y)):
 bH aQ 105 #[aI ⟨#[42]⟩,aJ (aE ⟨b,o,aC⟩) 2 c] w λe w' =>e=aM (bC #[aH aF (wrap64 (x*y)),aH aF 0])/\∃n,w' =w.drewN n:=by
 go_enter func105,ntmps105;go_wp2
 go_quiet (fail)
 go_wp2;go_ret2;exact⟨rfl,_,rfl⟩
theorem CC (b o c:Nat)(x y:Int)(w:aY)(h0:w.cell? ⟨b,o,aC⟩=aE (aH aF x))(h1:w.cell? ⟨b,o+1,aC⟩=aE (aH aF y)):
 bH aQ 105 #[aI ⟨#[97,110,100]⟩,aJ (aE ⟨b,o,aC⟩) 2 c] w λe w' =>e=aM (bC #[aH aF (bits .and aF x y),aH aF 0])/\∃n,w' =w.drewN n:=by
 go_enter func105,ntmps105;go_wp2
 go_quiet (fail)
 go_wp2;go_ret2;exact⟨rfl,_,rfl⟩
theorem MD (b o c:Nat)(x y:Int)(w:aY)(h0:w.cell? ⟨b,o,aC⟩=aE (aH aF x))(h1:w.cell? ⟨b,o+1,aC⟩=aE (aH aF y)):
 bH aQ 105 #[aI ⟨#[111,114]⟩,aJ (aE ⟨b,o,aC⟩) 2 c] w λe w' =>e=aM (bC #[aH aF (bits .or aF x y),aH aF 0])/\∃n,w' =w.drewN n:=by
 go_enter func105,ntmps105;go_wp2
 go_quiet (fail)
 go_wp2;go_ret2;exact⟨rfl,_,rfl⟩
theorem W7 (b o c:Nat)(x y:Int)(w:aY)(h0:w.cell? ⟨b,o,aC⟩=aE (aH aF x))(h1:w.cell? ⟨b,o+1,aC⟩=aE (aH aF y)):
 bH aQ 105 #[aI ⟨#[120,111,114]⟩,aJ (aE ⟨b,o,aC⟩) 2 c] w λe w' =>e=aM (bC #[aH aF (bits .xor aF x y),aH aF 0])/\∃n,w' =w.drewN n:=by
 go_enter func105,ntmps105;go_wp2
 go_quiet (fail)
 go_wp2;go_ret2;exact⟨rfl,_,rfl⟩
theorem LR (b o c:Nat)(x y:Int)(w:aY)(h0:w.cell? ⟨b,o,aC⟩=aE (aH aF x))(h1:w.cell? ⟨b,o+1,aC⟩=aE (aH aF y)):
 bH aQ 105 #[aI ⟨#[61]⟩,aJ (aE ⟨b,o,aC⟩) 2 c] w λe w' =>e=aM (bC #[aH aF (L.lH (x==y)),aH aF 0])/\∃n,w' =w.drewN n:=by
 go_enter func105,ntmps105;go_wp2
 go_quiet (fail)
 go_wp2_with fail
 refine(Eh _ _).mono ?_;rintro e w' ⟨rfl,rfl⟩;go_wp2;go_ret2;exact⟨rfl,_,rfl⟩
theorem IB (b o c:Nat)(x y:Int)(w:aY)(h0:w.cell? ⟨b,o,aC⟩=aE (aH aF x))(h1:w.cell? ⟨b,o+1,aC⟩=aE (aH aF y)):
 bH aQ 105 #[aI ⟨#[60]⟩,aJ (aE ⟨b,o,aC⟩) 2 c] w λe w' =>e=aM (bC #[aH aF (L.lH (decide (x<y))),aH aF 0])/\∃n,w' =w.drewN n:=by
 go_enter func105,ntmps105;go_wp2
 go_quiet (fail)
 go_wp2_with fail
 refine(Eh _ _).mono ?_;rintro e w' ⟨rfl,rfl⟩;go_wp2;go_ret2;exact⟨rfl,_,rfl⟩
theorem KO (b o c:Nat)(x y:Int)(w:aY)(h0:w.cell? ⟨b,o,aC⟩=aE (aH aF x))(h1:w.cell? ⟨b,o+1,aC⟩=aE (aH aF y)):
 bH aQ 105 #[aI ⟨#[62]⟩,aJ (aE ⟨b,o,aC⟩) 2 c] w λe w' =>e=aM (bC #[aH aF (L.lH (decide (y<x))),aH aF 0])/\∃n,w' =w.drewN n:=by
 go_enter func105,ntmps105;go_wp2
 go_quiet (fail)
 go_wp2_with fail
 refine(Eh _ _).mono ?_;rintro e w' ⟨rfl,rfl⟩;go_wp2;go_ret2;exact⟨rfl,_,rfl⟩
theorem Qm (b o c:Nat)(x y:Int)(w:aY)(h0:w.cell? ⟨b,o,aC⟩=aE (aH aF x))(h1:w.cell? ⟨b,o+1,aC⟩=aE (aH aF y)):
 bH aQ 105 #[aI ⟨#[109,111,100]⟩,aJ (aE ⟨b,o,aC⟩) 2 c] w λe w' =>e=aM (bC #[aH aF (L.Mq y (x.tmod y)),aH aF (L.yT y)])/\∃n,w' =w.drewN n:=by
 go_enter func105,ntmps105;go_wp2
 go_quiet (fail)
 go_wp2_with fail
 refine(BU x y _).mono ?_;rintro e w' ⟨rfl,rfl⟩;go_wp2;go_ret2;exact⟨rfl,_,rfl⟩
theorem Py (b o c:Nat)(x y:Int)(w:aY)(h0:w.cell? ⟨b,o,aC⟩=aE (aH aF x))(h1:w.cell? ⟨b,o+1,aC⟩=aE (aH aF y)):
 bH aQ 105 #[aI ⟨#[47]⟩,aJ (aE ⟨b,o,aC⟩) 2 c] w λe w' =>e=aM (bC #[aH aF (L.Mq y (wrap64 (x.tdiv y))),aH aF (L.yT y)])/\∃n,w' =w.drewN n:=by
 go_enter func105,ntmps105;go_wp2
 go_quiet (fail)
 go_wp2_with fail
 refine(U2 x y _).mono ?_;rintro e w' ⟨rfl,rfl⟩;go_wp2;go_ret2;exact⟨rfl,_,rfl⟩
theorem CG (b o c:Nat)(x:Int)(w:aY)(h0:w.cell? ⟨b,o,aC⟩=aE (aH aF x)):
 bH aQ 105 #[aI ⟨#[110,111,116]⟩,aJ (aE ⟨b,o,aC⟩) 1 c] w λe w' =>e=aM (bC #[aH aF (L.lH (x==0)),aH aF 0])/\∃n,w' =w.drewN n:=by
 go_enter func105,ntmps105;go_wp2
 go_quiet (fail)
 go_wp2_with fail
 refine(Eh _ _).mono ?_;rintro e w' ⟨rfl,rfl⟩;go_wp2;go_ret2;exact⟨rfl,_,rfl⟩
theorem QJ (b o c:Nat)(d:Int)(V:aG)(x:Int)(w:aY)(h0:w.cell? ⟨b,o,aC⟩=aE (aH aF x)):
 bH aQ 106 #[aI ⟨#[100,117,112]⟩,aJ (aE ⟨b,o,aC⟩) 1 c,V,aH aF d] w λe w' =>∃v,e=aM v/\qX w.heap.size w' v [x,x] [] []/\bA w.heap.size w w' :=by
 have Ru:=aY.new_ne w _ h0;go_enter func106,ntmps106;go_wp2;go_region_held3 (λw' =>w'.cell? ⟨b,o,aC⟩=aE (aH aF x)) (go_keep) (fail)
 all_goals go_wp2
 exact bodyPost_ret (v:=bM #[aJ (aE ⟨w.heap.size+1,0,aC⟩) 2 2,aJ aC 0 0,aI ⟨#[]⟩]) (by simp[results,results106,go_sem]) rfl ⟨_,rfl,⟨_,_,rfl,(vC _ 3 rfl (lF w _ _)),(lN.nil _),(sN (by omega)),kU⟩,(by repeat (first|exact bF _ _|refine bA.drew ?_|refine bA.alloc ?_ (by first|(simp;done)|(simp;omega)) _))⟩
theorem JY (b o c:Nat)(d:Int)(V:aG)(x:Int)(w:aY)(h0:w.cell? ⟨b,o,aC⟩=aE (aH aF x)):
 bH aQ 106 #[aI ⟨#[100,114,111,112]⟩,aJ (aE ⟨b,o,aC⟩) 1 c,V,aH aF d] w λe w' =>∃v,e=aM v/\qX w.heap.size w' v [] [] []/\bA w.heap.size w w' :=by
 have Ru:=aY.new_ne w _ h0;go_enter func106,ntmps106;go_wp2;exact bodyPost_ret (v:=bM #[aJ aC 0 0,aJ aC 0 0,aI ⟨#[]⟩]) (by simp[results,results106,go_sem]) rfl ⟨_,rfl,⟨_,_,rfl,(lN.nil _),(lN.nil _),kU,kU⟩,(by repeat (first|exact bF _ _|refine bA.drew ?_|refine bA.alloc ?_ (by first|(simp;done)|(simp;omega)) _))⟩
theorem MC (b o c:Nat)(d:Int)(V:aG)(x y:Int)(w:aY)(h0:w.cell? ⟨b,o,aC⟩=aE (aH aF x))(h1:w.cell? ⟨b,o+1,aC⟩=aE (aH aF y)):
 bH aQ 106 #[aI ⟨#[115,119,97,112]⟩,aJ (aE ⟨b,o,aC⟩) 2 c,V,aH aF d] w λe w' =>∃v,e=aM v/\qX w.heap.size w' v [y,x] [] []/\bA w.heap.size w w' :=by
 have Ru:=aY.new_ne w _ h0;have EM:=aY.new_ne w _ h1;go_enter func106,ntmps106;go_wp2;go_region_held3 (λw' =>w'.cell? ⟨b,o,aC⟩=aE (aH aF x)/\w'.cell? ⟨b,o+1,aC⟩=aE (aH aF y)) (go_keep) (fail)
 all_goals go_wp2
 exact bodyPost_ret (v:=bM #[aJ (aE ⟨w.heap.size+1,0,aC⟩) 2 2,aJ aC 0 0,aI ⟨#[]⟩]) (by simp[results,results106,go_sem]) rfl ⟨_,rfl,⟨_,_,rfl,(vC _ 3 rfl (lF w _ _)),(lN.nil _),(sN (by omega)),kU⟩,(by repeat (first|exact bF _ _|refine bA.drew ?_|refine bA.alloc ?_ (by first|(simp;done)|(simp;omega)) _))⟩
theorem IP (b o c:Nat)(d:Int)(V:aG)(x y:Int)(w:aY)(h0:w.cell? ⟨b,o,aC⟩=aE (aH aF x))(h1:w.cell? ⟨b,o+1,aC⟩=aE (aH aF y)):
 bH aQ 106 #[aI ⟨#[111,118,101,114]⟩,aJ (aE ⟨b,o,aC⟩) 2 c,V,aH aF d] w λe w' =>∃v,e=aM v/\qX w.heap.size w' v [x,y,x] [] []/\bA w.heap.size w w' :=by
 have Ru:=aY.new_ne w _ h0;have EM:=aY.new_ne w _ h1;go_enter func106,ntmps106;go_wp2;go_region_held3 (λw' =>w'.cell? ⟨b,o,aC⟩=aE (aH aF x)/\w'.cell? ⟨b,o+1,aC⟩=aE (aH aF y)) (go_keep) (fail)
 all_goals go_wp2
 exact bodyPost_ret (v:=bM #[aJ (aE ⟨w.heap.size+1,0,aC⟩) 3 3,aJ aC 0 0,aI ⟨#[]⟩]) (by simp[results,results106,go_sem]) rfl ⟨_,rfl,⟨_,_,rfl,(vC _ 3 rfl (lF w _ _)),(lN.nil _),(sN (by omega)),kU⟩,(by repeat (first|exact bF _ _|refine bA.drew ?_|refine bA.alloc ?_ (by first|(simp;done)|(simp;omega)) _))⟩
theorem OV (b o c:Nat)(d:Int)(V:aG)(x y z:Int)(w:aY)(h0:w.cell? ⟨b,o,aC⟩=aE (aH aF x))(h1:w.cell? ⟨b,o+1,aC⟩=aE (aH aF y))(h2:w.cell? ⟨b,o+2,aC⟩=aE (aH aF z)):
 bH aQ 106 #[aI ⟨#[114,111,116]⟩,aJ (aE ⟨b,o,aC⟩) 3 c,V,aH aF d] w λe w' =>∃v,e=aM v/\qX w.heap.size w' v [y,z,x] [] []/\bA w.heap.size w w' :=by
 have Ru:=aY.new_ne w _ h0;have EM:=aY.new_ne w _ h1;have Mm:=aY.new_ne w _ h2;go_enter func106,ntmps106;go_wp2;go_region_held3 (λw' =>w'.cell? ⟨b,o,aC⟩=aE (aH aF x)/\w'.cell? ⟨b,o+1,aC⟩=aE (aH aF y)/\w'.cell? ⟨b,o+2,aC⟩=aE (aH aF z)) (go_keep) (fail)
 all_goals go_wp2
 exact bodyPost_ret (v:=bM #[aJ (aE ⟨w.heap.size+1,0,aC⟩) 3 3,aJ aC 0 0,aI ⟨#[]⟩]) (by simp[results,results106,go_sem]) rfl ⟨_,rfl,⟨_,_,rfl,(vC _ 3 rfl (lF w _ _)),(lN.nil _),(sN (by omega)),kU⟩,(by repeat (first|exact bF _ _|refine bA.drew ?_|refine bA.alloc ?_ (by first|(simp;done)|(simp;omega)) _))⟩
theorem XC (b o c:Nat)(d:Int)(V:aG)(x:Int)(w:aY)(h0:w.cell? ⟨b,o,aC⟩=aE (aH aF x)):
 bH aQ 106 #[aI ⟨#[62,114]⟩,aJ (aE ⟨b,o,aC⟩) 1 c,V,aH aF d] w λe w' =>∃v,e=aM v/\qX w.heap.size w' v [] [x] []/\bA w.heap.size w w' :=by
 have Ru:=aY.new_ne w _ h0;have ha:=bJ h0;go_enter func106,ntmps106;go_wp2;exact bodyPost_ret (v:=bM #[aJ aC 0 0,aJ (aE ⟨w.heap.size+1,0,aC⟩) 1 1,aI ⟨#[]⟩]) (by simp[results,results106,go_sem]) rfl ⟨_,rfl,⟨_,_,rfl,(lN.nil _),(vC _ 3 rfl (lF w _ _)),kU,(sN (by omega))⟩,(by repeat (first|exact bF _ _|refine bA.drew ?_|refine bA.alloc ?_ (by first|(simp;done)|(simp;omega)) _))⟩
theorem ID (b o c:Nat)(d:Int)(V:aG)(x:Int)(w:aY)(h0:w.cell? ⟨b,o,aC⟩=aE (aH aF x)):
 bH aQ 106 #[aI ⟨#[114,62]⟩,V,aJ (aE ⟨b,o,aC⟩) 1 c,aH aF d] w λe w' =>∃v,e=aM v/\qX w.heap.size w' v [x] [] []/\bA w.heap.size w w' :=by
 have Ru:=aY.new_ne w _ h0;have ha:=bJ h0;go_enter func106,ntmps106;go_wp2;exact bodyPost_ret (v:=bM #[aJ (aE ⟨w.heap.size+1,0,aC⟩) 1 1,aJ aC 0 0,aI ⟨#[]⟩]) (by simp[results,results106,go_sem]) rfl ⟨_,rfl,⟨_,_,rfl,(vC _ 3 rfl (lF w _ _)),(lN.nil _),(sN (by omega)),kU⟩,(by repeat (first|exact bF _ _|refine bA.drew ?_|refine bA.alloc ?_ (by first|(simp;done)|(simp;omega)) _))⟩
theorem JZ (b o c:Nat)(d:Int)(V:aG)(x:Int)(w:aY)(h0:w.cell? ⟨b,o,aC⟩=aE (aH aF x)):
 bH aQ 106 #[aI ⟨#[114,64]⟩,V,aJ (aE ⟨b,o,aC⟩) 1 c,aH aF d] w λe w' =>∃v,e=aM v/\qX w.heap.size w' v [x] [x] []/\bA w.heap.size w w' :=by
 have Ru:=aY.new_ne w _ h0;have EM:w.heap.size+1≠b:=by have:=eG h0;omega
 have Mm:w.heap.size+1+1≠b:=by have:=eG h0;omega
 go_enter func106,ntmps106;go_wp2;go_region_held3 (λw' =>w'.cell? ⟨b,o,aC⟩=aE (aH aF x)) (first|exact bJ (bJ (bJ h0 _) _) _|exact bJ (bJ h0 _) _|exact bJ h0 _|exact h0|go_keep) (fail)
 all_goals go_wp2
 ·exact bodyPost_ret (v:=bM #[aJ (aE ⟨w.heap.size+1,0,aC⟩) 1 1,aJ (aE ⟨w.heap.size+1+1,0,aC⟩) 1 1,aI ⟨#[]⟩]) (by simp[results,results106,go_sem]) rfl ⟨_,rfl,⟨_,_,rfl,(vC _ 3 rfl (Cj w _ _ _)),(vC _ 3 rfl (Qr w _ _ _)),(sN (by omega)),(sN (by omega))⟩,(by repeat (first|exact bF _ _|refine bA.drew ?_|refine bA.alloc ?_ (by first|(simp;done)|(simp;omega)) _))⟩
 ·exact bodyPost_ret (v:=bM #[aJ (aE ⟨w.heap.size+1+1,0,aC⟩) 1 1,aJ (aE ⟨w.heap.size+1,0,aC⟩) 1 1,aI ⟨#[]⟩]) (by simp[results,results106,go_sem]) rfl ⟨_,rfl,⟨_,_,rfl,(vC _ 3 rfl (Qr w _ _ _)),(vC _ 3 rfl (Cj w _ _ _)),(sN (by omega)),(sN (by omega))⟩,(by repeat (first|exact bF _ _|refine bA.drew ?_|refine bA.alloc ?_ (by first|(simp;done)|(simp;omega)) _))⟩
theorem Z9 (d:Int)(V U:aG)(w:aY):
 bH aQ 106 #[aI ⟨#[100,101,112,116,104]⟩,V,U,aH aF d] w λe w' =>∃v,e=aM v/\qX w.heap.size w' v [d] [] []/\bA w.heap.size w w' :=by
 go_enter func106,ntmps106;go_wp2;exact bodyPost_ret (v:=bM #[aJ (aE ⟨w.heap.size+1,0,aC⟩) 1 1,aJ aC 0 0,aI ⟨#[]⟩]) (by simp[results,results106,go_sem]) rfl ⟨_,rfl,⟨_,_,rfl,(vC _ 3 rfl (lF w _ _)),(lN.nil _),(sN (by omega)),kU⟩,(by repeat (first|exact bF _ _|refine bA.drew ?_|refine bA.alloc ?_ (by first|(simp;done)|(simp;omega)) _))⟩
theorem PI (x:Int)(h0:-9223372036854775808<=x)(h1:x<=9223372036854775807):(Lib.itoa x).length<=20:=by
 unfold Lib.itoa
 split
 ·have:=qN x.natAbs (by omega);simp;omega
 ·have:=qN x.toNat (by omega);omega
theorem QY {s s' :ByteArray}{a a' :Int}(h:s=s')(h2:a=a'):aM (bC #[aI s,aH aF a])=aM (bC #[aI s',aH aF a']):=by rw[h,h2]
theorem Y4 (l:List UInt8)(c:UInt8):((⟨l.toArray⟩:ByteArray)++(⟨#[c]⟩:ByteArray))=⟨(l++[c]).toArray⟩:=by
 apply ByteArray.ext;simp
theorem RA (b o c:Nat)(x:Int)(w:aY)(GE:-9223372036854775808<=x)(jt:x<=9223372036854775807)(h0:w.cell? ⟨b,o,aC⟩=aE (aH aF x))(htab:Lib.TabIs aQ w "internal/strconv.uint64pow10" .u64 Lib.pow10Tab):
 bH aQ 107 #[aI ⟨#[46]⟩,aJ (aE ⟨b,o,aC⟩) 1 c] w λe w' =>e=aM (bC #[aI ⟨(Lib.itoa x++[32]).toArray⟩,aH aF 0])/\bA w.heap.size w w' :=by
 have Htab:=bE htab;clear htab;go_enter func107,ntmps107;go_wp2_with fail
 refine(Tryz.strconv_Itoa x GE jt _ (aN Htab)).mono ?_;rintro e w' ⟨rfl,k,os,hw⟩;have hb:bA w.heap.size w w' :=by rw[hw];exact Lib.below_grow _ _ (bD _) _ _
 clear hw;have hlen:(⟨(Lib.itoa x).toArray⟩:ByteArray).size<=20:=by
  have:=PI x GE jt;simpa[ByteArray.size] using this
 generalize hs:(⟨(Lib.itoa x).toArray⟩:ByteArray)=s at*;have Hs:=bE hs;clear hs;go_wp2;go_ret2;exact⟨QY (by rw[<-aN Hs,Y4]) rfl,hb⟩
theorem WP (V:aG)(w:aY):
 bH aQ 107 #[aI ⟨#[99,114]⟩,V] w λe w' =>e=aM (bC #[aI ⟨#[10]⟩,aH aF 0])/\w' =w:=by
 go_enter func107,ntmps107;go_wp2;go_ret2;exact⟨rfl,rfl⟩
theorem Tz (b o c:Nat)(x:Int)(w:aY)(h0:w.cell? ⟨b,o,aC⟩=aE (aH aF x))(hx:x<32\/126<x):
 bH aQ 107 #[aI ⟨#[101,109,105,116]⟩,aJ (aE ⟨b,o,aC⟩) 1 c] w λe w' =>e=aM (bC #[aI ⟨#[]⟩,aH aF 11])/\w' =w:=by
 rcases hx with hx|hx
 all_goals
  go_enter func107,ntmps107;go_wp2;all_goals
   go_ret2;exact⟨rfl,rfl⟩
theorem Yz (x:Int)(h:32<=x)(h2:x<=126):Utf8.encode x=⟨#[UInt8.ofNat x.toNat]⟩:=by
 have hv:Utf8.valid x=aX:=by simp[Utf8.valid];omega
 unfold Utf8.encode;simp only[hv,if_true];rw[eJ (by omega)]
theorem Re (b o c:Nat)(x:Int)(w:aY)(h0:w.cell? ⟨b,o,aC⟩=aE (aH aF x))(hx:32<=x)(jy:x<=126):
 bH aQ 107 #[aI ⟨#[101,109,105,116]⟩,aJ (aE ⟨b,o,aC⟩) 1 c] w λe w' =>e=aM (bC #[aI ⟨#[UInt8.ofNat x.toNat]⟩,aH aF 0])/\w' =w:=by
 go_enter func107,ntmps107;go_wp2;go_ret2;exact⟨QY (Yz x hx jy) rfl,rfl⟩
theorem lB {a:aY}(h:bA B a w):∀n,bA B a (w.drewN n)
 |0=>h
 |n+1=>(lB h n).drew
theorem jF (nm:ByteArray)(t a V d:Int)(vT vA:aG)(w:aY)(H:Hid (∀w1,bA w.heap.size w w1->bH aQ 105 #[aI nm,vT] w1 λe w' =>e=aM (bC #[aH aF V,aH aF 0])/\∃n,w' =w1.drewN n)):
 bH aQ 86 #[bM #[aI nm,aH aF t,aH aF a,aH aF 0],vT,vA,aH aF d] w λe w' =>∃v,e=aM (bC #[v,aH aF 0])/\qX w.heap.size w' v [V] [] []/\bA w.heap.size w w' :=by
 go_enter func86,ntmps86;go_wp2_with fail
 refine(aN H _ (((bF _ _).alloc (bD _) _).alloc (by simp) _)).mono ?_;rintro e w' ⟨rfl,n,rfl⟩;go_wp2;refine bodyPost_ret (v:=bC #[bM #[aJ (aE ⟨w.heap.size+1+1,0,aC⟩) 1 1,aJ aC 0 0,aI ⟨#[]⟩],aH aF 0]) (by simp[results,results86,go_sem]) rfl ⟨_,rfl,⟨_,_,rfl,lY _ _ 3 rfl (by simp[go_sem]),lN.nil _,sN (by omega),kU⟩,?_⟩
 repeat (first|exact bF _ _|refine lB ?_ _|refine bA.drew ?_|refine bA.alloc ?_ (by first|(simp[aY.setCell];done)|(simp[aY.setCell];omega)) _|refine bA.setCell ?_ (by simp;done) _)
theorem Bn (nm:ByteArray)(t a V E d:Int)(vT vA:aG)(w:aY)(hE:(E != 0)=aX)(H:Hid (∀w1,bA w.heap.size w w1->bH aQ 105 #[aI nm,vT] w1 λe w' =>e=aM (bC #[aH aF V,aH aF E])/\∃n,w' =w1.drewN n)):
 bH aQ 86 #[bM #[aI nm,aH aF t,aH aF a,aH aF 0],vT,vA,aH aF d] w λe w' =>∃v,e=aM (bC #[v,aH aF E])/\qX w.heap.size w' v [] [] []/\bA w.heap.size w w' :=by
 go_enter func86,ntmps86;go_wp2_with fail
 refine(aN H _ (((bF _ _).alloc (bD _) _).alloc (by simp) _)).mono ?_;rintro e w' ⟨rfl,n,rfl⟩;go_wp2;refine bodyPost_ret (v:=bC #[bM #[aJ aC 0 0,aJ aC 0 0,aI ⟨#[]⟩],aH aF E]) (by simp[results,results86,go_sem]) rfl ⟨_,rfl,⟨_,_,rfl,lN.nil _,lN.nil _,kU,kU⟩,?_⟩
 repeat (first|exact bF _ _|refine lB ?_ _|refine bA.drew ?_|refine bA.alloc ?_ (by simp) _|refine bA.setCell ?_ (by simp;done) _)
theorem qO (nm:ByteArray)(t a d:Int)(vT vA:aG)(lays aside:List Int)(w:aY)(H:Hid (∀w1,bA w.heap.size w w1->bH aQ 106 #[aI nm,vT,vA,aH aF d] w1 λe w' =>∃v,e=aM v/\qX w1.heap.size w' v lays aside []/\bA w1.heap.size w1 w')):
 bH aQ 86 #[bM #[aI nm,aH aF t,aH aF a,aH aF 1],vT,vA,aH aF d] w λe w' =>∃v,e=aM (bC #[v,aH aF 0])/\qX w.heap.size w' v lays aside []/\bA w.heap.size w w' :=by
 go_enter func86,ntmps86;go_wp2_with fail
 refine(aN H _ (((bF _ _).alloc (bD _) _).alloc (by simp) _)).mono ?_;rintro e w' ⟨v,rfl,⟨vL,pI,rfl,h1,h2,h3,h4⟩,hb⟩;obtain⟨hc,hf⟩:=eI hb;obtain⟨aL,cL,hvL⟩:=h1.len;obtain⟨aA,cA,rE⟩:=h2.len;have hz:=hb.size;simp only[aY.size_alloc] at hz h3 h4;have H1:=bE h1;have H2:=bE h2;have H3:=bE h3;have H4:=bE h4;have Hb:=bE hb;clear h1 h2 h3 h4 hb;subst hvL rE;go_wp2;refine bodyPost_ret (v:=bC #[bM #[aJ aL (lays.map (aH aF)).length cL,aJ aA (aside.map (aH aF)).length cA,aI ⟨#[]⟩],aH aF 0]) (by simp[results,results86,go_sem,hc]) rfl ⟨_,rfl,⟨_,_,rfl,?_,?_,?_,?_⟩,?_⟩
 ·exact(((aN H1).setCell (aN H3) (by simp) _).setCell (aN H3) (by simp) _).setCell (aN H3) (by simp) _
 ·exact(((aN H2).setCell (aN H4) (by simp) _).setCell (aN H4) (by simp) _).setCell (aN H4) (by simp) _
 ·exact λk e=>by have:=aN H3 k e;omega
 ·exact λk e=>by have:=aN H4 k e;omega
 ·exact((((((bF _ _).alloc (bD _) _).alloc (by simp) _).trans ((aN Hb).mono (by simp;omega))).setCell (by simp) _).setCell (by simp) _).setCell (by simp) _
theorem Ec (nm Uz:ByteArray)(t a d E:Int)(vT vA:aG)(w:aY)(H:Hid (∀w1,bA w.heap.size w w1->bH aQ 107 #[aI nm,vT] w1 λe w' =>e=aM (bC #[aI Uz,aH aF E])/\bA w1.heap.size w1 w')):
 bH aQ 86 #[bM #[aI nm,aH aF t,aH aF a,aH aF 2],vT,vA,aH aF d] w λe w' =>∃v,e=aM (bC #[v,aH aF E])/\qX w.heap.size w' v [] [] Uz.data.toList/\bA w.heap.size w w' :=by
 go_enter func86,ntmps86;go_wp2_with fail
 refine(aN H _ (((bF _ _).alloc (bD _) _).alloc (by simp) _)).mono ?_;rintro e w' ⟨rfl,hb⟩;obtain⟨hc,hf⟩:=eI hb;have hz:=hb.size;simp only[aY.size_alloc] at hz;have Hb:=bE hb;clear hb;go_wp2;refine bodyPost_ret (v:=bC #[bM #[aJ aC 0 0,aJ aC 0 0,aI Uz],aH aF E]) (by simp[results,results86,go_sem,hc]) rfl ⟨_,rfl,⟨_,_,rfl,lN.nil _,lN.nil _,kU,kU⟩,?_⟩;exact((((((bF _ _).alloc (bD _) _).alloc (by simp) _).trans ((aN Hb).mono (by simp;omega))).setCell (by simp) _).setCell (by simp) _).setCell (by simp) _
abbrev lW (w:aY):Prop:=Lib.TabIs aQ w "internal/strconv.uint64pow10" .u64 Lib.pow10Tab
theorem eU (h:lW w)(hb:w'.heap[3]?=w.heap[3]?):lW w' :=by
 unfold lW Lib.TabIs aY.var? at h ⊢;have hg:(aQ).globalNamed "internal/strconv.uint64pow10" =aE 3:=by kernel_rfl
 rw[hg] at h ⊢;simp only[Option.bind_some] at h ⊢;rw[hb];exact h
theorem lD (h:lW w):3<w.heap.size:=by
 unfold lW Lib.TabIs aY.var? at h;have hg:(aQ).globalNamed "internal/strconv.uint64pow10" =aE 3:=by kernel_rfl
 rw[hg] at h;simp only[Option.bind_some] at h;rcases Nat.lt_or_ge 3 w.heap.size with h' |h'
 ·exact h'
 ·rw[Array.getElem?_eq_none h'] at h;cases h
theorem uB {T:List Int}(h:lN w v (T.map (aH aF)))(hl:T.length=1):∃b o c x,T=[x]/\v=aJ (aE ⟨b,o,aC⟩) 1 c/\w.cell? ⟨b,o,aC⟩=aE (aH aF x):=by
 match T,hl with
 |[x],_=>
  rcases h with ⟨_,h⟩|⟨b,o,c,rfl,_,hc⟩
  ·cases h
  ·exact⟨b,o,c,x,rfl,rfl,hc 0 _ rfl⟩
theorem pO {T:List Int}(h:lN w v (T.map (aH aF)))(hl:T.length=2):∃b o c x y,T=[x,y]/\v=aJ (aE ⟨b,o,aC⟩) 2 c/\w.cell? ⟨b,o,aC⟩=aE (aH aF x)/\w.cell? ⟨b,o+1,aC⟩=aE (aH aF y):=by
 match T,hl with
 |[x,y],_=>
  rcases h with ⟨_,h⟩|⟨b,o,c,rfl,_,hc⟩
  ·cases h
  ·exact⟨b,o,c,x,y,rfl,rfl,hc 0 _ rfl,hc 1 _ rfl⟩
theorem KI {T:List Int}(h:lN w v (T.map (aH aF)))(hl:T.length=3):∃b o c x y z,T=[x,y,z]/\v=aJ (aE ⟨b,o,aC⟩) 3 c/\w.cell? ⟨b,o,aC⟩=aE (aH aF x)/\w.cell? ⟨b,o+1,aC⟩=aE (aH aF y)/\w.cell? ⟨b,o+2,aC⟩=aE (aH aF z):=by
 match T,hl with
 |[x,y,z],_=>
  rcases h with ⟨_,h⟩|⟨b,o,c,rfl,_,hc⟩
  ·cases h
  ·exact⟨b,o,c,x,y,z,rfl,rfl,hc 0 _ rfl,hc 1 _ rfl,hc 2 _ rfl⟩
theorem dX {o:Nat}(h:w.cell? ⟨b,o,aC⟩=aE v)(hb:bA w.heap.size w w1):w1.cell? ⟨b,o,aC⟩=aE v:=(hb.cell (p:=⟨b,o,aC⟩) (eG h)).trans h
def kG (p:L.Prim) (vT vA:aG) (T A:List Int) (d:Int) (w:aY):Prop:=
 bH aQ 86 #[dD p,vT,vA,aH aF d] w λe w' =>∃v,e=aM (bC #[v,aH aF (L.Dx p.name T A d).err])/\qX w.heap.size w' v (L.Dx p.name T A d).lays (L.Dx p.name T A d).aside (L.Dx p.name T A d).tells/\bA w.heap.size w w'
theorem W3 (d:Int)(w:aY)(vT vA:aG)(T A:List Int)(hT:lN w vT (T.map (aH aF)))(pJ:T.length=2):kG ⟨[43],2,0,0⟩ vT vA T A d w:=by
 obtain⟨b,o,c,x,y,rfl,rfl,h0,h1⟩:=pO hT pJ;exact jF _ _ _ _ d _ _ w (bE λw1 hb=>AW b o c x y w1 (dX h0 hb) (dX h1 hb))
theorem AH (d:Int)(w:aY)(vT vA:aG)(T A:List Int)(hT:lN w vT (T.map (aH aF)))(pJ:T.length=2):kG ⟨[45],2,0,0⟩ vT vA T A d w:=by
 obtain⟨b,o,c,x,y,rfl,rfl,h0,h1⟩:=pO hT pJ;exact jF _ _ _ _ d _ _ w (bE λw1 hb=>T9 b o c x y w1 (dX h0 hb) (dX h1 hb))
theorem BB (d:Int)(w:aY)(vT vA:aG)(T A:List Int)(hT:lN w vT (T.map (aH aF)))(pJ:T.length=2):kG ⟨[42],2,0,0⟩ vT vA T A d w:=by
 obtain⟨b,o,c,x,y,rfl,rfl,h0,h1⟩:=pO hT pJ;exact jF _ _ _ _ d _ _ w (bE λw1 hb=>Z1 b o c x y w1 (dX h0 hb) (dX h1 hb))
theorem CQ (d:Int)(w:aY)(vT vA:aG)(T A:List Int)(hT:lN w vT (T.map (aH aF)))(pJ:T.length=2):kG ⟨[47],2,0,0⟩ vT vA T A d w:=by
 obtain⟨b,o,c,x,y,rfl,rfl,h0,h1⟩:=pO hT pJ;by_cases hy:y=0
 ·subst hy;exact Bn _ _ _ _ 8 d _ _ w rfl (bE λw1 hb=>Py b o c x 0 w1 (dX h0 hb) (dX h1 hb))
 ·have hp:L.Dx [47] [x,y] A d=⟨[wrap64 (x.tdiv y)],[],[],0⟩:=dL hy;have hr:=λw1 (hb:bA w.heap.size w w1)=>Py b o c x y w1 (dX h0 hb) (dX h1 hb)
  simp only[L.Mq,L.yT,dL hy] at hr;unfold kG;rw[show(L.Prim.name ⟨[47],2,0,0⟩)=[47] from rfl,hp];exact jF _ _ _ _ d _ _ w (bE hr)
theorem X3 (d:Int)(w:aY)(vT vA:aG)(T A:List Int)(hT:lN w vT (T.map (aH aF)))(pJ:T.length=2):kG ⟨[109,111,100],2,0,0⟩ vT vA T A d w:=by
 obtain⟨b,o,c,x,y,rfl,rfl,h0,h1⟩:=pO hT pJ;by_cases hy:y=0
 ·subst hy;exact Bn _ _ _ _ 8 d _ _ w rfl (bE λw1 hb=>Qm b o c x 0 w1 (dX h0 hb) (dX h1 hb))
 ·have hp:L.Dx [109,111,100] [x,y] A d=⟨[x.tmod y],[],[],0⟩:=dL hy;have hr:=λw1 (hb:bA w.heap.size w w1)=>Qm b o c x y w1 (dX h0 hb) (dX h1 hb)
  simp only[L.Mq,L.yT,dL hy] at hr;unfold kG;rw[show(L.Prim.name ⟨[109,111,100],2,0,0⟩)=[109,111,100] from rfl,hp];exact jF _ _ _ _ d _ _ w (bE hr)
theorem IL (d:Int)(w:aY)(vT vA:aG)(T A:List Int)(hT:lN w vT (T.map (aH aF)))(pJ:T.length=2):kG ⟨[61],2,0,0⟩ vT vA T A d w:=by
 obtain⟨b,o,c,x,y,rfl,rfl,h0,h1⟩:=pO hT pJ;exact jF _ _ _ _ d _ _ w (bE λw1 hb=>LR b o c x y w1 (dX h0 hb) (dX h1 hb))
theorem KV (d:Int)(w:aY)(vT vA:aG)(T A:List Int)(hT:lN w vT (T.map (aH aF)))(pJ:T.length=2):kG ⟨[60],2,0,0⟩ vT vA T A d w:=by
 obtain⟨b,o,c,x,y,rfl,rfl,h0,h1⟩:=pO hT pJ;exact jF _ _ _ _ d _ _ w (bE λw1 hb=>IB b o c x y w1 (dX h0 hb) (dX h1 hb))
theorem JM (d:Int)(w:aY)(vT vA:aG)(T A:List Int)(hT:lN w vT (T.map (aH aF)))(pJ:T.length=2):kG ⟨[62],2,0,0⟩ vT vA T A d w:=by
 obtain⟨b,o,c,x,y,rfl,rfl,h0,h1⟩:=pO hT pJ;exact jF _ _ _ _ d _ _ w (bE λw1 hb=>KO b o c x y w1 (dX h0 hb) (dX h1 hb))
theorem AQ (d:Int)(w:aY)(vT vA:aG)(T A:List Int)(hT:lN w vT (T.map (aH aF)))(pJ:T.length=2):kG ⟨[97,110,100],2,0,0⟩ vT vA T A d w:=by
 obtain⟨b,o,c,x,y,rfl,rfl,h0,h1⟩:=pO hT pJ;exact jF _ _ _ _ d _ _ w (bE λw1 hb=>CC b o c x y w1 (dX h0 hb) (dX h1 hb))
theorem LC (d:Int)(w:aY)(vT vA:aG)(T A:List Int)(hT:lN w vT (T.map (aH aF)))(pJ:T.length=2):kG ⟨[111,114],2,0,0⟩ vT vA T A d w:=by
 obtain⟨b,o,c,x,y,rfl,rfl,h0,h1⟩:=pO hT pJ;exact jF _ _ _ _ d _ _ w (bE λw1 hb=>MD b o c x y w1 (dX h0 hb) (dX h1 hb))
theorem AG (d:Int)(w:aY)(vT vA:aG)(T A:List Int)(hT:lN w vT (T.map (aH aF)))(pJ:T.length=2):kG ⟨[120,111,114],2,0,0⟩ vT vA T A d w:=by
 obtain⟨b,o,c,x,y,rfl,rfl,h0,h1⟩:=pO hT pJ;exact jF _ _ _ _ d _ _ w (bE λw1 hb=>W7 b o c x y w1 (dX h0 hb) (dX h1 hb))
theorem V5 (d:Int)(w:aY)(vT vA:aG)(T A:List Int)(hT:lN w vT (T.map (aH aF)))(pJ:T.length=1):kG ⟨[110,111,116],1,0,0⟩ vT vA T A d w:=by
 obtain⟨b,o,c,x,rfl,rfl,h0⟩:=uB hT pJ;exact jF _ _ _ _ d _ _ w (bE λw1 hb=>CG b o c x w1 (dX h0 hb))
theorem BJ (d:Int)(w:aY)(vT vA:aG)(T A:List Int)(hT:lN w vT (T.map (aH aF)))(pJ:T.length=1):kG ⟨[100,117,112],1,0,1⟩ vT vA T A d w:=by
 obtain⟨b,o,c,x,rfl,rfl,h0⟩:=uB hT pJ;exact qO _ _ _ d _ _ _ _ w (bE λw1 hb=>QJ b o c d _ x w1 (dX h0 hb))
theorem G8 (d:Int)(w:aY)(vT vA:aG)(T A:List Int)(hT:lN w vT (T.map (aH aF)))(pJ:T.length=1):kG ⟨[100,114,111,112],1,0,1⟩ vT vA T A d w:=by
 obtain⟨b,o,c,x,rfl,rfl,h0⟩:=uB hT pJ;exact qO _ _ _ d _ _ _ _ w (bE λw1 hb=>JY b o c d _ x w1 (dX h0 hb))
theorem JW (d:Int)(w:aY)(vT vA:aG)(T A:List Int)(hT:lN w vT (T.map (aH aF)))(pJ:T.length=1):kG ⟨[62,114],1,0,1⟩ vT vA T A d w:=by
 obtain⟨b,o,c,x,rfl,rfl,h0⟩:=uB hT pJ;exact qO _ _ _ d _ _ _ _ w (bE λw1 hb=>XC b o c d _ x w1 (dX h0 hb))
theorem D2 (d:Int)(w:aY)(vT vA:aG)(T A:List Int)(hT:lN w vT (T.map (aH aF)))(pJ:T.length=2):kG ⟨[115,119,97,112],2,0,1⟩ vT vA T A d w:=by
 obtain⟨b,o,c,x,y,rfl,rfl,h0,h1⟩:=pO hT pJ;exact qO _ _ _ d _ _ _ _ w (bE λw1 hb=>MC b o c d _ x y w1 (dX h0 hb) (dX h1 hb))
theorem B7 (d:Int)(w:aY)(vT vA:aG)(T A:List Int)(hT:lN w vT (T.map (aH aF)))(pJ:T.length=2):kG ⟨[111,118,101,114],2,0,1⟩ vT vA T A d w:=by
 obtain⟨b,o,c,x,y,rfl,rfl,h0,h1⟩:=pO hT pJ;exact qO _ _ _ d _ _ _ _ w (bE λw1 hb=>IP b o c d _ x y w1 (dX h0 hb) (dX h1 hb))
theorem X9 (d:Int)(w:aY)(vT vA:aG)(T A:List Int)(hT:lN w vT (T.map (aH aF)))(pJ:T.length=3):kG ⟨[114,111,116],3,0,1⟩ vT vA T A d w:=by
 obtain⟨b,o,c,x,y,z,rfl,rfl,h0,h1,h2⟩:=KI hT pJ;exact qO _ _ _ d _ _ _ _ w (bE λw1 hb=>OV b o c d _ x y z w1 (dX h0 hb) (dX h1 hb) (dX h2 hb))
theorem B9 (d:Int)(w:aY)(vT vA:aG)(T A:List Int)(hA:lN w vA (A.map (aH aF)))(ay:A.length=1):kG ⟨[114,62],0,1,1⟩ vT vA T A d w:=by
 obtain⟨b,o,c,x,rfl,rfl,h0⟩:=uB hA ay;exact qO _ _ _ d _ _ _ _ w (bE λw1 hb=>ID b o c d _ x w1 (dX h0 hb))
theorem E9 (d:Int)(w:aY)(vT vA:aG)(T A:List Int)(hA:lN w vA (A.map (aH aF)))(ay:A.length=1):kG ⟨[114,64],0,1,1⟩ vT vA T A d w:=by
 obtain⟨b,o,c,x,rfl,rfl,h0⟩:=uB hA ay;exact qO _ _ _ d _ _ _ _ w (bE λw1 hb=>JZ b o c d _ x w1 (dX h0 hb))
theorem Xe (d:Int)(w:aY)(vT vA:aG)(T A:List Int):kG ⟨[100,101,112,116,104],0,0,1⟩ vT vA T A d w:=by
 exact qO _ _ _ d _ _ _ _ w (bE λw1 hb=>Z9 d _ _ w1)
theorem V6 (d:Int)(w:aY)(vT vA:aG)(T A:List Int)(hT:lN w vT (T.map (aH aF)))(pJ:T.length=1)(nM:∀x∈T,dQ x)(htab:lW w):kG ⟨[46],1,0,2⟩ vT vA T A d w:=by
 obtain⟨b,o,c,x,rfl,rfl,h0⟩:=uB hT pJ;have hx:=nM x (by simp);exact Ec _ _ _ _ d _ _ _ w (bE λw1 hb=>RA b o c x w1 hx.1 hx.2 (dX h0 hb) (eU htab (hb.block _ (lD htab))))
theorem B8 (d:Int)(w:aY)(vT vA:aG)(T A:List Int)(hT:lN w vT (T.map (aH aF)))(pJ:T.length=1):kG ⟨[101,109,105,116],1,0,2⟩ vT vA T A d w:=by
 obtain⟨b,o,c,x,rfl,rfl,h0⟩:=uB hT pJ;by_cases hx:x<32\/126<x
 ·have hp:L.Dx [101,109,105,116] [x] A d=⟨[],[],[],11⟩:=eJ hx;unfold kG;rw[show(L.Prim.name ⟨[101,109,105,116],1,0,2⟩)=[101,109,105,116] from rfl,hp];exact Ec _ _ _ _ d _ _ _ w (bE λw1 hb=>(Tz b o c x w1 (dX h0 hb) hx).mono λe w' h=>⟨h.1,h.2▸bF _ _⟩)
 ·have hp:L.Dx [101,109,105,116] [x] A d=⟨[],[],[UInt8.ofNat x.toNat],0⟩:=dL hx;unfold kG;rw[show(L.Prim.name ⟨[101,109,105,116],1,0,2⟩)=[101,109,105,116] from rfl,hp];exact Ec _ _ _ _ d _ _ _ w (bE λw1 hb=>(Re b o c x w1 (dX h0 hb) (by omega) (by omega)).mono λe w' h=>⟨h.1,h.2▸bF _ _⟩)
theorem LM (d:Int)(w:aY)(vT vA:aG)(T A:List Int):kG ⟨[99,114],0,0,2⟩ vT vA T A d w:=by
 exact Ec _ _ _ _ d _ _ _ w (bE λw1 hb=>(WP _ w1).mono λe w' h=>⟨h.1,h.2▸bF _ _⟩)
theorem PO (p:L.Prim)(hp:p∈L.oY)(d:Int)(w:aY)(vT vA:aG)(T A:List Int)(hT:lN w vT (T.map (aH aF)))(pJ:T.length=p.takes)(hA:lN w vA (A.map (aH aF)))(ay:A.length=p.aside)(nM:∀x∈T,dQ x)(htab:lW w):kG p vT vA T A d w:=by
 simp only[L.oY,List.mem_cons,dR,or_false] at hp;rcases hp with rfl|rfl|rfl|rfl|rfl|rfl|rfl|rfl|rfl|rfl|rfl|rfl|rfl|rfl|rfl|rfl|rfl|rfl|rfl|rfl|rfl|rfl|rfl|rfl
 ·exact W3 d w vT vA T A hT pJ
 ·exact AH d w vT vA T A hT pJ
 ·exact BB d w vT vA T A hT pJ
 ·exact CQ d w vT vA T A hT pJ
 ·exact X3 d w vT vA T A hT pJ
 ·exact IL d w vT vA T A hT pJ
 ·exact KV d w vT vA T A hT pJ
 ·exact JM d w vT vA T A hT pJ
 ·exact AQ d w vT vA T A hT pJ
 ·exact LC d w vT vA T A hT pJ
 ·exact AG d w vT vA T A hT pJ
 ·exact V5 d w vT vA T A hT pJ
 ·exact BJ d w vT vA T A hT pJ
 ·exact G8 d w vT vA T A hT pJ
 ·exact JW d w vT vA T A hT pJ
 ·exact D2 d w vT vA T A hT pJ
 ·exact B7 d w vT vA T A hT pJ
 ·exact X9 d w vT vA T A hT pJ
 ·exact B9 d w vT vA T A hA ay
 ·exact E9 d w vT vA T A hA ay
 ·exact Xe d w vT vA T A
 ·exact V6 d w vT vA T A hT pJ nM htab
 ·exact B8 d w vT vA T A hT pJ
 ·exact LM d w vT vA T A
namespace L
def oI (s:gJ):gJ×Int:=if s.steps=1000 then(s,14) else({s with steps:=s.steps+1},0)
end L
theorem Fp (w:aY)(mb rb:Nat)(vO vB vW vS vR vT:aG)(s:L.gJ)(fG:eV w mb rb vO vB vW vS vR vT s)(jT:s.steps<=1000):
 bH aQ 51 #[aK (aE ⟨rb,0,aC⟩)] w λr w' =>r=aM (aH aF (L.oI s).2)/\eV w' mb rb vO vB vW vS vR vT (L.oI s).1/\Mv (kZ mb rb vS vR vT) w w' :=by
 have h3:=cq 3 fG.r rfl;have f3:=bG 3 fG.r;have Hrun:=bE fG;clear fG;by_cases hs:s.steps=1000
 ·have Hc:=bE (show L.oI s=(s,14) from eJ hs);have hb:((s.steps:Int)==1000)=aX:=by rw[beq_iff_eq];omega
  clear hs;go_enter func51,ntmps51;go_wp2;go_ret;rw[aN Hc];exact⟨rfl,aN Hrun,Mv.refl _ _⟩
 ·have Hc:=bE (show L.oI s=({s with steps:=s.steps+1},0) from dL hs);have hb:((s.steps:Int)==1000)=aV:=by rw[beq_eq_false_iff_ne];omega
  clear hs;go_enter func51,ntmps51;go_wp2;go_ret;rw[aN Hc];have hr:=aN Hrun;refine⟨rfl,?_,(Mv.refl _ _).setCell (.inl (.inr (.inl rfl))) _⟩;have eR:=bV hr.r 3 (aH aF ((s.steps:Int)+1));have gZ:∀k,k≠rb->(w.setCell ⟨rb,3,aC⟩ (aH aF ((s.steps:Int)+1))).heap[k]?=w.heap[k]?:=λk hk=>bA.heap_setCell _ _ _ _ hk
  refine⟨(gZ mb (fN hr.m hr.r (by decide))).trans hr.m,eR,?_,?_,?_,?_,hr.ap,hr.sl,hr.rl,hr.ol,hr.wl,hr.si,hr.ri⟩
  ·exact cK hr.st λk e=>gZ k λh=>bW hr.st hr.r (by decide) (h▸e)
  ·exact cK hr.Fv λk e=>gZ k λh=>bW hr.Fv hr.r (by decide) (h▸e)
  ·exact cK hr.ot λk e=>gZ k λh=>bW hr.ot hr.r (by decide) (h▸e)
  ·exact cK hr.wd λk e=>gZ k λh=>bW hr.wd hr.r (by decide) (h▸e)
theorem XA (w:aY)(mb rb:Nat)(vO vB vW vS vR vT:aG)(s:L.gJ)(n:Int)(fG:eV w mb rb vO vB vW vS vR vT s)(hn:dQ n):
 bH aQ 62 #[aK (aE ⟨rb,0,aC⟩),aH aF n] w λr w' =>r=aM (aH aF (L.jV s 0 0 ⟨[n],[],[],0⟩).2)/\
  ∃v1 v2 v3,eV w' mb rb vO vB vW v1 v2 v3 (L.jV s 0 0 ⟨[n],[],[],0⟩).1/\Mv (kZ mb rb vS vR vT) w w' /\dG w (kZ mb rb vS vR vT) (kZ mb rb v1 v2 v3):=by
 have hb:bA w.heap.size w (w.alloc (aU #[aH aF n] 3)):=(bF _ _).alloc (bD _) _;have hc:=Ah (w.alloc (aU #[aH aF n] 3)) mb rb vO vB vW vS vR vT (bM #[aJ (aE ⟨w.heap.size,0,aC⟩) 1 1,aJ aC 0 0,aI ⟨#[]⟩]) s 0 0 w.heap.size ⟨[n],[],[],0⟩ (fG.below hb) (λk hk=>fG.lt k (.inl hk))
  ⟨_,_,rfl,lY w [aH aF n] 3 rfl rfl,lN.nil _,sN (bD _),kU⟩ (bZ _) (bZ _) (by simp) (by simp) (by simp) (by simpa using hn) (by simp)
 have Hc:=bE hc;have Hb:=bE hb;have Hrun:=bE fG;clear hc hb fG hn;generalize L.jV s 0 0 ⟨[n],[],[],0⟩=out at*;go_enter func62,ntmps62;go_wp2_with fail
 refine(aN Hc).mono ?_;rintro e w' ⟨rfl,v1,v2,v3,h1,h2,h3⟩;have H:=bE (bK h1 (bK h2 h3));clear h1 h2 h3;go_wp2;go_ret;refine⟨rfl,v1,v2,v3,(aN H).1,?_,?_⟩
 ·exact(Mv.dS (aN Hb) _).trans (dG.refl _ _) (aN H).2.1
 ·exact(dG.refl _ _).trans (aN Hb).size (aN H).2.2
section
attribute [local go_sem ↓] Go.wp_at_zero Go.wp_at_succ
namespace L
def zD (s:gJ) (p:Prim):gJ×Int:=
 if s.S.length<p.takes\/s.R.length<p.aside then(s,6)
 else if(Dx p.name (s.S.drop (s.S.length-p.takes)) (s.R.drop (s.R.length-p.aside)) s.S.length).err≠0 then(s,(Dx p.name (s.S.drop (s.S.length-p.takes)) (s.R.drop (s.R.length-p.aside)) s.S.length).err)
 else jV s p.takes p.aside (Dx p.name (s.S.drop (s.S.length-p.takes)) (s.R.drop (s.R.length-p.aside)) s.S.length)
end L
theorem gj {b' j' :Nat}{u0 u1 u2:aG}(h:w.cell? ⟨b',j',aC⟩=aE v)(jD:b' ≠b):(((w.setCell ⟨b,0,aC⟩ u0).setCell ⟨b,1,aC⟩ u1).setCell ⟨b,2,aC⟩ u2).cell? ⟨b',j',aC⟩=aE v:=
 cQ (cQ (cQ h jD) jD) jD
theorem yH (w:aY)(nm:ByteArray)(t a g:Int):
 bH aQ 84 #[bM #[aI nm,aH aF t,aH aF a,aH aF g]] w λr w' =>r=aM (bB (g==3))/\bA w.heap.size w w' :=by
 go_enter func84,ntmps84;go_wp2;go_ret;exact⟨rfl,(bF _ _).alloc (bD _) _⟩
theorem Yk (w:aY)(mb rb n m t a gG jS:Nat)(aS aR:Option Addr)(nm:ByteArray)(g:Int)(xE:∀o,(w.alloc o).cell? ⟨rb,0,aC⟩=aE (aK (aE ⟨mb,0,aC⟩)))(Em:∀o,(w.alloc o).cell? ⟨mb,0,aC⟩=aE (aJ aS n gG))(qV:∀o,(w.alloc o).cell? ⟨mb,1,aC⟩=aE (aJ aR m jS))(h:n<t\/m<a):
 bH aQ 63 #[aK (aE ⟨rb,0,aC⟩),bM #[aI nm,aH aF t,aH aF a,aH aF g]] w λr w' =>r=aM (aH aF 6)/\bA w.heap.size w w' :=by
 go_enter func63,ntmps63;go_wp2;go_region_held3 (λw' =>w'.cell? ⟨rb,0,aC⟩=aE (aK (aE ⟨mb,0,aC⟩))/\w'.cell? ⟨mb,0,aC⟩=aE (aJ aS n gG)/\w'.cell? ⟨mb,1,aC⟩=aE (aJ aR m jS)) (first|exact⟨xE _,Em _,qV _⟩|go_keep) (fail)
 go_wp2;all_goals first
  |(exfalso;omega)
  |(go_ret;exact⟨rfl,((bF _ _).alloc (bD _) _).drew⟩)
def F6 (w:aY) (nm:ByteArray) (t a g:Int) (vT vA:aG) (n:Int) (lays aside:List Int) (tells:List UInt8) (E:Int):Prop:=
 ∀w1,bA w.heap.size w w1->bH aQ 86 #[bM #[aI nm,aH aF t,aH aF a,aH aF g],vT,vA,aH aF n] w1 λe w' =>∃v,e=aM (bC #[v,aH aF E])/\qX w1.heap.size w' v lays aside tells/\bA w1.heap.size w1 w'
def QB (w:aY) (rb:Nat) (nm:ByteArray) (t a:Nat) (g:Int) (vT vA:aG) (n:Int) (code:Int) (P:aY->aY->Prop):Prop:=
 (g=3/\∀W,bA w.heap.size w W->bH aQ 85 #[aK (aE ⟨rb,0,aC⟩),bM #[aI nm,aH aF t,aH aF a,aH aF g],vT] W λr w' =>r=aM (aH aF code)/\P W w')\/
 ((g==3)=aV/\(code != 0)=aX/\(∃lays aside tells,F6 w nm t a g vT vA n lays aside tells code)/\∀W,bA w.heap.size w W->P W W)\/
 ((g==3)=aV/\∃lays aside tells,F6 w nm t a g vT vA n lays aside tells 0/\∀W v,bA w.heap.size w W->qX w.heap.size W v lays aside tells->bH aQ 83 #[aK (aE ⟨rb,0,aC⟩),aH aF t,aH aF a,v] W λr w' =>r=aM (aH aF code)/\P W w')
end
namespace L
def wR:List (List UInt8):=[[58],[59],[118,97,114,105,97,98,108,101],[99,111,110,115,116,97,110,116],[109,97,114,107,101,114],[102,111,114,103,101,116],[39],[114,101,99,117,114,115,101],[105,102],[101,108,115,101],[116,104,101,110],[98,101,103,105,110],[117,110,116,105,108],[97,103,97,105,110],[119,104,105,108,101],[114,101,112,101,97,116],[100,111],[108,111,111,112],[105],[108,101,97,118,101],[101,120,105,116]]
def fJ (l:List UInt8):Bool:=wR.any λb=>l==b
end L
namespace L
def isDigit (c:UInt8):Bool:=decide (48<=c.toNat)&&decide (c.toNat<=57)
def kS (l:List UInt8):Nat:=l.foldl (λn c=>n*10+(c.toNat-48)) 0
def number (l:List UInt8):Option Int:=
 if(Lib.trimPrefix l [45]).length=0\/18<(Lib.trimPrefix l [45]).length\/(Lib.trimPrefix l [45]).all isDigit=aV then aC
 else aE (if Lib.hasPrefix l [45] then -(kS (Lib.trimPrefix l [45]):Int) else kS (Lib.trimPrefix l [45]))
theorem Do (l:List UInt8)(c:UInt8):kS (l++[c])=kS l*10+(c.toNat-48):=by simp[kS]
theorem Sv:∀(l:List UInt8) (n:Nat),l.all isDigit=aX->l.foldl (λn c=>n*10+(c.toNat-48)) n<(n+1)*10 ^ l.length
 |[],n,_=>by simp
 |c::l,n,h=>by
  simp only[List.all_cons,Bool.and_eq_true,isDigit,decide_eq_true_eq] at h;have h1:=Sv l (n*10+(c.toNat-48)) h.2;have h2:(n*10+(c.toNat-48)+1)*10 ^ l.length<=((n+1)*10)*10 ^ l.length:=Nat.mul_le_mul_right _ (by omega);rw[List.foldl_cons,cX,Nat.pow_succ,Nat.mul_comm (10 ^ l.length) 10,<-Nat.mul_assoc];omega
theorem tU (l:List UInt8)(h:l.all isDigit=aX):kS l<10 ^ l.length:=by
 have:=Sv l 0 h;simpa[kS] using this
theorem m8 (k:Nat)(h:k<=18):10 ^ k<=1000000000000000000:=cF (Nat.pow_le_pow_right (by omega) h) (by decide)
theorem Si (k:Nat)(h:k<=17):10 ^ k<=100000000000000000:=cF (Nat.pow_le_pow_right (by omega) h) (by decide)
end L
theorem wY {t:Nat}(h:w.ownsRow 0 e 1 (aJ (aE ⟨g,0,aC⟩) n cap) n xs)(hn:n<=cap):
 lN w (aJ (if cap=n-t then(aE ⟨g,0,aC⟩:Option Addr) else aE ⟨g,n-t,aC⟩) (n-(n-t)) (cap-(n-t))) (xs.drop (n-t)):=by
 have hl:xs.length=n:=by simpa using h.1
 have hc:=h.cells (g:=g) rfl;have eQ:=(h.lt g rfl).2;by_cases he:cap=n-t
 ·have h0:xs.drop (n-t)=[]:=List.drop_eq_nil_of_le (by omega);rw[eJ he,h0];exact .inr ⟨g,0,_,by rw[show n-(n-t)=0 by omega];rfl,eQ,λj u hu=>by simp at hu⟩
 ·rw[dL he];refine .inr ⟨g,n-t,_,by rw[List.length_drop,hl],eQ,λj u hu=>?_⟩;rw[List.getElem?_drop] at hu;have:=hc _ u hu;rwa[fE,dC] at this
def Ge (mb rb:Nat) (vO vB vW vS vR vT:aG) (s' :L.gJ) (w w' :aY):Prop:=
 ∃v1 v2 v3,eV w' mb rb vO vB vW v1 v2 v3 s' /\Mv (kZ mb rb vS vR vT) w w' /\dG w (kZ mb rb vS vR vT) (kZ mb rb v1 v2 v3)
theorem Ge.stay (h:eV w mb rb vO vB vW vS vR vT s)(hb:bA w.heap.size w w'):Ge mb rb vO vB vW vS vR vT s w w' :=
 ⟨_,_,_,h.below hb,Mv.dS hb _,dG.refl _ _⟩
theorem Ge.after {s' :L.gJ}(hb:bA w.heap.size w W)(h:Ge mb rb vO vB vW vS vR vT s' W w'):Ge mb rb vO vB vW vS vR vT s' w w' :=by
 obtain⟨v1,v2,v3,h1,h2,h3⟩:=h;exact⟨v1,v2,v3,h1,(Mv.dS hb _).trans (dG.refl _ _) h2,(dG.refl _ _).trans hb.size h3⟩
theorem jB (h:w.ownsRow 0 e 1 v n xs):(v=aJ aC 0 0/\n=0/\xs=[])\/∃g cap,v=aJ (aE ⟨g,0,aC⟩) n cap/\n<=cap:=by
 have hl:=h.1;rcases h.2 with ⟨h1,h2⟩|⟨g,cap,_,h1,_,_,h2,_⟩
 ·exact .inl ⟨h1,h2,dU.1 (by omega)⟩
 ·exact .inr ⟨g,cap,h1,h2⟩
theorem Is {T:List Int}(h:∀x∈T,dQ x)(k:Nat):dQ (T.getD k 0):=by
 rw[List.getD_eq_getElem?_getD];cases hk:T[k]? with
 |none=>exact⟨by simp,by simp⟩
 |some x=>exact h x (cG hk)
namespace L
def DF (s:gJ) (l:List UInt8):gJ×Int:=
 match find l with
 |some p=>zD s p
 |none=>match number l with
  |some n=>jV s 0 0 ⟨[n],[],[],0⟩
  |none=>(s,2)
def stepPlain (s:gJ) (l:List UInt8):gJ×Int:=if(oI s).2≠0 then oI s else DF (oI s).1 l
def YO (s s' :gJ):Prop:=s'.words=s.words/\s'.pos=s.pos/\s'.steps=s.steps/\s'.depth=s.depth
theorem uQ (s:gJ)(t a:Nat)(e:Eff):YO s (jV s t a e).1:=by
 unfold jV
 split
 ·exact⟨rfl,rfl,rfl,rfl⟩
 ·split <;> exact⟨rfl,rfl,rfl,rfl⟩
theorem Mj (s:gJ)(p:Prim):YO s (zD s p).1:=by
 unfold zD
 split
 ·exact⟨rfl,rfl,rfl,rfl⟩
 ·split
  ·exact⟨rfl,rfl,rfl,rfl⟩
  ·exact uQ _ _ _ _
theorem aj (s:gJ)(l:List UInt8):YO s (DF s l).1:=by
 unfold DF
 split
 ·exact Mj _ _
 ·split
  ·exact uQ _ _ _ _
  ·exact⟨rfl,rfl,rfl,rfl⟩
theorem Wp {l:List UInt8}{n:Int}(h:number l=aE n):dQ n:=by
 unfold number at h
 split at h
 ·cases h
 ·rename_i hc
  have hd:(Lib.trimPrefix l [45]).all isDigit=aX:=by
   cases hh:(Lib.trimPrefix l [45]).all isDigit with
   |true=>rfl
   |false=>exact(hc (.inr (.inr hh))).elim
  have h1:=tU _ hd;have h2:=m8 (Lib.trimPrefix l [45]).length (by omega);injection h with h;unfold dQ
  split at h <;> omega
end L
variable {F:Nat->Prop}
theorem QP (h:lW w)(hF:¬F 3)(hm:Mv F w w'):lW w' :=eU h (hm.block _ (lD h) hF)
theorem KW {F' :Nat->Prop}(h:lW w)(hF:¬F 3)(hf:dG w F F'):¬F' 3:=λh' =>by
 rcases hf _ h' with x|x
 ·exact hF x
 ·have:=lD h;omega
theorem Ge.from {s' :L.gJ}(hm:Mv (kZ mb rb vS vR vT) w W)(h:Ge mb rb vO vB vW vS vR vT s' W w'):Ge mb rb vO vB vW vS vR vT s' w w' :=by
 obtain⟨v1,v2,v3,h1,h2,h3⟩:=h;exact⟨v1,v2,v3,h1,hm.trans (dG.refl _ _) h2,(dG.refl _ _).trans hm.size h3⟩
theorem eV.reads {gW iD:Nat}{l:List UInt8}(h:eV w mb rb vO vB (aJ (aE ⟨gW,0,aC⟩) s.words.length iD) vS vR vT s)(hl:s.words[s.pos]?=aE l):
 w.cell? ⟨rb,0,aC⟩=aE (aK (aE ⟨mb,0,aC⟩))/\w.cell? ⟨rb,1,aC⟩=aE (aJ (aE ⟨gW,0,aC⟩) s.words.length iD)/\w.cell? ⟨rb,2,aC⟩=aE (aH aF s.pos)/\w.cell? ⟨gW,s.pos,aC⟩=aE (aI ⟨l.toArray⟩):=by
 refine⟨aZ h.r rfl,aZ h.r rfl,aZ h.r rfl,?_⟩;have hc:=h.wd.cells (g:=gW) rfl s.pos (mQ l) (by rw[cI,hl];rfl);rwa[fE,dC] at hc
section
attribute [local go_sem ↓] Go.wp_at_zero Go.wp_at_succ
theorem IY (w:aY)(mb rb n t gG m a jS:Nat)(nm:ByteArray)(g:Int)(code:Int)(P:aY->aY->Prop)(xE:∀o,(w.alloc o).cell? ⟨rb,0,aC⟩=aE (aK (aE ⟨mb,0,aC⟩)))(Em:∀o,(w.alloc o).cell? ⟨mb,0,aC⟩=aE (aJ aC n gG))(qV:∀o,(w.alloc o).cell? ⟨mb,1,aC⟩=aE (aJ aC m jS))(hn:n<=16)(ht:t<=n)(hcS:n<=gG)(hm:m<=16)(ha:a<=m)(Ti:m<=jS)(HQ:Hid (QB w rb nm t a g (aJ aC (n-(n-t)) (gG-(n-t))) (aJ aC (m-(m-a)) (jS-(m-a))) (n:Int) code P)):
 bH aQ 63 #[aK (aE ⟨rb,0,aC⟩),bM #[aI nm,aH aF t,aH aF a,aH aF g]] w λr w' =>r=aM (aH aF code)/\∃W,bA w.heap.size w W/\P W w' :=by
 have i0:=wi ((n:Int)-(t:Int));have i1:(0:Int)<=(n:Int)-(t:Int):=by omega
 have i2:(n:Int)-(t:Int)<=(n:Int):=by omega
 have j1:(n:Int)<=gG:=by omega
 have i9:=wi ((m:Int)-(a:Int));have i3:(0:Int)<=(m:Int)-(a:Int):=by omega
 have i4:(m:Int)-(a:Int)<=(m:Int):=by omega
 have j2:(m:Int)<=jS:=by omega
 go_enter func63,ntmps63;go_wp2;go_region_held3 (λw' =>w'.cell? ⟨rb,0,aC⟩=aE (aK (aE ⟨mb,0,aC⟩))/\w'.cell? ⟨mb,0,aC⟩=aE (aJ aC n gG)/\w'.cell? ⟨mb,1,aC⟩=aE (aJ aC m jS)) (first|exact⟨xE _,Em _,qV _⟩|go_keep) (fail)
 go_wp2;have fF:bA w.heap.size w (w.alloc (aU #[aI nm,aH aF t,aH aF a,aH aF g] 120)).drew:=((bF _ _).alloc (bD _) _).drew;have hz1:w.heap.size<(w.alloc (aU #[aI nm,aH aF t,aH aF a,aH aF g] 120)).drew.heap.size:=by simp
 have c0:(w.alloc (aU #[aI nm,aH aF t,aH aF a,aH aF g] 120)).drew.cell? ⟨w.heap.size,0,aC⟩=aE (aI nm):=aZ (heap_alloc_new w _) rfl;have c1:(w.alloc (aU #[aI nm,aH aF t,aH aF a,aH aF g] 120)).drew.cell? ⟨w.heap.size,1,aC⟩=aE (aH aF t):=aZ (heap_alloc_new w _) rfl;have c2:(w.alloc (aU #[aI nm,aH aF t,aH aF a,aH aF g] 120)).drew.cell? ⟨w.heap.size,2,aC⟩=aE (aH aF a):=aZ (heap_alloc_new w _) rfl;have c3:(w.alloc (aU #[aI nm,aH aF t,aH aF a,aH aF g] 120)).drew.cell? ⟨w.heap.size,3,aC⟩=aE (aH aF g):=aZ (heap_alloc_new w _) rfl;generalize(w.alloc (aU #[aI nm,aH aF t,aH aF a,aH aF g] 120)).drew=w1 at*;clear xE Em qV;go_region_held3 (λw' =>w'.cell? ⟨w.heap.size,0,aC⟩=aE (aI nm)/\w'.cell? ⟨w.heap.size,1,aC⟩=aE (aH aF t)/\w'.cell? ⟨w.heap.size,2,aC⟩=aE (aH aF a)/\w'.cell? ⟨w.heap.size,3,aC⟩=aE (aH aF g)) (first|exact⟨c0,c1,c2,c3⟩|go_keep) (fail)
 go_wp2_with fail
 refine(yH _ nm t a g).mono ?_;rintro e w2 ⟨rfl,eD⟩;have hz2:=eD.size;have c0:=((eI eD).1 w.heap.size 0 hz1).trans c0;have c1:=((eI eD).1 w.heap.size 1 hz1).trans c1;have c2:=((eI eD).1 w.heap.size 2 hz1).trans c2;have c3:=((eI eD).1 w.heap.size 3 hz1).trans c3;have eD:=fF.drew.trans (eD.mono (cN hz1));have hz2:w.heap.size<w2.heap.size:=eC hz1 hz2;clear fF hz1;rcases aN HQ with ⟨rfl,xG⟩|⟨hg,hc,⟨lays,aside,tells,oD⟩,hP⟩|⟨hg,lays,aside,tells,oD,Ta⟩
 ·have H:=bE (xG w2 eD);have HB:=bE eD;clear xG eD;go_wp2_with fail
  refine(aN H).mono ?_;rintro e w3 ⟨rfl,hP⟩;have HP:=bE hP;clear hP;go_wp2;go_ret;exact⟨rfl,w2,aN HB,aN HP⟩
 ·have DD:=bE hP;clear hP;rw[hg];have H:=bE (oD w2 eD);have HB:=bE eD;clear oD eD hg;go_wp2_with fail
  refine(aN H).mono ?_;rintro e w3 ⟨v,rfl,hE,eW⟩;have l8:=eW.size;have c0:=((eI eW).1 w.heap.size 0 hz2).trans c0;have c1:=((eI eW).1 w.heap.size 1 hz2).trans c1;have c2:=((eI eW).1 w.heap.size 2 hz2).trans c2;have c3:=((eI eW).1 w.heap.size 3 hz2).trans c3;have eW:=(aN HB).trans (eW.mono (cN hz2));obtain⟨vL,vA,rfl,sL,sA,oL,oA⟩:=hE;obtain⟨aL,cL,eL⟩:=sL.len;obtain⟨aA,cA,eA⟩:=sA.len;subst eL eA;simp only[dO] at sL sA oL oA ⊢;have rM:bA w.heap.size w (w3.alloc (aU #[aJ aL lays.length cL,aJ aA aside.length cA,aI ⟨tells.toArray⟩] 157)):=eW.alloc (cF (cN hz2) l8) _;have Es:=bE rM;clear rM eW sL sA oL oA;go_wp2;go_ret;exact⟨rfl,_,aN Es,aN DD _ (aN Es)⟩
 ·have HC:=bE Ta;clear Ta;rw[hg];have H:=bE (oD w2 eD);have HB:=bE eD;clear oD eD hg;go_wp2_with fail
  refine(aN H).mono ?_;rintro e w3 ⟨v,rfl,hE,eW⟩;have l8:=eW.size;have c0:=((eI eW).1 w.heap.size 0 hz2).trans c0;have c1:=((eI eW).1 w.heap.size 1 hz2).trans c1;have c2:=((eI eW).1 w.heap.size 2 hz2).trans c2;have c3:=((eI eW).1 w.heap.size 3 hz2).trans c3;have eW:=(aN HB).trans (eW.mono (cN hz2));obtain⟨vL,vA,rfl,sL,sA,oL,oA⟩:=hE;obtain⟨aL,cL,eL⟩:=sL.len;obtain⟨aA,cA,eA⟩:=sA.len;subst eL eA;simp only[dO] at sL sA oL oA ⊢;have rM:bA w.heap.size w (w3.alloc (aU #[aJ aL lays.length cL,aJ aA aside.length cA,aI ⟨tells.toArray⟩] 157)):=eW.alloc (cF (cN hz2) l8) _;have d1:=bJ c1 (aU #[aJ aL lays.length cL,aJ aA aside.length cA,aI ⟨tells.toArray⟩] 157);have d2:=bJ c2 (aU #[aJ aL lays.length cL,aJ aA aside.length cA,aI ⟨tells.toArray⟩] 157);have e0:(w3.alloc (aU #[aJ aL lays.length cL,aJ aA aside.length cA,aI ⟨tells.toArray⟩] 157)).cell? ⟨w3.heap.size,0,aC⟩=aE (aJ aL lays.length cL):=aZ (heap_alloc_new w3 _) rfl;have e1:(w3.alloc (aU #[aJ aL lays.length cL,aJ aA aside.length cA,aI ⟨tells.toArray⟩] 157)).cell? ⟨w3.heap.size,1,aC⟩=aE (aJ aA aside.length cA):=aZ (heap_alloc_new w3 _) rfl;have e2:(w3.alloc (aU #[aJ aL lays.length cL,aJ aA aside.length cA,aI ⟨tells.toArray⟩] 157)).cell? ⟨w3.heap.size,2,aC⟩=aE (aI ⟨tells.toArray⟩):=aZ (heap_alloc_new w3 _) rfl;have ef:qX w.heap.size (w3.alloc (aU #[aJ aL lays.length cL,aJ aA aside.length cA,aI ⟨tells.toArray⟩] 157)) (bM #[aJ aL lays.length cL,aJ aA aside.length cA,aI ⟨tells.toArray⟩]) lays aside tells:=⟨_,_,rfl,sL.alloc _,sA.alloc _,λk e=>cF (cN hz2) (oL k e),λk e=>cF (cN hz2) (oA k e)⟩
  have H4:=bE (aN HC _ _ rM ef);have Es:=bE rM;clear rM ef eW sL sA oL oA c0 c1 c2 c3;go_wp2_with fail
  refine(aN H4).mono ?_;rintro e w4 ⟨rfl,hP⟩;have DD:=bE hP;clear hP;go_wp2;go_ret;exact⟨rfl,_,aN Es,aN DD⟩
theorem KL (w:aY)(mb rb n t gG m a jS gR:Nat)(nm:ByteArray)(g:Int)(code:Int)(P:aY->aY->Prop)(xE:∀o,(w.alloc o).cell? ⟨rb,0,aC⟩=aE (aK (aE ⟨mb,0,aC⟩)))(Em:∀o,(w.alloc o).cell? ⟨mb,0,aC⟩=aE (aJ aC n gG))(qV:∀o,(w.alloc o).cell? ⟨mb,1,aC⟩=aE (aJ (aE ⟨gR,0,aC⟩) m jS))(hn:n<=16)(ht:t<=n)(hcS:n<=gG)(xR:Option Addr)(hxR:(if jS=m-a then(aE ⟨gR,0,aC⟩:Option Addr) else aE ⟨gR,m-a,aC⟩)=xR)(hm:m<=16)(ha:a<=m)(Ti:m<=jS)(HQ:Hid (QB w rb nm t a g (aJ aC (n-(n-t)) (gG-(n-t))) (aJ xR (m-(m-a)) (jS-(m-a))) (n:Int) code P)):
 bH aQ 63 #[aK (aE ⟨rb,0,aC⟩),bM #[aI nm,aH aF t,aH aF a,aH aF g]] w λr w' =>r=aM (aH aF code)/\∃W,bA w.heap.size w W/\P W w' :=by
 have i0:=wi ((n:Int)-(t:Int));have i1:(0:Int)<=(n:Int)-(t:Int):=by omega
 have i2:(n:Int)-(t:Int)<=(n:Int):=by omega
 have j1:(n:Int)<=gG:=by omega
 have i9:=wi ((m:Int)-(a:Int));have i3:(0:Int)<=(m:Int)-(a:Int):=by omega
 have i4:(m:Int)-(a:Int)<=(m:Int):=by omega
 have j2:(m:Int)<=jS:=by omega
 go_enter func63,ntmps63;go_wp2;go_region_held3 (λw' =>w'.cell? ⟨rb,0,aC⟩=aE (aK (aE ⟨mb,0,aC⟩))/\w'.cell? ⟨mb,0,aC⟩=aE (aJ aC n gG)/\w'.cell? ⟨mb,1,aC⟩=aE (aJ (aE ⟨gR,0,aC⟩) m jS)) (first|exact⟨xE _,Em _,qV _⟩|go_keep) (fail)
 go_wp2;have fF:bA w.heap.size w (w.alloc (aU #[aI nm,aH aF t,aH aF a,aH aF g] 120)).drew:=((bF _ _).alloc (bD _) _).drew;have hz1:w.heap.size<(w.alloc (aU #[aI nm,aH aF t,aH aF a,aH aF g] 120)).drew.heap.size:=by simp
 have c0:(w.alloc (aU #[aI nm,aH aF t,aH aF a,aH aF g] 120)).drew.cell? ⟨w.heap.size,0,aC⟩=aE (aI nm):=aZ (heap_alloc_new w _) rfl;have c1:(w.alloc (aU #[aI nm,aH aF t,aH aF a,aH aF g] 120)).drew.cell? ⟨w.heap.size,1,aC⟩=aE (aH aF t):=aZ (heap_alloc_new w _) rfl;have c2:(w.alloc (aU #[aI nm,aH aF t,aH aF a,aH aF g] 120)).drew.cell? ⟨w.heap.size,2,aC⟩=aE (aH aF a):=aZ (heap_alloc_new w _) rfl;have c3:(w.alloc (aU #[aI nm,aH aF t,aH aF a,aH aF g] 120)).drew.cell? ⟨w.heap.size,3,aC⟩=aE (aH aF g):=aZ (heap_alloc_new w _) rfl;generalize(w.alloc (aU #[aI nm,aH aF t,aH aF a,aH aF g] 120)).drew=w1 at*;clear xE Em qV;go_region_held3 (λw' =>w'.cell? ⟨w.heap.size,0,aC⟩=aE (aI nm)/\w'.cell? ⟨w.heap.size,1,aC⟩=aE (aH aF t)/\w'.cell? ⟨w.heap.size,2,aC⟩=aE (aH aF a)/\w'.cell? ⟨w.heap.size,3,aC⟩=aE (aH aF g)) (first|exact⟨c0,c1,c2,c3⟩|go_keep) (fail)
 go_wp2_with fail
 refine(yH _ nm t a g).mono ?_;rintro e w2 ⟨rfl,eD⟩;have hz2:=eD.size;have c0:=((eI eD).1 w.heap.size 0 hz1).trans c0;have c1:=((eI eD).1 w.heap.size 1 hz1).trans c1;have c2:=((eI eD).1 w.heap.size 2 hz1).trans c2;have c3:=((eI eD).1 w.heap.size 3 hz1).trans c3;have eD:=fF.drew.trans (eD.mono (cN hz1));have hz2:w.heap.size<w2.heap.size:=eC hz1 hz2;clear fF hz1;rcases aN HQ with ⟨rfl,xG⟩|⟨hg,hc,⟨lays,aside,tells,oD⟩,hP⟩|⟨hg,lays,aside,tells,oD,Ta⟩
 ·have H:=bE (xG w2 eD);have HB:=bE eD;clear xG eD;go_wp2_with fail
  refine(aN H).mono ?_;rintro e w3 ⟨rfl,hP⟩;have HP:=bE hP;clear hP;go_wp2;go_ret;exact⟨rfl,w2,aN HB,aN HP⟩
 ·have DD:=bE hP;clear hP;rw[hg];have H:=bE (oD w2 eD);have HB:=bE eD;clear oD eD hg;go_wp2_with fail
  refine(aN H).mono ?_;rintro e w3 ⟨v,rfl,hE,eW⟩;have l8:=eW.size;have c0:=((eI eW).1 w.heap.size 0 hz2).trans c0;have c1:=((eI eW).1 w.heap.size 1 hz2).trans c1;have c2:=((eI eW).1 w.heap.size 2 hz2).trans c2;have c3:=((eI eW).1 w.heap.size 3 hz2).trans c3;have eW:=(aN HB).trans (eW.mono (cN hz2));obtain⟨vL,vA,rfl,sL,sA,oL,oA⟩:=hE;obtain⟨aL,cL,eL⟩:=sL.len;obtain⟨aA,cA,eA⟩:=sA.len;subst eL eA;simp only[dO] at sL sA oL oA ⊢;have rM:bA w.heap.size w (w3.alloc (aU #[aJ aL lays.length cL,aJ aA aside.length cA,aI ⟨tells.toArray⟩] 157)):=eW.alloc (cF (cN hz2) l8) _;have Es:=bE rM;clear rM eW sL sA oL oA;go_wp2;go_ret;exact⟨rfl,_,aN Es,aN DD _ (aN Es)⟩
 ·have HC:=bE Ta;clear Ta;rw[hg];have H:=bE (oD w2 eD);have HB:=bE eD;clear oD eD hg;go_wp2_with fail
  refine(aN H).mono ?_;rintro e w3 ⟨v,rfl,hE,eW⟩;have l8:=eW.size;have c0:=((eI eW).1 w.heap.size 0 hz2).trans c0;have c1:=((eI eW).1 w.heap.size 1 hz2).trans c1;have c2:=((eI eW).1 w.heap.size 2 hz2).trans c2;have c3:=((eI eW).1 w.heap.size 3 hz2).trans c3;have eW:=(aN HB).trans (eW.mono (cN hz2));obtain⟨vL,vA,rfl,sL,sA,oL,oA⟩:=hE;obtain⟨aL,cL,eL⟩:=sL.len;obtain⟨aA,cA,eA⟩:=sA.len;subst eL eA;simp only[dO] at sL sA oL oA ⊢;have rM:bA w.heap.size w (w3.alloc (aU #[aJ aL lays.length cL,aJ aA aside.length cA,aI ⟨tells.toArray⟩] 157)):=eW.alloc (cF (cN hz2) l8) _;have d1:=bJ c1 (aU #[aJ aL lays.length cL,aJ aA aside.length cA,aI ⟨tells.toArray⟩] 157);have d2:=bJ c2 (aU #[aJ aL lays.length cL,aJ aA aside.length cA,aI ⟨tells.toArray⟩] 157);have e0:(w3.alloc (aU #[aJ aL lays.length cL,aJ aA aside.length cA,aI ⟨tells.toArray⟩] 157)).cell? ⟨w3.heap.size,0,aC⟩=aE (aJ aL lays.length cL):=aZ (heap_alloc_new w3 _) rfl;have e1:(w3.alloc (aU #[aJ aL lays.length cL,aJ aA aside.length cA,aI ⟨tells.toArray⟩] 157)).cell? ⟨w3.heap.size,1,aC⟩=aE (aJ aA aside.length cA):=aZ (heap_alloc_new w3 _) rfl;have e2:(w3.alloc (aU #[aJ aL lays.length cL,aJ aA aside.length cA,aI ⟨tells.toArray⟩] 157)).cell? ⟨w3.heap.size,2,aC⟩=aE (aI ⟨tells.toArray⟩):=aZ (heap_alloc_new w3 _) rfl;have ef:qX w.heap.size (w3.alloc (aU #[aJ aL lays.length cL,aJ aA aside.length cA,aI ⟨tells.toArray⟩] 157)) (bM #[aJ aL lays.length cL,aJ aA aside.length cA,aI ⟨tells.toArray⟩]) lays aside tells:=⟨_,_,rfl,sL.alloc _,sA.alloc _,λk e=>cF (cN hz2) (oL k e),λk e=>cF (cN hz2) (oA k e)⟩
  have H4:=bE (aN HC _ _ rM ef);have Es:=bE rM;clear rM ef eW sL sA oL oA c0 c1 c2 c3;go_wp2_with fail
  refine(aN H4).mono ?_;rintro e w4 ⟨rfl,hP⟩;have DD:=bE hP;clear hP;go_wp2;go_ret;exact⟨rfl,_,aN Es,aN DD⟩
theorem LZ (w:aY)(mb rb n t gG gS m a jS:Nat)(nm:ByteArray)(g:Int)(code:Int)(P:aY->aY->Prop)(xE:∀o,(w.alloc o).cell? ⟨rb,0,aC⟩=aE (aK (aE ⟨mb,0,aC⟩)))(Em:∀o,(w.alloc o).cell? ⟨mb,0,aC⟩=aE (aJ (aE ⟨gS,0,aC⟩) n gG))(qV:∀o,(w.alloc o).cell? ⟨mb,1,aC⟩=aE (aJ aC m jS))(xS:Option Addr)(hxS:(if gG=n-t then(aE ⟨gS,0,aC⟩:Option Addr) else aE ⟨gS,n-t,aC⟩)=xS)(hn:n<=16)(ht:t<=n)(hcS:n<=gG)(hm:m<=16)(ha:a<=m)(Ti:m<=jS)(HQ:Hid (QB w rb nm t a g (aJ xS (n-(n-t)) (gG-(n-t))) (aJ aC (m-(m-a)) (jS-(m-a))) (n:Int) code P)):
 bH aQ 63 #[aK (aE ⟨rb,0,aC⟩),bM #[aI nm,aH aF t,aH aF a,aH aF g]] w λr w' =>r=aM (aH aF code)/\∃W,bA w.heap.size w W/\P W w' :=by
 have i0:=wi ((n:Int)-(t:Int));have i1:(0:Int)<=(n:Int)-(t:Int):=by omega
 have i2:(n:Int)-(t:Int)<=(n:Int):=by omega
 have j1:(n:Int)<=gG:=by omega
 have i9:=wi ((m:Int)-(a:Int));have i3:(0:Int)<=(m:Int)-(a:Int):=by omega
 have i4:(m:Int)-(a:Int)<=(m:Int):=by omega
 have j2:(m:Int)<=jS:=by omega
 go_enter func63,ntmps63;go_wp2;go_region_held3 (λw' =>w'.cell? ⟨rb,0,aC⟩=aE (aK (aE ⟨mb,0,aC⟩))/\w'.cell? ⟨mb,0,aC⟩=aE (aJ (aE ⟨gS,0,aC⟩) n gG)/\w'.cell? ⟨mb,1,aC⟩=aE (aJ aC m jS)) (first|exact⟨xE _,Em _,qV _⟩|go_keep) (fail)
 go_wp2;have fF:bA w.heap.size w (w.alloc (aU #[aI nm,aH aF t,aH aF a,aH aF g] 120)).drew:=((bF _ _).alloc (bD _) _).drew;have hz1:w.heap.size<(w.alloc (aU #[aI nm,aH aF t,aH aF a,aH aF g] 120)).drew.heap.size:=by simp
 have c0:(w.alloc (aU #[aI nm,aH aF t,aH aF a,aH aF g] 120)).drew.cell? ⟨w.heap.size,0,aC⟩=aE (aI nm):=aZ (heap_alloc_new w _) rfl;have c1:(w.alloc (aU #[aI nm,aH aF t,aH aF a,aH aF g] 120)).drew.cell? ⟨w.heap.size,1,aC⟩=aE (aH aF t):=aZ (heap_alloc_new w _) rfl;have c2:(w.alloc (aU #[aI nm,aH aF t,aH aF a,aH aF g] 120)).drew.cell? ⟨w.heap.size,2,aC⟩=aE (aH aF a):=aZ (heap_alloc_new w _) rfl;have c3:(w.alloc (aU #[aI nm,aH aF t,aH aF a,aH aF g] 120)).drew.cell? ⟨w.heap.size,3,aC⟩=aE (aH aF g):=aZ (heap_alloc_new w _) rfl;generalize(w.alloc (aU #[aI nm,aH aF t,aH aF a,aH aF g] 120)).drew=w1 at*;clear xE Em qV;go_region_held3 (λw' =>w'.cell? ⟨w.heap.size,0,aC⟩=aE (aI nm)/\w'.cell? ⟨w.heap.size,1,aC⟩=aE (aH aF t)/\w'.cell? ⟨w.heap.size,2,aC⟩=aE (aH aF a)/\w'.cell? ⟨w.heap.size,3,aC⟩=aE (aH aF g)) (first|exact⟨c0,c1,c2,c3⟩|go_keep) (fail)
 go_wp2_with fail
 refine(yH _ nm t a g).mono ?_;rintro e w2 ⟨rfl,eD⟩;have hz2:=eD.size;have c0:=((eI eD).1 w.heap.size 0 hz1).trans c0;have c1:=((eI eD).1 w.heap.size 1 hz1).trans c1;have c2:=((eI eD).1 w.heap.size 2 hz1).trans c2;have c3:=((eI eD).1 w.heap.size 3 hz1).trans c3;have eD:=fF.drew.trans (eD.mono (cN hz1));have hz2:w.heap.size<w2.heap.size:=eC hz1 hz2;clear fF hz1;rcases aN HQ with ⟨rfl,xG⟩|⟨hg,hc,⟨lays,aside,tells,oD⟩,hP⟩|⟨hg,lays,aside,tells,oD,Ta⟩
 ·have H:=bE (xG w2 eD);have HB:=bE eD;clear xG eD;go_wp2_with fail
  refine(aN H).mono ?_;rintro e w3 ⟨rfl,hP⟩;have HP:=bE hP;clear hP;go_wp2;go_ret;exact⟨rfl,w2,aN HB,aN HP⟩
 ·have DD:=bE hP;clear hP;rw[hg];have H:=bE (oD w2 eD);have HB:=bE eD;clear oD eD hg;go_wp2_with fail
  refine(aN H).mono ?_;rintro e w3 ⟨v,rfl,hE,eW⟩;have l8:=eW.size;have c0:=((eI eW).1 w.heap.size 0 hz2).trans c0;have c1:=((eI eW).1 w.heap.size 1 hz2).trans c1;have c2:=((eI eW).1 w.heap.size 2 hz2).trans c2;have c3:=((eI eW).1 w.heap.size 3 hz2).trans c3;have eW:=(aN HB).trans (eW.mono (cN hz2));obtain⟨vL,vA,rfl,sL,sA,oL,oA⟩:=hE;obtain⟨aL,cL,eL⟩:=sL.len;obtain⟨aA,cA,eA⟩:=sA.len;subst eL eA;simp only[dO] at sL sA oL oA ⊢;have rM:bA w.heap.size w (w3.alloc (aU #[aJ aL lays.length cL,aJ aA aside.length cA,aI ⟨tells.toArray⟩] 157)):=eW.alloc (cF (cN hz2) l8) _;have Es:=bE rM;clear rM eW sL sA oL oA;go_wp2;go_ret;exact⟨rfl,_,aN Es,aN DD _ (aN Es)⟩
 ·have HC:=bE Ta;clear Ta;rw[hg];have H:=bE (oD w2 eD);have HB:=bE eD;clear oD eD hg;go_wp2_with fail
  refine(aN H).mono ?_;rintro e w3 ⟨v,rfl,hE,eW⟩;have l8:=eW.size;have c0:=((eI eW).1 w.heap.size 0 hz2).trans c0;have c1:=((eI eW).1 w.heap.size 1 hz2).trans c1;have c2:=((eI eW).1 w.heap.size 2 hz2).trans c2;have c3:=((eI eW).1 w.heap.size 3 hz2).trans c3;have eW:=(aN HB).trans (eW.mono (cN hz2));obtain⟨vL,vA,rfl,sL,sA,oL,oA⟩:=hE;obtain⟨aL,cL,eL⟩:=sL.len;obtain⟨aA,cA,eA⟩:=sA.len;subst eL eA;simp only[dO] at sL sA oL oA ⊢;have rM:bA w.heap.size w (w3.alloc (aU #[aJ aL lays.length cL,aJ aA aside.length cA,aI ⟨tells.toArray⟩] 157)):=eW.alloc (cF (cN hz2) l8) _;have d1:=bJ c1 (aU #[aJ aL lays.length cL,aJ aA aside.length cA,aI ⟨tells.toArray⟩] 157);have d2:=bJ c2 (aU #[aJ aL lays.length cL,aJ aA aside.length cA,aI ⟨tells.toArray⟩] 157);have e0:(w3.alloc (aU #[aJ aL lays.length cL,aJ aA aside.length cA,aI ⟨tells.toArray⟩] 157)).cell? ⟨w3.heap.size,0,aC⟩=aE (aJ aL lays.length cL):=aZ (heap_alloc_new w3 _) rfl;have e1:(w3.alloc (aU #[aJ aL lays.length cL,aJ aA aside.length cA,aI ⟨tells.toArray⟩] 157)).cell? ⟨w3.heap.size,1,aC⟩=aE (aJ aA aside.length cA):=aZ (heap_alloc_new w3 _) rfl;have e2:(w3.alloc (aU #[aJ aL lays.length cL,aJ aA aside.length cA,aI ⟨tells.toArray⟩] 157)).cell? ⟨w3.heap.size,2,aC⟩=aE (aI ⟨tells.toArray⟩):=aZ (heap_alloc_new w3 _) rfl;have ef:qX w.heap.size (w3.alloc (aU #[aJ aL lays.length cL,aJ aA aside.length cA,aI ⟨tells.toArray⟩] 157)) (bM #[aJ aL lays.length cL,aJ aA aside.length cA,aI ⟨tells.toArray⟩]) lays aside tells:=⟨_,_,rfl,sL.alloc _,sA.alloc _,λk e=>cF (cN hz2) (oL k e),λk e=>cF (cN hz2) (oA k e)⟩
  have H4:=bE (aN HC _ _ rM ef);have Es:=bE rM;clear rM ef eW sL sA oL oA c0 c1 c2 c3;go_wp2_with fail
  refine(aN H4).mono ?_;rintro e w4 ⟨rfl,hP⟩;have DD:=bE hP;clear hP;go_wp2;go_ret;exact⟨rfl,_,aN Es,aN DD⟩
theorem LX (w:aY)(mb rb n t gG gS m a jS gR:Nat)(nm:ByteArray)(g:Int)(code:Int)(P:aY->aY->Prop)(xE:∀o,(w.alloc o).cell? ⟨rb,0,aC⟩=aE (aK (aE ⟨mb,0,aC⟩)))(Em:∀o,(w.alloc o).cell? ⟨mb,0,aC⟩=aE (aJ (aE ⟨gS,0,aC⟩) n gG))(qV:∀o,(w.alloc o).cell? ⟨mb,1,aC⟩=aE (aJ (aE ⟨gR,0,aC⟩) m jS))(xS:Option Addr)(hxS:(if gG=n-t then(aE ⟨gS,0,aC⟩:Option Addr) else aE ⟨gS,n-t,aC⟩)=xS)(hn:n<=16)(ht:t<=n)(hcS:n<=gG)(xR:Option Addr)(hxR:(if jS=m-a then(aE ⟨gR,0,aC⟩:Option Addr) else aE ⟨gR,m-a,aC⟩)=xR)(hm:m<=16)(ha:a<=m)(Ti:m<=jS)(HQ:Hid (QB w rb nm t a g (aJ xS (n-(n-t)) (gG-(n-t))) (aJ xR (m-(m-a)) (jS-(m-a))) (n:Int) code P)):
 bH aQ 63 #[aK (aE ⟨rb,0,aC⟩),bM #[aI nm,aH aF t,aH aF a,aH aF g]] w λr w' =>r=aM (aH aF code)/\∃W,bA w.heap.size w W/\P W w' :=by
 have i0:=wi ((n:Int)-(t:Int));have i1:(0:Int)<=(n:Int)-(t:Int):=by omega
 have i2:(n:Int)-(t:Int)<=(n:Int):=by omega
 have j1:(n:Int)<=gG:=by omega
 have i9:=wi ((m:Int)-(a:Int));have i3:(0:Int)<=(m:Int)-(a:Int):=by omega
 have i4:(m:Int)-(a:Int)<=(m:Int):=by omega
 have j2:(m:Int)<=jS:=by omega
 go_enter func63,ntmps63;go_wp2;go_region_held3 (λw' =>w'.cell? ⟨rb,0,aC⟩=aE (aK (aE ⟨mb,0,aC⟩))/\w'.cell? ⟨mb,0,aC⟩=aE (aJ (aE ⟨gS,0,aC⟩) n gG)/\w'.cell? ⟨mb,1,aC⟩=aE (aJ (aE ⟨gR,0,aC⟩) m jS)) (first|exact⟨xE _,Em _,qV _⟩|go_keep) (fail)
 go_wp2;have fF:bA w.heap.size w (w.alloc (aU #[aI nm,aH aF t,aH aF a,aH aF g] 120)).drew:=((bF _ _).alloc (bD _) _).drew;have hz1:w.heap.size<(w.alloc (aU #[aI nm,aH aF t,aH aF a,aH aF g] 120)).drew.heap.size:=by simp
 have c0:(w.alloc (aU #[aI nm,aH aF t,aH aF a,aH aF g] 120)).drew.cell? ⟨w.heap.size,0,aC⟩=aE (aI nm):=aZ (heap_alloc_new w _) rfl;have c1:(w.alloc (aU #[aI nm,aH aF t,aH aF a,aH aF g] 120)).drew.cell? ⟨w.heap.size,1,aC⟩=aE (aH aF t):=aZ (heap_alloc_new w _) rfl;have c2:(w.alloc (aU #[aI nm,aH aF t,aH aF a,aH aF g] 120)).drew.cell? ⟨w.heap.size,2,aC⟩=aE (aH aF a):=aZ (heap_alloc_new w _) rfl;have c3:(w.alloc (aU #[aI nm,aH aF t,aH aF a,aH aF g] 120)).drew.cell? ⟨w.heap.size,3,aC⟩=aE (aH aF g):=aZ (heap_alloc_new w _) rfl;generalize(w.alloc (aU #[aI nm,aH aF t,aH aF a,aH aF g] 120)).drew=w1 at*;clear xE Em qV;go_region_held3 (λw' =>w'.cell? ⟨w.heap.size,0,aC⟩=aE (aI nm)/\w'.cell? ⟨w.heap.size,1,aC⟩=aE (aH aF t)/\w'.cell? ⟨w.heap.size,2,aC⟩=aE (aH aF a)/\w'.cell? ⟨w.heap.size,3,aC⟩=aE (aH aF g)) (first|exact⟨c0,c1,c2,c3⟩|go_keep) (fail)
 go_wp2_with fail
 refine(yH _ nm t a g).mono ?_;rintro e w2 ⟨rfl,eD⟩;have hz2:=eD.size;have c0:=((eI eD).1 w.heap.size 0 hz1).trans c0;have c1:=((eI eD).1 w.heap.size 1 hz1).trans c1;have c2:=((eI eD).1 w.heap.size 2 hz1).trans c2;have c3:=((eI eD).1 w.heap.size 3 hz1).trans c3;have eD:=fF.drew.trans (eD.mono (cN hz1));have hz2:w.heap.size<w2.heap.size:=eC hz1 hz2;clear fF hz1;rcases aN HQ with ⟨rfl,xG⟩|⟨hg,hc,⟨lays,aside,tells,oD⟩,hP⟩|⟨hg,lays,aside,tells,oD,Ta⟩
 ·have H:=bE (xG w2 eD);have HB:=bE eD;clear xG eD;go_wp2_with fail
  refine(aN H).mono ?_;rintro e w3 ⟨rfl,hP⟩;have HP:=bE hP;clear hP;go_wp2;go_ret;exact⟨rfl,w2,aN HB,aN HP⟩
 ·have DD:=bE hP;clear hP;rw[hg];have H:=bE (oD w2 eD);have HB:=bE eD;clear oD eD hg;go_wp2_with fail
  refine(aN H).mono ?_;rintro e w3 ⟨v,rfl,hE,eW⟩;have l8:=eW.size;have c0:=((eI eW).1 w.heap.size 0 hz2).trans c0;have c1:=((eI eW).1 w.heap.size 1 hz2).trans c1;have c2:=((eI eW).1 w.heap.size 2 hz2).trans c2;have c3:=((eI eW).1 w.heap.size 3 hz2).trans c3;have eW:=(aN HB).trans (eW.mono (cN hz2));obtain⟨vL,vA,rfl,sL,sA,oL,oA⟩:=hE;obtain⟨aL,cL,eL⟩:=sL.len;obtain⟨aA,cA,eA⟩:=sA.len;subst eL eA;simp only[dO] at sL sA oL oA ⊢;have rM:bA w.heap.size w (w3.alloc (aU #[aJ aL lays.length cL,aJ aA aside.length cA,aI ⟨tells.toArray⟩] 157)):=eW.alloc (cF (cN hz2) l8) _;have Es:=bE rM;clear rM eW sL sA oL oA;go_wp2;go_ret;exact⟨rfl,_,aN Es,aN DD _ (aN Es)⟩
 ·have HC:=bE Ta;clear Ta;rw[hg];have H:=bE (oD w2 eD);have HB:=bE eD;clear oD eD hg;go_wp2_with fail
  refine(aN H).mono ?_;rintro e w3 ⟨v,rfl,hE,eW⟩;have l8:=eW.size;have c0:=((eI eW).1 w.heap.size 0 hz2).trans c0;have c1:=((eI eW).1 w.heap.size 1 hz2).trans c1;have c2:=((eI eW).1 w.heap.size 2 hz2).trans c2;have c3:=((eI eW).1 w.heap.size 3 hz2).trans c3;have eW:=(aN HB).trans (eW.mono (cN hz2));obtain⟨vL,vA,rfl,sL,sA,oL,oA⟩:=hE;obtain⟨aL,cL,eL⟩:=sL.len;obtain⟨aA,cA,eA⟩:=sA.len;subst eL eA;simp only[dO] at sL sA oL oA ⊢;have rM:bA w.heap.size w (w3.alloc (aU #[aJ aL lays.length cL,aJ aA aside.length cA,aI ⟨tells.toArray⟩] 157)):=eW.alloc (cF (cN hz2) l8) _;have d1:=bJ c1 (aU #[aJ aL lays.length cL,aJ aA aside.length cA,aI ⟨tells.toArray⟩] 157);have d2:=bJ c2 (aU #[aJ aL lays.length cL,aJ aA aside.length cA,aI ⟨tells.toArray⟩] 157);have e0:(w3.alloc (aU #[aJ aL lays.length cL,aJ aA aside.length cA,aI ⟨tells.toArray⟩] 157)).cell? ⟨w3.heap.size,0,aC⟩=aE (aJ aL lays.length cL):=aZ (heap_alloc_new w3 _) rfl;have e1:(w3.alloc (aU #[aJ aL lays.length cL,aJ aA aside.length cA,aI ⟨tells.toArray⟩] 157)).cell? ⟨w3.heap.size,1,aC⟩=aE (aJ aA aside.length cA):=aZ (heap_alloc_new w3 _) rfl;have e2:(w3.alloc (aU #[aJ aL lays.length cL,aJ aA aside.length cA,aI ⟨tells.toArray⟩] 157)).cell? ⟨w3.heap.size,2,aC⟩=aE (aI ⟨tells.toArray⟩):=aZ (heap_alloc_new w3 _) rfl;have ef:qX w.heap.size (w3.alloc (aU #[aJ aL lays.length cL,aJ aA aside.length cA,aI ⟨tells.toArray⟩] 157)) (bM #[aJ aL lays.length cL,aJ aA aside.length cA,aI ⟨tells.toArray⟩]) lays aside tells:=⟨_,_,rfl,sL.alloc _,sA.alloc _,λk e=>cF (cN hz2) (oL k e),λk e=>cF (cN hz2) (oA k e)⟩
  have H4:=bE (aN HC _ _ rM ef);have Es:=bE rM;clear rM ef eW sL sA oL oA c0 c1 c2 c3;go_wp2_with fail
  refine(aN H4).mono ?_;rintro e w4 ⟨rfl,hP⟩;have DD:=bE hP;clear hP;go_wp2;go_ret;exact⟨rfl,_,aN Es,aN DD⟩
end
theorem Hj (x:Int):dQ (wrap64 x):=by unfold dQ wrap64;omega
theorem Nz (o:BinOp)(x y:Int):dQ (bits o aF x y):=by
 unfold bits;rw[IntKind.wrap_i64];unfold dQ;omega
theorem Ib (b:Bool):dQ (L.lH b):=by unfold L.lH dQ;split <;> omega
theorem FN {x:Int}(h:dQ x)(y:Int):dQ (x.tmod y):=by
 have h1:(x.tmod y).natAbs<=x.natAbs:=by rw[Int.natAbs_tmod];exact Nat.mod_le _ _
 unfold dQ at*;by_cases hx:0<=x
 ·have:=Int.tmod_nonneg y hx;omega
 ·have h2:=Int.tmod_nonneg y (show 0<=-x by omega);rw[Int.neg_tmod] at h2;omega
theorem tR (x:Int)(h0:-9223372036854775808<=x)(h1:x<=9223372036854775807):(Lib.itoa x).length<=20:=by
 unfold Lib.itoa
 split
 ·have:=qN x.natAbs (by omega);simp;omega
 ·have:=qN x.toNat (by omega);omega
def It (e:L.Eff):Prop:=e.lays.length<=3/\e.aside.length<=3/\e.tells.length<=100/\(∀x∈e.lays,dQ x)/\(∀x∈e.aside,dQ x)
theorem X8 {c:Prop}[Decidable c]{a b:L.Eff}(h1:It a)(h2:It b):It (if c then a else b):=by split <;> assumption
theorem G7 (n:List UInt8)(x y z a d:Int)(hx:dQ x)(hy:dQ y)(hz:dQ z)(ha:dQ a)(hd:dQ d):It (L.j6 n x y z a d):=by
 have hl:=tR x hx.1 hx.2;unfold L.j6
 repeat' (refine X8 ?_ ?_)
 all_goals
  refine⟨by simp,by simp,?_,?_,?_⟩
  ·first
    |(simp;done)
    |(simp;omega)
  ·simp only[List.mem_cons,dR,or_false,forall_eq_or_imp,forall_eq,false_implies,implies_true];try first
    |exact Hj _
    |exact Nz _ _ _
    |exact Ib _
    |exact FN hx _
    |assumption
    |exact⟨by assumption,by assumption⟩
    |exact⟨by assumption,by assumption,by assumption⟩
  ·simp only[List.mem_cons,dR,or_false,forall_eq,false_implies,implies_true];try assumption
theorem Hq {t:Nat}(hn:n=0)(hx:xs=[]):lN w (aJ aC (n-(n-t)) (0-(n-t))) xs:=by
 subst hn hx;rw[show 0-(0-t)=0 by omega];exact lN.nil w
theorem uI (w:aY)(mb rb:Nat)(vO vB vW vS vR vT:aG)(s:L.gJ)(nm:ByteArray)(t a:Nat)(g:Int)(code:Int)(P:aY->aY->Prop)(fG:eV w mb rb vO vB vW vS vR vT s)(ht:t<=s.S.length)(ha:a<=s.R.length)(H:∀FY pI,lN w FY ((s.S.drop (s.S.length-t)).map (aH aF))->lN w pI ((s.R.drop (s.R.length-a)).map (aH aF))->QB w rb nm t a g FY pI (s.S.length:Int) code P):
 bH aQ 63 #[aK (aE ⟨rb,0,aC⟩),bM #[aI nm,aH aF t,aH aF a,aH aF g]] w λr w' =>r=aM (aH aF code)/\∃W,bA w.heap.size w W/\P W w' :=by
 have xE:∀o,(w.alloc o).cell? ⟨rb,0,aC⟩=aE (aK (aE ⟨mb,0,aC⟩)):=λo=>bJ (aZ fG.r rfl) o
 have Em:∀o,(w.alloc o).cell? ⟨mb,0,aC⟩=aE vS:=λo=>bJ (aZ fG.m rfl) o
 have qV:∀o,(w.alloc o).cell? ⟨mb,1,aC⟩=aE vR:=λo=>bJ (aZ fG.m rfl) o
 have jT:=fG.st;have has:=fG.Fv;rcases jB jT with ⟨rfl,n0,_⟩|⟨gS,gG,rfl,lS⟩ <;> rcases jB has with ⟨rfl,m0,_⟩|⟨gR,jS,rfl,lR⟩
 ·exact IY w mb rb s.S.length t 0 s.R.length a 0 nm g code P xE (by rw[n0];exact Em) (by rw[m0];exact qV) fG.sl ht (by omega) fG.rl ha (by omega) (bE (H _ _ (Hq n0 (by rw[dU.1 n0];simp)) (Hq m0 (by rw[dU.1 m0];simp))))
 ·have h2:=wY (t:=a) has lR;rw[<-List.map_drop] at h2;exact KL w mb rb s.S.length t 0 s.R.length a jS gR nm g code P xE (by rw[n0];exact Em) qV fG.sl ht (by omega) _ rfl fG.rl ha lR (bE (H _ _ (Hq n0 (by rw[dU.1 n0];simp)) h2))
 ·have h1:=wY (t:=t) jT lS;rw[<-List.map_drop] at h1;exact LZ w mb rb s.S.length t gG gS s.R.length a 0 nm g code P xE Em (by rw[m0];exact qV) _ rfl fG.sl ht lS fG.rl ha (by omega) (bE (H _ _ h1 (Hq m0 (by rw[dU.1 m0];simp))))
 ·have h1:=wY (t:=t) jT lS;have h2:=wY (t:=a) has lR;rw[<-List.map_drop] at h1 h2;exact LX w mb rb s.S.length t gG gS s.R.length a jS gR nm g code P xE Em qV _ rfl fG.sl ht lS _ rfl fG.rl ha lR (bE (H _ _ h1 h2))
theorem Ap (w:aY)(mb rb:Nat)(vO vB vW vS vR vT:aG)(s:L.gJ)(nm:ByteArray)(t a:Nat)(g:Int)(fG:eV w mb rb vO vB vW vS vR vT s)(hu:s.S.length<t\/s.R.length<a):
 bH aQ 63 #[aK (aE ⟨rb,0,aC⟩),bM #[aI nm,aH aF t,aH aF a,aH aF g]] w λr w' =>r=aM (aH aF 6)/\bA w.heap.size w w' :=by
 have xE:∀o,(w.alloc o).cell? ⟨rb,0,aC⟩=aE (aK (aE ⟨mb,0,aC⟩)):=λo=>bJ (aZ fG.r rfl) o
 have Em:∀o,(w.alloc o).cell? ⟨mb,0,aC⟩=aE vS:=λo=>bJ (aZ fG.m rfl) o
 have qV:∀o,(w.alloc o).cell? ⟨mb,1,aC⟩=aE vR:=λo=>bJ (aZ fG.m rfl) o
 obtain⟨aS,gG,aR,jS,aT,qG,rfl,rfl,rfl,lS,lR⟩:=fG.EG;exact Yk w mb rb _ _ t a gG jS aS aR nm g xE Em qV hu
theorem IZ (p:L.Prim)(hp:p∈L.oY):((p.group:Int)==3)=aV:=by
 simp only[L.oY,List.mem_cons,dR,or_false] at hp;rcases hp with rfl|rfl|rfl|rfl|rfl|rfl|rfl|rfl|rfl|rfl|rfl|rfl|rfl|rfl|rfl|rfl|rfl|rfl|rfl|rfl|rfl|rfl|rfl|rfl <;> rfl
theorem CE (w:aY)(mb rb:Nat)(vO vB vW vS vR vT:aG)(s:L.gJ)(p:L.Prim)(hp:p∈L.oY)(fG:eV w mb rb vO vB vW vS vR vT s)(htab:lW w):
 bH aQ 63 #[aK (aE ⟨rb,0,aC⟩),dD p] w λr w' =>r=aM (aH aF (L.zD s p).2)/\Ge mb rb vO vB vW vS vR vT (L.zD s p).1 w w' :=by
 by_cases hu:s.S.length<p.takes\/s.R.length<p.aside
 ·have hd:L.zD s p=(s,6):=eJ hu;rw[hd];exact(Ap w mb rb vO vB vW vS vR vT s ⟨p.name.toArray⟩ p.takes p.aside p.group fG hu).mono λr w' h=>⟨h.1,Ge.stay fG h.2⟩
 ·have ht:p.takes<=s.S.length:=by omega
  have ha:p.aside<=s.R.length:=by omega
  have YX:∀x∈s.S.drop (s.S.length-p.takes),dQ x:=λx hx=>fG.si x (List.mem_of_mem_drop hx)
  have hAin:∀x∈s.R.drop (s.R.length-p.aside),dQ x:=λx hx=>fG.ri x (List.mem_of_mem_drop hx)
  have pJ:(s.S.drop (s.S.length-p.takes)).length=p.takes:=by rw[List.length_drop];omega
  have ay:(s.R.drop (s.R.length-p.aside)).length=p.aside:=by rw[List.length_drop];omega
  have UR:It (L.Dx p.name (s.S.drop (s.S.length-p.takes)) (s.R.drop (s.R.length-p.aside)) s.S.length):=
   G7 _ _ _ _ _ _ (Is YX 0) (Is YX 1) (Is YX 2) (Is hAin 0) ⟨by omega,by have:=fG.sl;omega⟩
  have oD:∀FY pI,lN w FY ((s.S.drop (s.S.length-p.takes)).map (aH aF))->lN w pI ((s.R.drop (s.R.length-p.aside)).map (aH aF))->∀w1,bA w.heap.size w w1->kG p FY pI (s.S.drop (s.S.length-p.takes)) (s.R.drop (s.R.length-p.aside)) s.S.length w1:=
   λFY pI h1 h2 w1 hb=>PO p hp _ w1 FY pI _ _ (h1.below hb) pJ (h2.below hb) ay YX (eU htab (hb.block _ (lD htab)))
  have Cd:L.zD s p=if(L.Dx p.name (s.S.drop (s.S.length-p.takes)) (s.R.drop (s.R.length-p.aside)) s.S.length).err≠0 then(s,(L.Dx p.name (s.S.drop (s.S.length-p.takes)) (s.R.drop (s.R.length-p.aside)) s.S.length).err)
   else L.jV s p.takes p.aside (L.Dx p.name (s.S.drop (s.S.length-p.takes)) (s.R.drop (s.R.length-p.aside)) s.S.length):=dL hu
  unfold kG at oD;generalize L.Dx p.name (s.S.drop (s.S.length-p.takes)) (s.R.drop (s.R.length-p.aside)) s.S.length=e at*;have Nr:=IZ p hp;by_cases he:e.err≠0
  ·have heb:(e.err != 0)=aX:=by rw[bne_iff_ne];exact he
   rw[Cd,eJ he];refine(uI w mb rb vO vB vW vS vR vT s ⟨p.name.toArray⟩ p.takes p.aside p.group e.err (λW w' =>w' =W) fG ht ha λFY pI h1 h2=>.inr (.inl ⟨Nr,heb,⟨e.lays,e.aside,e.tells,λw1 hb=>oD FY pI h1 h2 w1 hb⟩,λ_ _=>rfl⟩)).mono ?_;rintro r w' ⟨rfl,W,hb,rfl⟩;exact⟨rfl,Ge.stay fG hb⟩
  ·have YS:e.err=0:=by simpa using he
   rw[Cd,dL he];refine(uI w mb rb vO vB vW vS vR vT s ⟨p.name.toArray⟩ p.takes p.aside p.group (L.jV s p.takes p.aside e).2 (λW w' =>Ge mb rb vO vB vW vS vR vT (L.jV s p.takes p.aside e).1 W w') fG ht ha λFY pI h1 h2=>.inr (.inr ⟨Nr,e.lays,e.aside,e.tells,λw1 hb=>?_,λW v hb hE=>?_⟩)).mono ?_
   ·have:=oD FY pI h1 h2 w1 hb;rw[YS] at this;exact this
   ·exact Ah W mb rb vO vB vW vS vR vT v s p.takes p.aside w.heap.size e (fG.below hb) (λk hk=>fG.lt k (.inl hk)) hE ht ha UR.1 UR.2.1 UR.2.2.1 UR.2.2.2.1 UR.2.2.2.2
   ·rintro r w' ⟨rfl,W,hb,hg⟩;exact⟨rfl,Ge.after hb hg⟩
namespace L
def qM (r:Nat):Bool:=r==32||r==9||r==10||r==13
def blank (c:UInt8):Bool:=qM c.toNat
def iZ:List UInt8->List UInt8->List (List UInt8)
 |[],cur=>if cur.isEmpty then[] else[cur]
 |c::t,cur=>if blank c then(if cur.isEmpty then iZ t [] else cur::iZ t []) else iZ t (cur++[c])
def split (l:List UInt8):List (List UInt8):=iZ l []
theorem Mr:∀(a:List UInt8) (t cur:List UInt8),(∀c∈a,blank c=aV)->iZ (a++t) cur=iZ t (cur++a)
 |[],t,cur,_=>by simp
 |c::a,t,cur,h=>by
  rw[List.cons_append,iZ,if_neg (by rw[h c (by simp)];simp),Mr a t _ (λx hx=>h x (by simp[hx]))];simp
theorem l5 (n b0 b1 b2 b3:Nat)(h0:¬b0<128):qM (Lib.decodeN n b0 b1 b2 b3).1=aV/\
 ((Lib.decodeN n b0 b1 b2 b3).2=1\/((Lib.decodeN n b0 b1 b2 b3).2=2/\1<n/\128<=b1)\/((Lib.decodeN n b0 b1 b2 b3).2=3/\2<n/\128<=b1/\128<=b2)\/((Lib.decodeN n b0 b1 b2 b3).2=4/\3<n/\128<=b1/\128<=b2/\128<=b3)):=by
 unfold Lib.decodeN;rw[if_neg h0]
 repeat' split
 all_goals
  refine⟨?_,?_⟩
  ·simp only[qM,Bool.or_eq_false_iff,beq_eq_false_iff_ne];omega
  ·first
    |exact .inl rfl
    |exact .inr (.inl ⟨rfl,by omega,by omega⟩)
    |exact .inr (.inr (.inl ⟨rfl,by omega,by omega,by omega⟩))
    |exact .inr (.inr (.inr ⟨rfl,by omega,by omega,by omega,by omega⟩))
theorem MN {c:UInt8}(h:128<=c.toNat):blank c=aV:=by
 simp only[blank,qM,Bool.or_eq_false_iff,beq_eq_false_iff_ne];omega
theorem Vb (l:List UInt8)(pos w:Nat):l.drop pos=(l.drop pos).take w++l.drop (pos+w):=by
 rw[<-List.drop_drop,List.take_append_drop]
variable {pos:Nat}
theorem getD_take {l:List UInt8}{w:Nat}{c:UInt8}(hc:c∈(l.drop pos).take w):∃j,j<w/\c=l.getD (pos+j) 0:=by
 obtain⟨j,hj,rfl⟩:=List.mem_iff_getElem.1 hc;have R1:j<w/\pos+j<l.length:=by simp at hj;omega
 refine⟨j,R1.1,?_⟩;rw[List.getD_eq_getElem?_getD,bL R1.2];simp
theorem YC (s:ByteArray)(pos:Nat)(h:pos<s.size):
 1<=(Utf8.decode s pos).2/\pos+(Utf8.decode s pos).2<=s.data.toList.length/\
 ((qM (Utf8.decode s pos).1=aX/\(Utf8.decode s pos).2=1/\blank (s.data.toList.getD pos 0)=aX)\/
  (qM (Utf8.decode s pos).1=aV/\∀c∈(s.data.toList.drop pos).take (Utf8.decode s pos).2,blank c=aV)):=by
 have hsz:s.size=s.data.toList.length:=Lib.size_eq s;rw[Lib.decode_N];generalize s.data.toList=l at*;by_cases h0:(l.getD pos 0).toNat<128
 ·rw[Lib.decodeN_ascii _ _ _ _ _ h0];refine⟨bD _,by simp only;omega,?_⟩;by_cases hb:blank (l.getD pos 0)=aX
  ·exact .inl ⟨hb,rfl,hb⟩
  ·refine .inr ⟨by simpa[blank] using hb,λc hc=>?_⟩;obtain⟨j,hj,rfl⟩:=getD_take hc;obtain rfl:j=0:=by simp only at hj;omega
   simpa using hb
 ·obtain⟨h1,h2⟩:=l5 (l.length-pos) (l.getD pos 0).toNat (l.getD (pos+1) 0).toNat (l.getD (pos+2) 0).toNat (l.getD (pos+3) 0).toNat h0;refine⟨by omega,by omega,.inr ⟨h1,λc hc=>?_⟩⟩;obtain⟨j,hj,rfl⟩:=getD_take hc;apply MN;have hj4:j=0\/j=1\/j=2\/j=3:=by omega
  rcases hj4 with rfl|rfl|rfl|rfl
  ·simp only[Nat.add_zero];omega
  ·omega
  ·omega
  ·omega
def cut (l:List UInt8) (x:Nat×Nat):List UInt8:=(l.take x.2).drop x.1
def nL (l:List UInt8) (st:Option Nat) (pos:Nat):List UInt8:=match st with|none=>[]|some a=>cut l (a,pos)
theorem Wo (s:ByteArray)(f pos:Nat)(st:Option Nat)(acc:List (Nat×Nat))(hp:pos<=s.size)(eQ:¬pos<s.size)(jT:∀a,st=aE a->a<pos):
 (Lib.closeSpans s (Lib.spansFromP qM s f pos st acc)).map (cut s.data.toList)=acc.map (cut s.data.toList)++iZ (s.data.toList.drop pos) (nL s.data.toList st pos):=by
 rw[Lib.spansFromP_end _ _ _ _ _ _ eQ];have hsz:s.size=s.data.toList.length:=Lib.size_eq s;have hpe:pos=s.size:=by omega
 subst hpe;have hd:s.data.toList.drop s.size=[]:=by rw[hsz,List.drop_length]
 rw[hd];cases st with
 |none=>simp[Lib.closeSpans,iZ,nL]
 |some a=>
  have ha:=jT a rfl;have jD:(cut s.data.toList (a,s.size)).isEmpty=aV:=by
   rw[List.isEmpty_eq_false_iff];intro h0;have:=congrArg List.length h0;simp only[cut,List.length_drop,dH,List.length_nil] at this;omega
  simp only[Lib.closeSpans,iZ,nL,jD];simp
theorem TA (s:ByteArray)(f:Nat):∀(pos:Nat) (st:Option Nat) (acc:List (Nat×Nat)),s.size-pos<=f->pos<=s.size->(∀a,st=aE a->a<pos)->
 (Lib.closeSpans s (Lib.spansFromP qM s f pos st acc)).map (cut s.data.toList)=acc.map (cut s.data.toList)++iZ (s.data.toList.drop pos) (nL s.data.toList st pos):=by
 induction f with
 |zero=>exact λpos st acc hf hp jT=>Wo s 0 pos st acc hp (by omega) jT
 |succ f IH=>
  intro pos st acc hf hp jT;have hsz:s.size=s.data.toList.length:=Lib.size_eq s;by_cases eQ:pos<s.size
  ·obtain⟨w1,w2,hw⟩:=YC s pos eQ;have ih:=λst' acc' h=>IH (pos+(Utf8.decode s pos).2) st' acc' (by omega) (by omega) h
   unfold Lib.spansFromP;rw[if_pos eQ];rcases hw with ⟨hb,Ev,ED⟩|⟨hb,kA⟩
   ·have hd:s.data.toList.drop pos=s.data.toList.getD pos 0::s.data.toList.drop (pos+1):=by
     rw[List.drop_eq_getElem_cons (by omega),List.getD_eq_getElem?_getD,bL (by omega)];rfl
    rw[if_pos hb,hd,iZ,if_pos ED];cases st with
    |none=>
     simp only[nL,List.isEmpty_nil,if_true];have:=ih aC acc (by simp);simpa[Ev,nL] using this
    |some a=>
     have ha:=jT a rfl;have jD:(cut s.data.toList (a,pos)).isEmpty=aV:=by
      rw[List.isEmpty_eq_false_iff];intro h0;have:=congrArg List.length h0;simp[cut] at this;omega
     simp only[nL,jD];have:=ih aC (acc++[(a,pos)]) (by simp);simpa[Ev,nL] using this
   ·rw[if_neg (by rw[hb];simp)];have hd:=Vb s.data.toList pos (Utf8.decode s pos).2;have pS:=λcur=>Mr _ (s.data.toList.drop (pos+(Utf8.decode s pos).2)) cur kA
    rw[<-hd] at pS;cases st with
    |none=>
     simp only[pS];have:=ih (aE pos) acc (by intro a h;injection h;omega);rw[this];simp[cut,nL,List.drop_take]
    |some a=>
     have ha:=jT a rfl;simp only[pS];have:=ih (aE a) acc (by intro b h;injection h;omega);rw[this]
     congr 2
     simp only[cut,nL];rw[<-List.drop_append_of_le_length (by simp;omega)]
     congr 1
     rw[List.take_add]
  ·exact Wo s (f+1) pos st acc hp eQ jT
theorem o7 (s:ByteArray):(Lib.goFieldsP qM s).map (λb=>b.data.toList)=split s.data.toList:=by
 have h:=TA s s.size 0 aC [] (by omega) (by omega) (by simp);simp only[List.drop_zero,List.map_nil,List.nil_append] at h;refine Eq.trans ?_ h;rw[Lib.goFieldsP,Lib.spansOfP,List.map_map];apply List.map_congr_left;intro x _;simp[cut,Function.comp,List.drop_take]
theorem Ml (s:ByteArray):Lib.goFieldsP qM s=(split s.data.toList).map λl=>⟨l.toArray⟩:=by
 rw[<-o7,List.map_map];exact((List.map_congr_left (g:=id) (λb _=>by cases b;simp)).trans (List.map_id _)).symm
end L
namespace N
open Go.RowKit
abbrev eE:=List UInt8
structure Cell where
 kind:Nat
 n:Int
 name:eE
structure iM where
 name:eE
 kind:Nat
 n:Int
 body:List Cell
 ended:Bool
 gone:Bool
structure cE where
 all:List iM
 S:List Int
 R:List Int
 out:eE
 steps:Nat
def Wm:List eE:=[[43],[45],[42],[47],[109,111,100],[61],[60],[62],[97,110,100],[111,114],[120,111,114],[110,111,116],[100,117,112],[100,114,111,112],[115,119,97,112],[111,118,101,114],[114,111,116],
 [62,114],[114,62],[114,64],[100,101,112,116,104],[46],[101,109,105,116],[99,114],[64],[33],[101,120,101,99,117,116,101]]
def rC (s:eE):Bool:=Wm.any λb=>s==b
def there (e:iM):Bool:=e.ended&&!e.gone
def eS (all:List iM) (name:eE):Nat->Option Nat
 |0=>aC
 |i+1=>match all[i]? with
  |some e=>if e.name==name&&there e then aE i else eS all name i
  |none=>eS all name i
def fP (m:cE) (name:eE):Option Nat:=eS m.all name m.all.length
def count (m:cE):Nat:=(m.all.filter there).length
def iU (m:cE) (s:eE):Option Cell:=
 match fP m s with
 |some k=>aE ⟨2,k,[]⟩
 |none=>if rC s then aE ⟨3,0,s⟩ else(L.number s).map λn=>⟨1,n,[]⟩
def kF (m:cE) (k:Nat):cE:={m with all:=m.all.take k++(m.all.drop k).map λe=>{e with gone:=aX}}
def place (m:cE) (t:Int):Option Nat:=
 if t<1000 then aC else
  match m.all[(t-1000).toNat]? with
  |some e=>if there e then aE (t-1000).toNat else aC
  |none=>aC
def push (m:cE) (n:Int):cE×Int:=if 16<=m.S.length then(m,7) else({m with S:=m.S++[n]},0)
def pop (m:cE):Option (cE×Int):=
 match m.S.getLast? with
 |none=>aC
 |some n=>aE ({m with S:=m.S.dropLast},n)
def takes (s:eE):Nat×Nat×Nat×Nat:=
 if[[43],[45],[42],[47],[109,111,100],[61],[60],[62],[97,110,100],[111,114],[120,111,114]].any (λb=>s==b) then(2,0,1,0)
 else if s==[110,111,116]||s==[64] then(1,0,1,0)
 else if s==[100,117,112] then(1,0,2,0)
 else if s==[100,114,111,112]||s==[46]||s==[101,109,105,116]||s==[101,120,101,99,117,116,101] then(1,0,0,0)
 else if s==[115,119,97,112] then(2,0,2,0)
 else if s==[111,118,101,114] then(2,0,3,0)
 else if s==[114,111,116] then(3,0,3,0)
 else if s==[62,114] then(1,0,0,1)
 else if s==[114,62] then(0,1,1,0)
 else if s==[114,64] then(0,1,1,1)
 else if s==[100,101,112,116,104] then(0,0,1,0)
 else if s==[33] then(2,0,0,0)
 else(0,0,0,0)
def oG (s:eE) (a b:Int):Int:=
 if s==[43] then wrap64 (a+b) else if s==[45] then wrap64 (a-b) else if s==[42] then wrap64 (a*b) else if s==[47] then wrap64 (a.tdiv b) else if s==[109,111,100] then a.tmod b
 else if s==[61] then L.lH (a==b) else if s==[60] then L.lH (decide (a<b)) else if s==[62] then L.lH (decide (b<a)) else if s==[97,110,100] then bits .and aF a b else if s==[111,114] then bits .or aF a b else bits .xor aF a b
def told (s:eE) (n:Int):eE:=if s==[46] then Lib.itoa n++[32] else if s==[101,109,105,116] then[UInt8.ofNat n.toNat] else if s==[99,114] then[10] else[]
def lG (m:cE) (s:eE) (l:List Int):Int:=
 if s==[47]||s==[109,111,100] then(if l.getD 1 0=0 then 8 else 0)
 else if s==[101,109,105,116] then(if l.getD 0 0<32\/126<l.getD 0 0 then 11 else 0)
 else if s==[64]||s==[33] then
  (match place m (l.getD (l.length-1) 0) with
   |some k=>(match m.all[k]? with|some e=>if e.kind=2 then 0 else 9|none=>9)
   |none=>9)
 else if s==[101,120,101,99,117,116,101] then(match place m (l.getD 0 0) with|some _=>0|none=>10)
 else 0
def kR (m:cE) (s:eE) (l:List Int) (rest:List Int):cE:=
 let x:=l.getD 0 0
 let y:=l.getD 1 0
 let z:=l.getD 2 0
 let r:=m.R.getLast?.getD 0
 if s==[110,111,116] then {m with S:=rest++[L.lH (x==0)]}
 else if s==[100,117,112] then {m with S:=rest++[x,x]}
 else if s==[115,119,97,112] then {m with S:=rest++[y,x]}
 else if s==[111,118,101,114] then {m with S:=rest++[x,y,x]}
 else if s==[114,111,116] then {m with S:=rest++[y,z,x]}
 else if s==[62,114] then {m with S:=rest,R:=m.R++[x]}
 else if s==[114,62] then {m with S:=rest++[r],R:=m.R.dropLast}
 else if s==[114,64] then {m with S:=rest++[r]}
 else if s==[100,101,112,116,104] then {m with S:=rest++[(m.S.length:Int)]}
 else if s==[64] then {m with S:=rest++[(m.all[(x-1000).toNat]?.map (·.n)).getD 0]}
 else if s==[33] then {m with S:=rest,all:=m.all.modify (y-1000).toNat λe=>{e with n:=x}}
 else if s==[100,114,111,112]||s==[46]||s==[101,109,105,116]||s==[99,114]||s==[101,120,101,99,117,116,101] then {m with S:=rest}
 else {m with S:=rest++[oG s x y]}
def kC (m:cE) (s:eE):cE×Int×Option Nat:=
 let t:=takes s
 if m.S.length<t.1\/m.R.length<t.2.1 then(m,6,aC) else
 let l:=m.S.drop (m.S.length-t.1)
 let rest:=m.S.take (m.S.length-t.1)
 let e:=lG m s l
 if e≠0 then(m,e,aC) else
 if 16<m.S.length-t.1+t.2.2.1\/16<m.R.length-t.2.1+t.2.2.2 then(m,7,aC) else
 let Uz:=told s (l.getD 0 0)
 if 300<m.out.length+Uz.length then(m,12,aC) else
 let m1:=kR {m with out:=m.out++Uz} s l rest
 (m1,0,if s==[101,120,101,99,117,116,101] then aE (l.getD 0 0-1000).toNat else aC)
def fC (open' :eE) (shut want:List eE):List Cell->Nat->Int->Nat
 |[],i,_=>i
 |c::t,i,deep=>
  if c.kind≠4 then fC open' shut want t (i+1) deep
  else if deep=0/\want.any (λb=>c.name==b)=aX then i+1
  else if c.name==open' then fC open' shut want t (i+1) (deep+1)
  else if shut.any (λb=>c.name==b) then fC open' shut want t (i+1) (deep-1)
  else fC open' shut want t (i+1) deep
def ahead (l:List Cell) (at' :Nat) (open' :eE) (shut want:List eE):Nat:=fC open' shut want (l.drop (at' +1)) (at' +1) 0
def fV (l:List Cell) (open' :eE) (shut:List eE):Nat->Int->Nat
 |0,_=>0
 |i+1,deep=>match l[i]? with
  |none=>0
  |some c=>
   if c.kind≠4 then fV l open' shut i deep
   else if c.name==open' /\deep=0 then i+1
   else if c.name==open' then fV l open' shut i (deep-1)
   else if shut.any (λb=>c.name==b) then fV l open' shut i (deep+1)
   else fV l open' shut i deep
def mM:eE:=[105,102]
def fA:eE:=[101,108,115,101]
def iQ:eE:=[116,104,101,110]
def dT:eE:=[98,101,103,105,110]
def jQ:eE:=[117,110,116,105,108]
def jW:eE:=[97,103,97,105,110]
def eN:eE:=[119,104,105,108,101]
def gB:eE:=[114,101,112,101,97,116]
def iR:eE:=[100,111]
def eK:eE:=[108,111,111,112]
def wI:eE:=[105]
def fD:eE:=[108,101,97,118,101]
def sW:eE:=[101,120,105,116]
def kX:eE:=[114,101,99,117,114,115,101]
def ends:List eE:=[jQ,jW,gB]
def ways (m:cE) (l:List Cell) (at' :Nat) (name:eE):cE×Nat×Int:=
 if name==mM||name==jQ||name==eN then
  match pop m with
  |none=>(m,0,6)
  |some (m1,n)=>
   if n=0 then
    (if name==mM then(m1,ahead l at' mM [iQ] [fA,iQ],0)
     else if name==eN then(m1,ahead l at' dT ends [gB],0)
     else(m1,fV l dT ends at' 0,0))
   else(m1,at' +1,0)
 else if name==fA then(m,ahead l at' mM [iQ] [iQ],0)
 else if name==jW||name==gB then(m,fV l dT ends at' 0,0)
 else(m,at' +1,0)
def rounds (m:cE) (l:List Cell) (at' :Nat) (name:eE) (r:List (Int×Int)):cE×Nat×List (Int×Int)×Int:=
 let behind:=ahead l at' iR [eK] [eK]
 if name==iR then
  (if m.S.length<2 then(m,0,[],6) else
   let start:=m.S.getD (m.S.length-1) 0
   let cg:=m.S.getD (m.S.length-2) 0
   let m1:={m with S:=m.S.take (m.S.length-2)}
   if cg<=start then(m1,behind,r,0) else(m1,at' +1,r++[(cg,start)],0))
 else if name==eK then
  (let last:=r.getLast?.getD (0,0)
   let c:=wrap64 (last.2+1)
   if c<last.1 then(m,fV l iR [eK] at' 0,r.dropLast++[(last.1,c)],0) else(m,at' +1,r.dropLast,0))
 else if name==fD then(m,behind,r.dropLast,0)
 else let p:=push m (r.getLast?.getD (0,0)).2;(p.1,at' +1,r,p.2)
def body:Nat->cE->Nat->List Cell->Nat->Nat->List (Int×Int)->cE×Int
 |0,m,_,_,_,_,_=>(m,14)
 |f+1,m,k,l,depth,at',r=>
  match l[at']? with
  |none=>(m,0)
  |some c=>
   if 1000<=m.steps then({m with steps:=m.steps+1},14) else
   let m0:={m with steps:=m.steps+1}
   let own:=λ(m1:cE) (j:Nat)=>match m1.all[j]? with
    |none=>(m1,(0:Int))
    |some e=>
     if e.kind=2 then push m1 (1000+j) else if e.kind=3 then push m1 e.n else if e.kind=4 then(kF m1 j,0)
     else if 12<=depth then(m1,13) else body f m1 j e.body (depth+1) 0 []
   let on:=λ(p:cE×Int) (next:Nat) (r1:List (Int×Int))=>if p.2≠0 then p else body f p.1 k l depth next r1
   if c.kind=1 then on (push m0 c.n) (at' +1) r
   else if c.kind=2 then on (own m0 c.n.toNat) (at' +1) r
   else if c.kind=3 then
    (let p:=kC m0 c.name
     match p.2.2 with
     |some j=>on (own p.1 j) (at' +1) r
     |none=>on (p.1,p.2.1) (at' +1) r)
   else if c.name==sW then(m0,0)
   else if c.name==kX then on (own m0 k) (at' +1) r
   else if c.name==iR||c.name==eK||c.name==wI||c.name==fD then
    (let p:=rounds m0 l at' c.name r
     on (p.1,p.2.2.2) p.2.1 p.2.2.1)
   else(let p:=ways m0 l at' c.name
    on (p.1,p.2.2) p.2.1 r)
def owns (f:Nat) (m:cE) (j depth:Nat):cE×Int:=
 match m.all[j]? with
 |none=>(m,0)
 |some e=>
  if e.kind=2 then push m (1000+j) else if e.kind=3 then push m e.n else if e.kind=4 then(kF m j,0)
  else if 12<=depth then(m,13) else body f m j e.body (depth+1) 0 []
def oW (c:UInt8):Bool:=decide (33<=c.toNat)&&decide (c.toNat<=126)
def mI (l:eE):Bool:=l.all oW&&(decide (l.length<=12)&&(!(L.number l).isSome&&!L.fJ l))
def dB (m:cE) (s:Option eE) (fits:Bool):Int:=
 match s with
 |none=>4
 |some t=>if L.fJ t||(fits&&!mI t) then 4 else if fits/\40<=count m then 5 else 0
def turns (o:List eE) (of:List eE) (dest:Option eE):Option (List eE):=
 match o.getLast? with
 |none=>aC
 |some t=>if of.any (λb=>t==b) then aE (match dest with|none=>o.dropLast|some x=>o.dropLast++[x]) else aC
def stands (o:List eE) (s:eE):Option (List eE):=
 if s==mM||s==dT||s==iR then aE (o++[s])
 else if s==fA then turns o [mM] (aE fA)
 else if s==iQ then turns o [mM,fA] aC
 else if s==jQ||s==jW then turns o [dT] aC
 else if s==eN then turns o [dT] (aE eN)
 else if s==gB then turns o [eN] aC
 else if s==eK then turns o [iR] aC
 else if s==wI||s==fD then(if o.any (λb=>b==iR) then aE o else aC)
 else if s==kX||s==sW||s==[39] then aE o
 else aC
def reads (m:cE) (ws:List eE):Nat->Nat->List eE->List Cell->List Cell×Int×Nat×Nat
 |0,at',_,b=>(b,3,ws.length-1,at')
 |f+1,at',o,b=>
  match ws[at']? with
  |none=>(b,3,ws.length-1,at')
  |some s=>
   if s==[59] then(if o.isEmpty then(b,0,0,at' +1) else(b,3,at',at' +1))
   else if L.fJ s=aV then
    (match iU m s with
     |none=>(b,2,at',at' +1)
     |some c=>if 60<=b.length then(b,5,at',at' +1) else reads m ws f (at' +1) o (b++[c]))
   else match stands o s with
    |none=>(b,3,at',at' +1)
    |some o1=>
     if s==[39] then
      (let e:=dB m ws[at' +1]? aV
       if e≠0 then(b,e,at',at' +2) else
       match fP m ((ws[at' +1]?).getD []) with
       |none=>(b,2,at',at' +2)
       |some k=>if 60<=b.length then(b,5,at',at' +2) else reads m ws f (at' +2) o1 (b++[⟨1,1000+k,[]⟩]))
     else if 60<=b.length then(b,5,at',at' +1) else reads m ws f (at' +1) o1 (b++[⟨4,0,s⟩])
def fuel:Nat:=1100
def one (m:cE) (ws:List eE) (at' :Nat) (s:eE):cE×Int×Nat×Nat:=
 if s==[58] then
  (let e:=dB m ws[at' +1]? aX
   if e≠0 then(m,e,at',at' +2) else
   let p:=reads m ws (ws.length+1) (at' +2) [] []
   let tA:iM:=⟨(ws[at' +1]?).getD [],1,0,p.1,p.2.1==0,aV⟩
   ({m with all:=m.all++[tA]},p.2.1,p.2.2.1,p.2.2.2))
 else if s==[118,97,114,105,97,98,108,101]||s==[99,111,110,115,116,97,110,116]||s==[109,97,114,107,101,114] then
  (let e:=dB m ws[at' +1]? aX
   if e≠0 then(m,e,at',at' +2) else
   let nm:=(ws[at' +1]?).getD []
   if s==[99,111,110,115,116,97,110,116] then
    (match pop m with
     |none=>(m,6,at',at' +2)
     |some (m1,n)=>({m1 with all:=m1.all++[⟨nm,3,n,[],aX,aV⟩]},0,0,at' +2))
   else({m with all:=m.all++[⟨nm,if s==[109,97,114,107,101,114] then 4 else 2,0,[],aX,aV⟩]},0,0,at' +2))
 else if s==[102,111,114,103,101,116]||s==[39] then
  (let e:=dB m ws[at' +1]? aV
   if e≠0 then(m,e,at',at' +2) else
   match fP m ((ws[at' +1]?).getD []) with
   |none=>(m,2,at',at' +2)
   |some k=>if s==[39] then(let p:=push m (1000+k);(p.1,p.2,at',at' +2)) else(kF m k,0,0,at' +2))
 else if L.fJ s then(m,3,at',at' +1)
 else match iU m s with
  |none=>(m,2,at',at' +1)
  |some c=>
   if c.kind=1 then(let p:=push m c.n;(p.1,p.2,at',at' +1))
   else if c.kind=2 then(let p:=owns fuel m c.n.toNat 0;(p.1,p.2,at',at' +1))
   else(let p:=kC m c.name
    match p.2.2 with
    |some j=>(let q:=owns fuel p.1 j 0;(q.1,q.2,at',at' +1))
    |none=>(p.1,p.2.1,at',at' +1))
def runs:Nat->cE->List eE->Nat->cE×Int×Nat
 |0,m,_,_=>(m,0,0)
 |f+1,m,ws,at' =>
  match ws[at']? with
  |none=>(m,0,0)
  |some s=>
   let m0:={m with steps:=m.steps+1}
   if 1000<m0.steps then({m0 with S:=[],R:=[]},14,at') else
   let p:=one m0 ws at' s
   if p.2.1≠0 then({p.1 with S:=[],R:=[]},p.2.1,p.2.2.1) else runs f p.1 ws p.2.2.2
def jL (m:cE) (text:eE):cE×eE×Int×Nat:=
 if 500<text.length then(m,[],1,0) else
 let ws:=L.split text
 let p:=runs (ws.length+1) {m with out:=[],steps:=0} ws 0
 (p.1,p.1.out,p.2.1,p.2.2)
def words (m:cE):List eE:=(m.all.filter there).map (·.name)
def nX (c:Cell):eE:=if c.kind=1 then 32::Lib.itoa c.n else if c.kind=2 then 32::35::Lib.itoa (1000+c.n) else 32::c.name
def GX (m:cE) (name:eE):eE×Int:=
 match fP m name with
 |none=>([],2)
 |some k=>match m.all[k]? with
  |none=>([],2)
  |some e=>
   if e.kind=2 then([118,97,114,105,97,98,108,101,32]++Lib.itoa e.n,0)
   else if e.kind=3 then([99,111,110,115,116,97,110,116,32]++Lib.itoa e.n,0)
   else if e.kind=4 then([109,97,114,107,101,114],0)
   else([58]++(e.body.map nX).flatten,0)
def new:cE:=⟨[],[],[],[],0⟩
end N
end Go.Proofs.YtgnlokmeohffaaaGreatDoor
