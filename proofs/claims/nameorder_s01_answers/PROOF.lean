import PyProof.Rows.All
import Wide.All
import OpenK.AllK
import Wide.FinOn
import PyProof.EqAt
import PyProof.EqKinds
import PyProof.TupleCall
import KE.BitLaws
import Open.SpecLaws
import KE.OsHead
import KE.OsGo
import KE.KSortTupG
import KE.KSortKeyAny
import KE.KMinKey
import KE.KDictSum
import PyProof.Rows.SetFrom
import PyProof.ForAny
import PyProof.MakeMany
import PyProof.CollectWalk
import PyProof.FactsAll.set_1
import PyProof.FactsAll.set_2
import PyProof.SetRoads
import PyProof.SetScanFacts
import PySem.SetOps
import PySem.Challenge.RW_nameorder_s01_answers
set_option Elab.async false
set_option linter.all false
set_option maxRecDepth 100000
set_option maxHeartbeats 4000000
namespace Nm
open Vbnlag
inductive Path (ls:List (Int×Int)):Nat->Int->Int->Prop
 | nil (x:Int):Path ls 0 x x
 | cons {k:Nat} {x y z:Int} (e:(x,y)∈ls) (r:Path ls k y z):Path ls (k + 1) x z
theorem Path.snoc {ls:List (Int×Int)}{k:Nat}{x y z:Int}(p:Path ls k x y)(e:(y,z)∈ls):Path ls (k + 1) x z:=by
 induction p with
 | nil x=>exact .cons e (.nil _)
 | cons e1 _ ih=>exact .cons e1 (ih e)
theorem Path.last {ls:List (Int×Int)}:∀{k:Nat}{x z:Int},Path ls (k + 1) x z->∃y,Path ls k x y∧(y,z)∈ls
 | 0,x,z,.cons e r=>by
  cases r
  exact⟨x,.nil x,e⟩
 | k + 1,x,z,.cons e r=>by
  obtain⟨y,p,q⟩:=r.last
  exact⟨y,.cons e p,q⟩
theorem Path.mono {ls ms:List (Int×Int)}(h:∀p∈ls,p∈ms){k:Nat}{x y:Int}(p:Path ls k x y):Path ms k x y:=by
 induction p with
 | nil x=>exact .nil x
 | cons e _ ih=>exact .cons (h _ e) ih
theorem FT (x:Int):∀l:List Int,x∈once l↔x∈l
 | []=>by simp[once]
 | y::r=>by
  unfold once
  split
  ·rename_i h
   rw[FT x r]
   have hy:y∈r:=by simpa using h
   constructor
   ·exact fun q=>List.mem_cons_of_mem _ q
   ·intro q
    rcases List.mem_cons.mp q with e | q
    ·rw[e];exact hy
    ·exact q
  ·rw[List.mem_cons,List.mem_cons,FT x r]
theorem Cg (ls:List (Int×Int))(a b:Int):∀k,b∈ball ls k a↔∃j,j<=k∧Path ls j a b
 | 0=>by
  unfold ball
  constructor
  ·intro h
   have e:b=a:=by simpa using h
   subst e
   exact⟨0,Nat.le_refl 0,.nil b⟩
  ·rintro⟨j,hj,p⟩
   have e:j=0:=by omega
   subst e
   cases p
   simp
 | k + 1=>by
  unfold ball
  simp only[List.mem_append,FT,List.mem_map,List.mem_filter,Bool.and_eq_true,Bool.not_eq_true',List.contains_eq_mem,decide_eq_true_eq,decide_eq_false_iff_not]
  constructor
  ·rintro(h | ⟨p,⟨h1,h2,_⟩,h4⟩)
   ·obtain⟨j,hj,p⟩:=(Cg ls a b k).mp h
    exact⟨j,by omega,p⟩
   ·obtain⟨j,hj,q⟩:=(Cg ls a p.1 k).mp h2
    subst h4
    exact⟨j + 1,by omega,q.snoc h1⟩
  ·rintro⟨j,hj,p⟩
   by_cases hb:b∈ball ls k a
   ·exact .inl hb
   ·right
    have e:j=k + 1:=by
     apply Classical.byContradiction
     intro n
     exact hb ((Cg ls a b k).mpr ⟨j,by omega,p⟩)
    subst e
    obtain⟨y,q,e⟩:=p.last
    exact⟨(y,b),⟨e,(Cg ls a y k).mpr ⟨k,Nat.le_refl k,q⟩,hb⟩,rfl⟩
theorem Tj {ls:List (Int×Int)}{a b:Int}{j k:Nat}(h:j<=k)(m:b∈ball ls j a):b∈ball ls k a:=by
 obtain⟨i,hi,p⟩:=(Cg ls a b j).mp m
 exact(Cg ls a b k).mpr ⟨i,by omega,p⟩
def Stuck (ls:List (Int×Int))(a:Int)(k:Nat):Prop:=∀p∈ls,p.1∈ball ls k a->p.2∈ball ls k a
theorem Stuck.all {ls:List (Int×Int)}{a:Int}{k:Nat}(h:Stuck ls a k):∀(j:Nat)(b:Int),Path ls j a b->b∈ball ls k a
 | 0,b,p=>by
  cases p
  exact(Cg ls _ _ k).mpr ⟨0,Nat.zero_le _,.nil _⟩
 | j + 1,b,p=>by
  obtain⟨y,q,e⟩:=p.last
  exact h (y,b) e (h.all j y q)
def away (ls:List (Int×Int))(a:Int)(k:Nat):Nat:=ls.countP fun p=> !(ball ls k a).contains p.2
theorem S7 {α:Type}{p q:α->Bool}:∀{l:List α}{x:α},(∀y∈l,p y=true->q y=true)->x∈l->p x=false->q x=true->l.countP p < l.countP q
 | [],_,_,hx,_,_=>by cases hx
 | y::r,x,h,hx,h1,h2=>by
  have le:r.countP p<=r.countP q:=List.countP_mono_left fun z hz=>h z (List.mem_cons_of_mem _ hz)
  rw[List.countP_cons,List.countP_cons]
  rcases List.mem_cons.mp hx with e | hx
  ·subst e
   rw[if_neg (by simp[h1]),if_pos h2]
   omega
  ·have lt:=S7 (fun z hz=>h z (List.mem_cons_of_mem _ hz)) hx h1 h2
   by_cases hy:p y=true
   ·rw[if_pos hy,if_pos (h y List.mem_cons_self hy)]
    omega
   ·rw[if_neg hy]
    split <;>omega
theorem YS (ls:List (Int×Int))(a:Int):∀k,(∃j,j<=k∧Stuck ls a j)∨away ls a k + k<=ls.length
 | 0=> .inr (by unfold away;exact List.countP_le_length)
 | k + 1=>by
  rcases YS ls a k with⟨j,hj,st⟩ | h
  ·exact .inl ⟨j,by omega,st⟩
  ·by_cases st:Stuck ls a k
   ·exact .inl ⟨k,by omega,st⟩
   ·right
    have ⟨p,hp,h1,h2⟩:∃p,p∈ls∧p.1∈ball ls k a∧¬p.2∈ball ls k a:=by
     apply Classical.byContradiction
     intro n
     apply st
     intro p hp h1
     apply Classical.byContradiction
     intro h2
     exact n ⟨p,hp,h1,h2⟩
    obtain⟨i,hi,q⟩:=(Cg ls a p.1 k).mp h1
    have h3:p.2∈ball ls (k + 1) a:=(Cg ls a p.2 (k + 1)).mpr ⟨i + 1,by omega,q.snoc hp⟩
    have lt:away ls a (k + 1) < away ls a k:=by
     unfold away
     refine S7 (x:=p) (fun y _ hy=>?_) hp (by simpa using h3) (by simpa using h2)
     have hy':¬y.2∈ball ls (k + 1) a:=by simpa using hy
     simpa using fun q=>hy' (Tj (Nat.le_succ k) q)
    omega
theorem Wi (ls:List (Int×Int))(a b:Int)(j:Nat)(p:Path ls j a b):b∈ball ls ls.length a:=by
 rcases YS ls a ls.length with⟨k,hk,st⟩ | h
 ·exact Tj hk (st.all j b p)
 ·have z:away ls a ls.length=0:=by omega
  have st:Stuck ls a ls.length:=fun q hq _=>by
   unfold away at z
   have:=(List.countP_eq_zero.mp z) q hq
   simpa using this
  exact st.all j b p
theorem Ei (ls:List (Int×Int))(a b:Int):leads ls a b=true↔∃j,Path ls j a b:=by
 unfold leads
 rw[List.contains_eq_mem,decide_eq_true_eq]
 constructor
 ·intro h
  obtain⟨j,_,p⟩:=(Cg ls a b _).mp h
  exact⟨j,p⟩
 ·rintro⟨j,p⟩
  exact Wi ls a b j p
def Gu (ls:List (Int×Int)):Prop:=∃f:Int->Nat,∀p∈ls,f p.1 < f p.2
theorem Ae4:Gu []:=⟨fun _=>0,fun p h=>nomatch h⟩
theorem Ae3 {ls:List (Int×Int)}{a b:Int}(h:Gu ls)(n:¬leads ls b a=true):Gu (ls++[(a,b)]):=by
 obtain⟨f,hf⟩:=h
 refine⟨fun x=>if leads ls b x=true then f x + (f a + 1) else f x,fun p hp=>?_⟩
 rcases List.mem_append.mp hp with hp | hp
 ·have lt:=hf p hp
  show(if leads ls b p.1=true then f p.1 + (f a + 1) else f p.1) < (if leads ls b p.2=true then f p.2 + (f a + 1) else f p.2)
  by_cases h1:leads ls b p.1=true
  ·have h2:leads ls b p.2=true:=by
    obtain⟨j,q⟩:=(Ei ls b p.1).mp h1
    exact(Ei ls b p.2).mpr ⟨j + 1,q.snoc hp⟩
   rw[if_pos h1,if_pos h2]
   omega
  ·rw[if_neg h1]
   split <;>omega
 ·have e:p=(a,b):=by simpa using hp
  subst e
  show(if leads ls b a=true then f a + (f a + 1) else f a) < (if leads ls b b=true then f b + (f a + 1) else f b)
  rw[if_neg n,if_pos ((Ei ls b b).mpr ⟨0,.nil b⟩)]
  omega
theorem Ez (l m:List Act):pairs (l++m)=pairs l++pairs m:=by
 unfold pairs
 exact List.map_append
theorem Kf:∀(l done:List Act),Gu (pairs done)->Gu (pairs (locks done l))
 | [],_,h=>h
 | x::r,done,h=>by
  unfold locks
  split
  ·exact Kf r done h
  ·rename_i n
   refine Kf r (done++[x]) ?_
   rw[Ez]
   exact Ae3 h n
theorem FW:∀(l done:List Act)(x:Act),locks done (l++[x])=if leads (pairs (locks done l)) x.b x.a=true then locks done l else locks done l++[x]
 | [],done,x=>by
  show locks done [x]=_
  unfold locks
  unfold locks
  rfl
 | y::r,done,x=>by
  show locks done (y::(r++[x]))=_
  rw[show locks done (y::r)=if leads (pairs done) y.b y.a=true then locks done r else locks (done++[y]) r from by conv=>lhs;unfold locks]
  conv=>lhs;unfold locks
  split
  ·exact FW r done x
  ·exact FW r (done++[y]) x
theorem Cw:∀(l done:List Act),∃r:List Act,locks done l=done++r∧r.Sublist l
 | [],done=>⟨[],by simp[locks],List.Sublist.slnil⟩
 | x::l,done=>by
  unfold locks
  split
  ·obtain⟨r,e,s⟩:=Cw l done
   exact⟨r,e,s.cons x⟩
  ·obtain⟨r,e,s⟩:=Cw l (done++[x])
   exact⟨x::r,by rw[e,List.append_assoc];rfl,s.cons_cons x⟩
end Nm
namespace Nm
open Vbnlag
theorem Iz:∀l:List Int,less l l=false
 | []=>rfl
 | x::r=>by
  unfold less
  rw[Iz r]
  simp
theorem Kg:∀{a b c:List Int},less a b=true->less b c=true->less a c=true
 | [],[],_,h,_=>by simp[less]at h
 | [],_::_,[],_,h=>by simp[less]at h
 | [],_::_,_::_,_,_=>rfl
 | _::_,[],_,h,_=>by simp[less]at h
 | _::_,_::_,[],_,h=>by simp[less]at h
 | x::r,y::t,z::u,h1,h2=>by
  unfold less at h1 h2 ⊢
  simp only[Bool.or_eq_true,Bool.and_eq_true,decide_eq_true_eq]at h1 h2 ⊢
  rcases h1 with h1 | ⟨e1,h1⟩
  ·rcases h2 with h2 | ⟨e2,_⟩
   ·exact .inl (by omega)
   ·exact .inl (by omega)
  ·rcases h2 with h2 | ⟨e2,h2⟩
   ·exact .inl (by omega)
   ·exact .inr ⟨by omega,Kg h1 h2⟩
theorem Eh {a b:List Int}(h:less a b=true):less b a=false:=by
 cases q:less b a with
 | false=>rfl
 | true =>
  have:=Kg h q
  rw[Iz]at this
  cases this
theorem Ef:∀{a b:List Int},a.length=b.length->a≠b->less a b=false->less b a=true
 | [],[],_,h,_=>absurd rfl h
 | [],_::_,h,_,_=>by simp at h
 | _::_,[],h,_,_=>by simp at h
 | x::r,y::t,hl,hn,h=>by
  unfold less at h ⊢
  simp only[Bool.or_eq_false_iff,Bool.and_eq_false_imp,decide_eq_false_iff_not,decide_eq_true_eq,Bool.or_eq_true,Bool.and_eq_true]at h ⊢
  by_cases e:x=y
  ·subst e
   exact .inr ⟨rfl,Ef (by simpa using hl) (fun q=>hn (by rw[q])) (h.2 rfl)⟩
  ·exact .inl (by omega)
def best {α:Type}(b:α->α->Bool):List α->Option α
 | []=>none
 | x::r=>match best b r with
  | none=>some x
  | some y=>if b x y=true then some x else some y
theorem SJ (s:State):∀l,lastOf s l=best (later s) l
 | []=>rfl
 | x::r=>by
  unfold lastOf best
  rw[SJ s r]
  cases best (later s) r <;>rfl
theorem GP (s:State):∀l,oldest s l=best (fun x y=>less (moment s x) (moment s y)) l
 | []=>rfl
 | x::r=>by
  unfold oldest best
  rw[GP s r]
  cases best (fun x y=>less (moment s x) (moment s y)) r <;>rfl
theorem Ti {α:Type}{b:α->α->Bool}:∀{l:List α},best b l=none->l=[]
 | [],_=>rfl
 | x::r,h=>by
  unfold best at h
  split at h
  ·cases h
  ·split at h <;>cases h
theorem Mg {α:Type}{b:α->α->Bool}:∀{l:List α}{x:α},best b l=some x->x∈l
 | [],_,h=>by cases h
 | y::r,x,h=>by
  unfold best at h
  split at h
  ·cases h
   exact List.mem_cons_self
  ·rename_i z hz
   split at h
   ·cases h
    exact List.mem_cons_self
   ·cases h
    exact List.mem_cons_of_mem _ (Mg hz)
theorem Rr {α:Type}{b:α->α->Bool}(as:∀x y,b x y=true->b y x=false):∀{l:List α}{x:α},x∈l->(∀y∈l,y≠x->b x y=true)->best b l=some x
 | [],_,h,_=>by cases h
 | y::r,x,hx,h=>by
  unfold best
  cases hb:best b r with
  | none =>
   have e:=Ti hb
   subst e
   have e:x=y:=by simpa using hx
   rw[e]
  | some z =>
   show(if b y z=true then some y else some z)=some x
   by_cases hyx:y=x
   ·subst hyx
    by_cases hz:z=y
    ·subst hz
     split <;>rfl
    ·rw[if_pos (h z (List.mem_cons_of_mem _ (Mg hb)) hz)]
   ·have hr:x∈r:=by
     rcases List.mem_cons.mp hx with e | q
     ·exact absurd e.symm hyx
     ·exact q
    have e:=Rr as hr fun y hy=>h y (List.mem_cons_of_mem _ hy)
    rw[hb]at e
    cases e
    rw[if_neg (by rw[as _ _ (h y List.mem_cons_self hyx)];exact Bool.false_ne_true)]
def put {α:Type}(b:α->α->Bool)(x:α):List α->List α
 | []=>[x]
 | y::r=>if b x y=true then x::y::r else y::put b x r
theorem Er {α:Type}{b:α->α->Bool}{x:α}:∀l:List α,(put b x l).Perm (x::l)
 | []=>List.Perm.refl _
 | y::r=>by
  unfold put
  split
  ·exact List.Perm.refl _
  ·exact((Er r).cons y).trans (List.Perm.swap x y r)
theorem Hl {α:Type}{b:α->α->Bool}(tr:∀x y z,b x y=true->b y z=true->b x z=true){x:α}:∀{l:List α},(∀y∈l,b x y=false->b y x=true)->l.Pairwise (fun x y=>b x y=true)->(put b x l).Pairwise (fun x y=>b x y=true)
 | [],_,_=>List.pairwise_singleton _ _
 | y::r,ht,hp=>by
  unfold put
  obtain⟨h1,h2⟩:=List.pairwise_cons.mp hp
  split
  ·rename_i e
   refine List.pairwise_cons.mpr ⟨fun z hz=>?_,hp⟩
   rcases List.mem_cons.mp hz with q | q
   ·rw[q];exact e
   ·exact tr _ _ _ e (h1 z q)
  ·rename_i e
   refine List.pairwise_cons.mpr ⟨fun z hz=>?_,Hl tr (fun z hz=>ht z (List.mem_cons_of_mem _ hz)) h2⟩
   rcases List.mem_cons.mp ((Er r).mem_iff.mp hz) with q | q
   ·rw[q];exact ht y List.mem_cons_self (by simpa using e)
   ·exact h1 z q
theorem Mz {α:Type}{b:α->α->Bool}:∀(l acc:List α),(l.foldl (fun a x=>put b x a) acc).Perm (l++acc)
 | [],acc=>List.Perm.refl _
 | x::r,acc=>by
  refine(Mz r (put b x acc)).trans ?_
  refine((Er acc).append_left r).trans ?_
  exact List.perm_middle
theorem Ij {α:Type}{b:α->α->Bool}(tr:∀x y z,b x y=true->b y z=true->b x z=true):∀(l acc:List α),(l++acc).Nodup->(∀x∈l++acc,∀y∈l++acc,x≠y->b x y=false->b y x=true)->acc.Pairwise (fun x y=>b x y=true) ->
  (l.foldl (fun a x=>put b x a) acc).Pairwise (fun x y=>b x y=true)
 | [],acc,_,_,h=>h
 | x::r,acc,nd,tot,h=>by
  have pm:(x::r++acc).Perm (r++put b x acc):=(List.perm_middle (a:=x) (l₁:=r) (l₂:=acc)).symm.trans ((Er acc).symm.append_left r)
  refine Ij tr r (put b x acc) (nd.perm pm) (fun y hy z hz=>tot y (pm.mem_iff.mpr hy) z (pm.mem_iff.mpr hz)) (Hl tr (fun y hy hb=>?_) h)
  refine tot x List.mem_cons_self y (List.mem_cons_of_mem _ (List.mem_append_right _ hy)) (fun e=>?_) hb
  subst e
  exact(List.nodup_cons.mp nd).1 (List.mem_append_right _ hy)
theorem Sg (s:State)(x:Act):∀l,putAct s x l=put (ahead s) x l
 | []=>rfl
 | y::r=>by
  unfold putAct put
  rw[Sg s x r]
theorem Jg (x:Act):∀l,putKey x l=put (fun x y=>decide (x.key < y.key)) x l
 | []=>rfl
 | y::r=>by
  unfold putKey put
  rw[Jg x r]
  simp only[decide_eq_true_eq]
theorem JZ (x:Work):∀l,putWork x l=put (fun x y=>decide (x.key < y.key)) x l
 | []=>rfl
 | y::r=>by
  unfold putWork put
  rw[JZ x r]
  simp only[decide_eq_true_eq]
theorem putName_eq (x:Name):∀l,putName x l=put (fun x y=>decide (x.key < y.key)) x l
 | []=>rfl
 | y::r=>by
  unfold putName put
  rw[putName_eq x r]
  simp only[decide_eq_true_eq]
def Fj (x y:Int×Int):Bool:=decide (x.1 < y.1∨(x.1=y.1∧x.2 < y.2))
theorem MF (x:Int×Int):∀l,putUse x l=put Fj x l
 | []=>rfl
 | y::r=>by
  unfold putUse put
  rw[MF x r]
  simp only[Fj,decide_eq_true_eq]
structure WF (s:State):Prop where
 ws:s.works.Pairwise (fun x y=>x.key < y.key)
 ns:s.names.Pairwise (fun x y=>x.key < y.key)
 us:s.uses.Pairwise (fun x y=>Fj x y=true)
 as:s.acts.Pairwise (fun x y=>x.key < y.key)
 nw:∀n∈s.names,∃w∈s.works,w.key=n.work
 aw:∀x∈s.acts,∃w∈s.works,w.key=x.work
 aa:∀x∈s.acts,∃n∈s.names,n.key=x.a
 ab:∀x∈s.acts,x.kind<=3->(∃n∈s.names,n.key=x.b)∧x.a≠x.b
 ak:∀x∈s.acts,1<=x.kind∧x.kind<=5
 uw:∀u∈s.uses,(∃w∈s.works,w.key=u.1)∧∃n∈s.names,n.key=u.2
 np:∀n∈s.names,1<=n.key
 wd:∀w∈s.works,0<=w.day∧w.day<=LAST
 lw:s.works.length<=80
 ln:s.names.length<=40
 lu:s.uses.length<=200
 la:s.acts.length<=60
theorem find_key {α:Type}{key:α->Int}{k:Int}{x:α}:∀{l:List α},l.Pairwise (fun x y=>key x < key y)->((l.find? fun w=>key w==k)=some x↔x∈l∧key x=k)
 | [],_=>by simp
 | y::r,h=>by
  obtain⟨h1,h2⟩:=List.pairwise_cons.mp h
  rw[List.find?_cons]
  by_cases e:key y=k
  ·rw[show(key y==k)=true by simp[e]]
   constructor
   ·intro q
    cases q
    exact⟨List.mem_cons_self,e⟩
   ·rintro⟨q,e2⟩
    rcases List.mem_cons.mp q with q | q
    ·rw[q]
    ·have:=h1 x q
     omega
  ·rw[show(key y==k)=false by simp[e]]
   show(r.find? fun w=>key w==k)=some x↔_
   rw[find_key h2]
   constructor
   ·exact fun⟨a,b⟩=>⟨List.mem_cons_of_mem _ a,b⟩
   ·rintro⟨q,e2⟩
    rcases List.mem_cons.mp q with q | q
    ·subst q
     exact absurd e2 e
    ·exact⟨q,e2⟩
theorem CZ {α:Type}{key:α->Int}{k:Int}{l:List α}:(l.find? fun w=>key w==k)=none↔∀x∈l,key x≠k:=by
 simp
section
variable {s:State}
theorem WF.wOf (W:WF s){k:Int}{x:Work}:workOf s k=some x↔x∈s.works∧x.key=k:=find_key (key:=Work.key) W.ws
theorem WF.nOf (W:WF s){k:Int}{x:Name}:nameOf s k=some x↔x∈s.names∧x.key=k:=find_key (key:=Name.key) W.ns
theorem WF.aOf (W:WF s){k:Int}{x:Act}:actOf s k=some x↔x∈s.acts∧x.key=k:=find_key (key:=Act.key) W.as
theorem WF.dOf (W:WF s){x:Work}(h:x∈s.works):dayOf s x.key=x.day:=by
 unfold Vbnlag.dayOf
 rw[W.wOf.mpr ⟨h,rfl⟩]
theorem uniq {α:Type}{key:α->Int}:∀{l:List α},l.Pairwise (fun x y=>key x < key y)->∀{x y:α},x∈l->y∈l->key x=key y->x=y
 | [],_,x,y,hx,_,_=>by cases hx
 | z::r,h,x,y,hx,hy,e=>by
  obtain⟨h1,h2⟩:=List.pairwise_cons.mp h
  rcases List.mem_cons.mp hx with a | a
  ·rcases List.mem_cons.mp hy with b | b
   ·rw[a,b]
   ·have:=h1 y b
    rw[a]at e
    omega
  ·rcases List.mem_cons.mp hy with b | b
   ·have:=h1 x a
    rw[b]at e
    omega
   ·exact uniq h2 a b e
theorem Fw {α:Type}{key:α->Int}{l:List α}(h:l.Pairwise (fun x y=>key x < key y)):l.Nodup:=h.imp fun {a b} q e=>by subst e;omega
theorem WF.Tn (W:WF s){x y:Act}(hx:x∈s.acts)(hy:y∈s.acts)(e:x.key=y.key):x=y:=uniq (key:=Act.key) W.as hx hy e
theorem WF.Ag2 (W:WF s){x y:Name}(hx:x∈s.names)(hy:y∈s.names)(e:x.key=y.key):x=y:=uniq (key:=Name.key) W.ns hx hy e
theorem WF.Aa7 (W:WF s){x y:Work}(hx:x∈s.works)(hy:y∈s.works)(e:x.key=y.key):x=y:=uniq (key:=Work.key) W.ws hx hy e
theorem VL (x y:Act)(h:later s x y=true):later s y x=false:=Eh h
theorem WF.latest (W:WF s){l:List Act}{x:Act}(sub:∀y∈l,y∈s.acts)(hx:x∈l)(h:∀y∈l,less [dayOf s x.work,x.key] [dayOf s y.work,y.key]=false):lastOf s l=some x:=by
 rw[SJ]
 refine Rr VL hx fun y hy ne=>?_
 unfold later
 refine Ef rfl (fun e=>?_) (h y hy)
 simp only[List.cons.injEq,and_true]at e
 exact ne (W.Tn (sub y hy) (sub x hx) e.2.symm)
theorem VJ (W:WF s){l m:List Act}{x:Act}(sub:∀y∈l,y∈s.acts)(hx:x∈l)(h:∀y∈l,less [dayOf s x.work,x.key] [dayOf s y.work,y.key]=false)(p:l.Perm m):lastOf s m=some x :=
 W.latest (fun y hy=>sub y (p.mem_iff.mpr hy)) (p.mem_iff.mp hx) fun y hy=>h y (p.mem_iff.mpr hy)
def Hx (s:State)(x:Act):List Int:=[-x.kind,dayOf s x.work,x.key]
def CQ (s:State)(d:Int)(x:Act):Bool:=decide (x.kind<=3)&&hindrance s d x==0
theorem Oc (d:Int):counting s d=(s.acts.filter (CQ s d)).foldl (fun l x=>put (ahead s) x l) []:=by
 unfold counting
 congr 1
 funext l x
 exact Sg s x l
theorem Oe (W:WF s){x y:Act}(hx:x∈s.acts)(hy:y∈s.acts)(ne:x≠y)(h:ahead s x y=false):ahead s y x=true:=by
 refine Ef rfl (fun e=>?_) h
 simp only[List.cons.injEq,and_true]at e
 exact ne (W.Tn hx hy e.2.2)
theorem Dc (d:Int):(counting s d).Perm (s.acts.filter (CQ s d)):=by
 rw[Oc]
 have:=Mz (b:=ahead s) (s.acts.filter (CQ s d)) []
 rwa [List.append_nil]at this
theorem O9 (W:WF s)(d:Int):(counting s d).Pairwise (fun x y=>ahead s x y=true):=by
 rw[Oc]
 refine Ij (fun x y z (h:less _ _=true) (h2:less _ _=true)=>(Kg h h2:ahead s x z=true)) _ _ ?_ ?_ List.Pairwise.nil
 ·rw[List.append_nil]
  exact(Fw (key:=Act.key) W.as).sublist List.filter_sublist
 ·rw[List.append_nil]
  intro x hx y hy ne
  exact Oe W (List.mem_filter.mp hx).1 (List.mem_filter.mp hy).1 ne
theorem Hw (d:Int){x:Act}(h:x∈counting s d):x∈s.acts∧CQ s d x=true:=List.mem_filter.mp ((Dc d).mem_iff.mp h)
theorem O8 (W:WF s){d:Int}{l:List Act}(p:l.Perm (s.acts.filter (CQ s d)))(h:l.Pairwise fun x y=>less (Hx s y) (Hx s x)=false):l=counting s d:=by
 have nd:l.Nodup:=((Fw (key:=Act.key) W.as).sublist List.filter_sublist).perm p.symm
 have pw:l.Pairwise fun x y=>ahead s x y=true:=by
  have h2:l.Pairwise fun x y=>x≠y:=nd
  refine List.Pairwise.imp_of_mem (R:=fun x y=>less (Hx s y) (Hx s x)=false∧x≠y) (fun {x y} hx hy q=>?_) (List.Pairwise.and h h2)
  exact Oe W (List.mem_filter.mp (p.mem_iff.mp hy)).1 (List.mem_filter.mp (p.mem_iff.mp hx)).1 (fun e=>q.2 e.symm) q.1
 refine List.Perm.eq_of_pairwise (le:=fun x y=>ahead s x y=true) (fun a b _ _ h1 h2=>?_) pw (O9 W d) (p.trans (Dc d).symm)
 have:=Eh (show less (Hx s a) (Hx s b)=true from h1)
 rw[show less (Hx s b) (Hx s a)=true from h2]at this
 cases this
theorem Xr (d:Int){x:Act}(h:x∈locked s d):x∈counting s d:=by
 unfold locked at h
 obtain⟨r,e,sl⟩:=Cw (counting s d) []
 rw[e,List.nil_append]at h
 exact sl.mem h
theorem N6 (d:Int):Gu (pairs (locked s d)):=Kf _ _ Ae4
end
end Nm
namespace Nm
open Vbnlag
structure DInv (ls:List (Int×Int))(a:Int)(R W:List Int):Prop where
 nd:R.Nodup
 wn:W.Nodup
 st:a∈R
 wr:∀x∈W,x∈R
 re:∀x∈R,∃k,Path ls k a x
 cl:∀x∈R,x∉W->∀p∈ls,p.1=x->p.2∈R
theorem DInv.start (ls:List (Int×Int))(a:Int):DInv ls a [a] [a] where
 nd:=by simp
 wn:=by simp
 st:=by simp
 wr:=fun _ h=>h
 re:=fun x h=>⟨0,by simp at h;rw[h];exact .nil a⟩
 cl:=fun x h n=>absurd h n
theorem DInv.done {ls:List (Int×Int)}{a:Int}{R:List Int}(I:DInv ls a R [])(b:Int):b∈R↔leads ls a b=true:=by
 rw[Ei]
 constructor
 ·exact I.re b
 ·rintro⟨j,p⟩
  induction j generalizing b with
  | zero=>cases p;exact I.st
  | succ j ih =>
   obtain⟨y,q,e⟩:=p.last
   exact I.cl y (ih y q) (by simp) (y,b) e rfl
structure JK (ls:List (Int×Int))(a u:Int)(seen R W:List Int):Prop where
 nd:R.Nodup
 wn:W.Nodup
 st:a∈R
 wr:∀x∈W,x∈R
 re:∀x∈R,∃k,Path ls k a x
 ur:u∈R
 cl:∀x∈R,x∉W->x≠u->∀p∈ls,p.1=x->p.2∈R
 sn:∀y∈seen,y∈R
theorem DInv.pop {ls:List (Int×Int)}{a u:Int}{R W:List Int}(I:DInv ls a R (W++[u])):JK ls a u [] R W where
 nd:=I.nd
 wn:=(List.nodup_append.mp I.wn).1
 st:=I.st
 wr:=fun x h=>I.wr x (List.mem_append_left _ h)
 re:=I.re
 ur:=I.wr u (by simp)
 cl:=fun x h n ne=>I.cl x h (by simp[n,ne])
 sn:=fun _ h=>nomatch h
theorem JK.old {ls:List (Int×Int)}{a u y:Int}{seen R W:List Int}(I:JK ls a u seen R W)(h:y∈R):JK ls a u (seen++[y]) R W :=
 ⟨I.nd,I.wn,I.st,I.wr,I.re,I.ur,I.cl,fun z hz=>by
  rcases List.mem_append.mp hz with q | q
  ·exact I.sn z q
  ·have e:z=y:=by simpa using q
   rw[e];exact h⟩
theorem JK.new {ls:List (Int×Int)}{a u y:Int}{seen R W:List Int}(I:JK ls a u seen R W)(h:y∉R)(e:(u,y)∈ls):JK ls a u (seen++[y]) (R++[y]) (W++[y]) where
 nd:=List.nodup_append.mpr ⟨I.nd,by simp,fun x hx z hz q=>h (by simp at hz;rw[← hz,← q];exact hx)⟩
 wn:=List.nodup_append.mpr ⟨I.wn,by simp,fun x hx z hz q=>h (by simp at hz;rw[← hz,← q];exact I.wr x hx)⟩
 st:=List.mem_append_left _ I.st
 wr:=fun x hx=>by
  rcases List.mem_append.mp hx with q | q
  ·exact List.mem_append_left _ (I.wr x q)
  ·exact List.mem_append_right _ q
 re:=fun x hx=>by
  rcases List.mem_append.mp hx with q | q
  ·exact I.re x q
  ·have e2:x=y:=by simpa using q
   obtain⟨k,p⟩:=I.re u I.ur
   exact⟨k + 1,by rw[e2];exact p.snoc e⟩
 ur:=List.mem_append_left _ I.ur
 cl:=fun x hx n ne p hp q=>by
  rcases List.mem_append.mp hx with z | z
  ·exact List.mem_append_left _ (I.cl x z (fun w=>n (List.mem_append_left _ w)) ne p hp q)
  ·exact absurd (List.mem_append_right _ z) n
 sn:=fun z hz=>by
  rcases List.mem_append.mp hz with q | q
  ·exact List.mem_append_left _ (I.sn z q)
  ·exact List.mem_append_right _ q
def under (ls:List (Int×Int))(u:Int):List Int:=(ls.filter fun p=>p.1==u).map fun p=>p.2
def over (ls:List (Int×Int))(u:Int):List Int:=(ls.filter fun p=>p.2==u).map fun p=>p.1
theorem Sx {ls:List (Int×Int)}{u y:Int}:y∈under ls u↔(u,y)∈ls:=by
 unfold under
 simp only[List.mem_map,List.mem_filter,beq_iff_eq]
 constructor
 ·rintro⟨p,⟨h1,h2⟩,h3⟩
  rw[← h2,← h3]
  exact h1
 ·intro h
  exact⟨(u,y),⟨h,rfl⟩,rfl⟩
theorem VD {ls:List (Int×Int)}{u y:Int}:y∈over ls u↔(y,u)∈ls:=by
 unfold over
 simp only[List.mem_map,List.mem_filter,beq_iff_eq]
 constructor
 ·rintro⟨p,⟨h1,h2⟩,h3⟩
  rw[← h2,← h3]
  exact h1
 ·intro h
  exact⟨(y,u),⟨h,rfl⟩,rfl⟩
theorem JK.end_ {ls:List (Int×Int)}{a u:Int}{R W:List Int}(I:JK ls a u (under ls u) R W):DInv ls a R W where
 nd:=I.nd
 wn:=I.wn
 st:=I.st
 wr:=I.wr
 re:=I.re
 cl:=fun x h n p hp q=>by
  by_cases e:x=u
  ·exact I.sn p.2 (Sx.mpr (by rw[← e,← q];exact hp))
  ·exact I.cl x h n e p hp q
theorem R9 {ls:List (Int×Int)}{a:Int}{R:List Int}(nd:R.Nodup)(re:∀x∈R,∃k,Path ls k a x):R.length<=ls.length + 1:=by
 have sub:R ⊆ a::ls.map (·.2):=fun x hx=>by
  obtain⟨k,p⟩:=re x hx
  cases k with
  | zero=>cases p;exact List.mem_cons_self
  | succ k =>
   obtain⟨y,_,e⟩:=p.last
   exact List.mem_cons_of_mem _ (List.mem_map.mpr ⟨(y,x),e,rfl⟩)
 have:=nd.length_le_of_subset sub
 simpa using this
def held (ls:List (Int×Int))(W:List Name)(n:Name):Bool:=ls.any fun p=>p.2==n.key&&W.any fun m=>m.key==p.1
theorem Ly {ls:List (Int×Int)}{W:List Name}{n:Name}:held ls W n=true↔∃m∈W,(m.key,n.key)∈ls:=by
 unfold held
 simp only[List.any_eq_true,Bool.and_eq_true,beq_iff_eq]
 constructor
 ·rintro⟨p,hp,e,m,hm,e2⟩
  exact⟨m,hm,by rw[e2,← e];exact hp⟩
 ·rintro⟨m,hm,h⟩
  exact⟨(m.key,n.key),h,rfl,m,hm,rfl⟩
theorem ZW {ls:List (Int×Int)}{W:List Name}{n:Name}:held ls W n=(over ls n.key).any fun u=>(W.map Name.key).contains u:=by
 rw[Bool.eq_iff_iff,Ly,List.any_eq_true]
 constructor
 ·rintro⟨m,hm,h⟩
  exact⟨m.key,VD.mpr h,by rw[List.contains_eq_mem,decide_eq_true_eq];exact List.mem_map.mpr ⟨m,hm,rfl⟩⟩
 ·rintro⟨u,h,q⟩
  rw[List.contains_eq_mem,decide_eq_true_eq]at q
  obtain⟨m,hm,e⟩:=List.mem_map.mp q
  exact⟨m,hm,by rw[e];exact VD.mp h⟩
theorem S5 {ls:List (Int×Int)}{W V:List Name}(p:W.Perm V)(n:Name):held ls W n=held ls V n:=by
 rw[Bool.eq_iff_iff,Ly,Ly]
 constructor
 ·exact fun⟨m,hm,h⟩=>⟨m,p.mem_iff.mp hm,h⟩
 ·exact fun⟨m,hm,h⟩=>⟨m,p.mem_iff.mpr hm,h⟩
theorem Ir {ls:List (Int×Int)}{left:List Name}{n:Name}:n∈free ls left↔n∈left∧held ls left n=false:=by
 show n∈left.filter (fun n=> !held ls left n)↔_
 rw[List.mem_filter,Bool.not_eq_true']
def Ay2 (s:State)(l:List Name):Prop:=l.Pairwise fun x y=>less (moment s x) (moment s y)=true
variable {s:State}
theorem Aq3 (W:WF s){l:List Name}(nd:l.Nodup)(sub:∀n∈l,n∈s.names)(h:l.Pairwise fun x y=>less (moment s y) (moment s x)=false):Ay2 s l:=by
 have h2:l.Pairwise fun x y=>x≠y:=nd
 refine List.Pairwise.imp_of_mem (R:=fun x y=>less (moment s y) (moment s x)=false∧x≠y) (fun {x y} hx hy q=>?_) (List.Pairwise.and h h2)
 refine Ef rfl (fun e=>q.2 ?_) q.1
 unfold moment at e
 simp only[List.cons.injEq,and_true]at e
 exact(W.Ag2 (sub y hy) (sub x hx) e.2.2.2).symm
theorem R7 {ls:List (Int×Int)}(hr:Gu ls){W:List Name}(ne:W≠[]):∃(i:Nat)(n:Name),W[i]?=some n∧held ls W n=false:=by
 obtain⟨f,hf⟩:=hr
 have least:∀l:List Name,l≠[]->∃n∈l,∀m∈l,f n.key<=f m.key:=by
  intro l
  induction l with
  | nil=>intro h;exact absurd rfl h
  | cons x r ih =>
   intro _
   by_cases hr:r=[]
   ·subst hr
    exact⟨x,List.mem_cons_self,fun m hm=>by simp at hm;rw[hm];exact Nat.le_refl _⟩
   ·obtain⟨n,hn,h⟩:=ih hr
    by_cases c:f x.key<=f n.key
    ·refine⟨x,List.mem_cons_self,fun m hm=>?_⟩
     rcases List.mem_cons.mp hm with e | q
     ·rw[e];exact Nat.le_refl _
     ·exact Nat.le_trans c (h m q)
    ·refine⟨n,List.mem_cons_of_mem _ hn,fun m hm=>?_⟩
     rcases List.mem_cons.mp hm with e | q
     ·rw[e];omega
     ·exact h m q
 obtain⟨n,hn,h⟩:=least W ne
 obtain⟨i,hi⟩:=List.getElem?_of_mem hn
 refine⟨i,n,hi,?_⟩
 cases q:held ls W n with
 | false=>rfl
 | true =>
  obtain⟨m,hm,e⟩:=Ly.mp q
  have h1:=hf _ e
  have h2:=h m hm
  exact absurd h1 (by show ¬f m.key < f n.key;omega)
theorem pick {ls:List (Int×Int)}{W left:List Name}{i:Nat}{n:Name}(p:W.Perm left)(ag:Ay2 s W)(hi:W[i]?=some n)(hf:held ls W n=false)(hb:∀j,j < i->∀m,W[j]?=some m->held ls W m=true) :
  oldest s (free ls left)=some n:=by
 rw[GP]
 refine Rr (fun x y h=>Eh h) (Ir.mpr ⟨p.mem_iff.mp (List.mem_of_getElem? hi),by rw[← S5 p];exact hf⟩) fun y hy ne=>?_
 obtain⟨h1,h2⟩:=Ir.mp hy
 obtain⟨j,hj⟩:=List.getElem?_of_mem (p.mem_iff.mpr h1)
 rw[← S5 p]at h2
 have hij:i < j:=by
  apply Classical.byContradiction
  intro c
  by_cases e:i=j
  ·subst e
   rw[hi]at hj
   exact ne (Option.some.inj hj).symm
  ·have:=hb j (by omega) y hj
   rw[h2]at this
   cases this
 obtain⟨l1,e1⟩:=List.getElem?_eq_some_iff.mp hi
 obtain⟨l2,e2⟩:=List.getElem?_eq_some_iff.mp hj
 have:=List.pairwise_iff_getElem.mp ag i j l1 l2 hij
 rw[e1,e2]at this
 exact this
theorem Dh (W:WF s){V left:List Name}{i:Nat}{n:Name}(p:V.Perm left)(nd:left.Nodup)(sub:∀m∈left,m∈s.names)(hi:V[i]?=some n):(V.eraseIdx i).Perm (left.filter fun m=>m.key !=n.key):=by
 have ndV:V.Nodup:=nd.perm p.symm
 have q:(V.eraseIdx i).Perm (V.filter fun m=>m.key !=n.key):=by
  have nd1:(V.eraseIdx i).Nodup:=ndV.sublist (List.eraseIdx_sublist _ _)
  have nd2:(V.filter fun m=>m.key !=n.key).Nodup:=ndV.sublist List.filter_sublist
  refine(List.perm_ext_iff_of_nodup nd1 nd2).mpr fun m=>?_
  obtain⟨li,ei⟩:=List.getElem?_eq_some_iff.mp hi
  rw[List.mem_filter]
  constructor
  ·intro hm
   refine⟨List.mem_of_mem_eraseIdx hm,?_⟩
   rw[bne_iff_ne]
   intro e
   have mem:m∈V:=List.mem_of_mem_eraseIdx hm
   have e2:m=n:=W.Ag2 (sub m (p.mem_iff.mp mem)) (sub n (p.mem_iff.mp (List.mem_of_getElem? hi))) e
   subst e2
   obtain⟨j,hj,hne⟩:=List.mem_eraseIdx_iff_getElem?.mp hm
   obtain⟨lj,ej⟩:=List.getElem?_eq_some_iff.mp hne
   exact hj ((List.getElem_inj ndV).mp (ej.trans ei.symm))
  ·rintro⟨hm,ne⟩
   rw[bne_iff_ne]at ne
   obtain⟨j,hj⟩:=List.getElem?_of_mem hm
   refine List.mem_eraseIdx_iff_getElem?.mpr ⟨j,fun e=>ne ?_,hj⟩
   subst e
   rw[hi]at hj
   rw[Option.some.inj hj]
 exact q.trans (p.filter _)
structure RW (s:State)(ls:List (Int×Int))(all placed:List Int)(W:List Name):Prop where
 ex:∃left:List Name,W.Perm left∧left.Nodup∧(∀m∈left,m∈s.names)∧all=placed++ranked s ls left.length left
 ag:Ay2 s W
theorem RW.step (F:WF s){ls:List (Int×Int)}{all placed:List Int}{W:List Name}(I:RW s ls all placed W){i:Nat}{n:Name}(hi:W[i]?=some n)(hf:held ls W n=false)(hb:∀j,j < i->∀m,W[j]?=some m->held ls W m=true) :
  RW s ls all (placed++[n.key]) (W.eraseIdx i):=by
 obtain⟨⟨left,p,nd,sub,e⟩,ag⟩:=I
 have q:=Dh F p nd sub hi
 obtain⟨li,ei⟩:=List.getElem?_eq_some_iff.mp hi
 have hl:left.length=(left.filter fun m=>m.key !=n.key).length + 1:=by
  rw[← q.length_eq,List.length_eraseIdx,if_pos li,← p.length_eq]
  omega
 refine⟨⟨_,q,nd.sublist List.filter_sublist,fun m hm=>sub m (List.mem_filter.mp hm).1,?_⟩,List.Pairwise.sublist (List.eraseIdx_sublist _ _) ag⟩
 rw[e,List.append_assoc]
 congr 1
 rw[hl]
 conv=>lhs;unfold ranked
 rw[pick p ag hi hf hb]
 rfl
theorem RW.done {ls:List (Int×Int)}{all placed:List Int}(I:RW s ls all placed []):placed=all:=by
 obtain⟨⟨left,p,_,_,e⟩,_⟩:=I
 have:=p.length_eq
 have z:left=[]:=List.length_eq_zero_iff.mp this.symm
 subst z
 rw[e]
 simp[ranked]
theorem Dr (F:WF s)(d:Int):(standing s d).Nodup:=(Fw (key:=Name.key) F.ns).sublist List.filter_sublist
theorem RW.start (F:WF s)(d:Int){W:List Name}(p:W.Perm (standing s d))(h:W.Pairwise fun x y=>less (moment s y) (moment s x)=false):RW s (pairs (locked s d)) (order s d) [] W :=
 ⟨⟨standing s d,p,Dr F d,fun m hm=>(List.mem_filter.mp hm).1,rfl⟩,Aq3 F ((Dr F d).perm p.symm) (fun m hm=>(List.mem_filter.mp (p.mem_iff.mp hm)).1) h⟩
theorem NK (F:WF s){ls:List (Int×Int)}(hr:Gu ls):∀(k:Nat)(left:List Name),left.length=k->left.Nodup->(∀m∈left,m∈s.names)->(ranked s ls k left).Perm (left.map Name.key)
 | 0,left,h,_,_=>by
  have z:left=[]:=List.length_eq_zero_iff.mp h
  subst z
  exact List.Perm.refl _
 | k + 1,left,h,nd,sub=>by
  unfold ranked
  have ne:free ls left≠[]:=fun q=>by
   obtain⟨i,n,hi,hf⟩:=R7 hr (W:=left) (fun z=>by rw[z]at h;cases h)
   have:=Ir.mpr ⟨List.mem_of_getElem? hi,hf⟩
   rw[q]at this
   cases this
  cases o:oldest s (free ls left) with
  | none =>
   rw[GP]at o
   exact absurd (Ti o) ne
  | some n =>
   rw[GP]at o
   have hn:n∈left:=(Ir.mp (Mg o)).1
   obtain⟨i,hi⟩:=List.getElem?_of_mem hn
   have q:=Dh F (List.Perm.refl left) nd sub hi
   obtain⟨li,ei⟩:=List.getElem?_eq_some_iff.mp hi
   have hl:(left.filter fun m=>m.key !=n.key).length=k:=by
    rw[← q.length_eq,List.length_eraseIdx,if_pos li]
    omega
   have ih:=NK F hr k _ hl (nd.sublist List.filter_sublist) fun m hm=>sub m (List.mem_filter.mp hm).1
   show(n.key::ranked s ls k (left.filter fun m=>m.key !=n.key)).Perm (left.map Name.key)
   refine(ih.cons n.key).trans ?_
   refine((q.symm.map Name.key).cons n.key).trans ?_
   have e:left.Perm (n::left.eraseIdx i):=by
    rw[List.eraseIdx_eq_take_drop_succ]
    have e1:left.take i++n::left.drop (i + 1)=left:=by
     rw[← ei,← List.drop_eq_getElem_cons li]
     exact List.take_append_drop i left
    have:=List.perm_middle (a:=n) (l₁:=left.take i) (l₂:=left.drop (i + 1))
    rw[e1]at this
    exact this
   exact(e.map Name.key).symm
theorem J5 (F:WF s)(d:Int):(order s d).Perm ((standing s d).map Name.key) :=
 NK F (N6 d) _ _ rfl (Dr F d) fun m hm=>(List.mem_filter.mp hm).1
theorem Nf (F:WF s)(d k:Int):k∈order s d↔stands s d k=true:=by
 rw[(J5 F d).mem_iff,List.mem_map]
 constructor
 ·rintro⟨n,hn,e⟩
  rw[← e]
  exact(List.mem_filter.mp hn).2
 ·intro h
  have:∃n,nameOf s k=some n:=by
   cases q:nameOf s k with
   | none =>
    unfold stands at h
    rw[q]at h
    cases h
   | some n=>exact⟨n,rfl⟩
  obtain⟨n,q⟩:=this
  obtain⟨hn,e⟩:=F.nOf.mp q
  exact⟨n,List.mem_filter.mpr ⟨hn,by rw[e];exact h⟩,e⟩
theorem MJ (F:WF s)(d:Int):(order s d).length<=40:=by
 rw[(J5 F d).length_eq,List.length_map]
 exact Nat.le_trans (List.length_filter_le _ _) F.ln
theorem Zq (F:WF s)(d:Int):∀k∈order s d,1<=k:=fun k hk=>by
 obtain⟨n,hn,e⟩:=List.mem_map.mp ((J5 F d).mem_iff.mp hk)
 rw[← e]
 exact F.np n (List.mem_filter.mp hn).1
theorem Fe {set:List Int}:∀{l:List Int}{k:Int},l.find? (fun k=>set.contains k)=some k->∃pre post,l=pre++k::post∧(∀x∈pre,set.contains x=false)∧set.contains k=true∧upTo set l=pre++[k]
 | [],k,h=>by simp at h
 | x::r,k,h=>by
  rw[List.find?_cons]at h
  unfold upTo
  cases q:set.contains x with
  | true =>
   rw[q]at h
   cases h
   exact⟨[],r,rfl,fun _ z=>(nomatch z),q,by rw[if_pos rfl];rfl⟩
  | false =>
   rw[q]at h
   obtain⟨pre,post,e,h1,h2,h3⟩:=Fe (l:=r) (k:=k) h
   refine⟨x::pre,post,by rw[e];rfl,fun y hy=>?_,h2,by simp[h3]⟩
   rcases List.mem_cons.mp hy with z | z
   ·rw[z];exact q
   ·exact h1 y z
theorem Kv (F:WF s){d:Int}{set pre post:List Int}{k:Int}(e:order s d=pre++k::post)(h:∀x∈pre,set.contains x=false)(hk:set.contains k=true):why s d set=pre++[k]∧first s d set=k:=by
 have f:(order s d).find? (fun k=>set.contains k)=some k:=by
  rw[e,List.find?_append]
  have n:pre.find? (fun k=>set.contains k)=none:=by
   rw[List.find?_eq_none]
   intro x hx
   rw[h x hx]
   exact Bool.false_ne_true
  rw[n]
  show(k::post).find? _=some k
  rw[List.find?_cons,hk]
 have e1:first s d set=k:=by
  unfold first
  rw[f]
  rfl
 have p:=Zq F d k (by rw[e];simp)
 refine⟨?_,e1⟩
 unfold why
 rw[e1,if_neg (by omega)]
 obtain⟨pre',post',e',h1,h2,h3⟩:=Fe f
 rw[h3]
 have:pre'=pre:=by
  rw[e]at e'
  clear f e1 p h3 e hk
  induction pre generalizing pre' with
  | nil =>
   cases pre' with
   | nil=>rfl
   | cons y t =>
    injection e' with a b
    have:=h1 y List.mem_cons_self
    rw[← a,h2]at this
    cases this
  | cons x r ih =>
   cases pre' with
   | nil =>
    injection e' with a b
    have:=h x List.mem_cons_self
    rw[a,h2]at this
    cases this
   | cons y t =>
    injection e' with a b
    rw[a,ih (fun z hz=>h z (List.mem_cons_of_mem _ hz)) t b fun z hz=>h1 z (List.mem_cons_of_mem _ hz)]
 rw[this]
theorem HN {d:Int}{set:List Int}(h:∀x∈order s d,set.contains x=false):why s d set=[]∧first s d set=0:=by
 have n:(order s d).find? (fun k=>set.contains k)=none:=by
  rw[List.find?_eq_none]
  intro x hx
  rw[h x hx]
  exact Bool.false_ne_true
 have e:first s d set=0:=by
  unfold first
  rw[n]
  rfl
 refine⟨?_,e⟩
 unfold why
 rw[e,if_pos rfl]
theorem Lz (F:WF s)(d:Int)(set:List Int):(why s d set=[]∧first s d set=0)∨∃pre,why s d set=pre++[first s d set]:=by
 cases f:(order s d).find? (fun k=>set.contains k) with
 | none =>
  left
  refine HN fun x hx=>?_
  have:=List.find?_eq_none.mp f x hx
  simpa using this
 | some k =>
  right
  obtain⟨pre,post,e,h1,h2,_⟩:=Fe f
  obtain⟨a,b⟩:=Kv F e h1 h2
  exact⟨pre,by rw[a,b]⟩
theorem Aj4 (F:WF s)(d:Int)(set:List Int):(why s d set).length<=40:=by
 cases f:(order s d).find? (fun k=>set.contains k) with
 | none =>
  rw[(HN fun x hx=>by simpa using List.find?_eq_none.mp f x hx).1]
  exact Nat.zero_le _
 | some k =>
  obtain⟨pre,post,e,h1,h2,_⟩:=Fe f
  rw[(Kv F e h1 h2).1]
  have:=MJ F d
  rw[e]at this
  simp at this ⊢
  omega
theorem Rn (F:WF s)(ls:List (Int×Int))(set:List Int):∀(l:List Int)(left:List Name),left.Nodup->(∀m∈left,m∈s.names) ->
  (checks s ls set left l=true↔l≠[]∧((ranked s ls left.length left).find? (fun k=>set.contains k)).isSome=true∧l=upTo set (ranked s ls left.length left))
 | [],left,_,_=>by
  unfold checks
  simp
 | k::t,left,nd,sub=>by
  unfold checks
  cases o:oldest s (free ls left) with
  | none =>
   have e:ranked s ls left.length left=[]:=by
    cases left.length with
    | zero=>rfl
    | succ m=>unfold ranked;rw[o]
   rw[e]
   simp[upTo]
  | some n =>
   have o':=o
   rw[GP]at o'
   have hn:n∈left:=(Ir.mp (Mg o')).1
   obtain⟨i,hi⟩:=List.getElem?_of_mem hn
   have q:=Dh F (List.Perm.refl left) nd sub hi
   obtain⟨li,ei⟩:=List.getElem?_eq_some_iff.mp hi
   have hl:left.length=(left.filter fun m=>m.key !=n.key).length + 1:=by
    rw[← q.length_eq,List.length_eraseIdx,if_pos li]
    omega
   have e:ranked s ls left.length left=n.key::ranked s ls (left.filter fun m=>m.key !=n.key).length (left.filter fun m=>m.key !=n.key):=by
    rw[hl]
    conv=>lhs;unfold ranked
    rw[o]
   rw[e]
   have ih:=Rn F ls set t (left.filter fun m=>m.key !=n.key) (nd.sublist List.filter_sublist) fun m hm=>sub m (List.mem_filter.mp hm).1
   show(n.key==k&&(if set.contains k=true then t.isEmpty else checks s ls set (left.filter fun m=>m.key !=k) t))=true↔_
   rw[Bool.and_eq_true,beq_iff_eq,List.find?_cons]
   conv=>rhs;rw[upTo]
   by_cases hk:n.key=k
   ·subst hk
    cases c:set.contains n.key with
    | true=>simp
    | false =>
     simp only[Bool.false_eq_true,↓reduceIte,true_and,ne_eq,reduceCtorEq,not_false_eq_true,List.cons.injEq]
     rw[ih]
     constructor
     ·exact fun⟨_,b,c⟩=>⟨b,c⟩
     ·rintro⟨b,c⟩
      refine⟨fun z=>?_,b,c⟩
      subst z
      obtain⟨y,hy⟩:=Option.isSome_iff_exists.mp b
      obtain⟨pre,post,_,_,_,h3⟩:=Fe hy
      rw[h3]at c
      have:=congrArg List.length c
      simp at this
   ·constructor
    ·exact fun⟨a,_⟩=>absurd a hk
    ·rintro⟨_,_,c⟩
     exfalso
     apply hk
     split at c <;>(injection c with a b;exact a.symm)
theorem Z9 (F:WF s)(d:Int)(set l:List Int):check s d set l=true↔l≠[]∧l=why s d set:=by
 unfold check
 rw[Rn F _ set l _ (Dr F d) fun m hm=>(List.mem_filter.mp hm).1]
 show l≠[]∧((order s d).find? (fun k=>set.contains k)).isSome=true∧l=upTo set (order s d)↔_
 cases f:(order s d).find? (fun k=>set.contains k) with
 | none =>
  rw[(HN fun x hx=>by simpa using List.find?_eq_none.mp f x hx).1]
  constructor
  ·rintro⟨_,b,_⟩
   cases b
  ·exact fun⟨a,b⟩=>absurd b a
 | some k =>
  obtain⟨pre,post,e,h1,h2,h3⟩:=Fe f
  rw[(Kv F e h1 h2).1,h3]
  simp
theorem X8 {l:List Int}:∀{a b:Int},a∈l->b∈l->((decide (a≠b)&&(l.find? fun k=>[a,b].contains k).getD 0==a)=true↔l.idxOf a < l.idxOf b):=by
 induction l with
 | nil=>intro a b h;cases h
 | cons x r ih =>
  intro a b ha hb
  rw[List.find?_cons,List.idxOf_cons,List.idxOf_cons]
  by_cases ea:x=a
  ·subst ea
   by_cases eb:x=b
   ·subst eb
    simp
   ·have e3:(x==b)=false:=by simp[eb]
    rw[e3]
    simp[eb]
  ·by_cases eb:x=b
   ·subst eb
    have e1:([a,x].contains x)=true:=by simp
    rw[e1]
    simp[ea,Ne.symm ea]
   ·have ha':a∈r:=by
     rcases List.mem_cons.mp ha with q | q
     ·exact absurd q.symm ea
     ·exact q
    have hb':b∈r:=by
     rcases List.mem_cons.mp hb with q | q
     ·exact absurd q.symm eb
     ·exact q
    have e1:([a,b].contains x)=false:=by simp[ea,eb]
    have e2:(x==a)=false:=by simp[ea]
    have e3:(x==b)=false:=by simp[eb]
    rw[e1,e2,e3]
    show(decide (a≠b)&&(r.find? fun k=>[a,b].contains k).getD 0==a)=true↔r.idxOf a + 1 < r.idxOf b + 1
    rw[ih ha' hb']
    omega
end Nm
set_option linter.unusedVariables false
namespace Nm
open Vbnlag
def Short (ls:List (Int×Int))(k:Nat)(x y:Int):Prop:=Path ls k x y∧∀j,Path ls j x y->k<=j
structure RX (ls:List (Int×Int))(goal:Int)(es:List (Int×Nat))(p:Nat):Prop where
 hd:(goal,0)∈es
 nd:(es.map (·.1)).Nodup
 pa:∀e∈es,Path ls e.2 e.1 goal
 so:es.Pairwise fun x y=>x.2<=y.2
 cl:∀(i:Nat) (e:Int×Nat),i < p->es[i]?=some e->∀q∈ls,q.2=e.1->∃k,(q.1,k)∈es∧k<=e.2 + 1
 nx:∀c,es[p]?=some c->∀e∈es,e.2<=c.2 + 1
theorem RX.start (ls:List (Int×Int))(goal:Int):RX ls goal [(goal,0)] 0 where
 hd:=by simp
 nd:=by simp
 pa:=fun e h=>by simp at h;rw[h];exact .nil goal
 so:=by simp
 cl:=fun i e h=>absurd h (Nat.not_lt_zero i)
 nx:=fun c _ e h=>by simp at h;rw[h];exact Nat.zero_le _
structure JL (ls:List (Int×Int))(goal:Int)(seen:List (Int×Int))(es:List (Int×Nat))(p:Nat)(c:Int×Nat):Prop where
 hd:(goal,0)∈es
 nd:(es.map (·.1)).Nodup
 pa:∀e∈es,Path ls e.2 e.1 goal
 so:es.Pairwise fun x y=>x.2<=y.2
 cl:∀(i:Nat) (e:Int×Nat),i < p->es[i]?=some e->∀q∈ls,q.2=e.1->∃k,(q.1,k)∈es∧k<=e.2 + 1
 nx:∀e∈es,e.2<=c.2 + 1
 cu:es[p]?=some c
 sn:∀q∈seen,q.2=c.1->∃k,(q.1,k)∈es∧k<=c.2 + 1
theorem RX.turn {ls:List (Int×Int)}{goal:Int}{es:List (Int×Nat)}{p:Nat}{c:Int×Nat}(I:RX ls goal es p)(h:es[p]?=some c):JL ls goal [] es p c :=
 ⟨I.hd,I.nd,I.pa,I.so,I.cl,I.nx c h,h,fun _ z=>nomatch z⟩
theorem JL.pass {ls:List (Int×Int)}{goal:Int}{seen:List (Int×Int)}{es:List (Int×Nat)}{p:Nat}{c:Int×Nat}{q:Int×Int}(I:JL ls goal seen es p c)(h:q.2=c.1->q.1∈es.map (·.1)):JL ls goal (seen++[q]) es p c :=
 ⟨I.hd,I.nd,I.pa,I.so,I.cl,I.nx,I.cu,fun r hr e=>by
  rcases List.mem_append.mp hr with z | z
  ·exact I.sn r z e
  ·have e2:r=q:=by simpa using z
   subst e2
   obtain⟨x,hx,hx2⟩:=List.mem_map.mp (h e)
   refine⟨x.2,?_,I.nx x hx⟩
   rw[← hx2]
   exact hx⟩
theorem JL.new {ls:List (Int×Int)}{goal:Int}{seen:List (Int×Int)}{es:List (Int×Nat)}{p:Nat}{c:Int×Nat}{q:Int×Int}(I:JL ls goal seen es p c)(hq:q∈ls)(h:q.2=c.1)(n:q.1∉es.map (·.1)) :
  JL ls goal (seen++[q]) (es++[(q.1,c.2 + 1)]) p c:=by
 have hc:c∈es:=List.mem_of_getElem? I.cu
 refine⟨List.mem_append_left _ I.hd,?_,fun e he=>?_,?_,fun i e hi he r hr hre=>?_,fun e he=>?_,?_,fun r hr e=>?_⟩
 ·rw[List.map_append]
  exact List.nodup_append.mpr ⟨I.nd,by simp,fun x hx z hz e=>n (by simp at hz;rw[← hz,← e];exact hx)⟩
 ·rcases List.mem_append.mp he with z | z
  ·exact I.pa e z
  ·have e2:e=(q.1,c.2 + 1):=by simpa using z
   subst e2
   refine .cons (y:=c.1) ?_ (I.pa c hc)
   rw[← h]
   exact hq
 ·refine List.pairwise_append.mpr ⟨I.so,by simp,fun x hx z hz=>?_⟩
  have e2:z=(q.1,c.2 + 1):=by simpa using hz
  rw[e2]
  exact I.nx x hx
 ·have li:i < es.length:=by
   obtain⟨lp,_⟩:=List.getElem?_eq_some_iff.mp I.cu
   omega
  rw[List.getElem?_append_left li]at he
  obtain⟨k,hk,hk2⟩:=I.cl i e hi he r hr hre
  exact⟨k,List.mem_append_left _ hk,hk2⟩
 ·rcases List.mem_append.mp he with z | z
  ·exact I.nx e z
  ·have e2:e=(q.1,c.2 + 1):=by simpa using z
   rw[e2]
   exact Nat.le_refl _
 ·obtain⟨lp,_⟩:=List.getElem?_eq_some_iff.mp I.cu
  rw[List.getElem?_append_left lp]
  exact I.cu
 ·rcases List.mem_append.mp hr with z | z
  ·obtain⟨k,hk,hk2⟩:=I.sn r z e
   exact⟨k,List.mem_append_left _ hk,hk2⟩
  ·have e2:r=q:=by simpa using z
   subst e2
   exact⟨c.2 + 1,by simp,Nat.le_refl _⟩
theorem JL.end_ {ls:List (Int×Int)}{goal:Int}{es:List (Int×Nat)}{p:Nat}{c:Int×Nat}(I:JL ls goal ls es p c):RX ls goal es (p + 1):=by
 refine⟨I.hd,I.nd,I.pa,I.so,fun i e hi he r hr hre=>?_,fun c' hc' e he=>?_⟩
 ·by_cases q:i=p
  ·subst q
   rw[I.cu]at he
   cases he
   exact I.sn r hr hre
  ·exact I.cl i e (by omega) he r hr hre
 ·obtain⟨l1,e1⟩:=List.getElem?_eq_some_iff.mp I.cu
  obtain⟨l2,e2⟩:=List.getElem?_eq_some_iff.mp hc'
  have h1:=List.pairwise_iff_getElem.mp I.so p (p + 1) l1 l2 (by omega)
  rw[e1,e2]at h1
  have h2:=I.nx e he
  omega
theorem YQ {ls:List (Int×Int)}{goal:Int}{es:List (Int×Nat)}(nd:(es.map (·.1)).Nodup)(pa:∀e∈es,Path ls e.2 e.1 goal):es.length<=ls.length + 1:=by
 have sub:es.map (·.1) ⊆ goal::ls.map (·.1):=fun x hx=>by
  obtain⟨e,he,e2⟩:=List.mem_map.mp hx
  have p:=pa e he
  rw[e2]at p
  cases hk:e.2 with
  | zero=>rw[hk]at p;cases p;exact List.mem_cons_self
  | succ k =>
   rw[hk]at p
   cases p with
   | cons h _=>exact List.mem_cons_of_mem _ (List.mem_map.mpr ⟨_,h,rfl⟩)
 have:=nd.length_le_of_subset sub
 simpa using this
theorem RX.done {ls:List (Int×Int)}{goal:Int}{es:List (Int×Nat)}{p:Nat}(I:RX ls goal es p)(hp:es.length<=p)(x:Int)(k:Nat):(x,k)∈es↔Short ls k x goal:=by
 have all:∀(j:Nat) (y:Int),Path ls j y goal->∃k,(y,k)∈es∧k<=j:=by
  intro j
  induction j with
  | zero=>intro y p;cases p;exact⟨0,I.hd,Nat.le_refl 0⟩
  | succ j ih =>
   intro y p
   cases p with
   | cons e r =>
    obtain⟨k,hk,hk2⟩:=ih _ r
    obtain⟨i,hi⟩:=List.getElem?_of_mem hk
    obtain⟨li,_⟩:=List.getElem?_eq_some_iff.mp hi
    obtain⟨k',hk',hk2'⟩:=I.cl i _ (by omega) hi _ e rfl
    exact⟨k',hk',by show k'<=j + 1;have:k'<=k + 1:=hk2';omega⟩
 have one:∀k k',(x,k)∈es->(x,k')∈es->k=k':=fun k k' h1 h2=>by
  obtain⟨i,hi⟩:=List.getElem?_of_mem h1
  obtain⟨j,hj⟩:=List.getElem?_of_mem h2
  obtain⟨li,ei⟩:=List.getElem?_eq_some_iff.mp hi
  obtain⟨lj,ej⟩:=List.getElem?_eq_some_iff.mp hj
  have:i=j:=by
   refine(List.getElem_inj (xs:=es.map (·.1)) (h₀:=by simpa using li) (h₁:=by simpa using lj) I.nd).mp ?_
   rw[List.getElem_map,List.getElem_map,ei,ej]
  subst this
  rw[ei]at ej
  exact congrArg Prod.snd ej
 constructor
 ·intro h
  refine⟨I.pa _ h,fun j pj=>?_⟩
  obtain⟨k',h',le⟩:=all j x pj
  rw[one k k' h h']
  exact le
 ·rintro⟨p,mn⟩
  obtain⟨k',h',le⟩:=all k x p
  have:k=k':=by
   have:=mn k' (I.pa _ h')
   omega
  rw[this]
  exact h'
theorem Gy (ls:List (Int×Int))(a b:Int):∀k,distance ls a b k<=k∧(distance ls a b k < k->b∈ball ls (distance ls a b k) a)∧∀j,j < distance ls a b k->b∉ball ls j a
 | 0=>by
  unfold distance
  exact⟨Nat.le_refl 0,fun h=>absurd h (Nat.lt_irrefl 0),fun j h=>absurd h (Nat.not_lt_zero j)⟩
 | k + 1=>by
  obtain⟨h1,h2,h3⟩:=Gy ls a b k
  have unf:distance ls a b (k + 1)=if (ball ls (distance ls a b k) a).contains b=true then distance ls a b k else k + 1:=rfl
  by_cases h:b∈ball ls (distance ls a b k) a
  ·rw[unf,if_pos (by rw[List.contains_eq_mem,decide_eq_true_eq];exact h)]
   exact⟨by omega,fun _=>h,h3⟩
  ·rw[unf,if_neg (by rw[List.contains_eq_mem,decide_eq_true_eq];exact h)]
   have e:distance ls a b k=k:=by
    apply Classical.byContradiction
    intro n
    exact h (h2 (by omega))
   refine⟨Nat.le_refl _,fun q=>absurd q (Nat.lt_irrefl _),fun j hj=>?_⟩
   by_cases q:j=k
   ·rw[q,← e];exact h
   ·exact h3 j (by omega)
theorem Ri {ls:List (Int×Int)}{a b:Int}(h:leads ls a b=true):Short ls (distance ls a b ls.length) a b:=by
 obtain⟨h1,h2,h3⟩:=Gy ls a b ls.length
 have m:b∈ball ls (distance ls a b ls.length) a:=by
  by_cases q:distance ls a b ls.length < ls.length
  ·exact h2 q
  ·have e:distance ls a b ls.length=ls.length:=by omega
   rw[e]
   obtain⟨j,p⟩:=(Ei ls a b).mp h
   exact Wi ls a b j p
 obtain⟨j,hj,p⟩:=(Cg ls a b _).mp m
 have mn:∀i,Path ls i a b->distance ls a b ls.length<=i:=fun i pi=>by
  apply Classical.byContradiction
  intro n
  exact h3 i (by omega) ((Cg ls a b i).mpr ⟨i,Nat.le_refl i,pi⟩)
 have e:j=distance ls a b ls.length:=by
  have:=mn j p
  omega
 rw[e]at p
 exact⟨p,mn⟩
theorem W7 {l m:List Act}(p:l.Perm m){k:Nat}{x y:Int}:Short (pairs l) k x y↔Short (pairs m) k x y:=by
 have h:∀q,q∈pairs l↔q∈pairs m:=fun q=>(p.map _).mem_iff
 constructor
 ·exact fun⟨a,b⟩=>⟨a.mono fun q hq=>(h q).mp hq,fun j pj=>b j (pj.mono fun q hq=>(h q).mpr hq)⟩
 ·exact fun⟨a,b⟩=>⟨a.mono fun q hq=>(h q).mpr hq,fun j pj=>b j (pj.mono fun q hq=>(h q).mp hq)⟩
theorem Jk {l:List Act}{x y:Int}:(x,y)∈pairs l↔∃z∈l,z.a=x∧z.b=y:=by
 unfold pairs
 rw[List.mem_map]
 constructor
 ·rintro⟨z,hz,e⟩
  exact⟨z,hz,congrArg Prod.fst e,congrArg Prod.snd e⟩
 ·rintro⟨z,hz,rfl,rfl⟩
  exact⟨z,hz,rfl⟩
theorem Aa9 {L:List Act}(so:L.Pairwise fun x y=>x.key < y.key){k:Nat}{a b:Int}(sh:Short (pairs L) (k + 1) a b){x:Act}(hx:x∈L)(ea:x.a=a)(near:Short (pairs L) k x.b b)
  (mn:∀y∈L,y.a=a->Short (pairs L) k y.b b->x.key<=y.key):way L (k + 1) a b=x.key::way L k x.b b:=by
 have cond:∀y∈L,((y.a==a&&(ball (pairs L) k y.b).contains b)=true↔y.a=a∧Short (pairs L) k y.b b):=fun y hy=>by
  rw[Bool.and_eq_true,beq_iff_eq,List.contains_eq_mem,decide_eq_true_eq,Cg]
  constructor
  ·rintro⟨e,j,hj,p⟩
   have mnl:∀i,Path (pairs L) i y.b b->k<=i:=fun i pi=>by
    have:=sh.2 (i + 1) (.cons (Jk.mpr ⟨y,hy,e,rfl⟩) pi)
    omega
   have:j=k:=by
    have:=mnl j p
    omega
   rw[this]at p
   exact⟨e,p,mnl⟩
  ·exact fun⟨e,p,_⟩=>⟨e,k,Nat.le_refl k,p⟩
 have f:L.find? (fun x=>x.a==a&&(ball (pairs L) k x.b).contains b)=some x:=by
  rw[List.find?_eq_some_iff_append]
  refine⟨(cond x hx).mpr ⟨ea,near⟩,?_⟩
  obtain⟨as,bs,e⟩:=List.append_of_mem hx
  refine⟨as,bs,e,fun y hy=>?_⟩
  rw[Bool.not_eq_true']
  cases q:(y.a==a&&(ball (pairs L) k y.b).contains b) with
  | false=>rfl
  | true =>
   have hyL:y∈L:=by rw[e];exact List.mem_append_left _ hy
   obtain⟨e1,e2⟩:=(cond y hyL).mp q
   have h1:=mn y hyL e1 e2
   rw[e]at so
   have h2:=(List.pairwise_append.mp so).2.2 y hy x List.mem_cons_self
   omega
 conv=>lhs;unfold way
 rw[f]
theorem Ab0 {L:List Act}{k:Nat}{a b:Int}(sh:Short (pairs L) (k + 1) a b):∃x∈L,x.a=a∧Short (pairs L) k x.b b:=by
 obtain⟨p,mn⟩:=sh
 cases p with
 | cons e r =>
  obtain⟨z,hz,ea,eb⟩:=Jk.mp e
  refine⟨z,hz,ea,by rw[eb];exact r,fun j pj=>?_⟩
  have:=mn (j + 1) (.cons e (by rw[eb]at pj;exact pj))
  omega
theorem W5 {ls:List (Int×Int)}{a b:Int}(h:Short ls 0 a b):a=b:=by
 cases h.1
 rfl
theorem Ad2 {ls:List (Int×Int)}{k:Nat}{a b:Int}(h:Short ls k a b)(ne:a≠b):∃j,k=j + 1:=by
 cases k with
 | zero=>exact absurd (W5 h) ne
 | succ j=>exact⟨j,rfl⟩
theorem W6 {ls:List (Int×Int)}{k:Nat}{a:Int}(h:Short ls k a a):k=0:=Nat.le_zero.mp (h.2 0 (.nil a))
theorem Zg {ls:List (Int×Int)}{j k:Nat}{a b:Int}(h:Short ls j a b)(g:Short ls k a b):j=k:=Nat.le_antisymm (h.2 k g.1) (g.2 j h.1)
variable {s:State}
def byKey (l:List Act):List Act:=l.foldl (fun l y=>putKey y l) []
theorem Wf (l:List Act):byKey l=l.foldl (fun l y=>put (fun x y:Act=>decide (x.key < y.key)) y l) []:=by
 unfold byKey
 congr 1
 funext l y
 exact Jg y l
theorem X7 (l:List Act):(byKey l).Perm l:=by
 rw[Wf]
 have:=Mz (b:=fun x y:Act=>decide (x.key < y.key)) l []
 rwa [List.append_nil]at this
theorem UL (W:WF s){l:List Act}(nd:l.Nodup)(sub:∀x∈l,x∈s.acts):(byKey l).Pairwise fun x y=>x.key < y.key:=by
 rw[Wf]
 refine(Ij (b:=fun x y:Act=>decide (x.key < y.key)) (fun x y z h1 h2=>?_) l [] (by rw[List.append_nil];exact nd) ?_ List.Pairwise.nil).imp fun {a b} h=>by simpa using h
 ·simp only[decide_eq_true_eq]at h1 h2 ⊢
  omega
 ·rw[List.append_nil]
  intro x hx y hy ne h
  simp only[decide_eq_true_eq,decide_eq_false_iff_not]at h ⊢
  have:x.key≠y.key:=fun e=>ne (W.Tn (sub x hx) (sub y hy) e)
  omega
theorem pairs_len (l:List Act):(pairs l).length=l.length:=by
 unfold pairs
 exact List.length_map _
theorem Xx {l m:List Act}(p:l.Perm m)(a b:Int):leads (pairs l) a b=leads (pairs m) a b:=by
 rw[Bool.eq_iff_iff,Ei,Ei]
 have h:∀q,q∈pairs l↔q∈pairs m:=fun q=>(p.map _).mem_iff
 constructor
 ·exact fun⟨j,pj⟩=>⟨j,pj.mono fun q hq=>(h q).mp hq⟩
 ·exact fun⟨j,pj⟩=>⟨j,pj.mono fun q hq=>(h q).mpr hq⟩
theorem ZJ {l done:List Act}{x:Act}(nd:(done++l).Nodup){pre post:List Act}(e:l=pre++x::post):x∈locks done l↔¬leads (pairs (locks done pre)) x.b x.a=true:=by
 have full:locks done l=locks (if leads (pairs (locks done pre)) x.b x.a=true then locks done pre else locks done pre++[x]) post:=by
  have app:∀(p q d:List Act),locks d (p++q)=locks (locks d p) q:=by
   intro p
   induction p with
   | nil=>intro q d;rfl
   | cons y r ih =>
    intro q d
    have unf:∀(z:Act) (t d:List Act),locks d (z::t)=if leads (pairs d) z.b z.a=true then locks d t else locks (d++[z]) t:=fun _ _ _=>rfl
    show locks d (y::(r++q))=_
    rw[unf,unf]
    split
    ·exact ih q d
    ·exact ih q (d++[y])
  rw[e,show pre++x::post=(pre++[x])++post by simp,app,FW]
 obtain⟨r1,e1,s1⟩:=Cw pre done
 have xpre:x∉locks done pre:=fun h=>by
  rw[e1]at h
  rw[e]at nd
  have hx:x∈done++pre:=by
   rcases List.mem_append.mp h with z | z
   ·exact List.mem_append_left _ z
   ·exact List.mem_append_right _ (s1.mem z)
  rw[← List.append_assoc]at nd
  exact(List.nodup_append.mp nd).2.2 x hx x List.mem_cons_self rfl
 have xpost:x∉post:=fun h=>by
  rw[e]at nd
  have:=(List.nodup_append.mp (List.nodup_append.mp nd).2.1).2.1
  exact(List.nodup_cons.mp this).1 h
 rw[full]
 split
 ·rename_i h
  obtain⟨r2,e2,s2⟩:=Cw post (locks done pre)
  rw[e2]
  constructor
  ·intro q
   rcases List.mem_append.mp q with z | z
   ·exact absurd z xpre
   ·exact absurd (s2.mem z) xpost
  ·exact fun q=>absurd h q
 ·rename_i h
  obtain⟨r2,e2,s2⟩:=Cw post (locks done pre++[x])
  rw[e2]
  exact⟨fun _=>h,fun _=>by simp⟩
theorem FZ (W:WF s)(d:Int):(counting s d).Nodup:=((Fw (key:=Act.key) W.as).sublist List.filter_sublist).perm (Dc d).symm
theorem KC {α:Type} [DecidableEq α] {l:List α}{x:α}:∀{pre post:List α},l=pre++x::post->x∉pre->l.takeWhile (fun y=>y !=x)=pre:=by
 intro pre
 induction pre generalizing l with
 | nil =>
  intro post e _
  rw[e]
  show(x::post).takeWhile (fun y=>y !=x)=[]
  rw[List.takeWhile_cons]
  simp
 | cons y r ih =>
  intro post e n
  rw[e]
  have hy:(y !=x)=true:=by
   rw[bne_iff_ne]
   intro q
   exact n (by rw[q];exact List.mem_cons_self)
  show(y::(r++x::post)).takeWhile (fun y=>y !=x)=y::r
  rw[List.takeWhile_cons,hy]
  simp only[↓reduceIte]
  rw[ih (l:=r++x::post) rfl fun q=>n (List.mem_cons_of_mem _ q)]
theorem Al0 (W:WF s){d:Int}{x:Act}(hx:x∈counting s d)(n:x∉locked s d):∃pre post,counting s d=pre++x::post∧x∉pre∧lockedAhead s d x=locks [] pre∧leads (pairs (locks [] pre)) x.b x.a=true:=by
 obtain⟨pre,post,e⟩:=List.append_of_mem hx
 have nd:=FZ W d
 have xp:x∉pre:=fun h=>by
  rw[e]at nd
  exact(List.nodup_append.mp nd).2.2 x h x List.mem_cons_self rfl
 refine⟨pre,post,e,xp,?_,?_⟩
 ·unfold lockedAhead
  rw[KC e xp]
 ·apply Classical.byContradiction
  intro q
  exact n ((ZJ (done:=[]) (by rw[List.nil_append];exact nd) e).mpr q)
end Nm
set_option linter.unusedVariables false
namespace Nm
open Vbnlag
variable {s:State}
def Gv (s:State)(k lo hi:Int)(u:Int×Int):Option Work :=
 if u.2=k then(match workOf s u.1 with
  | some w=>if lo<=w.day∧w.day<=hi then some w else none
  | none=>none) else none
def users (s:State)(us:List (Int×Int))(k lo hi:Int):List Work:=us.filterMap (Gv s k lo hi)
theorem Di (W:WF s){k lo hi:Int}{u:Int×Int}{w:Work}:Gv s k lo hi u=some w↔u.2=k∧w∈s.works∧w.key=u.1∧lo<=w.day∧w.day<=hi:=by
 unfold Gv
 constructor
 ·intro h
  split at h
  ·rename_i e
   split at h
   ·rename_i w' hw
    split at h
    ·rename_i hd
     cases h
     obtain⟨a,b⟩:=W.wOf.mp hw
     exact⟨e,a,b,hd.1,hd.2⟩
    ·cases h
   ·cases h
  ·cases h
 ·rintro⟨e,a,b,c,d⟩
  rw[if_pos e,W.wOf.mpr ⟨a,b⟩]
  show(if lo<=w.day∧w.day<=hi then some w else none)=some w
  rw[if_pos ⟨c,d⟩]
theorem ZF (W:WF s){us:List (Int×Int)}{k lo hi:Int}{w:Work}:w∈users s us k lo hi↔(w.key,k)∈us∧w∈s.works∧lo<=w.day∧w.day<=hi:=by
 unfold users
 rw[List.mem_filterMap]
 constructor
 ·rintro⟨u,hu,h⟩
  obtain⟨a,b,c,d⟩:=(Di W).mp h
  refine⟨?_,b,d⟩
  rw[← a,c]
  exact hu
 ·rintro⟨a,b,c⟩
  exact⟨(w.key,k),a,(Di W).mpr ⟨rfl,b,rfl,c⟩⟩
theorem Nu (W:WF s){k lo hi:Int}:∀{us:List (Int×Int)},us.Nodup->(users s us k lo hi).Nodup
 | [],_=>List.nodup_nil
 | u::r,nd=>by
  obtain⟨h1,h2⟩:=List.nodup_cons.mp nd
  have ih:=Nu W (k:=k) (lo:=lo) (hi:=hi) h2
  unfold users at ih ⊢
  rw[List.filterMap_cons]
  cases e:Gv s k lo hi u with
  | none=>exact ih
  | some w =>
   refine List.nodup_cons.mpr ⟨fun h=>?_,ih⟩
   obtain⟨a,b,c,d⟩:=(Di W).mp e
   obtain⟨v,hv,e2⟩:=List.mem_filterMap.mp h
   obtain⟨a',b',c',d'⟩:=(Di W).mp e2
   have:u=v:=Prod.ext (c.symm.trans c') (a.trans a'.symm)
   rw[this]at h1
   exact h1 hv
theorem Va {us:List (Int×Int)}(h:us.Pairwise fun x y=>Fj x y=true):us.Nodup:=h.imp fun {a b} q e=>by
 subst e
 unfold Fj at q
 simp only[decide_eq_true_eq]at q
 omega
theorem PK (W:WF s){us:List (Int×Int)}(p:us.Perm s.uses)(k lo hi:Int):(users s us k lo hi).Perm (usedIn s k lo hi):=by
 refine(List.perm_ext_iff_of_nodup (Nu W ((Va W.us).perm p.symm)) ((Fw (key:=Work.key) W.ws).sublist List.filter_sublist)).mpr fun w=>?_
 rw[ZF W]
 rw[List.mem_filter,Bool.and_eq_true,Bool.and_eq_true,List.contains_eq_mem,decide_eq_true_eq,decide_eq_true_eq,decide_eq_true_eq,p.mem_iff]
 constructor
 ·exact fun⟨a,b,c⟩=>⟨b,a,c⟩
 ·exact fun⟨a,b,c⟩=>⟨b,a,c⟩
theorem FN:∀l:List Int,(once l).Nodup
 | []=>List.nodup_nil
 | x::r=>by
  unfold once
  split
  ·exact FN r
  ·rename_i h
   refine List.nodup_cons.mpr ⟨fun q=>h ?_,FN r⟩
   rw[FT]at q
   simpa using q
theorem Af5 {l R:List Int}(nd:R.Nodup)(h:∀x,x∈R↔x∈l):R.length=(once l).length :=
 ((List.perm_ext_iff_of_nodup nd (FN l)).mpr fun x=>by rw[h x,FT]).length_eq
theorem Zu {l m:List Int}(p:l.Perm m):(once l).length=(once m).length :=
 ((List.perm_ext_iff_of_nodup (FN l) (FN m)).mpr fun x=>by rw[FT,FT,p.mem_iff]).length_eq
theorem Nb:∀{l:List Int},l≠[]->most l∈l∧∀x∈l,x<=most l
 | [],h=>absurd rfl h
 | [x],_=>by simp[most]
 | x::y::r,_=>by
  obtain⟨h1,h2⟩:=Nb (l:=y::r) (by simp)
  have e:most (x::y::r)=if most (y::r)<=x then x else most (y::r):=rfl
  rw[e]
  split
  ·rename_i h
   refine⟨List.mem_cons_self,fun z hz=>?_⟩
   rcases List.mem_cons.mp hz with q | q
   ·omega
   ·have:=h2 z q
    omega
  ·rename_i h
   refine⟨List.mem_cons_of_mem _ h1,fun z hz=>?_⟩
   rcases List.mem_cons.mp hz with q | q
   ·omega
   ·exact h2 z q
theorem Kh:∀{l:List Int},l≠[]->least l∈l∧∀x∈l,least l<=x
 | [],h=>absurd rfl h
 | [x],_=>by simp[least]
 | x::y::r,_=>by
  obtain⟨h1,h2⟩:=Kh (l:=y::r) (by simp)
  have e:least (x::y::r)=if x<=least (y::r) then x else least (y::r):=rfl
  rw[e]
  split
  ·rename_i h
   refine⟨List.mem_cons_self,fun z hz=>?_⟩
   rcases List.mem_cons.mp hz with q | q
   ·omega
   ·have:=h2 z q
    omega
  ·rename_i h
   refine⟨List.mem_cons_of_mem _ h1,fun z hz=>?_⟩
   rcases List.mem_cons.mp hz with q | q
   ·omega
   ·exact h2 z q
theorem NZ {l:List Int}{m:Int}(h:m∈l)(b:∀x∈l,x<=m):most l=m:=by
 obtain⟨h1,h2⟩:=Nb (l:=l) (fun e=>by rw[e]at h;cases h)
 have:=h2 m h
 have:=b _ h1
 omega
theorem Lw {l:List Int}{m:Int}(h:m∈l)(b:∀x∈l,m<=x):least l=m:=by
 obtain⟨h1,h2⟩:=Kh (l:=l) (fun e=>by rw[e]at h;cases h)
 have:=h2 m h
 have:=b _ h1
 omega
theorem ZD {l m:List Int}(p:l.Perm m):most l=most m:=by
 by_cases e:m=[]
 ·subst e
  rw[p.eq_nil]
 ·obtain⟨h1,h2⟩:=Nb e
  exact NZ (p.mem_iff.mpr h1) fun x hx=>h2 x (p.mem_iff.mp hx)
theorem Xw {l m:List Int}(p:l.Perm m):least l=least m:=by
 by_cases e:m=[]
 ·subst e
  rw[p.eq_nil]
 ·obtain⟨h1,h2⟩:=Kh e
  exact Lw (p.mem_iff.mpr h1) fun x hx=>h2 x (p.mem_iff.mp hx)
def Ww (s:State)(us:List (Int×Int))(x:Act):List Int :=
 let D:=dayOf s x.work
 let l:=users s us x.a (D - s.code.window + 1) D
 [((users s us x.b s.code.limit D).length:Int),(l.length:Int),((once (l.map Work.author)).length:Int),most (l.map Work.day) - least (l.map Work.day)]
theorem Y9 (W:WF s){us:List (Int×Int)}(p:us.Perm s.uses)(x:Act):Ww s us x=[(tally s x).older,(tally s x).works,(tally s x).authors,(tally s x).span]:=by
 have h1:=PK W p x.b s.code.limit (dayOf s x.work)
 have h2:=PK W p x.a (dayOf s x.work - s.code.window + 1) (dayOf s x.work)
 unfold Ww tally
 show [_,_,_,_]=[_,_,_,_]
 rw[h1.length_eq,h2.length_eq,Zu (h2.map Work.author),ZD (h2.map Work.day),Xw (h2.map Work.day)]
theorem Kd {x y:Int}:∀{l:List Int},y∈putNum x l↔y=x∨y∈l
 | []=>by simp[putNum]
 | z::r=>by
  unfold putNum
  split
  ·simp
  ·split
   ·rename_i e
    subst e
    simp
   ·rw[List.mem_cons,Kd,List.mem_cons]
    constructor
    ·rintro(h | h | h) <;>simp[h]
    ·rintro(h | h | h) <;>simp[h]
theorem JC {x:Int}:∀{l:List Int},l.Pairwise (· < ·)->(putNum x l).Pairwise (· < ·)
 | [],_=>List.pairwise_singleton _ _
 | y::r,h=>by
  obtain⟨h1,h2⟩:=List.pairwise_cons.mp h
  unfold putNum
  split
  ·rename_i q
   refine List.pairwise_cons.mpr ⟨fun z hz=>?_,h⟩
   rcases List.mem_cons.mp hz with e | e
   ·omega
   ·have:=h1 z e
    omega
  ·split
   ·exact h
   ·rename_i q1 q2
    refine List.pairwise_cons.mpr ⟨fun z hz=>?_,JC h2⟩
    rcases Kd.mp hz with e | e
    ·omega
    ·exact h1 z e
theorem M9:∀(l acc:List Int),acc.Pairwise (· < ·)->(l.foldl (fun l d=>putNum d l) acc).Pairwise (· < ·)∧∀x,x∈l.foldl (fun l d=>putNum d l) acc↔x∈l∨x∈acc
 | [],acc,h=>⟨h,fun x=>by simp⟩
 | y::r,acc,h=>by
  obtain⟨h1,h2⟩:=M9 r (putNum y acc) (JC h)
  refine⟨h1,fun x=>?_⟩
  show x∈r.foldl (fun l d=>putNum d l) (putNum y acc)↔_
  rw[h2,Kd,List.mem_cons]
  constructor
  ·rintro(q | q | q) <;>simp[q]
  ·rintro((q | q) | q) <;>simp[q]
theorem IW:(days s).Pairwise (· < ·):=(M9 _ [] List.Pairwise.nil).1
theorem VF {d:Int}:d∈days s↔∃w∈s.works,w.day=d:=by
 unfold days
 rw[(M9 _ [] List.Pairwise.nil).2,List.mem_map]
 simp
def Gx (s:State)(d:Int):Prop:=(∃n∈s.names,dayOf s n.work=d)∨∃x∈s.acts,dayOf s x.work=d
theorem Vb (W:WF s){d:Int}(h:Gx s d):d∈days s:=by
 rw[VF]
 rcases h with⟨n,hn,e⟩ | ⟨x,hx,e⟩
 ·obtain⟨w,hw,ek⟩:=W.nw n hn
  exact⟨w,hw,by rw[← e,← ek,W.dOf hw]⟩
 ·obtain⟨w,hw,ek⟩:=W.aw x hx
  exact⟨w,hw,by rw[← e,← ek,W.dOf hw]⟩
structure Alike (s:State)(d e:Int):Prop where
 nm:∀n∈s.names,(dayOf s n.work<=d↔dayOf s n.work<=e)
 ac:∀x∈s.acts,(dayOf s x.work<=d↔dayOf s x.work<=e)
theorem Alike.stands (W:WF s){d e:Int}(A:Alike s d e)(k:Int):stands s d k=stands s e k:=by
 unfold Vbnlag.stands
 cases q:nameOf s k with
 | none=>rfl
 | some n =>
  have hn:=(W.nOf.mp q).1
  have e1:decide (dayOf s n.work<=d)=decide (dayOf s n.work<=e):=decide_eq_decide.mpr (A.nm n hn)
  have e2:deciding s d k=deciding s e k:=by
   unfold deciding
   congr 1
   refine List.filter_congr fun x hx=>?_
   rw[decide_eq_decide.mpr (A.ac x hx)]
  show(decide (dayOf s n.work<=d)&&_)=(decide (dayOf s n.work<=e)&&_)
  rw[e1,e2]
theorem Alike.hindrance (W:WF s){d e:Int}(A:Alike s d e){x:Act}(hx:x∈s.acts):hindrance s d x=hindrance s e x:=by
 unfold Vbnlag.hindrance
 rw[A.stands W,A.stands W]
 have h:=A.ac x hx
 by_cases q:d < dayOf s x.work
 ·rw[if_pos q,if_pos (show e < dayOf s x.work by omega)]
 ·rw[if_neg q,if_neg (show ¬e < dayOf s x.work by omega)]
theorem Alike.order (W:WF s){d e:Int}(A:Alike s d e):order s d=order s e:=by
 have h1:standing s d=standing s e:=by
  unfold standing
  exact List.filter_congr fun n _=>A.stands W n.key
 have h2:locked s d=locked s e:=by
  unfold locked counting
  congr 2
  refine List.filter_congr fun x hx=>?_
  rw[A.hindrance W hx]
 unfold Vbnlag.order
 rw[h1,h2]
theorem Alike.first (W:WF s){d e:Int}(A:Alike s d e)(set:List Int):first s d set=first s e set:=by
 unfold Vbnlag.first
 rw[A.order W]
theorem Uu (W:WF s){d:Int}(h:d < 0)(set:List Int):first s d set=0:=by
 refine(HN fun x hx=>?_).2
 rw[Nf W]at hx
 exfalso
 unfold stands at hx
 cases q:nameOf s x with
 | none=>rw[q]at hx;cases hx
 | some n =>
  rw[q]at hx
  obtain⟨w,hw,ek⟩:=W.nw n (W.nOf.mp q).1
  have e:dayOf s n.work=w.day:=by rw[← ek,W.dOf hw]
  have:=(W.wd w hw).1
  have hx':(decide (dayOf s n.work<=d)&&_)=true:=hx
  rw[Bool.and_eq_true,decide_eq_true_eq]at hx'
  omega
theorem Fb (W:WF s)(set:List Int)(keep:Int->Bool)(hk:∀d,keep d=true↔Gx s d):∀(L:List Int)(p was:Int),L.Pairwise (· < ·)->(∀d∈L,p < d)->(∀c,Gx s c->p < c->c∈L)->was=first s p set ->
  changes s set was L=changes s set was (L.filter keep)
 | [],_,_,_,_,_,_=>rfl
 | d::r,p,was,so,gt,all,hw=>by
  obtain⟨h1,h2⟩:=List.pairwise_cons.mp so
  have all':∀c,Gx s c->d < c->c∈r:=fun c hc lt=>by
   have:=gt d List.mem_cons_self
   rcases List.mem_cons.mp (all c hc (by omega)) with e | q
   ·omega
   ·exact q
  have unf:∀(was d:Int) (r:List Int),changes s set was (d::r)=if first s d set=was then changes s set was r else(d,first s d set)::changes s set (first s d set) r:=fun _ _ _=>rfl
  cases q:keep d with
  | true =>
   rw[List.filter_cons,if_pos q,unf,unf]
   split
   ·rename_i e
    exact Fb W set keep hk r d was h2 h1 all' e.symm
   ·rw[Fb W set keep hk r d _ h2 h1 all' rfl]
  | false =>
   rw[List.filter_cons,if_neg (by rw[q];exact Bool.false_ne_true),unf]
   have nt:¬Gx s d:=fun z=>by rw[(hk d).mpr z]at q;cases q
   have noturn:∀c,Gx s c->(c<=d↔c<=p):=fun c hc=>by
    have:=gt d List.mem_cons_self
    constructor
    ·intro le
     apply Classical.byContradiction
     intro n
     rcases List.mem_cons.mp (all c hc (by omega)) with e | q
     ·rw[e]at hc
      exact nt hc
     ·have:=h1 c q
      omega
    ·omega
   have A:Alike s d p:=⟨fun n hn=>noturn _ (.inl ⟨n,hn,rfl⟩),fun x hx=>noturn _ (.inr ⟨x,hx,rfl⟩)⟩
   have e:first s d set=was:=by rw[A.first W,hw]
   rw[if_pos e]
   exact Fb W set keep hk r d was h2 h1 all' e.symm
theorem Xz (W:WF s)(set:List Int){L:List Int}(so:L.Pairwise (· < ·))(h:∀d,d∈L↔Gx s d):history s set=changes s set 0 L:=by
 unfold history
 have k:∀d,L.contains d=true↔Gx s d:=fun d=>by rw[List.contains_eq_mem,decide_eq_true_eq,h]
 have e:(days s).filter (fun d=>L.contains d)=L:=by
  refine List.Perm.eq_of_pairwise (le:=(· < ·)) (fun a b _ _ h1 h2=>by omega) (IW.filter _) so ?_
  refine(List.perm_ext_iff_of_nodup ((IW.filter _).imp fun {a b} q e=>by subst e;exact Int.lt_irrefl _ q) (so.imp fun {a b} q e=>by subst e;exact Int.lt_irrefl _ q)).mpr fun d=>?_
  rw[List.mem_filter,k,h]
  exact⟨fun q=>q.2,fun q=>⟨Vb W q,q⟩⟩
 have:=Fb W set (fun d=>L.contains d) k (days s) (-1) 0 IW (fun d hd=>by
  obtain⟨w,hw,e⟩:=VF.mp hd
  have:=(W.wd w hw).1
  omega) (fun c hc _=>Vb W hc) (Uu W (by omega) set).symm
 rw[this,e]
def chg (s:State)(set:List Int)(acc:List Int×Int)(d:Int):List Int×Int :=
 if first s d set=acc.2 then acc else(acc.1++[d,first s d set],first s d set)
theorem UG (set:List Int):∀(L out:List Int)(was:Int),(L.foldl (chg s set) (out,was)).1=out++(changes s set was L).flatMap fun p=>[p.1,p.2]
 | [],out,was=>by simp[changes]
 | d::r,out,was=>by
  show(r.foldl (chg s set) (chg s set (out,was) d)).1=_
  have unf:changes s set was (d::r)=if first s d set=was then changes s set was r else(d,first s d set)::changes s set (first s d set) r:=rfl
  rw[unf]
  unfold chg
  show(r.foldl (chg s set) (if first s d set=was then(out,was) else(out++[d,first s d set],first s d set))).1=_
  split
  ·exact UG set r out was
  ·rw[UG set r _ _,List.flatMap_cons,List.append_assoc]
theorem YK (set:List Int):∀(L:List Int)(acc:List Int×Int),(L.foldl (chg s set) acc).1.length<=acc.1.length + 2 * L.length
 | [],acc=>by simp
 | d::r,acc=>by
  show(r.foldl (chg s set) (chg s set acc d)).1.length<=_
  have:=YK set r (chg s set acc d)
  have h:(chg s set acc d).1.length<=acc.1.length + 2:=by
   unfold chg
   split <;>simp
  simp only[List.length_cons]
  omega
end Nm
set_option linter.unusedVariables false
namespace Nm
open Vbnlag
variable {s:State}
theorem Fy {α:Type}{key:α->Int}{x:α}{l:List α}(so:l.Pairwise fun x y=>key x < key y)(n:∀y∈l,key y≠key x):(put (fun x y=>decide (key x < key y)) x l).Pairwise fun x y=>key x < key y:=by
 refine(Hl (b:=fun x y=>decide (key x < key y)) (fun x y z h1 h2=>?_) (fun y hy h=>?_) (so.imp fun {a b} h=>by simpa using h)).imp fun {a b} h=>by simpa using h
 ·simp only[decide_eq_true_eq]at h1 h2 ⊢
  omega
 ·simp only[decide_eq_true_eq,decide_eq_false_iff_not]at h ⊢
  have:=n y hy
  omega
theorem U8 (x y z:Int×Int)(h1:Fj x y=true)(h2:Fj y z=true):Fj x z=true:=by
 unfold Fj at *
 simp only[decide_eq_true_eq]at *
 omega
theorem U9 {x y:Int×Int}(ne:x≠y)(h:Fj x y=false):Fj y x=true:=by
 unfold Fj at *
 simp only[decide_eq_true_eq,decide_eq_false_iff_not]at *
 have:x.1≠y.1∨x.2≠y.2:=by
  apply Classical.byContradiction
  intro q
  exact ne (Prod.ext (by omega) (by omega))
 omega
theorem WF.start:WF Vbnlag.start where
 ws:=List.Pairwise.nil
 ns:=List.Pairwise.nil
 us:=List.Pairwise.nil
 as:=List.Pairwise.nil
 nw:=fun _ h=>nomatch h
 aw:=fun _ h=>nomatch h
 aa:=fun _ h=>nomatch h
 ab:=fun _ h=>nomatch h
 ak:=fun _ h=>nomatch h
 uw:=fun _ h=>nomatch h
 np:=fun _ h=>nomatch h
 wd:=fun _ h=>nomatch h
 lw:=Nat.zero_le _
 ln:=Nat.zero_le _
 lu:=Nat.zero_le _
 la:=Nat.zero_le _
theorem WF.code (W:WF s)(c:Code):WF {s with code:=c}:=⟨W.ws,W.ns,W.us,W.as,W.nw,W.aw,W.aa,W.ab,W.ak,W.uw,W.np,W.wd,W.lw,W.ln,W.lu,W.la⟩
theorem La (x:Work)(l:List Work):(putWork x l).Perm (x::l):=by
 rw[JZ]
 exact Er l
theorem Lb (x:Name)(l:List Name):(putName x l).Perm (x::l):=by
 rw[putName_eq]
 exact Er l
theorem NP (x:Int×Int)(l:List (Int×Int)):(putUse x l).Perm (x::l):=by
 rw[MF]
 exact Er l
theorem NQ (x:Act)(l:List Act):(putKey x l).Perm (x::l):=by
 rw[Jg]
 exact Er l
theorem Hu {k:Int}(h:isWork s k=false):∀w∈s.works,w.key≠k:=by
 unfold isWork workOf at h
 rw[Option.isSome_eq_false_iff,Option.isNone_iff_eq_none]at h
 exact CZ.mp h
theorem Hv {k:Int}(h:isName s k=false):∀w∈s.names,w.key≠k:=by
 unfold isName nameOf at h
 rw[Option.isSome_eq_false_iff,Option.isNone_iff_eq_none]at h
 exact CZ.mp h
theorem Et (W:WF s){k:Int}(h:isWork s k=true):∃w∈s.works,w.key=k:=by
 unfold isWork at h
 obtain⟨w,e⟩:=Option.isSome_iff_exists.mp h
 exact⟨w,W.wOf.mp e⟩
theorem Dm (W:WF s){k:Int}(h:isName s k=true):∃w∈s.names,w.key=k:=by
 unfold isName at h
 obtain⟨w,e⟩:=Option.isSome_iff_exists.mp h
 exact⟨w,W.nOf.mp e⟩
theorem mem_isWork (W:WF s){w:Work}(h:w∈s.works):isWork s w.key=true:=by
 unfold isWork
 rw[W.wOf.mpr ⟨h,rfl⟩]
 rfl
theorem mem_isName (W:WF s){n:Name}(h:n∈s.names):isName s n.key=true:=by
 unfold isName
 rw[W.nOf.mpr ⟨h,rfl⟩]
 rfl
theorem WF.putWork (W:WF s){x:Work}(n:∀w∈s.works,w.key≠x.key)(d:0<=x.day∧x.day<=LAST)(l:s.works.length < 80):WF {s with works:=putWork x s.works}:=by
 have p:=La x s.works
 have m:∀w∈s.works,w∈Vbnlag.putWork x s.works:=fun w h=>p.mem_iff.mpr (List.mem_cons_of_mem _ h)
 refine⟨?_,W.ns,W.us,W.as,fun y h=>?_,fun y h=>?_,W.aa,W.ab,W.ak,fun u h=>?_,W.np,fun w h=>?_,?_,W.ln,W.lu,W.la⟩
 ·show(Vbnlag.putWork x s.works).Pairwise _
  rw[JZ]
  exact Fy (key:=Work.key) W.ws n
 ·obtain⟨w,hw,e⟩:=W.nw y h
  exact⟨w,m w hw,e⟩
 ·obtain⟨w,hw,e⟩:=W.aw y h
  exact⟨w,m w hw,e⟩
 ·obtain⟨⟨w,hw,e⟩,r⟩:=W.uw u h
  exact⟨⟨w,m w hw,e⟩,r⟩
 ·rcases List.mem_cons.mp (p.mem_iff.mp h) with e | q
  ·rw[e];exact d
  ·exact W.wd w q
 ·show(Vbnlag.putWork x s.works).length<=80
  rw[p.length_eq]
  simp
  omega
theorem WF.putName (W:WF s){x:Name}(n:∀w∈s.names,w.key≠x.key)(k:1<=x.key)(hw:∃w∈s.works,w.key=x.work)(l:s.names.length < 40):WF {s with names:=putName x s.names}:=by
 have p:=Lb x s.names
 have m:∀w∈s.names,w∈Vbnlag.putName x s.names:=fun w h=>p.mem_iff.mpr (List.mem_cons_of_mem _ h)
 refine⟨W.ws,?_,W.us,W.as,fun y h=>?_,W.aw,fun y h=>?_,fun y h hk=>?_,W.ak,fun u h=>?_,fun w h=>?_,W.wd,W.lw,?_,W.lu,W.la⟩
 ·show(Vbnlag.putName x s.names).Pairwise _
  rw[putName_eq]
  exact Fy (key:=Name.key) W.ns n
 ·rcases List.mem_cons.mp (p.mem_iff.mp h) with e | q
  ·rw[e];exact hw
  ·exact W.nw y q
 ·obtain⟨w,hw,e⟩:=W.aa y h
  exact⟨w,m w hw,e⟩
 ·obtain⟨⟨w,hw,e⟩,r⟩:=W.ab y h hk
  exact⟨⟨w,m w hw,e⟩,r⟩
 ·obtain⟨r,w,hw,e⟩:=W.uw u h
  exact⟨r,w,m w hw,e⟩
 ·rcases List.mem_cons.mp (p.mem_iff.mp h) with e | q
  ·rw[e];exact k
  ·exact W.np w q
 ·show(Vbnlag.putName x s.names).length<=40
  rw[p.length_eq]
  simp
  omega
theorem WF.putUse (W:WF s){x:Int×Int}(n:x∉s.uses)(hw:∃w∈s.works,w.key=x.1)(hn:∃w∈s.names,w.key=x.2)(l:s.uses.length < 200):WF {s with uses:=putUse x s.uses}:=by
 have p:=NP x s.uses
 refine⟨W.ws,W.ns,?_,W.as,W.nw,W.aw,W.aa,W.ab,W.ak,fun u h=>?_,W.np,W.wd,W.lw,W.ln,?_,W.la⟩
 ·show(Vbnlag.putUse x s.uses).Pairwise _
  rw[MF]
  exact Hl U8 (fun y hy h=>U9 (fun e=>n (by rw[e];exact hy)) h) W.us
 ·rcases List.mem_cons.mp (p.mem_iff.mp h) with e | q
  ·rw[e];exact⟨hw,hn⟩
  ·exact W.uw u q
 ·show(Vbnlag.putUse x s.uses).length<=200
  rw[p.length_eq]
  simp
  omega
theorem WF.putAct (W:WF s){x:Act}(n:∀w∈s.acts,w.key≠x.key)(hw:∃w∈s.works,w.key=x.work)(ha:∃n∈s.names,n.key=x.a)(hb:x.kind<=3->(∃n∈s.names,n.key=x.b)∧x.a≠x.b)(hk:1<=x.kind∧x.kind<=5)(l:s.acts.length < 60) :
  WF {s with acts:=putKey x s.acts}:=by
 have p:=NQ x s.acts
 have all:∀(C:Act->Prop),C x->(∀y∈s.acts,C y)->∀y∈Vbnlag.putKey x s.acts,C y:=fun C h1 h2 y h=>by
  rcases List.mem_cons.mp (p.mem_iff.mp h) with e | q
  ·rw[e];exact h1
  ·exact h2 y q
 refine⟨W.ws,W.ns,W.us,?_,W.nw,all _ hw W.aw,all _ ha W.aa,all _ hb W.ab,all _ hk W.ak,W.uw,W.np,W.wd,W.lw,W.ln,W.lu,?_⟩
 ·show(Vbnlag.putKey x s.acts).Pairwise _
  rw[Jg]
  exact Fy (key:=Act.key) W.as n
 ·show(Vbnlag.putKey x s.acts).length<=60
  rw[p.length_eq]
  simp
  omega
theorem RV (W:WF s){x:Act}(h:actFault s x=0):keyOk x.key=true∧(∀w∈s.acts,w.key≠x.key)∧isWork s x.work=true∧isName s x.a=true∧(x.kind<=3->isName s x.b=true∧x.a≠x.b)∧s.acts.length < 60:=by
 unfold actFault at h
 split at h
 ·omega
 ·rename_i h1
  split at h
  ·omega
  ·rename_i h2
   split at h
   ·omega
   ·rename_i h3
    split at h
    ·omega
    ·rename_i h4
     split at h
     ·omega
     ·rename_i h5
      split at h
      ·omega
      ·rename_i h6
       have h2':(actOf s x.key)=none:=by
        cases q:actOf s x.key with
        | none=>rfl
        | some y=>rw[q]at h2;exact absurd rfl h2
       simp only[Bool.not_eq_false,Bool.and_eq_true]at h1 h3
       refine⟨h1,CZ.mp h2',h3.1,h3.2,fun k=>?_,by unfold ACTS at h6;omega⟩
       refine⟨?_,fun e=>h5 ⟨k,e⟩⟩
       cases q:isName s x.b with
       | true=>rfl
       | false=>exact absurd ⟨k,q⟩ h4
theorem WF.step (W:WF s)(c:Call)(h:∀kind k w a b,c= .act kind k w a b->1<=kind∧kind<=5):WF (step s c).1:=by
 cases c with
 | code c =>
  unfold Vbnlag.step
  dsimp only
  split
  ·exact W
  ·split
   ·exact W
   ·exact W.code c
 | work k day author =>
  unfold Vbnlag.step
  dsimp only
  split
  ·exact W
  ·split
   ·exact W
   ·rename_i h2
    split
    ·exact W
    ·rename_i h3
     split
     ·exact W
     ·rename_i h4
      simp only[Bool.not_eq_false,Bool.and_eq_true]at h2
      have hd:0<=day∧day<=LAST:=by
       have:=h2.1
       unfold dayOk within at this
       simpa using this
      exact W.putWork (Hu (by simpa using h3)) hd (by unfold WORKS at h4;omega)
 | name k w page =>
  unfold Vbnlag.step
  dsimp only
  split
  ·exact W
  ·rename_i h1
   split
   ·exact W
   ·split
    ·exact W
    ·rename_i h3
     split
     ·exact W
     ·rename_i h4
      split
      ·exact W
      ·rename_i h5
       have hk:1<=k:=by
        simp only[Bool.not_eq_false]at h1
        unfold keyOk within at h1
        simp at h1
        exact h1.1
       exact W.putName (Hv (by simpa using h3)) hk (Et W (by simpa using h4)) (by unfold NAMES at h5;omega)
 | use w n =>
  unfold Vbnlag.step
  dsimp only
  split
  ·exact W
  ·rename_i h1
   split
   ·exact W
   ·split
    ·exact W
    ·rename_i h3
     split
     ·exact W
     ·rename_i h4
      simp only[Bool.not_eq_false,Bool.and_eq_true]at h1
      exact W.putUse (by simpa using h3) (Et W h1.1) (Dm W h1.2) (by unfold USES at h4;omega)
 | act kind k w a b =>
  have hk:=h kind k w a b rfl
  have unf:Vbnlag.step s (.act kind k w a b)=if actFault s ⟨k,kind,w,a,if kind<=3 then b else 0⟩≠0 then(s,[actFault s ⟨k,kind,w,a,if kind<=3 then b else 0⟩]) else({s with acts:=putKey ⟨k,kind,w,a,if kind<=3 then b else 0⟩ s.acts},[0]):=rfl
  rw[unf]
  by_cases h1:actFault s ⟨k,kind,w,a,if kind<=3 then b else 0⟩=0
  ·rw[if_neg (fun q=>q h1)]
   obtain⟨_,b1,c1,d1,e1,f1⟩:=RV W h1
   exact W.putAct b1 (Et W c1) (Dm W d1) (fun q=>⟨Dm W (e1 q).1,(e1 q).2⟩) hk f1
  ·rw[if_pos h1]
   exact W
 | stands d k=>unfold Vbnlag.step;dsimp only;split <;>exact W
 | order d=>unfold Vbnlag.step;dsimp only;split <;>exact W
 | first d set=>unfold Vbnlag.step;dsimp only;split <;>exact W
 | why d set=>unfold Vbnlag.step;dsimp only;split <;>exact W
 | check d set l=>unfold Vbnlag.step;dsimp only;split <;>exact W
 | before d a b=>unfold Vbnlag.step;dsimp only;split <;>(try exact W) <;>split <;>exact W
 | fate d k=>unfold Vbnlag.step;dsimp only;split <;>(try exact W) <;>split <;>exact W
 | ring d k=>unfold Vbnlag.step;dsimp only;split <;>(try exact W) <;>split <;>(try exact W) <;>split <;>exact W
 | tally k=>unfold Vbnlag.step;dsimp only;split <;>(try exact W) <;>split <;>exact W
 | history set=>exact W
 | locked d=>unfold Vbnlag.step;dsimp only;split <;>exact W
 | told=>exact W
theorem call_inv {shape:Int->Option (Nat×Nat)}{l t:List Int}{c:List (List Int)}(h:PyFlat.call shape l=some (c,t)):∃x r n k xs,l=x::r∧shape x=some (n,k)∧n<=r.length∧PyFlat.rows k (r.drop n)=some (xs,t)∧c=(x::r.take n)::xs:=by
 cases l with
 | nil=>cases h
 | cons x r =>
  have unf:PyFlat.call shape (x::r)=match shape x with
   | none=>none
   | some (n,k)=>if r.length < n then none else match PyFlat.rows k (r.drop n) with
    | none=>none
    | some (xs,t)=>some ((x::r.take n)::xs,t):=rfl
  rw[unf]at h
  cases q:shape x with
  | none=>rw[q]at h;cases h
  | some p =>
   obtain⟨n,k⟩:=p
   rw[q]at h
   have h:(if r.length < n then none else match PyFlat.rows k (r.drop n) with
    | none=>none
    | some (xs,t)=>some ((x::r.take n)::xs,t))=some (c,t):=h
   split at h
   ·cases h
   ·rename_i hn
    split at h
    ·cases h
    ·rename_i xs t' e
     cases h
     exact⟨x,r,n,k,xs,rfl,q,by omega,e,rfl⟩
theorem rows_inv {k:Nat}{r t:List Int}{xs:List (List Int)}(h:PyFlat.rows (k + 1) r=some (xs,t)):∃m r' xs',r=m::r'∧0<=m∧m.toNat<=r'.length∧PyFlat.rows k (r'.drop m.toNat)=some (xs',t)∧xs=r'.take m.toNat::xs':=by
 unfold PyFlat.rows at h
 cases r with
 | nil=>cases h
 | cons m r' =>
  have unf:PyFlat.row (m::r')=if 0<=m∧m.toNat<=r'.length then some (r'.take m.toNat,r'.drop m.toNat) else none:=rfl
  rw[unf]at h
  by_cases c:0<=m∧m.toNat<=r'.length
  ·rw[if_pos c]at h
   have h:(match PyFlat.rows k (r'.drop m.toNat) with
    | none=>none
    | some (xs,t)=>some (r'.take m.toNat::xs,t))=some (xs,t):=h
   split at h
   ·cases h
   ·rename_i xs' t' e
    cases h
    exact⟨m,r',xs',rfl,c.1,c.2,e,rfl⟩
  ·rw[if_neg c]at h
   cases h
theorem Aa0 {shape:Int->Option (Nat×Nat)}{f:Nat}{l:List Int}{cs:List (List (List Int))}(h:PyFlat.calls shape f l=some cs):(l=[]∧cs=[])∨∃c t cs' f',PyFlat.call shape l=some (c,t)∧PyFlat.calls shape f' t=some cs'∧cs=c::cs':=by
 cases l with
 | nil =>
  unfold PyFlat.calls at h
  cases h
  exact .inl ⟨rfl,rfl⟩
 | cons p r =>
  right
  cases f with
  | zero=>cases h
  | succ f =>
   unfold PyFlat.calls at h
   split at h
   ·cases h
   ·rename_i c t e
    split at h
    ·cases h
    ·rename_i cs' e2
     cases h
     exact⟨c,t,cs',f,e,e2,rfl⟩
theorem Aa8 (c:List (List Int)):PyVbnlag.whole c=c:=by
 rcases c with _ | ⟨_ | ⟨x,xs⟩,r⟩
 ·rfl
 ·rcases r with _ | ⟨r0,_ | ⟨r1,_ | ⟨r2,r⟩⟩⟩ <;>rfl
 ·rcases x with n | n
  ·rcases n with _ | _ | _ | _ | _ | _ | _ | _ | _ | _ | _ | _ | _ | _ | _ | _ | _ | _ | _ | _ | _ | n <;>rcases r with _ | ⟨r0,_ | ⟨r1,_ | ⟨r2,r⟩⟩⟩ <;>rcases xs with _ | ⟨x0,_ | ⟨x1,_ | ⟨x2,_ | ⟨x3,_ | ⟨x4,_ | ⟨x5,x⟩⟩⟩⟩⟩⟩ <;>rfl
  ·rcases r with _ | ⟨r0,_ | ⟨r1,_ | ⟨r2,r⟩⟩⟩ <;>rcases xs with _ | ⟨x0,_ | ⟨x1,_ | ⟨x2,_ | ⟨x3,_ | ⟨x4,_ | ⟨x5,x⟩⟩⟩⟩⟩⟩ <;>rfl
theorem Aj0 (l:List Int):PyVbnlag.calls l=PyFlat.calls PyVbnlag.shape l.length l:=by
 unfold PyVbnlag.calls
 have e:PyVbnlag.whole=id:=by funext c;exact Aa8 c
 rw[e]
 cases PyFlat.calls PyVbnlag.shape l.length l with
 | none=>rfl
 | some cs=>simp
theorem Y8 (a:List Int)(r:List (List Int)):PyFlat.told (a::r)=(a.length:Int)::a++PyFlat.told r:=rfl
theorem W8 {x:Int}{n k:Nat}(h:PyVbnlag.shape x=some (n,k)):0<=x∧x<=20:=by
 unfold PyVbnlag.shape at h
 apply Classical.byContradiction
 intro q
 rw[if_neg (show ¬x=0 by omega),if_neg (show ¬x=1 by omega),if_neg (show ¬x=2 by omega),if_neg (show ¬x=3 by omega),if_neg (show ¬x=4 by omega),if_neg (show ¬x=5 by omega),if_neg (show ¬x=6 by omega),if_neg (show ¬x=7 by omega),if_neg (show ¬x=8 by omega),if_neg (show ¬x=9 by omega),if_neg (show ¬x=10 by omega),if_neg (show ¬x=11 by omega),if_neg (show ¬x=12 by omega),if_neg (show ¬x=13 by omega),if_neg (show ¬x=14 by omega),if_neg (show ¬x=15 by omega),if_neg (show ¬x=16 by omega),if_neg (show ¬x=17 by omega),if_neg (show ¬x=18 by omega),if_neg (show ¬x=19 by omega),if_neg (show ¬x=20 by omega)]at h
 cases h
end Nm
namespace L2
open PySem PySem.Spec PyProof.Rows
abbrev Key:=Sum Int Str
def Lx:Key->Value->Bool
 | .inl k,v=>Value.isInt k v
 | .inr x,v=>Value.isStrOf x v
def Be1 (w:World):Key->Int
 | .inl k=>hashInt k
 | .inr x=>hashStr w x
theorem Bx:∀{k:Key}{v:Value},Lx k v=true->(∃i t,k=Sum.inl i∧v=Value.int i t)∨(∃x t,k=Sum.inr x∧v=Value.str x t)
 | .inl i,v,h=>by
  obtain⟨t,e⟩:=Value.isInt_shape (k:=i) (v:=v) h
  exact .inl ⟨i,t,rfl,e⟩
 | .inr x,v,h=>by
  obtain⟨t,e⟩:=Value.isStrOf_shape (x:=x) (v:=v) h
  exact .inr ⟨x,t,rfl,e⟩
theorem ZQ (i:Int)(t:Tok):Lx (.inl i) (.int i t)=true:=by simp[Lx,Value.isInt]
theorem ZP (x:Str)(t:Tok):Lx (.inr x) (.str x t)=true:=by simp[Lx,Value.isStrOf]
theorem Av7 (a b:Int):decide ((Sum.inl a:Key)=Sum.inl b)=(a==b):=by
 by_cases e:a=b
 ·subst e;simp
 ·have h:¬(Sum.inl a:Key)=Sum.inl b:=fun q=>e (Sum.inl.inj q)
  rw[decide_eq_false h]
  exact(beq_eq_false_iff_ne.mpr e).symm
theorem Av4 (a b:Str):decide ((Sum.inr a:Key)=Sum.inr b)=decide (a=b):=by
 by_cases e:a=b
 ·subst e;simp
 ·have h:¬(Sum.inr a:Key)=Sum.inr b:=fun q=>e (Sum.inr.inj q)
  rw[decide_eq_false h,decide_eq_false e]
theorem Av6 (a:Int)(b:Str):decide ((Sum.inl a:Key)=Sum.inr b)=false:=decide_eq_false (fun q=>nomatch q)
theorem Av5 (a:Str)(b:Int):decide ((Sum.inr a:Key)=Sum.inl b)=false:=decide_eq_false (fun q=>nomatch q)
def Bq (prog:Program)(w:World):PySem.KeyKind prog w Key where
 is:=Lx
 hash:=Be1 w
 inj:=fun v a b ha hb=>by
  rcases Bx ha with⟨i,t,rfl,rfl⟩ | ⟨x,t,rfl,rfl⟩
  ·rcases Bx hb with⟨j,u,rfl,e⟩ | ⟨y,u,rfl,e⟩
   ·injection e with e1 _;rw[e1]
   ·exact nomatch e
  ·rcases Bx hb with⟨j,u,rfl,e⟩ | ⟨y,u,rfl,e⟩
   ·exact nomatch e
   ·injection e with e1 _;rw[e1]
 byValue:=fun k v h=>by
  rcases Bx h with⟨i,t,rfl,rfl⟩ | ⟨x,t,rfl,rfl⟩ <;>rfl
 pyHash:=fun hv h=>by
  rcases Bx hv with⟨i,t,rfl,rfl⟩ | ⟨x,t,rfl,rfl⟩
  ·exact wpAny_pyHash_int h
  ·exact wpAny_pyHash_str h
 eqBool:=fun hu hv h=>by
  rcases Bx hu with⟨i,t,rfl,rfl⟩ | ⟨x,t,rfl,rfl⟩
  ·rcases Bx hv with⟨j,u,rfl,rfl⟩ | ⟨y,u,rfl,rfl⟩
   ·rw[Av7]at h;exact wpAny_eqBool_int h
   ·rw[Av6]at h;exact SeqAt.EqAt.int_str i t y u _ _ _ _ h
  ·rcases Bx hv with⟨j,u,rfl,rfl⟩ | ⟨y,u,rfl,rfl⟩
   ·rw[Av5]at h;exact SeqAt.EqAt.str_int x t j u _ _ _ _ h
   ·rw[Av4]at h;exact wpAny_eqBool_str h
 «strs» :=fun k x t v h=>by
  rcases Bx h with⟨i,u,rfl,e⟩ | ⟨y,u,rfl,e⟩
  ·exact nomatch e
  ·injection e with e1 _
   subst e1
   cases v <;>rfl
theorem VB (prog:Program)(w:World)(i:Int)(t:Tok):(Bq prog w).is (.inl i) (.int i t)=true:=ZQ i t
theorem Vz (prog:Program)(w:World)(x:Str)(t:Tok):(Bq prog w).is (.inr x) (.str x t)=true:=ZP x t
end L2
namespace L2
open PySem PySem.Spec PyProof.Rows
inductive V where
 | non | bl (b:Bool) | int (i:Int) | str (x:Str) | byt (b:Array UInt8) | flt (b:UInt64) | ref (a:Addr) | ty (n:String)
 deriving DecidableEq
def RelV:V->Value->Prop
 | .non,u=>u=Value.none
 | .bl b,u=>u=Value.bool b
 | .int i,u=>∃t,u=Value.int i t
 | .str x,u=>∃t,u=Value.str x t
 | .byt b,u=>∃t,u=Value.bytes b t
 | .flt b,u=>∃t,u=Value.float b t
 | .ref a,u=>u=Value.ref a
 | .ty n,u=>u=Value.type n
abbrev Vals:List V->List Value->Prop:=Paired RelV
theorem Vals.length {xs:List V}{us:List Value}(r:Vals xs us):xs.length=us.length:=Paired.length r
theorem Vals.get:∀{xs:List V}{us:List Value}{i:Nat}{x:V},Vals xs us->xs[i]?=some x->∃u,us[i]?=some u∧RelV x u
 | _,_,_,_,.nil,e=>by simp at e
 | _,_,0,_,.cons r _,e=>by simp at e;subst e;exact⟨_,rfl,r⟩
 | _,_,i + 1,x,.cons _ t,e=>by
  obtain⟨u,h1,h2⟩:=Vals.get (i:=i) (x:=x) t (by simpa using e)
  exact⟨u,by simpa using h1,h2⟩
theorem Vals.set {x:V}{u:Value}(r:RelV x u):∀{xs:List V}{us:List Value}(i:Nat),Vals xs us->Vals (xs.set i x) (us.set i u)
 | _,_,_,.nil=> .nil
 | _,_,0,.cons _ t=> .cons r t
 | _,_,i + 1,.cons q t=> .cons q (Vals.set r i t)
theorem Vals.append:∀{xs ys:List V}{us ws:List Value},Vals xs us->Vals ys ws->Vals (xs++ys) (us++ws)
 | _,_,_,_,.nil,s=>s
 | _,_,_,_,.cons r t,s=> .cons r (Vals.append t s)
theorem Vals.take:∀{xs:List V}{us:List Value}(n:Nat),Vals xs us->Vals (xs.take n) (us.take n)
 | _,_,0,_=> .nil
 | _,_,_ + 1,.nil=> .nil
 | _,_,n + 1,.cons r t=> .cons r (Vals.take n t)
theorem Vals.drop:∀{xs:List V}{us:List Value}(n:Nat),Vals xs us->Vals (xs.drop n) (us.drop n)
 | _,_,0,r=>r
 | _,_,_ + 1,.nil=> .nil
 | _,_,n + 1,.cons _ t=>Vals.drop n t
def Jc:Option V->Option Value->Prop
 | some v,some u=>RelV v u
 | none,none=>True
 | _,_=>False
def KV {κ:Type}:List (κ×V)->List (κ×Value)->Prop:=Paired fun(p:κ×V)(q:κ×Value)=>p.1=q.1∧RelV p.2 q.2
def kV:Key->V
 | .inl i=> .int i
 | .inr x=> .str x
inductive HO where
 | lst (xs:List V)
 | tup (xs:List V)
 | dK (kvs:List (Key×V)) | dT (kvs:List (List Key×V))
 | set (S:Int->Bool) (n:Nat)
 | ins (C dx:Addr) (fs:List (Str×V))
 | own (x:Addr)
 | xd (fs:List (Str×V))
 | met (f x:Addr)
 | rng (lo hi:Int)
 | frz (o:Obj) (u:HO)
 | tbl (ps:Array Value)
 | ext (φ:Heap->Prop)
abbrev Hp:=Addr->Option HO
def upd (H:Hp)(a:Addr)(o:HO):Hp:=fun b=>if b=a then some o else H b
theorem Ab {H:Hp}{a:Addr}{o:HO}:upd H a o a=some o:=by unfold upd;rw[if_pos rfl]
theorem Ac {H:Hp}{a b:Addr}{o:HO}(h:b≠a):upd H a o b=H b:=by unfold upd;rw[if_neg h]
theorem Az9 {H:Hp}{a b:Addr}{o u:HO}(h:H a=some o)(h':H b=some u)(d:o≠u):a≠b:=by
 intro e;subst e;rw[h]at h';exact d (Option.some.inj h')
theorem Bp {H:Hp}{a b:Addr}{o:HO}(h:H a=some o)(h':H b=none):a≠b:=by
 intro e;subst e;rw[h]at h';cases h'
section
variable (P:Program)(w:World)
def Cp (H:Hp)(h:Heap)(a:Addr):HO->Prop
 | .lst xs=>xs.length<=sizeLine∧∃(its:List Value) (n:Nat),Vals xs its∧h.get? a=some {cls:= .type "list",data:= .seq its.toArray n}
 | .tup xs=>xs.length<=sizeLine∧∃its:List Value,Vals xs its∧IsTup h a its.toArray
 | .dK kvs=>kvs.length<=sizeLine∧(a==sysModules)=false∧∃vs,KV kvs vs∧h.DictOf (Bq P w) a vs
 | .dT kvs=>kvs.length<=sizeLine∧(a==sysModules)=false∧∃xs:List (List Key×Addr×Value),
   Paired (fun(p:List Key×V) (q:List Key×Addr×Value)=>p.1=q.1∧H q.2.1=some (.tup (p.1.map kV))∧RelV p.2 q.2.2) kvs xs ∧
   ∃o es ep,h.get? a=some o∧o.ExactDict∧o.data= .dict es ep∧es.toList=xs.map (entryOfKey (tupleKind (Bq P w)))∧(xs.map (·.1)).Nodup
 | .set S n=>h.SetOf (intKind P w) a S n
 | .ins C dx fs=>H dx=some (.own a)∧fs.length<=1000∧dx≠a∧h.get? a=some (PySem.W.instObj C dx) ∧
   ∃mA,h.Ns1 dx mA∧(∀f,Jc (fs.lookup f) (mA f))∧PySem.Within mA (fs.map (·.1))
 | .own _=>∃o,h.get? a=some o
 | .xd fs=>∃mA,h.Ns1 a mA∧∀f,Jc (fs.lookup f) (mA f)
 | .rng lo hi=>∃t u v,h.get? a=some {cls:= .type "range",data:= .fields #[.int lo t,.int hi u,.int 1 v]}
 | .frz o u=>h.get? a=some o∧Cp H h a u
 | .tbl ps=>h.get? a=some {cls:= .none,data:= .fields ps}
 | .met f x=>h.get? a=some (PySem.W.methodObj (.ref f) (.ref x))
 | .ext φ=>φ h∧(∃o,h.get? a=some o)∧∀h1 h2:Heap,φ h1->(∀o,h1.get? a=some o->h2.get? a=some o)->φ h2
def HOk (H:Hp)(h:Heap):Prop:=∀a o,H a=some o->Cp P w H h a o
end
section
variable {P:Program}{w:World}{H H':Hp}{h h':Heap}{a:Addr}{o:HO}
theorem Cp.lt (x:Cp P w H h a o):a < h.objs.size:=by
 cases o with
 | lst xs=>obtain⟨_,_,_,_,e⟩:=x;exact Heap.lt_size e
 | tup xs=>obtain⟨_,_,_,p⟩:=x;exact p.lt
 | dK kvs=>obtain⟨_,_,_,_,o,_,_,e,_⟩:=x;exact Heap.lt_size e
 | dT kvs=>obtain⟨_,_,_,_,o,_,_,e,_⟩:=x;exact Heap.lt_size e
 | set S n=>obtain⟨o,_,_,_,e,_⟩:=x;exact Heap.lt_size e
 | ins C dx fs=>obtain⟨_,_,_,e,_⟩:=x;exact Heap.lt_size e
 | own y=>obtain⟨_,e⟩:=x;exact Heap.lt_size e
 | xd fs=>obtain⟨_,⟨_,_,_,e,_⟩,_⟩:=x;exact Heap.lt_size e
 | rng lo hi=>obtain⟨_,_,_,e⟩:=x;exact Heap.lt_size e
 | frz ob u=>obtain⟨e,_⟩:=x;exact Heap.lt_size e
 | tbl ps=>exact Heap.lt_size (show h.get? a=some _ from x)
 | met f y=>exact Heap.lt_size (show h.get? a=some _ from x)
 | ext φ=>obtain⟨_,⟨_,e⟩,_⟩:=x;exact Heap.lt_size e
theorem Paired.An3 {α β:Type}{F G:α->β->Prop}:∀{l₁:List α}{l₂:List β},Paired F l₁ l₂->(∀a b,F a b->G a b)->Paired G l₁ l₂
 | _,_,.nil,_=> .nil
 | _,_,.cons r t,f=> .cons (f _ _ r) (Paired.An3 t f)
theorem Cp.stay (x:Cp P w H h a o)(k:∀b u,(b=a∨H b=some (.own a))->h.get? b=some u->h'.get? b=some u)
  (ho:∀b,H b=some (.own a)->H' b=some (.own a)) (ht:∀b xs,H b=some (.tup xs)->H' b=some (.tup xs)):Cp P w H' h' a o:=by
 induction o with
 | lst xs=>obtain⟨z,its,n,r,e⟩:=x;exact⟨z,its,n,r,k _ _ (.inl rfl) e⟩
 | tup xs=>obtain⟨z,its,r,ob,e,c⟩:=x;exact⟨z,its,r,ob,k _ _ (.inl rfl) e,c⟩
 | dK kvs=>obtain⟨z,y,vs,r,ob,es,ep,e,c⟩:=x;exact⟨z,y,vs,r,ob,es,ep,k _ _ (.inl rfl) e,c⟩
 | dT kvs =>
  obtain⟨z,y,xs,r,ob,es,ep,e,c⟩:=x
  exact⟨z,y,xs,Paired.An3 r fun p q z=>⟨z.1,ht _ _ z.2.1,z.2.2⟩,ob,es,ep,k _ _ (.inl rfl) e,c⟩
 | set S n=>obtain⟨ob,es,ep,t,e,c⟩:=x;exact⟨ob,es,ep,t,k _ _ (.inl rfl) e,c⟩
 | ins C dx fs =>
  obtain⟨d,z,ne,e,mA,⟨od,es,ep,e2,c⟩,r⟩:=x
  exact⟨ho _ d,z,ne,k _ _ (.inl rfl) e,mA,⟨od,es,ep,k _ _ (.inr d) e2,c⟩,r⟩
 | own y=>obtain⟨ob,e⟩:=x;exact⟨ob,k _ _ (.inl rfl) e⟩
 | xd fs=>obtain⟨mA,⟨od,es,ep,e,c⟩,r⟩:=x;exact⟨mA,⟨od,es,ep,k _ _ (.inl rfl) e,c⟩,r⟩
 | rng lo hi=>obtain⟨t,u,v,e⟩:=x;exact⟨t,u,v,k _ _ (.inl rfl) e⟩
 | frz ob u ih=>obtain⟨e,q⟩:=x;exact⟨k _ _ (.inl rfl) e,ih q⟩
 | tbl ps =>
  have e:h.get? a=some {cls:= .none,data:= .fields ps}:=x
  show h'.get? a=some {cls:= .none,data:= .fields ps}
  exact k a _ (.inl rfl) e
 | met f y =>
  have e:h.get? a=some (PySem.W.methodObj (.ref f) (.ref y)):=x
  show h'.get? a=some (PySem.W.methodObj (.ref f) (.ref y))
  exact k a _ (.inl rfl) e
 | ext φ=>obtain⟨p,⟨o,e⟩,st⟩:=x;exact⟨st _ _ p fun o q=>k _ _ (.inl rfl) q,⟨o,k _ _ (.inl rfl) e⟩,st⟩
theorem HOk.lt (x:HOk P w H h)(e:H a=some o):a < h.objs.size:=(x a o e).lt
theorem HOk.fresh (x:HOk P w H h)(e:h.objs.size<=a):H a=none:=by
 cases q:H a with
 | none=>rfl
 | some u=>exact absurd (Nat.lt_of_lt_of_le (x.lt q) e) (Nat.lt_irrefl _)
theorem HOk.kept (x:HOk P w H h)(k:∀b u,h.get? b=some u->h'.get? b=some u):HOk P w H h':=fun a o e =>
 (x a o e).stay (fun b u _ q=>k b u q) (fun _ q=>q) fun _ _ q=>q
theorem HOk.laid (x:HOk P w H h)(k:∀b u,h.get? b=some u->h'.get? b=some u)(hp:h.objs.size<=a)(new:Cp P w (upd H a o) h' a o):HOk P w (upd H a o) h':=fun b u e=>by
 have hn:=x.fresh hp
 by_cases hb:b=a
 ·subst hb;rw[Ab]at e;cases e;exact new
 ·rw[Ac hb]at e
  exact(x b u e).stay (fun c v _ q=>k c v q) (fun c q=>by rw[Ac (Bp q hn)];exact q) fun c xs q=>by rw[Ac (Bp q hn)];exact q
end
def Rd (H:Hp)(a:Addr)(u:HO):Prop:=H a=some u∨∃o,H a=some (.frz o u)
theorem Rd.ok {P:Program}{w:World}{H:Hp}{h:Heap}{a:Addr}{u:HO}(r:Rd H a u)(x:HOk P w H h):Cp P w H h a u:=by
 rcases r with r | ⟨o,r⟩
 ·exact x a u r
 ·obtain⟨_,q⟩:=x a _ r
  exact q
def Mut:Option HO->Prop
 | some (.lst _)=>True
 | some (.dK _)=>True
 | some (.dT _)=>True
 | some (.set _ _)=>True
 | some (.ins _ _ _)=>True
 | some (.ext _)=>True
 | _=>False
section
variable {P:Program}{w:World}{H:Hp}{h h':Heap}{x e:Addr}{o':HO}
theorem HOk.write (ok:HOk P w H h)(mu:Mut (H x))(he:e=x∨H e=some (.own x))(k:∀b u,b≠e->h.get? b=some u->h'.get? b=some u)(heo:∃u,h'.get? e=some u)
  (new:Cp P w (upd H x o') h' x o'):HOk P w (upd H x o') h':=fun b u q=>by
 have nown:∀c y,H c=some (.own y)->c≠x:=fun c y r z=>by subst z;rw[r]at mu;exact mu
 have ntup:∀c xs,H c=some (.tup xs)->c≠x:=fun c xs r z=>by subst z;rw[r]at mu;exact mu
 by_cases hb:b=x
 ·subst hb;rw[Ab]at q;cases q;exact new
 ·rw[Ac hb]at q
  by_cases hbe:b=e
  ·have q':H b=some (.own x):=by
    rcases he with z | z
    ·exact absurd (hbe.trans z) hb
    ·rw[hbe];exact z
   rw[q]at q';cases q'
   obtain⟨v,hv⟩:=heo
   exact⟨v,by rw[hbe];exact hv⟩
  ·refine(ok b u q).stay (fun c v hc r=>k c v ?_ r) (fun c r=>by rw[Ac (nown c b r)];exact r) fun c xs r=>by rw[Ac (ntup c xs r)];exact r
   rcases hc with rfl | hc
   ·exact hbe
   ·rintro rfl
    rcases he with z | z
    ·exact nown c b hc z
    ·rw[hc]at z;cases z;exact hb rfl
end
structure Un (fs ex:List Addr)(H H':Hp)(h h':Heap):Prop where
 keep:∀b o,h.get? b=some o->H b=none->b∉fs->b∉ex->h'.get? b=some o
 slot:∀b o,h.get? b=some o->H b=none->b∈fs->b∉ex->∃sl,h'.get? b=some {o with slots:=sl}
 free:∀b o,h.get? b=some o->H b=none->b∉ex->H' b=none
 there:∀b o,h.get? b=some o->b∉ex->∃o',h'.get? b=some o'
 tups:∀b xs,H b=some (.tup xs)->H' b=some (.tup xs)
 O7:∀b o u,H b=some (.frz o u)->H' b=some (.frz o u)
 PN:∀b ps,H b=some (.tbl ps)->∃more,H' b=some (.tbl (ps++more))
section
variable {fs fs' ex ex':List Addr}{H H1 H2:Hp}{h h1 h2 h':Heap}{a x e:Addr}{o:HO}
theorem Un.any (u:Un fs ex H H1 h h1){b:Addr}{ob:Obj}(q:h.get? b=some ob)(n:H b=none)(hx:b∉ex):∃sl,h1.get? b=some {ob with slots:=sl}:=by
 by_cases hb:b∈fs
 ·exact u.slot b ob q n hb hx
 ·exact⟨ob.slots,u.keep b ob q n hb hx⟩
theorem Un.kept (k:∀b u,h.get? b=some u->h'.get? b=some u):Un fs ex H H h h' :=
 ⟨fun b ob q _ _ _=>k b ob q,fun b ob q _ _ _=>⟨ob.slots,k b ob q⟩,fun _ _ _ n _=>n,fun b ob q _=>⟨ob,k b ob q⟩,fun _ _ q=>q,fun _ _ _ q=>q,fun _ ps q=>⟨#[],by rw[q];simp⟩⟩
theorem Un.refl:Un fs ex H H h h:=Un.kept fun _ _ q=>q
theorem Un.laid (k:∀b u,h.get? b=some u->h'.get? b=some u)(hp:h.objs.size<=a)(hn:H a=none):Un fs ex H (upd H a o) h h' where
 keep:=fun b u q _ _ _=>k b u q
 slot:=fun b u q _ _ _=>⟨u.slots,k b u q⟩
 free:=fun b u q n _=>by rw[Ac (Nat.ne_of_lt (Nat.lt_of_lt_of_le (Heap.lt_size q) hp))];exact n
 there:=fun b u q _=>⟨u,k b u q⟩
 tups:=fun b xs q=>by rw[Ac (Bp q hn)];exact q
 O7:=fun b u xs q=>by rw[Ac (Bp q hn)];exact q
 PN:=fun b ps q=>⟨#[],by rw[Ac (Bp q hn),q];simp⟩
theorem Un.write (mu:Mut (H x))(he:e=x∨H e=some (.own x))(k:∀b u,b≠e->h.get? b=some u->h'.get? b=some u)(heo:∃u,h'.get? e=some u):Un fs ex H (upd H x o) h h':=by
 have hx:∀b,H b=none->b≠x:=fun b n z=>by subst z;rw[n]at mu;exact mu
 have hb:∀b,H b=none->b≠e:=fun b n z=>by
  subst z
  rcases he with r | r
  ·exact hx b n r
  ·rw[n]at r;cases r
 have hm:∀b u,H b=some u->¬Mut (some u)->b≠x:=fun b u q nm z=>by subst z;rw[q]at mu;exact nm mu
 refine⟨fun b u q n _ _=>k b u (hb b n) q,fun b u q n _ _=>⟨u.slots,k b u (hb b n) q⟩,fun b u q n _=>by rw[Ac (hx b n)];exact n,fun b u q _=>?_,
  fun b xs q=>by rw[Ac (hm b _ q fun z=>z)];exact q,fun b u xs q=>by rw[Ac (hm b _ q fun z=>z)];exact q,fun b ps q=>⟨#[],by rw[Ac (hm b _ q fun z=>z),q];simp⟩⟩
 by_cases hbe:b=e
 ·subst hbe;exact heo
 ·exact⟨u,k b u hbe q⟩
end
def trk (h:Heap)(H:Hp):List Addr:=(List.range h.objs.size).filter fun a=>(H a).isSome
def RN (h:Heap)(H:Hp):Heap:=PySem.W.hideAll h (trk h H)
theorem ZV (h:Heap)(H:Hp):(RN h H).objs.size=h.objs.size:=PySem.W.hideAll_size _ _
theorem Ah8 {h:Heap}{H:Hp}{b:Addr}{o:Obj}(e:h.get? b=some o)(n:H b=none):(RN h H).get? b=some o :=
 PySem.W.hideAll_get _ e fun hm=>by
  have q:(H b).isSome=true:=(List.mem_filter.mp hm).2
  rw[n]at q;simp at q
theorem Am7 {h:Heap}{H:Hp}{b:Addr}{o:Obj}(e:(RN h H).get? b=some o):h.get? b=some o∧H b=none:=by
 have e':h.get? b=some o:=PySem.W.of_hideAll (trk h H) e
 refine⟨e',?_⟩
 cases q:H b with
 | none=>rfl
 | some x =>
  have hm:b∈trk h H:=List.mem_filter.mpr ⟨List.mem_range.mpr (Heap.lt_size e'),by simp[q]⟩
  have z:(RN h H).get? b=none:=PySem.W.hideAll_none (trk h H) hm
  rw[z]at e;cases e
end L2
namespace L2
open PySem PySem.Spec PyProof.Rows
structure Mod (K:PySem.W.Frag)(mg:Str->Option Value)(base:Heap):Prop where
 kin:K.In base
 glob:base.Ns mainGlobals mg
 blt:∃mb,base.Ns builtinsNs mb∧∀x:Str,x≠ "__name__" ->mb x=bootBuiltins x
 nolimit:base.NoLimit
structure Cx where
 prog:Program
 w:World
 K:PySem.W.Frag
 mg:Str->Option Value
 base:Heap
 A:Around
 N:List Str
 s_0:Shared
 H_0:Hp
 env:Env
 outer:List Env
 stack:List Env
 ex:List Addr
 fn:Str->Bool
 calm:Bool
 pn:List (Addr×Obj)
 xe:Value->Shared->Prop
def frs (l:List Env):List Addr:=l.filterMap (·.frame)
abbrev Cx.fs (X:Cx):List Addr:=frs X.outer
def Vis (sc:Scope)(x:Str):Prop:=sc.names.lookup x=some .local∨sc.names.lookup x=some .cell∨sc.names.lookup x=some .free
def Loc (sc:Scope)(x:Str):Prop:=sc.names.lookup x=some .local∨sc.names.lookup x=some .cell
def Look (env:Env)(h:Heap)(m:Str->Option Value)(x:Str)(u:Value):Prop :=
 (env.kindOf x=some .local∧m x=some u)∨((env.kindOf x=some .cell∨env.kindOf x=some .free)∧∃c,env.cells.lookup x=some c∧h.IsCell c (some u))
structure Cx.Ok (X:Cx):Prop where
 mod:Mod X.K X.mg X.base
 kind:X.env.scope.kind= .function
 glob:X.env.globals=mainGlobals
 blt:X.env.builtins=builtinsNs
 above:X.s_0.heap.objs.size<=X.env.locals
 inj:∀x y c,X.env.cells.lookup x=some c->X.env.cells.lookup y=some c->x=y
 has:∀x,(X.env.kindOf x=some .cell∨X.env.kindOf x=some .free)->∃c,X.env.cells.lookup x=some c
 cab:∀x c,X.fn x=true->X.env.cells.lookup x=some c->X.s_0.heap.objs.size<=c
 hd:X.calm=true->X.A.handled=none
 frames:X.A.frames=some X.stack
 stk:X.stack=X.outer∨(X.stack=X.env::X.outer∧X.env.frame=some X.env.locals)
 exf:∀b∈X.ex,b≠X.env.locals∧∀x c,X.env.cells.lookup x=some c->c≠b
 bs:∀b o,X.base.get? b=some o->X.s_0.heap.get? b=some o∧X.H_0 b=none
 bsz:X.base.objs.size<=X.s_0.heap.objs.size
 Ag0:∀b o,X.base.get? b=some o->b∉X.ex
 Ai2:∀b∈X.ex,b∉X.fs
 O6:X.s_0.heap.FunFrames X.base X.outer
 frf:∀b∈X.fs,X.H_0 b=none
structure Inv (X:Cx)(pins:List (Addr×Obj))(σ:List (Option V))(H:Hp)(s:Shared):Prop where
 ok:X.Ok
 os:s.os=X.s_0.os
 bare:AllBare s.gens
 base:Un X.fs X.ex X.H_0 H X.s_0.heap s.heap
 loc:∃m,s.heap.Ns X.env.locals m∧∀(i:Nat) (x:Str) (v:V),X.N[i]?=some x->σ[i]?=some (some v)->Vis X.env.scope x->∃u,RelV v u∧Look X.env s.heap m x u
 cell:∀x c,X.env.cells.lookup x=some c->∃v,s.heap.IsCell c v
 free:H X.env.locals=none
 Ew:∀x c,X.env.cells.lookup x=some c->H c=none
 pin:∀p∈X.pn++pins,s.heap.get? p.1=some p.2∧H p.1=none∧p.1≠X.env.locals∧p.1∉X.fs∧∀v,p.2.data≠ .cell v
 hok:HOk X.prog X.w H s.heap
 len:σ.length=X.N.length
section
variable {X:Cx}{pins:List (Addr×Obj)}{σ:List (Option V)}{H H':Hp}{s:Shared}{h':Heap}
theorem Cx.Ok.Bd9 (ok:X.Ok){b:Addr}{o:Obj}(e:X.base.get? b=some o):b∉X.fs:=fun hb=>by
 have:=(ok.O6.mem hb).1
 rw[e]at this;cases this
theorem Inv.bs (I:Inv X pins σ H s):∀b o,X.base.get? b=some o->s.heap.get? b=some o∧H b=none:=fun b o e =>
 ⟨I.base.keep b o (I.ok.bs b o e).1 (I.ok.bs b o e).2 (I.ok.Bd9 e) (I.ok.Ag0 b o e),I.base.free b o (I.ok.bs b o e).1 (I.ok.bs b o e).2 (I.ok.Ag0 b o e)⟩
theorem Inv.bk (I:Inv X pins σ H s):∀b o,X.base.get? b=some o->s.heap.get? b=some o:=fun b o e=>(I.bs b o e).1
theorem Inv.mod (I:Inv X pins σ H s):Mod X.K X.mg X.base:=I.ok.mod
theorem Inv.kIn (I:Inv X pins σ H s):X.K.In s.heap:=I.ok.mod.kin.keeps I.bk
theorem Inv.nolimit (I:Inv X pins σ H s):s.heap.NoLimit:=I.ok.mod.nolimit.keeps I.bk
theorem Inv.fr (I:Inv X pins σ H s):∃m,Fr X.base X.env.locals s.heap m :=
 let ⟨m,hn,_⟩:=I.loc
 ⟨m,hn,I.bk,Nat.le_trans I.ok.bsz I.ok.above⟩
theorem Inv.lt (I:Inv X pins σ H s):X.env.locals < s.heap.objs.size:=let ⟨_,hn,_⟩:=I.loc;hn.lt
theorem Inv.sz (I:Inv X pins σ H s):X.s_0.heap.objs.size<=s.heap.objs.size:=Nat.le_trans I.ok.above (Nat.le_of_lt I.lt)
theorem Inv.Bd8 (I:Inv X pins σ H s){a:Addr}(h:s.heap.objs.size<=a):a∉X.fs:=fun hb=>by
 obtain⟨_,o,ho,_⟩:=I.ok.O6.mem hb
 exact absurd (Nat.lt_of_lt_of_le (Heap.lt_size ho) (Nat.le_trans I.sz h)) (Nat.lt_irrefl _)
theorem Inv.cne (I:Inv X pins σ H s):∀x c,X.env.cells.lookup x=some c->c≠X.env.locals:=fun x c e z=>by
 obtain⟨v,o,ho,hd⟩:=I.cell x c e
 obtain⟨m,⟨o',es,ep,ho',hd',_⟩,_⟩:=I.loc
 rw[z,ho']at ho;cases ho;rw[hd']at hd;cases hd
theorem Inv.O6 (I:Inv X pins σ H s):s.heap.FunFrames X.base X.outer:=by
 have all:∀(l:List Env),(∀b∈frs l,b∈X.fs)->X.s_0.heap.FunFrames X.base l->s.heap.FunFrames X.base l:=by
  intro l
  induction l with
  | nil=>intro _ _;trivial
  | cons env r ih =>
   intro hs hl
   obtain⟨hk,⟨L,o,hf,hn,ho,hd⟩,hr⟩:=hl
   have hL:L∈X.fs:=hs L (by unfold frs;rw[List.filterMap_cons,hf];exact List.mem_cons_self)
   obtain⟨sl,e⟩:=I.base.slot L o ho (I.ok.frf L hL) hL fun z=>I.ok.Ai2 L z hL
   exact⟨hk,⟨L,_,hf,hn,e,hd⟩,ih (fun b hb=>hs b (by unfold frs;rw[List.filterMap_cons,hf];exact List.mem_cons_of_mem _ hb)) hr⟩
 exact all X.outer (fun _ hb=>hb) I.ok.O6
theorem Inv.stack (I:Inv X pins σ H s):s.heap.FunFrames X.base X.stack:=by
 rcases I.ok.stk with e | ⟨e,hf⟩
 ·rw[e];exact I.O6
 ·rw[e]
  obtain⟨m,hn,_⟩:=I.loc
  refine .cons (by rw[I.ok.kind];decide) hf hn ?_ I.O6
  exact Heap.get?_none_of_le (Nat.le_trans I.ok.bsz I.ok.above)
theorem Inv.Wy (I:Inv X pins σ H s):∀b∈frs X.stack,b∈X.env.locals::X.fs:=fun b hb=>by
 rcases I.ok.stk with e | ⟨e,hf⟩
 ·rw[e]at hb;exact List.mem_cons_of_mem _ hb
 ·rw[e]at hb
  unfold frs at hb
  rw[List.filterMap_cons,hf]at hb
  exact hb
theorem Inv.Tv (I:Inv X pins σ H s):∀b∈frs X.stack,H b=none:=fun b hb=>by
 rcases List.mem_cons.mp (I.Wy b hb) with e | hb
 ·rw[e];exact I.free
 ·obtain⟨_,o,ho,_⟩:=I.ok.O6.mem hb
  exact I.base.free b o ho (I.ok.frf b hb) fun z=>I.ok.Ai2 b z hb
theorem Inv.step {g':Array GenState}{t':Nat}{d':Drawn}{ch:List Addr}(I:Inv X pins σ H s)
  (hch:∀b∈ch,(b∈X.ex∨X.s_0.heap.objs.size<=b)∧b≠X.env.locals∧(∀x c,X.env.cells.lookup x=some c->c≠b)∧∀p∈X.pn++pins,p.1≠b)
  (keep:∀b o,b≠X.env.locals->b∉X.fs->b∉ch->s.heap.get? b=some o->H b=none->h'.get? b=some o)
  (slot:∀b o,b≠X.env.locals->b∈X.fs->b∉ch->s.heap.get? b=some o->H b=none->∃sl,h'.get? b=some {o with slots:=sl}) (free:∀b o,b∉ch->s.heap.get? b=some o->H b=none->H' b=none)
  (there:∀b o,b∉ch->s.heap.get? b=some o->∃o',h'.get? b=some o')
  (tups:∀b xs,H b=some (.tup xs)->H' b=some (.tup xs)) (O7:∀b o u,H b=some (.frz o u)->H' b=some (.frz o u)) (PN:∀b ps,H b=some (.tbl ps)->∃more,H' b=some (.tbl (ps++more)))
  (ns:∀m,s.heap.Ns X.env.locals m->h'.Ns X.env.locals m) (hok:HOk X.prog X.w H' h') (hg:AllBare g') :
  Inv X pins σ H' {s with heap:=h',gens:=g',drawn:=d',toks:=t'}:=by
 have neL:∀b o,X.s_0.heap.get? b=some o->b≠X.env.locals:=fun b o e=>Nat.ne_of_lt (Nat.lt_of_lt_of_le (Heap.lt_size e) I.ok.above)
 have neC:∀b o,X.s_0.heap.get? b=some o->b∉X.ex->b∉ch:=fun b o e hx hb=>by
  rcases(hch b hb).1 with z | z
  ·exact hx z
  ·exact absurd (Nat.lt_of_lt_of_le (Heap.lt_size e) z) (Nat.lt_irrefl _)
 have cellK:∀x c,X.env.cells.lookup x=some c->∀v,s.heap.IsCell c v->h'.IsCell c v:=fun x c e v ⟨o,ho,hd⟩=>by
  have nch:c∉ch:=fun z=>(hch c z).2.2.1 x c e rfl
  by_cases hc:c∈X.fs
  ·obtain⟨sl,q⟩:=slot c o (I.cne x c e) hc nch ho (I.Ew x c e)
   exact⟨_,q,hd⟩
  ·exact⟨o,keep c o (I.cne x c e) hc nch ho (I.Ew x c e),hd⟩
 refine⟨I.ok,I.os,hg,⟨fun b o e n hb hx=>?_,fun b o e n hb hx=>?_,fun b o e n hx=>?_,fun b o e hx=>?_,fun b xs e=>tups b xs (I.base.tups b xs e),fun b o xs e=>O7 b o xs (I.base.O7 b o xs e),fun b ps e=>?_⟩,?_,fun x c e=>?_,?_,fun x c e=>?_,fun p hp=>?_,hok,I.len⟩
 ·exact keep b o (neL b o e) hb (neC b o e hx) (I.base.keep b o e n hb hx) (I.base.free b o e n hx)
 ·obtain⟨sl,e1⟩:=I.base.slot b o e n hb hx
  obtain⟨sl',e2⟩:=slot b _ (neL b o e) hb (neC b o e hx) e1 (I.base.free b o e n hx)
  exact⟨sl',e2⟩
 ·obtain⟨o',e1⟩:=I.base.there b o e hx
  exact free b o' (neC b o e hx) e1 (I.base.free b o e n hx)
 ·obtain⟨o',e1⟩:=I.base.there b o e hx
  exact there b o' (neC b o e hx) e1
 ·obtain⟨m1,e1⟩:=I.base.PN b ps e
  obtain⟨m2,e2⟩:=PN b _ e1
  exact⟨m1++m2,by rw[e2,Array.append_assoc]⟩
 ·obtain⟨m,hn,hl⟩:=I.loc
  refine⟨m,ns m hn,fun i x v e1 e2 e3=>?_⟩
  obtain⟨u,r,l⟩:=hl i x v e1 e2 e3
  refine⟨u,r,?_⟩
  rcases l with l | ⟨k,c,e,z⟩
  ·exact .inl l
  ·exact .inr ⟨k,c,e,cellK x c e _ z⟩
 ·obtain⟨v,z⟩:=I.cell x c e
  exact⟨v,cellK x c e v z⟩
 ·obtain⟨m,⟨o,_,_,ho,_⟩,_⟩:=I.loc
  exact free _ o (fun z=>(hch _ z).2.1 rfl) ho I.free
 ·obtain⟨v,o,ho,hd⟩:=I.cell x c e
  exact free c o (fun z=>(hch c z).2.2.1 x c e rfl) ho (I.Ew x c e)
 ·obtain⟨e,n,ne,nf,d⟩:=I.pin p hp
  have nch:p.1∉ch:=fun z=>(hch p.1 z).2.2.2 p hp rfl
  exact⟨keep p.1 p.2 ne nf nch e n,free p.1 p.2 nch e n,ne,nf,d⟩
theorem Inv.un {t':Nat}(I:Inv X pins σ H s)(u:Un X.fs [] H H' s.heap h')(hok:HOk X.prog X.w H' h'):Inv X pins σ H' {s with heap:=h',toks:=t'}:=by
 obtain⟨m,⟨o,es,ep,ho,r⟩,_⟩:=id I.loc
 obtain⟨sl,hL⟩:=u.any ho I.free (by simp)
 exact I.step (g':=s.gens) (d':=s.drawn) (ch:=[]) (fun _ z=>nomatch z) (fun b o _ hb _ e n=>u.keep b o e n hb (by simp)) (fun b o _ hb _ e n=>u.slot b o e n hb (by simp)) (fun b o _ e n=>u.free b o e n (by simp)) (fun b o _ e=>u.there b o e (by simp)) u.tups u.O7 u.PN (fun m' hm=>by
  obtain⟨o',es',ep',ho',r'⟩:=hm
  rw[ho]at ho';cases ho'
  exact⟨_,es',ep',hL,r'⟩) hok I.bare
theorem Inv.call {g':Array GenState}{t':Nat}{d':Drawn}{ch:List Addr}(I:Inv X pins σ H s)(u:Un (frs X.stack) ch H H' s.heap h')(hok:HOk X.prog X.w H' h')(hg:AllBare g')
  (hch:∀b∈ch,(b∈X.ex∨X.s_0.heap.objs.size<=b)∧b≠X.env.locals∧(∀x c,X.env.cells.lookup x=some c->c≠b)∧∀p∈X.pn++pins,p.1≠b) :
  Inv X pins σ H' {s with heap:=h',gens:=g',drawn:=d',toks:=t'}:=by
 obtain⟨m,⟨o,es,ep,ho,r⟩,_⟩:=id I.loc
 obtain⟨sl,hL⟩:=u.any ho I.free fun z=>(hch _ z).2.1 rfl
 exact I.step (ch:=ch) hch (fun b o hL hb hc e n=>u.keep b o e n (fun z=>(List.mem_cons.mp (I.Wy b z)).elim hL hb) hc) (fun b o _ _ hc e n=>u.any e n hc) (fun b o hc e n=>u.free b o e n hc) (fun b o hc e=>u.there b o e hc) u.tups u.O7 u.PN (fun m' hm=>by
  obtain⟨o',es',ep',ho',r'⟩:=hm
  rw[ho]at ho';cases ho'
  exact⟨_,es',ep',hL,r'⟩) hok hg
theorem Inv.turned {t':Nat}{it:Addr}(I:Inv X pins σ H s)(k:∀b o,b≠it->s.heap.get? b=some o->h'.get? b=some o)(hn:H it=none)(hL:it≠X.env.locals)
  (h1:it∈X.ex∨X.s_0.heap.objs.size<=it) (h2:∀x c,X.env.cells.lookup x=some c->c≠it) (h3:∀p∈X.pn++pins,p.1≠it):Inv X pins σ H {s with heap:=h',toks:=t'}:=by
 have nit:∀b u,H b=some u->b≠it:=fun b u e z=>by rw[z,hn]at e;cases e
 refine I.step (g':=s.gens) (d':=s.drawn) (ch:=[it]) (fun b hb=>?_) (fun b o _ _ hc e _=>k b o (fun z=>hc (by simp[z])) e) (fun b o _ _ hc e _=>⟨o.slots,k b o (fun z=>hc (by simp[z])) e⟩) (fun _ _ _ _ n=>n)
  (fun b o hc e=>⟨o,k b o (fun z=>hc (by simp[z])) e⟩) (fun _ _ e=>e) (fun _ _ _ e=>e) (fun b ps e=>⟨#[],by rw[e];simp⟩) (fun m hm=>?_) (fun b u e=>?_) I.bare
 ·have e:b=it:=by simpa using hb
  subst e
  exact⟨h1,hL,h2,h3⟩
 ·obtain⟨o,es,ep,ho,r⟩:=hm
  exact⟨o,es,ep,k _ o (Ne.symm hL) ho,r⟩
 ·refine(I.hok b u e).stay (fun c v hc q=>k c v ?_ q) (fun _ q=>q) fun _ _ q=>q
  rcases hc with z | z
  ·rw[z];exact nit b u e
  ·exact nit c _ z
theorem Inv.tok (I:Inv X pins σ H s)(t:Nat):Inv X pins σ H {s with toks:=t}:=I.un (h':=s.heap) (t':=t) Un.refl I.hok
theorem Inv.kept {t':Nat}(I:Inv X pins σ H s)(k:∀b u,s.heap.get? b=some u->h'.get? b=some u):Inv X pins σ H {s with heap:=h',toks:=t'}:=I.un (Un.kept k) (I.hok.kept k)
theorem Inv.laid {a:Addr}{o:HO}{t':Nat}(I:Inv X pins σ H s)(k:∀b u,s.heap.get? b=some u->h'.get? b=some u)(hp:s.heap.objs.size<=a)(new:Cp X.prog X.w (upd H a o) h' a o) :
  Inv X pins σ (upd H a o) {s with heap:=h',toks:=t'}:=I.un (Un.laid k hp (I.hok.fresh hp)) (I.hok.laid k hp new)
theorem Inv.write {x e:Addr}{o:HO}{t':Nat}(I:Inv X pins σ H s)(mu:Mut (H x))(he:e=x∨H e=some (.own x))(k:∀b u,b≠e->s.heap.get? b=some u->h'.get? b=some u)(heo:∃u,h'.get? e=some u)
  (new:Cp X.prog X.w (upd H x o) h' x o):Inv X pins σ (upd H x o) {s with heap:=h',toks:=t'}:=I.un (Un.write mu he k heo) (I.hok.write mu he k heo new)
theorem Inv.weak {σ':List (Option V)}(I:Inv X pins σ H s)(hl:σ'.length=σ.length)(w:∀(i:Nat) v,σ'[i]?=some (some v)->σ[i]?=some (some v)):Inv X pins σ' H s :=
 ⟨I.ok,I.os,I.bare,I.base,let ⟨m,hn,hl'⟩:=I.loc;⟨m,hn,fun i x v e1 e2 e3=>hl' i x v e1 (w i v e2) e3⟩,I.cell,I.free,I.Ew,I.pin,I.hok,hl.trans I.len⟩
theorem Inv.Lf {pins':List (Addr×Obj)}(I:Inv X pins σ H s)(h:∀p∈pins',s.heap.get? p.1=some p.2∧H p.1=none∧p.1≠X.env.locals∧p.1∉X.fs∧∀v,p.2.data≠ .cell v):Inv X pins' σ H s :=
 ⟨I.ok,I.os,I.bare,I.base,I.loc,I.cell,I.free,I.Ew,fun p hp=>(List.mem_append.mp hp).elim (fun z=>I.pin p (List.mem_append_left _ z)) (h p),I.hok,I.len⟩
theorem Lq {N:List Str}(hN:N.Nodup){i j:Nat}{x:Str}(a:N[i]?=some x)(b:N[j]?=some x):i=j:=by
 obtain⟨h1,e1⟩:=List.getElem?_eq_some_iff.mp a
 obtain⟨h2,e2⟩:=List.getElem?_eq_some_iff.mp b
 exact(List.getElem_inj hN).mp (e1.trans e2.symm)
theorem R5 {M:Model}{A:Around}{E:Value->Shared->Prop}{i:Nat}{x:Str}{v:V}{u:Value}{Q:Unit->Shared->Prop}(I:Inv X pins σ H s)(hN:X.N.Nodup)(hi:X.N[i]?=some x)(hx:Loc X.env.scope x)(r:RelV v u)
  (h:∀s',Inv X pins (σ.set i (some v)) H s'->(∃a,Heap.SameBut a s.heap s'.heap∧(a=X.env.locals∨X.env.cells.lookup x=some a))->Q () s') (hf:X.fn x=true∨X.env.scope.names.lookup x=some .local:=by first | exact .inl rfl | exact .inr rfl | assumption):wpAny M A (storeName X.env x u) Q E s:=by
 obtain⟨m,hn,hl⟩:=id I.loc
 have hcls:(X.env.scope.kind== .class|| (X.env.scope.kind== .module&&X.env.locals !=X.env.globals))=false:=by rw[I.ok.kind];rfl
 have hiσ:i < σ.length:=by rw[I.len];exact(List.getElem?_eq_some_iff.mp hi).1
 have cne:=I.cne
 have tracked:∀{a:Addr} {h':Heap},(∃o,s.heap.get? a=some o∧H a=none)->Heap.SameBut a s.heap h'->HOk X.prog X.w H h':=fun {a h'} ha hs b ob e=>by
  obtain⟨_,_,hfree⟩:=ha
  refine(I.hok b ob e).stay (fun c w' hc q=>(hs.2 c ?_).trans q) (fun _ q=>q) fun _ _ q=>q
  rintro rfl
  rcases hc with rfl | hc
  ·rw[hfree]at e;cases e
  ·rw[hfree]at hc;cases hc
 rcases hx with hk | hk
 ·refine wpAny_storeName_local hk hn (fun h' hn' hs=>?_) hcls
  obtain⟨oL,_,_,hoL,_⟩:=id hn
  refine h _ ⟨I.ok,I.os,I.bare,⟨fun b o e n hb hx=>?_,fun b o e n hb hx=>?_,I.base.free,fun b o e hx=>?_,I.base.tups,I.base.O7,I.base.PN⟩,⟨_,hn',fun j y v' e1 e2 e3=>?_⟩,fun y c e=>?_,I.free,I.Ew,fun p hp=>?_,tracked ⟨oL,hoL,I.free⟩ hs,by simpa using I.len⟩ ⟨_,hs,.inl rfl⟩
  ·exact(hs.2 b (Nat.ne_of_lt (Nat.lt_of_lt_of_le (Heap.lt_size e) I.ok.above))).trans (I.base.keep b o e n hb hx)
  ·obtain⟨sl,e1⟩:=I.base.slot b o e n hb hx
   exact⟨sl,(hs.2 b (Nat.ne_of_lt (Nat.lt_of_lt_of_le (Heap.lt_size e) I.ok.above))).trans e1⟩
  ·obtain⟨o',e1⟩:=I.base.there b o e hx
   exact⟨o',(hs.2 b (Nat.ne_of_lt (Nat.lt_of_lt_of_le (Heap.lt_size e) I.ok.above))).trans e1⟩
  ·by_cases hj:j=i
   ·subst hj
    rw[hi]at e1;cases e1
    rw[List.getElem?_set_self hiσ]at e2
    cases e2
    exact⟨u,r,.inl ⟨hk,by simp⟩⟩
   ·rw[List.getElem?_set_ne (Ne.symm hj)]at e2
    obtain⟨u',r',q⟩:=hl j y v' e1 e2 e3
    refine⟨u',r',?_⟩
    rcases q with⟨k,e⟩ | ⟨k,c,e,z⟩
    ·refine .inl ⟨k,?_⟩
     have:y≠x:=fun e=>hj (Lq hN e1 (e▸hi))
     simp[this,e]
    ·exact .inr ⟨k,c,e,z.sameBut hs (cne y c e)⟩
  ·obtain⟨w',z⟩:=I.cell y c e
   exact⟨w',z.sameBut hs (cne y c e)⟩
  ·obtain⟨e,n,ne,nf,d⟩:=I.pin p hp
   exact⟨(hs.2 p.1 ne).trans e,n,ne,nf,d⟩
 ·have hfn:X.fn x=true:=by
   rcases hf with z | z
   ·exact z
   ·rw[z]at hk;cases hk
  obtain⟨c,hc⟩:=I.ok.has x (.inl hk)
  obtain⟨w',z⟩:=I.cell x c hc
  refine wpAny_storeName_cell I.ok.kind hk hc z (fun h' hc' hs=>?_)
  obtain⟨oc,hoc,hocd⟩:=id z
  refine h {s with heap:=h'} ⟨I.ok,I.os,I.bare,⟨fun b o e n hb hx=>?_,fun b o e n hb hx=>?_,I.base.free,fun b o e hx=>?_,I.base.tups,I.base.O7,I.base.PN⟩,⟨m,hn.sameBut hs (Ne.symm (cne x c hc)),fun j y v' e1 e2 e3=>?_⟩,fun y c' e=>?_,I.free,I.Ew,fun p hp=>?_,tracked ⟨oc,hoc,I.Ew x c hc⟩ hs,by simpa using I.len⟩ ⟨c,hs,.inr hc⟩
  ·exact(hs.2 b (Nat.ne_of_lt (Nat.lt_of_lt_of_le (Heap.lt_size e) (I.ok.cab x c hfn hc)))).trans (I.base.keep b o e n hb hx)
  ·obtain⟨sl,e1⟩:=I.base.slot b o e n hb hx
   exact⟨sl,(hs.2 b (Nat.ne_of_lt (Nat.lt_of_lt_of_le (Heap.lt_size e) (I.ok.cab x c hfn hc)))).trans e1⟩
  ·obtain⟨o',e1⟩:=I.base.there b o e hx
   exact⟨o',(hs.2 b (Nat.ne_of_lt (Nat.lt_of_lt_of_le (Heap.lt_size e) (I.ok.cab x c hfn hc)))).trans e1⟩
  ·by_cases hj:j=i
   ·subst hj
    rw[hi]at e1;cases e1
    rw[List.getElem?_set_self hiσ]at e2
    cases e2
    exact⟨u,r,.inr ⟨.inl hk,c,hc,hc'⟩⟩
   ·rw[List.getElem?_set_ne (Ne.symm hj)]at e2
    obtain⟨u',r',q⟩:=hl j y v' e1 e2 e3
    refine⟨u',r',?_⟩
    rcases q with q | ⟨k,c',e,z'⟩
    ·exact .inl q
    ·refine .inr ⟨k,c',e,z'.sameBut hs ?_⟩
     rintro rfl
     exact hj (Lq hN e1 (I.ok.inj _ _ _ e hc▸hi))
  ·by_cases hcc:c'=c
   ·subst hcc;exact⟨_,hc'⟩
   ·obtain⟨w2,z2⟩:=I.cell y c' e
    exact⟨w2,z2.sameBut hs hcc⟩
  ·obtain⟨e,n,ne,nf,d⟩:=I.pin p hp
   refine⟨(hs.2 p.1 ?_).trans e,n,ne,nf,d⟩
   intro q
   rw[q,hoc]at e
   have q':oc=p.2:=Option.some.inj e
   exact d w' (by rw[← q'];exact hocd)
theorem P0 {M:Model}{A:Around}{E:Value->Shared->Prop}{i:Nat}{x:Str}{v:V}{u:Value}{Q:Unit->Shared->Prop}(I:Inv X pins σ H s)(hN:X.N.Nodup)(hi:X.N[i]?=some x)(hx:Loc X.env.scope x)(r:RelV v u)
  (h:∀s',Inv X pins (σ.set i (some v)) H s'->Q () s') (hf:X.fn x=true∨X.env.scope.names.lookup x=some .local:=by first | exact .inl rfl | exact .inr rfl | assumption):wpAny M A (storeName X.env x u) Q E s :=
 R5 I hN hi hx r (fun s' I' _=>h s' I') hf
theorem Inv.call' {s':Shared}{ch:List Addr}(I:Inv X pins σ H s)(ho:s'.os=s.os)(u:Un (frs X.stack) ch H H' s.heap s'.heap)(hok:HOk X.prog X.w H' s'.heap)(hg:AllBare s'.gens)
  (hch:∀b∈ch,(b∈X.ex∨X.s_0.heap.objs.size<=b)∧b≠X.env.locals∧(∀x c,X.env.cells.lookup x=some c->c≠b)∧∀p∈X.pn++pins,p.1≠b):Inv X pins σ H' s':=by
 obtain⟨h',g',d',t',o'⟩:=s'
 have e:o'=s.os:=ho
 subst e
 exact I.call (g':=g') (t':=t') (d':=d') u hok hg hch
end
abbrev XK:=Value->Option Addr->Hp->Prop
abbrev St:=List (Option V)
abbrev VK:=V->Hp->Prop
abbrev TE:=St->Hp->VK->Prop
abbrev TT:=St->Hp->(Bool->Hp->Prop)->Prop
abbrev TA:=St->Hp->(List V->Hp->Prop)->Prop
structure Ends where
 nx:St->Hp->Prop
 rt:VK
 bk:St->Hp->Prop:=fun _ _=>False
 ct:St->Hp->Prop:=fun _ _=>False
abbrev TS:=Ends->St->Hp->Prop
def EP (X:Cx)(pins:List (Addr×Obj))(σ:St)(Q:VK)(u:Value)(s':Shared):Prop:=∃v H',Inv X pins σ H' s'∧RelV v u∧Q v H'
def TP (X:Cx)(pins:List (Addr×Obj))(σ:St)(Q:Bool->Hp->Prop)(b:Bool)(s':Shared):Prop:=∃H',Inv X pins σ H' s'∧Q b H'
def AP (X:Cx)(pins:List (Addr×Obj))(σ:St)(Q:List V->Hp->Prop)(us:List Value)(s':Shared):Prop:=∃vs H',Inv X pins σ H' s'∧Vals vs us∧Q vs H'
def SP (X:Cx)(pins:List (Addr×Obj))(D:Ends)(f:Flow)(s':Shared):Prop :=
 match f with
 | .next=>∃σ' H',Inv X pins σ' H' s'∧D.nx σ' H'
 | .brk=>∃σ' H',Inv X pins σ' H' s'∧D.bk σ' H'
 | .cont=>∃σ' H',Inv X pins σ' H' s'∧D.ct σ' H'
 | .ret u=>∃v σ' H',Inv X pins σ' H' s'∧RelV v u∧D.rt v H'
def PE (X:Cx)(e:Expr)(t:TE):Prop :=
 ∀(pins:List (Addr×Obj)) (s:Shared) (σ:St) (H:Hp) (Q:VK),Inv X pins σ H s->t σ H Q->wpAny (model X.prog X.w) X.A (eval e X.env) (EP X pins σ Q) X.xe s
def PT (X:Cx)(e:Expr)(t:TT):Prop :=
 ∀(pins:List (Addr×Obj)) (s:Shared) (σ:St) (H:Hp) (Q:Bool->Hp->Prop),Inv X pins σ H s->t σ H Q->wpAny (model X.prog X.w) X.A (isTrue e X.env (eval e X.env)) (TP X pins σ Q) X.xe s
def PW (X:Cx)(e:Expr)(t:TT):Prop :=
 ∀(whole:Sem Value) (pins:List (Addr×Obj)) (s:Shared) (σ:St) (H:Hp) (Q:Bool->Hp->Prop),Inv X pins σ H s->t σ H Q->wpAny (model X.prog X.w) X.A (isTrue e X.env whole) (TP X pins σ Q) X.xe s
theorem PW.pt {X:Cx}{e:Expr}{t:TT}(h:PW X e t):PT X e t:=h _
def PA (X:Cx)(es:List Expr)(t:TA):Prop :=
 ∀(pos:Pos) (pins:List (Addr×Obj)) (s:Shared) (σ:St) (H:Hp) (Q:List V->Hp->Prop),Inv X pins σ H s->t σ H Q->wpAny (model X.prog X.w) X.A (spliced (backTo pos (starEach es X.env))) (AP X pins σ Q) X.xe s
def PS (X:Cx)(st:Stmt)(t:TS):Prop :=
 ∀(pins:List (Addr×Obj)) (s:Shared) (σ:St) (H:Hp) (D:Ends),Inv X pins σ H s->t D σ H->wpAny (model X.prog X.w) X.A (exec st X.env) (SP X pins D) X.xe s
def PSs (X:Cx)(st:List Stmt)(t:TS):Prop :=
 ∀(pins:List (Addr×Obj)) (s:Shared) (σ:St) (H:Hp) (D:Ends),Inv X pins σ H s->t D σ H->wpAny (model X.prog X.w) X.A (execs st X.env) (SP X pins D) X.xe s
theorem thn {α:Type}{t:Sem α}{Q Q':α->Shared->Prop}{M:Model}{A:Around}{E:Value->Shared->Prop}{s:Shared}(h:wpAny M A t Q E s)(hQ:∀a s,Q a s->Q' a s):wpAny M A t Q' E s:=wpAny_mono h hQ fun _ _ x=>x
end L2
namespace L2
open PySem PySem.Spec PyProof.Rows
section
variable {X:Cx}
theorem bin {a b:Expr}{ta tb:TE}(ha:PE X a ta)(hb:PE X b tb){pins:List (Addr×Obj)}{s:Shared}{σ:St}{H:Hp}{R:V->V->Hp->Prop}(I:Inv X pins σ H s)(h:ta σ H fun x H1=>tb σ H1 fun y H2=>R x y H2)
  {α:Type} {Q:α->Shared->Prop} {f:Value->Value->Sem α}
  (hf:∀v u s2 x y H2,Inv X pins σ H2 s2->RelV x v->RelV y u->R x y H2->wpAny (model X.prog X.w) X.A (f v u) Q X.xe s2) :
  wpAny (model X.prog X.w) X.A (eval a X.env) (fun v s₁=>wpAny (model X.prog X.w) X.A (eval b X.env) (fun u s₂=>wpAny (model X.prog X.w) X.A (f v u) Q X.xe s₂) X.xe s₁) X.xe s:=by
 refine thn (ha pins s σ H _ I h) fun v s1 ⟨x,H1,I1,r1,q1⟩=>?_
 refine thn (hb pins s1 σ H1 _ I1 q1) fun u s2 ⟨y,H2,I2,r2,q2⟩=>?_
 exact hf v u s2 x y H2 I2 r1 r2 q2
def PX (i:Nat):TE:=fun σ H Q=>∃v,σ[i]?=some (some v)∧Q v H
def tC (v:V):TE:=fun _ H Q=>Q v H
theorem Au5 {i:Nat}{x:Str}{pos:Pos}(hN:X.N[i]?=some x)(hv:Vis X.env.scope x)(hd:(x==("__debug__" :Str))=false:=by decide)(hcd:(x==("__classdict__" :Str))=false:=by decide):PE X (.Name x pos) (PX i):=by
 intro pins s σ H Q I h
 obtain⟨v,e,h⟩:=h
 obtain⟨m,hn,hl⟩:=I.loc
 obtain⟨u,r,l⟩:=hl i x v hN e hv
 have fin:EP X pins σ Q u s:=⟨v,H,I,r,h⟩
 rcases l with⟨hk,hm⟩ | ⟨hk,c,hc,hcell⟩
 ·exact wpAny_Name (wpAny_loadName_local I.ok.kind hk hn hm fin) hd
 ·rcases hk with hk | hk
  ·exact wpAny_Name (wpAny_loadName_cell I.ok.kind hk hc hcell fin) hd
  ·exact wpAny_Name (wpAny_loadName_free I.ok.kind hk hc hcell fin hcd) hd
theorem Ah {i j pos}:PE X (.Constant (.int i) j pos) (tC (.int i)):=fun _ _ _ H _ I h=>wpAny_Constant_int ⟨.int i,H,I.tok _,⟨_,rfl⟩,h⟩
theorem Vr {b j pos}:PE X (.Constant (.bool b) j pos) (tC (.bl b)):=fun _ _ _ H _ I h=>Constant_bool ⟨.bl b,H,I,rfl,h⟩
def Gl (X:Cx)(x:Str):Prop:=X.env.kindOf x=some .globalImplicit
theorem Pu {E:Value->Shared->Prop}{pins:List (Addr×Obj)}{s:Shared}{σ:St}{H:Hp}{x:Str}{u:Value}{pos:Pos}{Q:Value->Shared->Prop}(I:Inv X pins σ H s)(hg:Gl X x)(hm:X.mg x=some u)(h:Q u s)
  (hd:(x==("__debug__" :Str))=false:=by decide):wpAny (model X.prog X.w) X.A (eval (.Name x pos) X.env) Q E s :=
 Calls.Name_function_global I.ok.kind hg (Calls.loadGlobal_global (by rw[I.ok.glob];exact I.mod.glob.keeps I.bk) hm h) hd
theorem Ng {E:Value->Shared->Prop}{pins:List (Addr×Obj)}{s:Shared}{σ:St}{H:Hp}{x:Str}{u:Value}{pos:Pos}{Q:Value->Shared->Prop}(I:Inv X pins σ H s)(hg:Gl X x)(hm:X.mg x=none)(hv:bootBuiltins x=some u)(h:Q u s)
  (hn:x≠ "__name__" :=by decide) (hd:(x==("__debug__" :Str))=false:=by decide):wpAny (model X.prog X.w) X.A (eval (.Name x pos) X.env) Q E s:=by
 obtain⟨mb,h1,h2⟩:=I.mod.blt
 exact Calls.Name_function_global I.ok.kind hg (Calls.loadGlobal_builtin (by rw[I.ok.glob];exact I.mod.glob.keeps I.bk) hm (by rw[I.ok.blt];exact h1.keeps I.bk) ((h2 x hn).trans hv) h) hd
theorem Pq {x:Str}{v:V}{u:Value}{pos:Pos}(hg:Gl X x)(hm:X.mg x=some u)(r:RelV v u)(hd:(x==("__debug__" :Str))=false:=by decide):PE X (.Name x pos) (tC v) :=
 fun _ _ _ H _ I h=>Pu I hg hm ⟨v,H,I,r,h⟩ hd
variable {a b:Expr}{ta tb:TE}{pos:Pos}
def PC (X:Cx)(op:CmpOp)(a b:Expr)(t:TE):Prop :=
 ∀(pins:List (Addr×Obj)) (s:Shared) (σ:St) (H:Hp) (Q:VK),Inv X pins σ H s->t σ H Q ->
  wpAny (model X.prog X.w) X.A (eval a X.env) (fun v s₁=>wpAny (model X.prog X.w) X.A (eval b X.env) (fun u s₂=>wpAny (model X.prog X.w) X.A (compareOp op v u) (EP X pins σ Q) X.xe s₂) X.xe s₁) X.xe s
def tB (t:TE):TT:=fun σ H Q=>t σ H fun x H1=>∃c,x= .bl c∧Q c H1
theorem Af1 {op:CmpOp}{t:TE}(h:PC X op a b t)(h1:behindInMarks op b=false:=by first | exact nobehind _ (by decide) (by decide) | rfl):PE X (.Compare a [op] [b] pos) t:=fun pins s σ H Q I hw=>wpAny_Compare1 (h pins s σ H Q I hw) h1
theorem Dg {op:CmpOp}{t:TE}(h:PC X op a b t)(h1:behindInMarks op b=false:=by first | exact nobehind _ (by decide) (by decide) | rfl):PT X (.Compare a [op] [b] pos) (tB t):=by
 intro pins s σ H Q I hw
 refine wpAny_isTrue_Compare1 (thn (h pins s σ H _ I hw) fun v s1 h1=>thn h1 fun u s2 h2=>thn h2 fun c s3 ⟨x,H1,I1,r1,q1⟩=>?_) h1
 obtain⟨d,rfl,q⟩:=q1
 cases r1
 exact wpAny_truthy_bool ⟨H1,I1,q⟩
theorem BW {e:Expr}{t:TE}(h:PE X e t)(he:∀whole,isTrue e X.env whole=(do let v ← whole;standAt e.pos;holding [v] (truthy v)):=by intro _;rfl):PT X e (tB t):=by
 intro pins s σ H Q I hw
 refine isTrue_plain (thn (h pins s σ H _ I hw) fun v s1 ⟨x,H1,I1,r1,q1⟩=>?_) (he _)
 obtain⟨d,rfl,q⟩:=q1
 cases r1
 exact wpAny_truthy_bool ⟨H1,I1,q⟩
variable {tA tB':TT}{rest:List Expr}
def Az5 (t u:TT):TT:=fun σ H Q=>t σ H fun c H1=>if c=true then u σ H1 Q else Q false H1
def tOr (t u:TT):TT:=fun σ H Q=>t σ H fun c H1=>if c=true then Q true H1 else u σ H1 Q
def Ay6 (t:TT):TT:=fun σ H Q=>t σ H fun c H1=>Q (!c) H1
theorem En (ha:PT X a tA):PW X (.BoolOp .And [a] pos) tA:=by
 intro wh pins s σ H Q I h
 refine isTrue_and (thn (ha pins s σ H Q I h) fun c s1 e=>?_)
 cases c with
 | true=>exact isTrue_and_nil e
 | false=>exact e
theorem Mx (ha:PT X a tA):PW X (.BoolOp .Or [a] pos) tA:=by
 intro wh pins s σ H Q I h
 refine isTrue_or (thn (ha pins s σ H Q I h) fun c s1 e=>?_)
 cases c with
 | false=>exact isTrue_or_nil e
 | true=>exact e
theorem Fx (ha:PT X a tA)(hb:PW X (.BoolOp .And (b::rest) pos) tB'):PW X (.BoolOp .And (a::b::rest) pos) (Az5 tA tB'):=by
 intro wh pins s σ H Q I h
 refine isTrue_and (thn (ha pins s σ H _ I h) fun c s1 ⟨H1,I1,q1⟩=>?_)
 cases c with
 | true=>exact hb wh pins s1 σ H1 Q I1 q1
 | false=>exact⟨H1,I1,q1⟩
theorem Sd (ha:PT X a tA)(hb:PW X (.BoolOp .Or (b::rest) pos) tB'):PW X (.BoolOp .Or (a::b::rest) pos) (tOr tA tB'):=by
 intro wh pins s σ H Q I h
 refine isTrue_or (thn (ha pins s σ H _ I h) fun c s1 ⟨H1,I1,q1⟩=>?_)
 cases c with
 | true=>exact⟨H1,I1,q1⟩
 | false=>exact hb wh pins s1 σ H1 Q I1 q1
theorem Df (ha:PT X a tA):PT X (.UnaryOp .Not a pos) (Ay6 tA):=by
 intro pins s σ H Q I h
 exact isTrue_not (ha pins s σ H (fun c H1=>Q (!c) H1) I h)
def Az4 (ta tb:TE):TE:=fun σ H Q=>ta σ H fun x H1=>∃c,x= .bl c∧if c=true then tb σ H1 Q else Q (.bl false) H1
def Bb8 (ta tb:TE):TE:=fun σ H Q=>ta σ H fun x H1=>∃c,x= .bl c∧if c=true then Q (.bl true) H1 else tb σ H1 Q
theorem Ug {op}{t:TE}(h:PE X a t):PE X (.BoolOp op [a] pos) t:=fun pins s σ H Q I hw=>BoolOp_one (h pins s σ H Q I hw)
theorem J3 (ha:PE X a ta)(hb:PE X (.BoolOp .And (b::rest) pos) tb):PE X (.BoolOp .And (a::b::rest) pos) (Az4 ta tb):=by
 intro pins s σ H Q I h
 refine BoolOp_and (thn (ha pins s σ H _ I h) fun v s1 ⟨x,H1,I1,r1,q1⟩=>?_)
 obtain⟨c,rfl,q1⟩:=q1
 cases r1
 refine wpAny_truthy_bool ?_
 cases c with
 | true=>exact hb pins s1 σ H1 Q I1 q1
 | false=>exact⟨.bl false,H1,I1,rfl,q1⟩
theorem Az7 (ha:PE X a ta)(hb:PE X (.BoolOp .Or (b::rest) pos) tb):PE X (.BoolOp .Or (a::b::rest) pos) (Bb8 ta tb):=by
 intro pins s σ H Q I h
 refine BoolOp_or (thn (ha pins s σ H _ I h) fun v s1 ⟨x,H1,I1,r1,q1⟩=>?_)
 obtain⟨c,rfl,q1⟩:=q1
 cases r1
 refine wpAny_truthy_bool ?_
 cases c with
 | false=>exact hb pins s1 σ H1 Q I1 q1
 | true=>exact⟨.bl true,H1,I1,rfl,q1⟩
def tIf (t:TT)(ta tb:TE):TE:=fun σ H Q=>t σ H fun c H1=>if c=true then ta σ H1 Q else tb σ H1 Q
theorem FJ {c:Expr}(hc:PT X c tA)(ha:PE X a ta)(hb:PE X b tb):PE X (.IfExp c a b pos) (tIf tA ta tb):=by
 intro pins s σ H Q I h
 refine wpAny_IfExp (thn (hc pins s σ H _ I h) fun d s1 ⟨H1,I1,q1⟩=>?_)
 cases d with
 | true=>exact ha pins s1 σ H1 Q I1 q1
 | false=>exact hb pins s1 σ H1 Q I1 q1
end
end L2
namespace L2
open PySem PySem.Spec PyProof.Rows
def SqL (K:PySem.W.Frag)(H:Hp)(a:Addr)(xs:List V):Prop :=
 Rd H a (.lst xs) ∨
  ∃(o:Obj) (its:Array Value) (n:Nat),K.lookup a=some o∧o.cls= .type "list" ∧o.dict=none∧o.data= .seq its n∧its.size<=sizeLine∧Vals xs its.toList
def SqT (K:PySem.W.Frag)(H:Hp)(a:Addr)(xs:List V):Prop :=
 Rd H a (.tup xs) ∨
  ∃(o:Obj) (its:Array Value) (n:Nat),K.lookup a=some o∧o.cls= .type "tuple" ∧o.data= .seq its n∧its.size<=sizeLine∧Vals xs its.toList
def Bf0:Value->Option V
 | .none=>some .non
 | .bool b=>some (.bl b)
 | .int i _=>some (.int i)
 | .str x _=>some (.str x)
 | .bytes b _=>some (.byt b)
 | .float b _=>some (.flt b)
 | .ref a=>some (.ref a)
 | .type n=>some (.ty n)
 | _=>none
theorem RelV.abs {x:V}{u:Value}(r:RelV x u):Bf0 u=some x:=by
 cases x with
 | non=>cases r;rfl
 | bl _=>cases r;rfl
 | int _=>obtain⟨t,rfl⟩:=r;rfl
 | str _=>obtain⟨t,rfl⟩:=r;rfl
 | byt _=>obtain⟨t,rfl⟩:=r;rfl
 | flt _=>obtain⟨t,rfl⟩:=r;rfl
 | ref _=>cases r;rfl
 | ty _=>cases r;rfl
theorem RelV.inj {x y:V}{u:Value}(r:RelV x u)(q:RelV y u):x=y:=Option.some.inj (r.abs.symm.trans q.abs)
theorem Vals.inj:∀{xs ys:List V}{us:List Value},Vals xs us->Vals ys us->xs=ys
 | _,_,_,.nil,.nil=>rfl
 | _,_,_,.cons r t,.cons r' t'=>by rw[r.inj r',Vals.inj t t']
section
variable {X:Cx}{pins:List (Addr×Obj)}{σ:St}{H:Hp}{s:Shared}{a:Addr}{xs ys:List V}
theorem SqL.of {K:PySem.W.Frag}(h:H a=some (.lst xs)):SqL K H a xs:= .inl (.inl h)
theorem SqT.of {K:PySem.W.Frag}(h:H a=some (.tup xs)):SqT K H a xs:= .inl (.inl h)
theorem Inv.list (I:Inv X pins σ H s)(h:SqL X.K H a xs):∃its:List Value,Vals xs its∧PlainL s.heap a its.toArray∧xs.length<=sizeLine:=by
 rcases h with h | ⟨o,its,n,hk,hc,hd,hs,hz,r⟩
 ·obtain⟨z,its,n,r,e⟩:=h.ok I.hok
  exact⟨its,r,⟨_,n,e,rfl,rfl,rfl⟩,z⟩
 ·refine⟨its.toList,r,⟨o,n,I.kIn a o hk,hc,hd,by simpa using hs⟩,?_⟩
  have e:=r.length
  simp only[Array.length_toList]at e
  omega
theorem Inv.tuple (I:Inv X pins σ H s)(h:SqT X.K H a xs):∃its:List Value,Vals xs its∧IsTup s.heap a its.toArray∧xs.length<=sizeLine:=by
 rcases h with h | ⟨o,its,n,hk,hc,hs,hz,r⟩
 ·obtain⟨z,its,r,p⟩:=h.ok I.hok
  exact⟨its,r,p,z⟩
 ·refine⟨its.toList,r,⟨o,I.kIn a o hk,hc,n,by simpa using hs⟩,?_⟩
  have e:=r.length
  simp only[Array.length_toList]at e
  omega
theorem Inv.Ag7 (I:Inv X pins σ H s)(h:SqL X.K H a xs)(h':SqL X.K H a ys):xs=ys:=by
 obtain⟨its,r,⟨o,n,e,_,_,d⟩,_⟩:=I.list h
 obtain⟨its',r',⟨o',n',e',_,_,d'⟩,_⟩:=I.list h'
 rw[e]at e';cases e'
 rw[d]at d'
 injection d' with d1 _
 have:its=its':=by simpa using congrArg Array.toList d1
 subst this
 exact r.inj r'
end
abbrev Cx.wish (X:Cx)(E:Value->Shared->Prop):Cx:={X with xe:=E}
abbrev Cx.nox (X:Cx):Cx:=X.wish fun _ _=>False
theorem Cx.Ok.wish {X:Cx}(ok:X.Ok)(E:Value->Shared->Prop):(X.wish E).Ok :=
 ⟨ok.mod,ok.kind,ok.glob,ok.blt,ok.above,ok.inj,ok.has,ok.cab,ok.hd,ok.frames,ok.stk,ok.exf,ok.bs,ok.bsz,ok.Ag0,ok.Ai2,ok.O6,ok.frf⟩
theorem Cx.Ok.HW {X:Cx}{E:Value->Shared->Prop}(ok:(X.wish E).Ok):X.Ok :=
 ⟨ok.mod,ok.kind,ok.glob,ok.blt,ok.above,ok.inj,ok.has,ok.cab,ok.hd,ok.frames,ok.stk,ok.exf,ok.bs,ok.bsz,ok.Ag0,ok.Ai2,ok.O6,ok.frf⟩
section
variable {X:Cx}{pins:List (Addr×Obj)}{σ:St}{H:Hp}{s:Shared}{E:Value->Shared->Prop}
theorem Inv.wish (I:Inv X pins σ H s)(E:Value->Shared->Prop):Inv (X.wish E) pins σ H s:=⟨I.ok.wish E,I.os,I.bare,I.base,I.loc,I.cell,I.free,I.Ew,I.pin,I.hok,I.len⟩
theorem Inv.HW (I:Inv (X.wish E) pins σ H s):Inv X pins σ H s:=⟨I.ok.HW,I.os,I.bare,I.base,I.loc,I.cell,I.free,I.Ew,I.pin,I.hok,I.len⟩
theorem SP.HW {D:Ends}{f:Flow}{s':Shared}(h:SP (X.wish E) pins D f s'):SP X pins D f s':=by
 cases f with
 | next=>obtain⟨σ',H',I,q⟩:=h;exact⟨σ',H',I.HW,q⟩
 | brk=>obtain⟨σ',H',I,q⟩:=h;exact⟨σ',H',I.HW,q⟩
 | cont=>obtain⟨σ',H',I,q⟩:=h;exact⟨σ',H',I.HW,q⟩
 | ret u=>obtain⟨v,σ',H',I,r,q⟩:=h;exact⟨v,σ',H',I.HW,r,q⟩
theorem PSs.nox {st:List Stmt}{t:TS}(h:PSs X.nox st t):PSs X st t:=fun pins s σ H D I hw =>
 wpAny_mono (h pins s σ H D (I.wish _) hw) (fun _ _ q=>q.HW) fun _ _ z=>False.elim z
end
section
variable {X:Cx}{st:Stmt}{rest:List Stmt}{t u:TS}{e:Expr}{te:TE}{pos:Pos}
def Ay7:TS:=fun D σ H=>D.nx σ H
def Bb6 (t u:TS):TS:=fun D σ H=>t {D with nx:=u D} σ H
theorem Aq:PSs X [] Ay7:=fun _ _ σ H _ I h=>wpAny_execs_nil ⟨σ,H,I,h⟩
theorem Ad (h1:PS X st t)(h2:PSs X rest u):PSs X (st::rest) (Bb6 t u):=by
 intro pins s σ H D I h
 refine wpAny_execs_cons (thn (h1 pins s σ H {D with nx:=u D} I h) fun f s1 q=>?_)
 cases f with
 | next =>
  obtain⟨σ',H',I',q⟩:=q
  exact h2 pins s1 σ' H' D I' q
 | ret v=>exact q
 | brk=>exact q
 | cont=>exact q
theorem Af (h1:PS X st t):PSs X [st] t:=by
 intro pins s σ H D I h
 refine wpAny_execs_cons (thn (h1 pins s σ H D I h) fun f s1 q=>?_)
 cases f with
 | next=>exact wpAny_execs_nil q
 | ret v=>exact q
 | brk=>exact q
 | cont=>exact q
theorem Inv.quiet {pins:List (Addr×Obj)}{σ:St}{H:Hp}{s:Shared}(I:Inv X pins σ H s):interactive X.env=false:=by simp[interactive,I.ok.kind]
def Az1 (te:TE):TS:=fun D σ H=>te σ H fun _ H1=>D.nx σ H1
theorem Ca (he:PE X e te)(hs:swapsWith e none pos.line X.env=pure false:=by rfl):PS X (.Expr e pos) (Az1 te):=by
 intro pins s σ H D I h
 exact wpAny_Expr_any (thn (he pins s σ H _ I h) fun v s1 ⟨x,H1,I1,r1,q1⟩=>⟨σ,H1,I1,q1⟩) I.quiet hs
def Bb7 (te:TE):TS:=fun D σ H=>te σ H D.rt
theorem Ai (he:PE X e te):PS X (.Return (some e) pos) (Bb7 te):=by
 intro pins s σ H D I h
 exact wpAny_Return_some (thn (he pins s σ H _ I h) fun v s1 ⟨x,H1,I1,r1,q1⟩=>⟨x,σ,H1,I1,r1,q1⟩)
def Bc0 (c:TT)(t u:TS):TS:=fun D σ H=>c σ H fun b H1=>if b=true then t D σ H1 else u D σ H1
theorem Bl {c:Expr}{a b:List Stmt}{tc:TT}(hc:PT X c tc)(ha:PSs X a t)(hb:PSs X b u):PS X (.If c a b pos) (Bc0 tc t u):=by
 intro pins s σ H D I h
 refine wpAny_If (thn (hc pins s σ H _ I h) fun d s1 ⟨H1,I1,q1⟩=>?_)
 cases d with
 | true=>exact ha pins s1 σ H1 D I1 q1
 | false=>exact hb pins s1 σ H1 D I1 q1
end
abbrev TG:=V->St->Hp->(St->Hp->Prop)->Prop
abbrev TGs:=List V->St->Hp->(St->Hp->Prop)->Prop
def PG (X:Cx)(target:Expr)(t:TG):Prop :=
 ∀(pins:List (Addr×Obj)) (s:Shared) (σ:St) (H:Hp) (v:V) (u:Value) (Q:St->Hp->Prop),Inv X pins σ H s->RelV v u->t v σ H Q ->
  wpAny (model X.prog X.w) X.A (assign target X.env u) (fun _ s'=>∃σ' H',Inv X pins σ' H' s'∧Q σ' H') X.xe s
def PGs (X:Cx)(ts:List Expr)(t:TGs):Prop :=
 ∀(pins:List (Addr×Obj)) (s:Shared) (σ:St) (H:Hp) (vs:List V) (us:List Value) (Q:St->Hp->Prop),Inv X pins σ H s->Vals vs us->t vs σ H Q ->
  wpAny (model X.prog X.w) X.A (assignInOrder ((assignEach ts X.env).map (·.2)) us) (fun _ s'=>∃σ' H',Inv X pins σ' H' s'∧Q σ' H') X.xe s
abbrev TIp:=V->V->Hp->VK->Prop
def PIp (X:Cx)(op:Operator)(t:TIp):Prop :=
 ∀(pins:List (Addr×Obj)) (s:Shared) (σ:St) (H:Hp) (x y:V) (v u:Value) (Q:VK),Inv X pins σ H s->RelV x v->RelV y u->t x y H Q ->
  wpAny (model X.prog X.w) X.A (inplaceOp op v u) (EP X pins σ Q) X.xe s
section
variable {X:Cx}{pos:Pos}
def Yz (i:Nat):TG:=fun v σ H Q=>Q (σ.set i (some v)) H
theorem Bk {i:Nat}{x:Str}(hN:X.N.Nodup)(hi:X.N[i]?=some x)(hx:Loc X.env.scope x)(hf:X.fn x=true∨X.env.scope.names.lookup x=some .local:=by first | exact .inl rfl | exact .inr rfl | assumption):PG X (.Name x pos) (Yz i):=by
 intro pins s σ H v u Q I r h
 exact wpAny_assign_Name (P0 I hN hi hx r (fun s' I'=>⟨_,H,I',h⟩) hf)
def Be4:TGs:=fun vs σ H Q=>vs=[]∧Q σ H
def Ba7 (t:TG)(u:TGs):TGs:=fun vs σ H Q=>∃v r,vs=v::r∧t v σ H fun σ' H'=>u r σ' H' Q
theorem Yn:PGs X [] Be4:=by
 intro pins s σ H vs us Q I r h
 obtain⟨e,h⟩:=h
 subst e
 cases r
 exact assignInOrder_nil ⟨σ,H,I,h⟩
theorem Lg {e:Expr}{es:List Expr}{t:TG}{u:TGs}(h1:PG X e t)(h2:PGs X es u)
  (hs:(assignEach (e::es) X.env).map (·.2)=assign e X.env::(assignEach es X.env).map (·.2):=by rfl):PGs X (e::es) (Ba7 t u):=by
 intro pins s σ H vs us Q I r h
 obtain⟨v,vr,e1,h⟩:=h
 subst e1
 cases r with
 | cons r rr =>
  rw[hs]
  refine assignInOrder_cons (thn (h1 pins s σ H _ _ _ I r h) fun _ s1 ⟨σ1,H1,I1,q1⟩=>?_)
  exact h2 pins s1 σ1 H1 _ _ Q I1 rr q1
def Ba6 (K:PySem.W.Frag)(n:Nat)(t:TGs):TG:=fun v σ H Q=>∃a xs,v= .ref a∧SqT K H a xs∧xs.length=n∧t xs σ H Q
theorem Au4 {es:List Expr}{k:Nat}{t:TGs}{n:Nat}(hc:X.calm=true)(h:PGs X es t)
  (hn:(assignEach es X.env).length=n:=by rfl) (hst:(assignEach es X.env).findIdx? (·.1)=none:=by rfl):PG X (.Tuple es k pos) (Ba6 X.K n t):=by
 intro pins s σ H v u Q I r hw
 obtain⟨a,xs,e1,hq,hl,hw⟩:=hw
 subst e1
 cases r
 obtain⟨its,rv,ht,hz⟩:=I.tuple hq
 refine assign_Tuple_tuple (I.ok.hd hc) ht (by simp[hn,← hl,rv.length]) hst fun h' hx=>?_
 have I1:Inv X pins σ H {s with heap:=h'}:=I.kept (t':=s.toks) fun b o e=>hx b o (Nat.ne_of_lt (Heap.lt_size e)) e
 exact h pins _ σ H xs _ Q I1 (by simpa using rv) hw
def Az3 (te:TE)(g:TG):TS:=fun D σ H=>te σ H fun x H1=>g x σ H1 D.nx
theorem Am {i:Nat}{x:Str}{e:Expr}{te:TE}{pos':Pos}(hN:X.N.Nodup)(hi:X.N[i]?=some x)(hx:Loc X.env.scope x)(he:PE X e te)(hs:swapsWith e (some (.Name x pos')) pos.line X.env=pure false:=by rfl)(hf:X.fn x=true∨X.env.scope.names.lookup x=some .local:=by first | exact .inl rfl | exact .inr rfl | assumption) :
  PS X (.Assign [.Name x pos'] e pos) (Az3 te (Yz i)):=by
 intro pins s σ H D I h
 refine wpAny_Assign_Name (thn (he pins s σ H _ I h) fun v s1 ⟨y,H1,I1,r1,q1⟩=>?_) hs
 exact P0 I1 hN hi hx r1 (fun s2 I2=>⟨_,H1,I2,q1⟩) hf
def Bc4 (i:Nat)(te:TE)(ti:TIp):TS:=fun D σ H=>∃x,σ[i]?=some (some x)∧te σ H fun y H1=>ti x y H1 fun z H2=>D.nx (σ.set i (some z)) H2
theorem Ae8 {i:Nat}{x:Str}{e:Expr}{te:TE}{op:Operator}{ti:TIp}{pos':Pos}(hN:X.N.Nodup)(hi:X.N[i]?=some x)(hx:Loc X.env.scope x)(he:PE X e te)(ho:PIp X op ti)(hf:X.fn x=true∨X.env.scope.names.lookup x=some .local:=by first | exact .inl rfl | exact .inr rfl | assumption) :
  PS X (.AugAssign (.Name x pos') op e pos) (Bc4 i te ti):=by
 intro pins s σ H D I h
 obtain⟨v,e1,h⟩:=h
 obtain⟨m,hn,hl⟩:=I.loc
 have vis:Vis X.env.scope x:=by rcases hx with k | k;exact .inl k;exact .inr (.inl k)
 obtain⟨u,r,l⟩:=hl i x v hi e1 vis
 refine wpAny_AugAssign_Name ?_
 have go:wpAny (model X.prog X.w) X.A (eval e X.env) (fun w s₂=>wpAny (model X.prog X.w) X.A (inplaceOp op u w) (fun r s₃=>wpAny (model X.prog X.w) X.A (storeName X.env x r) (fun _=>SP X pins D .next) X.xe s₃) X.xe s₂) X.xe s:=by
  refine thn (he pins s σ H _ I h) fun w s1 ⟨y,H1,I1,r1,q1⟩=>?_
  refine thn (ho pins s1 σ H1 v y u w _ I1 r r1 q1) fun z s2 ⟨zv,H2,I2,r2,q2⟩=>?_
  exact P0 I2 hN hi hx r2 (fun s3 I3=>⟨_,H2,I3,q2⟩) hf
 rcases l with⟨hk,hm⟩ | ⟨hk,c,hc,hcell⟩
 ·exact wpAny_loadName_local I.ok.kind hk hn hm go
 ·rcases hk with hk | hk
  ·exact wpAny_loadName_cell I.ok.kind hk hc hcell go
  ·rcases hx with k | k
   ·have:X.env.scope.names.lookup x=some .free:=hk
    rw[k]at this;cases this
   ·have:X.env.scope.names.lookup x=some .free:=hk
    rw[k]at this;cases this
def ipI (f:Int->Int->Int):TIp:=fun x y H Q=>∃i j,x= .int i∧y= .int j∧Q (.int (f i j)) H
theorem Ah7:PIp X .Add (ipI fun i j=>i + j):=by
 intro pins s σ H x y v u Q I r1 r2 h
 obtain⟨i,j,e1,e2,q⟩:=h
 subst e1;subst e2
 obtain⟨t,rfl⟩:=r1
 obtain⟨t',rfl⟩:=r2
 exact iadd_int ⟨.int _,H,I.tok _,⟨_,rfl⟩,q⟩
end
section
variable {X:Cx}{pos:Pos}
def Ar9 (c:TT)(tb:TS):TS:=fun D σ H=>∃W:Nat->St->Hp->Prop,(∃m,W m σ H)∧∀m σ H,W m σ H ->
 c σ H fun b H1=>if b=true then ∃N:St->Hp->Prop,(∀σ' H',N σ' H'->∃m',m' < m∧W m' σ' H')∧tb {D with nx:=N,ct:=N,bk:=D.nx} σ H1 else D.nx σ H1
theorem GJ {c:Expr}{body:List Stmt}{tc:TT}{tb:TS}(hp:PassesOwn (model X.prog X.w) X.A X.env X.xe)(hc:PT X c tc)(hb:PSs X body tb):PS X (.While c body [] pos) (Ar9 tc tb):=by
 intro pins s σ H D I h
 obtain⟨W,⟨m0,w0⟩,turn⟩:=h
 refine wpAny_While (codeAny_whileLoop (fun n s'=>∃σ' H',Inv X pins σ' H' s'∧W n σ' H') ?_ m0 ⟨σ,H,I,w0⟩)
 rintro n s1 ⟨σ1,H1,I1,w1⟩
 refine wpAny_passesOwn hp (thn (hc pins s1 σ1 H1 _ I1 (turn n σ1 H1 w1)) fun b s2 ⟨H2,I2,q2⟩=>?_)
 cases b with
 | true =>
  obtain⟨N,hN,q2⟩:=q2
  rw[if_pos rfl]
  refine wpAny_passesOwn hp (thn (hb pins s2 σ1 H2 _ I2 q2) fun f s3 q3=>?_)
  cases f with
  | next =>
   obtain⟨σ3,H3,I3,n3⟩:=q3
   obtain⟨m',hm,w3⟩:=hN σ3 H3 n3
   exact⟨m',hm,σ3,H3,I3,w3⟩
  | cont =>
   obtain⟨σ3,H3,I3,n3⟩:=q3
   obtain⟨m',hm,w3⟩:=hN σ3 H3 n3
   exact⟨m',hm,σ3,H3,I3,w3⟩
  | brk=>exact q3
  | ret v=>exact q3
 | false =>
  rw[if_neg Bool.false_ne_true]
  exact wpAny_execs_nil ⟨σ1,H2,I2,q2⟩
end
structure It where
 go:Nat->Hp->Prop
 yld:Nat->Hp->V->Hp->Prop
 stop:Nat->Hp->Prop
def Jd (X:Cx)(pins:List (Addr×Obj))(H:Hp)(b:Addr):Prop :=
 H b=none∧b≠X.env.locals∧b∉X.fs∧(b∈X.ex∨X.s_0.heap.objs.size<=b)∧(∀x c,X.env.cells.lookup x=some c->c≠b)∧∀p∈X.pn++pins,p.1≠b
theorem Inv.Z1 {X:Cx}{pins:List (Addr×Obj)}{σ:St}{H H':Hp}{s:Shared}{b:Addr}(I:Inv X pins σ H s)(hb:s.heap.objs.size<=b)(hn:H' b=none):Jd X pins H' b:=by
 refine⟨hn,Nat.ne_of_gt (Nat.lt_of_lt_of_le I.lt hb),I.Bd8 hb,.inr (Nat.le_trans I.sz hb),fun x c e z=>?_,fun p hp z=>?_⟩
 ·obtain⟨v,q⟩:=I.cell x c e
  exact absurd (Nat.lt_of_lt_of_le q.lt (by rw[z];exact hb)) (Nat.lt_irrefl _)
 ·exact absurd (Nat.lt_of_lt_of_le (Heap.lt_size (I.pin p hp).1) (by rw[z];exact hb)) (Nat.lt_irrefl _)
structure Turn (P:Program)(w:World)(K:PySem.W.Frag)(tg:Expr)(J:It)(fp:List Addr)(it:Addr)(tn:Nat->Heap->Prop):Prop where
 mem:it∈fp
 obj:∀i h,tn i h->∀b∈fp,∃o,h.get? b=some o∧∀v,o.data≠ .cell v
 keep:∀i h h',tn i h->(∀b∈fp,∀o,h.get? b=some o->h'.get? b=some o)->tn i h'
 item:∀(X:Cx),X.prog=P->X.w=w->X.K=K->X.calm=true->∀(i:Nat) (pins:List (Addr×Obj)) (s:Shared) (σ:St) (H:Hp) (E:Value->Shared->Prop),Inv X pins σ H s->(∀b∈fp,Jd X pins H b)->tn i s.heap->J.go i H ->
  wpAny (model P w) X.A (pyNext (.ref it)) (fun r s1=>∃u,r=some u ∧
   wpAny (model P w) X.A (letOwnedTupleGo tg (.ref it) u) (fun _ s2=>∃x H',Inv X pins σ H' s2∧RelV x u∧J.yld i H x H'∧tn (i + 1) s2.heap∧∀b∈fp,H' b=none) E s1) E s
 done:∀(X:Cx),X.prog=P->X.w=w->X.K=K->X.calm=true->∀(i:Nat) (pins:List (Addr×Obj)) (s:Shared) (σ:St) (H:Hp) (E:Value->Shared->Prop),Inv X pins σ H s->(∀b∈fp,Jd X pins H b)->tn i s.heap->J.stop i H ->
  wpAny (model P w) X.A (pyNext (.ref it)) (fun r s1=>r=none∧Inv X pins σ H s1) E s
 self:∀(A:Around) (i:Nat) (s:Shared) (Q:Value->Shared->Prop) (E:Value->Shared->Prop),tn i s.heap->Q (.ref it) s->wpAny (model P w) A (pyIter (.ref it)) Q E s
abbrev TI:=St->Hp->(It->Hp->Prop)->Prop
def PIE (X:Cx)(pins:List (Addr×Obj))(σ:St)(tg:Expr)(R:It->Hp->Prop)(itv:Value)(s2:Shared):Prop :=
 ∃(it:Addr) (fp:List Addr) (tn:Nat->Heap->Prop) (J:It) (H':Hp),itv= .ref it∧Inv X pins σ H' s2∧Turn X.prog X.w X.K tg J fp it tn∧tn 0 s2.heap∧(∀b∈fp,Jd X pins H' b)∧R J H'
def PI (X:Cx)(tg iter:Expr)(wi:TI):Prop :=
 ∀(pins:List (Addr×Obj)) (s:Shared) (σ:St) (H:Hp) (R:It->Hp->Prop),Inv X pins σ H s->wi σ H R ->
  wpAny (model X.prog X.w) X.A (eval iter X.env) (fun v s1=>wpAny (model X.prog X.w) X.A (pyIter v) (PIE X pins σ tg R) X.xe s1) X.xe s
theorem V1 {M:Model}{A:Around}{E:Value->Shared->Prop}{s:Shared}{tg:Expr}{it:Addr}{u:Value}{o:Obj}{n:String}{vs:Array Value}{Q:Unit->Shared->Prop}(ho:s.heap.get? it=some o)(hc:o.cls= .type n)(hd:o.data= .fields vs)
  (hn:["enumerate", "zip", "dict_itemiterator", "dict_reverseitemiterator", "odict_iterator", "itertools.zip_longest", "itertools.pairwise"].contains n=false) (hQ:Q () s):wpAny M A (letOwnedTupleGo tg (.ref it) u) Q E s:=by
 unfold letOwnedTupleGo
 cases tg <;>first
  | exact wpAny_pure hQ
  | (cases u <;>first
    | exact wpAny_pure hQ
    | (refine wpAny_bind (wpAny_load ho ?_);rw[hc,hd];show wpAny M A (if (["enumerate", "zip", "dict_itemiterator", "dict_reverseitemiterator", "odict_iterator", "itertools.zip_longest", "itertools.pairwise"].contains n&&vs[0]?==some (rawInt _))=true then _ else _) Q E s;rw[if_neg (by intro h;rw[hn,Bool.false_and]at h;cases h)];exact wpAny_pure hQ))
def Itl (K:PySem.W.Frag)(a:Addr):It :=
 ⟨fun i H=>∃xs x,SqL K H a xs∧xs[i]?=some x,fun i H x H'=>H'=H∧∀xs,SqL K H a xs->xs[i]?=some x,fun i H=>∃xs,SqL K H a xs∧xs.length<=i⟩
def Itr (lo:Int)(n:Nat):It:=⟨fun i _=>i < n,fun i H x H'=>H'=H∧x= .int (lo + i),fun i _=>n<=i⟩
theorem Y5 {P:Program}{w:World}{K:PySem.W.Frag}{tg:Expr}(a it:Addr):Turn P w K tg (Itl K a) [it] it (fun i h=>h.IsListIter it a i) where
 mem:=by simp
 obj:=fun i h st b hb=>by
  have e:b=it:=by simpa using hb
  subst e
  obtain⟨o,e,c,d⟩:=st
  exact⟨o,e,fun v z=>by rw[d]at z;cases z⟩
 keep:=fun i h h' st k=>st.at fun o e=>k it (by simp) o e
 item:=by
  intro X hP hw hK hc i pins s σ H E I hf st hg
  subst hP hw hK
  obtain⟨xs,x,hq,hx⟩:=hg
  obtain⟨its,rv,p,hz⟩:=I.list hq
  obtain⟨u,hu,ru⟩:=rv.get hx
  obtain⟨f0,f1,f2,f3,f4,f5⟩:=hf it (by simp)
  refine wpAny_pyNext_list_item st p.isList (x:=u) (by simpa using hu) fun h' st' sb=>?_
  have I1:Inv X pins σ H {s with heap:=h'}:=I.turned (t':=s.toks) (fun b o hb e=>(sb.2 b hb).trans e) f0 f1 f3 f4 f5
  obtain⟨o,e,c,d⟩:=id st'
  exact⟨u,rfl,V1 (s:={s with heap:=h'}) e c d (by decide) ⟨x,H,I1,ru,⟨rfl,fun ys hy=>by rw[I.Ag7 hy hq];exact hx⟩,st',fun b hb=>(hf b hb).1⟩⟩
 done:=by
  intro X hP hw hK hc i pins s σ H E I hf st hg
  subst hP hw hK
  obtain⟨xs,hq,hx⟩:=hg
  obtain⟨its,rv,p,hz⟩:=I.list hq
  obtain⟨f0,f1,f2,f3,f4,f5⟩:=hf it (by simp)
  have hl:=rv.length
  exact wpAny_pyNext_list_end (I.ok.hd hc) st p.isList (by simp;omega) fun h' eb=>⟨rfl,I.turned (t':=s.toks) (fun b o hb e=>eb b o hb e) f0 f1 f3 f4 f5⟩
 self:=fun _ _ _ _ _ st h=>wpAny_pyIter_listiter st h
theorem Wt {P:Program}{w:World}{K:PySem.W.Frag}{tg:Expr}(it:Addr)(lo:Int)(n:Nat):Turn P w K tg (Itr lo n) [it] it (fun i h=>IsRangeIter h it (lo + (i:Nat) * 1) ((n:Int) - (i:Nat)) 1) where
 mem:=by simp
 obj:=fun i h st b hb=>by
  have e:b=it:=by simpa using hb
  subst e
  exact⟨_,st,fun v z=>by
   have z':Data.fields _=Data.cell v:=z
   cases z'⟩
 keep:=fun i h h' st k=>k it (by simp) _ st
 item:=by
  intro X hP hw hK hc i pins s σ H E I hf st hg
  subst hP hw hK
  obtain⟨f0,f1,f2,f3,f4,f5⟩:=hf it (by simp)
  have W:=Walks.range (prog:=X.prog) (w:=X.w) (I.ok.hd hc) it lo 1 n
  refine W.item i s _ _ hg st fun v h' tk hv st' kk=>?_
  obtain⟨t,rfl⟩:=hv
  have I1:Inv X pins σ H {s with heap:=h',toks:=tk}:=I.turned (fun b o hb e=>kk b o (by simpa using hb) e) f0 f1 f3 f4 f5
  refine⟨_,rfl,V1 (s:={s with heap:=h',toks:=tk}) (n:= "range_iterator") st' rfl rfl (by decide) ⟨.int (lo + i),H,I1,⟨t,?_⟩,⟨rfl,rfl⟩,st',fun b hb=>(hf b hb).1⟩⟩
  rw[Int.mul_one]
 done:=by
  intro X hP hw hK hc i pins s σ H E I hf st hg
  subst hP hw hK
  obtain⟨f0,f1,f2,f3,f4,f5⟩:=hf it (by simp)
  exact wpAny_pyNext_range_end (I.ok.hd hc) st (by have:n<=i:=hg;omega) fun h' eb=>⟨rfl,I.turned (t':=s.toks) (fun b o hb e=>eb b o hb e) f0 f1 f3 f4 f5⟩
 self:=fun _ _ _ _ _ st h=>wpAny_pyIter_rangeiter st h
end L2
namespace L2
open PySem PySem.Spec PyProof.Rows
section
variable {X:Cx}{tg:Expr}
def Ba4 (K:PySem.W.Frag)(tl:TE):TI:=fun σ H R=>tl σ H fun x H1=>∃a,x= .ref a∧(∃xs,SqL K H1 a xs)∧R (Itl K a) H1
theorem Bw {l:Expr}{tl:TE}(hl:PE X l tl):PI X tg l (Ba4 X.K tl):=by
 intro pins s σ H R I h
 refine thn (hl pins s σ H _ I h) fun v s1 ⟨x,H1,I1,r1,q1⟩=>?_
 obtain⟨a,e,⟨xs,hq⟩,q⟩:=q1
 subst e
 cases r1
 obtain⟨its,rv,p,hz⟩:=I1.list hq
 refine wpAny_pyIter_list p.isList ?_
 refine⟨s1.heap.objs.size,[s1.heap.objs.size],_,_,H1,rfl,I1.kept (t':=s1.toks) fun b o e=>Heap.get?_push_of_some _ e,Y5 a _,⟨_,Heap.get?_push_size _ rfl,rfl,rfl⟩,fun b hb=>?_,q⟩
 have e:b=s1.heap.objs.size:=by simpa using hb
 subst e
 exact I1.Z1 (Nat.le_refl _) (I1.hok.fresh (Nat.le_refl _))
theorem Ae6 {pins:List (Addr×Obj)}{σ:St}{H:Hp}{s:Shared}{R:It->Hp->Prop}{E:Value->Shared->Prop}{lo hi:Int}{t u v:Tok}{tk:Nat}(I:Inv X pins σ H s)(h1: -(2 ^ 62)<=lo)(h2:lo < 2 ^ 62)(h3: -(2 ^ 62)<=hi)(h4:hi < 2 ^ 62)
  (q:R (Itr lo (hi - lo).toNat) H):wpAny (model X.prog X.w) X.A (pyIter (.ref s.heap.objs.size)) (PIE X pins σ tg R) E {s with heap:=s.heap.push {cls:= .type "range",data:= .fields #[.int lo t,.int hi u,.int 1 v]},toks:=tk}:=by
 refine wpAny_pyIter_range (IsRange.new ..) (small_one h1 h2 h3 h4) ?_
 have I1:Inv X pins σ H {s with heap:=s.heap.push {cls:= .type "range",data:= .fields #[.int lo t,.int hi u,.int 1 v]},toks:=tk}:=I.kept fun b o e=>Heap.get?_push_of_some _ e
 refine⟨(s.heap.push {cls:= .type "range",data:= .fields #[.int lo t,.int hi u,.int 1 v]}).objs.size,[(s.heap.push {cls:= .type "range",data:= .fields #[.int lo t,.int hi u,.int 1 v]}).objs.size],_,_,H,rfl,
  I1.kept (t':=tk) fun b o e=>Heap.get?_push_of_some _ e,Wt _ lo (hi - lo).toNat,?_,fun b hb=>?_,q⟩
 ·have e1:lo + ((0:Nat):Int) * 1=lo:=by simp
  have e2:(((hi - lo).toNat:Nat):Int) - ((0:Nat):Int)=Builtin.Range.rangeSize lo hi 1:=by rw[rangeSize_one];split <;>omega
  show IsRangeIter _ _ (lo + ((0:Nat):Int) * 1) ((((hi - lo).toNat:Nat):Int) - ((0:Nat):Int)) 1
  rw[e1,e2]
  exact Heap.get?_push_size _ rfl
 ·have e:b=(s.heap.push {cls:= .type "range",data:= .fields #[.int lo t,.int hi u,.int 1 v]}).objs.size:=by simpa using hb
  subst e
  exact I1.Z1 (Nat.le_refl _) (I1.hok.fresh (Nat.le_refl _))
def Ba3 (ta:TA):TI:=fun σ H R=>ta σ H fun vs H1=>∃j:Int,vs=[.int j]∧ -(2 ^ 62)<=j∧j < 2 ^ 62∧R (Itr 0 j.toNat) H1
theorem Zo {a:Expr}{ta:TA}{p pos:Pos}(hg:Gl X "range")(hm:X.mg "range" =none)(ha:PA X [a] ta)(hs:starEach [a] X.env=[(false,eval a X.env)]:=by rfl):PI X tg (.Call (.Name "range" p) [a] [] pos) (Ba3 ta):=by
 intro pins s σ H R I h
 refine Call_ (Ng I hg hm boot_range (PyProof.Rows.callWith_type1 (thn (ha pos pins s σ H _ I h) fun us s1 ⟨vs,H1,I1,r1,q1⟩=>?_) hs rfl))
 obtain⟨j,e,q1,q2,q⟩:=q1
 subst e
 cases r1 with
 | cons r rr =>
  cases rr
  obtain⟨t,rfl⟩:=r
  exact call_range_1 (Ae6 I1 (by omega) (by omega) q1 q2 (by simpa using q))
def Bc1 (wi:TI)(g:TG)(tb:TS):TS:=fun D σ H=>wi σ H fun J H1=>∃W:Nat->Nat->St->Hp->Prop,(∃m,W 0 m σ H1)∧∀i m σ H,W i m σ H ->
 (J.stop i H∧D.nx σ H)∨(J.go i H∧∃N:St->Hp->Prop,(∀σ' H',N σ' H'->∃m',m' < m∧W (i + 1) m' σ' H')∧∀x H',J.yld i H x H'->g x σ H' fun σ2 H2=>tb {D with nx:=N,ct:=N,bk:=D.nx} σ2 H2)
def Qt (fp:List Addr)(h:Heap):List (Addr×Obj):=fp.filterMap fun b=>(h.get? b).map fun o=>(b,o)
theorem Ke {fp:List Addr}{h:Heap}{b:Addr}{o:Obj}(hb:b∈fp)(e:h.get? b=some o):(b,o)∈Qt fp h:=List.mem_filterMap.mpr ⟨b,hb,by rw[e];rfl⟩
theorem Zz {fp:List Addr}{h:Heap}{p:Addr×Obj}(hp:p∈Qt fp h):p.1∈fp∧h.get? p.1=some p.2:=by
 obtain⟨b,hb,e⟩:=List.mem_filterMap.mp hp
 cases q:h.get? b with
 | none=>rw[q]at e;cases e
 | some o =>
  rw[q]at e
  have e':(b,o)=p:=Option.some.inj e
  subst e'
  exact⟨hb,q⟩
theorem Inv.pinned {pins:List (Addr×Obj)}{σ:St}{H:Hp}{s:Shared}{fp:List Addr}(I:Inv X pins σ H s)(hf:∀b∈fp,Jd X pins H b)(ho:∀b∈fp,∃o,s.heap.get? b=some o∧∀v,o.data≠ .cell v):Inv X (pins++Qt fp s.heap) σ H s :=
 I.Lf fun p hp=>(List.mem_append.mp hp).elim (fun z=>I.pin p (List.mem_append_right _ z)) fun z=>by
  obtain⟨hb,e⟩:=Zz z
  obtain⟨f0,f1,f2,_⟩:=hf p.1 hb
  obtain⟨o,e',d⟩:=ho p.1 hb
  rw[e]at e';cases e'
  exact⟨e,f0,f1,f2,d⟩
theorem Inv.Kz {pins pl:List (Addr×Obj)}{σ:St}{H:Hp}{s:Shared}(I:Inv X (pins++pl) σ H s):Inv X pins σ H s:=I.Lf fun p hp=>I.pin p (List.mem_append_right _ (List.mem_append_left _ hp))
theorem Fz {iter:Expr}{body:List Stmt}{wi:TI}{g:TG}{tb:TS}{pos:Pos}(hp:PassesOwn (model X.prog X.w) X.A X.env X.xe)(hc:X.calm=true)(hi:PI X tg iter wi)(hg:PG X tg g)(hb:PSs X body tb)
  (hs:∀x,foldedSetIterable iter X.env x=pure x:=by intro _;rfl):PS X (.For tg iter body [] pos) (Bc1 wi g tb):=by
 intro pins s σ H D I h
 refine wpAny_For (thn (hi pins s σ H _ I h) fun v s1 h1=>thn h1 fun itv s2 h2=>?_) hs
 obtain⟨it,fp,tn,J,H2,e,I2,T,st2,f2,W,⟨m0,w0⟩,turn⟩:=h2
 subst e
 have stat:∀{H':Hp},(∀b∈fp,H' b=none)->∀b∈fp,Jd X pins H' b:=fun hn b hb=>⟨hn b hb,(f2 b hb).2⟩
 refine codeAny_forLoop_any (fun n s'=>∃i σ' H',Inv X pins σ' H' s'∧tn i s'.heap∧(∀b∈fp,H' b=none)∧W i n σ' H') ?_ m0 ⟨0,σ,H2,I2,st2,fun b hb=>(f2 b hb).1,w0⟩
 rintro n s3 ⟨i,σ3,H3,I3,st3,fr3,w3⟩
 rcases turn i n σ3 H3 w3 with⟨stop,qn⟩ | ⟨go,N,hN,step⟩
 ·refine wpAny_passesOwn hp (thn (T.done X rfl rfl rfl hc i pins s3 σ3 H3 X.xe I3 (stat fr3) st3 stop) fun r s4 ⟨hr,I4⟩=>?_)
  subst hr
  exact wpAny_execs_nil ⟨σ3,H3,I4,qn⟩
 ·refine wpAny_passesOwn hp (thn (T.item X rfl rfl rfl hc i pins s3 σ3 H3 X.xe I3 (stat fr3) st3 go) fun r s4 ⟨u,hr,h4⟩=>?_)
  subst hr
  refine wpAny_passesOwn hp (thn h4 fun _ s5 ⟨x,H5,I5,r5,y5,st5,fr5⟩=>?_)
  have I5':=I5.pinned (stat fr5) (T.obj _ _ st5)
  refine wpAny_passesOwn hp (thn (hg _ s5 σ3 H5 x u _ I5' r5 (step x H5 y5)) fun _ s6 ⟨σ6,H6,I6,q6⟩=>?_)
  refine wpAny_passesOwn hp (thn (hb _ s6 σ6 H6 _ I6 q6) fun f s7 q7=>?_)
  have again:∀{σ7:St} {H7:Hp},Inv X (pins++Qt fp s5.heap) σ7 H7 s7->N σ7 H7->∃m,m < n∧∃i σ' H',Inv X pins σ' H' s7∧tn i s7.heap∧(∀b∈fp,H' b=none)∧W i m σ' H':=fun {σ7 H7} I7 n7=>by
   obtain⟨m',hm,w7⟩:=hN σ7 H7 n7
   refine⟨m',hm,i + 1,σ7,H7,I7.Kz,T.keep _ _ _ st5 fun b hb o e=>(I7.pin (b,o) (List.mem_append_right _ (List.mem_append_right _ (Ke hb e)))).1,fun b hb=>?_,w7⟩
   obtain⟨o,e,d⟩:=T.obj _ _ st5 b hb
   exact(I7.pin (b,o) (List.mem_append_right _ (List.mem_append_right _ (Ke hb e)))).2.1
  cases f with
  | next=>obtain⟨σ7,H7,I7,n7⟩:=q7;exact again I7 n7
  | cont=>obtain⟨σ7,H7,I7,n7⟩:=q7;exact again I7 n7
  | brk=>obtain⟨σ7,H7,I7,q7⟩:=q7;exact⟨σ7,H7,I7.Kz,q7⟩
  | ret v=>obtain⟨x7,σ7,H7,I7,r7,q7⟩:=q7;exact⟨x7,σ7,H7,I7.Kz,r7,q7⟩
end
end L2
namespace L2
open PySem PySem.Spec PyProof.Rows
abbrev R2:=V->V->Hp->VK->Prop
def OpR (X:Cx)(f:Value->Value->Sem Value)(r:R2):Prop :=
 ∀(pins:List (Addr×Obj)) (s:Shared) (σ:St) (H:Hp) (x y:V) (v u:Value) (Q:VK),Inv X pins σ H s->RelV x v->RelV y u->r x y H Q ->
  wpAny (model X.prog X.w) X.A (f v u) (EP X pins σ Q) X.xe s
def UnR (X:Cx)(f:Value->Sem Value)(r:V->Hp->VK->Prop):Prop :=
 ∀(pins:List (Addr×Obj)) (s:Shared) (σ:St) (H:Hp) (x:V) (v:Value) (Q:VK),Inv X pins σ H s->RelV x v->r x H Q ->
  wpAny (model X.prog X.w) X.A (f v) (EP X pins σ Q) X.xe s
def Gg (X:Cx)(f:Value)(r:List V->Hp->VK->Prop):Prop :=
 ∀(pins:List (Addr×Obj)) (s:Shared) (σ:St) (H:Hp) (xs:List V) (us:List Value) (Q:VK),Inv X pins σ H s->Vals xs us->r xs H Q ->
  wpAny (model X.prog X.w) X.A (call f us) (EP X pins σ Q) X.xe s
def tOp (r:R2)(ta tb:TE):TE:=fun σ H Q=>ta σ H fun x H1=>tb σ H1 fun y H2=>r x y H2 Q
def tUn (r:V->Hp->VK->Prop)(ta:TE):TE:=fun σ H Q=>ta σ H fun x H1=>r x H1 Q
def rI0 (g:Int->Int->V):R2:=fun x y H Q=>∃i j,x= .int i∧y= .int j∧Q (g i j) H
def rU (g:Int->V):V->Hp->VK->Prop:=fun x H Q=>∃i,x= .int i∧Q (g i) H
section
variable {X:Cx}{a b c:Expr}{ta tb tc:TE}{pos:Pos}
theorem Ax8 (ha:PE X a ta)(hb:PE X b tb){pins:List (Addr×Obj)}{s:Shared}{σ:St}{H:Hp}{R:V->V->Hp->Prop}(I:Inv X pins σ H s)
  (h:ta σ H fun x H1=>tb σ H1 fun y H2=>R x y H2) {Q:Value->Shared->Prop} {f:Value->Value->Sem Value}
  (hf:∀v u s2 x y H2,Inv X pins σ H2 s2->RelV x v->RelV y u->R x y H2->wpAny (model X.prog X.w) X.A (f v u) Q X.xe s2) :
  wpAny (model X.prog X.w) X.A (eval a X.env) (fun v s₁=>wpAny (model X.prog X.w) X.A (eval b X.env) (fun u s₂=>wpAny (model X.prog X.w) X.A (f v u) Q X.xe s₂) X.xe s₁) X.xe s:=by
 refine thn (ha pins s σ H _ I h) fun v s1 ⟨x,H1,I1,r1,q1⟩=>?_
 refine thn (hb pins s1 σ H1 _ I1 q1) fun u s2 ⟨y,H2,I2,r2,q2⟩=>?_
 exact hf v u s2 x y H2 I2 r1 r2 q2
theorem CG {op:Operator}{r:R2}(ho:OpR X (binaryOp op) r)(ha:PE X a ta)(hb:PE X b tb):PE X (.BinOp a op b pos) (tOp r ta tb):=by
 intro pins s σ H Q I h
 exact wpAny_BinOp (Ax8 ha hb I h fun v u s2 x y H2 I2 rx ry q=>ho pins s2 σ H2 x y v u Q I2 rx ry q)
theorem Aq8 {op:UnaryOp}{r:V->Hp->VK->Prop}(ho:UnR X (unaryOp op) r)(ha:PE X a ta):PE X (.UnaryOp op a pos) (tUn r ta):=by
 intro pins s σ H Q I h
 exact UnaryOp_ (thn (ha pins s σ H _ I h) fun v s1 ⟨x,H1,I1,r1,q1⟩=>ho pins s1 σ H1 x v Q I1 r1 q1)
theorem Az8 {f:Value->Value->Sem Value}{g:Int->Int->Int}
  (rule:∀(i j:Int) (t u:Tok) (s:Shared) (Q:Value->Shared->Prop) (E:Value->Shared->Prop),Q (.int (g i j) s.toks) {s with toks:=s.toks + 1}->wpAny (model X.prog X.w) X.A (f (.int i t) (.int j u)) Q E s) :
  OpR X f (rI0 fun i j=> .int (g i j)):=by
 intro pins s σ H x y v u Q I rx ry h
 obtain⟨i,j,rfl,rfl,q⟩:=h
 obtain⟨t,rfl⟩:=rx
 obtain⟨t',rfl⟩:=ry
 exact rule i j t t' s _ _ ⟨.int (g i j),H,I.tok _,⟨_,rfl⟩,q⟩
theorem Zt {f:Value->Value->Sem Value}{g:Int->Int->Bool}
  (rule:∀(i j:Int) (t u:Tok) (s:Shared) (Q:Value->Shared->Prop) (E:Value->Shared->Prop),Q (.bool (g i j)) s->wpAny (model X.prog X.w) X.A (f (.int i t) (.int j u)) Q E s) :
  OpR X f (rI0 fun i j=> .bl (g i j)):=by
 intro pins s σ H x y v u Q I rx ry h
 obtain⟨i,j,rfl,rfl,q⟩:=h
 obtain⟨t,rfl⟩:=rx
 obtain⟨t',rfl⟩:=ry
 exact rule i j t t' s _ _ ⟨.bl (g i j),H,I,rfl,q⟩
theorem Ip:OpR X (binaryOp .Add) (rI0 fun i j=> .int (i + j)):=Az8 fun _ _ _ _ _ _ _ q=>add_int q
theorem Af4:OpR X (binaryOp .Sub) (rI0 fun i j=> .int (i - j)):=Az8 fun _ _ _ _ _ _ _ q=>sub_int q
theorem unI {f:Value->Sem Value}{g:Int->Int}
  (rule:∀(i:Int) (t:Tok) (s:Shared) (Q:Value->Shared->Prop) (E:Value->Shared->Prop),Q (.int (g i) s.toks) {s with toks:=s.toks + 1}->wpAny (model X.prog X.w) X.A (f (.int i t)) Q E s) :
  UnR X f (rU fun i=> .int (g i)):=by
 intro pins s σ H x v Q I rx h
 obtain⟨i,rfl,q⟩:=h
 obtain⟨t,rfl⟩:=rx
 exact rule i t s _ _ ⟨.int (g i),H,I.tok _,⟨_,rfl⟩,q⟩
theorem Ab1:UnR X (unaryOp .USub) (rU fun i=> .int (-i)):=unI fun _ _ _ _ _ q=>neg_int q
end
section
variable {X:Cx}{a b c:Expr}{ta tb tc:TE}{pos:Pos}
theorem Ys:OpR X (compareOp .Lt) (rI0 fun i j=> .bl (decide (i < j))):=Zt fun _ _ _ _ _ _ _ q=>lt_int q
theorem GK:OpR X (compareOp .LtE) (rI0 fun i j=> .bl (decide (i<=j))):=Zt fun _ _ _ _ _ _ _ q=>le_int q
theorem Lh:OpR X (compareOp .Gt) (rI0 fun i j=> .bl (decide (j < i))):=Zt fun _ _ _ _ _ _ _ q=>gt_int q
theorem Qy:OpR X (compareOp .GtE) (rI0 fun i j=> .bl (decide (j<=i))):=Zt fun _ _ _ _ _ _ _ q=>ge_int q
theorem Ba (b:Expr){op:CmpOp}(h:op≠ .In:=by decide)(h2:op≠ .NotIn:=by decide):behindInMarks op b=false:=by
 have e1:(op==CmpOp.In)=false:=by cases op <;>first | rfl | exact absurd rfl h
 have e2:(op==CmpOp.NotIn)=false:=by cases op <;>first | rfl | exact absurd rfl h2
 cases b <;>simp[behindInMarks,e1,e2]
theorem Gk {op:CmpOp}{r:R2}(ho:OpR X (compareOp op) r)(ha:PE X a ta)(hb:PE X b tb)(hm:behindInMarks op b=false):PE X (.Compare a [op] [b] pos) (tOp r ta tb):=by
 intro pins s σ H Q I h
 exact wpAny_Compare1 (Ax8 ha hb I h fun v u s2 x y H2 I2 rx ry q=>ho pins s2 σ H2 x y v u Q I2 rx ry q) hm
def Yg (t:TE):TT:=fun σ H Q=>t σ H fun x H'=>∃k,x= .bl k∧Q k H'
theorem Ar {op:CmpOp}{r:R2}(ho:OpR X (compareOp op) r)(ha:PE X a ta)(hb:PE X b tb)(hm:behindInMarks op b=false):PT X (.Compare a [op] [b] pos) (Yg (tOp r ta tb)):=by
 intro pins s σ H Q I h
 refine wpAny_isTrue_Compare1 (thn (ha pins s σ H _ I h) fun v s1 ⟨x,H1,I1,r1,q1⟩=>thn (hb pins s1 σ H1 _ I1 q1) fun u s2 ⟨y,H2,I2,r2,q2⟩ =>
  thn (ho pins s2 σ H2 x y v u _ I2 r1 r2 q2) fun c s3 ⟨z,H3,I3,r3,k,e,q3⟩=>?_) hm
 subst e
 cases r3
 exact wpAny_truthy_bool ⟨H3,I3,q3⟩
def Ab4 (r r':R2)(ta tb tc:TE):TE:=fun σ H Q=>ta σ H fun x H1=>tb σ H1 fun y H2=>r x y H2 fun z H3=>∃k,z= .bl k ∧
 (if k=true then tc σ H3 fun w' H4=>r' y w' H4 Q else Q (.bl false) H3)
theorem Io {op op':CmpOp}{r r':R2}(ho:OpR X (compareOp op) r)(ho':OpR X (compareOp op') r')(ha:PE X a ta)(hb:PE X b tb)(hc:PE X c tc)
  (hm:lastMarks [op,op'] [b,c]=false:=by with_unfolding_all rfl):PE X (.Compare a [op,op'] [b,c] pos) (Ab4 r r' ta tb tc):=by
 intro pins s σ H Q I h
 refine Compare_chain (thn (ha pins s σ H _ I h) fun v s1 ⟨x,H1,I1,r1,q1⟩=>chain_link (thn (hb pins s1 σ H1 _ I1 q1) fun u s2 ⟨y,H2,I2,r2,q2⟩ =>
  thn (ho pins s2 σ H2 x y v u _ I2 r1 r2 q2) fun d s3 ⟨z,H3,I3,r3,k,e,q3⟩=>?_)) hm
 subst e
 cases r3
 refine wpAny_truthy_bool ?_
 cases k with
 | false=>exact ite_ff ⟨.bl false,H3,I3,rfl,q3⟩
 | true=>exact ite_tt (chain_last (thn (hc pins s3 σ H3 _ I3 q3) fun w' s4 ⟨z',H4,I4,r4,q4⟩=>ho' pins s4 σ H4 y z' u w' Q I4 r2 r4 q4))
theorem Ae7 {op op':CmpOp}{r r':R2}(ho:OpR X (compareOp op) r)(ho':OpR X (compareOp op') r')(ha:PE X a ta)(hb:PE X b tb)(hc:PE X c tc)
  (hm:lastMarks [op,op'] [b,c]=false:=by with_unfolding_all rfl):PT X (.Compare a [op,op'] [b,c] pos) (Yg (Ab4 r r' ta tb tc)):=by
 intro pins s σ H Q I h
 refine isTrue_chain (thn (ha pins s σ H _ I h) fun v s1 ⟨x,H1,I1,r1,q1⟩=>test_link (thn (hb pins s1 σ H1 _ I1 q1) fun u s2 ⟨y,H2,I2,r2,q2⟩ =>
  thn (ho pins s2 σ H2 x y v u _ I2 r1 r2 q2) fun d s3 ⟨z,H3,I3,r3,k,e,q3⟩=>?_)) hm
 subst e
 cases r3
 refine wpAny_truthy_bool ?_
 cases k with
 | false =>
  obtain⟨k',e',q'⟩:=q3
  cases e'
  exact ite_ff ⟨H3,I3,q'⟩
 | true =>
  refine ite_tt (test_last (thn (hc pins s3 σ H3 _ I3 q3) fun w' s4 ⟨z',H4,I4,r4,q4⟩=>thn (ho' pins s4 σ H4 y z' u w' _ I4 r2 r4 q4) fun d' s5 ⟨z2,H5,I5,r5,k2,e2,q5⟩=>?_))
  subst e2
  cases r5
  exact wpAny_truthy_bool ⟨H5,I5,q5⟩
theorem Xu:(sizeLine:Nat) < 2 ^ 63:=by rw[sizeLine_eq];decide
theorem vals1 {x:V}{us:List Value}(r:Vals [x] us):∃u,us=[u]∧RelV x u:=by
 cases r with
 | cons r1 r2=>cases r2;exact⟨_,rfl,r1⟩
end
end L2
namespace L2
open PySem PySem.Spec PyProof.Rows
structure Aa3 (h:Heap)(x dx C:Addr)(mA:Str->Option Value):Prop where
 obj:h.get? x=some (PySem.W.instObj C dx)
 ns:h.Ns1 dx mA
 ne:dx≠x
theorem ZG {h:Heap}{dx:Addr}{mA:Str->Option Value}(n:h.Ns1 dx mA):∃od,h.get? dx=some od∧∀name,PySem.W.lookIn name od=some (mA name):=by
 obtain⟨o,es,ep,ho,hd,hk,_,hm⟩:=n
 refine⟨o,ho,fun name=>?_⟩
 have e:=hm name
 unfold nsFind findBy at e
 rw[← Array.find?_toList]at e
 unfold PySem.W.lookIn
 rw[hd]
 dsimp only
 split
 ·rename_i y q
  rw[q]at e
  exact congrArg some e
 ·rename_i q
  rw[q]at e
  have a:es.toList.any (·.refKey)=false:=by
   rw[List.any_eq_false]
   intro y hy
   obtain⟨z,t,hkey⟩:=hk y (Array.mem_toList_iff.mp hy)
   simp[DictEntry.refKey,hkey]
  have a':¬es.toList.any (·.refKey)=true:=by rw[a];exact Bool.false_ne_true
  rw[if_neg a']
  exact congrArg some e
theorem Aa3.look {h:Heap}{x dx C:Addr}{mA:Str->Option Value}(I:Aa3 h x dx C mA):∃od,PySem.W.InstAt h x (PySem.W.instObj C dx) C (some od)∧∀name,PySem.W.lookIn name od=some (mA name) :=
 let ⟨od,ho,hl⟩:=ZG I.ns
 ⟨od,⟨I.obj,rfl,rfl,ho⟩,hl⟩
section
variable {prog:Program}{w:World}{A:Around}{E:Value->Shared->Prop}{s:Shared}{K:PySem.W.Frag}{x dx C f:Addr}{mA:Str->Option Value}{name:Str}{v:Value}
theorem get_map {expr:Bool}{Q:Value->Shared->Prop}(X:K.In s.heap)(I:Aa3 s.heap x dx C mA)(hg:PySem.W.plainGet K C name=true)(hh:PySem.W.hasDictIn K C=true)
  (ha:PySem.W.findIn K (.ref C) name=some none) (hv:mA name=some v) (hv':PySem.W.handedIn v=true) (h:Q v {s with toks:=s.toks + 1}) :
  wpAny (model prog w) A (getAttr (.ref x) name expr) Q E s:=by
 obtain⟨od,J,hl⟩:=I.look
 exact PySem.W.get_value X J (PySem.W.plainGet_of hg).1 (PySem.W.findObj_own hh ha rfl (by rw[hl,hv])) hv' h
theorem Ak2 {ns:List Str}{Q:Unit->Shared->Prop}(X:K.In s.heap)(I:Aa3 s.heap x dx C mA)
  (hs:PySem.W.findIn K (.ref C) "__setattr__" =some (some (.builtin "object.__setattr__"))) (hp:PySem.W.plainOver K C=true) (ht:PySem.W.takerIn K C name=some none) (hh:PySem.W.hasDictIn K C=true)
  (hw:PySem.Within mA ns) (hsz:ns.length<=sizeLine)
  (h:∀h',Aa3 h' x dx C (fun y=>if y=name then some v else mA y)->Heap.SameBut dx s.heap h'->Q () {s with heap:=h',toks:=s.toks + 2}) :
  wpAny (model prog w) A (setAttr (.ref x) name v) Q E s:=by
 obtain⟨od,J,hl⟩:=I.look
 refine PySem.W.set_plain X J hs (PySem.W.osa_open (s:={s with toks:=s.toks + 1}) (r:=none) X J hp ht fun b=>?_)
 obtain⟨cd,hc,hd'⟩:=PySem.W.any_some hh
 have hx:s.heap.get? x=some ⟨.ref C,some dx,.plain,#[]⟩:=I.obj
 refine wpAny_bind (wpAny_pure (wpAny_bind (wpAny_bind (wpAny_loadPart hx (wpAny_bind (PySem.W.Looks.here (s:={s with toks:=s.toks + 1}) (PySem.W.looks_clsIn X hc) ?_))))))
 rw[hd']
 refine wpAny_pure (a:=some dx) (wpAny_bind (wpAny_pure (wpAny_bind ?_)))
 refine wpAny_nsSet1 (s:={s with toks:=s.toks + 1}) I.ns fun h' hn2 hs2=>?_
 obtain⟨oD,esD,epD,hoD,hdD,hcD⟩:=hn2.count (PySem.Within.cons name v hw)
 refine wpAny_bind (wpAny_lookBehind hoD (by rw[hdD];exact pastItsLine_dict (Nat.le_trans hcD (by rw[List.length_cons];omega))) ?_)
 exact wpAny_pure (h _ ⟨(hs2.2 _ (Ne.symm I.ne)).trans I.obj,hn2,I.ne⟩ hs2)
theorem Ag6 {R:Result->Shared->Prop}{vs:List Value}{kw:List (Str×Value)}(X:K.In s.heap)(hm:PySem.W.makesIn K C=true)
  (hi:PySem.W.findIn K (.ref C) "__init__" =some (some (.ref f))) (hf:PySem.W.typeIn K (.ref f)=some (.type "function"))
  (h:codeAny (model prog w) (A.under (.builtin "type.__call__" ⟨.ref C::vs,kw⟩)) (.call (.ref f) ⟨.ref (s.heap.objs.size + 1)::vs,kw⟩) (PySem.W.InitBack (s.heap.objs.size + 1) R)
   {s with heap:=(s.heap.push PySem.W.emptyDict).push (PySem.W.instObj C s.heap.objs.size)}) :
  codeAny (model prog w) A (.call (.ref C) ⟨vs,kw⟩) R s:=by
 obtain⟨hh,g,d,t,os⟩:=s
 exact PySem.W.make_core (PySem.W.makes_of X hm) (PySem.W.looks_findIn X hi) (fun self=>PySem.W.bind_fn X self hf) (.inl rfl) h
end
def Jt (f:Str)(v:V):List (Str×V)->List (Str×V)
 | []=>[(f,v)]
 | (g,x)::r=>if g=f then(g,v)::r else(g,x)::Jt f v r
theorem N5 (f g:Str)(v:V):∀fs:List (Str×V),(Jt f v fs).lookup g=if g=f then some v else fs.lookup g
 | []=>by
  show List.lookup g [(f,v)]=_
  by_cases h:g=f
  ·have hb:(g==f)=true:=beq_iff_eq.mpr h
   simp only[List.lookup,hb,if_pos h]
  ·have hb:(g==f)=false:=beq_eq_false_iff_ne.mpr h
   simp only[List.lookup,hb,if_neg h]
 | (k,x)::r=>by
  have ih:=N5 f g v r
  rw[show Jt f v ((k,x)::r)=(if k=f then(k,v)::r else(k,x)::Jt f v r) from rfl]
  by_cases hk:k=f
  ·rw[if_pos hk]
   by_cases h:g=k
   ·have hb:(g==k)=true:=beq_iff_eq.mpr h
    simp only[List.lookup,hb,if_pos (h.trans hk)]
   ·have hb:(g==k)=false:=beq_eq_false_iff_ne.mpr h
    simp only[List.lookup,hb,if_neg (fun e:g=f=>h (e.trans hk.symm))]
  ·rw[if_neg hk]
   by_cases h:g=k
   ·have hb:(g==k)=true:=beq_iff_eq.mpr h
    simp only[List.lookup,hb,if_neg (fun e:g=f=>hk (h.symm.trans e))]
   ·have hb:(g==k)=false:=beq_eq_false_iff_ne.mpr h
    simp only[List.lookup,hb]
    exact ih
theorem Nh (f:Str)(v:V):∀fs:List (Str×V),f∈(Jt f v fs).map (·.1)∧∀g,g∈fs.map (·.1)->g∈(Jt f v fs).map (·.1)
 | []=>⟨by simp[Jt],fun g h=>by simp at h⟩
 | (k,x)::r=>by
  obtain⟨i1,i2⟩:=Nh f v r
  rw[show Jt f v ((k,x)::r)=(if k=f then(k,v)::r else(k,x)::Jt f v r) from rfl]
  by_cases hk:k=f
  ·rw[if_pos hk]
   subst hk
   exact⟨by simp,fun g h=>by simpa using h⟩
  ·rw[if_neg hk]
   refine⟨?_,fun g h=>?_⟩
   ·rw[List.map_cons]
    exact List.mem_cons_of_mem _ i1
   ·rw[List.map_cons]at h ⊢
    rcases List.mem_cons.mp h with e | e
    ·exact List.mem_cons.mpr (.inl e)
    ·exact List.mem_cons_of_mem _ (i2 g e)
theorem N7 (f:Str)(v:V):∀fs:List (Str×V),(Jt f v fs).length<=fs.length + 1
 | []=>by simp[Jt]
 | (k,x)::r=>by
  have ih:=N7 f v r
  rw[show Jt f v ((k,x)::r)=(if k=f then(k,v)::r else(k,x)::Jt f v r) from rfl]
  by_cases hk:k=f
  ·rw[if_pos hk,List.length_cons,List.length_cons];omega
  ·rw[if_neg hk,List.length_cons,List.length_cons];omega
theorem Jc.some_of {v:V}{o:Option Value}(r:Jc (some v) o):∃u,o=some u∧RelV v u:=by
 cases o with
 | none=>exact(show False from r).elim
 | some u=>exact⟨u,rfl,r⟩
theorem ZX {v:V}{u:Value}(r:RelV v u):PySem.W.handedIn u=true:=by
 cases v with
 | non=>cases (show u=Value.none from r);rfl
 | bl b=>cases (show u=Value.bool b from r);rfl
 | int i=>obtain⟨t,e⟩:=(show ∃t,u=Value.int i t from r);cases e;rfl
 | str x=>obtain⟨t,e⟩:=(show ∃t,u=Value.str x t from r);cases e;rfl
 | byt b=>obtain⟨t,e⟩:=(show ∃t,u=Value.bytes b t from r);cases e;rfl
 | flt b=>obtain⟨t,e⟩:=(show ∃t,u=Value.float b t from r);cases e;rfl
 | ref a=>cases (show u=Value.ref a from r);rfl
 | ty n=>cases (show u=Value.type n from r);rfl
section
variable {P:Program}{w:World}{H H':Hp}{h h':Heap}{a C dx:Addr}{fs fs':List (Str×V)}
theorem Yy (hok:HOk P w H h)(e:H a=some (.ins C dx fs)):∃mA,Aa3 h a dx C mA∧(∀f,Jc (fs.lookup f) (mA f))∧PySem.Within mA (fs.map (·.1))∧fs.length<=1000∧H dx=some (.own a):=by
 obtain⟨d,z,ne,ob,mA,n,r,q⟩:=(show Cp P w H h a (.ins C dx fs) from hok a _ e)
 exact⟨mA,⟨ob,n,ne⟩,r,q,z,d⟩
end
structure Cls (K:PySem.W.Frag)(C:Addr):Prop where
 pg:PySem.W.plainGet K C Str.empty=true
 hd:PySem.W.hasDictIn K C=true
 po:PySem.W.plainOver K C=true
 sa:PySem.W.findIn K (.ref C) "__setattr__" =some (some (.builtin "object.__setattr__"))
theorem Cls.get {K:PySem.W.Frag}{C:Addr}(c:Cls K C)(f:Str):PySem.W.plainGet K C f=true:=c.pg
def Bb (K:PySem.W.Frag)(C:Addr)(f:Str):Prop:=PySem.W.findIn K (.ref C) f=some none
theorem Bb.taker {K:PySem.W.Frag}{C:Addr}{f:Str}(n:Bb K C f):PySem.W.takerIn K C f=some none:=by
 unfold PySem.W.takerIn
 rw[show PySem.W.findIn K (.ref C) f=some none from n]
 rfl
section
variable {X:Cx}{pins:List (Addr×Obj)}{σ:St}{H:Hp}{s:Shared}{a C dx:Addr}{fs:List (Str×V)}{f:Str}{v:V}{A:Around}{E:Value->Shared->Prop}
theorem XD {b:Bool}{Q:Value->Shared->Prop}(I:Inv X pins σ H s)(e:H a=some (.ins C dx fs))(c:Cls X.K C)(n:Bb X.K C f)(l:fs.lookup f=some v)
  (h:∀u s',Inv X pins σ H s'->RelV v u->Q u s'):wpAny (model X.prog X.w) A (getAttr (.ref a) f b) Q E s:=by
 obtain⟨mA,O,r,_,_,_⟩:=Yy I.hok e
 obtain⟨u,hu,ru⟩:=Jc.some_of (v:=v) (o:=mA f) (by rw[← l];exact r f)
 exact get_map I.kIn O (c.get f) c.hd n hu (ZX ru) (h u _ (I.tok _) ru)
theorem W9 {y:V}{u:Value}{Q:Unit->Shared->Prop}(I:Inv X pins σ H s)(e:H a=some (.ins C dx fs))(c:Cls X.K C)(n:Bb X.K C f)(hl:fs.length < 1000)(ry:RelV y u)
  (h:∀s',Inv X pins σ (upd H a (.ins C dx (Jt f y fs))) s'->Q () s'):wpAny (model X.prog X.w) A (setAttr (.ref a) f u) Q E s:=by
 obtain⟨mA,O,r,wi,_,ho⟩:=Yy I.hok e
 have hz:(fs.map (·.1)).length<=sizeLine:=by rw[List.length_map,sizeLine_eq];omega
 refine Ak2 I.kIn O c.sa c.po n.taker c.hd wi hz fun h' O' sb=>h _ ?_
 have hd:∃o,h'.get? dx=some o:=let ⟨o,_,_,e',_⟩:=O'.ns;⟨o,e'⟩
 refine I.write (x:=a) (e:=dx) (by rw[e];exact True.intro) (.inr ho) (fun b q hb z=>(sb.2 b hb).trans z) hd ?_
 refine⟨by rw[Ac O.ne];exact ho,?_,O.ne,O'.obj,_,O'.ns,fun g=>?_,fun g hg=>?_⟩
 ·have:=N7 f y fs;omega
 ·show Jc ((Jt f y fs).lookup g) (if g=f then some u else mA g)
  rw[N5]
  by_cases q:g=f
  ·rw[if_pos q,if_pos q];exact ry
  ·rw[if_neg q,if_neg q];exact r g
 ·by_cases q:g=f
  ·rw[q];exact(Nh f y fs).1
  ·refine(Nh f y fs).2 g (wi g fun z=>hg ?_)
   show(if g=f then some u else mA g)=none
   rw[if_neg q];exact z
theorem Inv.made (I:Inv X pins σ H s):Inv X pins σ (upd (upd H s.heap.objs.size (.own (s.heap.objs.size + 1))) (s.heap.objs.size + 1) (.ins C s.heap.objs.size []))
  {s with heap:=(s.heap.push PySem.W.emptyDict).push (PySem.W.instObj C s.heap.objs.size)}:=by
 have e1:(s.heap.push PySem.W.emptyDict).get? s.heap.objs.size=some PySem.W.emptyDict:=Heap.get?_push_size s.heap rfl
 have e2:((s.heap.push PySem.W.emptyDict).push (PySem.W.instObj C s.heap.objs.size)).get? (s.heap.objs.size + 1)=some (PySem.W.instObj C s.heap.objs.size):=by
  have:=Heap.get?_push_size (s.heap.push PySem.W.emptyDict) (o:=PySem.W.instObj C s.heap.objs.size) rfl
  rwa [Heap.size_push]at this
 have e3:(s.heap.push PySem.W.emptyDict).Ns s.heap.objs.size (fun _=>none):=⟨PySem.W.emptyDict,#[],_,e1,rfl,(fun e he=>absurd he (by simp)),fun _=>rfl⟩
 have I1:=I.laid (a:=s.heap.objs.size) (o:= .own (s.heap.objs.size + 1)) (h':=s.heap.push PySem.W.emptyDict) (t':=s.toks) (fun b u q=>Heap.get?_push_of_some _ q) (Nat.le_refl _) ⟨_,e1⟩
 refine I1.laid (a:=s.heap.objs.size + 1) (o:= .ins C s.heap.objs.size []) (t':=s.toks) (fun b u q=>Heap.get?_push_of_some _ q) (Nat.le_of_eq (Heap.size_push _ _)) ?_
 have ne:s.heap.objs.size≠s.heap.objs.size + 1:=Nat.ne_of_lt (Nat.lt_succ_self _)
 refine⟨by rw[Ac ne,Ab],Nat.zero_le _,ne,e2,fun _=>none,(Heap.Ns1.of_empty e3).at fun o q=>Heap.get?_push_of_some _ q,fun _=>True.intro,fun y hy=>absurd rfl hy⟩
theorem Aq1 {prog:Program}{w:World}{env:Env}{e:Expr}{f:Str}{pos:Pos}{s:Shared}{Q:Value->Shared->Prop}(hb:attributeBase e f env (eval e env)=eval e env)
  (h:wpAny (model prog w) A (eval e env) (fun o s₁=>wpAny (model prog w) A (getAttr o f true) Q E s₁) E s):wpAny (model prog w) A (eval (.Attribute e f pos) env) Q E s :=
 Attribute_any_ h (by rw[arm_eval_Attribute,hb])
end
def Bc5 (K:PySem.W.Frag)(ta tv:TE)(f:Str):TS:=fun D σ H=>tv σ H fun y H1=>ta σ H1 fun x H2=>∃a C dx fs,x= .ref a∧H2 a=some (.ins C dx fs)∧Cls K C∧Bb K C f∧fs.length < 1000 ∧
 D.nx σ (upd H2 a (.ins C dx (Jt f y fs)))
section
variable {X:Cx}{o e value:Expr}{f:Str}{pos pos' tpos:Pos}{ta tv:TE}
theorem BK (ha:PE X o ta)(hv:PE X value tv)(hs:swapsWith value (some (.Attribute o f pos')) pos.line X.env=pure false):PS X (.Assign [.Attribute o f pos'] value pos) (Bc5 X.K ta tv f):=by
 intro pins s σ H D I h
 refine plainObj_wpAny_Assign_Attribute (thn (hv pins s σ H _ I h) fun u s1 ⟨y,H1,I1,ry,q⟩=>thn (ha pins s1 σ H1 _ I1 q) fun ov s2 ⟨x,H2,I2,rx,a,C,dx,fs,ex,ea,c,n,l,q2⟩=>?_) hs
 subst ex
 obtain rfl:ov=Value.ref a:=rx
 exact W9 I2 ea c n l ry fun s3 I3=>⟨σ,_,I3,q2⟩
end
section
variable {X:Cx}{pins:List (Addr×Obj)}{σ:St}{H:Hp}{s:Shared}{A:Around}{E:Value->Shared->Prop}{Q:Value->Shared->Prop}{c:Value}{b:Bool}
end
end L2
namespace L2
open PySem PySem.Spec PyProof.Rows
structure CJ (k:Nat)(A:Around):Prop where
 hd:A.handled=none
 dp:A.depth + 3 * k + 5 < recursionLimit
 un:A.units + 16 * k + 200 < cLine
theorem CJ.mono {j k:Nat}{A:Around}(r:CJ k A)(h:j<=k):CJ j A:=⟨r.hd,by have:=r.dp;omega,by have:=r.un;omega⟩
theorem CJ.deeper {k:Nat}{A:Around}(r:CJ (k + 1) A)(env:Env):CJ k (A.deeper env) :=
 ⟨r.hd,by have:=r.dp;show A.depth + 1 + 3 * k + 5 < _;omega,by have:=r.un;show A.units + 3 + 16 * k + 200 < _;omega⟩
theorem CJ.in1 {k:Nat}{A:Around}(r:CJ (k + 1) A):CJ k A.in1 :=
 ⟨r.hd,by have:=r.dp;show A.depth + 3 * k + 5 < _;omega,by have:=r.un;show A.units + 1 + 16 * k + 200 < _;omega⟩
theorem Xo {A:Around}{C:Addr}{us:List Value}{kw:List (Str×Value)}:(A.under (.builtin "type.__call__" ⟨.ref C::us,kw⟩)).depth=A.depth + 1:=by
 first | rfl | simp[Around.under,Code.weight,Code.isCreation,Code.isGuard,Code.isCaller,Code.frames,Code.isFrame,guardIds]
theorem Xn {A:Around}{C:Addr}{us:List Value}{kw:List (Str×Value)}:(A.under (.builtin "type.__call__" ⟨.ref C::us,kw⟩)).units=A.units + 1:=by
 first | rfl | simp[Around.under,Code.cUnits,Code.frames,Code.isFrame]
theorem CJ.make {k:Nat}{A:Around}(r:CJ (k + 1) A)(C:Addr)(us:List Value)(kw:List (Str×Value)):CJ k (A.under (.builtin "type.__call__" ⟨.ref C::us,kw⟩)) :=
 ⟨r.hd,by have:=r.dp;rw[Xo];omega,by have:=r.un;rw[Xn];omega⟩
theorem CJ.depth {k:Nat}{A:Around}(r:CJ k A):A.depth < recursionLimit:=by have:=r.dp;omega
def Ab3:TA:=fun _ H Q=>Q [] H
def Yi (ta:TE)(tr:TA):TA:=fun σ H Q=>ta σ H fun x H1=>tr σ H1 fun xs H2=>Q (x::xs) H2
section
variable {X:Cx}{e:Expr}{es:List Expr}{te:TE}{t:TA}{pos:Pos}
theorem Ae:PA X [] Ab3:=fun _ _ _ _ H Q I h=>Calls.spliced_nil ⟨[],H,I,.nil,h⟩
theorem Aa (ha:PE X e te)(hr:PA X es t)(hs:starEach (e::es) X.env=(false,eval e X.env)::starEach es X.env:=by rfl):PA X (e::es) (Yi te t):=by
 intro pos pins s σ H Q I h
 rw[hs]
 show wpAny _ _ (spliced ((false,eval e X.env)::backTo pos (starEach es X.env))) _ _ s
 refine Calls.spliced_cons (thn (ha pins s σ H _ I h) fun u s1 ⟨x,H1,I1,r1,q1⟩=>?_)
 exact thn (hr pos pins s1 σ H1 _ I1 q1) fun us s2 ⟨xs,H2,I2,r2,q2⟩=>⟨x::xs,H2,I2,.cons r1 r2,q2⟩
def Bb5 (t:TA):TE:=fun σ H Q=>t σ H fun xs H1=>xs.length<=sizeLine∧∀p,H1 p=none->Q (.ref p) (upd H1 p (.tup xs))
def Bb9 (t:TA):TE:=fun σ H Q=>t σ H fun xs H1=>xs.length<=sizeLine∧∀p,H1 p=none->Q (.ref p) (upd H1 p (.lst xs))
theorem Il {x1}(h:PA X es t):PE X (.Tuple es x1 pos) (Bb5 t):=by
 intro pins s σ H Q I hq
 refine wpAny_Tuple_spliced (thn (h pos pins s σ H _ I hq) fun us s1 ⟨xs,H1,I1,r,z,q⟩=>⟨by rw[← r.length];exact z,?_⟩)
 have hf:H1 s1.heap.objs.size=none:=I1.hok.fresh (Nat.le_refl _)
 refine⟨.ref s1.heap.objs.size,upd H1 s1.heap.objs.size (.tup xs),I1.laid (t':=s1.toks) (fun b u e=>Heap.get?_push_of_some _ e) (Nat.le_refl _) ?_,rfl,q _ hf⟩
 exact⟨z,us,r,⟨_,Heap.get?_push_size _ rfl,rfl,_,rfl⟩⟩
theorem Ax (h:PA X es t):PE X (.List es pos) (Bb9 t):=by
 intro pins s σ H Q I hq
 refine wpAny_List_spliced (thn (h pos pins s σ H _ I hq) fun us s1 ⟨xs,H1,I1,r,z,q⟩=>⟨by rw[← r.length];exact z,?_⟩)
 have hf:H1 s1.heap.objs.size=none:=I1.hok.fresh (Nat.le_refl _)
 refine⟨.ref s1.heap.objs.size,upd H1 s1.heap.objs.size (.lst xs),I1.laid (t':=s1.toks) (fun b u e=>Heap.get?_push_of_some _ e) (Nat.le_refl _) ?_,rfl,q _ hf⟩
 exact⟨z,us,0,r,Heap.get?_push_size _ rfl⟩
end
abbrev Sp:=List V->Hp->VK->XK->Prop
abbrev CXT:=List Env->Hp->Shared->XK->Value->Shared->Prop
structure Yb (P:Program)(w:World)(K:PySem.W.Frag)(mg:Str->Option Value)(base:Heap)(A:Around)(outer:List Env)(s:Shared)(H:Hp):Prop where
 frames:A.frames=some outer
 mod:Mod K mg base
 bs:∀b o,base.get? b=some o->s.heap.get? b=some o∧H b=none
 bsz:base.objs.size<=s.heap.objs.size
 O6:s.heap.FunFrames base outer
 frf:∀b∈frs outer,H b=none
 hok:HOk P w H s.heap
 bare:AllBare s.gens
def CE (outer:List Env)(P:Program)(w:World)(H:Hp)(s:Shared)(Q:VK)(u:Value)(s':Shared):Prop :=
 ∃v H',s'.os=s.os∧AllBare s'.gens∧Un (frs outer) [] H H' s.heap s'.heap∧HOk P w H' s'.heap∧RelV v u∧Q v H'
def CR (CX:CXT)(outer:List Env)(P:Program)(w:World)(H:Hp)(s:Shared)(Q:VK)(E:XK)(r:Result)(s':Shared):Prop :=
 match r with
 | .ok (.ret u)=>CE outer P w H s Q u s'
 | .ok _=>False
 | .error e=>CX outer H s E e s'
structure Ay (P:Program)(w:World)(K:PySem.W.Frag)(mg:Str->Option Value)(base:Heap)(CX:CXT)(k:Nat)(f:Addr)(fd:FuncData)(ps:List Str)(sp:Sp):Prop where
 len:∀vs H Q E,sp vs H Q E->vs.length=ps.length
 run:∀(A:Around) (outer:List Env) (s:Shared) (H:Hp) (args:Args) (us:List Value) (vs:List V) (Q:VK) (E:XK),CJ k A->Yb P w K mg base A outer s H->BindsTo s fd args (ps.zip us)->Vals vs us->sp vs H Q E ->
  codeAny (model P w) A (.call (.ref f) args) (CR CX outer P w H s Q E) s
theorem Ay.mono {P:Program}{w:World}{K:PySem.W.Frag}{mg:Str->Option Value}{base:Heap}{CX:CXT}{j k:Nat}{f:Addr}{fd:FuncData}{ps:List Str}{sp:Sp}(F:Ay P w K mg base CX j f fd ps sp)(h:j<=k) :
  Ay P w K mg base CX k f fd ps sp:=⟨F.len,fun A outer s H args us vs Q E hr=>F.run A outer s H args us vs Q E (hr.mono h)⟩
theorem Yb.make {P:Program}{w:World}{K:PySem.W.Frag}{mg:Str->Option Value}{base:Heap}{A:Around}{outer:List Env}{s:Shared}{H:Hp}(e:Yb P w K mg base A outer s H)(C:Addr)(us:List Value)(kw:List (Str×Value)) :
  Yb P w K mg base (A.under (.builtin "type.__call__" ⟨.ref C::us,kw⟩)) outer s H:=⟨by first | exact e.frames | (simpa[Around.under,Code.envs,Code.isFrame,pushEnvs]using e.frames),e.mod,e.bs,e.bsz,e.O6,e.frf,e.hok,e.bare⟩
section
variable {X:Cx}{pins:List (Addr×Obj)}{σ:St}{H:Hp}{s s':Shared}
theorem Inv.env0 (I:Inv X pins σ H s):Yb X.prog X.w X.K X.mg X.base X.A X.stack s H :=
 ⟨I.ok.frames,I.ok.mod,I.bs,Nat.le_trans I.ok.bsz I.sz,I.stack,I.Tv,I.hok,I.bare⟩
theorem Inv.after {Q:VK}{u:Value}(I:Inv X pins σ H s)(h:CE X.stack X.prog X.w H s Q u s'):EP X pins σ Q u s':=by
 obtain⟨v,H',os,bare,un,hok,r,q⟩:=h
 obtain⟨hh,g,d,t,os'⟩:=s'
 obtain rfl:os'=s.os:=os
 exact⟨v,H',I.call (h':=hh) (g':=g) (d':=d) (t':=t) (ch:=[]) un hok bare (fun b z=>absurd z (by simp)),r,q⟩
end
def Ab5 (sp:Sp)(dvs:List V)(E:XK)(t:TA):TE:=fun σ H Q=>t σ H fun vs H1=>sp (vs++dvs) H1 Q E
def Yh (C:Addr)(sp:Sp)(dvs:List V)(E:XK)(t:TA):TE:=fun σ H Q=>t σ H fun vs H1=>∀x dx,H1 x=none->H1 dx=none->dx≠x ->
 sp (.ref x::(vs++dvs)) (upd (upd H1 dx (.own x)) x (.ins C dx [])) (fun v H2=>v= .non∧Q (.ref x) H2) E
def Binds (K:PySem.W.Frag)(fd:FuncData)(ps:List Str)(ds:List Value):Prop :=
 ∀(s:Shared) (us:List Value),K.In s.heap->(us++ds).length=ps.length->BindsTo s fd ⟨us,[]⟩ (ps.zip (us++ds))
theorem Binds.all {K:PySem.W.Frag}{fd:FuncData}{ps:List Str}(h:∀us:List Value,us.length=ps.length->bindArgs fd ⟨us,[]⟩=pure (ps.zip us)):Binds K fd ps []:=fun s us _ hl=>by
 rw[List.append_nil]at hl ⊢
 exact .of_eq (h us hl)
def Passes (CX:CXT)(X:Cx)(E:XK):Prop:=∀(pins:List (Addr×Obj))(σ:St)(H:Hp)(s:Shared)(e:Value)(s':Shared),Inv X pins σ H s->CX X.stack H s E e s'->X.xe e s'
section
variable {X:Cx}{CX:CXT}{k:Nat}{f C:Addr}{fd:FuncData}{ps:List Str}{sp:Sp}{dvs:List V}{ds:List Value}{E:XK}{x m:Str}{p pos apos:Pos}{e o:Expr}{es:List Expr}{ta:TE}{t:TA}
theorem Ad8 {pins:List (Addr×Obj)}{σ:St}{H:Hp}{s:Shared}{Q:VK}{us:List Value}{vs:List V}(F:Ay X.prog X.w X.K X.mg X.base CX k f fd ps sp)(hr:CJ k X.A)(hb:Binds X.K fd ps ds)(hd:Vals dvs ds)(hx:Passes CX X E)
  (I:Inv X pins σ H s) (r:Vals vs us) (h:sp (vs++dvs) H Q E):wpAny (model X.prog X.w) X.A (call (.ref f) us) (EP X pins σ Q) X.xe s:=by
 have r2:Vals (vs++dvs) (us++ds):=r.append hd
 have hl:(us++ds).length=ps.length:=by rw[← r2.length];exact F.len _ _ _ _ h
 refine wpAny_call (codeAny_mono (F.run X.A X.stack s H ⟨us,[]⟩ (us++ds) (vs++dvs) Q E hr I.env0 (hb s us I.kIn hl) r2 h) fun r s' hq=>?_)
 cases r with
 | error e=>exact hx pins σ H s e s' I hq
 | ok fl =>
  cases fl with
  | ret u=>exact I.after hq
  | next=>exact False.elim hq
  | brk=>exact False.elim hq
  | cont=>exact False.elim hq
theorem Al8 (F:Ay X.prog X.w X.K X.mg X.base CX k f fd ps sp)(hr:CJ k X.A)(hg:Gl X x)(hm:X.mg x=some (.ref f))(hk:PySem.W.keepIn X.K (.ref f)=true)(hb:Binds X.K fd ps ds)(hd:Vals dvs ds)(hx:Passes CX X E)
  (ha:PA X (e::es) t) (hdb:(x==("__debug__" :Str))=false:=by decide) (he:starEach (e::es) X.env=(false,eval e X.env)::starEach es X.env:=by rfl) (hpl:(backTo pos (starEach es X.env)).any (·.1)=false:=by rfl) :
  PE X (.Call (.Name x p) (e::es) [] pos) (Ab5 sp dvs E t):=by
 intro pins s σ H Q I h
 refine wpAny_Call_Name_kw (Pu I hg hm ?_ hdb)
 refine PySem.W.callWith_K (h₀:=X.base) I.ok.mod.kin hk (thn (ha pos pins s σ H _ I h) fun us s1 ⟨vs,H1,I1,r,q⟩=>⟨I1.kIn,?_⟩) he hpl
 exact Ad8 F hr hb hd hx I1 r q
structure Mk (K:PySem.W.Frag)(C f:Addr):Prop where
 makes:PySem.W.makesIn K C=true
 init:PySem.W.findIn K (.ref C) "__init__" =some (some (.ref f))
 fn:PySem.W.isFn K (.ref f)=true
 kp:PySem.W.keepIn K (.ref C)=true
theorem Vi {pins:List (Addr×Obj)}{σ:St}{H:Hp}{s:Shared}{Q:VK}{us:List Value}{vs:List V}(M:Mk X.K C f)(F:Ay X.prog X.w X.K X.mg X.base CX k f fd ps sp)(hr:CJ (k + 1) X.A)(hb:Binds X.K fd ps ds)(hd:Vals dvs ds)
  (hx:Passes CX X E) (I:Inv X pins σ H s) (r:Vals vs us)
  (h:∀x dx,H x=none->H dx=none->dx≠x->sp (.ref x::(vs++dvs)) (upd (upd H dx (.own x)) x (.ins C dx [])) (fun v H2=>v= .non∧Q (.ref x) H2) E) :
  wpAny (model X.prog X.w) X.A (call (.ref C) us) (EP X pins σ Q) X.xe s:=by
 have hq:=h (s.heap.objs.size + 1) s.heap.objs.size (I.hok.fresh (Nat.le_succ _)) (I.hok.fresh (Nat.le_refl _)) (Nat.ne_of_lt (Nat.lt_succ_self _))
 have I2:=Inv.made (C:=C) I
 have r2:Vals (V.ref (s.heap.objs.size + 1)::(vs++dvs)) (Value.ref (s.heap.objs.size + 1)::(us++ds)):= .cons rfl (r.append hd)
 have hl:(Value.ref (s.heap.objs.size + 1)::us++ds).length=ps.length:=by
  have e:=r2.length
  rw[F.len _ _ _ _ hq]at e
  exact e.symm
 refine wpAny_call (Ag6 (f:=f) I.kIn M.makes M.init (beq_iff_eq.mp M.fn) (codeAny_mono (F.run _ X.stack _ _ ⟨Value.ref (s.heap.objs.size + 1)::us,[]⟩ (Value.ref (s.heap.objs.size + 1)::(us++ds)) _ _ E (hr.make C us [])
  (I2.env0.make C us []) (hb _ (Value.ref (s.heap.objs.size + 1)::us) I2.kIn hl) r2 hq) fun r s' hq'=>?_))
 cases r with
 | error e=>exact hx pins σ _ _ e s' I2 hq'
 | ok fl =>
  cases fl with
  | ret u =>
   obtain⟨v,H',I3,rv,ev,q3⟩:=I2.after hq'
   subst ev
   exact⟨rv,⟨V.ref (s.heap.objs.size + 1),H',I3,rfl,q3⟩⟩
  | next=>exact False.elim hq'
  | brk=>exact False.elim hq'
  | cont=>exact False.elim hq'
theorem Al6 (M:Mk X.K C f)(F:Ay X.prog X.w X.K X.mg X.base CX k f fd ps sp)(hr:CJ (k + 1) X.A)(hg:Gl X x)(hm:X.mg x=some (.ref C))(hb:Binds X.K fd ps ds)(hd:Vals dvs ds)(hx:Passes CX X E)
  (ha:PA X (e::es) t) (hdb:(x==("__debug__" :Str))=false:=by decide) (he:starEach (e::es) X.env=(false,eval e X.env)::starEach es X.env:=by rfl) (hpl:(backTo pos (starEach es X.env)).any (·.1)=false:=by rfl) :
  PE X (.Call (.Name x p) (e::es) [] pos) (Yh C sp dvs E t):=by
 intro pins s σ H Q I h
 refine wpAny_Call_Name_kw (Pu I hg hm ?_ hdb)
 refine PySem.W.callWith_K (h₀:=X.base) I.ok.mod.kin M.kp (thn (ha pos pins s σ H _ I h) fun us s1 ⟨vs,H1,I1,r,q⟩=>⟨I1.kIn,?_⟩) he hpl
 exact Vi M F hr hb hd hx I1 r q
theorem Ae9 (M:Mk X.K C f)(F:Ay X.prog X.w X.K X.mg X.base CX k f fd ps sp)(hr:CJ (k + 1) X.A)(hg:Gl X x)(hm:X.mg x=some (.ref C))(hb:Binds X.K fd ps ds)(hd:Vals dvs ds)(hx:Passes CX X E)
  (hdb:(x==("__debug__" :Str))=false:=by decide):PE X (.Call (.Name x p) [] [] pos) (Yh C sp dvs E Ab3):=by
 intro pins s σ H Q I h
 refine wpAny_Call_Name_kw (Pu I hg hm ?_ hdb)
 exact PySem.W.callWith_K0 I.kIn M.kp (Vi (us:=[]) M F hr hb hd hx I .nil h)
end
section
variable {X:Cx}{CX:CXT}{k:Nat}{f C:Addr}{fd:FuncData}{ps ks:List Str}{sp:Sp}{E:XK}{x m:Str}{p pos apos kpos:Pos}{e o:Expr}{es:List Expr}{kws:List Keyword}{te ta:TE}{t tk:TA}{nm:Option Str}
variable {g:List Value->List Value->List Value}{gV:List V->List V->List V}
end
structure Aj (N P:List Str)(sc:Scope):Prop where
 kind:sc.kind= .function
 co:sc.isCoroutine=false
 gen:sc.isGenerator=false
 nd:N.Nodup
 pre:N.take P.length=P
 par:∀x∈P,sc.names.lookup x=some .local∨sc.names.lookup x=some .cell
 Av1:∀y∈sc.names,y.2≠ .free
theorem Td {kindOf:Str->Option NameKind}{x:Str}:∀{binds:List (Str×Value)}{m:Str->Option Value},(∀v,(x,v)∉binds)->bindL kindOf binds m x=m x
 | [],_,_=>rfl
 | (n,v)::r,m,h=>by
  unfold bindL
  rw[Td fun w hw=>h w (List.mem_cons_of_mem _ hw)]
  split
  ·have:x≠n:=by rintro rfl;exact h v List.mem_cons_self
   simp[this]
  ·rfl
theorem Tf {kindOf:Str->Option NameKind}{x:Str}:∀{binds:List (Str×Value)}{m:Str->Option Value},(∀v,(x,v)∉binds)->bindC kindOf binds m x=m x
 | [],_,_=>rfl
 | (n,v)::r,m,h=>by
  unfold bindC
  rw[Tf fun w hw=>h w (List.mem_cons_of_mem _ hw)]
  split
  ·rfl
  ·have:x≠n:=by rintro rfl;exact h v List.mem_cons_self
   simp[this]
theorem Te {kindOf:Str->Option NameKind}{x:Str}{v:Value}:∀{P:List Str}{vs:List Value}{i:Nat}{m:Str->Option Value},P.Nodup->P[i]?=some x->vs[i]?=some v->kindOf x=some .local ->
  bindL kindOf (P.zip vs) m x=some v
 | [],_,_,_,_,h,_,_=>by simp at h
 | _::_,[],_,_,_,_,h,_=>by simp at h
 | p::P,w::vs,0,m,nd,h1,h2,hk=>by
  simp at h1 h2;subst h1;subst h2
  show bindL kindOf ((p,w)::P.zip vs) m p=_
  unfold bindL
  rw[Td fun v hv=>(List.nodup_cons.mp nd).1 (List.of_mem_zip hv).1,if_pos hk]
  simp
 | p::P,w::vs,i + 1,m,nd,h1,h2,hk=>by
  show bindL kindOf ((p,w)::P.zip vs) m x=_
  unfold bindL
  exact Te (i:=i) (List.nodup_cons.mp nd).2 (by simpa using h1) (by simpa using h2) hk
theorem Tg {kindOf:Str->Option NameKind}{x:Str}{v:Value}:∀{P:List Str}{vs:List Value}{i:Nat}{m:Str->Option Value},P.Nodup->P[i]?=some x->vs[i]?=some v->kindOf x≠some .local ->
  bindC kindOf (P.zip vs) m x=some v
 | [],_,_,_,_,h,_,_=>by simp at h
 | _::_,[],_,_,_,_,h,_=>by simp at h
 | p::P,w::vs,0,m,nd,h1,h2,hk=>by
  simp at h1 h2;subst h1;subst h2
  show bindC kindOf ((p,w)::P.zip vs) m p=_
  unfold bindC
  rw[Tf fun v hv=>(List.nodup_cons.mp nd).1 (List.of_mem_zip hv).1,if_neg hk]
  simp
 | p::P,w::vs,i + 1,m,nd,h1,h2,hk=>by
  show bindC kindOf ((p,w)::P.zip vs) m x=_
  unfold bindC
  exact Tg (i:=i) (List.nodup_cons.mp nd).2 (by simpa using h1) (by simpa using h2) hk
def start (N:List Str)(vs:List V):St:=vs.map some++List.replicate (N.length - vs.length) none
def XJ (CX:CXT)(P:Program)(w:World)(K:PySem.W.Frag)(mg:Str->Option Value)(base:Heap)(N:List Str)(qual:Str)(scope:Scope)(f:Addr)(cd:Value)(A:Around)(outer:List Env)(s:Shared)(H:Hp)(E:XK):Cx where
 prog:=P
 w:=w
 K:=K
 mg:=mg
 base:=base
 A:=A.deeper (envOfC qual scope s.heap.objs.size f cd)
 N:=N
 s_0:=s
 H_0:=H
 env:=envOfC qual scope s.heap.objs.size f cd
 outer:=outer
 stack:=envOfC qual scope s.heap.objs.size f cd::outer
 ex:=[]
 calm:=true
 fn:=fun _=>true
 pn:=[]
 xe:=fun e s'=>wpAny (model P w) (A.deeper (envOfC qual scope s.heap.objs.size f cd)) (leaving (envOfC qual scope s.heap.objs.size f cd) e) (fun _ s''=>CX outer H s E e s'') (fun e' s''=>CX outer H s E e' s'') s'
theorem Wa {sc:Scope}{n:Nat}{x:Str}(h:sc.names.lookup x=some .cell):∃c,(cellsFrom n sc.names []).lookup x=some c:=by
 have q:=PySem.W.cellsFrom_some sc.names n [] (.inl h)
 exact Option.isSome_iff_exists.mp q
theorem ZR {CX:CXT}{P:Program}{w:World}{K:PySem.W.Frag}{mg:Str->Option Value}{base:Heap}{N ps:List Str}{qual:Str}{scope:Scope}{f:Addr}{cd:Value}{A:Around}{outer:List Env}{s s1:Shared}{H:Hp}{E:XK}{us:List Value}{vs:List V}
  (S:Aj N ps scope) (hd:A.handled=none) (e0:Yb P w K mg base A outer s H) (hl:vs.length=ps.length) (r:Vals vs us)
  (x:InCallC s s.heap.objs.size (bindL (envOfC qual scope s.heap.objs.size f cd).kindOf (ps.zip us) fun _=>none) (cellsFrom (s.heap.objs.size + 1) scope.names []) (bindC (envOfC qual scope s.heap.objs.size f cd).kindOf (ps.zip us) fun _=>none) s1) :
  Inv (XJ CX P w K mg base N qual scope f cd A outer s H E) [] (start N vs) H s1:=by
 have hpl:ps.length<=N.length:=by have:=congrArg List.length S.pre;rw[List.length_take]at this;omega
 obtain⟨h1,tk,rfl,hk⟩:=x.done
 have noA:∀b:Addr,b∉(XJ CX P w K mg base N qual scope f cd A outer s H E).ex:=fun b z=>absurd (show b∈([]:List Addr) from z) (by simp)
 refine⟨⟨e0.mod,S.kind,rfl,rfl,Nat.le_refl _,fun y z c h1 h2=>?_,fun y hy=>?_,fun y c _ h=>?_,fun _=>hd,Around.frames_deeper e0.frames,.inr ⟨rfl,rfl⟩,fun b z=>absurd z (noA b),e0.bs,e0.bsz,fun b _ _=>noA b,fun b z=>absurd z (noA b),e0.O6,e0.frf⟩,
  rfl,e0.bare,Un.kept hk,⟨_,x.toInCall.ns,fun i y v h1 h2 h3=>?_⟩,fun y c h=>⟨_,x.cell y c h⟩,e0.hok.fresh (Nat.le_refl _),fun y c h=>?_,fun p hp=>absurd (show p∈([]:List (Addr×Obj)) from hp) (by simp),e0.hok.kept hk,?_⟩
 ·exact name_of_addr x.apart (PySem.mem_of_lookup h1) (PySem.mem_of_lookup h2)
 ·have hy:scope.names.lookup y=some .cell∨scope.names.lookup y=some .free:=hy
  rcases hy with hy | hy
  ·exact Wa hy
  ·exact absurd rfl (S.Av1 _ (PySem.mem_of_lookup hy))
 ·exact Nat.le_of_lt (x.above y c (PySem.mem_of_lookup h))
 ·have hi:i < vs.length:=by
   unfold start at h2
   by_cases hi:i < vs.length
   ·exact hi
   ·rw[List.getElem?_append_right (by simpa using hi)]at h2
    rw[List.getElem?_replicate]at h2
    split at h2 <;>cases h2
  have ha:vs[i]?=some v:=by
   unfold start at h2
   rw[List.getElem?_append_left (by simpa using hi),List.getElem?_map]at h2
   cases e:vs[i]? with
   | none=>rw[e]at h2;cases h2
   | some a=>rw[e]at h2;cases h2;rfl
  obtain⟨u,hu,rv⟩:=r.get ha
  have hp:ps[i]?=some y:=by
   rw[← S.pre,List.getElem?_take_of_lt (by omega)];exact h1
  have ndP:ps.Nodup:=by rw[← S.pre];exact S.nd.sublist (List.take_sublist _ _)
  refine⟨u,rv,?_⟩
  rcases S.par y (List.mem_of_getElem? hp) with k | k
  ·exact .inl ⟨k,Te ndP hp hu k⟩
  ·obtain⟨c,e⟩:=Wa (n:=s.heap.objs.size + 1) k
   refine .inr ⟨.inl k,c,e,?_⟩
   have q:=x.cell y c e
   rw[Tg ndP hp hu (by show scope.names.lookup y≠_;rw[k];decide)]at q
   exact q
 ·exact e0.hok.fresh (Nat.le_of_lt (x.above y c (PySem.mem_of_lookup h)))
 ·unfold start
  show _=N.length
  rw[List.length_append,List.length_map,List.length_replicate]
  omega
theorem Ar0 {CX:CXT}{P:Program}{w:World}{K:PySem.W.Frag}{mg:Str->Option Value}{base:Heap}{k:Nat}{f:Addr}{name qual:Str}{params:Arguments}{body:List Stmt}{scope:Scope}{dV kV doc pm cdv ct oc:Value}{an od:Option Addr}
  {osl:Array (Option Value)} {N ps:List Str} {sp:Sp} (lk:K.lookup f=some ⟨oc,od,.func (PySem.W.fnOf name qual params body scope dV kV doc pm an cdv ct),osl⟩) (hcd:PySem.W.codeIn K cdv qual=true) (S:Aj N ps scope)
  (len:∀vs H Q E,sp vs H Q E->vs.length=ps.length)
  (hbody:∀(A:Around) (outer:List Env) (s:Shared) (H:Hp) (vs:List V) (Q:VK) (E:XK),CJ k (A.deeper (envOfC qual scope s.heap.objs.size f cdv))->sp vs H Q E ->
   ∃t,PSs (XJ CX P w K mg base N qual scope f cdv A outer s H E) body t∧t {nx:=fun _ H'=>Q .non H',rt:=Q} (start N vs) H) :
  Ay P w K mg base CX (k + 1) f (PySem.W.fnOf name qual params body scope dV kV doc pm an cdv ct) ps sp:=by
 refine⟨len,fun A outer s H args us vs Q E hr e0 hb r hsp=>?_⟩
 have hl:=len _ _ _ _ hsp
 have KX:K.In s.heap:=e0.mod.kin.keeps fun b o e=>(e0.bs b o e).1
 have lim:s.heap.NoLimit:=e0.mod.nolimit.keeps fun b o e=>(e0.bs b o e).1
 have hkind:∀y∈ps.zip us,scope.names.lookup y.1=some .local∨(scope.names.lookup y.1=some .cell∧((cellsFrom (s.heap.objs.size + 1) scope.names []).lookup y.1).isSome=true):=fun⟨n,v⟩ hy=>by
  rcases S.par n (List.of_mem_zip hy).1 with q | q
  ·exact .inl q
  ·exact .inr ⟨q,PySem.W.cellsFrom_some _ _ _ (.inl q)⟩
 refine codeAny_call_function hr.depth (KX _ _ lk) rfl S.co S.gen rfl (PySem.W.codeRec_of KX hcd) (hb _ _ _ _ ?_)
 refine wpAny_newFunctionEnv_cells S.kind hkind fun env he s1 x=>?_
 subst he
 refine⟨lim.keeps x.toInCall.keep,codeAny_func ?_⟩
 obtain⟨t,ht,hq⟩:=hbody A outer s H vs Q E (hr.deeper _) hsp
 have I:Inv (XJ CX P w K mg base N qual scope f cdv A outer s H E) [] (start N vs) H s1:=ZR S hr.hd e0 hl r x
 refine wpAny_mono (ht [] s1 (start N vs) H _ I hq) (fun fl s' hs=>?_) fun e s' hs=>hs
 have fin:∀{σ':St} {H':Hp} {v:V} {u:Value},Inv (XJ CX P w K mg base N qual scope f cdv A outer s H E) [] σ' H' s'->RelV v u->Q v H'->CE outer P w H s Q u s' :=
  fun {σ' H' v u} J rv q=>⟨v,H',J.os,J.bare,J.base,J.hok,rv,q⟩
 cases fl with
 | ret u =>
  obtain⟨v,σ',H',J,rv,q⟩:=hs
  exact fin J rv q
 | next =>
  obtain⟨σ',H',J,q⟩:=hs
  exact fin (v:=V.non) (u:=Value.none) J rfl q
 | brk =>
  obtain⟨_,_,_,q⟩:=hs
  exact False.elim q
 | cont =>
  obtain⟨_,_,_,q⟩:=hs
  exact False.elim q
end L2
namespace L2
open PySem PySem.Spec PyProof.Rows
section
variable {X:Cx}{x:Str}{p pos:Pos}{e:Expr}{es:List Expr}{t:TA}{id T:String}{r:List V->Hp->VK->Prop}
def tCB (r:List V->Hp->VK->Prop)(t:TA):TE:=fun σ H Q=>t σ H fun vs H1=>r vs H1 Q
theorem Bd (hc:Gg X (.builtin id) r)(hg:Gl X x)(hm:X.mg x=none)(hv:bootBuiltins x=some (.builtin id))(ha:PA X (e::es) t)(hn:x≠ "__name__" :=by decide)(hdb:(x==("__debug__" :Str))=false:=by decide)
  (he:starEach (e::es) X.env=(false,eval e X.env)::starEach es X.env:=by rfl) (hpl:(backTo pos (starEach es X.env)).any (·.1)=false:=by rfl):PE X (.Call (.Name x p) (e::es) [] pos) (tCB r t):=by
 intro pins s σ H Q I h
 refine wpAny_Call_Name_kw (Ng I hg hm hv ?_ hn hdb)
 exact PyProof.Rows.callWith_builtin1 (thn (ha pos pins s σ H _ I h) fun us s1 ⟨vs,H1,I1,r1,q1⟩=>hc pins s1 σ H1 vs us Q I1 r1 q1) he hpl
theorem Ss (hc:Gg X (.type T) r)(hg:Gl X x)(hm:X.mg x=none)(hv:bootBuiltins x=some (.type T))(ha:PA X (e::es) t)(hn:x≠ "__name__" :=by decide)(hdb:(x==("__debug__" :Str))=false:=by decide)
  (he:starEach (e::es) X.env=(false,eval e X.env)::starEach es X.env:=by rfl) (hpl:(backTo pos (starEach es X.env)).any (·.1)=false:=by rfl):PE X (.Call (.Name x p) (e::es) [] pos) (tCB r t):=by
 intro pins s σ H Q I h
 refine wpAny_Call_Name_kw (Ng I hg hm hv ?_ hn hdb)
 exact PyProof.Rows.callWith_type1 (thn (ha pos pins s σ H _ I h) fun us s1 ⟨vs,H1,I1,r1,q1⟩=>hc pins s1 σ H1 vs us Q I1 r1 q1) he hpl
end
end L2
namespace HT
open PySem PyProof.Rows
def lexLt:List Int->List Int->Bool
 | [],[]=>false
 | [],_::_=>true
 | _::_,[]=>false
 | x::xs,y::ys=>if x=y then lexLt xs ys else decide (x < y)
theorem Q6 (x y:Int)(xs ys:List Int):lexLt (x::xs) (y::ys)=if x=y then lexLt xs ys else decide (x < y):=rfl
theorem JF:lexLt [] []=false:=rfl
theorem Iv (y:Int)(ys:List Int):lexLt [] (y::ys)=true:=rfl
theorem Iw (x:Int)(xs:List Int):lexLt (x::xs) []=false:=rfl
theorem V3 (A:Around)(s:Shared)(a:Int)(t:Tok)(c:Int)(u:Tok):∃e,SeqAt.EqAt A s (.int a t) (.int c u) e∧(e=true↔a=c) :=
 ⟨(a==c),SeqAt.EqAt.int_int a t c u,by simp⟩
theorem Vj (A:Around)(s:Shared)(a:Int)(t:Tok)(c:Int)(u:Tok)(prog:Program)(w:World)(E:Value->Shared->Prop)(Q:Value->Shared->Prop)(h:Q (.bool (decide (a < c))) s) :
  wpAny (model prog w) A (richCompare .Lt (.int a t) (.int c u)) Q E s :=
 (PyProof.Rows.lt_int h:wpAny (model prog w) A (compareOp .Lt (.int a t) (.int c u)) Q E s)
section
open PySem.SeqAt
open PySem.AutoSeq1 (wpAny_loadPart')
open PySem.MeetsSeq PySem.MeetsSeq2 PySem.MeetsSeq3
theorem Rw (l b:Addr)(items items2:Array Value)(n n2:Nat)(dd dd2:Option Addr)(sl sl2:Array (Option Value))(ns ms:List Int)(hi:IntsAre items.toList ns)(hj:IntsAre items2.toList ms) :
  Meets (Builtin.«tuple.__lt__» ⟨[.ref l,.ref b],[]⟩)
   (fun _ R s=>s.heap.get? l=some {cls:= .type "tuple",dict:=dd,data:= .seq items n,slots:=sl}∧s.heap.get? b=some {cls:= .type "tuple",dict:=dd2,data:= .seq items2 n2,slots:=sl2} ∧
    R (.ok (.ret (.bool (lexLt ns ms)))) s) :=
 .of_wp fun prog w A R s h=>by
  obtain⟨hp,g,d,tk,os⟩:=s;obtain⟨hl,hb,h⟩:=h
  have f2:=AutoSeq1.sub_tuple_tuple
  have z1:items.size=ns.length:=by rw[← hi.length];simp
  have z2:items2.size=ms.length:=by rw[← hj.length];simp
  wp_walk using wpAny_loadPart' hl,wpAny_loadPart' hb,wpAny_forIn_list _ (fun rest b s'=>b.1=none∧s'=⟨hp,g,d,tk,os⟩∧∃(vs ws:List Value) (ns' ms':List Int),rest=vs.zip ws ∧
   IntsAre vs ns'∧IntsAre ws ms'∧ns'.length + items2.size=ms'.length + items.size∧R (.ok (.ret (.bool (lexLt ns' ms')))) ⟨hp,g,d,tk,os⟩) _
  case turn =>
   rintro⟨y,x⟩ rest b s' ⟨hb',rfl,vs,ws,ns',ms',hz,hvi,hwi,hlen,hR⟩
   cases hvi with
   | nil=>rw[List.zip_nil_left]at hz;cases hz
   | cons a t hvi' =>
    cases hwi with
    | nil=>rw[List.zip_nil_right]at hz;cases hz
    | cons c u hwi' =>
     rw[List.zip_cons_cons]at hz
     injection hz with hyx hrest
     injection hyx with hy hx
     subst hy hx
     rw[Q6]at hR
     simp only[List.length_cons]at hlen
     obtain⟨e,he,hiff⟩:=V3 A.in1 ⟨hp,g,d,tk,os⟩ a t c u
     refine wpAny_bind (he prog w _ _ ?_)
     cases e with
     | true =>
      rw[if_pos (hiff.mp rfl)]at hR
      wp_walk
      exact⟨rfl,rfl,_,_,_,_,hrest,hvi',hwi',by omega,hR⟩
     | false =>
      rw[if_neg (fun q=>absurd (hiff.mpr q) Bool.false_ne_true)]at hR
      have hri:=Vj A.in1 ⟨hp,g,d,tk,os⟩ a t c u prog w
      wp_walk using hri
      exact⟨_,rfl,by simpa using hR⟩
  case fin =>
   rintro⟨b1,b2⟩ s' ⟨hb',rfl,vs,ws,ns',ms',hz,hvi,hwi,hlen,hR⟩
   simp only at hb'
   subst hb'
   have hv:lexLt ns' ms'=decide (items.size < items2.size):=by
    cases hvi with
    | nil =>
     cases hwi with
     | nil =>
      simp only[List.length_nil]at hlen
      rw[JF]
      exact(decide_eq_false (by omega)).symm
     | cons c u hw =>
      simp only[List.length_nil,List.length_cons]at hlen
      rw[Iv]
      exact(decide_eq_true (by omega)).symm
    | cons a t hv =>
     cases hwi with
     | nil =>
      simp only[List.length_nil,List.length_cons]at hlen
      rw[Iw]
      exact(decide_eq_false (by omega)).symm
     | cons c u hw =>
      rw[List.zip_cons_cons]at hz
      cases hz
   rw[hv]at hR
   wp_walk
   exact⟨_,rfl,by simpa[Builtin.Tuple.tupleCompareSizes]using hR⟩
  case h =>
   exact⟨rfl,rfl,items.toList,items2.toList,ns,ms,rfl,hi,hj,by omega,h⟩
end
section
variable {prog:Program}{w:World}{A:Around}{E:Value->Shared->Prop}{s:Shared}
theorem Xp {l b:Addr}{items items2:Array Value}{ns ms:List Int}{Q:Value->Shared->Prop}(hl:IsTup s.heap l items)(hb:IsTup s.heap b items2)(hi:IntsAre items.toList ns)(hj:IntsAre items2.toList ms)
  (hu:A.units < cLine) (h:Q (.bool (lexLt ns ms)) s):wpAny (model prog w) A (compareOp .Lt (.ref l) (.ref b)) Q E s:=by
 obtain⟨⟨cls,dd,data,sl⟩,ho,hc,n,hd⟩:=id hl
 obtain⟨⟨cls2,dd2,data2,sl2⟩,ho2,hc2,n2,hd2⟩:=id hb
 simp only at hc hd hc2 hd2
 subst hc hd hc2 hd2
 exact richCompare_meets_room (op:= .Lt) ⟨_,ho,rfl⟩ ⟨_,ho2,rfl⟩ PySem.F.slot_tuple_lt PySem.F.entry_tuple_lt (PySem.F.args_tuple_lt_2 _ _) (Rw l b items items2 n n2 dd dd2 sl sl2 ns ms hi hj)
  ⟨ho,ho2,show Value.bool (lexLt ns ms)≠Value.notImplemented∧Q (.bool (lexLt ns ms)) s from⟨(fun x=>nomatch x),h⟩⟩ hu
def sIx (n d:Nat):Option Int->Nat
 | none=>d
 | some v=>if v < 0 then(v + (n:Int)).toNat else min v.toNat n
theorem Ad7 (n d:Nat):sIx n d none=d:=rfl
end
end HT
namespace L2
open PySem PySem.Spec PyProof.Rows
abbrev TO:=St->Hp->(Option Int->Hp->Prop)->Prop
def PO (X:Cx)(e:Option Expr)(t:TO):Prop :=
 ∀(pins:List (Addr×Obj)) (s:Shared) (σ:St) (H:Hp) (Q:Option Int->Hp->Prop),Inv X pins σ H s->t σ H Q ->
  wpAny (model X.prog X.w) X.A (evalPart e X.env) (fun u s'=>∃o H',Inv X pins σ H' s'∧IsPart u o∧Q o H') X.xe s
def Aj6:TO:=fun _ H Q=>Q none H
def Ay5 (t:TE):TO:=fun σ H Q=>t σ H fun x H1=>∃i,x= .int i∧Q (some i) H1
theorem intsAre_of {ns:List Int}:∀{us:List Value},Vals (ns.map V.int) us->IntsAre us ns:=by
 induction ns with
 | nil=>intro us r;rw[List.map_nil]at r;cases r;exact .nil
 | cons n ns ih =>
  intro us r
  rw[List.map_cons]at r
  cases r with
  | cons r1 r2 =>
   obtain⟨t,e⟩:=r1
   subst e
   exact .cons n t (ih r2)
section
variable {X:Cx}{e:Expr}{te:TE}{lo hi:Option Expr}{tl th:TO}{pos p2:Pos}
theorem Al3:PO X none Aj6:=by
 intro pins s σ H Q I h
 rw[evalPart_none]
 exact wpAny_pure ⟨none,H,I,.none,h⟩
theorem Le (h:PE X e te):PO X (some e) (Ay5 te):=by
 intro pins s σ H Q I hw
 rw[evalPart_some]
 refine thn (h pins s σ H _ I hw) fun u s1 ⟨x,H1,I1,r1,q1⟩=>?_
 obtain⟨i,rfl,q⟩:=q1
 obtain⟨t,rfl⟩:=r1
 exact⟨some i,H1,I1,.int i t,q⟩
def SlR (X:Cx)(r:V->Option Int->Option Int->Hp->VK->Prop):Prop :=
 ∀(pins:List (Addr×Obj)) (s:Shared) (σ:St) (H:Hp) (x:V) (v vl vu:Value) (lo hi:Option Int) (sl:Addr) (Q:VK),Inv X pins σ H s->RelV x v->s.heap.IsSliceOf sl vl vu .none->IsPart vl lo->IsPart vu hi->r x lo hi H Q ->
  ∃T id,typeLookup (.type T) "__getitem__" =pure (some (.builtin id))∧s.TypeIs v T∧wpAny (model X.prog X.w) X.A (getItem v (.ref sl)) (EP X pins σ Q) X.xe s
def tSl (r:V->Option Int->Option Int->Hp->VK->Prop)(te:TE)(tl th:TO):TE:=fun σ H Q=>te σ H fun x H1=>tl σ H1 fun l H2=>th σ H2 fun u H3=>r x l u H3 Q
theorem Qu {r:V->Option Int->Option Int->Hp->VK->Prop}(hr:SlR X r)(he:PE X e te)(hl:PO X lo tl)(hu:PO X hi th):PE X (.Subscript e (.Slice lo hi none p2) pos) (tSl r te tl th):=by
 intro pins s σ H Q I h
 refine Subscript_ (thn (he pins s σ H _ I h) fun v s1 ⟨x,H1,I1,r1,q1⟩=>?_)
 refine wpAny_Slice (thn (hl pins s1 σ H1 _ I1 q1) fun vl s2 ⟨l,H2,I2,pl,q2⟩=>thn (hu pins s2 σ H2 _ I2 q2) fun vu s3 ⟨u,H3,I3,pu,q3⟩=>?_)
 rw[evalPart_none]
 refine wpAny_pure ?_
 have I4:Inv X pins σ H3 {s3 with heap:=s3.heap.push {cls:= .type "slice",data:= .fields #[vl,vu,.none]}}:=I3.kept (t':=s3.toks) fun b ob q=>Heap.get?_push_of_some _ q
 obtain⟨T,id,hT,ht,hg⟩:=hr pins {s3 with heap:=s3.heap.push {cls:= .type "slice",data:= .fields #[vl,vu,.none]}} σ H3 x v vl vu l u s3.heap.objs.size Q I4 r1 (Heap.IsSliceOf.new ..) pl pu q3
 show wpAny (model X.prog X.w) X.A (subscriptTail e (.Slice lo hi none p2) v (.ref s3.heap.objs.size)) (EP X pins σ Q) X.xe {s3 with heap:=s3.heap.push {cls:= .type "slice",data:= .fields #[vl,vu,.none]}}
 exact tail_any (ops:=[.ref s3.heap.objs.size,v]) ht hT hg (by with_unfolding_all rfl)
def RP (xs:List V)(lo hi:Option Int):List V:=(xs.drop (HT.sIx xs.length 0 lo)).take (HT.sIx xs.length xs.length hi - HT.sIx xs.length 0 lo)
theorem V9 (xs:List V)(lo hi:Option Int):(RP xs lo hi).length<=xs.length:=by
 unfold RP
 rw[List.length_take,List.length_drop]
 omega
def Bd1 (K:PySem.W.Frag):R2:=fun x y H Q=>∃a b ns ms,x= .ref a∧y= .ref b∧SqT K H a (ns.map V.int)∧SqT K H b (ms.map V.int)∧Q (.bl (HT.lexLt ns ms)) H
theorem Au8 (hu:X.A.units < cLine):OpR X (compareOp .Lt) (Bd1 X.K):=by
 intro pins s σ H x y v u Q I rx ry h
 obtain⟨a,b,ns,ms,rfl,rfl,ha,hb,q⟩:=h
 cases rx
 cases ry
 obtain⟨its,r1,p1,_⟩:=I.tuple ha
 obtain⟨its2,r2,p2,_⟩:=I.tuple hb
 have i1:IntsAre its.toArray.toList ns:=intsAre_of r1
 have i2:IntsAre its2.toArray.toList ms:=intsAre_of r2
 exact HT.Xp p1 p2 i1 i2 hu ⟨.bl (HT.lexLt ns ms),H,I,rfl,q⟩
end
end L2
namespace L2
open PySem PySem.Spec PyProof.Rows
def ixN (n:Nat)(i:Int):Option Nat:=if 0<=i then(if i < n then some i.toNat else none) else if -(n:Int)<=i then some (i + n).toNat else none
def atI {α:Type}(xs:List α)(i:Int):Option α:=(ixN xs.length i).bind fun j=>xs[j]?
theorem An9 {n:Nat}{i:Int}{j:Nat}(h:ixN n i=some j):seqIndex? i n=some j∧j < n∧ -(n:Int)<=i∧i < n:=by
 unfold ixN at h
 by_cases h0:0<=i
 ·rw[if_pos h0]at h
  by_cases h1:i < n
  ·rw[if_pos h1]at h
   have e:i.toNat=j:=Option.some.inj h
   exact⟨by rw[seqIndex_of h0 h1,e],by omega,by omega,h1⟩
  ·rw[if_neg h1]at h;cases h
 ·rw[if_neg h0]at h
  by_cases h1: -(n:Int)<=i
  ·rw[if_pos h1]at h
   have e:(i + n).toNat=j:=Option.some.inj h
   exact⟨by rw[seqIndex_neg (by omega) h1,e],by omega,h1,by omega⟩
  ·rw[if_neg h1]at h;cases h
theorem YT {α:Type}{xs:List α}{i:Int}{v:α}(h:atI xs i=some v):∃j,seqIndex? i xs.length=some j∧xs[j]?=some v∧j < xs.length∧ -(xs.length:Int)<=i∧i < xs.length:=by
 unfold atI at h
 cases e:ixN xs.length i with
 | none=>rw[e]at h;cases h
 | some j =>
  rw[e]at h
  obtain⟨h1,h2,h3,h4⟩:=An9 e
  exact⟨j,h1,h,h2,h3,h4⟩
def Aq4 (b:Expr):Prop:=∀o i,subscripted b false o i=operate [o,i] (getItem o i)
def IxR (X:Cx)(r:R2):Prop :=
 ∀(value slice:Expr) (pins:List (Addr×Obj)) (s:Shared) (σ:St) (H:Hp) (x y:V) (v u:Value) (Q:VK),Inv X pins σ H s->RelV x v->RelV y u->r x y H Q ->
  subscripted slice false v u=operate [v,u] (getItem v u)->wpAny (model X.prog X.w) X.A (subscriptTail value slice v u) (EP X pins σ Q) X.xe s
def MtR (X:Cx)(id:String)(r:V->List V->Hp->VK->Prop):Prop :=
 ∀(pins:List (Addr×Obj)) (s:Shared) (σ:St) (H:Hp) (x:V) (xs:List V) (v:Value) (us:List Value) (Q:VK),Inv X pins σ H s->RelV x v->Vals xs us->r x xs H Q ->
  wpAny (model X.prog X.w) X.A (call (.builtin id) (v::us)) (EP X pins σ Q) X.xe s
section
variable {X:Cx}{a b:Expr}{ta tb:TE}{pos:Pos}
theorem Aw {r:R2}(hr:IxR X r)(ha:PE X a ta)(hb:PE X b tb)(hs:Aq4 b):PE X (.Subscript a b pos) (tOp r ta tb):=by
 intro pins s σ H Q I h
 exact Subscript_ (Ax8 ha hb I h fun v u s2 x y H2 I2 rx ry q=>hr a b pins s2 σ H2 x y v u Q I2 rx ry q (hs _ _))
def Bd3 (K:PySem.W.Frag):R2:=fun x y H Q=>∃p xs i v,x= .ref p∧y= .int i∧SqL K H p xs∧atI xs i=some v∧Q v H
def Bd2 (K:PySem.W.Frag):R2:=fun x y H Q=>∃p xs i v,x= .ref p∧y= .int i∧SqT K H p xs∧atI xs i=some v∧Q v H
theorem Ak:IxR X (Bd3 X.K):=by
 intro value slice pins s σ H x y v u Q I rx ry h hs
 obtain⟨p,xs,i,z,rfl,rfl,hq,he,q⟩:=h
 cases rx
 obtain⟨t,rfl⟩:=ry
 obtain⟨its,r,pl,hz⟩:=I.list hq
 obtain⟨j,h1,h2,h3,h4,h5⟩:=YT he
 obtain⟨w,ew,rw'⟩:=r.get h2
 have hl:=r.length
 have hn:=Xu
 have fin:EP X pins σ Q w s:=⟨z,H,I,rw',q⟩
 by_cases h0:0<=i
 ·have hj:i.toNat=j:=by
   rw[seqIndex_of h0 h5]at h1
   exact Option.some.inj h1
  exact item_listR pl.isList h0 (by omega) (by rw[hj];simpa using ew) fin hs
 ·have hj:(i + (its.toArray.size:Int)).toNat=j:=by
   rw[seqIndex_neg (by omega) h4]at h1
   rw[List.size_toArray,← hl]
   exact Option.some.inj h1
  exact subscriptTail_builtinR (x:=w) pl.isList.typeIs slot_list_getitem.lookup
   (wpAny_getItem_list_neg (Q:=fun r s'=>r=w∧EP X pins σ Q r s') pl.isList (by omega) (by rw[List.size_toArray] <;>omega) (by omega) (by rw[hj];simpa using ew) ⟨rfl,fin⟩) hs
theorem Kl:IxR X (Bd2 X.K):=by
 intro value slice pins s σ H x y v u Q I rx ry h hs
 obtain⟨p,xs,i,z,rfl,rfl,hq,he,q⟩:=h
 cases rx
 obtain⟨t,rfl⟩:=ry
 obtain⟨its,r,pl,hz⟩:=I.tuple hq
 obtain⟨j,h1,h2,h3,h4,h5⟩:=YT he
 obtain⟨w,ew,rw'⟩:=r.get h2
 have hl:=r.length
 have hn:=Xu
 have fin:EP X pins σ Q w s:=⟨z,H,I,rw',q⟩
 exact subscriptTail_builtinR (x:=w) pl.typeIs slot_tuple_getitem.lookup
  (getItem_tuple (j:=j) (Q:=fun r s'=>r=w∧EP X pins σ Q r s') pl (by omega) (by omega) (by rw[List.size_toArray,← hl];exact h1) (by simpa using ew) ⟨rfl,fin⟩) hs
theorem T7 (lo hi:Option Int)(n:Nat):(sliceBounds lo hi none n).1=((HT.sIx n 0 lo:Nat):Int)∧(sliceBounds lo hi none n).2.1=((HT.sIx n n hi:Nat):Int)∧(sliceBounds lo hi none n).2.2=1:=by
 refine⟨?_,?_,rfl⟩
 ·cases lo with
  | none=>simp[sliceBounds,HT.sIx]
  | some i =>
   simp only[sliceBounds,HT.sIx,Option.getD_none,show(1:Int) >0 by decide,if_true]
   by_cases h:i < 0
   ·simp only[h,if_true] <;>omega
   ·simp only[h,if_false] <;>omega
 ·cases hi with
  | none=>simp[sliceBounds,HT.sIx]
  | some i =>
   simp only[sliceBounds,HT.sIx,Option.getD_none,show(1:Int) >0 by decide,if_true]
   by_cases h:i < 0
   ·simp only[h,if_true] <;>omega
   ·simp only[h,if_false] <;>omega
theorem Ry (its:List Value)(lo hi:Option Int):slicePick its.toArray lo hi none=((its.drop (HT.sIx its.length 0 lo)).take (HT.sIx its.length its.length hi - HT.sIx its.length 0 lo)).toArray:=by
 obtain⟨h1,h2,h3⟩:=T7 lo hi its.toArray.size
 unfold slicePick
 rw[h1,h2,h3]
 simp only[sliceRange_one,pick_run,List.size_toArray] <;>rfl
def Bc7 (K:PySem.W.Frag):V->Option Int->Option Int->Hp->VK->Prop:=fun x lo hi H Q=>∃a xs,x= .ref a∧SqL K H a xs∧∀p,H p=none->Q (.ref p) (upd H p (.lst (RP xs lo hi)))
theorem T8:SlR X (Bc7 X.K):=by
 intro pins s σ H x v vl vu lo hi sl Q I rx hs pl pu h
 obtain⟨a,xs,rfl,hx,q⟩:=h
 cases rx
 obtain⟨its,r,ht,hz⟩:=I.list hx
 have hlen:=r.length
 refine⟨"list",_,slot_list_getitem.lookup,ht.isList.typeIs,?_⟩
 refine wpAny_getItem_list_slice ht.isList hs pl pu .none (by simp) ?_ (by rw[List.size_toArray] <;>omega)
 rw[Ry,← hlen]
 refine⟨.ref s.heap.objs.size,_,I.laid (t':=s.toks) (o:= .lst (RP xs lo hi)) (fun b ob q=>Heap.get?_push_of_some _ q) (Nat.le_refl _) ?_,rfl,q _ (I.hok.fresh (Nat.le_refl _))⟩
 exact⟨Nat.le_trans (V9 xs lo hi) hz,_,0,(r.drop (HT.sIx xs.length 0 lo)).take (HT.sIx xs.length xs.length hi - HT.sIx xs.length 0 lo),Heap.get?_push_size _ rfl⟩
def GX:V->Bool
 | .non=>true
 | .bl _=>true
 | .int _=>true
 | .str _=>true
 | _=>false
def eqV:V->V->Bool
 | .non,.non=>true
 | .bl a,.bl b=>a==b
 | .bl a,.int b=>(if a then 1 else 0)==b
 | .int a,.bl b=>a==(if b then 1 else 0)
 | .int a,.int b=>a==b
 | .str a,.str b=>a==b
 | _,_=>false
theorem Aw9 {A:Around}{s:Shared}{y x:V}{u v:Value}(ry:RelV y u)(rx:RelV x v)(fy:GX y=true)(fx:GX x=true):SeqAt.EqAt A s u v (eqV y x):=by
 cases y with
 | non =>
  cases ry
  cases x with
  | non=>cases rx;exact SeqAt.EqAt.same _
  | bl b=>cases rx;exact SeqAt.EqAt.none_bool b
  | int b=>obtain⟨t,rfl⟩:=rx;exact SeqAt.EqAt.none_int b t
  | str b=>obtain⟨t,rfl⟩:=rx;exact SeqAt.EqAt.none_str b t
  | _=>exact absurd (show false=true from fx) Bool.false_ne_true
 | bl a =>
  cases ry
  cases x with
  | non=>cases rx;exact SeqAt.EqAt.bool_none a
  | bl b=>cases rx;exact SeqAt.EqAt.bool_bool a b
  | int b=>obtain⟨t,rfl⟩:=rx;exact SeqAt.EqAt.bool_int a b t
  | str b=>obtain⟨t,rfl⟩:=rx;exact SeqAt.EqAt.bool_str a b t
  | _=>exact absurd (show false=true from fx) Bool.false_ne_true
 | int a =>
  obtain⟨t',rfl⟩:=ry
  cases x with
  | non=>cases rx;exact SeqAt.EqAt.int_none a t'
  | bl b=>cases rx;exact SeqAt.EqAt.int_bool a t' b
  | int b=>obtain⟨t,rfl⟩:=rx;exact SeqAt.EqAt.int_int a t' b t
  | str b=>obtain⟨t,rfl⟩:=rx;exact SeqAt.EqAt.int_str a t' b t
  | _=>exact absurd (show false=true from fx) Bool.false_ne_true
 | str a =>
  obtain⟨t',rfl⟩:=ry
  cases x with
  | non=>cases rx;exact SeqAt.EqAt.str_none a t'
  | bl b=>cases rx;exact SeqAt.EqAt.str_bool a t' b
  | int b=>obtain⟨t,rfl⟩:=rx;exact SeqAt.EqAt.str_int a t' b t
  | str b=>obtain⟨t,rfl⟩:=rx;exact SeqAt.EqAt.str_str a t' b t
  | _=>exact absurd (show false=true from fx) Bool.false_ne_true
 | _=>exact absurd (show false=true from fy) Bool.false_ne_true
def eqU (x:V)(u:Value):Bool:=match u with
 | .none=>eqV .non x
 | .bool b=>eqV (.bl b) x
 | .int i _=>eqV (.int i) x
 | .str z _=>eqV (.str z) x
 | _=>false
theorem Uv {x y:V}{u:Value}(r:RelV y u)(f:GX y=true):eqU x u=eqV y x:=by
 cases y with
 | non=>cases r;rfl
 | bl b=>cases r;rfl
 | int i=>obtain⟨t,rfl⟩:=r;rfl
 | str z=>obtain⟨t,rfl⟩:=r;rfl
 | _=>exact absurd (show false=true from f) Bool.false_ne_true
theorem UW {x:V}:∀{xs:List V}{us:List Value},Vals xs us->xs.all GX=true->us.any (eqU x)=xs.any fun y=>eqV y x
 | _,_,.nil,_=>rfl
 | y::xs,u::us,.cons r t,f=>by
  rw[List.all_cons,Bool.and_eq_true]at f
  rw[List.any_cons,List.any_cons,Uv r f.1,UW t f.2]
theorem Ls {A:Around}{s:Shared}{x:V}{v:Value}(rx:RelV x v)(fx:GX x=true):∀{xs:List V}{us:List Value},Vals xs us->xs.all GX=true->∀u∈us,SeqAt.EqAt A s u v (eqU x u)
 | _,_,.nil,_=>fun u hu=>by cases hu
 | y::xs,u::us,.cons r t,f=>fun u' hu=>by
  rw[List.all_cons,Bool.and_eq_true]at f
  rcases List.mem_cons.mp hu with rfl | hu
  ·rw[Uv r f.1];exact Aw9 r rx f.1 fx
  ·exact Ls rx fx t f.2 u' hu
def inV (x:V)(xs:List V):Bool:=xs.any fun y=>eqV y x
def rIn (K:PySem.W.Frag)(neg:Bool):R2:=fun x y H Q=>∃p xs,y= .ref p∧(SqL K H p xs∨SqT K H p xs)∧GX x=true∧xs.all GX=true∧Q (.bl (if neg then !inV x xs else inV x xs)) H
theorem Zr:OpR X (compareOp .In) (rIn X.K false):=by
 intro pins s σ H x y v u Q I rx ry h
 obtain⟨p,xs,rfl,hq,fx,fs,q⟩:=h
 cases ry
 rcases hq with hq | hq
 ·obtain⟨its,r,pl,hz⟩:=I.list hq
  refine SeqAt.in_listAt (eqU x) pl.isList (fun w hw=>Ls rx fx r fs w (by simpa using hw)) ⟨.bl _,H,I,rfl,?_⟩
  rw[show its.toArray.any (eqU x)=its.any (eqU x) by simp,UW r fs]
  exact q
 ·obtain⟨its,r,pl,hz⟩:=I.tuple hq
  refine SeqAt.in_tupleAt (eqU x) pl (fun w hw=>Ls rx fx r fs w (by simpa using hw)) ⟨.bl _,H,I,rfl,?_⟩
  rw[show its.toArray.any (eqU x)=its.any (eqU x) by simp,UW r fs]
  exact q
theorem Bo:Gg X (.builtin "len") (fun xs H Q=>∃p ys,xs=[.ref p]∧(SqL X.K H p ys∨SqT X.K H p ys)∧Q (.int ys.length) H):=by
 intro pins s σ H xs us Q I r h
 obtain⟨p,ys,rfl,hq,q⟩:=h
 obtain⟨u,rfl,rx⟩:=vals1 r
 cases rx
 have hn:=Xu
 rcases hq with hq | hq
 ·obtain⟨its,r',pl,hz⟩:=I.list hq
  have hlen:=r'.length
  exact Calls.call_len_list pl.isList (by simp only[List.size_toArray] <;>omega) ⟨.int ys.length,H,I.tok _,⟨s.toks + 1,by rw[List.size_toArray,hlen]⟩,q⟩
 ·obtain⟨its,r',pl,hz⟩:=I.tuple hq
  have hlen:=r'.length
  exact len_tuple pl (by simp only[List.size_toArray] <;>omega) ⟨.int ys.length,H,I.tok _,⟨s.toks + 1,by rw[List.size_toArray,hlen]⟩,q⟩
def tyV (K:PySem.W.Frag)(T:String)(x:V)(H:Hp):Prop:=match x with
 | .str _=>T= "str"
 | .int _=>T= "int"
 | .ref p=>(T= "list" ∧∃xs,SqL K H p xs)∨(T= "tuple" ∧∃o,K.lookup p=some o∧o.cls= .type "tuple" ∧o.dict=none) ∨
   (T= "dict" ∧((∃kvs,H p=some (.dK kvs))∨∃kvs,H p=some (.dT kvs)))∨(T= "set" ∧∃S n,H p=some (.set S n))
 | _=>False
theorem Ab2 {pins:List (Addr×Obj)}{σ:St}{H:Hp}{s:Shared}{T:String}{x:V}{v:Value}(I:Inv X pins σ H s)(r:RelV x v)(ty:tyV X.K T x H) :
  s.TypeIs v T∧∀a,v= .ref a->∃ob,s.heap.get? a=some ob∧ob.dict=none:=by
 cases x with
 | str z =>
  obtain⟨t,rfl⟩:=r
  cases (show T= "str" from ty)
  exact⟨typeIs_str s z t,fun _ e=>nomatch e⟩
 | int i =>
  obtain⟨t,rfl⟩:=r
  cases (show T= "int" from ty)
  exact⟨typeIs_int s i t,fun _ e=>nomatch e⟩
 | ref p =>
  cases r
  rcases ty with⟨rfl,xs,hq⟩ | ⟨rfl,o,hk,hc,hd⟩ | ⟨rfl,hk⟩ | ⟨rfl,S,n,hk⟩
  ·obtain⟨its,_,pl,_⟩:=I.list hq
   refine⟨pl.isList.typeIs,fun a e=>?_⟩
   cases e
   obtain⟨o,n,e,c,hd,_⟩:=pl
   exact⟨o,e,hd⟩
  ·refine⟨⟨o,I.kIn p o hk,hc⟩,fun a e=>?_⟩
   cases e
   exact⟨o,I.kIn _ o hk,hd⟩
  ·have z:∃o,s.heap.get? p=some o∧o.ExactDict:=by
    rcases hk with⟨kvs,hk⟩ | ⟨kvs,hk⟩
    ·obtain⟨_,_,_,_,o,_,_,e,ex,_⟩:=I.hok p _ hk
     exact⟨o,e,ex⟩
    ·obtain⟨_,_,_,_,o,_,_,e,ex,_⟩:=I.hok p _ hk
     exact⟨o,e,ex⟩
   obtain⟨o,e,ex⟩:=z
   refine⟨⟨o,e,ex.1⟩,fun a e2=>?_⟩
   cases e2
   exact⟨o,e,ex.2.1⟩
  ·obtain⟨o,_,_,_,e,ex,_⟩:=I.hok p _ hk
   refine⟨⟨o,e,ex.1⟩,fun a e2=>?_⟩
   cases e2
   exact⟨o,e,ex.2.1⟩
 | _=>exact False.elim ty
def Bc3 (K:PySem.W.Frag)(T:String)(r:V->List V->Hp->VK->Prop)(to:TE):TE:=fun σ H Q=>to σ H fun x H1=>tyV K T x H1∧r x [] H1 Q
def tBM (K:PySem.W.Frag)(T:String)(r:V->List V->Hp->VK->Prop)(to:TE)(t:TA):TE:=fun σ H Q=>to σ H fun x H1=>tyV K T x H1∧t σ H1 fun xs H2=>r x xs H2 Q
variable {o e:Expr}{es:List Expr}{to:TE}{t:TA}{name:Str}{apos cpos:Pos}{T id:String}{r:V->List V->Hp->VK->Prop}
theorem Au6 (pa:PlainAttrs T)(slot:Slot T name id)(hty:typeOf (.builtin id)=pure (.type "method_descriptor"))(hm:MtR X id r)(ho:PE X o to)
  (hbase:attributeBase o name X.env (eval o X.env)=eval o X.env:=by rfl) (hline:(apos.endLine==cpos.line)=true:=by rfl):PE X (.Call (.Attribute o name apos) [] [] cpos) (Bc3 X.K T r to):=by
 intro pins s σ H Q I h
 refine wpAny_Call_method0_late hbase hline (thn (ho pins s σ H _ I h) fun v s1 ⟨x,H1,I1,r1,ty,q1⟩=>?_)
 obtain⟨h1,h2⟩:=Ab2 I1 r1 ty
 exact⟨T,id,pa,slot,hty,h1,h2,Calls.callWith_builtin rfl (PySem.evalArgs_none (hm pins s1 σ H1 x [] v [] Q I1 r1 .nil q1))⟩
theorem Dj (pa:PlainAttrs T)(slot:Slot T name id)(hty:typeOf (.builtin id)=pure (.type "method_descriptor"))(hm:MtR X id r)(ho:PE X o to)(ha:PA X (e::es) t)
  (hbase:attributeBase o name X.env (eval o X.env)=eval o X.env:=by rfl)
  (hfew:((backTo cpos (starEach (e::es) X.env)).all (fun x=> !x.1)&&(backToKw cpos (keywordEach [] X.env)).all (fun x=>x.1.isSome)
   &&decide ((e::es).length + ([]:List Keyword).length + (if ([]:List Keyword).isEmpty then 0 else 1) < 30))=true:=by rfl)
  (hline:(apos.endLine==cpos.line)=true:=by rfl) (hs:starEach (e::es) X.env=(false,eval e X.env)::starEach es X.env:=by rfl) (hplain:(backTo cpos (starEach es X.env)).any (·.1)=false:=by rfl) :
  PE X (.Call (.Attribute o name apos) (e::es) [] cpos) (tBM X.K T r to t):=by
 intro pins s σ H Q I h
 refine wpAny_Call_method_late hbase hfew hline rfl (thn (ho pins s σ H _ I h) fun v s1 ⟨x,H1,I1,r1,ty,q1⟩=>?_)
 obtain⟨h1,h2⟩:=Ab2 I1 r1 ty
 refine⟨T,id,pa,slot,hty,h1,h2,?_⟩
 have hA:=ha cpos pins s1 σ H1 _ I1 q1
 rw[hs]at hA ⊢
 refine Calls.callWith_builtin (by show(false|| (backTo cpos (starEach es X.env)).any (·.1))=false;rw[hplain] <;>rfl) (Calls.evalArgs_plain ?_)
 exact thn hA fun us s2 ⟨vs,H2,I2,r2,q2⟩=>hm pins s2 σ H2 x vs v us Q I2 r1 r2 q2
end
end L2
namespace L2
open PySem PySem.Spec PyProof.Rows
def MtM (X:Cx)(id:String)(r:V->List V->Hp->VK->Prop):Prop :=
 ∀(pins:List (Addr×Obj)) (s:Shared) (σ:St) (H:Hp) (x:V) (xs:List V) (v:Value) (us:List Value) (Q:VK),Inv X pins σ H s->RelV x v->Vals xs us->r x xs H Q ->
  wpAny (model X.prog X.w) X.A (call (.builtin id) (v::us)) (EP X pins σ Q) X.xe s
theorem Vals.one:∀{x:V}{us:List Value},Vals [x] us->∃u,us=[u]∧RelV x u
 | _,_,.cons r .nil=>⟨_,rfl,r⟩
theorem Vals.zero:∀{us:List Value},Vals [] us->us=[]
 | _,.nil=>rfl
theorem Vals.dropLast {xs:List V}{us:List Value}(h:Vals xs us):Vals xs.dropLast us.dropLast:=by
 induction h with
 | nil=>exact .nil
 | cons r t ih =>
  cases t with
  | nil=>exact .nil
  | cons q t'=>exact .cons r ih
theorem Vals.eraseIdx:∀{xs:List V}{us:List Value}(i:Nat),Vals xs us->Vals (xs.eraseIdx i) (us.eraseIdx i)
 | _,_,_,.nil=> .nil
 | _,_,0,.cons _ t=>t
 | _,_,i + 1,.cons r t=> .cons r (Vals.eraseIdx i t)
theorem XF {α:Type}(l:List α):l.eraseIdx (l.length - 1)=l.dropLast:=by
 induction l with
 | nil=>rfl
 | cons a r ih =>
  cases r with
  | nil=>rfl
  | cons b r =>
   have e:(a::b::r).length - 1=((b::r).length - 1) + 1:=by
    have h1:(a::b::r).length=r.length + 2:=rfl
    have h2:(b::r).length=r.length + 1:=rfl
    omega
   rw[e,List.eraseIdx_cons_succ,ih]
   all_goals rfl
theorem Sy {α:Type}:∀(l:List α)(i:Nat),(l.eraseIdx i).length<=l.length
 | [],_=>Nat.le_refl _
 | _::_,0=>Nat.le_succ _
 | _::r,i + 1=>Nat.succ_le_succ (Sy r i)
section
variable {X:Cx}{pins:List (Addr×Obj)}{σ:St}{H:Hp}{s:Shared}{l b:Addr}{xs ys zs:List V}
theorem Inv.An4 {its its':List Value}{n:Nat}{f:Array Value->Array Value}{t':Nat}(I:Inv X pins σ H s)(hH:H l=some (.lst xs))
  (e:s.heap.get? l=some {cls:= .type "list",data:= .seq its.toArray n}) (hf:f its.toArray=its'.toArray) (hv:Vals ys its') (hz:ys.length<=sizeLine) :
  Inv X pins σ (upd H l (.lst ys)) {s with heap:=s.heap.update l (Obj.mapSeq f),toks:=t'}:=by
 have q:=PySem.IsL.update e f
 rw[hf]at q
 refine I.write (x:=l) (e:=l) (by rw[hH];exact trivial) (.inl rfl) (fun b' u hb hu=>(Heap.get?_update_other s.heap (Obj.mapSeq f) (Ne.symm hb)).trans hu) ⟨_,q⟩ ?_
 exact⟨hz,its',_,hv,q⟩
theorem Inv.Be0 {its:List Value}{t':Nat}(I:Inv X pins σ H s)(hv:Vals ys its)(hz:ys.length<=sizeLine) :
  Inv X pins σ (upd H s.heap.objs.size (.lst ys)) {s with heap:=s.heap.push {cls:= .type "list",data:= .seq its.toArray},toks:=t'} :=
 I.laid (fun _ _ q=>Heap.get?_push_of_some _ q) (Nat.le_refl _) ⟨hz,its,0,hv,Heap.get?_push_size _ rfl⟩
theorem Inv.fresh (I:Inv X pins σ H s):H s.heap.objs.size=none:=I.hok.fresh (Nat.le_refl _)
theorem Inv.Xq (I:Inv X pins σ H s)(hH:H l=some (.lst xs)):xs.length<=sizeLine∧∃(its:List Value)(n:Nat),Vals xs its∧xs.length=its.length∧s.heap.get? l=some {cls:= .type "list",data:= .seq its.toArray n}:=by
 obtain⟨z,its,n,r,e⟩:=I.hok l _ hH
 exact⟨z,its,n,r,r.length,e⟩
theorem Af9 {n:Nat}(h:n<=sizeLine):Builtin.List.listTooLong n=false:=by
 unfold Builtin.List.listTooLong
 exact decide_eq_false (by omega)
end
section
variable {X:Cx}
def Ue:V->List V->Hp->VK->Prop:=fun x vs H Q=>∃l xs y,x= .ref l∧vs=[y]∧H l=some (.lst xs)∧xs.length < sizeLine∧Q .non (upd H l (.lst (xs++[y])))
theorem Cv:MtM X "list.append" Ue:=by
 intro pins s σ H x vs v us Q I rx rv h
 obtain⟨l,xs,y,rfl,rfl,hH,hz,q⟩:=h
 cases rx
 obtain⟨u,rfl,ru⟩:=rv.one
 obtain⟨z,its,n,r,hl,e⟩:=I.Xq hH
 refine call_meets F.slot_list_append ⟨_,e,rfl⟩ F.entry_list_append (F.args_list_append_2 _ _) (PySem.list_append l its.toArray n u (by rw[List.size_toArray];omega)) ⟨e,?_⟩
 refine⟨.non,_,I.An4 (its':=its++[u]) hH e (by simp) (r.append (.cons ru .nil)) ?_,rfl,q⟩
 rw[List.length_append,List.length_singleton]
 omega
def Al1:V->List V->Hp->VK->Prop:=fun x vs H Q=>∃l b xs zs,x= .ref l∧vs=[.ref b]∧H l=some (.lst xs)∧H b=some (.lst zs)∧xs.length + zs.length<=sizeLine∧Q .non (upd H l (.lst (xs++zs)))
theorem Fg:MtM X "list.extend" Al1:=by
 intro pins s σ H x vs v us Q I rx rv h
 obtain⟨l,b,xs,zs,rfl,rfl,hH,hB,hz,q⟩:=h
 cases rx
 obtain⟨u,rfl,ru⟩:=rv.one
 cases ru
 obtain⟨z,its,n,r,hl,e⟩:=I.Xq hH
 obtain⟨z2,its2,n2,r2,hl2,e2⟩:=I.Xq hB
 have hsz:its.toArray.size + its2.toArray.size<=sizeLine:=by rw[List.size_toArray,List.size_toArray];omega
 have hlong:¬(!its.toArray.isEmpty&&Builtin.List.listTooLong (its.toArray.size + its2.toArray.size))=true:=by
  rw[Af9 hsz,Bool.and_false]
  exact Bool.false_ne_true
 refine call_meets F.slot_list_extend ⟨_,e,rfl⟩ F.entry_list_extend (F.args_list_extend_2 _ _)
  (AutoSeq1.list_extend_list_list_0 l its.toArray n b its2.toArray n2 hlong (by rw[List.size_toArray];omega) (by omega)) ⟨e,e2,?_⟩
 refine⟨.non,_,I.An4 (its':=its++its2) hH e (by simp) (r.append r2) ?_,rfl,q⟩
 rw[List.length_append]
 omega
def Bc8:V->List V->Hp->VK->Prop:=fun x vs H Q=>∃l xs y,x= .ref l∧vs=[]∧H l=some (.lst xs)∧xs[xs.length - 1]?=some y∧Q y (upd H l (.lst xs.dropLast))
theorem Av2:MtM X "list.pop" Bc8:=by
 intro pins s σ H x vs v us Q I rx rv h
 obtain⟨l,xs,y,rfl,rfl,hH,hy,q⟩:=h
 cases rx
 have hus:=rv.zero
 subst hus
 obtain⟨z,its,n,r,hl,e⟩:=I.Xq hH
 obtain⟨u,hu,ru⟩:=r.get hy
 have hy':its.toArray[its.toArray.size - 1]?=some u:=by
  show its.toArray[its.length - 1]?=some u
  rw[← Array.getElem?_toList,← hl]
  exact hu
 refine call_meets F.slot_list_pop ⟨_,e,rfl⟩ F.entry_list_pop (F.args_list_pop_1 _) (MeetsSeq.list_pop_last l its.toArray n u hy' (by rw[List.size_toArray];omega)) ⟨e,?_⟩
 refine⟨y,_,I.An4 (its':=its.dropLast) hH e ?_ r.dropLast ?_,ru,q⟩
 ·show its.toArray.eraseIdxIfInBounds (its.toArray.size - 1)=its.dropLast.toArray
  rw[List.size_toArray,List.eraseIdxIfInBounds_toArray,XF]
 ·rw[List.length_dropLast]
  omega
def Au1:V->List V->Hp->VK->Prop:=fun x vs H Q=>∃l xs i k y,x= .ref l∧vs=[.int i]∧H l=some (.lst xs)∧ -(2 ^ 63)<=i∧i < 2 ^ 63∧seqIndex? i xs.length=some k∧xs[k]?=some y∧Q y (upd H l (.lst (xs.eraseIdx k)))
theorem Ag3:MtM X "list.pop" Au1:=by
 intro pins s σ H x vs v us Q I rx rv h
 obtain⟨l,xs,i,k,y,rfl,rfl,hH,h1,h2,hk,hy,q⟩:=h
 cases rx
 obtain⟨u,rfl,ru⟩:=rv.one
 obtain⟨t,rfl⟩:=ru
 obtain⟨z,its,n,r,hl,e⟩:=I.Xq hH
 obtain⟨w,hw,rw'⟩:=r.get hy
 refine call_meets F.slot_list_pop ⟨_,e,rfl⟩ F.entry_list_pop (F.args_list_pop_2 _ _)
  (MeetsSeq.list_pop_at l its.toArray n i t k w (fitsIndex_both h1 h2) (by rw[List.size_toArray,← hl];exact hk) (by rw[← Array.getElem?_toList];exact hw) (by rw[List.size_toArray];omega)) ⟨e,?_⟩
 refine⟨y,_,I.An4 (its':=its.eraseIdx k) hH e ?_ (r.eraseIdx k) ?_,rw',q⟩
 ·show its.toArray.eraseIdxIfInBounds k=(its.eraseIdx k).toArray
  rw[List.eraseIdxIfInBounds_toArray]
 ·have:=Sy xs k
  omega
def Bd5:R2:=fun x y H Q=>∃l b xs zs,x= .ref l∧y= .ref b∧H l=some (.lst xs)∧H b=some (.lst zs)∧xs.length + zs.length<=sizeLine∧∀p,H p=none->Q (.ref p) (upd H p (.lst (xs++zs)))
theorem Ed:OpR X (binaryOp .Add) Bd5:=by
 intro pins s σ H x y v u Q I rx ry h
 obtain⟨l,b,xs,zs,rfl,rfl,hH,hB,hz,q⟩:=h
 cases rx
 cases ry
 obtain⟨z,its,n,r,hl,e⟩:=I.Xq hH
 obtain⟨z2,its2,n2,r2,hl2,e2⟩:=I.Xq hB
 refine PySem.P.add_list e e2 ?_ (by rw[List.size_toArray,List.size_toArray];omega)
 have ea:its.toArray++its2.toArray=(its++its2).toArray:=by simp
 rw[ea]
 exact⟨.ref _,_,I.Be0 (t':=s.toks) (r.append r2) (by rw[List.length_append];omega),rfl,q _ I.fresh⟩
end
section
variable {prog:Program}{w:World}{A:Around}{E:Value->Shared->Prop}{s:Shared}
end
section
variable {X:Cx}
end
end L2
namespace L2
open PySem PySem.Spec PyProof.Rows
theorem Vals.ints:∀{ns:List Int}{us:List Value},Vals (ns.map V.int) us->IntsAre us ns
 | [],us,h=>by
  rw[List.map_nil]at h
  cases h
  exact IntsAre.nil
 | n::ns,us,h=>by
  rw[List.map_cons]at h
  cases h with
  | cons r t =>
   obtain⟨k,rfl⟩:=r
   exact IntsAre.cons n k (Vals.ints t)
theorem Hh:∀{us:List Value}{ns:List Int},IntsAre us ns->Vals (ns.map V.int) us
 | _,_,.nil=>by rw[List.map_nil];exact Paired.nil
 | _,_,.cons n t h=>by rw[List.map_cons];exact Paired.cons (show RelV (V.int n) (Value.int n t) from⟨t,rfl⟩) (Hh h)
theorem Vals.bls:∀{bs:List Bool}{us:List Value},Vals (bs.map V.bl) us->us=bs.map Value.bool
 | [],us,h=>by
  rw[List.map_nil]at h
  cases h
  rfl
 | b::bs,us,h=>by
  rw[List.map_cons]at h
  cases h with
  | cons r t =>
   cases r
   rw[Vals.bls t,List.map_cons]
theorem Vals.Qq {a:Addr}{us:List Value}(r:Vals [V.ref a] us):us=[Value.ref a]:=by
 cases r with
 | cons r t =>
  cases t
  cases r
  rfl
section
variable {prog:Program}{w:World}{A:Around}{E:Value->Shared->Prop}{s:Shared}{l:Addr}{its:List Value}{ns:List Int}{Q:Value->Shared->Prop}
theorem An1 (hh:A.handled=none)(hl:s.heap.IsList l its.toArray)(hi:IntsAre its ns)(hne:0 < ns.length)
  (h:∀h' tk M t',(∀b o,s.heap.get? b=some o->h'.get? b=some o)->M∈ns->(∀a,a∈ns->a<=M)->Q (.int M t') {s with heap:=h',toks:=tk}):wpAny (model prog w) A (call (.builtin "max") [.ref l]) Q E s:=by
 obtain⟨xs,e⟩:=hi.allInts.items
 have hn:numsOf (intItems xs).toList=ns:=by rw[← e];exact hi.numsOf
 rw[nums_intItems]at hn
 subst hn
 rw[e]at hl
 have hsz:0 < xs.size:=by simpa using hne
 refine PySem.max_intList hh hl hsz fun v h' tk hv hk=>?_
 obtain⟨t,rfl⟩:=intItems_at hv
 obtain⟨h1,h2⟩:=argBest_gt (numAt xs) (xs.size - 1)
 refine h h' tk _ t hk ?_ fun a ha=>?_
 ·rw[numAt_eq];exact PySem.getD_mem (by rw[List.length_map,Array.length_toList];omega)
 ·obtain⟨j,hj,rfl⟩:=mem_getD ha
  rw[List.length_map,Array.length_toList]at hj
  rw[← numAt_eq];exact h2 j (by omega)
theorem Am9 (hh:A.handled=none)(hl:s.heap.IsList l its.toArray)(hi:IntsAre its ns)(hne:0 < ns.length)
  (h:∀h' tk M t',(∀b o,s.heap.get? b=some o->h'.get? b=some o)->M∈ns->(∀a,a∈ns->M<=a)->Q (.int M t') {s with heap:=h',toks:=tk}):wpAny (model prog w) A (call (.builtin "min") [.ref l]) Q E s:=by
 obtain⟨xs,e⟩:=hi.allInts.items
 have hn:numsOf (intItems xs).toList=ns:=by rw[← e];exact hi.numsOf
 rw[nums_intItems]at hn
 subst hn
 rw[e]at hl
 have hsz:0 < xs.size:=by simpa using hne
 refine PySem.min_intList hh hl hsz fun v h' tk hv hk=>?_
 obtain⟨t,rfl⟩:=intItems_at hv
 obtain⟨h1,h2⟩:=argBest_lt (numAt xs) (xs.size - 1)
 refine h h' tk _ t hk ?_ fun a ha=>?_
 ·rw[numAt_eq];exact PySem.getD_mem (by rw[List.length_map,Array.length_toList];omega)
 ·obtain⟨j,hj,rfl⟩:=mem_getD ha
  rw[List.length_map,Array.length_toList]at hj
  rw[← numAt_eq];exact h2 j (by omega)
end
section
variable {X:Cx}
def Bd0 (K:PySem.W.Frag):List V->Hp->VK->Prop:=fun vs H Q=>∃(a:Addr)(ns:List Int),vs=[V.ref a]∧SqL K H a (ns.map V.int)∧0 < ns.length∧∀m,m∈ns->(∀y,y∈ns->y<=m)->Q (.int m) H
def Bc9 (K:PySem.W.Frag):List V->Hp->VK->Prop:=fun vs H Q=>∃(a:Addr)(ns:List Int),vs=[V.ref a]∧SqL K H a (ns.map V.int)∧0 < ns.length∧∀m,m∈ns->(∀y,y∈ns->m<=y)->Q (.int m) H
theorem Ax5 (hc:X.calm=true):Gg X (.builtin "max") (Bd0 X.K):=by
 intro pins s σ H vs us Q I r h
 obtain⟨a,ns,rfl,hs,hne,q⟩:=h
 obtain⟨its,rv,hl,_⟩:=I.list hs
 rw[Vals.Qq r]
 exact An1 (I.ok.hd hc) hl.isList rv.ints hne fun h' tk m t' hk h1 h2=>⟨.int _,H,I.kept hk,⟨_,rfl⟩,q m h1 h2⟩
theorem Ax4 (hc:X.calm=true):Gg X (.builtin "min") (Bc9 X.K):=by
 intro pins s σ H vs us Q I r h
 obtain⟨a,ns,rfl,hs,hne,q⟩:=h
 obtain⟨its,rv,hl,_⟩:=I.list hs
 rw[Vals.Qq r]
 exact Am9 (I.ok.hd hc) hl.isList rv.ints hne fun h' tk m t' hk h1 h2=>⟨.int _,H,I.kept hk,⟨_,rfl⟩,q m h1 h2⟩
end
section
variable {X:Cx}
def Au2 (K:PySem.W.Frag):V->List V->Hp->VK->Prop:=fun x xs H Q=>∃(a:Addr)(ys:List V)(y:V)(j:Nat)(z:V),x=V.ref a∧xs=[y]∧SqL K H a ys∧GX y=true∧ys.all GX=true∧ys[j]?=some z∧eqV z y=true ∧
 (∀(m:Nat) (z':V),m < j->ys[m]?=some z'->eqV z' y=false)∧Q (.int (j:Nat)) H
theorem YB {ys:List V}(f:ys.all GX=true){j:Nat}{z:V}(h:ys[j]?=some z):GX z=true:=List.all_eq_true.mp f z (List.mem_of_getElem? h)
theorem QZ:MtR X "list.index" (Au2 X.K):=by
 intro pins s σ H x xs v us Q I rx rxs h
 obtain⟨a,ys,y,j,z,rfl,rfl,hs,fy,fys,hz,hzj,hno,q⟩:=h
 cases rx
 cases rxs with
 | cons ry rt =>
  rename_i uy ut
  cases rt
  obtain⟨its,rv,⟨⟨cls,dd,data,sl⟩,n,ho,hc,hdn,hd⟩,hlen⟩:=I.list hs
  simp only at hc hd
  subst hc hd
  obtain⟨u,hu,ru⟩:=rv.get hz
  obtain⟨hjl,hje⟩:=List.getElem?_eq_some_iff.mp hu
  have hvl:=rv.length
  have hj:j < its.toArray.size:=by simpa using hjl
  have hsl:=sizeLine_eq
  refine call_meets PySem.F.slot_list_index ⟨_,ho,rfl⟩ PySem.F.entry_list_index (PySem.F.args_list_index_2 _ _)
   (SeqAt.list_indexAt a its.toArray n dd sl uy (eqU y) j hj (by omega) ?_ ?_) ⟨ho,fun u' hu'=>Ls ry fy rv fys u' (by simpa using hu'),?_⟩
  ·have e1:its.toArray[j]=u:=by simpa using hje
   rw[e1,Uv ru (YB fys hz)]
   exact hzj
  ·intro m hm hmj
   have hml:m < its.length:=by simpa using hm
   have hmy:m < ys.length:=by omega
   have hy':ys[m]?=some ys[m]:=List.getElem?_eq_getElem hmy
   obtain⟨u2,hu2,ru2⟩:=rv.get hy'
   obtain⟨_,hme⟩:=List.getElem?_eq_some_iff.mp hu2
   have e1:its.toArray[m]=u2:=by simpa using hme
   rw[e1,Uv ru2 (YB fys hy')]
   exact hno m _ hmj hy'
  ·exact⟨.int (j:Nat),H,I.tok _,⟨_,rfl⟩,q⟩
end
section
variable {X:Cx}
end
theorem VN {prog:Program}{w:World}{A:Around}{E:Value->Shared->Prop}{s:Shared}{l:Addr}{items:Array Value}{Q:Value->Shared->Prop}(hl:s.heap.IsList l items)
  (h:∀s₂:Shared,s₂={s with heap:=s.heap.push {cls:= .type "list_iterator",data:= .fields #[.ref l,.int 0 0]}} ->
   (s₂.heap.IsListIter s.heap.objs.size l 0∧s₂.heap.IsList l items)->l≠s.heap.objs.size->Q (.ref s.heap.objs.size) s₂):wpAny (model prog w) A (pyIter (.ref l)) Q E s:=by
 have hlt:l < s.heap.objs.size:=by obtain⟨_,e,_⟩:=hl;exact Heap.lt_size e
 exact wpAny_pyIter_list hl (h _ rfl ⟨⟨_,Heap.get?_push_size _ rfl,rfl,rfl⟩,hl.push _⟩ (Nat.ne_of_lt hlt))
theorem Nv {prog:Program}{w:World}{A:Around}{bs:List Bool}{its:List Value}(e:its=bs.map Value.bool) :
  TruthOf prog w A (fun i v=>its.toArray[i]?=some v) (fun i=>bs.getD i false):=fun i v s Q E hv hq=>by
 have hv':its[i]?=some v:=by simpa using hv
 rw[e,List.getElem?_map]at hv'
 obtain⟨b,hb,rfl⟩:=Option.map_eq_some_iff.mp hv'
 have hg:bs.getD i false=b:=by rw[List.getD_eq_getElem?_getD,hb] <;>rfl
 have hq':Q (bs.getD i false) s:=hq
 rw[hg]at hq'
 exact wpAny_truthy_bool hq'
theorem any_range:∀bs:List Bool,(List.range bs.length).any (fun i=>bs.getD i false)=bs.any id
 | []=>rfl
 | b::bs=>by
  rw[List.length_cons,List.range_succ_eq_map,List.any_cons,List.any_map,List.any_cons,← any_range bs]
  all_goals rfl
theorem all_range:∀bs:List Bool,(List.range bs.length).all (fun i=>bs.getD i false)=bs.all id
 | []=>rfl
 | b::bs=>by
  rw[List.length_cons,List.range_succ_eq_map,List.all_cons,List.all_map,List.all_cons,← all_range bs]
  all_goals rfl
section
variable {X:Cx}
def Bd6 (K:PySem.W.Frag):List V->Hp->VK->Prop:=fun vs H Q=>∃(a:Addr)(bs:List Bool),vs=[V.ref a]∧SqL K H a (bs.map V.bl)∧Q (.bl (bs.any id)) H
def Bd7 (K:PySem.W.Frag):List V->Hp->VK->Prop:=fun vs H Q=>∃(a:Addr)(bs:List Bool),vs=[V.ref a]∧SqL K H a (bs.map V.bl)∧Q (.bl (bs.all id)) H
theorem Ax6 (hc:X.calm=true):Gg X (.builtin "any") (Bd6 X.K):=by
 intro pins s σ H vs us Q I r h
 obtain⟨a,bs,rfl,hs,q⟩:=h
 obtain⟨its,rv,hl,_⟩:=I.list hs
 rw[Vals.Qq r]
 have hb:=rv.bls
 refine call_any_walk (VN hl.isList fun s₂ e2 st hne=>?_)
 subst e2
 refine⟨_,_,_,_,_,_,_,rfl,Walks.list (A:=X.A.in1) (I.ok.hd hc) _ a hne its.toArray,st,Nv hb,fun h' tk hk=>?_⟩
 refine⟨.bl _,H,I.kept fun b o eo=>hk b o (fun hmem=>?_) (Heap.get?_push_of_some _ eo),?_,q⟩
 ·rcases List.mem_cons.mp hmem with e1 | hmem
  ·exact absurd (e1▸Heap.lt_size eo) (Nat.lt_irrefl _)
  ·cases hmem
 ·show Value.bool _=Value.bool _
  rw[← any_range,hb,List.size_toArray,List.length_map]
theorem Ax7 (hc:X.calm=true):Gg X (.builtin "all") (Bd7 X.K):=by
 intro pins s σ H vs us Q I r h
 obtain⟨a,bs,rfl,hs,q⟩:=h
 obtain⟨its,rv,hl,_⟩:=I.list hs
 rw[Vals.Qq r]
 have hb:=rv.bls
 refine call_all_walk (VN hl.isList fun s₂ e2 st hne=>?_)
 subst e2
 refine⟨_,_,_,_,_,_,_,rfl,Walks.list (A:=X.A.in1) (I.ok.hd hc) _ a hne its.toArray,st,Nv hb,fun h' tk hk=>?_⟩
 refine⟨.bl _,H,I.kept fun b o eo=>hk b o (fun hmem=>?_) (Heap.get?_push_of_some _ eo),?_,q⟩
 ·rcases List.mem_cons.mp hmem with e1 | hmem
  ·exact absurd (e1▸Heap.lt_size eo) (Nat.lt_irrefl _)
  ·cases hmem
 ·show Value.bool _=Value.bool _
  rw[← all_range,hb,List.size_toArray,List.length_map]
end
mutual
inductive Dp (K:PySem.W.Frag)(H:Hp):V->PyData->Prop
 | non:Dp K H .non .none
 | bl (b:Bool):Dp K H (.bl b) (.bool b)
 | int (i:Int):Dp K H (.int i) (.int i)
 | str (x:Str):Dp K H (.str x) (.str x)
 | lst {a:Addr} {xs:List V} {ds:List PyData}:SqL K H a xs->Ru K H xs ds->Dp K H (.ref a) (.list ds)
 | tup {a:Addr} {xs:List V} {ds:List PyData}:SqT K H a xs->Ru K H xs ds->Dp K H (.ref a) (.tuple ds)
inductive Ru (K:PySem.W.Frag)(H:Hp):List V->List PyData->Prop
 | nil:Ru K H [] []
 | cons {v:V} {vs:List V} {d:PyData} {ds:List PyData}:Dp K H v d->Ru K H vs ds->Ru K H (v::vs) (d::ds)
end
section
variable {X:Cx}{pins:List (Addr×Obj)}{σ:St}{H:Hp}{s:Shared}
mutual
theorem Dp.reads (I:Inv X pins σ H s):∀(d:PyData)(v:V)(u:Value),Dp X.K H v d->RelV v u->∃as,Reads s.heap u d as
 | .none,_,_,h,r=>by
  cases h
  cases r
  exact⟨_,Reads.none⟩
 | .bool b,_,_,h,r=>by
  cases h
  cases r
  exact⟨_,Reads.bool b⟩
 | .int i,_,_,h,r=>by
  cases h
  obtain⟨t,rfl⟩:=r
  exact⟨_,Reads.int i t⟩
 | .str x,_,_,h,r=>by
  cases h
  obtain⟨t,rfl⟩:=r
  exact⟨_,Reads.str x t⟩
 | .list ds,_,_,h,r=>by
  cases h with
  | lst hs ha =>
   cases r
   obtain⟨its,rv,⟨o,n,ho,hc,_,hd⟩,_⟩:=I.list hs
   obtain⟨as,hr⟩:=Dp.readsAll I ds _ its ha rv
   exact⟨_,Reads.list ho hc hd hr⟩
 | .tuple ds,_,_,h,r=>by
  cases h with
  | tup hs ha =>
   cases r
   obtain⟨its,rv,⟨o,ho,hc,n,hd⟩,_⟩:=I.tuple hs
   obtain⟨as,hr⟩:=Dp.readsAll I ds _ its ha rv
   exact⟨_,Reads.tuple ho hc hd hr⟩
 | .dict _,_,_,h,_=>by cases h
theorem Dp.readsAll (I:Inv X pins σ H s):∀(ds:List PyData)(vs:List V)(us:List Value),Ru X.K H vs ds->Vals vs us->∃as,ReadsAll s.heap us ds as
 | [],_,_,h,r=>by
  cases h
  cases r
  exact⟨_,ReadsAll.nil⟩
 | d::ds,_,_,h,r=>by
  cases h with
  | cons h1 h2 =>
   cases r with
   | cons r1 r2 =>
    obtain⟨as,q1⟩:=Dp.reads I d _ _ h1 r1
    obtain⟨bs,q2⟩:=Dp.readsAll I ds _ _ h2 r2
    exact⟨_,ReadsAll.cons q1 q2⟩
end
end
section
variable {X:Cx}
def Bd4 (K:PySem.W.Frag):R2:=fun x y H Q=>∃d e,Dp K H x d∧Dp K H y e∧SeqAt.shaped d=true∧SeqAt.shaped e=true∧Q (.bl (PyData.eqv d e)) H
theorem Au9 (hu:X.A.units + 64 < cLine):OpR X (compareOp .Eq) (Bd4 X.K):=by
 intro pins s σ H x y v u Q I rx ry h
 obtain⟨d,e,hd,he,sd,se,q⟩:=h
 obtain⟨as,r1⟩:=Dp.reads I d x v hd rx
 obtain⟨bs,r2⟩:=Dp.reads I e y u he ry
 exact SeqAt.compareEq_shaped r1 r2 sd se hu ⟨.bl _,H,I,rfl,q⟩
end
end L2
namespace L2
open PySem PySem.Spec PyProof.Rows
abbrev Aj3 (h:Heap)(c:Addr)(v:Option Value):Prop:=h.IsCell c v
def Bc6 (scope sc:Scope):Scope :=
 {scope with names:=scope.names.map fun(n,k)=>if (k== .free&&sc.kind== .function&&sc.names.lookup n==some .cell) then(n,.cell) else(n,k)}
def Bt (cells:List (Str×Addr)):List (Str×NameKind)->List (Str×Addr)->List (Str×Addr)
 | [],acc=>acc
 | (n,k)::r,acc=>if k== .free then Bt cells r ((n,(cells.lookup n).getD 0)::acc) else Bt cells r acc
theorem LR (env:Env)(f:Str×NameKind->List (Str×Addr)->Sem (ForInStep (List (Str×Addr))))
  (hf:∀n k c,f (n,k) c=if k== .free then(do let a ← cellOf env n;pure (.yield ((n,a)::c))) else pure (.yield c)) :
  ∀(names:List (Str×NameKind)) (acc:List (Str×Addr)),(∀y∈names,y.2= .free->∃c,env.cells.lookup y.1=some c)->forIn names acc f=pure (Bt env.cells names acc)
 | [],acc,_=>by rw[List.forIn_nil];rfl
 | (n,k)::r,acc,h=>by
  rw[List.forIn_cons,hf]
  have ih:=fun acc=>LR env f hf r acc fun y hy=>h y (List.mem_cons_of_mem _ hy)
  unfold Bt
  by_cases hk:(k==NameKind.free)=true
  ·rw[if_pos hk,if_pos hk]
   obtain⟨c,hc⟩:=h (n,k) List.mem_cons_self (by simpa using hk)
   have e:cellOf env n=pure c:=by unfold cellOf;rw[hc]
   rw[e]
   have e2:(env.cells.lookup n).getD 0=c:=by rw[hc];rfl
   rw[e2]
   exact ih _
  ·rw[if_neg hk,if_neg hk]
   exact ih _
theorem XR {scope:Scope}{env:Env}(h:∀y∈scope.names,y.2= .free->∃c,env.cells.lookup y.1=some c):closureFor scope env=pure (Bt env.cells scope.names []):=by
 simp only[closureFor]
 rw[LR env _ (fun n k c=>rfl) scope.names [] h]
 rfl
theorem mem_lookup {α:Type}:∀{l:List (Str×α)}{n:Str}{c:α},(n,c)∈l->∃c',l.lookup n=some c'
 | (k,v)::r,n,c,h=>by
  rw[List.lookup_cons]
  cases hb:n==k with
  | true=>exact⟨_,rfl⟩
  | false =>
   rcases List.mem_cons.mp h with e | h
   ·cases e;simp at hb
   ·exact mem_lookup h
theorem Gq {cells:List (Str×Addr)}:∀{names:List (Str×NameKind)}{acc:List (Str×Addr)}{n:Str}{c:Addr},(n,c)∈Bt cells names acc->(n,c)∈acc∨((n,.free)∈names∧c=(cells.lookup n).getD 0)
 | [],_,_,_,h=> .inl h
 | (m,k)::r,acc,n,c,h=>by
  unfold Bt at h
  split at h
  ·rename_i hk
   have hk:k= .free:=by simpa using hk
   rcases Gq h with h | ⟨h1,h2⟩
   ·rcases List.mem_cons.mp h with e | h
    ·cases e;exact .inr ⟨hk▸List.mem_cons_self,rfl⟩
    ·exact .inl h
   ·exact .inr ⟨List.mem_cons_of_mem _ h1,h2⟩
  ·rcases Gq h with h | ⟨h1,h2⟩
   ·exact .inl h
   ·exact .inr ⟨List.mem_cons_of_mem _ h1,h2⟩
theorem Jb {cells:List (Str×Addr)}:∀{names:List (Str×NameKind)}{acc:List (Str×Addr)}{p:Str×Addr},p∈acc->p∈Bt cells names acc
 | [],_,_,h=>h
 | (m,k)::r,acc,p,h=>by
  unfold Bt
  split
  ·exact Jb (List.mem_cons_of_mem _ h)
  ·exact Jb h
theorem Ja {cells:List (Str×Addr)}:∀{names:List (Str×NameKind)}{acc:List (Str×Addr)}{n:Str},(n,.free)∈names->(n,(cells.lookup n).getD 0)∈Bt cells names acc
 | (m,k)::r,acc,n,h=>by
  unfold Bt
  rcases List.mem_cons.mp h with e | h
  ·cases e
   exact Jb List.mem_cons_self
  ·split
   ·exact Ja h
   ·exact Ja h
theorem Hf:∀{names:List (Str×NameKind)}{h:Heap}{acc:List (Str×Addr)}{x:Str}{c:Addr},(x,c)∈cellsFrom h.objs.size names acc ->
  (x,c)∈acc∨((x,.cell)∈names∧h.objs.size<=c∧Aj3 (pushCells h names) c none)
 | [],_,_,_,_,h=> .inl h
 | (n,k)::r,h,acc,x,c,hm=>by
  unfold cellsFrom at hm
  unfold pushCells
  split at hm
  ·rename_i hk
   rw[if_pos hk]
   have hk:k= .cell:=by simpa using hk
   rw[← Heap.size_push h {cls:= .type "cell",data:= .cell none}]at hm
   rcases Hf hm with hm | ⟨h1,h2,h3⟩
   ·rcases List.mem_cons.mp hm with e | hm
    ·cases e
     exact .inr ⟨hk▸List.mem_cons_self,Nat.le_refl _,_,pushCells_keeps r _ _ _ (Heap.get?_push_size _ rfl),rfl⟩
    ·exact .inl hm
   ·rw[Heap.size_push]at h2
    exact .inr ⟨List.mem_cons_of_mem _ h1,Nat.le_of_succ_le h2,h3⟩
  ·rename_i hk
   rw[if_neg hk]
   rcases Hf hm with hm | ⟨h1,h2,h3⟩
   ·exact .inl hm
   ·exact .inr ⟨List.mem_cons_of_mem _ h1,h2,h3⟩
theorem Jp:∀{names:List (Str×NameKind)}{n:Nat}{acc:List (Str×Addr)}{p:Str×Addr},p∈acc->p∈cellsFrom n names acc
 | [],_,_,_,h=>h
 | (m,k)::r,n,acc,p,h=>by
  unfold cellsFrom
  split
  ·exact Jp (List.mem_cons_of_mem _ h)
  ·exact Jp h
theorem Nq:∀{names:List (Str×NameKind)}{n:Nat}{acc:List (Str×Addr)}{x:Str},(x,.cell)∈names->∃c,(x,c)∈cellsFrom n names acc
 | (m,k)::r,n,acc,x,h=>by
  unfold cellsFrom
  rcases List.mem_cons.mp h with e | h
  ·cases e
   exact⟨n,Jp List.mem_cons_self⟩
  ·split
   ·exact Nq h
   ·exact Nq h
theorem Np:∀{names:List (Str×NameKind)}{h:Heap}{acc:List (Str×Addr)}{x y:Str}{c:Addr},(∀p∈acc,p.2 < h.objs.size)->(∀x y c,(x,c)∈acc->(y,c)∈acc->x=y) ->
  (x,c)∈cellsFrom h.objs.size names acc->(y,c)∈cellsFrom h.objs.size names acc->x=y
 | [],_,_,_,_,_,_,hi,h1,h2=>hi _ _ _ h1 h2
 | (n,k)::r,h,acc,x,y,c,hl,hi,h1,h2=>by
  unfold cellsFrom at h1 h2
  split at h1
  ·rename_i hk
   rw[if_pos hk]at h2
   rw[← Heap.size_push h {cls:= .type "cell",data:= .cell none}]at h1 h2
   refine Np (h:=h.push _) (fun p hp=>?_) (fun x y c a b=>?_) h1 h2
   ·rw[Heap.size_push]
    rcases List.mem_cons.mp hp with rfl | hp
    ·exact Nat.lt_succ_self _
    ·exact Nat.lt_succ_of_lt (hl p hp)
   ·rcases List.mem_cons.mp a with e | a <;>rcases List.mem_cons.mp b with e' | b
    ·cases e;cases e';rfl
    ·cases e;exact absurd (hl _ b) (Nat.lt_irrefl _)
    ·cases e';exact absurd (hl _ a) (Nat.lt_irrefl _)
    ·exact hi _ _ _ a b
  ·rename_i hk
   rw[if_neg hk]at h2
   exact Np hl hi h1 h2
theorem Vx {M:Model}{A:Around}{E:Value->Shared->Prop}{s:Shared}{scope:Scope}{globals:Addr}{closure:List (Str×Addr)}{qual:Str}{func:Option Addr}{code:Value}{around:Env}{builtins:Addr}{Q:Env->Shared->Prop}
  (h:Q (newEnv scope s.heap.objs.size globals (cellsFrom (s.heap.objs.size + 1) scope.names closure) qual func code (some around) builtins)
   {s with heap:=pushCells (s.heap.push {cls:= .type "dict",data:= .dict #[]}) scope.names}) :
  wpAny M A (newFunctionEnv scope globals closure [] qual func code (some around) builtins) Q E s:=by
 simp only[newFunctionEnv,Option.isSome_some,if_true]
 refine wpAny_bind (wpAny_alloc ?_)
 refine wpAny_bind (wpAny_layCells _ (fun n k c=>rfl) scope.names closure _ _ ?_)
 rw[show({s with heap:=s.heap.push {cls:= .type "dict",data:= .dict #[]}}:Shared).heap.objs.size=s.heap.objs.size + 1 from Heap.size_push ..]
 rw[List.forIn_nil]
 exact wpAny_bind (wpAny_pure (wpAny_pure h))
theorem Iu {sc:Scope}:∀{names:List (Str×NameKind)}{x:Str}{k:NameKind},
  (names.map fun(n,k)=>if (k==NameKind.free&&sc.kind== .function&&sc.names.lookup n==some .cell) then(n,NameKind.cell) else(n,k)).lookup x=some k ->
  ∃k',names.lookup x=some k'∧(k=k'∨(k'= .free∧k= .cell))
 | [],_,_,h=>by simp at h
 | (n,k₀)::r,x,k,h=>by
  have ih:=@Iu sc r x k
  have h':List.lookup x ((if (k₀==NameKind.free&&sc.kind== .function&&sc.names.lookup n==some .cell)=true then(n,NameKind.cell) else(n,k₀))::(r.map _))=some k:=h
  cases hx:x==n with
  | true =>
   simp only[List.lookup_cons,hx]
   by_cases hc:(k₀==NameKind.free&&sc.kind== .function&&sc.names.lookup n==some .cell)=true
   ·rw[if_pos hc]at h'
    simp only[List.lookup_cons,hx]at h'
    cases h'
    simp only[Bool.and_eq_true,beq_iff_eq]at hc
    exact⟨k₀,rfl,.inr ⟨hc.1.1,rfl⟩⟩
   ·rw[if_neg hc]at h'
    simp only[List.lookup_cons,hx]at h'
    cases h'
    exact⟨_,rfl,.inl rfl⟩
  | false =>
   simp only[List.lookup_cons,hx]
   by_cases hc:(k₀==NameKind.free&&sc.kind== .function&&sc.names.lookup n==some .cell)=true
   ·rw[if_pos hc]at h'
    simp only[List.lookup_cons,hx]at h'
    exact ih h'
   ·rw[if_neg hc]at h'
    simp only[List.lookup_cons,hx]at h'
    exact ih h'
structure Wq (N:List Str)(sc scope:Scope)(own:List (Str×Nat)):Prop where
 kind:scope.kind= .function
 uniq:∀y∈scope.names,scope.names.lookup y.1=some y.2
 ix:∀p∈own,N[p.2]?=some p.1
 free:∀y∈scope.names,y.2= .free->sc.names.lookup y.1=some .cell∨sc.names.lookup y.1=some .free
 own:∀y∈scope.names,y.2= .local∨y.2= .cell->y.1∈own.map (·.1)∨y.1∉N
def wipe (σ:St):List Nat->St
 | []=>σ
 | v::vs=>(wipe σ vs).set v none
theorem HJ (σ:St):∀vs:List Nat,(wipe σ vs).length=σ.length
 | []=>rfl
 | v::vs=>by unfold wipe;rw[List.length_set,HJ σ vs]
theorem Mj {σ:St}{i:Nat}{x:V}:∀{vs:List Nat},(wipe σ vs)[i]?=some (some x)->σ[i]?=some (some x)∧i∉vs
 | [],h=>⟨h,by simp⟩
 | v::vs,h=>by
  unfold wipe at h
  by_cases hi:v=i
  ·subst hi
   by_cases hv:v < (wipe σ vs).length
   ·rw[List.getElem?_set_self hv]at h;cases h
   ·rw[List.getElem?_eq_none (by simpa using hv)]at h;cases h
  ·rw[List.getElem?_set_ne hi]at h
   obtain⟨h1,h2⟩:=Mj h
   exact⟨h1,by simp only[List.mem_cons,not_or];exact⟨fun e=>hi e.symm,h2⟩⟩
abbrev Cx.blk (X:Cx)(s:Shared)(H:Hp)(scope:Scope)(cenv:Env)(fp:List Addr):Cx:={X with s_0:=s,H_0:=H,env:=cenv,outer:=X.stack,ex:=fp,fn:=fun x=>scope.names.lookup x==some .cell,pn:=[],xe:=fun _ _=>False}
section
variable {X:Cx}{pins:List (Addr×Obj)}{σ:St}{H:Hp}{s:Shared}
theorem Wg {scope:Scope}{own:List (Str×Nat)}{fp:List Addr}(I:Inv X pins σ H s)(ok:Wq X.N X.env.scope scope own)(hN:X.N.Nodup)(hfp:∀b∈fp,Jd X pins H b∧b < s.heap.objs.size) :
  Inv (X.blk s H scope (compEnvC scope (cellsFrom (s.heap.objs.size + 1) scope.names (Bt X.env.cells scope.names [])) s.heap.objs.size X.env) fp) [] (wipe σ (own.map (·.2))) H {s with heap:=pushCells (s.heap.push {cls:= .type "dict",data:= .dict #[]}) scope.names}:=by
 have hfree:∀y∈scope.names,y.2= .free->∃c,X.env.cells.lookup y.1=some c:=fun y hy e=>by
  rcases ok.free y hy e with k | k
  ·exact I.ok.has _ (.inl k)
  ·exact I.ok.has _ (.inr k)
 generalize hcenv:compEnvC scope (cellsFrom (s.heap.objs.size + 1) scope.names (Bt X.env.cells scope.names [])) s.heap.objs.size X.env=cenv
 have kp:∀b o,s.heap.get? b=some o->(pushCells (s.heap.push {cls:= .type "dict",data:= .dict #[]}) scope.names).get? b=some o:=fun b o e=>pushCells_keeps _ _ _ _ (Heap.get?_push_of_some _ e)
 have hL:cenv.locals=s.heap.objs.size:=by rw[← hcenv];rfl
 have hcl:cenv.cells=cellsFrom (s.heap.objs.size + 1) scope.names (Bt X.env.cells scope.names []):=by rw[← hcenv];rfl
 have hsc:cenv.scope=Bc6 scope X.env.scope:=by rw[← hcenv];rfl
 rw[← Heap.size_push s.heap {cls:= .type "dict",data:= .dict #[]}]at hcl
 have cm:∀{y c},(y,c)∈Bt X.env.cells scope.names []->X.env.cells.lookup y=some c∧c < s.heap.objs.size:=fun {y c} hm=>by
  rcases Gq hm with hm | ⟨h1,rfl⟩
  ·cases hm
  ·obtain⟨c,hc⟩:=hfree _ h1 rfl
   rw[hc]
   obtain⟨w,z⟩:=I.cell _ _ hc
   exact⟨rfl,z.lt⟩
 have mem:∀{y c},cenv.cells.lookup y=some c->(X.env.cells.lookup y=some c∧c < s.heap.objs.size)∨(s.heap.objs.size + 1<=c∧Aj3 (pushCells (s.heap.push {cls:= .type "dict",data:= .dict #[]}) scope.names) c none):=fun {y c} e=>by
  rw[hcl]at e
  rcases Hf (PySem.mem_of_lookup e) with hm | ⟨_,h2,h3⟩
  ·exact .inl (cm hm)
  ·rw[Heap.size_push]at h2;exact .inr ⟨h2,h3⟩
 have look:∀{y},scope.names.lookup y=some .free->∃c,cenv.cells.lookup y=some c∧X.env.cells.lookup y=some c:=fun {y} hl=>by
  have hy:(y,NameKind.free)∈scope.names:=PySem.mem_of_lookup hl
  obtain⟨c',e'⟩:=mem_lookup (Jp (names:=scope.names) (n:=(s.heap.push {cls:= .type "dict",data:= .dict #[]}).objs.size) (Ja (cells:=X.env.cells) (acc:=[]) hy))
  rw[← hcl]at e'
  refine⟨c',e',?_⟩
  rw[hcl]at e'
  rcases Hf (PySem.mem_of_lookup e') with hm | ⟨h1,_,_⟩
  ·exact(cm hm).1
  ·have:=ok.uniq _ h1
   rw[hl]at this;cases this
 have okB:(X.blk s H scope cenv fp).Ok:=by
  refine⟨I.ok.mod,by show cenv.scope.kind=_;rw[hsc];exact ok.kind,by show cenv.globals=_;rw[← hcenv];exact I.ok.glob,by show cenv.builtins=_;rw[← hcenv];exact I.ok.blt,by show s.heap.objs.size<=cenv.locals;rw[hL];exact Nat.le_refl _,
   fun y z c e1 e2=>?_,fun y hy=>?_,fun y c z e=>?_,I.ok.hd,I.ok.frames,.inl rfl,fun b hb=>⟨?_,fun y c e z=>?_⟩,I.bs,Nat.le_trans I.ok.bsz I.sz,fun b o e hb=>?_,fun b hb z=>?_,I.stack,I.Tv⟩
  ·have e1:cenv.cells.lookup y=some c:=e1
   have e2:cenv.cells.lookup z=some c:=e2
   rw[hcl]at e1 e2
   refine Np (fun p hp=>?_) (fun y z c a b=>I.ok.inj y z c (cm a).1 (cm b).1) (PySem.mem_of_lookup e1) (PySem.mem_of_lookup e2)
   rw[Heap.size_push]
   exact Nat.lt_succ_of_lt (cm (y:=p.1) (c:=p.2) hp).2
  ·show ∃c,cenv.cells.lookup y=some c
   have key:∀k,cenv.kindOf y=some k->(k= .cell∨k= .free)->∃c,cenv.cells.lookup y=some c:=fun k hk hk'=>by
    unfold Env.kindOf at hk
    rw[hsc]at hk
    obtain⟨k',e,r⟩:=Iu hk
    have:k'= .cell∨k'= .free:=by
     rcases r with rfl | ⟨rfl,_⟩
     ·exact hk'
     ·exact .inr rfl
    rcases this with rfl | rfl
    ·obtain⟨c,hm⟩:=Nq (n:=(s.heap.push {cls:= .type "dict",data:= .dict #[]}).objs.size) (acc:=Bt X.env.cells scope.names []) (PySem.mem_of_lookup e)
     obtain⟨c',e'⟩:=mem_lookup hm
     exact⟨c',by rw[hcl];exact e'⟩
    ·obtain⟨c,h1,_⟩:=look e
     exact⟨c,h1⟩
   rcases hy with hy | hy
   ·exact key _ hy (.inl rfl)
   ·exact key _ hy (.inr rfl)
  ·have z:(scope.names.lookup y==some NameKind.cell)=true:=z
   have z:scope.names.lookup y=some .cell:=by simpa using z
   have e:cenv.cells.lookup y=some c:=e
   rw[hcl]at e
   rcases Hf (PySem.mem_of_lookup e) with hm | ⟨_,h2,_⟩
   ·rcases Gq hm with hm | ⟨h1,_⟩
    ·cases hm
    ·have q:=ok.uniq _ h1
     rw[z]at q;cases q
   ·rw[Heap.size_push]at h2
    exact Nat.le_of_succ_le h2
  ·show b≠cenv.locals
   rw[hL];exact Nat.ne_of_lt (hfp b hb).2
  ·have e:cenv.cells.lookup y=some c:=e
   rcases mem e with⟨h1,_⟩ | ⟨h1,_⟩
   ·exact(hfp b hb).1.2.2.2.2.1 y c h1 z
   ·have h2:s.heap.objs.size + 1<=b:=by rw[← z];exact h1
    exact absurd (Nat.lt_of_lt_of_le (hfp b hb).2 (Nat.le_of_succ_le h2)) (Nat.lt_irrefl _)
  ·rcases(hfp b hb).1.2.2.2.1 with z | z
   ·exact I.ok.Ag0 b o e z
   ·exact absurd (Nat.lt_of_lt_of_le (Heap.lt_size e) (Nat.le_trans I.ok.bsz z)) (Nat.lt_irrefl _)
  ·rcases List.mem_cons.mp (I.Wy b z) with z | z
   ·exact(hfp b hb).1.2.1 z
   ·exact(hfp b hb).1.2.2.1 z
 refine⟨okB,rfl,I.bare,Un.kept kp,⟨fun _=>none,?_,fun i y av e1 e2 e3=>?_⟩,fun y c e=>?_,?_,fun y c e=>?_,fun p hp=>?_,I.hok.kept kp,by rw[HJ];exact I.len⟩
 ·show Heap.Ns _ cenv.locals _
  rw[hL]
  exact Heap.Ns.keeps (Heap.Ns.new ..) fun b o e=>pushCells_keeps _ _ _ _ e
 ·obtain⟨e2,hne⟩:=Mj e2
  have hfr:scope.names.lookup y=some .free∧(cenv.kindOf y=some .cell∨cenv.kindOf y=some .free):=by
   have key:∀k,cenv.scope.names.lookup y=some k->k= .local∨k= .cell∨k= .free->scope.names.lookup y=some .free∧(cenv.kindOf y=some .cell∨cenv.kindOf y=some .free):=fun k hk hk'=>by
    have hk0:=hk
    rw[hsc]at hk
    obtain⟨k',e,r⟩:=Iu hk
    have no:¬(k'= .local∨k'= .cell):=fun hh=>by
     rcases ok.own _ (PySem.mem_of_lookup e) hh with e' | e'
     ·obtain⟨p,hp,hpy⟩:=List.mem_map.mp e'
      have e3:=ok.ix p hp
      have:p.1=y:=hpy
      rw[this]at e3
      exact hne (List.mem_map.mpr ⟨p,hp,Lq hN e3 e1⟩)
     ·exact e' (List.mem_of_getElem? e1)
    rcases r with rfl | ⟨rfl,rfl⟩
    ·rcases hk' with rfl | rfl | rfl
     ·exact absurd (.inl rfl) no
     ·exact absurd (.inr rfl) no
     ·exact⟨e,.inr hk0⟩
    ·exact⟨e,.inl hk0⟩
   have e3:Vis cenv.scope y:=e3
   rcases e3 with e3 | e3 | e3
   ·exact key _ e3 (.inl rfl)
   ·exact key _ e3 (.inr (.inl rfl))
   ·exact key _ e3 (.inr (.inr rfl))
  obtain⟨m,hn,hl⟩:=I.loc
  have hvis:Vis X.env.scope y:=(ok.free _ (PySem.mem_of_lookup hfr.1) rfl).elim (fun k=> .inr (.inl k)) (fun k=> .inr (.inr k))
  obtain⟨w,r,q⟩:=hl i y av e1 e2 hvis
  refine⟨w,r,.inr ⟨hfr.2,?_⟩⟩
  obtain⟨c,h1,h2⟩:=look hfr.1
  rcases q with⟨k,_⟩ | ⟨_,c',e',z⟩
  ·have k:X.env.scope.names.lookup y=some .local:=k
   rcases ok.free _ (PySem.mem_of_lookup hfr.1) rfl with k' | k' <;>rw[show X.env.scope.names.lookup y=_ from k']at k <;>cases k
  ·rw[h2]at e';cases e'
   exact⟨c,h1,z.keeps kp⟩
 ·have e:cenv.cells.lookup y=some c:=e
  rcases mem e with⟨h1,_⟩ | ⟨_,z⟩
  ·obtain⟨w,z⟩:=I.cell y c h1
   exact⟨w,z.keeps kp⟩
  ·exact⟨_,z⟩
 ·show H cenv.locals=none
  rw[hL];exact I.hok.fresh (Nat.le_refl _)
 ·have e:cenv.cells.lookup y=some c:=e
  rcases mem e with⟨h1,_⟩ | ⟨h1,_⟩
  ·exact I.Ew y c h1
  ·exact I.hok.fresh (Nat.le_of_succ_le h1)
 ·exact absurd (show p∈([]:List (Addr×Obj))++[] from hp) (by simp)
theorem Ax9 {E:Value->Shared->Prop}{D:Addr}{xs:List V}{y:V}{v:Value}{Q:Value->Shared->Prop}(I:Inv X pins σ H s)(hD:H D=some (.lst xs))(hz:xs.length < sizeLine)(r:RelV y v)
  (h:∀s',Inv X pins σ (upd H D (.lst (xs++[y]))) s'->Q .none s'):wpAny (model X.prog X.w) X.A (call (.builtin "list.append") [.ref D,v]) Q E s:=by
 obtain⟨hz',its,n,ri,e⟩:=I.hok D _ hD
 have hl:=ri.length
 refine append_at (hsz:=by rw[List.size_toArray];omega) e fun h' sb ho'=>?_
 refine h {s with heap:=h'} (I.write (t':=s.toks) (by rw[hD];trivial) (.inl rfl) (fun b u hb q=>(sb.2 b hb).trans q) ⟨_,ho'⟩ ⟨by rw[List.length_append];exact hz,its++[v],n + 1,ri.append (.cons r .nil),?_⟩)
 rw[ho']
 simp
def PTs (X:Cx)(ifs:List Expr)(t:TT):Prop :=
 ∀(pins:List (Addr×Obj)) (s:Shared) (σ:St) (H:Hp) (Q:Bool->Hp->Prop),Inv X pins σ H s->t σ H Q ->
  wpAny (model X.prog X.w) X.A (forIn ifs true fun c r=>if r=true then do let ok ← isTrue c X.env (eval c X.env);pure (ForInStep.yield ok) else pure (ForInStep.yield r)) (TP X pins σ Q) X.xe s
def Ar8:TT:=fun _ H Q=>Q true H
theorem Ey:PTs X [] Ar8:=fun _ _ _ H _ I h=>wpAny_tests_nil ⟨H,I,h⟩
theorem Ji {c:Expr}{t:TT}(h:PT X c t):PTs X [c] t:=fun pins s σ H Q I hw=>wpAny_tests_one (h pins s σ H Q I hw)
end
theorem Tt {α:Type}{t:Sem α}{Q Q':α->Shared->Prop}{M:Model}{A:Around}{E:Value->Shared->Prop}{s:Shared}(h:wpAny M A t Q (fun _ _=>False) s)(hQ:∀a s,Q a s->Q' a s):wpAny M A t Q' E s:=wpAny_mono h hQ fun _ _ z=>False.elim z
theorem Uz {prog:Program}{w:World}{A:Around}{R:Result->Shared->Prop}{s:Shared}{elt target iter:Expr}{ifs:List Expr}{scope:Scope}{pos:Pos}{it acc:Value}{env:Env}(I:Nat->Shared->Prop)
  (turn:∀n s,I n s->wpAny (model prog w) A (pyNext it) (fun r s₁=>match r with
   | none=>R (.ok .next) s₁
   | some v=>wpAny (model prog w) A (letOwnedTupleGo target it v) (fun _ s₁'=>wpAny (model prog w) A (assign target env v) (fun _ s₂ =>
     wpAny (model prog w) A (forIn ifs true fun c r=>if r=true then do let ok ← isTrue c env (eval c env);pure (ForInStep.yield ok) else pure (ForInStep.yield r)) (fun ok s₃ =>
      if ok=true then wpAny (model prog w) A (eval elt env) (fun x s₄ =>
       wpAny (model prog w) A (call (.builtin "list.append") [acc,x]) (fun _ s₅=>∃m,m < n∧I m s₅) (notedBy (model prog w) A env fun e s'=>R (.error e) s') s₄) (notedBy (model prog w) A env fun e s'=>R (.error e) s') s₃
      else ∃m,m < n∧I m s₃) (notedBy (model prog w) A env fun e s'=>R (.error e) s') s₂) (notedBy (model prog w) A env fun e s'=>R (.error e) s') s₁') (notedBy (model prog w) A env fun e s'=>R (.error e) s') s₁) (notedBy (model prog w) A env fun e s'=>R (.error e) s') s)
  (n:Nat) (h:I n s) :
  codeAny (model prog w) A (.compLoop (.ListComp elt [⟨target,iter,ifs,0⟩] scope pos) 0 it acc env) R s:=by
 refine codeAny_loop rfl I (fun n s hI=>?_) n h
 show wpAny _ A ((compTurn (.ListComp elt [⟨target,iter,ifs,0⟩] scope pos) 0 it acc env).onRaise (fun x=>do noteFrame x env;theTreesLotGoes x)) _ _ s
 refine wpAny_noted ?_
 rw[compTurn_list]
 refine wpAny_bind (wpAny_standAt (wpAny_bind (wpAny_mono (turn n s hI) (fun r s₁ h₁=>?_) fun _ _ h'=>h')))
 cases r with
 | none=>exact wpAny_pure h₁
 | some v =>
  refine wpAny_bind (wpAny_mono h₁ (fun _ s₁' h₁'=>?_) fun _ _ h'=>h')
  refine wpAny_bind (wpAny_mono h₁' (fun _ s₂ h₂=>wpAny_bind (wpAny_mono h₂ (fun ok s₃ h₃=>?_) fun _ _ h'=>h')) fun _ _ h'=>h')
  cases ok with
  | false=>exact wpAny_pure ⟨rfl,h₃⟩
  | true =>
   exact wpAny_bind (wpAny_bind (wpAny_mono h₃ (fun x s₄ h₄=>wpAny_bind (wpAny_mono h₄ (fun _ s₅ h₅=>wpAny_pure (wpAny_pure ⟨rfl,h₅⟩)) fun _ _ h'=>h')) fun _ _ h'=>h'))
section
variable {X:Cx}
def tLc (wi:TI)(g:TG)(tt:TT)(te:TE)(vs:List Nat):TE:=fun σ H Q=>wi σ H fun J H1=>∀D,H1 D=none->∃W:Nat->Nat->Hp->Prop,(∃m,W 0 m (upd H1 D (.lst [])))∧∀i m H,W i m H ->
 (J.stop i H∧Q (.ref D) H)∨(J.go i H∧∃Nx:Hp->Prop,(∀H',Nx H'->∃m',m' < m∧W (i + 1) m' H')∧∀x H',J.yld i H x H'->g x (wipe σ vs) H' fun σ2 H2=>wipe σ2 vs=wipe σ vs∧tt σ2 H2 fun b H3 =>
  if b=true then te σ2 H3 fun y H4=>∃acc,H4 D=some (.lst acc)∧acc.length < sizeLine∧Nx (upd H4 D (.lst (acc++[y]))) else Nx H3)
theorem Yv {pins:List (Addr×Obj)}{s:Shared}{σ:St}{H:Hp}{Q:VK}{elt tg iter:Expr}{ifs:List Expr}{scope:Scope}{own:List (Str×Nat)}{pos pos':Pos}{wi:TI}{g:TG}{tt:TT}{te:TE}{use:Option (Value->Sem Unit)}{Qf:Value->Shared->Prop}
  (hc:X.calm=true) (hN:X.N.Nodup) (I:Inv X pins σ H s) (hi:PI X tg iter wi) (ok:Wq X.N X.env.scope scope own)
  (hg:∀(s:Shared) (H:Hp) (C:Addr) (cl:List (Str×Addr)) (fp:List Addr),PG (X.blk s H scope (compEnvC scope cl C X.env) fp) tg g) (ht:∀(s:Shared) (H:Hp) (C:Addr) (cl:List (Str×Addr)) (fp:List Addr),PTs (X.blk s H scope (compEnvC scope cl C X.env) fp) ifs tt)
  (he:∀(s:Shared) (H:Hp) (C:Addr) (cl:List (Str×Addr)) (fp:List Addr),PE (X.blk s H scope (compEnvC scope cl C X.env) fp) elt te) (hs:∀x,foldedSetIterable iter X.env x=pure x)
  (h:tLc wi g tt te (own.map (·.2)) σ H Q)
  (hRR:∀D C s' m H',Inv X pins σ H' s'->Q (.ref D) H'->s'.heap.Ns C m->Jd X pins H' C->compPost (model X.prog X.w) X.A X.xe use Qf (.ref D) C (.ok .next) s') :
  wpAny (model X.prog X.w) X.A (comprehension (.ListComp elt [⟨tg,iter,ifs,0⟩] scope pos) scope X.env pos' (newList []) false (eval iter X.env) use) Qf X.xe s:=by
 have hfree:∀y∈scope.names,y.2= .free->∃c,X.env.cells.lookup y.1=some c:=fun y hy e=>by
  rcases ok.free y hy e with k | k
  ·exact I.ok.has _ (.inl k)
  ·exact I.ok.has _ (.inr k)
 refine wpAny_comprehension_free (use:=use) rfl hs (XR hfree) ok.kind (fun y hy e=>by rw[ok.uniq y hy,e])
  (thn (hi pins s σ H _ I h) fun xv s1 hx=>thn hx fun itv s2 h2=>?_)
 obtain⟨it,fp,tn,J,H2,e,I2,T,st2,f2,q⟩:=h2
 subst e
 refine wpAny_newObj_type (Vx ?_) (by show 0<=sizeLine;decide)
 generalize hD:s2.heap.objs.size=D
 have hDn:H2 D=none:=I2.hok.fresh (Nat.le_of_eq hD)
 obtain⟨W,⟨m0,w0⟩,turn⟩:=q D hDn
 generalize hs3:({s2 with heap:=s2.heap.push {cls:= .type "list",data:= .seq ([]:List Value).toArray}}:Shared)=s3
 have I3:Inv X pins σ (upd H2 D (.lst [])) s3:=by
  rw[← hs3]
  refine I2.laid (t':=s2.toks) (fun b o e=>Heap.get?_push_of_some _ e) (Nat.le_of_eq hD) ⟨Nat.zero_le _,[],0,.nil,?_⟩
  rw[← hD]
  exact Heap.get?_push_size _ rfl
 have h3:s3.heap=s2.heap.push {cls:= .type "list",data:= .seq ([]:List Value).toArray}:=by rw[← hs3]
 have sz:∀b∈fp,b < s2.heap.objs.size:=fun b hb=>by
  obtain⟨o,e,_⟩:=T.obj _ _ st2 b hb
  exact Heap.lt_size e
 have f3:∀b∈fp,Jd X pins (upd H2 D (.lst [])) b∧b < s3.heap.objs.size:=fun b hb=>by
  have hlt:=sz b hb
  refine⟨⟨?_,(f2 b hb).2⟩,by rw[h3,Heap.size_push];exact Nat.lt_succ_of_lt hlt⟩
  rw[Ac (by rw[← hD];exact Nat.ne_of_lt hlt)]
  exact(f2 b hb).1
 have st3:tn 0 s3.heap:=T.keep _ _ _ st2 fun b _ o e=>by rw[h3];exact Heap.get?_push_of_some _ e
 have I4:=Wg I3 ok hN f3
 have pg:=hg s3 (upd H2 D (.lst [])) s3.heap.objs.size (cellsFrom (s3.heap.objs.size + 1) scope.names (Bt X.env.cells scope.names [])) fp
 have pt:=ht s3 (upd H2 D (.lst [])) s3.heap.objs.size (cellsFrom (s3.heap.objs.size + 1) scope.names (Bt X.env.cells scope.names [])) fp
 have pe:=he s3 (upd H2 D (.lst [])) s3.heap.objs.size (cellsFrom (s3.heap.objs.size + 1) scope.names (Bt X.env.cells scope.names [])) fp
 show codeAny _ _ (.compStart (.ListComp elt [⟨tg,iter,ifs,0⟩] scope pos) 0 (.ref it) (.ref D) (compEnvC scope (cellsFrom (s3.heap.objs.size + 1) scope.names (Bt X.env.cells scope.names [])) s3.heap.objs.size X.env)) (compPost (model X.prog X.w) X.A X.xe use Qf (.ref D) s3.heap.objs.size) {s3 with heap:=pushCells (s3.heap.push {cls:= .type "dict",data:= .dict #[]}) scope.names}
 have nfp:∀b∈fp,(upd H2 D (.lst [])) b=none:=fun b hb=>(f3 b hb).1.1
 generalize hce:compEnvC scope (cellsFrom (s3.heap.objs.size + 1) scope.names (Bt X.env.cells scope.names [])) s3.heap.objs.size X.env=ce at I4 pg pt pe ⊢
 have cL:ce.locals=s3.heap.objs.size:=by subst hce;rfl
 generalize hH3:upd H2 D (.lst [])=H3 at I3 I4 pg pt pe w0 nfp f3
 generalize hs4:({s3 with heap:=pushCells (s3.heap.push {cls:= .type "dict",data:= .dict #[]}) scope.names}:Shared)=s4 at I4 ⊢
 have st4:tn 0 s4.heap:=T.keep _ _ _ st3 fun b _ o e=>by rw[← hs4];exact pushCells_keeps _ _ _ _ (Heap.get?_push_of_some _ e)
 have stat:∀{σ':St} {H':Hp} {s':Shared},Inv (X.blk s3 H3 scope ce fp) [] σ' H' s'->(∀b∈fp,H' b=none)->∀b∈fp,Jd (X.blk s3 H3 scope ce fp) [] H' b:=fun {σ' H' s'} I' hn b hb =>
  ⟨hn b hb,(I'.ok.exf b hb).1,I'.ok.Ai2 b hb,.inl hb,fun x c e=>(I'.ok.exf b hb).2 x c e,fun p hp=>absurd (show p∈([]:List (Addr×Obj))++[] from hp) (by simp)⟩
 have loop:codeAny (model X.prog X.w) X.A (.compLoop (.ListComp elt [⟨tg,iter,ifs,0⟩] scope pos) 0 (.ref it) (.ref D) ce) (compPost (model X.prog X.w) X.A X.xe use Qf (.ref D) s3.heap.objs.size) s4:=by
  refine Uz (fun n s'=>∃i H',Inv (X.blk s3 H3 scope ce fp) [] (wipe σ (own.map (·.2))) H' s'∧tn i s'.heap∧(∀b∈fp,H' b=none)∧W i n H') ?_ m0 ⟨0,H3,I4,st4,nfp,w0⟩
  rintro n s5 ⟨i,H5,I5,st5,n5,w5⟩
  rcases turn i n H5 w5 with⟨stop,qq⟩ | ⟨go,Nx,hNx,step⟩
  ·have td:=T.done (X.blk s3 H3 scope ce fp) rfl rfl rfl hc i [] s5 _ H5 (fun _ _=>False) I5 (stat I5 n5) st5 stop
   refine Tt td fun r s6 ⟨hr,I6⟩=>?_
   subst hr
   have I7:Inv X pins σ H5 s6:=I3.call' (ch:=fp) I6.os I6.base I6.hok I6.bare fun b hb=>⟨(f3 b hb).1.2.2.2.1,(f3 b hb).1.2.1,(f3 b hb).1.2.2.2.2.1,(f3 b hb).1.2.2.2.2.2⟩
   have nC:H5 s3.heap.objs.size=none:=by
    have z:H5 ce.locals=none:=I6.free
    rw[cL]at z
    exact z
   obtain⟨m,hn,_⟩:=I6.loc
   have hn:s6.heap.Ns ce.locals m:=hn
   rw[cL]at hn
   exact hRR D s3.heap.objs.size s6 m H5 I7 qq hn (I3.Z1 (Nat.le_refl _) nC)
  ·have ti:=T.item (X.blk s3 H3 scope ce fp) rfl rfl rfl hc i [] s5 _ H5 (fun _ _=>False) I5 (stat I5 n5) st5 go
   refine Tt ti fun r s6 ⟨u,hr,h6⟩=>?_
   subst hr
   refine Tt h6 fun _ s7 ⟨x,H7,I7,r7,y7,st7,n7⟩=>?_
   have I7':=I7.pinned (stat I7 n7) (T.obj _ _ st7)
   refine Tt (pg _ s7 _ H7 x u _ I7' r7 (step x H7 y7)) fun _ s8 ⟨σ8,H8,I8,hw8,q8⟩=>?_
   refine Tt (pt _ s8 σ8 H8 _ I8 q8) fun b s9 ⟨H9,I9,q9⟩=>?_
   have fin:∀{s':Shared} {H':Hp},Inv (X.blk s3 H3 scope ce fp) ([]++Qt fp s7.heap) σ8 H' s'->Nx H'->∃m,m < n∧∃i H',Inv (X.blk s3 H3 scope ce fp) [] (wipe σ (own.map (·.2))) H' s'∧tn i s'.heap∧(∀b∈fp,H' b=none)∧W i m H':=fun {s' H'} I' nx=>by
    obtain⟨m',hm,w'⟩:=hNx H' nx
    have pin':∀b∈fp,∀o,s7.heap.get? b=some o->s'.heap.get? b=some o∧H' b=none:=fun b hb o e =>
     let z:=I'.pin (b,o) (List.mem_append_right _ (List.mem_append_right _ (Ke hb e)))
     ⟨z.1,z.2.1⟩
    have hl:(wipe σ (own.map (·.2))).length=σ8.length:=by rw[← hw8,HJ]
    refine⟨m',hm,i + 1,H',(I'.Kz (pins:=[])).weak hl (fun j v e=>?_),T.keep _ _ _ st7 fun b hb o e=>(pin' b hb o e).1,fun b hb=>?_,w'⟩
    ·rw[← hw8]at e
     exact(Mj e).1
    ·obtain⟨o,e,_⟩:=T.obj _ _ st7 b hb
     exact(pin' b hb o e).2
   cases b with
   | false =>
    simp only[Bool.false_eq_true,if_false]at q9 ⊢
    exact fin I9 q9
   | true =>
    simp only[if_true]at q9 ⊢
    refine Tt (pe _ s9 σ8 H9 _ I9 q9) fun z s10 ⟨yv,H10,I10,r10,acc,hD10,hz10,nx⟩=>?_
    exact Ax9 (X:=X.blk s3 H3 scope ce fp) I10 hD10 hz10 r10 fun s11 I11=>fin I11 nx
 exact codeAny_compStart_list loop (T.self X.A 0 _ _ _ st4 loop)
theorem Qv {elt tg iter:Expr}{ifs:List Expr}{scope:Scope}{own:List (Str×Nat)}{pos:Pos}{wi:TI}{g:TG}{tt:TT}{te:TE}(hc:X.calm=true)(hN:X.N.Nodup)(hi:PI X tg iter wi)(ok:Wq X.N X.env.scope scope own)
  (hg:∀(s:Shared) (H:Hp) (C:Addr) (cl:List (Str×Addr)) (fp:List Addr),PG (X.blk s H scope (compEnvC scope cl C X.env) fp) tg g) (ht:∀(s:Shared) (H:Hp) (C:Addr) (cl:List (Str×Addr)) (fp:List Addr),PTs (X.blk s H scope (compEnvC scope cl C X.env) fp) ifs tt)
  (he:∀(s:Shared) (H:Hp) (C:Addr) (cl:List (Str×Addr)) (fp:List Addr),PE (X.blk s H scope (compEnvC scope cl C X.env) fp) elt te) (hs:∀x,foldedSetIterable iter X.env x=pure x:=by intro _;rfl) :
  PE X (.ListComp elt [⟨tg,iter,ifs,0⟩] scope pos) (tLc wi g tt te (own.map (·.2))):=by
 intro pins s σ H Q I h
 rw[eval_ListComp]
 refine Yv hc hN I hi ok hg ht he hs h fun D C s' m H' I' q hn f=>⟨m,hn,fun h'' sb=>?_⟩
 obtain⟨f0,f1,f2,f3,f4,f5⟩:=f
 exact⟨.ref D,H',I'.turned (t':=s'.toks) (fun b o hb e=>(sb.2 b hb).trans e) f0 f1 f3 f4 f5,rfl,q⟩
theorem Es {i:Nat}{y:Str}{py:Pos}{elt tg iter:Expr}{ifs:List Expr}{scope:Scope}{own:List (Str×Nat)}{pos spos:Pos}{wi:TI}{g:TG}{tt:TT}{te:TE}(hc:X.calm=true)(hN:X.N.Nodup)(hy:X.N[i]?=some y)(hyl:X.env.scope.names.lookup y=some .local)
  (hsw:swapsWith (.ListComp elt [⟨tg,iter,ifs,0⟩] scope pos) (some (.Name y py)) spos.line X.env=pure true) (hi:PI X tg iter wi) (ok:Wq X.N X.env.scope scope own)
  (hg:∀(s:Shared) (H:Hp) (C:Addr) (cl:List (Str×Addr)) (fp:List Addr),PG (X.blk s H scope (compEnvC scope cl C X.env) fp) tg g) (ht:∀(s:Shared) (H:Hp) (C:Addr) (cl:List (Str×Addr)) (fp:List Addr),PTs (X.blk s H scope (compEnvC scope cl C X.env) fp) ifs tt)
  (he:∀(s:Shared) (H:Hp) (C:Addr) (cl:List (Str×Addr)) (fp:List Addr),PE (X.blk s H scope (compEnvC scope cl C X.env) fp) elt te) (hs:∀x,foldedSetIterable iter X.env x=pure x:=by intro _;rfl) :
  PS X (.Assign [.Name y py] (.ListComp elt [⟨tg,iter,ifs,0⟩] scope pos) spos) (Az3 (tLc wi g tt te (own.map (·.2))) (Yz i)):=by
 intro pins s σ H D I h
 rw[exec_Assign_Name_used _ _ _ _ hsw]
 refine wpAny_bind (wpAny_standAt (wpAny_bind ?_))
 show wpAny _ X.A (do let _ ← comprehension (.ListComp elt [⟨tg,iter,ifs,0⟩] scope pos) scope X.env (firstIterPos [⟨tg,iter,ifs,0⟩] pos) (newList []) false (eval iter X.env) (some (assign (.Name y py) X.env))) _ _ s
 have h:tLc wi g tt te (own.map (·.2)) σ H (fun x H1=>Yz i x σ H1 D.nx):=h
 refine wpAny_bind (thn (Yv (Qf:=fun _ s'=>SP X pins D .next s') hc hN I hi ok hg ht he hs h fun L C s' m H' I' q hn f=>?_) fun _ s' hq=>wpAny_pure (wpAny_pure hq))
 show wpAny _ _ (assign (.Name y py) X.env (.ref L)) _ _ _
 refine wpAny_assign_Name (R5 (v:=V.ref L) I' hN hy (.inl hyl) rfl (fun s2 I2 ⟨a,sb,ha⟩=>?_) (.inr hyl))
 obtain⟨f0,f1,f2,f3,f4,f5⟩:=f
 have haC:C≠a:=by
  rcases ha with z | z
  ·rw[z];exact f1
  ·exact fun e=>f4 y a z e.symm
 refine⟨m,hn.sameBut sb haC,fun h3 sb3=>?_⟩
 exact⟨_,H',I2.turned (t':=s2.toks) (fun b o hb e=>(sb3.2 b hb).trans e) f0 f1 f3 f4 f5,q⟩
end
def Bb0 (N:List Str)(sc scope:Scope)(own:List (Str×Nat)):Bool :=
 (match scope.kind with | .function=>true | _=>false)&&(scope.names.all fun y=>decide (scope.names.lookup y.1=some y.2))&&(own.all fun p=>decide (N[p.2]?=some p.1)) &&
  (scope.names.all fun y=>match y.2 with
   | .free=>(match sc.names.lookup y.1 with | some .cell=>true | some .free=>true | _=>false)
   | .local=>decide (y.1∈own.map (·.1))|| decide (y.1∉N)
   | .cell=>decide (y.1∈own.map (·.1))|| decide (y.1∉N)
   | _=>true)
theorem BJ {N:List Str}{sc scope:Scope}{own:List (Str×Nat)}(h:Bb0 N sc scope own=true):Wq N sc scope own:=by
 unfold Bb0 at h
 simp only[Bool.and_eq_true,List.all_eq_true,decide_eq_true_eq]at h
 obtain⟨⟨⟨h1,h2⟩,h3⟩,h4⟩:=h
 refine⟨?_,h2,h3,fun y hy e=>?_,fun y hy e=>?_⟩
 ·split at h1
  ·assumption
  ·cases h1
 ·have q:=h4 y hy
  simp only[e]at q
  split at q <;>first | exact .inl (by assumption) | exact .inr (by assumption) | cases q
 ·have q:=h4 y hy
  rcases e with e | e <;>(simp only[e,Bool.or_eq_true,decide_eq_true_eq]at q;exact q)
end L2
namespace L2
open PySem PySem.Spec PyProof.Rows
section
variable {prog:Program}{w:World}{A:Around}{R:Result->Shared->Prop}{s:Shared}{elt t0 i0 t1 i1:Expr}{ifs0 ifs1:List Expr}{scope:Scope}{pos:Pos}{it acc:Value}{env:Env}
end
section
variable {X:Cx}
end
end L2
namespace L2
open PySem PySem.Spec PyProof.Rows
section
variable {κ:Type} [DecidableEq κ]
def BL (kvs:List (κ×V))(k:κ):Option V:=(kvs.find? fun kv=>decide (kv.1=k)).map (·.2)
def putK (kvs:List (κ×V))(k:κ)(v:V):List (κ×V) :=
 if (kvs.any fun kv=>decide (kv.1=k))=true then kvs.map (fun kv=>if kv.1=k then(kv.1,v) else kv) else kvs++[(k,v)]
theorem Cz {p:κ×V}{r:List (κ×V)}{k:κ}(e:p.1=k):BL (p::r) k=some p.2:=by simp[BL,List.find?_cons,e]
theorem Cd {p:κ×V}{r:List (κ×V)}{k:κ}(e:¬p.1=k):BL (p::r) k=BL r k:=by simp[BL,List.find?_cons,e]
theorem U6 (k:κ):∀kvs:List (κ×V),(kvs.any fun kv=>decide (kv.1=k))=(BL kvs k).isSome
 | []=>rfl
 | p::r=>by
  rw[List.any_cons]
  by_cases e:p.1=k
  ·simp only[Cz e,decide_eq_true e,Bool.true_or,Option.isSome_some]
  ·rw[Cd e,decide_eq_false e,Bool.false_or];exact U6 k r
theorem Gn (kvs:List (κ×V))(k:κ)(v:V):(putK kvs k v).length<=kvs.length + 1:=by
 unfold putK
 split
 ·rw[List.length_map];omega
 ·rw[List.length_append,List.length_cons,List.length_nil];omega
theorem Jc.GR {o:Option V}{u:Option Value}(r:Jc o u):o.isSome=u.isSome:=by
 cases o with
 | none=>cases u with
  | none=>rfl
  | some _=>exact(show False from r).elim
 | some _=>cases u with
  | none=>exact(show False from r).elim
  | some _=>rfl
theorem Jc.getD {o:Option V}{u:Option Value}{d:V}{d':Value}(r:Jc o u)(rd:RelV d d'):RelV (o.getD d) (u.getD d'):=by
 cases o with
 | none=>cases u with
  | none=>exact rd
  | some _=>exact(show False from r).elim
 | some _=>cases u with
  | none=>exact(show False from r).elim
  | some _=>exact r
theorem KV.val {kvs:List (κ×V)}{vs:List (κ×Value)}(r:KV kvs vs)(k:κ):Jc (BL kvs k) (valueAt vs k):=by
 unfold KV at r
 induction r with
 | nil=>exact True.intro
 | @cons p q ps qs h t ih =>
  obtain⟨h1,h2⟩:=h
  by_cases e:p.1=k
  ·have e':q.1=k:=h1.symm.trans e
   have b:valueAt (q::qs) k=some q.2:=by simp[valueAt,List.find?_cons,e']
   rw[Cz e,b];exact h2
  ·have e':¬q.1=k:=fun z=>e (h1.trans z)
   have b:valueAt (q::qs) k=valueAt qs k:=by simp[valueAt,List.find?_cons,e']
   rw[Cd e,b];exact ih
theorem KV.any {kvs:List (κ×V)}{vs:List (κ×Value)}(r:KV kvs vs)(k:κ):(kvs.any fun kv=>decide (kv.1=k))=vs.any fun kv=>decide (kv.1=k):=by
 unfold KV at r
 induction r with
 | nil=>rfl
 | cons h t ih=>rw[List.any_cons,List.any_cons,ih,h.1]
theorem KV.repl {kvs:List (κ×V)}{vs:List (κ×Value)}(r:KV kvs vs)(k:κ){y:V}{u:Value}(ry:RelV y u) :
  KV (kvs.map fun kv=>if kv.1=k then(kv.1,y) else kv) (vs.map fun kv=>if kv.1=k then(kv.1,u) else kv):=by
 unfold KV at r ⊢
 induction r with
 | nil=>exact .nil
 | @cons p q ps qs h t ih =>
  rw[List.map_cons,List.map_cons]
  refine .cons ?_ ih
  obtain⟨h1,h2⟩:=h
  by_cases e:p.1=k
  ·rw[if_pos e,if_pos (h1.symm.trans e)];exact⟨h1,ry⟩
  ·rw[if_neg e,if_neg (fun z=>e (h1.trans z))];exact⟨h1,h2⟩
theorem KV.put {kvs:List (κ×V)}{vs:List (κ×Value)}(r:KV kvs vs)(k:κ){y:V}{u:Value}(ry:RelV y u):KV (putK kvs k y) (stored vs k u):=by
 unfold putK stored
 rw[r.any k]
 by_cases e:(vs.any fun kv=>decide (kv.1=k))=true
 ·rw[if_pos e,if_pos e];exact r.repl k ry
 ·rw[if_neg e,if_neg e];exact Paired.snoc r ⟨rfl,ry⟩
theorem KV.keys {kvs:List (κ×V)}{vs:List (κ×Value)}(r:KV kvs vs):kvs.map (·.1)=vs.map (·.1):=by
 unfold KV at r
 induction r with
 | nil=>rfl
 | cons h t ih=>rw[List.map_cons,List.map_cons,ih,h.1]
theorem KV.length {kvs:List (κ×V)}{vs:List (κ×Value)}(r:KV kvs vs):kvs.length=vs.length:=Paired.length r
end
theorem Oa {P:Program}{w:World}{k:Key}{u:Value}(r:RelV (kV k) u):(Bq P w).is k u=true:=by
 cases k with
 | inl i=>obtain⟨t,e⟩:=(show ∃t,u=Value.int i t from r);subst e;exact VB P w i t
 | inr x=>obtain⟨t,e⟩:=(show ∃t,u=Value.str x t from r);subst e;exact Vz P w x t
theorem SX {P:Program}{w:World}:∀{ks:List Key}{us:List Value},Vals (ks.map kV) us->ItemsAre (Bq P w) ks us
 | [],_,r=>by rw[List.map_nil]at r;cases r;exact .nil
 | k::ks,_,r=>by
  rw[List.map_cons]at r
  cases r with
  | cons h t=>exact .cons (Oa h) (SX t)
abbrev KT (H:Hp):List (List Key×V)->List (List Key×Addr×Value)->Prop:=Paired fun p q=>p.1=q.1∧H q.2.1=some (.tup (p.1.map kV))∧RelV p.2 q.2.2
theorem KT.val {H:Hp}{kvs:List (List Key×V)}{xs:List (List Key×Addr×Value)}(r:KT H kvs xs)(k:List Key):Jc (BL kvs k) ((atKey xs k).map (·.2)):=by
 induction r with
 | nil=>exact True.intro
 | @cons p q ps qs h t ih =>
  obtain⟨h1,_,h2⟩:=h
  by_cases e:p.1=k
  ·have e':q.1=k:=h1.symm.trans e
   have b:atKey (q::qs) k=some q.2:=by simp[atKey,List.find?_cons,e']
   rw[Cz e,b];exact h2
  ·have e':¬q.1=k:=fun z=>e (h1.trans z)
   have b:atKey (q::qs) k=atKey qs k:=by simp[atKey,List.find?_cons,e']
   rw[Cd e,b];exact ih
theorem KT.repl {H:Hp}{kvs:List (List Key×V)}{xs:List (List Key×Addr×Value)}(r:KT H kvs xs)(k:List Key){y:V}{u:Value}(ry:RelV y u) :
  KT H (kvs.map fun kv=>if kv.1=k then(kv.1,y) else kv) (xs.map (putAt k u)):=by
 induction r with
 | nil=>exact .nil
 | @cons p q ps qs h t ih =>
  rw[List.map_cons,List.map_cons]
  refine .cons ?_ ih
  obtain⟨h1,h2,h3⟩:=h
  unfold putAt
  by_cases e:p.1=k
  ·rw[if_pos e,if_pos (h1.symm.trans e)];exact⟨h1,h2,ry⟩
  ·rw[if_neg e,if_neg (fun z=>e (h1.trans z))];exact⟨h1,h2,h3⟩
theorem KT.put {H:Hp}{kvs:List (List Key×V)}{xs:List (List Key×Addr×Value)}(r:KT H kvs xs)(k:List Key){b:Addr}{y:V}{u:Value}(hb:H b=some (.tup (k.map kV)))(ry:RelV y u) :
  KT H (putK kvs k y) (storedH xs k b u):=by
 have e:(kvs.any fun kv=>decide (kv.1=k))=(atKey xs k).isSome:=by
  rw[U6,(r.val k).GR,Option.isSome_map]
 unfold putK storedH
 rw[e]
 by_cases q:(atKey xs k).isSome=true
 ·rw[if_pos q,if_pos q];exact r.repl k ry
 ·rw[if_neg q,if_neg q];exact Paired.snoc r ⟨rfl,hb,ry⟩
theorem KT.keeps {H H':Hp}{kvs:List (List Key×V)}{xs:List (List Key×Addr×Value)}(r:KT H kvs xs)(ht:∀b ys,H b=some (.tup ys)->H' b=some (.tup ys)):KT H' kvs xs :=
 Paired.An3 r fun _ _ z=>⟨z.1,ht _ _ z.2.1,z.2.2⟩
section
variable {P:Program}{w:World}{H:Hp}{h:Heap}{a:Addr}
theorem Aq7 {u:HO}(ok:HOk P w H h)(e:Rd H a u):Cp P w H h a u:=e.ok ok
theorem LK {kvs:List (Key×V)}(ok:HOk P w H h)(e:Rd H a (.dK kvs)):kvs.length<=sizeLine∧(a==sysModules)=false∧∃vs,KV kvs vs∧h.DictOf (Bq P w) a vs :=
 show Cp P w H h a (.dK kvs) from Aq7 ok e
theorem Ai8 {kvs:List (Key×V)}(ok:HOk P w H h)(e:H a=some (.dK kvs)):kvs.length<=sizeLine∧(a==sysModules)=false∧∃vs,KV kvs vs∧h.DictOf (Bq P w) a vs:=LK ok (.inl e)
theorem Ni {ks:List Key}(ok:HOk P w H h)(e:H a=some (.tup (ks.map kV))):(tupleKind (Bq P w)).is h ks a:=by
 obtain⟨_,its,r,o,h1,h2,n,h3⟩:=(show Cp P w H h a (.tup (ks.map kV)) from ok a _ e)
 exact⟨o,its.toArray,n,h1,h2,h3,by simpa using SX r⟩
theorem LC {kvs:List (List Key×V)}(ok:HOk P w H h)(e:Rd H a (.dT kvs)):kvs.length<=sizeLine∧(a==sysModules)=false ∧
  ∃xs,KT H kvs xs∧h.DictOfH (tupleKind (Bq P w)) a xs:=by
 obtain⟨z,y,xs,r,o,es,ep,h1,h2,h3,h4,h5⟩:=(show Cp P w H h a (.dT kvs) from Aq7 ok e)
 refine⟨z,y,xs,r,o,es,ep,h1,h2,h3,h4,fun x hx=>?_,h5⟩
 have all:∀{l:List (List Key×V)} {m:List (List Key×Addr×Value)},KT H l m->∀x∈m,(tupleKind (Bq P w)).is h x.1 x.2.1:=by
  intro l m q
  induction q with
  | nil=>intro x hx;exact nomatch hx
  | @cons p q ps qs hq t ih =>
   intro x hx
   rcases List.mem_cons.mp hx with e | hx
   ·subst e
    exact Ni ok (by rw[← hq.1];exact hq.2.1)
   ·exact ih x hx
 exact all r x hx
theorem Ba8 {kvs:List (List Key×V)}(ok:HOk P w H h)(e:H a=some (.dT kvs)):kvs.length<=sizeLine∧(a==sysModules)=false ∧
  ∃xs,KT H kvs xs∧h.DictOfH (tupleKind (Bq P w)) a xs:=LC ok (.inl e)
end
def DW (H:Hp)(a:Addr)(y:V)(r:Option V):Prop :=
 (∃kvs k,Rd H a (.dK kvs)∧y=kV k∧r=BL kvs k)∨∃kvs k b,Rd H a (.dT kvs)∧y= .ref b∧H b=some (.tup (k.map kV))∧r=BL kvs k
def Bb4 (H:Hp)(a:Addr)(y v:V)(H':Hp):Prop :=
 (∃kvs k,H a=some (.dK kvs)∧y=kV k∧kvs.length < sizeLine∧H'=upd H a (.dK (putK kvs k v))) ∨
 ∃kvs k b,H a=some (.dT kvs)∧y= .ref b∧H b=some (.tup (k.map kV))∧kvs.length < sizeLine∧H'=upd H a (.dT (putK kvs k v))
theorem DW.k {H:Hp}{a:Addr}{kvs:List (Key×V)}{k:Key}(e:H a=some (.dK kvs)):DW H a (kV k) (BL kvs k):= .inl ⟨kvs,k,.inl e,rfl,rfl⟩
section
variable {X:Cx}{pins:List (Addr×Obj)}{σ:St}{H:Hp}{s:Shared}{a:Addr}{y v:V}{u r:Value}{o:Option V}{A:Around}{E:Value->Shared->Prop}
theorem Inv.big (I:Inv X pins σ H s):sysModules < s.heap.objs.size:=by
 have h:mainGlobals < s.heap.objs.size:=(I.mod.glob.keeps I.bk).lt
 exact Nat.lt_trans (by decide) h
theorem Z7 {Q:Value->Shared->Prop}(hu:A.units + 1 < cLine)(I:Inv X pins σ H s)(g:DW H a y (some v))(ry:RelV y u)(h:∀w' s',Inv X pins σ H s'->RelV v w'->Q w' s') :
  wpAny (model X.prog X.w) A (getItem (.ref a) u) Q E s:=by
 rcases g with⟨kvs,k,e,ey,l⟩ | ⟨kvs,k,b,e,ey,eb,l⟩
 ·subst ey
  obtain⟨z,hd,vs,rel,dd⟩:=LK I.hok e
  obtain⟨w',hw,rw'⟩:=Jc.some_of (v:=v) (o:=valueAt vs k) (by rw[l];exact rel.val k)
  exact wpAny_getItem_of (Oa ry) dd.mapOf hw (h w' _ (I.tok _) rw')
 ·subst ey
  cases (show u=Value.ref b from ry)
  obtain⟨z,hd,xs,rel,dd⟩:=LC I.hok e
  obtain⟨w',hw,rw'⟩:=Jc.some_of (v:=v) (o:=(atKey xs k).map (·.2)) (by rw[l];exact rel.val k)
  obtain⟨p,hp,hp2⟩:=Option.map_eq_some_iff.mp hw
  refine wpAny_getItem_heap (tupleKind_room_in1 hu) (Ni I.hok eb) dd hp ?_
  rw[hp2]
  exact h w' _ (I.tok _) rw'
theorem Be5 {Q:Value->Shared->Prop}(hu:A.units + 1 < cLine)(I:Inv X pins σ H s)(g:DW H a y o)(ry:RelV y u)(h:∀s',Inv X pins σ H s'->Q (.bool o.isSome) s') :
  wpAny (model X.prog X.w) A (compareOp .In u (.ref a)) Q E s:=by
 rcases g with⟨kvs,k,e,ey,l⟩ | ⟨kvs,k,b,e,ey,eb,l⟩
 ·subst ey
  obtain⟨z,hd,vs,rel,dd⟩:=LK I.hok e
  refine wpAny_in_of (Oa ry) hd dd.mapOf ?_
  rw[← (rel.val k).GR,← l]
  exact h _ (I.tok _)
 ·subst ey
  cases (show u=Value.ref b from ry)
  obtain⟨z,hd,xs,rel,dd⟩:=LC I.hok e
  refine wpAny_in_heap (tupleKind_room_in1 hu) (Ni I.hok eb) hd dd ?_
  have q:=(rel.val k).GR
  rw[Option.isSome_map]at q
  rw[← q,← l]
  exact h _ (I.tok _)
theorem Ap5 {Q:Value->Shared->Prop}(hu:A.units + 1 < cLine)(I:Inv X pins σ H s)(g:DW H a y o)(ry:RelV y u)(h:∀s',Inv X pins σ H s'->Q (.bool (!o.isSome)) s') :
  wpAny (model X.prog X.w) A (compareOp .NotIn u (.ref a)) Q E s:=by
 rcases g with⟨kvs,k,e,ey,l⟩ | ⟨kvs,k,b,e,ey,eb,l⟩
 ·subst ey
  obtain⟨z,hd,vs,rel,dd⟩:=LK I.hok e
  refine wpAny_notIn_of (Oa ry) hd dd.mapOf ?_
  rw[← (rel.val k).GR,← l]
  exact h _ (I.tok _)
 ·subst ey
  cases (show u=Value.ref b from ry)
  obtain⟨z,hd,xs,rel,dd⟩:=LC I.hok e
  refine wpAny_notIn_heap (tupleKind_room_in1 hu) (Ni I.hok eb) hd dd ?_
  have q:=(rel.val k).GR
  rw[Option.isSome_map]at q
  rw[← q,← l]
  exact h _ (I.tok _)
theorem Py {h':Heap}{t':Nat}{ob:HO}(I:Inv X pins σ H s)(mu:Mut (H a))(hs:Heap.SameBut a s.heap h')(he:∃q,h'.get? a=some q)(new:Cp X.prog X.w (upd H a ob) h' a ob) :
  Inv X pins σ (upd H a ob) {s with heap:=h',toks:=t'} :=
 I.write (x:=a) (e:=a) mu (.inl rfl) (fun b q hb z=>(hs.2 b hb).trans z) he new
theorem XH {P:Program}{w:World}{H':Hp}{h':Heap}{kvs:List (Key×V)}{vs:List (Key×Value)}(z:kvs.length<=sizeLine)(hd:(a==sysModules)=false)(rel:KV kvs vs)(dd:h'.DictOf (Bq P w) a vs) :
  Cp P w H' h' a (.dK kvs):=⟨z,hd,vs,rel,dd⟩
theorem Z6 {H':Hp}{Q:Unit->Shared->Prop}(hu:A.units + 1 < cLine)(I:Inv X pins σ H s)(g:Bb4 H a y v H')(ry:RelV y u)(rv:RelV v r)(h:∀s',Inv X pins σ H' s'->Q () s') :
  wpAny (model X.prog X.w) A (setItem (.ref a) u r) Q E s:=by
 rcases g with⟨kvs,k,e,ey,l,eH⟩ | ⟨kvs,k,b,e,ey,eb,l,eH⟩
 ·subst ey eH
  obtain⟨z,hd,vs,rel,dd⟩:=Ai8 I.hok e
  have hz:vs.length<=sizeLine:=by rw[← rel.length];exact z
  have hl:(putK kvs k v).length<=sizeLine:=by have:=Gn kvs k v;omega
  refine wpAny_setItem_pairs (hsz:=hz) (Oa ry) dd fun h' dd' hs=>h _ ?_
  have he:∃q,h'.get? a=some q:=let ⟨q,_,_,hq,_⟩:=dd';⟨q,hq⟩
  exact Py I (by rw[e];exact True.intro) hs he (XH hl hd (rel.put k rv) dd')
 ·subst ey eH
  cases (show u=Value.ref b from ry)
  obtain⟨z,hd,xs,rel,dd⟩:=Ba8 I.hok e
  have hz:xs.length<=sizeLine:=by rw[← Paired.length rel];exact z
  have hl:(putK kvs k v).length<=sizeLine:=by have:=Gn kvs k v;omega
  refine wpAny_setItem_heap (hsz:=hz) (tupleKind_room_in1 hu) (Ni I.hok eb) dd fun h' dd' hs=>h _ ?_
  obtain⟨q,es,ep,hq,h2,h3,h4,_,h5⟩:=dd'
  refine Py I (by rw[e];exact True.intro) hs ⟨q,hq⟩ ⟨hl,hd,_,(rel.put k eb rv).keeps fun c ys ec=>?_,q,es,ep,hq,h2,h3,h4,h5⟩
  rw[Ac (Az9 ec e (fun z=>nomatch z))]
  exact ec
end
section
variable {X:Cx}{pins:List (Addr×Obj)}{σ:St}{H:Hp}{s:Shared}{a:Addr}{kvs:List (Key×V)}{k:Key}{u:Value}{A:Around}{E:Value->Shared->Prop}
theorem Ba9 {Q:Value->Shared->Prop}(I:Inv X pins σ H s)(e:Rd H a (.dK kvs))(h:∀t s',Inv X pins σ H s'->Q (.int kvs.length t) s'):wpAny (model X.prog X.w) A (call (.builtin "len") [.ref a]) Q E s:=by
 obtain⟨z,hd,vs,rel,dd⟩:=LK I.hok e
 refine call_len_dict hd dd (by rw[← rel.length];rw[sizeLine_eq]at z;omega) ?_
 rw[← rel.length]
 exact h _ _ (I.tok _)
end
def Bb3 (i:Expr):Prop:=∀ov iv,subscripted i false ov iv=operate [ov,iv] (getItem ov iv)
theorem Aj8 {prog:Program}{w:World}{A:Around}{E:Value->Shared->Prop}{s:Shared}{env:Env}{value slice:Expr}{pos:Pos}{T id:String}{Q:Value->Shared->Prop}
  (hl:typeLookup (.type T) "__getitem__" =pure (some (.builtin id))) (hs:Bb3 slice)
  (h:wpAny (model prog w) A (eval value env) (fun o s₁=>wpAny (model prog w) A (eval slice env) (fun i s₂=>s₂.TypeIs o T∧wpAny (model prog w) A (getItem o i) Q E s₂) E s₁) E s) :
  wpAny (model prog w) A (eval (.Subscript value slice pos) env) Q E s:=by
 refine Subscript_ (wpAny_mono h (fun o s₁ h₁=>wpAny_mono h₁ (fun i s₂ h₂=>?_) fun _ _ x=>x) fun _ _ x=>x)
 obtain⟨hT,h₂⟩:=h₂
 unfold subscriptTail
 refine wpAny_bind ?_
 rw[getitemInPython_of_ne hT.not_modules]
 refine wpAny_bind (wpAny_specialOf hT hl ?_)
 have fin:wpAny (model prog w) A (subscripted slice false o i) (fun r s₃=>wpAny (model prog w) A (letTemporaryGo value o r >>=fun _=>pure r) Q E s₃) E s₂:=by
  rw[hs o i]
  exact wpAny_operating (wpAny_mono h₂ (fun r s₃ h₃=>wpAny_bind (wpAny_letTemporaryGo (wpAny_pure h₃))) fun _ _ x=>x)
 first
  | exact wpAny_pure (wpAny_bind fin)
  | exact wpAny_bind (wpAny_pure (wpAny_bind fin))
  | exact wpAny_bind fin
theorem V5 {X:Cx}{pins:List (Addr×Obj)}{σ:St}{H:Hp}{s:Shared}{a:Addr}{y:V}{o:Option V}(I:Inv X pins σ H s)(g:DW H a y o):s.TypeIs (.ref a) "dict" :=by
 rcases g with⟨kvs,k,e,_,_⟩ | ⟨kvs,k,b,e,_,_,_⟩
 ·obtain⟨_,_,vs,_,dd⟩:=LK I.hok e
  exact dd.typeIs
 ·obtain⟨_,_,xs,_,dd⟩:=LC I.hok e
  exact dd.typeIs
def Aq6 (td ty:TE):TE:=fun σ H Q=>td σ H fun x H1=>ty σ H1 fun y H2=>∃a v,x= .ref a∧DW H2 a y (some v)∧Q v H2
def Bc2 (ty td:TE):TE:=fun σ H Q=>ty σ H fun y H1=>td σ H1 fun x H2=>∃a o,x= .ref a∧DW H2 a y o∧Q (.bl o.isSome) H2
def Aj7 (ty td:TE):TE:=fun σ H Q=>ty σ H fun y H1=>td σ H1 fun x H2=>∃a o,x= .ref a∧DW H2 a y o∧Q (.bl (!o.isSome)) H2
def Az6 (td ty tv:TE):TS:=fun D σ H=>tv σ H fun v H1=>td σ H1 fun x H2=>ty σ H2 fun y H3=>∃a H4,x= .ref a∧Bb4 H3 a y v H4∧D.nx σ H4
section
variable {X:Cx}{o i e value:Expr}{pos pos' tpos:Pos}{td ty tv:TE}
theorem Br (hu:X.A.units + 1 < cLine)(ho:PE X o td)(hi:PE X i ty)(hs:Bb3 i):PE X (.Subscript o i pos) (Aq6 td ty):=by
 intro pins s σ H Q I h
 refine Aj8 PySem.F.slot_dict_getitem.lookup hs (thn (ho pins s σ H _ I h) fun u s1 ⟨x,H1,I1,rx,q1⟩=>thn (hi pins s1 σ H1 _ I1 q1) fun iv s2 ⟨y,H2,I2,ry,a,v,ex,g,q2⟩=>?_)
 subst ex
 obtain rfl:u=Value.ref a:=rx
 exact⟨V5 I2 g,Z7 hu I2 g ry fun w' s3 I3 rw'=>⟨v,H2,I3,rw',q2⟩⟩
theorem J4 (hu:X.A.units + 1 < cLine)(hi:PE X i ty)(ho:PE X o td):PC X .In i o (Bc2 ty td):=by
 intro pins s σ H Q I h
 refine thn (hi pins s σ H _ I h) fun iv s1 ⟨y,H1,I1,ry,q1⟩=>thn (ho pins s1 σ H1 _ I1 q1) fun u s2 ⟨x,H2,I2,rx,a,ov,ex,g,q2⟩=>?_
 subst ex
 obtain rfl:u=Value.ref a:=rx
 exact Be5 hu I2 g ry fun s3 I3=>⟨.bl ov.isSome,H2,I3,rfl,q2⟩
theorem Cu (hu:X.A.units + 1 < cLine)(hi:PE X i ty)(ho:PE X o td):PC X .NotIn i o (Aj7 ty td):=by
 intro pins s σ H Q I h
 refine thn (hi pins s σ H _ I h) fun iv s1 ⟨y,H1,I1,ry,q1⟩=>thn (ho pins s1 σ H1 _ I1 q1) fun u s2 ⟨x,H2,I2,rx,a,ov,ex,g,q2⟩=>?_
 subst ex
 obtain rfl:u=Value.ref a:=rx
 exact Ap5 hu I2 g ry fun s3 I3=>⟨.bl (!ov.isSome),H2,I3,rfl,q2⟩
theorem Ho (hu:X.A.units + 1 < cLine)(ho:PE X o td)(hi:PE X i ty)(hv:PE X value tv)(hs:swapsWith value (some (.Subscript o i pos')) pos.line X.env=pure false) :
  PS X (.Assign [.Subscript o i pos'] value pos) (Az6 td ty tv):=by
 intro pins s σ H D I h
 refine wpAny_Assign_Subscript (thn (hv pins s σ H _ I h) fun r s1 ⟨v,H1,I1,rv,q1⟩=>thn (ho pins s1 σ H1 _ I1 q1) fun u s2 ⟨x,H2,I2,rx,q2⟩=>thn (hi pins s2 σ H2 _ I2 q2) fun iv s3 ⟨y,H3,I3,ry,a,H4,ex,g,q3⟩=>?_) hs
 subst ex
 obtain rfl:u=Value.ref a:=rx
 exact Z6 hu I3 g ry rv fun s4 I4=>⟨σ,H4,I4,q3⟩
end
theorem V4 {P:Program}{w:World}{H:Hp}(h:Heap)(hb:sysModules < h.objs.size):Cp P w H (h.push {cls:= .type "dict",data:= .dict #[]}) h.objs.size (.dK []) :=
 ⟨Nat.zero_le _,beq_eq_false_iff_ne.mpr (Ne.symm (Nat.ne_of_lt hb)),[],.nil,Heap.DictOf.new h⟩
theorem Ai5 {P:Program}{w:World}{H:Hp}(h:Heap)(hb:sysModules < h.objs.size):Cp P w H (h.push {cls:= .type "dict",data:= .dict #[]}) h.objs.size (.dT []) :=
 ⟨Nat.zero_le _,beq_eq_false_iff_ne.mpr (Ne.symm (Nat.ne_of_lt hb)),[],.nil,_,#[],0,Heap.get?_push_size _ rfl,⟨rfl,rfl,rfl⟩,rfl,rfl,List.nodup_nil⟩
def As5:TE:=fun _ H Q=>∀p,H p=none->Q (.ref p) (upd H p (.dK []))
def As4:TE:=fun _ H Q=>∀p,H p=none->Q (.ref p) (upd H p (.dT []))
section
variable {X:Cx}{pos:Pos}
theorem Im:PE X (.Dict [] [] pos) As5:=fun pins s σ H Q I h =>
 wpAny_Dict_empty ⟨.ref s.heap.objs.size,_,I.laid (a:=s.heap.objs.size) (o:= .dK []) (t':=s.toks) (fun _ _ q=>Heap.get?_push_of_some _ q) (Nat.le_refl _) (V4 s.heap I.big),rfl,h _ (I.hok.fresh (Nat.le_refl _))⟩
theorem Af0:PE X (.Dict [] [] pos) As4:=fun pins s σ H Q I h =>
 wpAny_Dict_empty ⟨.ref s.heap.objs.size,_,I.laid (a:=s.heap.objs.size) (o:= .dT []) (t':=s.toks) (fun _ _ q=>Heap.get?_push_of_some _ q) (Nat.le_refl _) (Ai5 s.heap I.big),rfl,h _ (I.hok.fresh (Nat.le_refl _))⟩
end
def Wx:List (TE×TE)->St->Hp->(List (V×V)->Hp->Prop)->Prop
 | [],_,H,Q=>Q [] H
 | (tk,tv)::r,σ,H,Q=>tk σ H fun x H1=>tv σ H1 fun y H2=>Wx r σ H2 fun ps H3=>Q ((x,y)::ps) H3
abbrev VV:List (V×V)->List (Value×Value)->Prop:=Paired fun p q=>RelV p.1 q.1∧RelV p.2 q.2
def PPs (X:Cx)(pos:Pos)(keys:List (Option Expr))(values:List Expr)(trs:List (TE×TE)):Prop :=
 ∀(pins:List (Addr×Obj)) (s:Shared) (σ:St) (H:Hp) (Q:List (V×V)->Hp->Prop),Inv X pins σ H s->Wx trs σ H Q ->
  wpAny (model X.prog X.w) X.A (evalPairs (pairTrees keys values X.env pos)) (fun vs s'=>∃ps H',Inv X pins σ H' s'∧VV ps vs∧Q ps H') X.xe s
theorem Yk {X:Cx}{pos:Pos}:PPs X pos [] [] []:=fun pins s σ H Q I h=>pairTrees_nil_walk ⟨[],H,I,.nil,h⟩
theorem Vl {X:Cx}{pos:Pos}{k v:Expr}{ks:List (Option Expr)}{vs:List Expr}{tk tv:TE}{trs:List (TE×TE)}(hk:PE X k tk)(hv:PE X v tv)(hr:PPs X pos ks vs trs) :
  PPs X pos (some k::ks) (v::vs) ((tk,tv)::trs):=fun pins s σ H Q I h =>
 pairTrees_cons_walk (thn (hk pins s σ H _ I h) fun u s1 ⟨x,H1,I1,rx,q1⟩=>thn (hv pins s1 σ H1 _ I1 q1) fun w2 s2 ⟨y,H2,I2,ry,q2⟩ =>
  thn (hr pins s2 σ H2 _ I2 q2) fun ws s3 ⟨ps,H3,I3,rel,q3⟩=>⟨(x,y)::ps,H3,I3,.cons ⟨rx,ry⟩ rel,q3⟩)
def FQ (kvs more:List (Key×V)):List (Key×V):=more.foldl (fun acc kv=>putK acc kv.1 kv.2) kvs
theorem KV.merge:∀{more:List (Key×V)}{rs:List (Key×Value)}{kvs:List (Key×V)}{vs:List (Key×Value)},KV more rs->KV kvs vs->KV (FQ kvs more) (merged vs rs):=by
 intro more rs kvs vs r
 unfold KV at r
 induction r generalizing kvs vs with
 | nil=>intro q;exact q
 | @cons p q ps qs h t ih =>
  intro r0
  have e:KV (putK kvs p.1 p.2) (stored vs q.1 q.2):=by
   have:=r0.put p.1 h.2
   rw[← h.1];exact this
  exact ih e
theorem JG:∀(more kvs:List (Key×V)),(FQ kvs more).length<=kvs.length + more.length
 | [],kvs=>by show kvs.length<=kvs.length + 0;omega
 | p::r,kvs=>by
  have h1:=JG r (putK kvs p.1 p.2)
  have h2:=Gn kvs p.1 p.2
  show(FQ (putK kvs p.1 p.2) r).length<=_
  rw[List.length_cons];omega
theorem Ro {P:Program}{w:World}:∀{kvs:List (Key×V)}{ws:List (Value×Value)},VV (kvs.map fun kv=>(kV kv.1,kv.2)) ws->∃rs,Carries (Bq P w) ws rs∧KV kvs rs
 | [],_,r=>by rw[List.map_nil]at r;cases r;exact⟨[],True.intro,.nil⟩
 | p::kvs,_,r=>by
  rw[List.map_cons]at r
  cases r with
  | @cons a b as bs h t =>
   obtain⟨rs,c,q⟩:=Ro (P:=P) (w:=w) t
   obtain⟨b1,b2⟩:=b
   exact⟨(p.1,b2)::rs,⟨Oa h.1,rfl,c⟩,.cons ⟨rfl,h.2⟩ q⟩
def Az2 (trs:List (TE×TE)):TE:=fun σ H Q=>∀p,H p=none->Wx trs σ (upd H p (.dK [])) fun ps H2=>H2 p=some (.dK [])∧∃kvs:List (Key×V),ps=kvs.map (fun kv=>(kV kv.1,kv.2))∧kvs.length<=15∧Q (.ref p) (upd H2 p (.dK (FQ [] kvs)))
theorem Yp {X:Cx}{pos:Pos}{keys:List (Option Expr)}{values:List Expr}{trs:List (TE×TE)}(h:PPs X pos keys values trs)(hall:keys.all (·.isSome)=true)(hl:keys.length=values.length)(h0:keys≠[])
  (h15:keys.length<=15):PE X (.Dict keys values pos) (Az2 trs):=by
 intro pins s σ H Q I q
 have hn:=I.hok.fresh (Nat.le_refl s.heap.objs.size)
 have I1:=I.laid (a:=s.heap.objs.size) (o:= .dK []) (h':=s.heap.push {cls:= .type "dict",data:= .dict #[]}) (t':=s.toks) (fun _ _ q=>Heap.get?_push_of_some _ q) (Nat.le_refl _) (V4 s.heap I.big)
 refine wpAny_Dict_walk (knd:=Bq X.prog X.w) hall hl h0 h15 (thn (h pins _ σ _ _ I1 (q _ hn)) fun ws s2 ⟨ps,H2,I2,rel,e,kvs,ep,lk,q2⟩=>?_)
 subst ep
 obtain⟨rs,c,rk⟩:=Ro (P:=X.prog) (w:=X.w) rel
 obtain⟨z,hd,vs0,r0,dd⟩:=Ai8 I2.hok e
 cases r0
 refine⟨rs,c,dd,fun h' dd' hs=>⟨.ref s.heap.objs.size,_,?_,rfl,q2⟩⟩
 have hz:(FQ [] kvs).length<=sizeLine:=by
  have h1:=JG kvs []
  rw[List.length_nil]at h1
  rw[sizeLine_eq];omega
 have he:∃q,h'.get? s.heap.objs.size=some q:=let ⟨q,_,_,hq,_⟩:=dd';⟨q,hq⟩
 exact Py I2 (by rw[e];exact True.intro) hs he (XH hz hd (rk.merge .nil) dd')
structure M2 (X:Cx)(o:Expr)(m:Str)(apos:Pos)(e f:Expr)(cpos:Pos):Prop where
 base:attributeBase o m X.env (eval o X.env)=eval o X.env
 few:((backTo cpos (starEach [e,f] X.env)).all (fun x=> !x.1)&&(backToKw cpos (keywordEach [] X.env)).all (fun x=>x.1.isSome)
  &&decide (([e,f]:List Expr).length + ([]:List Keyword).length + (if ([]:List Keyword).isEmpty then 0 else 1) < 30))=true
 line:(apos.endLine==cpos.line)=true
 trees:backTo cpos (starEach [e,f] X.env)=[(false,eval e X.env),(false,eval f X.env)]
def IsD (H:Hp)(a:Addr):Prop:=(∃kvs,Rd H a (.dK kvs))∨∃kvs,Rd H a (.dT kvs)
theorem Ah6 {X:Cx}{pins:List (Addr×Obj)}{σ:St}{H:Hp}{s:Shared}{a:Addr}(I:Inv X pins σ H s)(d:IsD H a) :
  s.TypeIs (.ref a) "dict" ∧(∀b,Value.ref a= .ref b->∃ob,s.heap.get? b=some ob∧ob.dict=none)∧(a==sysModules)=false:=by
 rcases d with⟨kvs,e⟩ | ⟨kvs,e⟩
 ·obtain⟨_,hd,vs,_,dd⟩:=LK I.hok e
  refine⟨dd.typeIs,fun b q=>?_,hd⟩
  cases q
  obtain⟨ob,_,_,h1,h2,_⟩:=dd
  exact⟨ob,h1,h2.2.1⟩
 ·obtain⟨_,hd,xs,_,dd⟩:=LC I.hok e
  refine⟨dd.typeIs,fun b q=>?_,hd⟩
  cases q
  obtain⟨ob,_,_,h1,h2,_⟩:=dd
  exact⟨ob,h1,h2.2.1⟩
section
variable {X:Cx}{pins:List (Addr×Obj)}{σ:St}{H:Hp}{s:Shared}{a:Addr}{y d:V}{u r:Value}{o:Option V}{A:Around}{E:Value->Shared->Prop}
theorem Ax2 {Q:Value->Shared->Prop}(hu:A.units + 1 < cLine)(I:Inv X pins σ H s)(g:DW H a y o)(ry:RelV y u)(rd:RelV d r)(h:∀w' s',Inv X pins σ H s'->RelV (o.getD d) w'->Q w' s') :
  wpAny (model X.prog X.w) A (call (.builtin "dict.get") [.ref a,u,r]) Q E s:=by
 rcases g with⟨kvs,k,e,ey,l⟩ | ⟨kvs,k,b,e,ey,eb,l⟩
 ·subst ey
  obtain⟨z,hd,vs,rel,dd⟩:=LK I.hok e
  refine call_meetsIn PySem.F.slot_dict_get dd.typeIs PySem.F.entry_dict_get (PySem.F.args_dict_get_3 _ _ _) (meets_dict_get_default (Bq X.prog X.w) a (Oa ry) hd r) ⟨_,dd.mapOf,h _ _ (I.tok _) ?_⟩
  rw[l]
  exact(rel.val k).getD rd
 ·subst ey
  cases (show u=Value.ref b from ry)
  obtain⟨z,hd,xs,rel,dd⟩:=LC I.hok e
  refine call_meetsIn PySem.F.slot_dict_get dd.typeIs PySem.F.entry_dict_get (PySem.F.args_dict_get_3 _ _ _) (meetsH_dict_get_default (tupleKind (Bq X.prog X.w)) a b hd r) ⟨tupleKind_room_in1 hu,k,xs,Ni I.hok eb,dd,h _ _ (I.tok _) ?_⟩
  rw[l]
  exact(rel.val k).getD rd
end
def As6 (td ty tx:TE):TE:=fun σ H Q=>td σ H fun x H1=>∃a,x= .ref a∧IsD H1 a∧ty σ H1 fun y H2=>tx σ H2 fun z H3=>∃o,DW H3 a y o∧Q (o.getD z) H3
section
variable {X:Cx}{o e f:Expr}{apos cpos:Pos}{td ty tx:TE}
theorem Vq (hu:X.A.units + 1 < cLine)(ho:PE X o td)(he:PE X e ty)(hf:PE X f tx)(m:M2 X o "get" apos e f cpos):PE X (.Call (.Attribute o "get" apos) [e,f] [] cpos) (As6 td ty tx):=by
 intro pins s σ H Q I h
 refine wpAny_Call_method m.base m.few m.line PySem.F.plainAttrs_dict PySem.F.slot_dict_get PySem.F.type_dict_get (thn (ho pins s σ H _ I h) fun u s1 ⟨x,H1,I1,rx,a,ex,d,q1⟩=>?_)
 subst ex
 obtain rfl:u=Value.ref a:=rx
 obtain⟨t1,t2,_⟩:=Ah6 I1 d
 refine⟨t1,t2,?_⟩
 rw[m.trees]
 refine Calls.callWith_builtin rfl (Calls.evalArgs_plain (Calls.spliced_cons (thn (he pins s1 σ H1 _ I1 q1) fun iv s2 ⟨y,H2,I2,ry,q2⟩ =>
  Calls.spliced_cons (thn (hf pins s2 σ H2 _ I2 q2) fun fv s3 ⟨z,H3,I3,rz,ov,g,q3⟩=>Calls.spliced_nil ?_))))
 exact Ax2 hu I3 g ry rz fun w' s4 I4 rw'=>⟨_,H3,I4,rw',q3⟩
end
section
variable {X:Cx}{pins:List (Addr×Obj)}{σ:St}{H:Hp}{s:Shared}{a:Addr}{kvs:List (Key×V)}{A:Around}{E:Value->Shared->Prop}
end
section
variable {X:Cx}{pins:List (Addr×Obj)}{σ:St}{H:Hp}{s:Shared}{a:Addr}{y:V}{u:Value}{A:Around}{E:Value->Shared->Prop}
end
end L2
namespace L2
open PySem PySem.Spec PyProof.Rows
section
variable {prog:Program}{w:World}{A:Around}{E:Value->Shared->Prop}
end
section
variable {X:Cx}
end
end L2
namespace L2
open PySem PySem.Spec PyProof.Rows
section
variable {X:Cx}{pins:List (Addr×Obj)}{σ:St}{H:Hp}{s:Shared}{h':Heap}
theorem Inv.lock {d:Addr}{u:HO}(I:Inv X pins σ H s)(h:H d=some u)(mu:Mut (some u)):∃od,Inv X pins σ (upd H d (.frz od u)) s:=by
 have x:=I.hok d u h
 have ex:∃od,s.heap.get? d=some od:=by
  cases u with
  | lst xs=>obtain⟨_,_,_,_,e⟩:=x;exact⟨_,e⟩
  | dK kvs=>obtain⟨_,_,_,_,o,_,_,e,_⟩:=x;exact⟨o,e⟩
  | dT kvs=>obtain⟨_,_,_,_,o,_,_,e,_⟩:=x;exact⟨o,e⟩
  | set S n=>obtain⟨o,_,_,_,e,_⟩:=x;exact⟨o,e⟩
  | ins C dx fs=>obtain⟨_,_,_,e,_⟩:=x;exact⟨_,e⟩
  | ext φ=>obtain⟨_,⟨_,e⟩,_⟩:=x;exact⟨_,e⟩
  | _=>exact False.elim mu
 obtain⟨od,e⟩:=ex
 have new:Cp X.prog X.w (upd H d (.frz od u)) s.heap d (.frz od u):=by
  refine⟨e,x.stay (fun b v _ q=>q) (fun b q=>?_) fun b xs q=>?_⟩
  ·rw[Ac (fun z=>by rw[z,h]at q;cases q;exact mu)];exact q
  ·rw[Ac (fun z=>by rw[z,h]at q;cases q;exact mu)];exact q
 exact⟨od,I.write (x:=d) (e:=d) (t':=s.toks) (h':=s.heap) (by rw[h];exact mu) (.inl rfl) (fun b v _ q=>q) ⟨od,e⟩ new⟩
theorem Inv.Vw {d:Addr}{u:HO}(I:Inv X pins σ H s)(h:H d=some u)(mu:Mut (some u)):∀o' u',X.H_0 d≠some (.frz o' u'):=fun o' u' e=>by
 have q:=I.base.O7 d o' u' e
 rw[h]at q
 cases q
 exact mu
theorem Inv.unlock {d:Addr}{od:Obj}{u:HO}(I:Inv X pins σ H s)(h:H d=some (.frz od u))(hn:∀o' u',X.H_0 d≠some (.frz o' u')):Inv X pins σ (upd H d u) s:=by
 have neH:∀b o,H b=some o->(∀o' u',o≠ .frz o' u')->b≠d:=fun b o e hne z=>by
  rw[z,h]at e
  cases e
  exact hne _ _ rfl
 have neN:∀b,H b=none->b≠d:=fun b e z=>by rw[z,h]at e;cases e
 refine⟨I.ok,I.os,I.bare,⟨I.base.keep,I.base.slot,fun b o e n hx=>?_,I.base.there,fun b xs e=>?_,fun b o x e=>?_,fun b ps e=>?_⟩,I.loc,I.cell,?_,fun x c e=>?_,fun p hp=>?_,fun b o e=>?_,I.len⟩
 ·rw[Ac (neN b (I.base.free b o e n hx))];exact I.base.free b o e n hx
 ·have q:=I.base.tups b xs e
  rw[Ac (neH b _ q (fun _ _ z=>nomatch z))];exact q
 ·have q:=I.base.O7 b o x e
  rw[Ac (fun z=>by rw[z]at e;exact hn _ _ e)];exact q
 ·obtain⟨m,q⟩:=I.base.PN b ps e
  exact⟨m,by rw[Ac (neH b _ q (fun _ _ z=>nomatch z))];exact q⟩
 ·rw[Ac (neN _ I.free)];exact I.free
 ·rw[Ac (neN c (I.Ew x c e))];exact I.Ew x c e
 ·obtain⟨e,n,r⟩:=I.pin p hp
  exact⟨e,by rw[Ac (neN _ n)];exact n,r⟩
 ·by_cases hb:b=d
  ·rw[hb,Ab]at e
   cases e
   rw[hb]
   obtain⟨_,x⟩:=I.hok d _ h
   exact x.stay (fun c v _ q=>q) (fun c q=>by rw[Ac (neH c _ q (fun _ _ z=>nomatch z))];exact q) fun c xs q=>by rw[Ac (neH c _ q (fun _ _ z=>nomatch z))];exact q
  ·rw[Ac hb]at e
   exact(I.hok b o e).stay (fun c v _ q=>q) (fun c q=>by rw[Ac (neH c _ q (fun _ _ z=>nomatch z))];exact q) fun c xs q=>by rw[Ac (neH c _ q (fun _ _ z=>nomatch z))];exact q
end
def Az0 (t:TS):TS:=fun D σ H=>∃d u,H d=some u∧Mut (some u)∧∀od,t ⟨fun σ' H'=>H' d=some (.frz od u)∧D.nx σ' (upd H' d u),fun v H'=>H' d=some (.frz od u)∧D.rt v (upd H' d u),fun σ' H'=>H' d=some (.frz od u)∧D.bk σ' (upd H' d u),fun σ' H'=>H' d=some (.frz od u)∧D.ct σ' (upd H' d u)⟩ σ (upd H d (.frz od u))
def As2 (t:TE):TE:=fun σ H Q=>∃d u,H d=some u∧Mut (some u)∧∀od,t σ (upd H d (.frz od u)) fun v H'=>H' d=some (.frz od u)∧Q v (upd H' d u)
section
variable {X:Cx}
theorem Al2 {st:Stmt}{t:TS}(h:PS X st t):PS X st (Az0 t):=by
 intro pins s σ H D I hw
 obtain⟨d,u,hd,mu,hw⟩:=hw
 obtain⟨od,I1⟩:=I.lock hd mu
 refine thn (h pins s σ _ _ I1 (hw od)) fun f s1 q=>?_
 cases f with
 | next=>obtain⟨σ',H',I2,e,q⟩:=q;exact⟨σ',_,I2.unlock e (I.Vw hd mu),q⟩
 | brk=>obtain⟨σ',H',I2,e,q⟩:=q;exact⟨σ',_,I2.unlock e (I.Vw hd mu),q⟩
 | cont=>obtain⟨σ',H',I2,e,q⟩:=q;exact⟨σ',_,I2.unlock e (I.Vw hd mu),q⟩
 | ret v=>obtain⟨x,σ',H',I2,r,e,q⟩:=q;exact⟨x,σ',_,I2.unlock e (I.Vw hd mu),r,q⟩
theorem Al7 {e:Expr}{t:TE}(h:PE X e t):PE X e (As2 t):=by
 intro pins s σ H Q I hw
 obtain⟨d,u,hd,mu,hw⟩:=hw
 obtain⟨od,I1⟩:=I.lock hd mu
 refine thn (h pins s σ _ _ I1 (hw od)) fun v s1 ⟨x,H1,I2,r,e2,q⟩=>?_
 exact⟨x,_,I2.unlock e2 (I.Vw hd mu),r,q⟩
theorem Xd {tg:Expr}{pins:List (Addr×Obj)}{σ:St}{H:Hp}{s:Shared}{R:It->Hp->Prop}{J:It}{tn:Nat->Heap->Prop}{tk:Nat}(I:Inv X pins σ H s)(o:Obj)
  (T:Turn X.prog X.w X.K tg J [s.heap.objs.size] s.heap.objs.size tn) (st:tn 0 (s.heap.push o)) (q:R J H):PIE X pins σ tg R (.ref s.heap.objs.size) {s with heap:=s.heap.push o,toks:=tk}:=by
 refine⟨s.heap.objs.size,[s.heap.objs.size],tn,J,H,rfl,I.kept fun b ob e=>Heap.get?_push_of_some _ e,T,st,fun b hb=>?_,q⟩
 have e:b=s.heap.objs.size:=by simpa using hb
 subst e
 exact I.Z1 (Nat.le_refl _) (I.hok.fresh (Nat.le_refl _))
end
section
variable {X:Cx}{tg:Expr}
end
section
variable {X:Cx}{tg:Expr}
end
section
variable {prog:Program}{w:World}{A:Around}{E:Value->Shared->Prop}{s:Shared}
theorem Nk {d:Addr}{o:Obj}{es:Array DictEntry}{ep:Nat}{Q:Value->Shared->Prop}(hd:(d==sysModules)=false)(ho:s.heap.get? d=some o)(hc:o.ExactDict)(hdat:o.data= .dict es ep)
  (hQ:Q (.ref s.heap.objs.size) {s with heap:=s.heap.push {cls:= .type "dict_keyiterator",data:= .fields #[.ref d,.int 0 0,.int es.size 0,.int ep 0]}}) :
  wpAny (model prog w) A (pyIter (.ref d)) Q E s:=by
 have hT:s.TypeIs (.ref d) "dict" :=⟨o,ho,hc.1⟩
 refine wpAny_pyIter_slot hT F.slot_dict_iter (wpAny_call_entry F.slot_dict_iter hT F.entry_dict_iter ?_ (F.args_dict_iter_1 _))
 unfold Builtin.«dict.__iter__»
 refine wpAny_bind ?_
 unfold Builtin.Dict.dictSlotNone
 refine wpAny_bind (wpAny_notOrdered_dict hT ?_)
 show wpAny _ _ (pure (Value.ref d)) _ _ s
 refine wpAny_pure ?_
 show wpAny _ _ (Builtin.Dict.showsAll d >>=_) _ _ s
 unfold Builtin.Dict.showsAll
 rw[if_neg (by rw[hd];exact Bool.false_ne_true)]
 refine wpAny_bind (wpAny_pure ?_)
 refine wpAny_bind (wpAny_dictEntries ho hdat ?_)
 refine wpAny_bind (wpAny_dictEpoch ho hdat ?_)
 refine wpAny_bind (wpAny_newObj_type (wpAny_pure ⟨_,rfl, "dict_keyiterator",_,⟨_,Heap.get?_push_size _ rfl,rfl⟩,F.slot_dict_keyiterator_next.lookup,?_⟩))
 simpa[rawInt]using hQ
theorem JD {it d:Addr}{i n ep:Nat}{od:Obj}{es:Array DictEntry}{en:DictEntry}{Q:Option Value->Shared->Prop}(hit:s.heap.IsKeyIter it d i n ep)(hod:s.heap.get? d=some od)(hdd:od.data= .dict es ep)
  (hsz:es.size=n) (hx:es[i]?=some en) (hQ:∀h',h'.IsKeyIter it d (i + 1) n ep->Heap.SameBut it s.heap h'->Q (some en.key) {s with heap:=h'}):wpAny (model prog w) A (pyNext (.ref it)) Q E s:=by
 obtain⟨o,ho,hc,hd⟩:=id hit
 unfold pyNext
 refine wpAny_bind (wpAny_attempt (wpAny_callSpecial?_slot (name:=Str.ofString "__next__") hit.typeIs F.slot_dict_keyiterator_next
  (wpAny_call_entry F.slot_dict_keyiterator_next hit.typeIs F.entry_dict_keyiterator_next ?_ (F.args_dict_keyiterator_next_1 _))))
 refine wpAny_bind (wpAny_pure ?_)
 refine wpAny_bind ?_
 refine wpAny_bind ?_
 first | refine wpAny_bind (wpAny_typeNameOfWhole_keyiter hit.typeIs (wpAny_pure ?_)) | refine wpAny_bind (wpAny_typeNameOf_keyiter hit.typeIs (wpAny_pure ?_))
 refine wpAny_bind (wpAny_fieldsOf ho hd ?_)
 have hown:Builtin.Dict_items.ownsTuple "dict_keyiterator" =false:=by decide
 simp only[hown,Bool.false_eq_true,if_false]
 show wpAny _ _ (if (Value.ref d==Value.none)=true then _ else _) _ _ s
 rw[if_neg (show ¬((Value.ref d==Value.none)=true) from Bool.false_ne_true)]
 refine wpAny_bind (wpAny_pure ?_)
 refine wpAny_bind (wpAny_dictEntries hod hdd ?_)
 rw[if_neg (by rw[hsz];simp)]
 refine wpAny_bind (wpAny_pure ?_)
 refine wpAny_bind (wpAny_dictEpoch hod hdd ?_)
 rw[if_neg (by simp)]
 refine wpAny_pure ?_
 obtain⟨hlt',hen⟩:=Array.getElem?_eq_some_iff.mp hx
 simp only[show ¬((i:Int) < 0) from by omega,if_false,Int.toNat_natCast,Array.getElem?_eq_getElem hlt']
 refine wpAny_bind ?_
 first | refine wpAny_bind (wpAny_typeNameOfWhole_keyiter hit.typeIs (wpAny_pure ?_)) | refine wpAny_bind (wpAny_typeNameOf_keyiter hit.typeIs (wpAny_pure ?_))
 refine wpAny_bind (wpAny_isOneOf_keyiter hit.typeIs ?_)
 show wpAny _ _ (setField (.ref it) 1 (rawInt ((i:Int) + 1)) >>=_) _ _ s
 refine wpAny_bind (wpAny_setField ho hd (by simp) ?_)
 have hit':(s.heap.update it (Obj.mapFields (·.setIfInBounds 1 (rawInt ((i:Int) + 1))))).IsKeyIter it d (i + 1) n ep :=
  ⟨_,Heap.get?_update_self _ ho (Obj.isFreed_of_fields (Obj.data_mapFields hd _)),(Obj.cls_mapFields ..).trans hc,by rw[Obj.data_mapFields hd];simp[rawInt]⟩
 refine wpAny_bind (wpAny_holding ?_)
 refine wpAny_bind (wpAny_isOneOf_keyiter (s:={s with heap:=s.heap.update it (Obj.mapFields (·.setIfInBounds 1 (rawInt ((i:Int) + 1))))}) hit'.typeIs ?_)
 show wpAny _ _ (pure es[i].key) _ _ _
 rw[hen]
 exact wpAny_pure (wpAny_pure ⟨_,rfl,wpAny_pure (hQ _ hit' (Heap.SameBut.update ..))⟩)
theorem Hr {it d:Addr}{i n ep:Nat}{od:Obj}{es:Array DictEntry}{Q:Option Value->Shared->Prop}(hh:A.handled=none)(hit:s.heap.IsKeyIter it d i n ep)(hod:s.heap.get? d=some od)(hdd:od.data= .dict es ep)
  (hsz:es.size=n) (hge:n<=i) (hQ:∀h',Heap.ExtBut it s.heap h'->Q none {s with heap:=h'}):wpAny (model prog w) A (pyNext (.ref it)) Q E s:=by
 obtain⟨o,ho,hc,hd⟩:=id hit
 unfold pyNext
 refine wpAny_bind (wpAny_attempt (wpAny_callSpecial?_slot (name:=Str.ofString "__next__") hit.typeIs F.slot_dict_keyiterator_next
  (wpAny_call_entry F.slot_dict_keyiterator_next hit.typeIs F.entry_dict_keyiterator_next ?_ (F.args_dict_keyiterator_next_1 _))))
 refine wpAny_bind (wpAny_pure ?_)
 refine wpAny_bind ?_
 refine wpAny_bind ?_
 first | refine wpAny_bind (wpAny_typeNameOfWhole_keyiter hit.typeIs (wpAny_pure ?_)) | refine wpAny_bind (wpAny_typeNameOf_keyiter hit.typeIs (wpAny_pure ?_))
 refine wpAny_bind (wpAny_fieldsOf ho hd ?_)
 have hown:Builtin.Dict_items.ownsTuple "dict_keyiterator" =false:=by decide
 simp only[hown,Bool.false_eq_true,if_false]
 show wpAny _ _ (if (Value.ref d==Value.none)=true then _ else _) _ _ s
 rw[if_neg (show ¬((Value.ref d==Value.none)=true) from Bool.false_ne_true)]
 refine wpAny_bind (wpAny_pure ?_)
 refine wpAny_bind (wpAny_dictEntries hod hdd ?_)
 rw[if_neg (by rw[hsz];simp)]
 refine wpAny_bind (wpAny_pure ?_)
 refine wpAny_bind (wpAny_dictEpoch hod hdd ?_)
 rw[if_neg (by simp)]
 refine wpAny_pure ?_
 have hge':es.size<=i:=by rw[hsz];exact hge
 simp only[show ¬((i:Int) < 0) from by omega,if_false,Int.toNat_natCast,Array.getElem?_eq_none hge']
 refine wpAny_bind ?_
 first | refine wpAny_bind (wpAny_typeNameOfWhole_keyiter hit.typeIs (wpAny_pure ?_)) | refine wpAny_bind (wpAny_typeNameOf_keyiter hit.typeIs (wpAny_pure ?_))
 show wpAny _ _ (setField (.ref it) 0 .none >>=_) _ _ s
 refine wpAny_bind (wpAny_setField ho hd (by simp) ?_)
 show wpAny _ _ (newExc (.type "StopIteration") [] >>=_) _ _ _
 refine wpAny_bind ?_
 simp only[newExc,newTuple]
 refine wpAny_bind (wpAny_newObj_type ?_ (by size_fits))
 refine wpAny_bind (m:=firstArgMember _ _) (wpAny_of_eq (a:=Value.none) (by first | rfl | (simp only[firstArgMember];rfl)) ?_)
 refine wpAny_newObj_type ?_ (by size_fits)
 simp only[raiseNew]
 refine wpAny_bind (wpAny_handled ?_)
 rw[show A.in1.handled=none from hh]
 refine wpAny_bind (wpAny_pure (wpAny_throw ?_))
 refine wpAny_bind (wpAny_isInstance (T:= "StopIteration") (b:=true) ⟨_,Heap.get?_push_size _ rfl,rfl⟩ isSubtype_stop ?_)
 exact wpAny_pure (hQ _ (((Heap.SameBut.update ..).extBut.push _).push _))
end
theorem Ah3 {κ:Type}{kvs:List (κ×V)}{vs:List (κ×Value)}(h:KV kvs vs):∀{i:Nat}{k:κ}{v:V},kvs[i]?=some (k,v)->∃u,vs[i]?=some (k,u)∧RelV v u:=by
 unfold KV at h
 induction h with
 | nil=>intro i k v e;simp at e
 | @cons a b l₁ l₂ r t ih =>
  intro i k v e
  cases i with
  | zero =>
   simp only[List.getElem?_cons_zero,Option.some.injEq]at e
   subst e
   refine⟨b.2,?_,r.2⟩
   simp only[List.getElem?_cons_zero]
   exact congrArg some (Prod.ext r.1.symm rfl)
  | succ j =>
   simp only[List.getElem?_cons_succ]at e ⊢
   exact ih e
theorem Qw {α β:Type}{G:α->β->Prop}{l₁:List α}{l₂:List β}(h:Paired G l₁ l₂):∀{i:Nat}{a:α},l₁[i]?=some a->∃b,l₂[i]?=some b∧G a b:=by
 induction h with
 | nil=>intro i a e;simp at e
 | @cons a b l₁ l₂ r t ih =>
  intro i a' e
  cases i with
  | zero =>
   simp only[List.getElem?_cons_zero,Option.some.injEq]at e
   subst e
   exact⟨b,rfl,r⟩
  | succ j =>
   simp only[List.getElem?_cons_succ]at e ⊢
   exact ih e
theorem Ae1 {k:Key}{u:Value}(h:Lx k u=true):RelV (kV k) u:=by
 rcases Bx h with⟨i,t,rfl,rfl⟩ | ⟨x,t,rfl,rfl⟩
 ·exact⟨t,rfl⟩
 ·exact⟨t,rfl⟩
section
variable {X:Cx}{pins:List (Addr×Obj)}{σ:St}{H:Hp}{s:Shared}{d:Addr}{o:Obj}
theorem Inv.Z0 {kvs:List (Key×V)}(I:Inv X pins σ H s)(h:H d=some (.frz o (.dK kvs))) :
  (d==sysModules)=false∧s.heap.get? d=some o∧o.ExactDict∧∃(es:Array DictEntry) (ep:Nat) (vs:List (Key×Value)),o.data= .dict es ep∧es.size=kvs.length∧KV kvs vs∧s.heap.DictAt (Bq X.prog X.w) d vs ep:=by
 obtain⟨hd,z,hs,vs,kv,o',es,ep,ho,hx,hdt,r⟩:=I.hok d _ h
 rw[hd]at ho
 cases ho
 refine⟨hs,hd,hx,es,ep,vs,hdt,?_,kv,o,es,hd,hx,hdt,r⟩
 have l1:=r.2.1.length
 have l2:kvs.length=vs.length:=Paired.length kv
 rw[Array.length_toList]at l1
 omega
theorem Inv.Av8 {kvs:List (List Key×V)}(I:Inv X pins σ H s)(h:H d=some (.frz o (.dT kvs))) :
  (d==sysModules)=false∧s.heap.get? d=some o∧o.ExactDict∧∃(es:Array DictEntry) (ep:Nat),o.data= .dict es ep∧es.size=kvs.length ∧
   ∀(i:Nat) (k:List Key) (v:V),kvs[i]?=some (k,v)->∃(en:DictEntry) (q:Addr),es[i]?=some en∧en.key= .ref q∧H q=some (.tup (k.map kV)):=by
 obtain⟨hd,z,hs,xs,pr,o',es,ep,ho,hx,hdt,he,_⟩:=I.hok d _ h
 rw[hd]at ho
 cases ho
 refine⟨hs,hd,hx,es,ep,hdt,?_,fun i k v e=>?_⟩
 ·have l1:es.size=xs.length:=size_of_entries he
  have l2:kvs.length=xs.length:=Paired.length pr
  omega
 ·obtain⟨b,hb,e1,e2,_⟩:=Qw pr e
  have q:=entry_at he i
  rw[hb]at q
  exact⟨_,b.2.1,q,rfl,e2⟩
end
def Itk (d:Addr)(o:Obj)(kvs:List (Key×V)):It :=
 ⟨fun i H=>H d=some (.frz o (.dK kvs))∧i < kvs.length,fun i H x H'=>H'=H∧∃k v,kvs[i]?=some (k,v)∧x=kV k,fun i H=>H d=some (.frz o (.dK kvs))∧kvs.length<=i⟩
def Aj2 (d:Addr)(o:Obj)(kvs:List (List Key×V)):It :=
 ⟨fun i H=>H d=some (.frz o (.dT kvs))∧i < kvs.length,fun i H x H'=>H'=H∧∃(k:List Key) (v:V) (q:Addr),kvs[i]?=some (k,v)∧x= .ref q∧H q=some (.tup (k.map kV)),fun i H=>H d=some (.frz o (.dT kvs))∧kvs.length<=i⟩
def Itd (d:Addr)(o:Obj)(kvs:List (Key×V)):It :=
 ⟨fun i H=>H d=some (.frz o (.dK kvs))∧i < kvs.length,fun i H x H'=>H'=H∧∃k,kvs[i]?=some (k,x),fun i H=>H d=some (.frz o (.dK kvs))∧kvs.length<=i⟩
theorem Jm {o:Obj}{es es':Array DictEntry}{ep ep':Nat}(h:o.data= .dict es ep)(h':o.data= .dict es' ep'):es'=es∧ep'=ep:=by
 rw[h]at h'
 cases h'
 exact⟨rfl,rfl⟩
section
variable {P:Program}{w:World}{K:PySem.W.Frag}{tg:Expr}{d:Addr}{o:Obj}{es:Array DictEntry}{ep:Nat}
theorem Y6 {kvs:List (Key×V)}(it:Addr)(hod:o.data= .dict es ep):Turn P w K tg (Itk d o kvs) [it] it (fun i h=>h.IsKeyIter it d i kvs.length ep) where
 mem:=by simp
 obj:=fun i h st b hb=>by
  have e:b=it:=by simpa using hb
  subst e
  obtain⟨oi,e,c,dd⟩:=st
  exact⟨oi,e,fun v z=>by rw[dd]at z;cases z⟩
 keep:=fun i h h' st k=>st.at fun oi e=>k it (by simp) oi e
 item:=by
  intro X hP hw hK hc i pins s σ H E I hf st hg
  subst hP hw hK
  obtain⟨hd,hi⟩:=hg
  obtain⟨f0,f1,f2,f3,f4,f5⟩:=hf it (by simp)
  obtain⟨hs,hgd,hx,es',ep',vs,hdt,hsz,kv,hm⟩:=I.Z0 hd
  obtain⟨rfl,rfl⟩:=Jm hod hdt
  obtain⟨⟨k,v⟩,hkv⟩:∃p,kvs[i]?=some p:=⟨kvs[i],List.getElem?_eq_getElem hi⟩
  obtain⟨u,hu,ru⟩:=Ah3 kv hkv
  have hl:kvs.length=vs.length:=Paired.length kv
  rw[hl]at st
  refine wpAny_pyNext_dict_item st hm hu fun key h' hkey st' sb=>?_
  have I1:Inv X pins σ H {s with heap:=h'}:=I.turned (t':=s.toks) (fun b ob hb e=>(sb.2 b hb).trans e) f0 f1 f3 f4 f5
  obtain⟨oi,e,c,dd⟩:=id st'
  refine⟨key,rfl,V1 (s:={s with heap:=h'}) e c dd (by decide) ⟨kV k,H,I1,Ae1 (show Lx k key=true from hkey),⟨rfl,k,v,hkv,rfl⟩,?_,fun b hb=>(hf b hb).1⟩⟩
  show h'.IsKeyIter it d (i + 1) kvs.length _
  rw[hl]
  exact st'
 done:=by
  intro X hP hw hK hc i pins s σ H E I hf st hg
  subst hP hw hK
  obtain⟨hd,hi⟩:=hg
  obtain⟨f0,f1,f2,f3,f4,f5⟩:=hf it (by simp)
  obtain⟨hs,hgd,hx,es',ep',vs,hdt,hsz,kv,hm⟩:=I.Z0 hd
  obtain⟨rfl,rfl⟩:=Jm hod hdt
  exact Hr (I.ok.hd hc) st hgd hdt hsz hi fun h' eb=>⟨rfl,I.turned (t':=s.toks) (fun b ob hb e=>eb b ob hb e) f0 f1 f3 f4 f5⟩
 self:=fun A i s Q E st h=>wpAny_pyIter_keyiter st h
theorem Wu {kvs:List (List Key×V)}(it:Addr)(hod:o.data= .dict es ep):Turn P w K tg (Aj2 d o kvs) [it] it (fun i h=>h.IsKeyIter it d i kvs.length ep) where
 mem:=by simp
 obj:=fun i h st b hb=>by
  have e:b=it:=by simpa using hb
  subst e
  obtain⟨oi,e,c,dd⟩:=st
  exact⟨oi,e,fun v z=>by rw[dd]at z;cases z⟩
 keep:=fun i h h' st k=>st.at fun oi e=>k it (by simp) oi e
 item:=by
  intro X hP hw hK hc i pins s σ H E I hf st hg
  subst hP hw hK
  obtain⟨hd,hi⟩:=hg
  obtain⟨f0,f1,f2,f3,f4,f5⟩:=hf it (by simp)
  obtain⟨hs,hgd,hx,es',ep',hdt,hsz,ent⟩:=I.Av8 hd
  obtain⟨rfl,rfl⟩:=Jm hod hdt
  obtain⟨⟨k,v⟩,hkv⟩:∃p,kvs[i]?=some p:=⟨kvs[i],List.getElem?_eq_getElem hi⟩
  obtain⟨en,q,hen,hkey,hq⟩:=ent i k v hkv
  refine JD st hgd hdt hsz hen fun h' st' sb=>?_
  have I1:Inv X pins σ H {s with heap:=h'}:=I.turned (t':=s.toks) (fun b ob hb e=>(sb.2 b hb).trans e) f0 f1 f3 f4 f5
  obtain⟨oi,e,c,dd⟩:=id st'
  exact⟨en.key,rfl,V1 (s:={s with heap:=h'}) e c dd (by decide) ⟨.ref q,H,I1,hkey,⟨rfl,k,v,q,hkv,rfl,hq⟩,st',fun b hb=>(hf b hb).1⟩⟩
 done:=by
  intro X hP hw hK hc i pins s σ H E I hf st hg
  subst hP hw hK
  obtain⟨hd,hi⟩:=hg
  obtain⟨f0,f1,f2,f3,f4,f5⟩:=hf it (by simp)
  obtain⟨hs,hgd,hx,es',ep',hdt,hsz,ent⟩:=I.Av8 hd
  obtain⟨rfl,rfl⟩:=Jm hod hdt
  exact Hr (I.ok.hd hc) st hgd hdt hsz hi fun h' eb=>⟨rfl,I.turned (t':=s.toks) (fun b ob hb e=>eb b ob hb e) f0 f1 f3 f4 f5⟩
 self:=fun A i s Q E st h=>by
  refine wpAny_pyIter_slot st.typeIs F.slot_dict_keyiterator_iter (wpAny_call_entry F.slot_dict_keyiterator_iter st.typeIs F.entry_dict_keyiterator_iter ?_ (F.args_dict_keyiterator_iter_1 _))
  show wpAny _ _ (ret (.ref it)) _ _ s
  exact wpAny_pure ⟨_,rfl, "dict_keyiterator",_,st.typeIs,F.slot_dict_keyiterator_next.lookup,h⟩
theorem Y4 {kvs:List (Key×V)}(it:Addr)(hod:o.data= .dict es ep):Turn P w K tg (Itd d o kvs) [it] it (fun i h=>h.IsValIter it d i kvs.length ep) where
 mem:=by simp
 obj:=fun i h st b hb=>by
  have e:b=it:=by simpa using hb
  subst e
  obtain⟨oi,e,c,dd⟩:=st
  exact⟨oi,e,fun v z=>by rw[dd]at z;cases z⟩
 keep:=fun i h h' st k=>st.at fun oi e=>k it (by simp) oi e
 item:=by
  intro X hP hw hK hc i pins s σ H E I hf st hg
  subst hP hw hK
  obtain⟨hd,hi⟩:=hg
  obtain⟨f0,f1,f2,f3,f4,f5⟩:=hf it (by simp)
  obtain⟨hs,hgd,hx,es',ep',vs,hdt,hsz,kv,hm⟩:=I.Z0 hd
  obtain⟨rfl,rfl⟩:=Jm hod hdt
  obtain⟨⟨k,v⟩,hkv⟩:∃p,kvs[i]?=some p:=⟨kvs[i],List.getElem?_eq_getElem hi⟩
  obtain⟨u,hu,ru⟩:=Ah3 kv hkv
  have hl:kvs.length=vs.length:=Paired.length kv
  rw[hl]at st
  refine wpAny_pyNext_values_item st hm hu fun h' st' sb=>?_
  have I1:Inv X pins σ H {s with heap:=h'}:=I.turned (t':=s.toks) (fun b ob hb e=>(sb.2 b hb).trans e) f0 f1 f3 f4 f5
  obtain⟨oi,e,c,dd⟩:=id st'
  refine⟨u,rfl,V1 (s:={s with heap:=h'}) e c dd (by decide) ⟨v,H,I1,ru,⟨rfl,k,hkv⟩,?_,fun b hb=>(hf b hb).1⟩⟩
  show h'.IsValIter it d (i + 1) kvs.length _
  rw[hl]
  exact st'
 done:=by
  intro X hP hw hK hc i pins s σ H E I hf st hg
  subst hP hw hK
  obtain⟨hd,hi⟩:=hg
  obtain⟨f0,f1,f2,f3,f4,f5⟩:=hf it (by simp)
  obtain⟨hs,hgd,hx,es',ep',vs,hdt,hsz,kv,hm⟩:=I.Z0 hd
  obtain⟨rfl,rfl⟩:=Jm hod hdt
  have hl:kvs.length=vs.length:=Paired.length kv
  rw[hl]at st
  exact wpAny_pyNext_values_end (I.ok.hd hc) st hm (List.getElem?_eq_none (by omega)) fun h' eb=>⟨rfl,I.turned (t':=s.toks) (fun b ob hb e=>eb b ob hb e) f0 f1 f3 f4 f5⟩
 self:=fun A i s Q E st h=>wpAny_pyIter_valiter st h
end
def Ba5 (td:TE):TI:=fun σ H R=>td σ H fun x H1=>∃d o,x= .ref d∧((∃kvs,H1 d=some (.frz o (.dK kvs))∧R (Itk d o kvs) H1)∨∃kvs,H1 d=some (.frz o (.dT kvs))∧R (Aj2 d o kvs) H1)
def Ba2 (td:TE):TI:=fun σ H R=>td σ H fun x H1=>∃d o kvs,x= .ref d∧H1 d=some (.frz o (.dK kvs))∧R (Itd d o kvs) H1
section
variable {X:Cx}{tg e:Expr}{td:TE}{apos cpos:Pos}
theorem Ym (he:PE X e td):PI X tg e (Ba5 td):=by
 intro pins s σ H R I h
 refine thn (he pins s σ H _ I h) fun u s1 ⟨x,H1,I1,rx,d,o,ex,q⟩=>?_
 subst ex
 obtain rfl:u=Value.ref d:=rx
 rcases q with⟨kvs,hd,q⟩ | ⟨kvs,hd,q⟩
 ·obtain⟨hs,hgd,hx,es,ep,vs,hdt,hsz,kv,hm⟩:=I1.Z0 hd
  refine Nk hs hgd hx hdt (Xd (tk:=s1.toks) I1 _ (Y6 _ hdt) ⟨_,Heap.get?_push_size _ rfl,rfl,?_⟩ q)
  rw[hsz] <;>rfl
 ·obtain⟨hs,hgd,hx,es,ep,hdt,hsz,ent⟩:=I1.Av8 hd
  refine Nk hs hgd hx hdt (Xd (tk:=s1.toks) I1 _ (Wu _ hdt) ⟨_,Heap.get?_push_size _ rfl,rfl,?_⟩ q)
  rw[hsz] <;>rfl
theorem Jj (he:PE X e td)(hbase:attributeBase e "values" X.env (eval e X.env)=eval e X.env:=by rfl)(hline:(apos.endLine==cpos.line)=true:=by rfl):PI X tg (.Call (.Attribute e "values" apos) [] [] cpos) (Ba2 td):=by
 intro pins s σ H R I h
 refine wpAny_Call_method (T:= "dict") (id:= "dict.values") hbase rfl hline F.plainAttrs_dict F.slot_dict_values F.type_dict_values (thn (he pins s σ H _ I h) fun u s1 ⟨x,H1,I1,rx,d,o,kvs,ex,hd,q⟩=>?_)
 subst ex
 obtain rfl:u=Value.ref d:=rx
 obtain⟨hs,hgd,hx,es,ep,vs,hdt,hsz,kv,hm⟩:=I1.Z0 hd
 have hl:kvs.length=vs.length:=Paired.length kv
 refine⟨hm.dictOf.typeIs,hm.dictOf.mapOf.noDict,?_⟩
 have I2:Inv X pins σ H1 {s1 with heap:=s1.heap.push {cls:= .type "dict_values",data:= .fields #[.ref d]}}:=I1.kept (t':=s1.toks) fun b ob q=>Heap.get?_push_of_some _ q
 have fin:wpAny (model X.prog X.w) X.A (pyIter (.ref s1.heap.objs.size)) (PIE X pins σ tg R) X.xe {s1 with heap:=s1.heap.push {cls:= .type "dict_values",data:= .fields #[.ref d]}}:=by
  refine wpAny_pyIter_values (d:=d) (knd:=Bq X.prog X.w) ⟨_,Heap.get?_push_size _ rfl,rfl,rfl⟩ (hm.push _) (Xd (tk:=s1.toks) I2 _ (Y4 _ hdt) ⟨_,Heap.get?_push_size _ rfl,rfl,?_⟩ q)
  rw[hl] <;>rfl
 show wpAny _ _ (callWith cpos (.builtin "dict.values") [.ref d] [] []) _ X.xe s1
 exact method_meetsIn F.slot_dict_values F.entry_dict_values rfl (PySem.evalArgs_none ⟨rfl,hm.dictOf.typeIs,F.args_dict_values_1 _,_,meets_dict_values (Bq X.prog X.w) d hs,⟨vs,hm.dictOf⟩,fin⟩)
end
end L2
section
namespace Bits
open PySem PyProof.Rows
end Bits
end
section
namespace TL
open PySem PySem.Builtin PySem.Builtin.Str PySem.StrLaws
end TL
end
namespace L2
open PySem PySem.Spec PyProof.Rows
section
variable {X:Cx}{pins:List (Addr×Obj)}{σ:St}{H:Hp}{s:Shared}{Q:VK}
end
section
variable {X:Cx}
end
section
variable {X:Cx}{o e:Expr}{to te:TE}
end
end L2
namespace L2
open PySem PySem.Spec PyProof.Rows
section
variable {X:Cx}
end
end L2
namespace Att
open PySem PySem.W PySem.Calls PyProof.Rows
section
variable {prog:Program}{w:World}{A:Around}{E:Value->Shared->Prop}{s:Shared}{K:Frag}
end
end Att
namespace L2
open PySem PySem.Spec PyProof.Rows
end L2
namespace L2
open PySem PySem.Spec PyProof.Rows
end L2
namespace L2
open PySem PySem.Spec PyProof.Rows
def inClass (s:Stmt)(j:Nat):Stmt:=match s with
 | .ClassDef _ _ _ body _ _ _ _ _ _ _=>body.getD j (.Pass ⟨0,0,0,0⟩)
 | _=> .Pass ⟨0,0,0,0⟩
def Gp (s:Stmt):Arguments:=match s with
 | .FunctionDef _ a _ _ _ _ _ _ _ _=>a
 | _=>{posonlyargs:=[],args:=[],vararg:=none,kwonlyargs:=[],kw_defaults:=[],kwarg:=none,defaults:=[]}
def Eo (s:Stmt):List Stmt:=match s with
 | .FunctionDef _ _ b _ _ _ _ _ _ _=>b
 | _=>[]
def Ag (s:Stmt):Scope:=match s with
 | .FunctionDef _ _ _ _ _ _ sc _ _ _=>sc
 | _=>{kind:= .function,names:=[],isGenerator:=false,isCoroutine:=false}
abbrev CX0:CXT:=fun _ _ _ _ _ _=>False
abbrev E0:XK:=fun _ _ _=>False
theorem Yq {X:Cx}:Passes CX0 X E0:=fun _ _ _ _ _ _ _ h=>h.elim
structure Fun (K:PySem.W.Frag)(x qual:Str)(st:Stmt)(f:Addr)(fd:FuncData):Prop where
 ex:∃(oc:Value) (od:Option Addr) (kV doc pm:Value) (an:Option Addr) (cdv ct:Value) (osl:Array (Option Value)),
  fd=PySem.W.fnOf x qual (Gp st) (Eo st) (Ag st) .none kV doc pm an cdv ct∧K.lookup f=some ⟨oc,od,.func fd,osl⟩∧PySem.W.codeIn K cdv qual=true
 kp:PySem.W.keepIn K (.ref f)=true
section
variable {P:Program}{w:World}{K:PySem.W.Frag}{mg:Str->Option Value}{base:Heap}
theorem Fun.ok {x qual:Str}{st:Stmt}{f:Addr}{fd:FuncData}{N ps:List Str}{k:Nat}{sp:Sp}(F:Fun K x qual st f fd)(S:Aj N ps (Ag st))(len:∀vs H Q E,sp vs H Q E->vs.length=ps.length)
  (hbody:∀(cdv:Value) (A:Around) (outer:List Env) (s:Shared) (H:Hp) (vs:List V) (Q:VK) (E:XK),CJ k (A.deeper (envOfC qual (Ag st) s.heap.objs.size f cdv))->sp vs H Q E ->
   ∃t,PSs (XJ CX0 P w K mg base N qual (Ag st) f cdv A outer s H E).nox (Eo st) t∧t {nx:=fun _ H'=>Q .non H',rt:=Q} (start N vs) H):Ay P w K mg base CX0 (k + 1) f fd ps sp:=by
 obtain⟨oc,od,kV,doc,pm,an,cdv,ct,osl,rfl,lk,hcd⟩:=F.ex
 refine Ar0 lk hcd S len fun A outer s H vs Q E hr hsp=>?_
 obtain⟨t,h,q⟩:=hbody cdv A outer s H vs Q E hr hsp
 exact⟨t,h.nox,q⟩
theorem Fun.binds {x qual:Str}{st:Stmt}{f:Addr}{fd:FuncData}{ps:List Str}(F:Fun K x qual st f fd)
  (h:∀(kV doc pm:Value) (an:Option Addr) (cdv ct:Value) (us:List Value),us.length=ps.length->bindArgs (PySem.W.fnOf x qual (Gp st) (Eo st) (Ag st) .none kV doc pm an cdv ct) ⟨us,[]⟩=pure (ps.zip us)):Binds K fd ps []:=by
 obtain⟨oc,od,kV,doc,pm,an,cdv,ct,osl,rfl,lk,hcd⟩:=F.ex
 exact .all (h kV doc pm an cdv ct)
theorem Ai1 {x qual:Str}{st:Stmt}{f:Addr}{oc:Value}{od an:Option Addr}{osl:Array (Option Value)}{kV doc pm cdv ct:Value}(l:K.lookup f=some ⟨oc,od,.func (PySem.W.fnOf x qual (Gp st) (Eo st) (Ag st) .none kV doc pm an cdv ct),osl⟩)
  (c:PySem.W.codeIn K cdv qual=true) (k:PySem.W.keepIn K (.ref f)=true):Fun K x qual st f (PySem.W.fnOf x qual (Gp st) (Eo st) (Ag st) .none kV doc pm an cdv ct):=⟨⟨oc,od,kV,doc,pm,an,cdv,ct,osl,rfl,l,c⟩,k⟩
end
section
variable {X:Cx}
theorem pv (i:Nat){x:Str}{pos:Pos}(hN:X.N[i]?=some x:=by rfl)(hv:Vis X.env.scope x:=by first | exact Or.inl rfl | exact Or.inr (Or.inl rfl) | exact Or.inr (Or.inr rfl))(hd:(x==("__debug__" :Str))=false:=by decide)
  (hcd:(x==("__classdict__" :Str))=false:=by decide):PE X (.Name x pos) (PX i):=Au5 hN hv hd hcd
end
theorem Be2 {c A B:Prop} [Decidable c] (h1:c->A)(h2:¬c->B):if c then A else B:=by
 by_cases h:c
 ·rw[if_pos h]
  exact h1 h
 ·rw[if_neg h]
  exact h2 h
section
variable {κ:Type} [DecidableEq κ]
end
end L2
section
namespace L2
open PySem PySem.Spec PyProof.Rows
open PySem.W (WData Codec OpenSpec Well WellAll ReadsW ReadsAllW)
mutual
inductive Dw (K:PySem.W.Frag)(H:Hp):V->WData->Prop
 | non:Dw K H .non .none
 | bl (b:Bool):Dw K H (.bl b) (.bool b)
 | int (i:Int):Dw K H (.int i) (.int i)
 | str (x:Str):Dw K H (.str x) (.str x)
 | byt (b:Array UInt8):Dw K H (.byt b) (.bytes b.toList)
 | lst {a:Addr} {xs:List V} {ds:List WData}:SqL K H a xs->Je K H xs ds->Dw K H (.ref a) (.list ds)
 | tup {a:Addr} {xs:List V} {ds:List WData}:SqT K H a xs->Je K H xs ds->Dw K H (.ref a) (.tuple ds)
inductive Je (K:PySem.W.Frag)(H:Hp):List V->List WData->Prop
 | nil:Je K H [] []
 | cons {v:V} {vs:List V} {d:WData} {ds:List WData}:Dw K H v d->Je K H vs ds->Je K H (v::vs) (d::ds)
end
theorem YC {K:PySem.W.Frag}{H:Hp}:∀ns:List Int,Je K H (ns.map V.int) (ns.map WData.int)
 | []=> .nil
 | n::r=> .cons (.int n) (YC r)
theorem Yw {K:PySem.W.Frag}{H:Hp}:∀(ns:List Int)(xs:List V),Je K H xs (ns.map WData.int)->xs=ns.map V.int
 | [],xs,h=>by
  cases h
  rfl
 | n::r,xs,h=>by
  cases h with
  | cons h1 h2 =>
   cases h1
   rw[Yw r _ h2] <;>rfl
section
variable {P:Program}{w:World}{K:PySem.W.Frag}{H:Hp}{h:Heap}{R:PySem.W.WRecords}{cl:Str->Option Addr}
theorem As9 {a:Addr}{xs:List V}(hok:HOk P w H h)(KX:K.In h)(q:SqL K H a xs):∃(its:List Value)(o:Obj)(n:Nat),Vals xs its∧h.get? a=some o∧o.cls= .type "list" ∧o.data= .seq its.toArray n:=by
 rcases q with q | ⟨o,its,n,e,hc,_,hd,_,hv⟩
 ·obtain⟨_,its,n,hv,e⟩:=(show Cp P w H h a (.lst xs) from q.ok hok)
  exact⟨its,_,n,hv,e,rfl,rfl⟩
 ·exact⟨its.toList,o,n,hv,KX _ _ e,hc,by simp[hd]⟩
theorem As8 {a:Addr}{xs:List V}(hok:HOk P w H h)(KX:K.In h)(q:SqT K H a xs):∃(its:List Value)(o:Obj)(n:Nat),Vals xs its∧h.get? a=some o∧o.cls= .type "tuple" ∧o.data= .seq its.toArray n:=by
 rcases q with q | ⟨o,its,n,e,hc,hd,_,hv⟩
 ·obtain⟨_,its,hv,o,e,hc,n,hd⟩:=(show Cp P w H h a (.tup xs) from q.ok hok)
  exact⟨its,o,n,hv,e,hc,hd⟩
 ·exact⟨its.toList,o,n,hv,KX _ _ e,hc,by simp[hd]⟩
mutual
theorem Dw.reads (hok:HOk P w H h)(KX:K.In h):∀(d:WData)(v:V)(u:Value),Dw K H v d->RelV v u->∃as,ReadsW R cl h u d as
 | .none,_,_,x,r=>by
  cases x
  cases r
  exact⟨_,ReadsW.none⟩
 | .bool b,_,_,x,r=>by
  cases x
  cases r
  exact⟨_,ReadsW.bool b⟩
 | .int i,_,_,x,r=>by
  cases x
  obtain⟨t,rfl⟩:=r
  exact⟨_,ReadsW.int i t⟩
 | .str s,_,_,x,r=>by
  cases x
  obtain⟨t,rfl⟩:=r
  exact⟨_,ReadsW.str s t⟩
 | .bytes b,_,_,x,r=>by
  cases x
  obtain⟨t,rfl⟩:=r
  exact⟨_,ReadsW.bytes _ t⟩
 | .list ds,_,_,x,r=>by
  cases x with
  | lst hs ha =>
   cases r
   obtain⟨its,o,n,rv,ho,hc,hd⟩:=As9 hok KX hs
   obtain⟨as,hr⟩:=Dw.readsAll hok KX ds _ its ha rv
   exact⟨_,ReadsW.list ho hc hd hr⟩
 | .tuple ds,_,_,x,r=>by
  cases x with
  | tup hs ha =>
   cases r
   obtain⟨its,o,n,rv,ho,hc,hd⟩:=As8 hok KX hs
   obtain⟨as,hr⟩:=Dw.readsAll hok KX ds _ its ha rv
   exact⟨_,ReadsW.tuple ho hc hd hr⟩
 | .float _,_,_,x,_=>by cases x
 | .dict _,_,_,x,_=>by cases x
 | .bytearray _,_,_,x,_=>by cases x
 | .set _,_,_,x,_=>by cases x
 | .frozenset _,_,_,x,_=>by cases x
 | .obj _ _,_,_,x,_=>by cases x
theorem Dw.readsAll (hok:HOk P w H h)(KX:K.In h):∀(ds:List WData)(vs:List V)(us:List Value),Je K H vs ds->Vals vs us->∃as,ReadsAllW R cl h us ds as
 | [],_,_,x,r=>by
  cases x
  cases r
  exact⟨_,ReadsAllW.nil⟩
 | d::ds,_,_,x,r=>by
  cases x with
  | cons h1 h2 =>
   cases r with
   | cons r1 r2 =>
    obtain⟨as,q1⟩:=Dw.reads hok KX d _ _ h1 r1
    obtain⟨bs,q2⟩:=Dw.readsAll hok KX ds _ _ h2 r2
    exact⟨_,ReadsAllW.cons q1 q2⟩
end
end
mutual
def plW:WData->Bool
 | .none=>true
 | .bool _=>true
 | .int _=>true
 | .str _=>true
 | .bytes _=>true
 | .list xs=>Om xs
 | .tuple xs=>Om xs
 | _=>false
def Om:List WData->Bool
 | []=>true
 | x::r=>plW x&&Om r
end
theorem Vm {α:Type}{f:α->WData}(h:∀a,plW (f a)=true):∀l:List α,Om (l.map f)=true
 | []=>rfl
 | x::r=>by
  show(plW (f x)&&Om (r.map f))=true
  rw[h x,Vm h r] <;>rfl
theorem Ik:∀(c:Codec)(a:c.denote),plW (c.enc a)=true
 | .unit,_=>rfl
 | .bool,_=>rfl
 | .int _ _,_=>rfl
 | .nat _ _,_=>rfl
 | .u8,_=>rfl
 | .bytes _ _,_=>rfl
 | .text _ _ _ _,_=>rfl
 | .list _ _ c,a=>Vm (fun x=>Ik c x) a
 | .pair c d,a=>by
  show(plW (c.enc a.1)&&(plW (d.enc a.2)&&true))=true
  rw[Ik c a.1,Ik d a.2] <;>rfl
 | .triple c d e,a=>by
  show(plW (c.enc a.1)&&(plW (d.enc a.2.1)&&(plW (e.enc a.2.2)&&true)))=true
  rw[Ik c a.1,Ik d a.2.1,Ik e a.2.2] <;>rfl
 | .option c,none=>rfl
 | .option c,some x=>Ik c x
theorem Sq:∀(cs:List Codec)(a:Codec.denoteAll cs),Om (Codec.encAll cs a)=true
 | [],_=>rfl
 | c::cs,a=>by
  show(plW (c.enc a.1)&&Om (Codec.encAll cs a.2))=true
  rw[Ik c a.1,Sq cs a.2] <;>rfl
theorem JM:∀{xs:List WData}{d:WData},d∈xs->d.weight<=WData.weightAll xs
 | [],d,h=>absurd h (by simp)
 | x::r,d,h=>by
  show d.weight<=x.weight + 1 + WData.weightAll r
  rcases List.mem_cons.mp h with e | m
  ·rw[e]
   omega
  ·have z:=JM m
   omega
def toV:Value->V
 | .none=> .non
 | .bool b=> .bl b
 | .int i _=> .int i
 | .str x _=> .str x
 | .bytes b _=> .byt b
 | .ref a=> .ref a
 | _=> .non
def OkU (A:List Addr):Value->Prop
 | .none=>True
 | .bool _=>True
 | .int _ _=>True
 | .str _ _=>True
 | .bytes _ _=>True
 | .ref a=>a∈A
 | _=>False
theorem OkU.mono {A B:List Addr}(h:∀a∈A,a∈B):∀{u:Value},OkU A u->OkU B u:=fun {u} x=>by
 cases u with
 | ref a=>exact h a x
 | none=>trivial
 | bool b=>trivial
 | int i t=>trivial
 | str s t=>trivial
 | bytes b t=>trivial
 | _=>exact False.elim x
theorem Ae0 {A:List Addr}{u:Value}(x:OkU A u):RelV (toV u) u:=by
 cases u with
 | ref a=>rfl
 | none=>rfl
 | bool b=>rfl
 | int i t=>exact⟨t,rfl⟩
 | str s t=>exact⟨t,rfl⟩
 | bytes b t=>exact⟨t,rfl⟩
 | _=>exact False.elim x
theorem GC {A:List Addr}:∀{vs:List Value},(∀u∈vs,OkU A u)->Vals (vs.map toV) vs
 | [],_=> .nil
 | u::r,h=> .cons (Ae0 (h u (List.mem_cons_self ..))) (GC fun x hx=>h x (List.mem_cons_of_mem _ hx))
def HF (h:Heap)(A:List Addr)(a:Addr):Prop:=∃vs:List Value,vs.length<=sizeLine∧(∀u∈vs,OkU A u) ∧
 (h.get? a=some {cls:= .type "list",data:= .seq vs.toArray}∨h.get? a=some {cls:= .type "tuple",data:= .seq vs.toArray})
theorem HF.mono {h:Heap}{A B:List Addr}{a:Addr}(k:∀a∈A,a∈B)(x:HF h A a):HF h B a:=by
 obtain⟨vs,h1,h2,h3⟩:=x
 exact⟨vs,h1,fun u hu=>(h2 u hu).mono k,h3⟩
theorem Gj {P:Params}{h:Heap}:∀{vs:List Value}{ds:List WData},WellAll P h vs ds->vs.length=ds.length
 | _,_,.nil=>rfl
 | _,_,.cons _ b=>by
  show _ + 1=_ + 1
  rw[Gj b]
theorem RZ {P:Params}{h:Heap}{v:Value}{ds:List WData}(x:Well P h v (.list ds)):∃(a:Addr)(vs:List Value),v= .ref a∧h.get? a=some {cls:= .type "list",data:= .seq vs.toArray}∧WellAll P h vs ds:=by
 cases x with
 | list ho hall=>exact⟨_,_,rfl,ho,hall⟩
theorem PB {P:Params}{h:Heap}{v:Value}{ds:List WData}(x:Well P h v (.tuple ds)):∃(a:Addr)(vs:List Value),v= .ref a∧h.get? a=some {cls:= .type "tuple",data:= .seq vs.toArray}∧WellAll P h vs ds:=by
 cases x with
 | tuple ho hall=>exact⟨_,_,rfl,ho,hall⟩
theorem R0 {P:Params}{h:Heap}{us:List Value}{d:WData}{ds:List WData}(x:WellAll P h us (d::ds)):∃(v:Value)(vs:List Value),us=v::vs∧Well P h v d∧WellAll P h vs ds:=by
 cases x with
 | cons a b=>exact⟨_,_,rfl,a,b⟩
theorem Yt {n:Nat}(h:n<=1048576):n<=sizeLine:=Nat.le_trans h (by decide)
section
variable {P:Params}{h:Heap}
mutual
theorem Aj1:∀(d:WData)(v:Value),Well P h v d->plW d=true->d.weight<=1048576->∃A:List Addr,OkU A v∧∀a∈A,HF h A a
 | .none,_,x,_,_=>by
  cases x
  exact⟨[],trivial,fun a m=>absurd m (by simp)⟩
 | .bool b,_,x,_,_=>by
  cases x
  exact⟨[],trivial,fun a m=>absurd m (by simp)⟩
 | .int i,_,x,_,_=>by
  cases x
  exact⟨[],trivial,fun a m=>absurd m (by simp)⟩
 | .str s,_,x,_,_=>by
  cases x
  exact⟨[],trivial,fun a m=>absurd m (by simp)⟩
 | .bytes b,_,x,_,_=>by
  cases x
  exact⟨[],trivial,fun a m=>absurd m (by simp)⟩
 | .list ds,_,x,p,z=>by
  obtain⟨a,vs,rfl,ho,hall⟩:=RZ x
  have z2:WData.weightAll ds<=1048576:=z
  obtain⟨A,h1,h2⟩:=Mi ds _ hall p fun d hd=>Nat.le_trans (JM hd) z2
  have k:∀b∈A,b∈a::A:=fun b hb=>List.mem_cons_of_mem _ hb
  refine⟨a::A,List.mem_cons_self ..,fun b hb=>?_⟩
  rcases List.mem_cons.mp hb with e | m
  ·rw[e]
   exact⟨vs,Yt (by rw[Gj hall];exact Nat.le_trans (PySem.W.length_le_weightAllW ds) z2),fun u hu=>(h1 u hu).mono k,.inl ho⟩
  ·exact(h2 b m).mono k
 | .tuple ds,_,x,p,z=>by
  obtain⟨a,vs,rfl,ho,hall⟩:=PB x
  have z2:WData.weightAll ds<=1048576:=z
  obtain⟨A,h1,h2⟩:=Mi ds _ hall p fun d hd=>Nat.le_trans (JM hd) z2
  have k:∀b∈A,b∈a::A:=fun b hb=>List.mem_cons_of_mem _ hb
  refine⟨a::A,List.mem_cons_self ..,fun b hb=>?_⟩
  rcases List.mem_cons.mp hb with e | m
  ·rw[e]
   exact⟨vs,Yt (by rw[Gj hall];exact Nat.le_trans (PySem.W.length_le_weightAllW ds) z2),fun u hu=>(h1 u hu).mono k,.inr ho⟩
  ·exact(h2 b m).mono k
 | .float _,_,_,p,_=>Bool.noConfusion (show false=true from p)
 | .dict _,_,_,p,_=>Bool.noConfusion (show false=true from p)
 | .bytearray _,_,_,p,_=>Bool.noConfusion (show false=true from p)
 | .set _,_,_,p,_=>Bool.noConfusion (show false=true from p)
 | .frozenset _,_,_,p,_=>Bool.noConfusion (show false=true from p)
 | .obj _ _,_,_,p,_=>Bool.noConfusion (show false=true from p)
theorem Mi:∀(ds:List WData)(vs:List Value),WellAll P h vs ds->Om ds=true->(∀d∈ds,d.weight<=1048576)->∃A:List Addr,(∀u∈vs,OkU A u)∧∀a∈A,HF h A a
 | [],_,x,_,_=>by
  cases x
  exact⟨[],fun u m=>absurd m (by simp),fun a m=>absurd m (by simp)⟩
 | d::ds,_,x,p,z=>by
  obtain⟨v,vs,rfl,x1,x2⟩:=R0 x
  have q:plW d=true∧Om ds=true:=Bool.and_eq_true_iff.mp p
  obtain⟨A,a1,a2⟩:=Aj1 d v x1 q.1 (z d (List.mem_cons_self ..))
  obtain⟨B,b1,b2⟩:=Mi ds vs x2 q.2 fun e he=>z e (List.mem_cons_of_mem _ he)
  have kA:∀b∈A,b∈A++B:=fun b hb=>List.mem_append.mpr (.inl hb)
  have kB:∀b∈B,b∈A++B:=fun b hb=>List.mem_append.mpr (.inr hb)
  refine⟨A++B,fun u hu=>?_,fun b hb=>?_⟩
  ·rcases List.mem_cons.mp hu with e | m
   ·rw[e]
    exact a1.mono kA
   ·exact(b1 u m).mono kB
  ·rcases List.mem_append.mp hb with m | m
   ·exact(a2 b m).mono kA
   ·exact(b2 b m).mono kB
end
end
def Ao0 (o:Obj):Option HO:=match o.data with
 | .seq vs _=>if (o.cls==Value.type "list")=true then some (.frz o (.lst (vs.toList.map toV))) else some (.frz o (.tup (vs.toList.map toV)))
 | _=>none
def Gz (K:PySem.W.Frag)(h:Heap)(A:List Addr):Hp:=fun b=>if b∈A then(if (K.lookup b).isNone=true then(h.get? b).bind Ao0 else none) else none
def Ar5 (H:Hp):Prop:=∀b,H b=none∨∃o u,H b=some (.frz o u)
theorem VR (vs:List Value):Ao0 {cls:= .type "list",data:= .seq vs.toArray}=some (.frz {cls:= .type "list",data:= .seq vs.toArray} (.lst (vs.map toV))):=by
 show(if (Value.type "list" ==Value.type "list")=true then some (HO.frz {cls:= .type "list",data:= .seq vs.toArray} (.lst (vs.toArray.toList.map toV))) else some (HO.frz {cls:= .type "list",data:= .seq vs.toArray} (.tup (vs.toArray.toList.map toV))))=_
 rw[if_pos (beq_self_eq_true _)]
theorem VP (vs:List Value):Ao0 {cls:= .type "tuple",data:= .seq vs.toArray}=some (.frz {cls:= .type "tuple",data:= .seq vs.toArray} (.tup (vs.map toV))):=by
 show(if (Value.type "tuple" ==Value.type "list")=true then some (HO.frz {cls:= .type "tuple",data:= .seq vs.toArray} (.lst (vs.toArray.toList.map toV))) else some (HO.frz {cls:= .type "tuple",data:= .seq vs.toArray} (.tup (vs.toArray.toList.map toV))))=_
 rw[if_neg (by decide)]
section
variable {P:Program}{w:World}{K:PySem.W.Frag}{h:Heap}{A:List Addr}
theorem Pz {b:Addr}{o:Obj}(hb:b∈A)(hk:K.lookup b=none)(e:h.get? b=some o):Gz K h A b=Ao0 o:=by
 unfold Gz
 rw[if_pos hb,hk,if_pos (show(none:Option Obj).isNone=true from rfl),e] <;>rfl
theorem Am8 {b:Addr}{u:HO}(q:Gz K h A b=some u):b∈A∧K.lookup b=none:=by
 unfold Gz at q
 by_cases hb:b∈A
 ·rw[if_pos hb]at q
  cases hk:K.lookup b with
  | none=>exact⟨hb,rfl⟩
  | some o =>
   rw[hk,if_neg (by simp)]at q
   cases q
 ·rw[if_neg hb]at q
  cases q
theorem Mh (ar:∀a∈A,HF h A a){b:Addr}{u:HO}(q:Gz K h A b=some u):K.lookup b=none∧∃vs:List Value,vs.length<=sizeLine∧(∀u∈vs,OkU A u) ∧
  ((h.get? b=some {cls:= .type "list",data:= .seq vs.toArray}∧u= .frz {cls:= .type "list",data:= .seq vs.toArray} (.lst (vs.map toV))) ∨
  (h.get? b=some {cls:= .type "tuple",data:= .seq vs.toArray}∧u= .frz {cls:= .type "tuple",data:= .seq vs.toArray} (.tup (vs.map toV)))):=by
 obtain⟨hb,hk⟩:=Am8 q
 obtain⟨vs,h1,h2,h3⟩:=ar b hb
 refine⟨hk,vs,h1,h2,?_⟩
 rcases h3 with e | e
 ·rw[Pz hb hk e,VR]at q
  exact .inl ⟨e,(Option.some.inj q).symm⟩
 ·rw[Pz hb hk e,VP]at q
  exact .inr ⟨e,(Option.some.inj q).symm⟩
theorem Aa2 (ar:∀a∈A,HF h A a):Ar5 (Gz K h A):=fun b=>by
 cases q:Gz K h A b with
 | none=>exact .inl rfl
 | some u =>
  obtain⟨_,vs,_,_,⟨_,e⟩ | ⟨_,e⟩⟩:=Mh ar q
  ·exact .inr ⟨_,_,by rw[e]⟩
  ·exact .inr ⟨_,_,by rw[e]⟩
theorem Aq2 (ar:∀a∈A,HF h A a):HOk P w (Gz K h A) h:=fun b u q=>by
 obtain⟨_,vs,h1,h2,⟨e,rfl⟩ | ⟨e,rfl⟩⟩:=Mh ar q
 ·exact⟨e,by rw[List.length_map];exact h1,vs,_,GC h2,e⟩
 ·exact⟨e,by rw[List.length_map];exact h1,vs,GC h2,_,e,rfl,_,rfl⟩
theorem Pj {c c':Value}{vs us:List Value}(e:(some {cls:=c,data:= .seq vs.toArray}:Option Obj)=some {cls:=c',data:= .seq us.toArray}):c=c'∧vs=us:=by
 have e1:=Option.some.inj e
 have e2:c=c':=congrArg Obj.cls e1
 have e3:Data.seq vs.toArray=Data.seq us.toArray:=congrArg Obj.data e1
 injection e3 with e4
 refine⟨e2,?_⟩
 have e5:=congrArg Array.toList e4
 simpa using e5
theorem Be7 (KX:K.In h)(ar:∀a∈A,HF h A a){a:Addr}{vs:List Value}(ha:a∈A)(e:h.get? a=some {cls:= .type "list",data:= .seq vs.toArray}):(∀u∈vs,OkU A u)∧SqL K (Gz K h A) a (vs.map toV):=by
 obtain⟨us,h1,h2,h3⟩:=ar a ha
 have hu:us=vs:=by
  rcases h3 with q | q
  ·rw[e]at q
   exact(Pj q).2.symm
  ·rw[e]at q
   exact absurd (Value.type.inj (Pj q).1) (by decide)
 subst hu
 refine⟨h2,?_⟩
 cases hk:K.lookup a with
 | none=>exact .inl (.inr ⟨_,by rw[Pz ha hk e,VR]⟩)
 | some o =>
  have e2:=KX a o hk
  rw[e]at e2
  obtain rfl:=Option.some.inj e2
  exact .inr ⟨_,us.toArray,_,hk,rfl,rfl,rfl,by rw[List.size_toArray];exact h1,by simpa using GC h2⟩
theorem Be6 (KX:K.In h)(ar:∀a∈A,HF h A a){a:Addr}{vs:List Value}(ha:a∈A)(e:h.get? a=some {cls:= .type "tuple",data:= .seq vs.toArray}):(∀u∈vs,OkU A u)∧SqT K (Gz K h A) a (vs.map toV):=by
 obtain⟨us,h1,h2,h3⟩:=ar a ha
 have hu:us=vs:=by
  rcases h3 with q | q
  ·rw[e]at q
   exact absurd (Value.type.inj (Pj q).1) (by decide)
  ·rw[e]at q
   exact(Pj q).2.symm
 subst hu
 refine⟨h2,?_⟩
 cases hk:K.lookup a with
 | none=>exact .inl (.inr ⟨_,by rw[Pz ha hk e,VP]⟩)
 | some o =>
  have e2:=KX a o hk
  rw[e]at e2
  obtain rfl:=Option.some.inj e2
  exact .inr ⟨_,us.toArray,_,hk,rfl,rfl,by rw[List.size_toArray];exact h1,by simpa using GC h2⟩
mutual
theorem Ax0 {Pm:Params}(KX:K.In h)(ar:∀a∈A,HF h A a):∀(d:WData)(v:Value),Well Pm h v d->plW d=true->OkU A v->Dw K (Gz K h A) (toV v) d
 | .none,_,x,_,_=>by
  cases x
  exact .non
 | .bool b,_,x,_,_=>by
  cases x
  exact .bl b
 | .int i,_,x,_,_=>by
  cases x
  exact .int i
 | .str s,_,x,_,_=>by
  cases x
  exact .str s
 | .bytes b,_,x,_,_=>by
  cases x
  have z:=Dw.byt (K:=K) (H:=Gz K h A) b.toArray
  exact z
 | .list ds,_,x,p,hu=>by
  obtain⟨a,vs,rfl,ho,hall⟩:=RZ x
  obtain⟨h2,hs⟩:=Be7 KX ar hu ho
  exact .lst hs (Ux KX ar ds _ hall p h2)
 | .tuple ds,_,x,p,hu=>by
  obtain⟨a,vs,rfl,ho,hall⟩:=PB x
  obtain⟨h2,hs⟩:=Be6 KX ar hu ho
  exact .tup hs (Ux KX ar ds _ hall p h2)
 | .float _,_,_,p,_=>Bool.noConfusion (show false=true from p)
 | .dict _,_,_,p,_=>Bool.noConfusion (show false=true from p)
 | .bytearray _,_,_,p,_=>Bool.noConfusion (show false=true from p)
 | .set _,_,_,p,_=>Bool.noConfusion (show false=true from p)
 | .frozenset _,_,_,p,_=>Bool.noConfusion (show false=true from p)
 | .obj _ _,_,_,p,_=>Bool.noConfusion (show false=true from p)
theorem Ux {Pm:Params}(KX:K.In h)(ar:∀a∈A,HF h A a):∀(ds:List WData)(vs:List Value),WellAll Pm h vs ds->Om ds=true->(∀u∈vs,OkU A u)->Je K (Gz K h A) (vs.map toV) ds
 | [],_,x,_,_=>by
  cases x
  exact .nil
 | d::ds,_,x,p,hu=>by
  obtain⟨v,vs,rfl,x1,x2⟩:=R0 x
  have q:plW d=true∧Om ds=true:=Bool.and_eq_true_iff.mp p
  exact .cons (Ax0 KX ar d v x1 q.1 (hu _ (List.mem_cons_self ..))) (Ux KX ar ds vs x2 q.2 fun u m=>hu u (List.mem_cons_of_mem _ m))
end
end
theorem Q7 {ds:List WData}(h:WData.layableAll ds=true):∀d∈ds,d.weight<=1048576:=fun d hd =>
 (PySem.W.layableW_iff.mp (List.all_eq_true.mp h d hd)).2.2
theorem Rh:∀(cs:List Codec)(a:Codec.denoteAll cs),(Codec.encAll cs a).length=cs.length
 | [],_=>rfl
 | c::cs,a=>by
  show(Codec.encAll cs a.2).length + 1=cs.length + 1
  rw[Rh cs a.2]
end L2
end
namespace Nm
open PySem PySem.Spec PyProof.Rows L2
abbrev VS:=Vbnlag.State
structure Tab where
 c:Addr
 P:Addr
 pos:Pos
 qual:Str
structure Cl where
 code:Addr
 work:Addr
 name:Addr
 act:Addr
 kept:Addr
 l1:Addr
 l2:Addr
 a1:Addr
 a2:Addr
 s1:Addr
 s2:Addr
 m1:Addr
 m2:Addr
abbrev Cl.tl (C:Cl):Tab:=⟨C.l1,C.l2,⟨134,25,134,66⟩, "latest_act.<locals>.<lambda>"⟩
abbrev Cl.ta (C:Cl):Tab:=⟨C.a1,C.a2,⟨153,29,153,81⟩, "asked_acts.<locals>.<lambda>"⟩
abbrev Cl.ts (C:Cl):Tab:=⟨C.s1,C.s2,⟨177,32,177,73⟩, "standing_by_age.<locals>.<lambda>"⟩
abbrev Cl.tm (C:Cl):Tab:=⟨C.m1,C.m2,⟨265,67,265,86⟩, "shortest_way.<locals>.<lambda>"⟩
def Cl.tabs (C:Cl):List Tab:=[C.tl,C.ta,C.ts,C.tm]
structure Cl.Apart (C:Cl):Prop where
 la:C.l2≠C.a2
 ls:C.l2≠C.s2
 lm:C.l2≠C.m2
 as:C.a2≠C.s2
 am:C.a2≠C.m2
 sm:C.s2≠C.m2
theorem Cl.Apart.sep {C:Cl}(A:C.Apart){t:Tab}(h:t∈C.tabs):∀t2∈C.tabs,t2.P=t.P->t2=t:=by
 intro t2 h2 e
 unfold Cl.tabs at h h2
 simp only[List.mem_cons,List.not_mem_nil,or_false]at h h2
 rcases h with rfl | rfl | rfl | rfl <;>rcases h2 with rfl | rfl | rfl | rfl <;>first | rfl | exact absurd e A.la | exact absurd e A.ls | exact absurd e A.lm | exact absurd e A.as | exact absurd e A.am | exact absurd e A.sm | exact absurd e.symm A.la | exact absurd e.symm A.ls | exact absurd e.symm A.lm | exact absurd e.symm A.as | exact absurd e.symm A.am | exact absurd e.symm A.sm
def Ek (o:Obj)(qual:Str):Prop:=∃vs t,o.data= .fields vs∧vs[1]?=some (.str qual t)
def TabOk (H:Hp)(t:Tab):Prop:=∃ps,H t.P=some (.tbl ps)∧(ps= #[]∨∃c oc,ps= #[rawInt t.pos.line,rawInt t.pos.col,.ref c]∧H c=some (.frz oc (.own 0))∧Ek oc t.qual)
def Jx (C:Cl)(H:Hp):Prop:=∀t∈C.tabs,TabOk H t
structure Ext (C:Cl)(H H':Hp):Prop where
 keep:∀b o,H b=some o->H' b=some o∨∃ps ps',o= .tbl ps∧H' b=some (.tbl ps')
 tab:Jx C H->Jx C H'
section
variable {C:Cl}{H H1 H2 H':Hp}{a b l p:Addr}{o:HO}
theorem Ext.refl (C:Cl)(H:Hp):Ext C H H:=⟨fun _ _ h=> .inl h,fun h=>h⟩
theorem Ext.trans (e:Ext C H H1)(f:Ext C H1 H2):Ext C H H2:=by
 refine⟨fun b o h=>?_,fun h=>f.tab (e.tab h)⟩
 rcases e.keep b o h with q | ⟨ps,ps',rfl,q⟩
 ·exact f.keep b o q
 ·rcases f.keep b _ q with z | ⟨_,ps2,_,z⟩
  ·exact .inr ⟨ps,ps',rfl,z⟩
  ·exact .inr ⟨ps,ps2,rfl,z⟩
theorem Ext.free (e:Ext C H H')(h:H' l=Option.none):H l=Option.none:=by
 cases q:H l with
 | none=>rfl
 | some o =>
  rcases e.keep l o q with z | ⟨_,_,_,z⟩ <;>(rw[h]at z;cases z)
theorem Ext.ins (e:Ext C H H'){c dx:Addr}{fs:List (Str×V)}(h:H a=some (.ins c dx fs)):H' a=some (.ins c dx fs):=by
 rcases e.keep a _ h with z | ⟨_,_,z,_⟩
 ·exact z
 ·cases z
theorem Ext.lst (e:Ext C H H'){xs:List V}(h:H a=some (.lst xs)):H' a=some (.lst xs):=by
 rcases e.keep a _ h with z | ⟨_,_,z,_⟩
 ·exact z
 ·cases z
theorem Ext.tup (e:Ext C H H'){xs:List V}(h:H a=some (.tup xs)):H' a=some (.tup xs):=by
 rcases e.keep a _ h with z | ⟨_,_,z,_⟩
 ·exact z
 ·cases z
theorem Ext.dK (e:Ext C H H'){kvs:List (Key×V)}(h:H a=some (.dK kvs)):H' a=some (.dK kvs):=by
 rcases e.keep a _ h with z | ⟨_,_,z,_⟩
 ·exact z
 ·cases z
theorem Ext.dT (e:Ext C H H'){kvs:List (List Key×V)}(h:H a=some (.dT kvs)):H' a=some (.dT kvs):=by
 rcases e.keep a _ h with z | ⟨_,_,z,_⟩
 ·exact z
 ·cases z
theorem Ext.frz (e:Ext C H H'){ob:Obj}{u:HO}(h:H a=some (.frz ob u)):H' a=some (.frz ob u):=by
 rcases e.keep a _ h with z | ⟨_,_,z,_⟩
 ·exact z
 ·cases z
theorem Ext.rd (e:Ext C H H'){u:HO}(h:Rd H a u)(n:∀ps,u≠ .tbl ps):Rd H' a u:=by
 rcases h with h | ⟨ob,h⟩
 ·rcases e.keep a _ h with z | ⟨ps,_,z,_⟩
  ·exact .inl z
  ·exact absurd z (n ps)
 ·exact .inr ⟨ob,e.frz h⟩
theorem Ext.Dn (e:Ext C H H'){K:PySem.W.Frag}{xs:List V}(h:SqL K H a xs):SqL K H' a xs:=by
 rcases h with h | h
 ·exact .inl (e.rd h fun _ z=>nomatch z)
 ·exact .inr h
theorem TabOk.at_ {t:Tab}(h:TabOk H t)(k:∀b o,H b=some o->((∃ps,o= .tbl ps)∨∃oc,o= .frz oc (.own 0))->H' b=some o):TabOk H' t:=by
 obtain⟨ps,h1,h2⟩:=h
 refine⟨ps,k _ _ h1 (.inl ⟨_,rfl⟩),?_⟩
 rcases h2 with h2 | ⟨c,oc,e,hc,q⟩
 ·exact .inl h2
 ·exact .inr ⟨c,oc,e,k _ _ hc (.inr ⟨_,rfl⟩),q⟩
theorem Ext.new (C:Cl)(h:H p=Option.none)(o:HO):Ext C H (upd H p o):=by
 refine⟨fun b u e=> .inl ?_,fun T t ht=>(T t ht).at_ fun b u e _=>?_⟩
 ·rw[Ac (Bp e h)];exact e
 ·rw[Ac (Bp e h)];exact e
theorem Ext.lay (e:Ext C H H')(h:H' p=Option.none)(o:HO):Ext C H (upd H' p o):=e.trans (.new C h o)
theorem Ext.set (e:Ext C H H')(n:H l=Option.none){u:HO}(hl:H' l=some u)(n1:∀ps,u≠ .tbl ps)(n2:∀oc,u≠ .frz oc (.own 0))(o:HO):Ext C H (upd H' l o):=by
 refine⟨fun b v q=>?_,fun T t ht=>(e.tab T t ht).at_ fun b v q w=>?_⟩
 ·rw[Ac (Bp q n)]
  exact e.keep b v q
 ·rw[Ac]
  ·exact q
  ·rintro rfl
   rw[hl]at q
   cases q
   rcases w with⟨ps,w⟩ | ⟨oc,w⟩
   ·exact n1 ps w
   ·exact n2 oc w
theorem Ext.Hj (e:Ext C H H')(n:H l=Option.none){xs:List V}(hl:H' l=some (.lst xs))(o:HO):Ext C H (upd H' l o):=e.set n hl (fun _ z=>nomatch z) (fun _ z=>nomatch z) o
theorem Ext.Zh (e:Ext C H H')(n:H l=Option.none){xs:List (Key×V)}(hl:H' l=some (.dK xs))(o:HO):Ext C H (upd H' l o):=e.set n hl (fun _ z=>nomatch z) (fun _ z=>nomatch z) o
end
def Ar2 (c:Vbnlag.Code):List (Str×V):=[("limit",.int c.limit),("works",.int c.works),("authors",.int c.authors),("window",.int c.window),("span",.int c.span)]
def Aq5 (w:Vbnlag.Work):List (Str×V):=[("key",.int w.key),("day",.int w.day),("author",.int w.author)]
def Aq9 (n:Vbnlag.Name):List (Str×V):=[("key",.int n.key),("work",.int n.work),("page",.int n.page)]
def Bb2 (x:Vbnlag.Act):List (Str×V):=[("key",.int x.key),("kind",.int x.kind),("work",.int x.work),("a",.int x.a),("b",.int x.b)]
def N8 (c w n u a:Addr):List (Str×V):=[("code",.ref c),("works",.ref w),("names",.ref n),("uses",.ref u),("acts",.ref a)]
def CK (C:Cl)(H:Hp)(a:Addr)(c:Vbnlag.Code):Prop:=∃dx,H a=some (.ins C.code dx (Ar2 c))
def DP (C:Cl)(H:Hp)(a:Addr)(w:Vbnlag.Work):Prop:=∃dx,H a=some (.ins C.work dx (Aq5 w))
def DQ (C:Cl)(H:Hp)(a:Addr)(n:Vbnlag.Name):Prop:=∃dx,H a=some (.ins C.name dx (Aq9 n))
def BR (C:Cl)(H:Hp)(a:Addr)(x:Vbnlag.Act):Prop:=∃dx,H a=some (.ins C.act dx (Bb2 x))
structure Rep where
 dx:Addr
 c:Addr
 w:Addr
 n:Addr
 u:Addr
 a:Addr
 ws:List (Addr×Vbnlag.Work)
 ns:List (Addr×Vbnlag.Name)
 us:List (Int×Int)
 as:List (Addr×Vbnlag.Act)
def dW (l:List (Addr×Vbnlag.Work)):List (Key×V):=l.map fun p=>(Sum.inl p.2.key,V.ref p.1)
def dN (l:List (Addr×Vbnlag.Name)):List (Key×V):=l.map fun p=>(Sum.inl p.2.key,V.ref p.1)
def dA (l:List (Addr×Vbnlag.Act)):List (Key×V):=l.map fun p=>(Sum.inl p.2.key,V.ref p.1)
def dU (l:List (Int×Int)):List (List Key×V):=l.map fun p=>([Sum.inl p.1,Sum.inl p.2],V.bl true)
structure Kp (C:Cl)(H:Hp)(k:Addr)(s:VS)(R:Rep):Prop where
 wf:WF s
 kp:H k=some (.ins C.kept R.dx (N8 R.c R.w R.n R.u R.a))
 cd:CK C H R.c s.code
 wk:Rd H R.w (.dK (dW R.ws))
 wa:∀p∈R.ws,DP C H p.1 p.2
 wp:(R.ws.map (·.2)).Perm s.works
 nk:Rd H R.n (.dK (dN R.ns))
 na:∀p∈R.ns,DQ C H p.1 p.2
 np:(R.ns.map (·.2)).Perm s.names
 uk:Rd H R.u (.dT (dU R.us))
 up:R.us.Perm s.uses
 ak:Rd H R.a (.dK (dA R.as))
 aa:∀p∈R.as,BR C H p.1 p.2
 ap:(R.as.map (·.2)).Perm s.acts
 tb:Jx C H
section
variable {C:Cl}{H H':Hp}{k:Addr}{s:VS}{R:Rep}
theorem CK.ext {a:Addr}{c:Vbnlag.Code}(h:CK C H a c)(e:Ext C H H'):CK C H' a c:=let ⟨dx,q⟩:=h;⟨dx,e.ins q⟩
theorem DP.ext {a:Addr}{c:Vbnlag.Work}(h:DP C H a c)(e:Ext C H H'):DP C H' a c:=let ⟨dx,q⟩:=h;⟨dx,e.ins q⟩
theorem DQ.ext {a:Addr}{c:Vbnlag.Name}(h:DQ C H a c)(e:Ext C H H'):DQ C H' a c:=let ⟨dx,q⟩:=h;⟨dx,e.ins q⟩
theorem BR.ext {a:Addr}{c:Vbnlag.Act}(h:BR C H a c)(e:Ext C H H'):BR C H' a c:=let ⟨dx,q⟩:=h;⟨dx,e.ins q⟩
theorem Kp.ext (h:Kp C H k s R)(e:Ext C H H'):Kp C H' k s R where
 wf:=h.wf
 kp:=e.ins h.kp
 cd:=h.cd.ext e
 wk:=e.rd h.wk fun _ z=>nomatch z
 wa:=fun p hp=>(h.wa p hp).ext e
 wp:=h.wp
 nk:=e.rd h.nk fun _ z=>nomatch z
 na:=fun p hp=>(h.na p hp).ext e
 np:=h.np
 uk:=e.rd h.uk fun _ z=>nomatch z
 up:=h.up
 ak:=e.rd h.ak fun _ z=>nomatch z
 aa:=fun p hp=>(h.aa p hp).ext e
 ap:=h.ap
 tb:=e.tab h.tb
theorem Pn {a d:Addr}{u v:HO}{od:Obj}(h:Rd H a u)(hd:Rd H d v)(hv:∀o w,v≠ .frz o w)(hu:∀o w,u≠ .frz o w):Rd (upd H d (.frz od v)) a u:=by
 by_cases e:a=d
 ·subst e
  have:u=v:=by
   rcases h with h | ⟨o1,h⟩ <;>rcases hd with hd | ⟨o2,hd⟩ <;>rw[h]at hd <;>cases hd
   ·rfl
   ·exact absurd rfl (hu _ _)
   ·exact absurd rfl (hv _ _)
   ·rfl
  subst this
  exact .inr ⟨od,Ab⟩
 ·rcases h with h | ⟨o1,h⟩
  ·exact .inl (by rw[Ac e];exact h)
  ·exact .inr ⟨o1,by rw[Ac e];exact h⟩
theorem IV {a d c dx:Addr}{fs:List (Str×V)}{v:HO}{od:Obj}(h:H a=some (.ins c dx fs))(hd:Rd H d v)(hv:∀c dx fs,v≠ .ins c dx fs):upd H d (.frz od v) a=some (.ins c dx fs):=by
 rw[Ac]
 ·exact h
 ·rintro rfl
  rcases hd with hd | ⟨o,hd⟩ <;>rw[h]at hd <;>cases hd
  exact hv _ _ _ rfl
theorem Kp.lock (h:Kp C H k s R){d:Addr}{v:HO}(od:Obj)(hd:Rd H d v)(hv:(∃kvs,v= .dK kvs)∨∃kvs,v= .dT kvs):Kp C (upd H d (.frz od v)) k s R:=by
 have v1:∀o w,v≠ .frz o w:=by rcases hv with⟨_,rfl⟩ | ⟨_,rfl⟩ <;>exact fun _ _ z=>nomatch z
 have v2:∀c dx fs,v≠ .ins c dx fs:=by rcases hv with⟨_,rfl⟩ | ⟨_,rfl⟩ <;>exact fun _ _ _ z=>nomatch z
 have v3:∀ps,v≠ .tbl ps:=by rcases hv with⟨_,rfl⟩ | ⟨_,rfl⟩ <;>exact fun _ z=>nomatch z
 have v4:v≠ .own 0:=by rcases hv with⟨_,rfl⟩ | ⟨_,rfl⟩ <;>exact fun z=>nomatch z
 refine⟨h.wf,IV h.kp hd v2,?_,Pn h.wk hd v1 (fun _ _ z=>nomatch z),fun p hp=>?_,h.wp,Pn h.nk hd v1 (fun _ _ z=>nomatch z),fun p hp=>?_,h.np,Pn h.uk hd v1 (fun _ _ z=>nomatch z),h.up,Pn h.ak hd v1 (fun _ _ z=>nomatch z),fun p hp=>?_,h.ap,fun t ht=>?_⟩
 ·obtain⟨dx,q⟩:=h.cd
  exact⟨dx,IV q hd v2⟩
 ·obtain⟨dx,q⟩:=h.wa p hp
  exact⟨dx,IV q hd v2⟩
 ·obtain⟨dx,q⟩:=h.na p hp
  exact⟨dx,IV q hd v2⟩
 ·obtain⟨dx,q⟩:=h.aa p hp
  exact⟨dx,IV q hd v2⟩
 ·refine(h.tb t ht).at_ fun b u e w=>?_
  rw[Ac]
  ·exact e
  ·rintro rfl
   rcases hd with hd | ⟨o,hd⟩ <;>rw[e]at hd
   ·cases hd
    rcases w with⟨ps,w⟩ | ⟨oc,w⟩
    ·exact v3 ps w
    ·exact v1 _ _ w
   ·cases hd
    rcases w with⟨ps,w⟩ | ⟨oc,w⟩
    ·cases w
    ·cases w
     exact v4 rfl
theorem Ext.unlock {d:Addr}{o v:HO}{od:Obj}(hd:H d=some o)(ho:o=v∨∃oe,o= .frz oe v)(hv:(∃kvs,v= .dK kvs)∨∃kvs,v= .dT kvs)(e:Ext C (upd H d (.frz od v)) H')(h':H' d=some (.frz od v)):Ext C H (upd H' d o):=by
 have v1:∀o w,v≠ .frz o w:=by rcases hv with⟨_,rfl⟩ | ⟨_,rfl⟩ <;>exact fun _ _ z=>nomatch z
 have v3:∀ps,v≠ .tbl ps:=by rcases hv with⟨_,rfl⟩ | ⟨_,rfl⟩ <;>exact fun _ z=>nomatch z
 have v4:v≠ .own 0:=by rcases hv with⟨_,rfl⟩ | ⟨_,rfl⟩ <;>exact fun z=>nomatch z
 refine⟨fun b u q=>?_,fun T t ht=>?_⟩
 ·by_cases hb:b=d
  ·subst hb
   rw[hd]at q
   cases q
   exact .inl Ab
  ·rw[Ac hb]
   exact e.keep b u (by rw[Ac hb];exact q)
 ·have T1:Jx C (upd H d (.frz od v)):=fun t ht=>(T t ht).at_ fun b u q w=>by
   rw[Ac]
   ·exact q
   ·rintro rfl
    rw[hd]at q
    cases q
    rcases ho with rfl | ⟨oe,rfl⟩
    ·rcases w with⟨ps,w⟩ | ⟨oc,w⟩
     ·exact v3 ps w
     ·exact v1 _ _ w
    ·rcases w with⟨ps,w⟩ | ⟨oc,w⟩
     ·cases w
     ·cases w
      exact v4 rfl
  refine(e.tab T1 t ht).at_ fun b u q w=>?_
  rw[Ac]
  ·exact q
  ·rintro rfl
   rw[h']at q
   cases q
   rcases w with⟨ps,w⟩ | ⟨oc,w⟩
   ·cases w
   ·cases w
    exact v4 rfl
end
end Nm
namespace Nm
open PySem PySem.Spec PyProof.Rows L2
def Fd (K:PySem.W.Frag)(H:Hp)(a:Addr)(f:Str)(v:V):Prop:=∃C dx fs,H a=some (.ins C dx fs)∧Cls K C∧Bb K C f∧fs.lookup f=some v
structure Cq (K:PySem.W.Frag)(C:Cl):Prop where
 code:Cls K C.code
 work:Cls K C.work
 name:Cls K C.name
 act:Cls K C.act
 kept:Cls K C.kept
 Rm:Bb K C.code "limit"
 Rk:Bb K C.code "works"
 LQ:Bb K C.code "authors"
 Od:Bb K C.code "window"
 S8:Bb K C.code "span"
 U3:Bb K C.work "key"
 U4:Bb K C.work "day"
 Nt:Bb K C.work "author"
 Vy:Bb K C.name "key"
 Sv:Bb K C.name "work"
 Sw:Bb K C.name "page"
 YX:Bb K C.act "key"
 Wm:Bb K C.act "kind"
 Wk:Bb K C.act "work"
 Ar4:Bb K C.act "a"
 Ar3:Bb K C.act "b"
 Nj:Bb K C.kept "code"
 Q9:Bb K C.kept "works"
 Ra:Bb K C.kept "names"
 SN:Bb K C.kept "uses"
 SQ:Bb K C.kept "acts"
section
variable {K:PySem.W.Frag}{C:Cl}{H:Hp}{a k:Addr}{s:VS}{R:Rep}
theorem CK.limit (T:Cq K C){c:Vbnlag.Code}(h:CK C H a c):Fd K H a "limit" (.int c.limit):=let ⟨dx,q⟩:=h;⟨_,dx,_,q,T.code,T.Rm,rfl⟩
theorem CK.works (T:Cq K C){c:Vbnlag.Code}(h:CK C H a c):Fd K H a "works" (.int c.works):=let ⟨dx,q⟩:=h;⟨_,dx,_,q,T.code,T.Rk,rfl⟩
theorem CK.authors (T:Cq K C){c:Vbnlag.Code}(h:CK C H a c):Fd K H a "authors" (.int c.authors):=let ⟨dx,q⟩:=h;⟨_,dx,_,q,T.code,T.LQ,rfl⟩
theorem CK.window (T:Cq K C){c:Vbnlag.Code}(h:CK C H a c):Fd K H a "window" (.int c.window):=let ⟨dx,q⟩:=h;⟨_,dx,_,q,T.code,T.Od,rfl⟩
theorem CK.span (T:Cq K C){c:Vbnlag.Code}(h:CK C H a c):Fd K H a "span" (.int c.span):=let ⟨dx,q⟩:=h;⟨_,dx,_,q,T.code,T.S8,rfl⟩
theorem DP.key (T:Cq K C){w:Vbnlag.Work}(h:DP C H a w):Fd K H a "key" (.int w.key):=let ⟨dx,q⟩:=h;⟨_,dx,_,q,T.work,T.U3,rfl⟩
theorem DP.day (T:Cq K C){w:Vbnlag.Work}(h:DP C H a w):Fd K H a "day" (.int w.day):=let ⟨dx,q⟩:=h;⟨_,dx,_,q,T.work,T.U4,rfl⟩
theorem DP.author (T:Cq K C){w:Vbnlag.Work}(h:DP C H a w):Fd K H a "author" (.int w.author):=let ⟨dx,q⟩:=h;⟨_,dx,_,q,T.work,T.Nt,rfl⟩
theorem DQ.key (T:Cq K C){w:Vbnlag.Name}(h:DQ C H a w):Fd K H a "key" (.int w.key):=let ⟨dx,q⟩:=h;⟨_,dx,_,q,T.name,T.Vy,rfl⟩
theorem DQ.work (T:Cq K C){w:Vbnlag.Name}(h:DQ C H a w):Fd K H a "work" (.int w.work):=let ⟨dx,q⟩:=h;⟨_,dx,_,q,T.name,T.Sv,rfl⟩
theorem DQ.page (T:Cq K C){w:Vbnlag.Name}(h:DQ C H a w):Fd K H a "page" (.int w.page):=let ⟨dx,q⟩:=h;⟨_,dx,_,q,T.name,T.Sw,rfl⟩
theorem BR.key (T:Cq K C){w:Vbnlag.Act}(h:BR C H a w):Fd K H a "key" (.int w.key):=let ⟨dx,q⟩:=h;⟨_,dx,_,q,T.act,T.YX,rfl⟩
theorem BR.kind (T:Cq K C){w:Vbnlag.Act}(h:BR C H a w):Fd K H a "kind" (.int w.kind):=let ⟨dx,q⟩:=h;⟨_,dx,_,q,T.act,T.Wm,rfl⟩
theorem BR.work (T:Cq K C){w:Vbnlag.Act}(h:BR C H a w):Fd K H a "work" (.int w.work):=let ⟨dx,q⟩:=h;⟨_,dx,_,q,T.act,T.Wk,rfl⟩
theorem BR.a_ (T:Cq K C){w:Vbnlag.Act}(h:BR C H a w):Fd K H a "a" (.int w.a):=let ⟨dx,q⟩:=h;⟨_,dx,_,q,T.act,T.Ar4,rfl⟩
theorem BR.b_ (T:Cq K C){w:Vbnlag.Act}(h:BR C H a w):Fd K H a "b" (.int w.b):=let ⟨dx,q⟩:=h;⟨_,dx,_,q,T.act,T.Ar3,rfl⟩
theorem Kp.code (T:Cq K C)(h:Kp C H k s R):Fd K H k "code" (.ref R.c):=⟨_,_,_,h.kp,T.kept,T.Nj,rfl⟩
theorem Kp.works (T:Cq K C)(h:Kp C H k s R):Fd K H k "works" (.ref R.w):=⟨_,_,_,h.kp,T.kept,T.Q9,rfl⟩
theorem Kp.names (T:Cq K C)(h:Kp C H k s R):Fd K H k "names" (.ref R.n):=⟨_,_,_,h.kp,T.kept,T.Ra,rfl⟩
theorem Kp.uses (T:Cq K C)(h:Kp C H k s R):Fd K H k "uses" (.ref R.u):=⟨_,_,_,h.kp,T.kept,T.SN,rfl⟩
theorem Kp.acts (T:Cq K C)(h:Kp C H k s R):Fd K H k "acts" (.ref R.a):=⟨_,_,_,h.kp,T.kept,T.SQ,rfl⟩
end
theorem Kw {α:Type}(key:α->Int)(k:Int):∀l:List (Addr×α),BL (l.map fun p=>((Sum.inl (key p.2):Key),V.ref p.1)) (Sum.inl k)=(l.find? fun p=>key p.2==k).map fun p=>V.ref p.1
 | []=>rfl
 | p::r=>by
  rw[List.map_cons,List.find?_cons]
  by_cases e:key p.2=k
  ·rw[Cz (show((Sum.inl (key p.2):Key))=Sum.inl k by rw[e]),show(key p.2==k)=true by simp[e]]
   rfl
  ·rw[Cd (fun q=>e (Sum.inl.inj q)),show(key p.2==k)=false by simp[e]]
   exact Kw key k r
theorem Px {α:Type}{key:α->Int}{l:List (Addr×α)}{m:List α}(p:(l.map (·.2)).Perm m)(so:m.Pairwise fun x y=>key x < key y){w:α}(hw:w∈m) :
  ∃a,(a,w)∈l∧BL (l.map fun p=>((Sum.inl (key p.2):Key),V.ref p.1)) (Sum.inl (key w))=some (.ref a):=by
 obtain⟨q,hq,e⟩:=List.mem_map.mp (p.mem_iff.mpr hw)
 cases f:l.find? fun p=>key p.2==key w with
 | none =>
  have:=List.find?_eq_none.mp f q hq
  rw[e]at this
  simp at this
 | some z =>
  have hz:z∈l:=List.mem_of_find?_eq_some f
  have ez:key z.2=key w:=by simpa using List.find?_some f
  have e2:z.2=w:=uniq so (p.mem_iff.mp (List.mem_map.mpr ⟨z,hz,rfl⟩)) hw ez
  refine⟨z.1,by rw[← e2];exact hz,?_⟩
  rw[Kw,f]
  rfl
theorem Ur {α:Type}{key:α->Int}{l:List (Addr×α)}{m:List α}(p:(l.map (·.2)).Perm m){k:Int}(h:∀w∈m,key w≠k):BL (l.map fun p=>((Sum.inl (key p.2):Key),V.ref p.1)) (Sum.inl k)=none:=by
 rw[Kw]
 have f:(l.find? fun p=>key p.2==k)=none:=List.find?_eq_none.mpr fun q hq=>by
  have:=h q.2 (p.mem_iff.mp (List.mem_map.mpr ⟨q,hq,rfl⟩))
  simpa using this
 rw[f]
 rfl
theorem Km {H:Hp}{a:Addr}{kvs:List (Key×V)}{k:Int}{r:Option V}(e:Rd H a (.dK kvs))(h:BL kvs (Sum.inl k)=r):DW H a (.int k) r:= .inl ⟨kvs,Sum.inl k,e,rfl,h.symm⟩
section
variable {C:Cl}{H:Hp}{k:Addr}{s:VS}{R:Rep}
theorem Kp.Ah9 (h:Kp C H k s R){w:Vbnlag.Work}(hw:w∈s.works):∃a,DP C H a w∧DW H R.w (.int w.key) (some (.ref a)):=by
 obtain⟨a,m,e⟩:=Px (key:=Vbnlag.Work.key) h.wp h.wf.ws hw
 exact⟨a,h.wa _ m,Km h.wk e⟩
theorem Kp.Ut (h:Kp C H k s R){w:Vbnlag.Name}(hw:w∈s.names):∃a,DQ C H a w∧DW H R.n (.int w.key) (some (.ref a)):=by
 obtain⟨a,m,e⟩:=Px (key:=Vbnlag.Name.key) h.np h.wf.ns hw
 exact⟨a,h.na _ m,Km h.nk e⟩
theorem Kp.Ai0 (h:Kp C H k s R){w:Vbnlag.Act}(hw:w∈s.acts):∃a,BR C H a w∧DW H R.a (.int w.key) (some (.ref a)):=by
 obtain⟨a,m,e⟩:=Px (key:=Vbnlag.Act.key) h.ap h.wf.as hw
 exact⟨a,h.aa _ m,Km h.ak e⟩
theorem Kp.Ao1 (h:Kp C H k s R)(z:Int):∃o,DW H R.w (.int z) o∧o.isSome=Vbnlag.isWork s z:=by
 cases q:Vbnlag.isWork s z with
 | true =>
  obtain⟨w,hw,e⟩:=Et h.wf q
  obtain⟨a,_,g⟩:=h.Ah9 hw
  rw[e]at g
  exact⟨_,g,rfl⟩
 | false=>exact⟨_,Km h.wk (Ur (key:=Vbnlag.Work.key) h.wp (Hu q)),rfl⟩
theorem Kp.Ao2 (h:Kp C H k s R)(z:Int):∃o,DW H R.n (.int z) o∧o.isSome=Vbnlag.isName s z:=by
 cases q:Vbnlag.isName s z with
 | true =>
  obtain⟨w,hw,e⟩:=Dm h.wf q
  obtain⟨a,_,g⟩:=h.Ut hw
  rw[e]at g
  exact⟨_,g,rfl⟩
 | false=>exact⟨_,Km h.nk (Ur (key:=Vbnlag.Name.key) h.np (Hv q)),rfl⟩
theorem Kp.Ao3 (h:Kp C H k s R)(z:Int):∃o,DW H R.a (.int z) o∧o.isSome=(Vbnlag.actOf s z).isSome:=by
 cases q:Vbnlag.actOf s z with
 | some x =>
  obtain⟨hx,e⟩:=h.wf.aOf.mp q
  obtain⟨a,_,g⟩:=h.Ai0 hx
  rw[e]at g
  exact⟨_,g,rfl⟩
 | none=>exact⟨_,Km h.ak (Ur (key:=Vbnlag.Act.key) h.ap (CZ.mp q)),rfl⟩
end
end Nm
namespace Nm
open PySem PySem.Spec PyProof.Rows L2
structure Ok (P:Program)(w:World)(K:PySem.W.Frag)(mg:Str->Option Value)(base:Heap)(x:Str)(k:Nat)(ps:List Str)(sp:Sp):Prop where
 ex:∃f fd,mg x=some (.ref f)∧PySem.W.keepIn K (.ref f)=true∧Binds K fd ps []∧Ay P w K mg base CX0 k f fd ps sp
structure OkC (P:Program)(w:World)(K:PySem.W.Frag)(mg:Str->Option Value)(base:Heap)(x:Str)(C:Addr)(k:Nat)(ps:List Str)(sp:Sp):Prop where
 ex:∃f fd,mg x=some (.ref C)∧Mk K C f∧Binds K fd ps []∧Ay P w K mg base CX0 k f fd ps sp
section
variable {X:Cx}{x:Str}{k:Nat}{ps:List Str}{sp:Sp}{e:Expr}{es:List Expr}{t:TA}{p pos:Pos}{C:Addr}
theorem Al (O:Ok X.prog X.w X.K X.mg X.base x k ps sp)(hr:CJ k X.A)(ha:PA X (e::es) t)(hg:Gl X x:=by rfl)(hdb:(x==("__debug__" :Str))=false:=by decide)
  (he:starEach (e::es) X.env=(false,eval e X.env)::starEach es X.env:=by rfl) (hpl:(backTo pos (starEach es X.env)).any (·.1)=false:=by rfl):PE X (.Call (.Name x p) (e::es) [] pos) (Ab5 sp [] E0 t):=by
 obtain⟨f,fd,h1,h2,h3,h4⟩:=O.ex
 exact Al8 h4 hr hg h1 h2 h3 .nil Yq ha hdb he hpl
theorem Sh (O:OkC X.prog X.w X.K X.mg X.base x C k ps sp)(hr:CJ (k + 1) X.A)(ha:PA X (e::es) t)(hg:Gl X x:=by rfl)(hdb:(x==("__debug__" :Str))=false:=by decide)
  (he:starEach (e::es) X.env=(false,eval e X.env)::starEach es X.env:=by rfl) (hpl:(backTo pos (starEach es X.env)).any (·.1)=false:=by rfl):PE X (.Call (.Name x p) (e::es) [] pos) (Yh C sp [] E0 t):=by
 obtain⟨f,fd,h1,h2,h3,h4⟩:=O.ex
 exact Al6 h2 h4 hr hg h1 h3 .nil Yq ha hdb he hpl
theorem Au3 (O:OkC X.prog X.w X.K X.mg X.base x C k ps sp)(hr:CJ (k + 1) X.A)(hg:Gl X x:=by rfl)(hdb:(x==("__debug__" :Str))=false:=by decide):PE X (.Call (.Name x p) [] [] pos) (Yh C sp [] E0 Ab3):=by
 obtain⟨f,fd,h1,h2,h3,h4⟩:=O.ex
 exact Ae9 h2 h4 hr hg h1 h3 .nil Yq hdb
def tF (K:PySem.W.Frag)(ta:TE)(f:Str):TE:=fun σ H Q=>ta σ H fun x H1=>∃a v,x= .ref a∧Fd K H1 a f v∧Q v H1
theorem pf {ta:TE}{f:Str}(he:PE X e ta)(hb:attributeBase e f X.env (eval e X.env)=eval e X.env:=by rfl):PE X (.Attribute e f pos) (tF X.K ta f):=by
 intro pins s σ H Q I h
 refine Aq1 hb (thn (he pins s σ H _ I h) fun u s1 ⟨x,H1,I1,rx,a,v,ex,⟨C,dx,fs,ea,c,n,l⟩,q⟩=>?_)
 subst ex
 obtain rfl:u=Value.ref a:=rx
 exact XD I1 ea c n l fun u' s2 I2 ru=>⟨v,H1,I2,ru,q⟩
theorem hu1 {k:Nat}{A:Around}(hr:CJ k A):A.units + 1 < cLine:=by have:=hr.un;omega
theorem Be3 {k:Nat}{A:Around}(hr:CJ k A):A.units + 64 < cLine:=by have:=hr.un;omega
def Dq (mg:Str->Option Value)(x:Str)(z:Int):Prop:=∃t,mg x=some (.int z t)
theorem pk {z:Int}(h:Dq X.mg x z)(hg:Gl X x:=by rfl)(hd:(x==("__debug__" :Str))=false:=by decide):PE X (.Name x pos) (tC (.int z)):=by
 obtain⟨u,h⟩:=h
 exact Pq hg h ⟨u,rfl⟩ hd
def As1 (t:TE):TE:=fun σ H Q=>∃d u o,H d=some o∧(o=u∨∃oe,o= .frz oe u)∧Mut (some u)∧∀od,t σ (upd H d (.frz od u)) fun v H'=>H' d=some (.frz od u)∧Q v (upd H' d o)
theorem Fl {H:Hp}{d:Addr}{o:HO}(h:H d=some o):upd H d o=H:=by
 funext b
 by_cases e:b=d
 ·rw[e,Ab,h]
 ·rw[Ac e]
theorem Vo {e:Expr}{t:TE}(h:PE X e t):PE X e (As1 t):=by
 intro pins s σ H Q I hw
 obtain⟨d,u,o,hd,ho,mu,hw⟩:=hw
 rcases ho with rfl | ⟨oe,rfl⟩
 ·exact Al7 h pins s σ H Q I ⟨d,o,hd,mu,hw⟩
 ·have q:=hw oe
  rw[Fl hd]at q
  refine thn (h pins s σ _ _ I q) fun v s1 ⟨y,H1,I1,r,e2,q⟩=>⟨y,H1,I1,r,?_⟩
  rw[Fl e2]at q
  exact q
theorem Ld {st:Stmt}{t:TS}(h:PS X st t):PS X st (fun D σ H=>∃d u o,H d=some o∧(o=u∨∃oe,o= .frz oe u)∧Mut (some u) ∧
  ∀od,t ⟨fun σ' H'=>H' d=some (.frz od u)∧D.nx σ' (upd H' d o),fun v H'=>H' d=some (.frz od u)∧D.rt v (upd H' d o),fun σ' H'=>H' d=some (.frz od u)∧D.bk σ' (upd H' d o),fun σ' H'=>H' d=some (.frz od u)∧D.ct σ' (upd H' d o)⟩ σ (upd H d (.frz od u))):=by
 intro pins s σ H D I hw
 obtain⟨d,u,o,hd,ho,mu,hw⟩:=hw
 rcases ho with rfl | ⟨oe,rfl⟩
 ·exact Al2 h pins s σ H D I ⟨d,o,hd,mu,hw⟩
 ·have q:=hw oe
  rw[Fl hd]at q
  refine thn (h pins s σ _ _ I q) fun f s1 q=>?_
  cases f with
  | next=>obtain⟨σ',H',I2,e2,q⟩:=q;rw[Fl e2]at q;exact⟨σ',H',I2,q⟩
  | brk=>obtain⟨σ',H',I2,e2,q⟩:=q;rw[Fl e2]at q;exact⟨σ',H',I2,q⟩
  | cont=>obtain⟨σ',H',I2,e2,q⟩:=q;rw[Fl e2]at q;exact⟨σ',H',I2,q⟩
  | ret v=>obtain⟨y,σ',H',I2,r,e2,q⟩:=q;rw[Fl e2]at q;exact⟨y,σ',H',I2,r,q⟩
theorem Ej:Gg X (.builtin "len") (fun xs H Q=>∃a kvs,xs=[V.ref a]∧Rd H a (.dK kvs)∧Q (.int kvs.length) H):=by
 intro pins s σ H xs us Q I r h
 obtain⟨a,kvs,rfl,ha,q⟩:=h
 obtain⟨u,rfl,ru⟩:=vals1 r
 cases ru
 exact Ba9 I ha fun t s' I'=>⟨.int kvs.length,H,I',⟨t,rfl⟩,q⟩
end
end Nm
namespace L2
open PySem PySem.Spec PyProof.Rows
open Nm (Tab TabOk Ek Cl Jx Ext)
structure Aa4 (mg:Str->Option Value)(base:Heap)(t:Tab):Prop where
 hd:PySem.W.CodeHd base t.c t.P
 bm:∃bm ob,mg "__builtins__" =some (.ref bm)∧bm≠builtinsNs∧bm≠mainGlobals∧base.get? bm=some ob∧ob.cls= .type "module" ∧ob.dict=some builtinsNs∧ob.data= .plain
abbrev Uq (t:Tab)(params:Arguments)(body:Expr)(scope:Scope)(clos:List (Str×Addr))(pm:Value)(c:Addr)(ct:Value):Obj:=PySem.W.kla_obj "<lambda>" t.qual params body scope clos pm c ct
section
variable {X:Cx}{pins:List (Addr×Obj)}{σ:St}{H:Hp}{s:Shared}{t:Tab}
theorem Inv.grown {h':Heap}{tk:Nat}{ps ps' more:Array Value}{c:Addr}{oc:Obj}(I:Inv X pins σ H s)(hP:H t.P=some (.tbl ps))(hps:ps'=ps++more)(hx:Heap.ExtBut t.P s.heap h')(hc:s.heap.objs.size<=c)(ho:h'.get? c=some oc)(hp:h'.get? t.P=some (PySem.W.tabObj ps')) :
  Inv X pins σ (upd (upd H c (.frz oc (.own 0))) t.P (.tbl ps')) {s with heap:=h',toks:=tk}:=by
 have nc:H c=none:=I.hok.fresh hc
 have ne:c≠t.P:=fun q=>by rw[q,hP]at nc;cases nc
 have nP:∀b,H b=none->b≠t.P:=fun b h q=>by rw[q,hP]at h;cases h
 have neC:∀b o,s.heap.get? b=some o->b≠c:=fun b o e q=>by
  have:=Heap.lt_size e
  rw[q]at this
  exact absurd this (Nat.not_lt.mpr hc)
 have other:∀b u,H b=some u->(∀qs,u≠ .tbl qs)->upd (upd H c (.frz oc (.own 0))) t.P (.tbl ps') b=some u:=fun b u e hu=>by
  rw[Ac (fun q=>by rw[q,hP]at e;cases e;exact hu _ rfl),Ac (Bp e nc)]
  exact e
 refine I.un (h':=h') (t':=tk) ⟨fun b o e n _ _=>hx b o (nP b n) e,fun b o e n _ _=>⟨o.slots,hx b o (nP b n) e⟩,fun b o e n _=>?_,fun b o e _=>?_,fun b xs e=>other b _ e (fun _ q=>nomatch q),fun b o u e=>other b _ e (fun _ q=>nomatch q),fun b qs e=>?_⟩ (fun b u e=>?_)
 ·rw[Ac (nP b n),Ac (neC b o e)]
  exact n
 ·by_cases q:b=t.P
  ·rw[q];exact⟨_,hp⟩
  ·exact⟨o,hx b o q e⟩
 ·by_cases q:b=t.P
  ·subst q
   rw[hP]at e
   cases e
   exact⟨more,by rw[Ab,hps]⟩
  ·refine⟨#[],?_⟩
   rw[Ac q,Ac (Bp e nc),e]
   simp
 ·by_cases q:b=t.P
  ·subst q
   rw[Ab]at e
   cases e
   exact hp
  ·rw[Ac q]at e
   by_cases q2:b=c
   ·subst q2
    rw[Ab]at e
    cases e
    exact⟨ho,⟨_,ho⟩⟩
   ·rw[Ac q2]at e
    refine(I.hok b u e).stay (fun d v hd hv=>hx d v ?_ hv) (fun d hd=>other d _ hd (fun _ z=>nomatch z)) fun d xs hd=>other d _ hd (fun _ z=>nomatch z)
    rcases hd with hd | hd
    ·rw[hd];exact q
    ·intro z
     rw[z,hP]at hd
     cases hd
theorem Ah2 {A:Around}{E:Value->Shared->Prop}{Q:Value->Shared->Prop}{params:Arguments}{body:Expr}{scope:Scope}{clos:List (Str×Addr)}(I:Inv X pins σ H s)(B:Aa4 X.mg X.base t)(hT:TabOk H t)(hcode:X.env.code= .ref t.c)(hq:X.env.qual++ "<lambda>" =t.qual)
  (hdef:defaultsOf params X.env=([],[])) (hcl:closureFor scope X.env=pure clos)
  (h:∀f c oc ct H' s',Inv X pins σ H' s'->s'.heap.get? f=some (Uq t params body scope clos ((X.mg "__name__").getD .none) c ct)->H' f=none->s.heap.objs.size<=f->H' c=some (.frz oc (.own 0))->Ek oc t.qual ->
   (H'=H∨∃d,H d=none∧H t.P=some (.tbl #[])∧Ek oc t.qual∧H'=upd (upd H d (.frz oc (.own 0))) t.P (.tbl #[rawInt t.pos.line,rawInt t.pos.col,.ref d]))->Q (.ref f) s') :
  wpAny (model X.prog X.w) A (eval (.Lambda params body scope t.pos) X.env) Q E s:=by
 have hg:s.heap.Ns mainGlobals X.mg:=I.mod.glob.keeps I.bk
 have HG:H mainGlobals=none:=by
  obtain⟨o,_,_,e,_⟩:=I.mod.glob
  exact(I.bs _ _ e).2
 obtain⟨ps,hP,hps⟩:=hT
 have hPo:s.heap.get? t.P=some (PySem.W.tabObj ps):=I.hok _ _ hP
 have hgP:mainGlobals≠t.P:=fun q=>by rw[q,hP]at HG;cases HG
 obtain⟨bm,ob,b1,b2,b3,b4,b5,b6,b7⟩:=B.bm
 have hbP:bm≠t.P:=fun q=>by
  have z:=(I.bs _ _ b4).2
  rw[q,hP]at z
  cases z
 have hB:s.heap.BuiltinsAt X.mg t.P:=⟨bm,ob,b1,b2,b3,hbP,I.bk _ _ b4,b5,b6,b7⟩
 have hC:PySem.W.CodeHd s.heap t.c t.P:=B.hd.keeps I.bk
 refine PySem.W.kla_eval hdef ?_
 rw[hq]
 rcases hps with rfl | ⟨c,oc,rfl,hc,hob⟩
 ·refine PySem.W.kla_makeFunction (mg:=X.mg) (clos:=clos) hcl I.ok.glob hg hcode hC hPo trivial rfl hgP hB fun c ct h' tk hx hge hlt hrec htb=>?_
  obtain⟨c2,oc,vs,tq,e1,hoc,hd,hv⟩:=hrec
  cases e1
  have I1:=Inv.grown (t:=t) (tk:=tk) (ps':= #[rawInt t.pos.line,rawInt t.pos.col,.ref c]) (more:= #[rawInt t.pos.line,rawInt t.pos.col,.ref c]) I hP (by simp) hx hge hoc (by simpa using htb)
  have nf:upd (upd H c (.frz oc (.own 0))) t.P (.tbl #[rawInt t.pos.line,rawInt t.pos.col,.ref c]) h'.objs.size=none:=I1.hok.fresh (Nat.le_refl _)
  have neq:c≠t.P:=fun q=>by
   have z:=I.hok.fresh hge
   rw[q,hP]at z
   cases z
  refine h _ c oc ct _ _ (I1.kept (t':=tk) fun b o e=>Heap.get?_push_of_some _ e) (Heap.get?_push_size _ rfl) nf (Nat.le_trans hge (Nat.le_of_lt hlt)) ?_ ⟨vs,tq,hd,hv⟩ (.inr ⟨c,I.hok.fresh hge,hP,⟨vs,tq,hd,hv⟩,rfl⟩)
  rw[Ac neq,Ab]
 ·have hoc:s.heap.get? c=some oc:=(I.hok _ _ hc).1
  refine PySem.W.kla_makeFunctionHit (mg:=X.mg) (clos:=clos) (cv:= .ref c) hcl I.ok.glob hg hcode hC hPo (by simp[TriplesOk,rawInt]) (by simp[codeAmong,rawInt]) hB fun ct h' tk hk hsz=>?_
  have I1:Inv X pins σ H {s with heap:=h',toks:=tk}:=I.kept (t':=tk) hk
  exact h _ c oc ct H _ (I1.kept (t':=tk) fun b o e=>Heap.get?_push_of_some _ e) (Heap.get?_push_size _ rfl) (I1.hok.fresh (Nat.le_refl _)) hsz hc hob (.inl rfl)
abbrev Cx.lam (X:Cx)(A:Around)(s:Shared)(H:Hp)(env:Env):Cx:={X with A:=A.deeper env,s_0:=s,H_0:=H,env:=env,outer:=X.stack,stack:=env::X.stack,ex:=[],fn:=fun _=>false,calm:=true,pn:=[],xe:=fun _ _=>False}
structure Ar6 (X:Cx)(scope:Scope)(clos:List (Str×Addr))(y:Str)(i:Nat):Prop where
 kind:scope.kind= .function
 co:scope.isCoroutine=false
 gen:scope.isGenerator=false
 own:scope.names.lookup y=some .local
 ix:X.N[i]?=some y
 nd:X.N.Nodup
 Xk:∀n∈scope.names,n.2≠ .cell
 sees:∀z∈X.N,z≠y->scope.names.lookup z≠some .local
 free:∀z,scope.names.lookup z=some .free->(∃c,clos.lookup z=some c)∧(X.env.scope.names.lookup z=some .cell∨X.env.scope.names.lookup z=some .free)
 clo:∀z c,clos.lookup z=some c->X.env.cells.lookup z=some c
theorem An5 {A:Around}{q c:Addr}{oc:Obj}{pm ct u:Value}{x:V}{i:Nat}{y:Str}{params:Arguments}{body:Expr}{scope:Scope}{clos:List (Str×Addr)}{te:TE}{Q:VK}{E:Value->Shared->Prop}
  (I:Inv X pins σ H s) (ho:s.heap.get? q=some (Uq t params body scope clos pm c ct)) (hc:H c=some (.frz oc (.own 0))) (hob:Ek oc t.qual) (hA:A.frames=some X.stack) (hh:A.handled=none) (hdep:A.depth < recursionLimit)
  (hbind:bindArgs (PySem.W.kla_fn "<lambda>" t.qual params body scope clos pm (.ref c) ct) ⟨[u],[]⟩=pure [(y,u)]) (S:Ar6 X scope clos y i) (rx:RelV x u)
  (hb:∀(s:Shared) (H:Hp) (L f:Addr) (cd:Value),PE (X.lam A s H (PySem.W.envX t.qual scope L f cd clos)) body te) (hq:te (σ.set i (some x)) H Q) :
  wpAny (model X.prog X.w) A (call (.ref q) [u]) (EP X pins σ Q) E s:=by
 obtain⟨vs,tq,hod,hov⟩:=hob
 have hoc:s.heap.get? c=some oc:=(I.hok _ _ hc).1
 refine wpAny_call (PySem.W.kla_callFunE (body:=body) hdep ho rfl S.co S.gen rfl ⟨c,oc,vs,tq,rfl,hoc,hod,hov⟩ ?_)
 rw[hbind]
 refine wpAny_pure (wpAny_newFunctionEnv S.Xk (fun z hz=>?_) (fun h1 hns hsb=>⟨I.nolimit.fresh _ hsb,?_⟩) S.kind)
 ·have e:z=(y,u):=by simpa using hz
  rw[e];exact S.own
 have kp:∀b o,s.heap.get? b=some o->h1.get? b=some o:=fun b o e=>hsb.extBut b o (Nat.ne_of_lt (Heap.lt_size e)) (Heap.get?_push_of_some _ e)
 show codeAny _ _ (.expr body (PySem.W.envX t.qual scope s.heap.objs.size q (.ref c) clos)) _ _
 have okL:(X.lam A s H (PySem.W.envX t.qual scope s.heap.objs.size q (.ref c) clos)).Ok:=by
  refine⟨I.ok.mod,S.kind,rfl,rfl,Nat.le_refl _,fun a b d e1 e2=>I.ok.inj a b d (S.clo _ _ e1) (S.clo _ _ e2),fun a ha=>?_,fun a d h=>(nomatch h),fun _=>hh,Around.frames_deeper hA,.inr ⟨rfl,rfl⟩,fun b h=>(nomatch h),I.bs,Nat.le_trans I.ok.bsz I.sz,fun b o e h=>(nomatch h),fun b h=>(nomatch h),I.stack,I.Tv⟩
  rcases ha with ha | ha
  ·exact absurd rfl (S.Xk _ (PySem.mem_of_lookup (show scope.names.lookup a=some .cell from ha)))
  ·exact(S.free a ha).1
 have cell:∀a d,clos.lookup a=some d->∃v,s.heap.IsCell d v∧H d=none:=fun a d e=>by
  obtain⟨v,z⟩:=I.cell a d (S.clo _ _ e)
  exact⟨v,z,I.Ew a d (S.clo _ _ e)⟩
 have hyi:i < σ.length:=by rw[I.len];exact(List.getElem?_eq_some_iff.mp S.ix).1
 have I1:Inv (X.lam A s H (PySem.W.envX t.qual scope s.heap.objs.size q (.ref c) clos)) [] (σ.set i (some x)) H {s with heap:=h1,toks:=s.toks + [(y,u)].length}:=by
  refine⟨okL,rfl,I.bare,Un.kept kp,⟨_,hns,fun j z v e1 e2 e3=>?_⟩,fun a d e=>?_,I.hok.fresh (Nat.le_refl _),fun a d e=>?_,fun p hp=>absurd (show p∈([]:List (Addr×Obj)) from hp) (by simp),I.hok.kept kp,by rw[List.length_set];exact I.len⟩
  ·by_cases hj:j=i
   ·subst hj
    have e1:X.N[j]?=some z:=e1
    rw[S.ix]at e1
    cases e1
    rw[List.getElem?_set_self hyi]at e2
    cases e2
    exact⟨u,rx,.inl ⟨S.own,by simp⟩⟩
   ·rw[List.getElem?_set_ne (Ne.symm hj)]at e2
    have hz:z≠y:=fun e=>hj (Lq S.nd e1 (e▸S.ix))
    have hfr:scope.names.lookup z=some .free:=by
     have e3:Vis scope z:=e3
     rcases e3 with e3 | e3 | e3
     ·exact absurd e3 (S.sees z (List.mem_of_getElem? e1) hz)
     ·exact absurd rfl (S.Xk _ (PySem.mem_of_lookup e3))
     ·exact e3
    obtain⟨⟨d,hd⟩,hv⟩:=S.free z hfr
    obtain⟨m,hn,hl⟩:=I.loc
    obtain⟨u',r',l⟩:=hl j z v e1 e2 (.inr hv)
    refine⟨u',r',.inr ⟨.inr hfr,d,hd,?_⟩⟩
    rcases l with⟨k,_⟩ | ⟨_,d',hd',z'⟩
    ·have k:X.env.scope.names.lookup z=some .local:=k
     rcases hv with hv | hv <;>(rw[hv]at k;cases k)
    ·rw[S.clo _ _ hd]at hd'
     cases hd'
     exact z'.keeps kp
  ·obtain⟨v,z,_⟩:=cell a d e
   exact⟨v,z.keeps kp⟩
  ·exact(cell a d e).choose_spec.2
 refine PySem.W.kla_codeExpr (wpAny_mono (hb _ _ _ _ _ [] _ _ H Q I1 hq) (fun v s' h=>?_) fun _ _ h=>h.elim)
 obtain⟨y',H',J,r,q'⟩:=h
 exact I.after ⟨y',H',J.os,J.bare,J.base,J.hok,r,q'⟩
end
end L2
namespace L2
open PySem PySem.Spec PyProof.Rows
open Nm (Tab TabOk Ek Cl Jx Ext)
section
variable {X:Cx}{pins:List (Addr×Obj)}{σ:St}{H:Hp}{s:Shared}{b:Addr}{o o':Obj}
def Gf (X:Cx)(pins:List (Addr×Obj))(b:Addr):Prop:=(b∈X.ex∨X.s_0.heap.objs.size<=b)∧(∀x c,X.env.cells.lookup x=some c->c≠b)∧∀p∈X.pn++pins,p.1≠b
theorem Jd.mine (f:Jd X pins H b):Gf X pins b:=let ⟨_,_,_,f3,f4,f5⟩:=f;⟨f3,f4,f5⟩
theorem Inv.Oo (I:Inv X pins σ H s)(f:Jd X pins H b)(e:s.heap.get? b=some o)(d:∀v,o.data≠ .cell v):Inv X ((b,o)::pins) σ H s :=
 I.Lf fun p hp=>by
  rcases List.mem_cons.mp hp with rfl | hp
  ·exact⟨e,f.1,f.2.1,f.2.2.1,d⟩
  ·exact I.pin p (List.mem_append_right _ hp)
theorem Inv.Az (I:Inv X ((b,o)::pins) σ H s):Inv X pins σ H s:=I.Lf fun p hp=>I.pin p (List.mem_append_right _ (List.mem_cons_of_mem _ hp))
theorem Inv.at1 (I:Inv X ((b,o)::pins) σ H s):s.heap.get? b=some o∧H b=none∧b≠X.env.locals∧b∉X.fs:=let q:=I.pin (b,o) (List.mem_append_right _ List.mem_cons_self);⟨q.1,q.2.1,q.2.2.1,q.2.2.2.1⟩
theorem Inv.JB {h':Heap}{tk:Nat}(I:Inv X ((b,o)::pins) σ H s)(m:Gf X pins b)(sb:Heap.SameBut b s.heap h')(e:h'.get? b=some o')(d:∀v,o'.data≠ .cell v):Inv X ((b,o')::pins) σ H {s with heap:=h',toks:=tk}:=by
 obtain⟨_,q2,q3,q4⟩:=I.at1
 have I1:Inv X pins σ H {s with heap:=h',toks:=tk}:=I.Az.turned (t':=tk) (fun c u hc hu=>(sb.2 c hc).trans hu) q2 q3 m.1 m.2.1 m.2.2
 exact I1.Lf fun p hp=>by
  rcases List.mem_cons.mp hp with rfl | hp
  ·exact⟨e,q2,q3,q4,d⟩
  ·exact I1.pin p (List.mem_append_right _ hp)
theorem Gf.swap {p:Addr×Obj}(m:Gf X pins b)(h:p.1≠b):Gf X (p::pins) b:=⟨m.1,m.2.1,fun q hq=>by
 rcases List.mem_append.mp hq with z | z
 ·exact m.2.2 q (List.mem_append_left _ z)
 ·rcases List.mem_cons.mp z with rfl | z
  ·exact h
  ·exact m.2.2 q (List.mem_append_right _ z)⟩
theorem Inv.track {u:HO}(I:Inv X pins σ H s)(m:Gf X pins b)(hn:H b=none)(hL:b≠X.env.locals)(new:Cp X.prog X.w (upd H b u) s.heap b u):Inv X pins σ (upd H b u) s:=by
 have other:∀c v,H c=some v->upd H b u c=some v:=fun c v e=>by rw[Ac (Bp e hn)];exact e
 have nb:∀c o,X.s_0.heap.get? c=some o->c∉X.ex->c≠b:=fun c o e hx z=>by
  subst z
  rcases m.1 with q | q
  ·exact hx q
  ·exact absurd (Nat.lt_of_lt_of_le (Heap.lt_size e) q) (Nat.lt_irrefl _)
 refine⟨I.ok,I.os,I.bare,⟨I.base.keep,I.base.slot,fun c o e n hx=>?_,I.base.there,fun c xs e=>other _ _ (I.base.tups c xs e),fun c o v e=>other _ _ (I.base.O7 c o v e),fun c ps e=>?_⟩,I.loc,I.cell,?_,fun x c e=>?_,fun p hp=>?_,fun c v e=>?_,I.len⟩
 ·rw[Ac (nb c o e hx)];exact I.base.free c o e n hx
 ·obtain⟨more,q⟩:=I.base.PN c ps e
  exact⟨more,other _ _ q⟩
 ·rw[Ac (Ne.symm hL)];exact I.free
 ·rw[Ac (m.2.1 x c e)];exact I.Ew x c e
 ·obtain⟨e,n,r⟩:=I.pin p hp
  exact⟨e,by rw[Ac (m.2.2 p hp)];exact n,r⟩
 ·by_cases q:c=b
  ·subst q
   rw[Ab]at e
   cases e
   exact new
  ·rw[Ac q]at e
   exact(I.hok c v e).stay (fun d w _ z=>z) (fun d z=>other _ _ z) fun d xs z=>other _ _ z
theorem El {h:Heap}{a:Addr}{xs:Array Value}{n:Nat}(e:h.get? a=some (seqObj "list" xs n))(g:Array Value->Array Value):∃c,(h.update a (Obj.mapSeq g)).get? a=some (seqObj "list" (g xs) c):=⟨_,get?_update_seq e g⟩
theorem Bg {c:Value}{xs:Array Value}{n:Nat}:∀v,({cls:=c,data:= .seq xs n}:Obj).data≠ .cell v:=fun v h=>nomatch h
end
theorem Y7 {ks:List Int}:∀{us:List Value}(i:Nat),Vals (ks.map V.int) us->tupItems (fun _=>false) i us=some (ks.map Sum.inl):=by
 induction ks with
 | nil=>intro us i r;cases r;rfl
 | cons k ks ih =>
  intro us i r
  rw[List.map_cons]at r
  cases r with
  | cons r1 r2 =>
   obtain⟨tk,rfl⟩:=r1
   show(if false=true then none else(tupItems (fun _=>false) (i + 1) _).map (Sum.inl k:: ·))=_
   rw[if_neg Bool.false_ne_true,ih (i + 1) r2]
   rfl
section
variable {P:Program}{w:World}{H:Hp}{h:Heap}{a:Addr}{ks:List Int}
theorem Ye (ok:HOk P w H h)(e:H a=some (.tup (ks.map V.int))):PyProof.Rows.G.tupKeyC h (fun _=>false) (.ref a)=some (ks.map Sum.inl):=by
 obtain⟨_,its,r,o,e1,e2,n,e3⟩:=ok a _ e
 have c:PyProof.Rows.G.isTupObj h (.ref a)=true:=by
  simp only[PyProof.Rows.G.isTupObj,e1,e2]
  rfl
 unfold PyProof.Rows.G.tupKeyC
 rw[if_pos c]
 unfold tupKey
 simp only[e1,e3]
 exact Y7 0 (by simpa using r)
theorem Ar7 {k:Int}{r:List Int}(ok:HOk P w H h)(e:H a=some (.tup ((k::r).map V.int))):∃f,TupOf h (fun _=>false) (.ref a) f:=by
 obtain⟨_,its,rv,o,e1,e2,n,e3⟩:=ok a _ e
 rw[List.map_cons]at rv
 cases rv with
 | cons r1 r2 =>
  obtain⟨tk,rfl⟩:=r1
  exact⟨_,a,o,_,n,rfl,e1,e2,e3,rfl,fun _=>⟨k,tk,rfl⟩,fun q=>nomatch q⟩
theorem Tr (ok:HOk P w H h):∀(ps:List Addr),(∀p∈ps,∃k r,H p=some (.tup ((k::r).map V.int)))->∃fs,TupsOf h (fun _=>false) (ps.map Value.ref) fs
 | [],_=>⟨[],.nil⟩
 | p::ps,hp=>by
  obtain⟨k,r,e⟩:=hp p List.mem_cons_self
  obtain⟨f,hf⟩:=Ar7 ok e
  obtain⟨fs,hfs⟩:=Tr ok ps fun q hq=>hp q (List.mem_cons_of_mem _ hq)
  exact⟨f::fs,.cons hf hfs⟩
end
theorem Q5:∀(a b:List Int),lexLt itemOrd (a.map Sum.inl) (b.map Sum.inl)=Vbnlag.less a b
 | [],[]=>rfl
 | [],_::_=>rfl
 | _::_,[]=>rfl
 | x::r,y::t=>by
  show lexLt itemOrd (Sum.inl x::r.map Sum.inl) (Sum.inl y::t.map Sum.inl)=(decide (x < y)|| (decide (x=y)&&Vbnlag.less r t))
  rw[lex_cons,Q5 r t]
  show(decide (x < y)|| (!decide (y < x)&&Vbnlag.less r t))=_
  by_cases h1:x < y
  ·simp[h1]
  ·by_cases h2:x=y
   ·subst h2
    simp
   ·have h3:y < x:=by omega
    simp[h1,h2,h3]
theorem Hq {α β:Type}(g:α->β):∀{l:List β}{m:List α},l.Perm (m.map g)->∃m':List α,m'.Perm m∧l=m'.map g
 | [],m,h=>by
  have e:m.map g=[]:=h.symm.eq_nil
  have e2:m=[]:=List.map_eq_nil_iff.mp e
  subst e2
  exact⟨[],List.Perm.refl _,rfl⟩
 | x::r,m,h=>by
  obtain⟨a,ha,e⟩:=List.mem_map.mp (h.mem_iff.mp List.mem_cons_self)
  obtain⟨m1,m2,rfl⟩:=List.append_of_mem ha
  have h2:(x::r).Perm (g a::(m1++m2).map g):=h.trans (by rw[List.map_append,List.map_cons,List.map_append];exact List.perm_middle)
  rw[e]at h2
  obtain⟨m',p,e2⟩:=Hq g (List.perm_cons x |>.mp h2)
  exact⟨a::m',(p.cons a).trans List.perm_middle.symm,by rw[List.map_cons,e,e2]⟩
section
variable {X:Cx}{pins:List (Addr×Obj)}{σ:St}{H:Hp}{s:Shared}
structure Wo {α:Type}(key:α->List Int)(H:Hp)(items:List α)(ps:List Addr):Prop where
 pr:Paired (fun(a:α) (p:Addr)=>H p=some (.tup ((key a).map V.int))) items ps
theorem Wo.snoc {α:Type}{key:α->List Int}{H H':Hp}{items:List α}{ps:List Addr}{a:α}{p:Addr}(k:Wo key H items ps)(hk:∀b zs,H b=some (.tup zs)->H' b=some (.tup zs))(h:H' p=some (.tup ((key a).map V.int))):Wo key H' (items++[a]) (ps++[p]):=by
 have q:Paired (fun(a:α) (p:Addr)=>H' p=some (.tup ((key a).map V.int))) items ps:=Paired.An3 k.pr fun _ _ z=>hk _ _ z
 constructor
 clear k
 induction q with
 | nil=>exact .cons h .nil
 | cons r t ih=>exact .cons r ih
theorem U0 {α:Type}{R:α->Addr->Prop}{f:α->V}:∀{items:List α}{ps:List Addr}{vs:List Value},Paired R items ps->Vals (items.map f) vs ->
  ∃ts:List (α×Addr×Value),ts.map (·.1)=items∧(ps.map Value.ref).zip vs=ts.map (fun t=>(Value.ref t.2.1,t.2.2))∧∀t∈ts,R t.1 t.2.1∧RelV (f t.1) t.2.2
 | _,_,_,.nil,r=>by
  rw[List.map_nil]at r
  cases r
  exact⟨[],rfl,rfl,fun t h=>nomatch h⟩
 | a::items,p::ps,vs,.cons h t,r=>by
  rw[List.map_cons]at r
  cases r with
  | cons r1 r2 =>
   obtain⟨ts,e1,e2,e3⟩:=U0 t r2
   refine⟨(a,p,_)::ts,by rw[List.map_cons,e1],by rw[List.map_cons,List.zip_cons_cons,e2];rfl,fun z hz=>?_⟩
   rcases List.mem_cons.mp hz with rfl | hz
   ·exact⟨h,r1⟩
   ·exact e3 z hz
theorem PJ {α:Type}{f:α->V}{g:α->Value}:∀{l:List α},(∀a∈l,RelV (f a) (g a))->Vals (l.map f) (l.map g)
 | [],_=> .nil
 | a::l,h=> .cons (h a List.mem_cons_self) (PJ fun b hb=>h b (List.mem_cons_of_mem _ hb))
theorem An8 {α:Type}{items:List α}{f:α->V}{key:α->List Int}{D kS:Addr}{keys:Array Value}{e e1:Nat}{ps:List Addr}{vs:List Value}{A:Around}{E:Value->Shared->Prop}{R:PySem.Fin->Shared->Prop}
  (I:Inv X ((kS,seqObj "list" keys e)::(D,seqObj "list" #[] e1)::pins) σ H s) (mk:Gf X ((D,seqObj "list" #[] e1)::pins) kS) (md:Gf X pins D) (hv:Vals (items.map f) vs) (hz:items.length<=sizeLine)
  (ek:keys.toList=ps.map Value.ref) (km:Wo key H items ps) (hk:∀a∈items,∃k r,key a=k::r)
  (h:∀(out:List α) s',Inv X pins σ (upd H D (.lst (out.map f))) s'->out.Perm items->out.Pairwise (fun x y=>Vbnlag.less (key y) (key x)=false)->R (.done (.ret .none)) s') :
  wpAny (model X.prog X.w) A (ksk_end D false vs.toArray e1 (.ref kS) keys) R E s:=by
 obtain⟨ts,t1,t2,t3⟩:=U0 km.pr hv
 have hlen:vs.length=items.length:=by rw[← hv.length,List.length_map]
 have hpl:ps.length=items.length:=(Paired.length km.pr).symm
 have hks:keys.size=items.length:=by rw[← Array.length_toList,ek,List.length_map,hpl]
 have hzip:(keys.zip vs.toArray).toList=ts.map (fun t=>(Value.ref t.2.1,t.2.2)):=by rw[ksk_zip,ek,t2]
 have hzs:(keys.zip vs.toArray).size=items.length:=by rw[Array.size_zip,hks,List.size_toArray,hlen,Nat.min_self]
 obtain⟨gk,nk,_,_⟩:=I.at1
 obtain⟨gd,nd,_,_⟩:=I.Az.at1
 have hkd:D≠kS:=mk.2.2 (D,seqObj "list" #[] e1) (List.mem_append_right _ List.mem_cons_self)
 have keyAt:∀t∈ts,PyProof.Rows.G.tupKeyC s.heap (fun _=>false) (.ref t.2.1)=some ((key t.1).map Sum.inl):=fun t ht=>Ye I.hok (t3 t ht).1
 have h0:KeysOf (PyProof.Rows.G.tupKindC s.heap (fun _=>false)) (keys.zip vs.toArray):=fun p hp=>by
  rw[hzip]at hp
  obtain⟨t,ht,rfl⟩:=List.mem_map.mp hp
  exact⟨_,keyAt t ht⟩
 have tail:∀st:SortSt,(arrOf st).Perm (keys.zip vs.toArray)->failedOf st=none->SortedToK (PyProof.Rows.G.tupKindC s.heap (fun _=>false)) (arrOf st) (arrOf st).size ->
   wpAny (model X.prog X.w) A (ksk_tail D false e1 (.ref kS) st) R E s:=fun st hp hf hs=>by
  have hpl2:(arrOf st).toList.Perm (ts.map fun t=>(Value.ref t.2.1,t.2.2)):=by rw[← hzip];exact Array.perm_iff_toList_perm.mp hp
  obtain⟨ts',p',e'⟩:=Hq _ hpl2
  have hsz:(arrOf st).size=items.length:=by rw[hp.size_eq,hzs]
  have h0':KeysOf (PyProof.Rows.G.tupKindC s.heap (fun _=>false)) (arrOf st):=fun p hp2=>h0 p (Array.perm_iff_toList_perm.mp hp |>.mem_iff.mp hp2)
  have pw:=keyLe_of_sorted h0' hs
  rw[e',List.pairwise_map]at pw
  have s1:=Heap.SameBut.update s.heap kS (Obj.mapSeq fun _=>(#[]:Array Value))
  obtain⟨c1,hc1⟩:=El gk fun _=> #[]
  have I1:=I.JB (tk:=s.toks) mk s1 hc1 Bg
  have gd1:=I1.Az.at1.1
  have e2:(arrOf st).map (·.2)=(ts'.map fun t=>t.2.2).toArray:=by
   apply Array.toList_inj.mp
   rw[Array.toList_map,e',List.map_map]
   rfl
  unfold ksk_tail
  dsimp only
  refine wpAny_bind (listUpdate_at gk rfl ?_ (by rw[hks];exact hz) (Nat.zero_le _))
  refine wpAny_bind (wpAny_letGo ?_)
  refine wpAny_bind (seqEpoch_at gd1 rfl ?_)
  refine wpAny_bind (listUpdate_at gd1 rfl ?_ (Nat.zero_le _) ?_)
  rotate_left
  ·rw[if_neg Bool.false_ne_true,Array.size_map,hsz]
   omega
  rw[hf]
  simp only[bne_self_eq_false,Bool.false_eq_true,if_false]
  refine wpAny_pure (h (ts'.map (·.1)) _ ?_ ?_ ?_)
  ·have s2:=Heap.SameBut.update (s.heap.update kS (Obj.mapSeq fun _=>(#[]:Array Value))) D (Obj.mapSeq fun _=>(arrOf st).map (·.2))
   obtain⟨c2,hc2⟩:=El gd1 fun _=>(arrOf st).map (·.2)
   have I2:=I1.Az.JB (tk:=s.toks) md s2 hc2 Bg
   refine I2.Az.track md nd I2.at1.2.2.1 ⟨?_,ts'.map (fun t=>t.2.2),c2,?_,?_⟩
   ·rw[List.length_map,List.length_map,p'.length_eq,← List.length_map (f:=(·.1)),t1];exact hz
   ·rw[List.map_map]
    exact PJ fun t ht=>(t3 t (p'.mem_iff.mp ht)).2
   ·rw[hc2,e2]
  ·rw[← t1]
   exact p'.map _
  ·rw[List.pairwise_map]
   refine List.Pairwise.imp_of_mem (fun {x y} hx hy q=>?_) pw
   have q2:KeyLe (PyProof.Rows.G.tupKindC s.heap (fun _=>false)) (Value.ref x.2.1,x.2.2) (Value.ref y.2.1,y.2.2):=q
   unfold KeyLe at q2
   obtain⟨a,b,ka,kb,le⟩:=q2
   have ka':=keyAt x (p'.mem_iff.mp hx)
   have kb':=keyAt y (p'.mem_iff.mp hy)
   have ka2:PyProof.Rows.G.tupKeyC s.heap (fun _=>false) (.ref x.2.1)=some a:=ka
   have kb2:PyProof.Rows.G.tupKeyC s.heap (fun _=>false) (.ref y.2.1)=some b:=kb
   rw[ka']at ka2
   rw[kb']at kb2
   cases ka2
   cases kb2
   have le':lexLt itemOrd ((key y.1).map Sum.inl) ((key x.1).map Sum.inl)=false:=le
   rw[Q5]at le'
   exact le'
 unfold ksk_end
 dsimp only
 rw[if_neg Bool.false_ne_true]
 by_cases h2:vs.toArray.size < 2
 ·rw[if_pos h2,if_pos h2]
  refine wpAny_bind (wpAny_pure ?_)
  rw[StateT.run_pure]
  refine wpAny_bind (wpAny_pure ?_)
  refine tail (SortSt.mk' general' (if false=true then(keys.zip vs.toArray).reverse else keys.zip vs.toArray) #[] 7 none) (Array.Perm.refl _) rfl ?_
  intro i j hij hj
  have hj2:j < (keys.zip vs.toArray).size:=hj
  rw[hzs,← hlen]at hj2
  rw[List.size_toArray]at h2
  have:i=j:=by omega
  subst this
  exact KeyOrd.kle_refl _
 ·rw[if_neg h2,if_neg h2]
  rw[List.size_toArray]at h2
  obtain⟨fs,hfs⟩:=Tr I.hok ps (by
   intro p hp
   obtain⟨i,hi⟩:=List.getElem?_of_mem hp
   obtain⟨li,_⟩:=List.getElem?_eq_some_iff.mp hi
   have ha:i < items.length:=by omega
   obtain⟨p',hp',hpk⟩:=Qw km.pr (i:=i) (a:=items[i]) (by simp[ha])
   rw[hi]at hp'
   cases hp'
   obtain⟨k,r,ek⟩:=hk items[i] (List.getElem_mem ha)
   exact⟨k,r,by rw[← ek];exact hpk⟩)
  have eka:keys=(ps.map Value.ref).toArray:=by rw[← ek,Array.toArray_toList]
  refine wpAny_bind ?_
  rw[show keyKind' keys=keyKind' (ps.map Value.ref).toArray by rw[← eka]]
  refine tup_kind (by rw[PyProof.Rows.G.TupsOf.length hfs,List.length_map];omega) hfs ?_
  refine wpAny_bind (wpAny_mono (PyProof.Rows.G.wpS_sortRunsSt (κ:=PyProof.Rows.G.tupKindC s.heap (fun _=>false)) (kd:=tuples' true) (a₀:=keys.zip vs.toArray) (st:=SortSt.mk' (tuples' true) (if false=true then(keys.zip vs.toArray).reverse else keys.zip vs.toArray) #[] 7 none)
   (Q:=fun _ st'=>(arrOf st').Perm (keys.zip vs.toArray)∧failedOf st'=none∧SortedToK (PyProof.Rows.G.tupKindC s.heap (fun _=>false)) (arrOf st') (keys.zip vs.toArray).size)
   (PyProof.Rows.G.tupC_ltAt true (PyProof.Rows.G.KeepsTups.refl _)) h0 ⟨Array.Perm.refl _,rfl,rfl⟩ rfl (Stable.refl _) (by rw[hzs];omega) fun st' a1 a2 a3 _=>⟨a1,a2,a3⟩) ?_ fun _ _ e=>e)
  rintro⟨⟨⟩,st'⟩ s' ⟨rfl,hp,hf,hs⟩
  exact tail st' hp hf (by rw[hp.size_eq];exact hs)
end
end L2
namespace L2
open PySem PySem.Spec PyProof.Rows
open Nm (Tab TabOk Ek Cl Jx Ext)
section
variable {X:Cx}{pins:List (Addr×Obj)}{σ:St}{H:Hp}{s:Shared}
theorem Inv.SM {o:Obj}(I:Inv X pins σ H s)(d:∀v,o.data≠ .cell v)(tk:Nat)(hf:o.isFreed=false:=by rfl):Inv X ((s.heap.objs.size,o)::pins) σ H {s with heap:=s.heap.push o,toks:=tk}∧Gf X pins s.heap.objs.size:=by
 have f:Jd X pins H s.heap.objs.size:=I.Z1 (Nat.le_refl _) (I.hok.fresh (Nat.le_refl _))
 have I1:Inv X pins σ H {s with heap:=s.heap.push o,toks:=tk}:=I.kept (t':=tk) fun b u e=>Heap.get?_push_of_some _ e
 exact⟨I1.Oo f (Heap.get?_push_size _ hf) d,f.mine⟩
theorem Ah4 {α:Type}{items:List α}{f:α->V}{key:α->List Int}{C:Cl}{D kS q:Addr}{oq:Obj}{e1:Nat}{vs:List Value}{A:Around}{E:Value->Shared->Prop}{R:PySem.Fin->Shared->Prop}
  (I:Inv X ((kS,seqObj "list" #[] 0)::(D,seqObj "list" #[] e1)::(q,oq)::pins) σ H s) (mk:Gf X ((D,seqObj "list" #[] e1)::(q,oq)::pins) kS) (md:Gf X ((q,oq)::pins) D) (hv:Vals (items.map f) vs) (hz:items.length<=sizeLine)
  (hk:∀a∈items,∃k r,key a=k::r)
  (CB:∀a∈items,∀u pins2 s2 H2,RelV (f a) u->Inv X pins2 σ H2 s2->Ext C H H2->s2.heap.get? q=some oq ->
   wpAny (model X.prog X.w) A (call (.ref q) [u]) (fun v s3=>∃p H3,Inv X pins2 σ H3 s3∧v= .ref p∧H3 p=some (.tup ((key a).map V.int))∧Ext C H2 H3) (fun _ _=>False) s2)
  (h:∀H' (out:List α) s',Inv X ((q,oq)::pins) σ (upd H' D (.lst (out.map f))) s'->Ext C H H'->H' D=none->out.Perm items->out.Pairwise (fun x y=>Vbnlag.less (key y) (key x)=false)->R (.done (.ret .none)) s') :
  wpAny (model X.prog X.w) A (ksk_rest D (.ref q) false vs.toArray e1 (.ref kS)) R E s:=by
 have hlen:vs.length=items.length:=by rw[← hv.length,List.length_map]
 have hz2:=hz
 rw[sizeLine_eq]at hz2
 unfold ksk_rest
 refine wpAny_bind (wpAny_rule ?_)
 rw[List.forIn_toArray]
 refine wpAny_bind (ksk_fold (fun i s'=>∃H' keys e ps,Inv X ((kS,seqObj "list" keys e)::(D,seqObj "list" #[] e1)::(q,oq)::pins) σ H' s'∧Ext C H H'∧keys.toList=ps.map Value.ref∧Wo key H' (items.take i) ps) vs 0 s
  ⟨H,#[],0,[],I,Ext.refl _ _,rfl,⟨.nil⟩⟩ ?step ?done)
 case step =>
  rintro j x s' hx ⟨H',keys,e,ps,I',e',ek,km⟩
  rw[Nat.zero_add]at km ⊢
  have hj:j < vs.length:=(List.getElem?_eq_some_iff.mp hx).1
  have hji:j < items.length:=by omega
  have ha:items[j]?=some items[j]:=by simp[hji]
  have rx:RelV (f items[j]) x:=by
   obtain⟨u,hu,ru⟩:=hv.get (i:=j) (x:=f items[j]) (by rw[List.getElem?_map,ha];rfl)
   rw[hx]at hu
   cases hu
   exact ru
  have hpl:ps.length=j:=by
   have:=Paired.length km.pr
   rw[List.length_take]at this
   omega
  have hks:keys.size=j:=by rw[← Array.length_toList,ek,List.length_map,hpl]
  refine wpAny_bind (wpAny_attempt (wpAny_mono (CB items[j] (List.getElem_mem hji) x _ s' H' rx I' e' I'.Az.Az.at1.1) (fun v s'' hq=>?_) fun _ _ hF=>hF.elim))
  obtain⟨p,H3,I3,rfl,hp,e3⟩:=hq
  dsimp only
  have g3:=I3.at1.1
  have s1:=Heap.SameBut.update s''.heap kS (Obj.mapSeq (·.push (.ref p)))
  obtain⟨c2,hc2⟩:=El g3 (·.push (.ref p))
  refine wpAny_bind (listUpdate_at g3 rfl ?_ (by rw[hks,sizeLine_eq];omega) (Nat.le_trans (Nat.le_of_eq (Array.size_push ..)) (by rw[hks,sizeLine_eq];omega)))
  refine wpAny_pure ⟨rfl,H3,keys.push (.ref p),c2,ps++[p],I3.JB (tk:=s''.toks) mk s1 hc2 Bg,e'.trans e3,by rw[Array.toList_push,ek,List.map_append];rfl,?_⟩
  rw[List.take_add_one,ha]
  exact km.snoc (fun b zs z=>e3.tup z) hp
 case done =>
  rintro s' ⟨H',keys,e,ps,I',e',ek,km⟩
  rw[Nat.zero_add,List.take_of_length_le (by omega)]at km
  have g:=I'.at1.1
  refine wpAny_bind (listItems_at g rfl ?_)
  exact An8 I' mk md hv hz ek km hk fun out s'' I2 p1 p2=>h H' out s'' I2 e' I'.Az.at1.2.1 p1 p2
theorem Ac9 {α:Type}{items:List α}{f:α->V}{key:α->List Int}{C:Cl}{l q:Addr}{oq:Obj}{A:Around}{E:Value->Shared->Prop}{Q:Value->Shared->Prop}
  (I:Inv X ((q,oq)::pins) σ H s) (hl:SqL X.K H l (items.map f)) (hk:∀a∈items,∃k r,key a=k::r)
  (CB:∀a∈items,∀u pins2 s2 H2,RelV (f a) u->Inv X pins2 σ H2 s2->Ext C H H2->s2.heap.get? q=some oq ->
   wpAny (model X.prog X.w) A.in1.in1 (call (.ref q) [u]) (fun v s3=>∃p H3,Inv X pins2 σ H3 s3∧v= .ref p∧H3 p=some (.tup ((key a).map V.int))∧Ext C H2 H3) (fun _ _=>False) s2)
  (h:∀D H' (out:List α) s',Inv X ((q,oq)::pins) σ (upd H' D (.lst (out.map f))) s'->Ext C H H'->H' D=none->out.Perm items->out.Pairwise (fun x y=>Vbnlag.less (key y) (key x)=false)->Q (.ref D) s') :
  wpAny (model X.prog X.w) A (call (.builtin "sorted") [.ref l] [(Str.ofString "key",.ref q)]) Q E s:=by
 obtain⟨vs,hv,pl,hz⟩:=I.list hl
 rw[List.length_map]at hz
 have hlen:vs.length=items.length:=by rw[← hv.length,List.length_map]
 have hz2:=hz
 rw[sizeLine_eq]at hz2
 refine call_function_entry_kw kind_sorted plain_sorted entry_sorted (ksk_s1 _ _) ?_
 unfold Builtin.«sorted»
 refine wpAny_bind (m:=checkCount "sorted" 1 1 _) (wpAny_pure ?_)
 refine wpAny_bind (collect_list pl.isList ?_ (by rw[sizeLine_eq];omega))
 have k1:∀b o,s.heap.get? b=some o->((s.heap.push (seqObj "list" #[] 0)).update s.heap.objs.size (Obj.mapSeq (· ++vs.toArray))).get? b=some o:=fun b o e=>by
  have hlt:b < s.heap.objs.size:=Heap.lt_size e
  rw[Heap.get?_update_ne _ _ _ _ (Nat.ne_of_lt hlt)]
  exact Heap.get?_push_of_some _ e
 have I1:Inv X ((q,oq)::pins) σ H {s with heap:=(s.heap.push (seqObj "list" #[] 0)).update s.heap.objs.size (Obj.mapSeq (· ++vs.toArray))}:=I.kept (t':=s.toks) k1
 refine wpAny_bind (wpAny_newList ?_ (by rw[sizeLine_eq];omega))
 obtain⟨I2,m2⟩:=I1.SM (o:=seqObj "list" vs.toArray 0) Bg s.toks
 generalize hD:({s with heap:=(s.heap.push (seqObj "list" #[] 0)).update s.heap.objs.size (Obj.mapSeq (· ++vs.toArray))}:Shared).heap.objs.size=D at I2 m2 ⊢
 have g2:=I2.at1.1
 refine wpAny_bind (wpAny_holding (wpAny_call_entry_kw slot_list_sort ⟨_,g2,rfl⟩ entry_list_sort ?body (ksk_l1 _ _)))
 case body =>
  show wpAny (model X.prog X.w) A.in1.in1 (Builtin.«list.sort» ⟨[.ref D],[(Str.ofString "key",.ref q)]⟩) _ _ _
  rw[ksk_t1]
  unfold ksk_tree
  refine wpAny_bind (listItems_at g2 rfl ?_)
  obtain⟨c3,hc3⟩:=El g2 fun _=> #[]
  have I3:=I2.JB (tk:=s.toks) m2 (Heap.SameBut.update _ D (Obj.mapSeq fun _=> #[])) hc3 Bg
  refine wpAny_bind (listUpdate_at g2 rfl ?_ (by rw[List.size_toArray,sizeLine_eq];omega) (Nat.zero_le _))
  refine wpAny_bind (seqEpoch_at hc3 rfl ?_)
  refine wpAny_bind (wpAny_newTuple ?_ (by show vs.length<=_;rw[sizeLine_eq];omega))
  have I4:=I3.kept (t':=s.toks) (h':=Heap.push _ (seqObj "tuple" vs.toArray 0)) fun b o e=>Heap.get?_push_of_some _ e
  refine wpAny_bind (wpAny_newList ?_ (Nat.zero_le _))
  obtain⟨I5,m5⟩:=I4.SM (o:=seqObj "list" #[] 0) Bg s.toks
  refine wpAny_holding ?_
  refine Ah4 I5 m5 m2 hv hz hk CB fun H' out s' I6 e6 n6 p1 p2=>⟨_,rfl,?_⟩
  exact wpAny_pure ⟨_,rfl,h D H' out s' I6 e6 n6 p1 p2⟩
end
end L2
namespace HT
open PySem PyProof.Rows
section
open PySem.SeqAt
open PySem.AutoSeq1 (wpAny_loadPart')
open PySem.MeetsSeq PySem.MeetsSeq2 PySem.MeetsSeq3
theorem Ae2 (A:Around)(s:Shared)(a:Int)(t:Tok)(c:Int)(u:Tok)(prog:Program)(w:World)(E:Value->Shared->Prop)(Q:Value->Shared->Prop)(h:Q (.bool (decide (c < a))) s) :
  wpAny (model prog w) A (richCompare .Gt (.int a t) (.int c u)) Q E s :=
 (PyProof.Rows.gt_int h:wpAny (model prog w) A (compareOp .Gt (.int a t) (.int c u)) Q E s)
theorem Rx (l b:Addr)(items items2:Array Value)(n n2:Nat)(dd dd2:Option Addr)(sl sl2:Array (Option Value))(ns ms:List Int)(hi:IntsAre items.toList ns)(hj:IntsAre items2.toList ms) :
  Meets (Builtin.«tuple.__gt__» ⟨[.ref l,.ref b],[]⟩)
   (fun _ R s=>s.heap.get? l=some {cls:= .type "tuple",dict:=dd,data:= .seq items n,slots:=sl}∧s.heap.get? b=some {cls:= .type "tuple",dict:=dd2,data:= .seq items2 n2,slots:=sl2} ∧
    R (.ok (.ret (.bool (lexLt ms ns)))) s) :=
 .of_wp fun prog w A R s h=>by
  obtain⟨hp,g,d,tk,os⟩:=s;obtain⟨hl,hb,h⟩:=h
  have f2:=AutoSeq1.sub_tuple_tuple
  have z1:items.size=ns.length:=by rw[← hi.length];simp
  have z2:items2.size=ms.length:=by rw[← hj.length];simp
  wp_walk using wpAny_loadPart' hl,wpAny_loadPart' hb,wpAny_forIn_list _ (fun rest b s'=>b.1=none∧s'=⟨hp,g,d,tk,os⟩∧∃(vs ws:List Value) (ns' ms':List Int),rest=vs.zip ws ∧
   IntsAre vs ns'∧IntsAre ws ms'∧ns'.length + items2.size=ms'.length + items.size∧R (.ok (.ret (.bool (lexLt ms' ns')))) ⟨hp,g,d,tk,os⟩) _
  case turn =>
   rintro⟨y,x⟩ rest b s' ⟨hb',rfl,vs,ws,ns',ms',hz,hvi,hwi,hlen,hR⟩
   cases hvi with
   | nil=>rw[List.zip_nil_left]at hz;cases hz
   | cons a t hvi' =>
    cases hwi with
    | nil=>rw[List.zip_nil_right]at hz;cases hz
    | cons c u hwi' =>
     rw[List.zip_cons_cons]at hz
     injection hz with hyx hrest
     injection hyx with hy hx
     subst hy hx
     rw[Q6]at hR
     simp only[List.length_cons]at hlen
     obtain⟨e,he,hiff⟩:=V3 A.in1 ⟨hp,g,d,tk,os⟩ a t c u
     refine wpAny_bind (he prog w _ _ ?_)
     cases e with
     | true =>
      rw[if_pos (hiff.mp rfl).symm]at hR
      wp_walk
      exact⟨rfl,rfl,_,_,_,_,hrest,hvi',hwi',by omega,hR⟩
     | false =>
      rw[if_neg (fun q=>absurd (hiff.mpr q.symm) Bool.false_ne_true)]at hR
      have hri:=Ae2 A.in1 ⟨hp,g,d,tk,os⟩ a t c u prog w
      wp_walk using hri
      exact⟨_,rfl,by simpa using hR⟩
  case fin =>
   rintro⟨b1,b2⟩ s' ⟨hb',rfl,vs,ws,ns',ms',hz,hvi,hwi,hlen,hR⟩
   simp only at hb'
   subst hb'
   have hv:lexLt ms' ns'=decide (items2.size < items.size):=by
    cases hvi with
    | nil =>
     cases hwi with
     | nil =>
      simp only[List.length_nil]at hlen
      rw[JF]
      exact(decide_eq_false (by omega)).symm
     | cons c u hw =>
      simp only[List.length_nil,List.length_cons]at hlen
      rw[Iw]
      exact(decide_eq_false (by omega)).symm
    | cons a t hv =>
     cases hwi with
     | nil =>
      simp only[List.length_nil,List.length_cons]at hlen
      rw[Iv]
      exact(decide_eq_true (by omega)).symm
     | cons c u hw =>
      rw[List.zip_cons_cons]at hz
      cases hz
   rw[hv]at hR
   wp_walk
   exact⟨_,rfl,by simpa[Builtin.Tuple.tupleCompareSizes]using hR⟩
  case h =>
   exact⟨rfl,rfl,items.toList,items2.toList,ns,ms,rfl,hi,hj,by omega,h⟩
end
section
variable {prog:Program}{w:World}{A:Around}{E:Value->Shared->Prop}{s:Shared}
theorem XC {l b:Addr}{items items2:Array Value}{ns ms:List Int}{Q:Value->Shared->Prop}(hl:IsTup s.heap l items)(hb:IsTup s.heap b items2)(hi:IntsAre items.toList ns)(hj:IntsAre items2.toList ms)
  (hu:A.units < cLine) (h:Q (.bool (lexLt ms ns)) s):wpAny (model prog w) A (richCompare .Gt (.ref l) (.ref b)) Q E s:=by
 obtain⟨⟨cls,dd,data,sl⟩,ho,hc,n,hd⟩:=id hl
 obtain⟨⟨cls2,dd2,data2,sl2⟩,ho2,hc2,n2,hd2⟩:=id hb
 simp only at hc hd hc2 hd2
 subst hc hd hc2 hd2
 exact richCompare_meets_room (op:= .Gt) ⟨_,ho,rfl⟩ ⟨_,ho2,rfl⟩ PySem.F.slot_tuple_gt PySem.F.entry_tuple_gt (PySem.F.args_tuple_gt_2 _ _) (Rx l b items items2 n n2 dd dd2 sl sl2 ns ms hi hj)
  ⟨ho,ho2,show Value.bool (lexLt ms ns)≠Value.notImplemented∧Q (.bool (lexLt ms ns)) s from⟨(fun x=>nomatch x),h⟩⟩ hu
theorem Ht:∀a b:List Int,lexLt a b=Vbnlag.less a b
 | [],[]=>rfl
 | [],_::_=>rfl
 | _::_,[]=>rfl
 | x::r,y::t=>by
  show(if x=y then lexLt r t else decide (x < y))=(decide (x < y)|| (decide (x=y)&&Vbnlag.less r t))
  rw[Ht r t]
  by_cases h:x=y
  ·subst h;simp
  ·simp[h]
end
end HT
namespace L2
open PySem PySem.Spec PyProof.Rows
open Nm (Tab TabOk Ek Cl Jx Ext)
section
variable {X:Cx}{pins:List (Addr×Obj)}{σ:St}{H:Hp}{s:Shared}
theorem DX {α:Type}{adr:α->Addr}:∀{items:List α}{us:List Value},Vals (items.map fun a=>V.ref (adr a)) us->us=items.map fun a=>Value.ref (adr a)
 | [],_,r=>by cases r;rfl
 | a::l,_,r=>by
  rw[List.map_cons]at r
  cases r with
  | cons r1 r2 =>
   cases r1
   rw[List.map_cons,DX r2]
theorem Gf.drop {p:Addr×Obj}{b:Addr}(m:Gf X (p::pins) b):Gf X pins b:=⟨m.1,m.2.1,fun q hq=>m.2.2 q (by
 rcases List.mem_append.mp hq with z | z
 ·exact List.mem_append_left _ z
 ·exact List.mem_append_right _ (List.mem_cons_of_mem _ z))⟩
theorem Gf.re {b c:Addr}{o o':Obj}(m:Gf X ((c,o)::pins) b):Gf X ((c,o')::pins) b:=m.drop.swap (m.2.2 (c,o) (List.mem_append_right _ List.mem_cons_self))
structure Ay1 (X:Cx)(C:Cl){α:Type}(kv:α->Value->Hp->Prop)(bt:α->α->Bool)(A:Around):Prop where
 ext:∀a v H H',kv a v H->Ext C H H'->kv a v H'
 cmp:∀a b va vb pins σ H s (Q:Value->Shared->Prop) (E:Value->Shared->Prop),Inv X pins σ H s->kv a va H->kv b vb H->Q (.bool (bt a b)) s->wpAny (model X.prog X.w) A (richCompare .Gt va vb) Q E s
theorem Ag5 {α:Type}{items:List α}{adr:α->Addr}{kv:α->Value->Hp->Prop}{bt:α->α->Bool}{C:Cl}{l q S It:Addr}{oq:Obj}{A:Around}{R:Result->Shared->Prop}
  (hh:A.handled=none) (M:Ay1 X C kv bt A.in1) (le:α->α->Prop) (hr:∀a,le a a) (ht:∀a b c,le a b->le b c->le a c) (hb:∀a b,bt a b=true->le b a) (hnb:∀a b,bt a b=false->le a b)
  (hl:SqL X.K H l (items.map fun a=>V.ref (adr a))) (hlI:l≠It)
  (mS:∀o,Gf X ((It,o)::(q,oq)::pins) S) (mI:Gf X ((q,oq)::pins) It)
  (CB:∀a∈items,∀pins2 s2 H2,Inv X pins2 σ H2 s2->Ext C H H2->s2.heap.get? q=some oq ->
   wpAny (model X.prog X.w) A.in1 (call (.ref q) [.ref (adr a)]) (fun v s3=>∃H3,Inv X pins2 σ H3 s3∧kv a v H3∧Ext C H2 H3) (fun _ _=>False) s2)
  (hR:∀a∈items,∀H' s',Inv X ((q,oq)::pins) σ H' s'->Ext C H H'->(∀b∈items,le b a)->R (.ok (.ret (.ref (adr a)))) s') :
  ∀(r j:Nat) (H':Hp) (s:Shared) (b:α) (vb:Value) (c:Nat) (oI:Obj),items.length - j=r->j<=items.length->b∈items->kv b vb H'->(∀x∈items.take j,le x b)->Ext C H H' ->
   Inv X ((S,seqObj "list" #[.ref (adr b),vb] c)::(It,oI)::(q,oq)::pins) σ H' s->s.heap.IsListIter It l j ->
   codeAny (model X.prog X.w) A (.builtin "max.loop" ⟨[.ref It,.ref q,.ref S],[]⟩) R s:=by
 have hname:(toString "max" ++toString ".loop" :String)= "max.loop" :=by decide
 have W:=Walks.list (prog:=X.prog) (w:=X.w) (A:=A.in1) hh It l hlI (items.map fun a=>Value.ref (adr a)).toArray
 have hsz:(items.map fun a=>Value.ref (adr a)).toArray.size=items.length:=by rw[List.size_toArray,List.length_map]
 have isl:∀{pins2 H2 s2},Inv X pins2 σ H2 s2->Ext C H H2->s2.heap.IsList l (items.map fun a=>Value.ref (adr a)).toArray:=fun {pins2 H2 s2} J e=>by
  obtain⟨its,rv,pl,_⟩:=J.list (e.Dn hl)
  rw[DX rv]at pl
  exact pl.isList
 intro r
 induction r with
 | zero =>
  intro j H' s b vb c oI hj hj2 hbm hkv hle e I hit
  have ej:j=items.length:=by omega
  subst ej
  have gS:=I.at1.1
  refine codeAny_builtin PySem.F.entry_max_loop ?_
  rw[Around.under_plainId PySem.F.plain_max_loop _]
  show wpAny _ A.in1 (seqItems? (.ref S) >>=_) _ _ _
  refine wpAny_bind (wpAny_seqItems gS rfl ?_)
  show wpAny _ A.in1 (tryCatch (pyNext (.ref It)) _ >>=_) _ _ _
  refine wpAny_bind (wpAny_tryCatch (W.done _ _ _ ⟨by rw[hsz];exact hit,isl I e⟩ fun h' tk' hk'=>?_))
  have I1:Inv X ((q,oq)::pins) σ H' {s with heap:=h',toks:=tk'}:=I.Az.Az.turned (t':=tk') (fun b o hb hu=>hk' b o (by simpa using hb) hu) I.Az.at1.2.1 I.Az.at1.2.2.1 mI.1 mI.2.1 mI.2.2
  have nSI:S≠It:=fun z=>(mS oI).2.2 (It,oI) (List.mem_append_right _ List.mem_cons_self) z.symm
  have gS':h'.get? S=some (seqObj "list" #[.ref (adr b),vb] c):=hk' S _ (by simpa using nSI) gS
  have fS:Jd X ((q,oq)::pins) H' S:=⟨I.at1.2.1,I.at1.2.2.1,I.at1.2.2.2,(mS oI).drop.1,(mS oI).drop.2.1,(mS oI).drop.2.2⟩
  have I2:=I1.Oo (b:=S) fS gS' Bg
  show wpAny _ A.in1 (updateSeq S (fun _=> #[]) >>=_) _ _ _
  obtain⟨c3,hc3⟩:=El gS' fun _=> #[]
  refine wpAny_bind (wpAny_updateSeq gS' rfl (wpAny_bind (wpAny_letGo (wpAny_pure ?_))))
  refine hR b hbm H' _ (I2.JB (tk:=tk') (mS oI).drop (Heap.SameBut.update h' S (Obj.mapSeq fun _=> #[])) hc3 Bg).Az e fun x hx=>hle x (by rw[List.take_length];exact hx)
 | succ r ih =>
  intro j H' s b vb c oI hj hj2 hbm hkv hle e I hit
  have hlt:j < items.length:=by omega
  have gS:=I.at1.1
  refine codeAny_builtin PySem.F.entry_max_loop ?_
  rw[Around.under_plainId PySem.F.plain_max_loop _]
  show wpAny _ A.in1 (seqItems? (.ref S) >>=_) _ _ _
  refine wpAny_bind (wpAny_seqItems gS rfl ?_)
  show wpAny _ A.in1 (tryCatch (pyNext (.ref It)) _ >>=_) _ _ _
  refine wpAny_bind (wpAny_tryCatch (W.item j _ _ _ (by rw[hsz];exact hlt) ⟨hit,isl I e⟩ fun v h' tk' hP hst' hk'=>?_))
  have hv:v= .ref (adr items[j]):=by
   have:(items.map fun a=>Value.ref (adr a))[j]?=some v:=by simpa using hP
   rw[List.getElem?_map,List.getElem?_eq_getElem hlt]at this
   exact(Option.some.inj this).symm
  subst hv
  obtain⟨oI',hoI',hoc,hod⟩:=id hst'.1
  have nSI:S≠It:=fun z=>(mS oI).2.2 (It,oI) (List.mem_append_right _ List.mem_cons_self) z.symm
  have ncI:∀v,oI'.data≠ .cell v:=fun v z=>by rw[hod]at z;cases z
  have I0:Inv X ((q,oq)::pins) σ H' {s with heap:=h',toks:=tk'}:=I.Az.Az.turned (t':=tk') (fun b o hb hu=>hk' b o (by simpa using hb) hu) I.Az.at1.2.1 I.Az.at1.2.2.1 mI.1 mI.2.1 mI.2.2
  have I1:Inv X ((It,oI')::(q,oq)::pins) σ H' {s with heap:=h',toks:=tk'}:=I0.Oo ⟨I.Az.at1.2.1,I.Az.at1.2.2.1,I.Az.at1.2.2.2,mI.1,mI.2.1,mI.2.2⟩ hoI' ncI
  have gS':h'.get? S=some (seqObj "list" #[.ref (adr b),vb] c):=hk' S _ (by simpa using nSI) gS
  have I2:=I1.Oo (b:=S) ⟨I.at1.2.1,I.at1.2.2.1,I.at1.2.2.2,(mS oI').1,(mS oI').2.1,(mS oI').2.2⟩ gS' Bg
  show wpAny _ A.in1 (tryCatch (holding [Value.ref (adr items[j])] (call (.ref q) [Value.ref (adr items[j])])) _ >>=_) _ _ _
  refine wpAny_bind (wpAny_tryCatch (wpAny_holding (wpAny_mono (CB items[j] (List.getElem_mem hlt) _ _ H' I2 e I2.Az.Az.at1.1) (fun y s3 hy=>?_) fun _ _ hF=>hF.elim)))
  obtain⟨H3,I3,k3,e3⟩:=hy
  have e3':=e.trans e3
  have kb3:=M.ext _ _ _ _ hkv e3
  have it3:s3.heap.IsListIter It l (j + 1):=⟨oI',I3.Az.at1.1,hoc,hod⟩
  have g3:=I3.at1.1
  have take:items.take (j + 1)=items.take j++[items[j]]:=by rw[List.take_add_one,List.getElem?_eq_getElem hlt];rfl
  show wpAny _ A.in1 (tryCatch (holding [Value.ref (adr items[j]),y] (richCompare .Gt y vb >>=_)) _ >>=_) _ _ _
  refine wpAny_bind (wpAny_tryCatch (wpAny_holding (wpAny_bind (M.cmp items[j] b y vb _ _ H3 _ _ _ I3 k3 kb3 ?_))))
  refine wpAny_bind (wpAny_holding (wpAny_truthy_bool ?_))
  refine wpAny_bind (wpAny_letGo (wpAny_pure ?_))
  cases hbt:bt items[j] b with
  | true =>
   rw[if_pos rfl]
   obtain⟨c4,hc4⟩:=El g3 fun _=> #[Value.ref (adr items[j]),y]
   refine wpAny_bind (wpAny_updateSeq g3 rfl (wpAny_bind (wpAny_letGo ?_)))
   rw[hname]
   refine wpAny_pure ⟨plainId_quiet PySem.F.plain_max_loop _,ih (j + 1) H3 _ items[j] y c4 oI' (by omega) hlt (List.getElem_mem hlt) k3 (fun x hx=>?_) e3' (I3.JB (tk:=s3.toks) (mS oI') (Heap.SameBut.update s3.heap S (Obj.mapSeq fun _=> #[Value.ref (adr items[j]),y])) hc4 Bg) ?_⟩
   ·rw[take]at hx
    rcases List.mem_append.mp hx with z | z
    ·exact ht _ _ _ (hle x z) (hb _ _ hbt)
    ·have:x=items[j]:=by simpa using z
     rw[this];exact hr _
   ·exact⟨oI',((Heap.SameBut.update s3.heap S (Obj.mapSeq fun _=> #[Value.ref (adr items[j]),y])).2 It nSI.symm).trans I3.Az.at1.1,hoc,hod⟩
  | false =>
   rw[if_neg Bool.false_ne_true]
   refine wpAny_bind (wpAny_letGo ?_)
   rw[hname]
   refine wpAny_pure ⟨plainId_quiet PySem.F.plain_max_loop _,ih (j + 1) H3 _ b vb c oI' (by omega) hlt hbm kb3 (fun x hx=>?_) e3' I3 it3⟩
   rw[take]at hx
   rcases List.mem_append.mp hx with z | z
   ·exact hle x z
   ·have:x=items[j]:=by simpa using z
    rw[this];exact hnb _ _ hbt
theorem An2 {α:Type}{items:List α}{adr:α->Addr}{kv:α->Value->Hp->Prop}{bt:α->α->Bool}{C:Cl}{l q:Addr}{oq:Obj}{A:Around}{E:Value->Shared->Prop}{Q:Value->Shared->Prop}
  (hh:A.handled=none) (M:Ay1 X C kv bt A.in1) (le:α->α->Prop) (hr:∀a,le a a) (ht:∀a b c,le a b->le b c->le a c) (hb:∀a b,bt a b=true->le b a) (hnb:∀a b,bt a b=false->le a b)
  (I:Inv X ((q,oq)::pins) σ H s) (hl:SqL X.K H l (items.map fun a=>V.ref (adr a))) (hne:items≠[])
  (CB:∀a∈items,∀pins2 s2 H2,Inv X pins2 σ H2 s2->Ext C H H2->s2.heap.get? q=some oq ->
   wpAny (model X.prog X.w) A.in1 (call (.ref q) [.ref (adr a)]) (fun v s3=>∃H3,Inv X pins2 σ H3 s3∧kv a v H3∧Ext C H2 H3) (fun _ _=>False) s2)
  (hQ:∀a∈items,∀H' s',Inv X ((q,oq)::pins) σ H' s'->Ext C H H'->(∀b∈items,le b a)->Q (.ref (adr a)) s') :
  wpAny (model X.prog X.w) A (call (.builtin "max") [.ref l] [(Str.ofString "key",.ref q)]) Q E s:=by
 have hname:(toString "max" ++toString ".loop" :String)= "max.loop" :=by decide
 obtain⟨its,rv,pl,_⟩:=I.list hl
 rw[DX rv]at pl
 have hlt:0 < items.length:=List.length_pos_iff.mpr hne
 have hll:l < s.heap.objs.size:=let ⟨_,ho,_⟩:=pl.isList;Heap.lt_size ho
 refine kmk_tree PySem.F.kind_max PySem.F.plain_max PySem.F.entry_max (kmk_max_key _ _) ?_
 show wpAny _ A.in1 (Builtin.Builtins.bindParams "max" ["key", "default"] 0 ⟨[],[(Str.ofString "key",.ref q)]⟩ >>=_) _ _ s
 refine wpAny_bind (wpAny_of_eq (show Builtin.Builtins.bindParams "max" ["key", "default"] 0 ⟨[],[(Str.ofString "key",.ref q)]⟩=pure [some (.ref q),none] from rfl) ?_)
 refine wpAny_bind (wpAny_pure ?_)
 refine wpAny_bind (wpAny_pyIter_list pl.isList ?_)
 obtain⟨I1,mI⟩:=I.SM (o:={cls:= .type "list_iterator",data:= .fields #[.ref l,.int 0 0]}) (fun v z=>nomatch z) s.toks
 refine wpAny_bind (wpAny_newList ?_ (Nat.zero_le _))
 obtain⟨I2,mS⟩:=I1.SM (o:=seqObj "list" #[] 0) Bg s.toks
 rw[hname]
 generalize hS:({s with heap:=s.heap.push {cls:= .type "list_iterator",data:= .fields #[.ref l,.int 0 0]}}:Shared).heap.objs.size=S at I2 mS ⊢
 have hlI:l≠s.heap.objs.size:=Nat.ne_of_lt hll
 refine wpAny_pure ⟨plainId_quiet PySem.F.plain_max_loop _,?_⟩
 have W:=Walks.list (prog:=X.prog) (w:=X.w) (A:=A.in1) hh s.heap.objs.size l hlI (items.map fun a=>Value.ref (adr a)).toArray
 have hsz:(items.map fun a=>Value.ref (adr a)).toArray.size=items.length:=by rw[List.size_toArray,List.length_map]
 have gS:=I2.at1.1
 have gI:=I2.Az.at1.1
 obtain⟨its2,rv2,pl2,_⟩:=I2.list hl
 rw[DX rv2]at pl2
 refine codeAny_builtin PySem.F.entry_max_loop ?_
 rw[Around.under_plainId PySem.F.plain_max_loop _]
 show wpAny _ A.in1 (seqItems? (.ref S) >>=_) _ _ _
 refine wpAny_bind (wpAny_seqItems gS rfl ?_)
 show wpAny _ A.in1 (tryCatch (pyNext (.ref s.heap.objs.size)) _ >>=_) _ _ _
 refine wpAny_bind (wpAny_tryCatch (W.item 0 _ _ _ (by rw[hsz];exact hlt) ⟨⟨_,gI,rfl,rfl⟩,pl2.isList⟩ fun v h' tk' hP hst' hk'=>?_))
 have hv:v= .ref (adr items[0]):=by
  have:(items.map fun a=>Value.ref (adr a))[0]?=some v:=by simpa using hP
  rw[List.getElem?_map,List.getElem?_eq_getElem hlt]at this
  exact(Option.some.inj this).symm
 subst hv
 obtain⟨oI',hoI',hoc,hod⟩:=id hst'.1
 have nSI:S≠s.heap.objs.size:=fun z=>mS.2.2 (s.heap.objs.size,_) (List.mem_append_right _ List.mem_cons_self) z.symm
 have ncI:∀v,oI'.data≠ .cell v:=fun v z=>by rw[hod]at z;cases z
 have J0:Inv X ((q,oq)::pins) σ H {s with heap:=h',toks:=tk'}:=I2.Az.Az.turned (t':=tk') (fun b o hb hu=>hk' b o (by simpa using hb) hu) I2.Az.at1.2.1 I2.Az.at1.2.2.1 mI.1 mI.2.1 mI.2.2
 have J1:Inv X ((s.heap.objs.size,oI')::(q,oq)::pins) σ H {s with heap:=h',toks:=tk'}:=J0.Oo ⟨I2.Az.at1.2.1,I2.Az.at1.2.2.1,I2.Az.at1.2.2.2,mI.1,mI.2.1,mI.2.2⟩ hoI' ncI
 have gS':h'.get? S=some (seqObj "list" #[] 0):=hk' S _ (by simpa using nSI) gS
 have mS':∀o,Gf X ((s.heap.objs.size,o)::(q,oq)::pins) S:=fun o=>mS.re
 have J2:=J1.Oo (b:=S) ⟨I2.at1.2.1,I2.at1.2.2.1,I2.at1.2.2.2,(mS' oI').1,(mS' oI').2.1,(mS' oI').2.2⟩ gS' Bg
 show wpAny _ A.in1 (tryCatch (holding [Value.ref (adr items[0])] (call (.ref q) [Value.ref (adr items[0])])) _ >>=_) _ _ _
 refine wpAny_bind (wpAny_tryCatch (wpAny_holding (wpAny_mono (CB items[0] (List.getElem_mem hlt) _ _ H J2 (Ext.refl _ _) J2.Az.Az.at1.1) (fun y s3 hy=>?_) fun _ _ hF=>hF.elim)))
 obtain⟨H3,I3,k3,e3⟩:=hy
 have g3:=I3.at1.1
 obtain⟨c4,hc4⟩:=El g3 fun _=> #[Value.ref (adr items[0]),y]
 show wpAny _ A.in1 (updateSeq S (fun _=> #[Value.ref (adr items[0]),y]) >>=_) _ _ _
 refine wpAny_bind (wpAny_updateSeq g3 rfl ?_)
 rw[hname]
 refine wpAny_pure ⟨plainId_quiet PySem.F.plain_max_loop _,Ag5 hh M le hr ht hb hnb hl hlI mS' mI CB (R:=fun r s'=>match r with | .ok (.ret v)=>Q v s' | .ok _=>False | .error e=>E e s') hQ (items.length - 1) 1 H3 _ items[0] y c4 oI' rfl hlt (List.getElem_mem hlt) k3 (fun x hx=>?_) e3
  (I3.JB (tk:=s3.toks) (mS' oI') (Heap.SameBut.update s3.heap S (Obj.mapSeq fun _=> #[Value.ref (adr items[0]),y])) hc4 Bg) ⟨oI',((Heap.SameBut.update s3.heap S (Obj.mapSeq fun _=> #[Value.ref (adr items[0]),y])).2 _ nSI.symm).trans I3.Az.at1.1,hoc,hod⟩⟩
 have:items.take 1=[items[0]]:=by
  cases items with
  | nil=>exact absurd rfl hne
  | cons a r=>rfl
 rw[this]at hx
 have:x=items[0]:=by simpa using hx
 rw[this];exact hr _
structure Ay0 (X:Cx)(C:Cl){α:Type}(kv:α->Value->Hp->Prop)(bt:α->α->Bool)(A:Around):Prop where
 ext:∀a v H H',kv a v H->Ext C H H'->kv a v H'
 cmp:∀a b va vb pins σ H s (Q:Value->Shared->Prop) (E:Value->Shared->Prop),Inv X pins σ H s->kv a va H->kv b vb H->Q (.bool (bt a b)) s->wpAny (model X.prog X.w) A (richCompare .Lt va vb) Q E s
theorem Ag4 {α:Type}{items:List α}{adr:α->Addr}{kv:α->Value->Hp->Prop}{bt:α->α->Bool}{C:Cl}{l q S It:Addr}{oq:Obj}{A:Around}{R:Result->Shared->Prop}
  (hh:A.handled=none) (M:Ay0 X C kv bt A.in1) (le:α->α->Prop) (hr:∀a,le a a) (ht:∀a b c,le a b->le b c->le a c) (hb:∀a b,bt a b=true->le b a) (hnb:∀a b,bt a b=false->le a b)
  (hl:SqL X.K H l (items.map fun a=>V.ref (adr a))) (hlI:l≠It)
  (mS:∀o,Gf X ((It,o)::(q,oq)::pins) S) (mI:Gf X ((q,oq)::pins) It)
  (CB:∀a∈items,∀pins2 s2 H2,Inv X pins2 σ H2 s2->Ext C H H2->s2.heap.get? q=some oq ->
   wpAny (model X.prog X.w) A.in1 (call (.ref q) [.ref (adr a)]) (fun v s3=>∃H3,Inv X pins2 σ H3 s3∧kv a v H3∧Ext C H2 H3) (fun _ _=>False) s2)
  (hR:∀a∈items,∀H' s',Inv X ((q,oq)::pins) σ H' s'->Ext C H H'->(∀b∈items,le b a)->R (.ok (.ret (.ref (adr a)))) s') :
  ∀(r j:Nat) (H':Hp) (s:Shared) (b:α) (vb:Value) (c:Nat) (oI:Obj),items.length - j=r->j<=items.length->b∈items->kv b vb H'->(∀x∈items.take j,le x b)->Ext C H H' ->
   Inv X ((S,seqObj "list" #[.ref (adr b),vb] c)::(It,oI)::(q,oq)::pins) σ H' s->s.heap.IsListIter It l j ->
   codeAny (model X.prog X.w) A (.builtin "min.loop" ⟨[.ref It,.ref q,.ref S],[]⟩) R s:=by
 have hname:(toString "min" ++toString ".loop" :String)= "min.loop" :=by decide
 have W:=Walks.list (prog:=X.prog) (w:=X.w) (A:=A.in1) hh It l hlI (items.map fun a=>Value.ref (adr a)).toArray
 have hsz:(items.map fun a=>Value.ref (adr a)).toArray.size=items.length:=by rw[List.size_toArray,List.length_map]
 have isl:∀{pins2 H2 s2},Inv X pins2 σ H2 s2->Ext C H H2->s2.heap.IsList l (items.map fun a=>Value.ref (adr a)).toArray:=fun {pins2 H2 s2} J e=>by
  obtain⟨its,rv,pl,_⟩:=J.list (e.Dn hl)
  rw[DX rv]at pl
  exact pl.isList
 intro r
 induction r with
 | zero =>
  intro j H' s b vb c oI hj hj2 hbm hkv hle e I hit
  have ej:j=items.length:=by omega
  subst ej
  have gS:=I.at1.1
  refine codeAny_builtin PySem.F.entry_min_loop ?_
  rw[Around.under_plainId PySem.F.plain_min_loop _]
  show wpAny _ A.in1 (seqItems? (.ref S) >>=_) _ _ _
  refine wpAny_bind (wpAny_seqItems gS rfl ?_)
  show wpAny _ A.in1 (tryCatch (pyNext (.ref It)) _ >>=_) _ _ _
  refine wpAny_bind (wpAny_tryCatch (W.done _ _ _ ⟨by rw[hsz];exact hit,isl I e⟩ fun h' tk' hk'=>?_))
  have I1:Inv X ((q,oq)::pins) σ H' {s with heap:=h',toks:=tk'}:=I.Az.Az.turned (t':=tk') (fun b o hb hu=>hk' b o (by simpa using hb) hu) I.Az.at1.2.1 I.Az.at1.2.2.1 mI.1 mI.2.1 mI.2.2
  have nSI:S≠It:=fun z=>(mS oI).2.2 (It,oI) (List.mem_append_right _ List.mem_cons_self) z.symm
  have gS':h'.get? S=some (seqObj "list" #[.ref (adr b),vb] c):=hk' S _ (by simpa using nSI) gS
  have fS:Jd X ((q,oq)::pins) H' S:=⟨I.at1.2.1,I.at1.2.2.1,I.at1.2.2.2,(mS oI).drop.1,(mS oI).drop.2.1,(mS oI).drop.2.2⟩
  have I2:=I1.Oo (b:=S) fS gS' Bg
  show wpAny _ A.in1 (updateSeq S (fun _=> #[]) >>=_) _ _ _
  obtain⟨c3,hc3⟩:=El gS' fun _=> #[]
  refine wpAny_bind (wpAny_updateSeq gS' rfl (wpAny_bind (wpAny_letGo (wpAny_pure ?_))))
  refine hR b hbm H' _ (I2.JB (tk:=tk') (mS oI).drop (Heap.SameBut.update h' S (Obj.mapSeq fun _=> #[])) hc3 Bg).Az e fun x hx=>hle x (by rw[List.take_length];exact hx)
 | succ r ih =>
  intro j H' s b vb c oI hj hj2 hbm hkv hle e I hit
  have hlt:j < items.length:=by omega
  have gS:=I.at1.1
  refine codeAny_builtin PySem.F.entry_min_loop ?_
  rw[Around.under_plainId PySem.F.plain_min_loop _]
  show wpAny _ A.in1 (seqItems? (.ref S) >>=_) _ _ _
  refine wpAny_bind (wpAny_seqItems gS rfl ?_)
  show wpAny _ A.in1 (tryCatch (pyNext (.ref It)) _ >>=_) _ _ _
  refine wpAny_bind (wpAny_tryCatch (W.item j _ _ _ (by rw[hsz];exact hlt) ⟨hit,isl I e⟩ fun v h' tk' hP hst' hk'=>?_))
  have hv:v= .ref (adr items[j]):=by
   have:(items.map fun a=>Value.ref (adr a))[j]?=some v:=by simpa using hP
   rw[List.getElem?_map,List.getElem?_eq_getElem hlt]at this
   exact(Option.some.inj this).symm
  subst hv
  obtain⟨oI',hoI',hoc,hod⟩:=id hst'.1
  have nSI:S≠It:=fun z=>(mS oI).2.2 (It,oI) (List.mem_append_right _ List.mem_cons_self) z.symm
  have ncI:∀v,oI'.data≠ .cell v:=fun v z=>by rw[hod]at z;cases z
  have I0:Inv X ((q,oq)::pins) σ H' {s with heap:=h',toks:=tk'}:=I.Az.Az.turned (t':=tk') (fun b o hb hu=>hk' b o (by simpa using hb) hu) I.Az.at1.2.1 I.Az.at1.2.2.1 mI.1 mI.2.1 mI.2.2
  have I1:Inv X ((It,oI')::(q,oq)::pins) σ H' {s with heap:=h',toks:=tk'}:=I0.Oo ⟨I.Az.at1.2.1,I.Az.at1.2.2.1,I.Az.at1.2.2.2,mI.1,mI.2.1,mI.2.2⟩ hoI' ncI
  have gS':h'.get? S=some (seqObj "list" #[.ref (adr b),vb] c):=hk' S _ (by simpa using nSI) gS
  have I2:=I1.Oo (b:=S) ⟨I.at1.2.1,I.at1.2.2.1,I.at1.2.2.2,(mS oI').1,(mS oI').2.1,(mS oI').2.2⟩ gS' Bg
  show wpAny _ A.in1 (tryCatch (holding [Value.ref (adr items[j])] (call (.ref q) [Value.ref (adr items[j])])) _ >>=_) _ _ _
  refine wpAny_bind (wpAny_tryCatch (wpAny_holding (wpAny_mono (CB items[j] (List.getElem_mem hlt) _ _ H' I2 e I2.Az.Az.at1.1) (fun y s3 hy=>?_) fun _ _ hF=>hF.elim)))
  obtain⟨H3,I3,k3,e3⟩:=hy
  have e3':=e.trans e3
  have kb3:=M.ext _ _ _ _ hkv e3
  have it3:s3.heap.IsListIter It l (j + 1):=⟨oI',I3.Az.at1.1,hoc,hod⟩
  have g3:=I3.at1.1
  have take:items.take (j + 1)=items.take j++[items[j]]:=by rw[List.take_add_one,List.getElem?_eq_getElem hlt];rfl
  show wpAny _ A.in1 (tryCatch (holding [Value.ref (adr items[j]),y] (richCompare .Lt y vb >>=_)) _ >>=_) _ _ _
  refine wpAny_bind (wpAny_tryCatch (wpAny_holding (wpAny_bind (M.cmp items[j] b y vb _ _ H3 _ _ _ I3 k3 kb3 ?_))))
  refine wpAny_bind (wpAny_holding (wpAny_truthy_bool ?_))
  refine wpAny_bind (wpAny_letGo (wpAny_pure ?_))
  cases hbt:bt items[j] b with
  | true =>
   rw[if_pos rfl]
   obtain⟨c4,hc4⟩:=El g3 fun _=> #[Value.ref (adr items[j]),y]
   refine wpAny_bind (wpAny_updateSeq g3 rfl (wpAny_bind (wpAny_letGo ?_)))
   rw[hname]
   refine wpAny_pure ⟨plainId_quiet PySem.F.plain_min_loop _,ih (j + 1) H3 _ items[j] y c4 oI' (by omega) hlt (List.getElem_mem hlt) k3 (fun x hx=>?_) e3' (I3.JB (tk:=s3.toks) (mS oI') (Heap.SameBut.update s3.heap S (Obj.mapSeq fun _=> #[Value.ref (adr items[j]),y])) hc4 Bg) ?_⟩
   ·rw[take]at hx
    rcases List.mem_append.mp hx with z | z
    ·exact ht _ _ _ (hle x z) (hb _ _ hbt)
    ·have:x=items[j]:=by simpa using z
     rw[this];exact hr _
   ·exact⟨oI',((Heap.SameBut.update s3.heap S (Obj.mapSeq fun _=> #[Value.ref (adr items[j]),y])).2 It nSI.symm).trans I3.Az.at1.1,hoc,hod⟩
  | false =>
   rw[if_neg Bool.false_ne_true]
   refine wpAny_bind (wpAny_letGo ?_)
   rw[hname]
   refine wpAny_pure ⟨plainId_quiet PySem.F.plain_min_loop _,ih (j + 1) H3 _ b vb c oI' (by omega) hlt hbm kb3 (fun x hx=>?_) e3' I3 it3⟩
   rw[take]at hx
   rcases List.mem_append.mp hx with z | z
   ·exact hle x z
   ·have:x=items[j]:=by simpa using z
    rw[this];exact hnb _ _ hbt
theorem An0 {α:Type}{items:List α}{adr:α->Addr}{kv:α->Value->Hp->Prop}{bt:α->α->Bool}{C:Cl}{l q:Addr}{oq:Obj}{A:Around}{E:Value->Shared->Prop}{Q:Value->Shared->Prop}
  (hh:A.handled=none) (M:Ay0 X C kv bt A.in1) (le:α->α->Prop) (hr:∀a,le a a) (ht:∀a b c,le a b->le b c->le a c) (hb:∀a b,bt a b=true->le b a) (hnb:∀a b,bt a b=false->le a b)
  (I:Inv X ((q,oq)::pins) σ H s) (hl:SqL X.K H l (items.map fun a=>V.ref (adr a))) (hne:items≠[])
  (CB:∀a∈items,∀pins2 s2 H2,Inv X pins2 σ H2 s2->Ext C H H2->s2.heap.get? q=some oq ->
   wpAny (model X.prog X.w) A.in1 (call (.ref q) [.ref (adr a)]) (fun v s3=>∃H3,Inv X pins2 σ H3 s3∧kv a v H3∧Ext C H2 H3) (fun _ _=>False) s2)
  (hQ:∀a∈items,∀H' s',Inv X ((q,oq)::pins) σ H' s'->Ext C H H'->(∀b∈items,le b a)->Q (.ref (adr a)) s') :
  wpAny (model X.prog X.w) A (call (.builtin "min") [.ref l] [(Str.ofString "key",.ref q)]) Q E s:=by
 have hname:(toString "min" ++toString ".loop" :String)= "min.loop" :=by decide
 obtain⟨its,rv,pl,_⟩:=I.list hl
 rw[DX rv]at pl
 have hlt:0 < items.length:=List.length_pos_iff.mpr hne
 have hll:l < s.heap.objs.size:=let ⟨_,ho,_⟩:=pl.isList;Heap.lt_size ho
 refine kmk_tree PySem.F.kind_min PySem.F.plain_min PySem.F.entry_min (kmk_min_key _ _) ?_
 show wpAny _ A.in1 (Builtin.Builtins.bindParams "min" ["key", "default"] 0 ⟨[],[(Str.ofString "key",.ref q)]⟩ >>=_) _ _ s
 refine wpAny_bind (wpAny_of_eq (show Builtin.Builtins.bindParams "min" ["key", "default"] 0 ⟨[],[(Str.ofString "key",.ref q)]⟩=pure [some (.ref q),none] from rfl) ?_)
 refine wpAny_bind (wpAny_pure ?_)
 refine wpAny_bind (wpAny_pyIter_list pl.isList ?_)
 obtain⟨I1,mI⟩:=I.SM (o:={cls:= .type "list_iterator",data:= .fields #[.ref l,.int 0 0]}) (fun v z=>nomatch z) s.toks
 refine wpAny_bind (wpAny_newList ?_ (Nat.zero_le _))
 obtain⟨I2,mS⟩:=I1.SM (o:=seqObj "list" #[] 0) Bg s.toks
 rw[hname]
 generalize hS:({s with heap:=s.heap.push {cls:= .type "list_iterator",data:= .fields #[.ref l,.int 0 0]}}:Shared).heap.objs.size=S at I2 mS ⊢
 have hlI:l≠s.heap.objs.size:=Nat.ne_of_lt hll
 refine wpAny_pure ⟨plainId_quiet PySem.F.plain_min_loop _,?_⟩
 have W:=Walks.list (prog:=X.prog) (w:=X.w) (A:=A.in1) hh s.heap.objs.size l hlI (items.map fun a=>Value.ref (adr a)).toArray
 have hsz:(items.map fun a=>Value.ref (adr a)).toArray.size=items.length:=by rw[List.size_toArray,List.length_map]
 have gS:=I2.at1.1
 have gI:=I2.Az.at1.1
 obtain⟨its2,rv2,pl2,_⟩:=I2.list hl
 rw[DX rv2]at pl2
 refine codeAny_builtin PySem.F.entry_min_loop ?_
 rw[Around.under_plainId PySem.F.plain_min_loop _]
 show wpAny _ A.in1 (seqItems? (.ref S) >>=_) _ _ _
 refine wpAny_bind (wpAny_seqItems gS rfl ?_)
 show wpAny _ A.in1 (tryCatch (pyNext (.ref s.heap.objs.size)) _ >>=_) _ _ _
 refine wpAny_bind (wpAny_tryCatch (W.item 0 _ _ _ (by rw[hsz];exact hlt) ⟨⟨_,gI,rfl,rfl⟩,pl2.isList⟩ fun v h' tk' hP hst' hk'=>?_))
 have hv:v= .ref (adr items[0]):=by
  have:(items.map fun a=>Value.ref (adr a))[0]?=some v:=by simpa using hP
  rw[List.getElem?_map,List.getElem?_eq_getElem hlt]at this
  exact(Option.some.inj this).symm
 subst hv
 obtain⟨oI',hoI',hoc,hod⟩:=id hst'.1
 have nSI:S≠s.heap.objs.size:=fun z=>mS.2.2 (s.heap.objs.size,_) (List.mem_append_right _ List.mem_cons_self) z.symm
 have ncI:∀v,oI'.data≠ .cell v:=fun v z=>by rw[hod]at z;cases z
 have J0:Inv X ((q,oq)::pins) σ H {s with heap:=h',toks:=tk'}:=I2.Az.Az.turned (t':=tk') (fun b o hb hu=>hk' b o (by simpa using hb) hu) I2.Az.at1.2.1 I2.Az.at1.2.2.1 mI.1 mI.2.1 mI.2.2
 have J1:Inv X ((s.heap.objs.size,oI')::(q,oq)::pins) σ H {s with heap:=h',toks:=tk'}:=J0.Oo ⟨I2.Az.at1.2.1,I2.Az.at1.2.2.1,I2.Az.at1.2.2.2,mI.1,mI.2.1,mI.2.2⟩ hoI' ncI
 have gS':h'.get? S=some (seqObj "list" #[] 0):=hk' S _ (by simpa using nSI) gS
 have mS':∀o,Gf X ((s.heap.objs.size,o)::(q,oq)::pins) S:=fun o=>mS.re
 have J2:=J1.Oo (b:=S) ⟨I2.at1.2.1,I2.at1.2.2.1,I2.at1.2.2.2,(mS' oI').1,(mS' oI').2.1,(mS' oI').2.2⟩ gS' Bg
 show wpAny _ A.in1 (tryCatch (holding [Value.ref (adr items[0])] (call (.ref q) [Value.ref (adr items[0])])) _ >>=_) _ _ _
 refine wpAny_bind (wpAny_tryCatch (wpAny_holding (wpAny_mono (CB items[0] (List.getElem_mem hlt) _ _ H J2 (Ext.refl _ _) J2.Az.Az.at1.1) (fun y s3 hy=>?_) fun _ _ hF=>hF.elim)))
 obtain⟨H3,I3,k3,e3⟩:=hy
 have g3:=I3.at1.1
 obtain⟨c4,hc4⟩:=El g3 fun _=> #[Value.ref (adr items[0]),y]
 show wpAny _ A.in1 (updateSeq S (fun _=> #[Value.ref (adr items[0]),y]) >>=_) _ _ _
 refine wpAny_bind (wpAny_updateSeq g3 rfl ?_)
 rw[hname]
 refine wpAny_pure ⟨plainId_quiet PySem.F.plain_min_loop _,Ag4 hh M le hr ht hb hnb hl hlI mS' mI CB (R:=fun r s'=>match r with | .ok (.ret v)=>Q v s' | .ok _=>False | .error e=>E e s') hQ (items.length - 1) 1 H3 _ items[0] y c4 oI' rfl hlt (List.getElem_mem hlt) k3 (fun x hx=>?_) e3
  (I3.JB (tk:=s3.toks) (mS' oI') (Heap.SameBut.update s3.heap S (Obj.mapSeq fun _=> #[Value.ref (adr items[0]),y])) hc4 Bg) ⟨oI',((Heap.SameBut.update s3.heap S (Obj.mapSeq fun _=> #[Value.ref (adr items[0]),y])).2 _ nSI.symm).trans I3.Az.at1.1,hoc,hod⟩⟩
 have:items.take 1=[items[0]]:=by
  cases items with
  | nil=>exact absurd rfl hne
  | cons a r=>rfl
 rw[this]at hx
 have:x=items[0]:=by simpa using hx
 rw[this];exact hr _
end
end L2
namespace L2
open PySem PySem.Spec PyProof.Rows
open Nm (Tab TabOk Ek Cl Jx Ext)
structure Wn (X:Cx)(C:Cl)(t:Tab)(params:Arguments)(scope:Scope)(clos:List (Str×Addr))(y:Str)(i:Nat):Prop where
 base:Aa4 X.mg X.base t
 sep:∀t2∈C.tabs,t2.P=t.P->t2=t
 code:X.env.code= .ref t.c
 qual:X.env.qual++ "<lambda>" =t.qual
 defs:defaultsOf params X.env=([],[])
 clo:closureFor scope X.env=pure clos
 bind:∀(body:Expr) (pm ct u:Value) (c:Addr),bindArgs (PySem.W.kla_fn "<lambda>" t.qual params body scope clos pm (.ref c) ct) ⟨[u],[]⟩=pure [(y,u)]
 ok:Ar6 X scope clos y i
section
variable {X:Cx}{pins:List (Addr×Obj)}{σ:St}{H:Hp}{s:Shared}{C:Cl}{t:Tab}{params:Arguments}{body:Expr}{scope:Scope}{clos:List (Str×Addr)}{y:Str}{i:Nat}
theorem Ext.grown {d:Addr}{oc:Obj}(sep:∀t2∈C.tabs,t2.P=t.P->t2=t)(hd:H d=none)(hP:H t.P=some (.tbl #[]))(hob:Ek oc t.qual):Ext C H (upd (upd H d (.frz oc (.own 0))) t.P (.tbl #[rawInt t.pos.line,rawInt t.pos.col,.ref d])):=by
 have ne:d≠t.P:=fun q=>by rw[q,hP]at hd;cases hd
 refine⟨fun b o e=>?_,fun T t2 h2=>?_⟩
 ·by_cases q:b=t.P
  ·subst q
   rw[hP]at e
   cases e
   exact .inr ⟨_,_,rfl,Ab⟩
  ·exact .inl (by rw[Ac q,Ac (Bp e hd)];exact e)
 ·by_cases q:t2.P=t.P
  ·have:=sep t2 h2 q
   subst this
   exact⟨_,Ab,.inr ⟨d,oc,rfl,by rw[Ac ne,Ab],hob⟩⟩
  ·obtain⟨ps,h1,h3⟩:=T t2 h2
   refine⟨ps,by rw[Ac q,Ac (Bp h1 hd)];exact h1,?_⟩
   rcases h3 with h3 | ⟨c,oc2,e,hc,q2⟩
   ·exact .inl h3
   ·exact .inr ⟨c,oc2,e,by rw[Ac (fun z=>by rw[z,hP]at hc;cases hc),Ac (Bp hc hd)];exact hc,q2⟩
theorem Q8 {A:Around}{E:Value->Shared->Prop}{Q:Value->Shared->Prop}(L:Wn X C t params scope clos y i)(I:Inv X pins σ H s)(hT:TabOk H t)
  (h:∀f c oc ct H' s',Inv X ((f,Uq t params body scope clos ((X.mg "__name__").getD .none) c ct)::pins) σ H' s'->H' c=some (.frz oc (.own 0))->Ek oc t.qual->Ext C H H'->Q (.ref f) s') :
  wpAny (model X.prog X.w) A (eval (.Lambda params body scope t.pos) X.env) Q E s:=by
 refine Ah2 (body:=body) I L.base hT L.code L.qual L.defs L.clo fun f c oc ct H' s' I' ho hf hsz hc hob hH=>?_
 have e:Ext C H H':=by
  rcases hH with rfl | ⟨d,h1,h2,h3,rfl⟩
  ·exact Ext.refl _ _
  ·exact Ext.grown L.sep h1 h2 h3
 have fp:Jd X pins H f:=I.Z1 hsz (e.free hf)
 exact h f c oc ct H' s' (I'.Oo ⟨hf,fp.2⟩ ho (fun v z=>nomatch z)) hc hob e
theorem Xy {A:Around}{f c:Addr}{oc:Obj}{ct pm u:Value}{x:V}{te:TE}{Q:VK}{E:Value->Shared->Prop}(L:Wn X C t params scope clos y i)(I:Inv X pins σ H s)(ho:s.heap.get? f=some (Uq t params body scope clos pm c ct))(hc:H c=some (.frz oc (.own 0)))(hob:Ek oc t.qual)
  (hA:A.frames=some X.stack) (hh:A.handled=none) (hdep:A.depth < recursionLimit) (rx:RelV x u) (hb:∀(s:Shared) (H:Hp) (L f:Addr) (cd:Value),PE (X.lam A s H (PySem.W.envX t.qual scope L f cd clos)) body te) (hq:te (σ.set i (some x)) H Q) :
  wpAny (model X.prog X.w) A (call (.ref f) [u]) (EP X pins σ Q) E s :=
 An5 I ho hc hob hA hh hdep (L.bind body pm ct u c) L.ok rx hb hq
def As0 (K:PySem.W.Frag)(C:Cl)(t:Tab)(i:Nat)(te tb:TE):TE:=fun σ H Q=>te σ H fun x H1=>∃(α:Type)(items:List α)(f:α->V)(key:α->List Int)(l:Addr),x= .ref l∧TabOk H1 t∧SqL K H1 l (items.map f)∧(∀a∈items,∃k r,key a=k::r) ∧
 (∀a∈items,∀H2,Ext C H1 H2->tb (σ.set i (some (f a))) H2 fun v H3=>∃p,v= .ref p∧H3 p=some (.tup ((key a).map V.int))∧Ext C H2 H3) ∧
 ∀(D:Addr) (H':Hp) (out:List α),Ext C H1 H'->H' D=none->out.Perm items->out.Pairwise (fun x y=>Vbnlag.less (key y) (key x)=false)->Q (.ref D) (upd H' D (.lst (out.map f)))
theorem Vn {e:Expr}{te tb:TE}{p kp pos:Pos}{k:Nat}(hc:X.calm=true)(hr:CJ (k + 3) X.A)(L:Wn X C t params scope clos y i)(he:PE X e te)(hb:∀(s:Shared)(H:Hp)(L f:Addr)(cd:Value),PE (X.lam X.A.in1.in1 s H (PySem.W.envX t.qual scope L f cd clos)) body tb)
  (hm:X.mg "sorted" =none) (hg:Gl X "sorted" :=by rfl)
  (h1:starEach [e] X.env=[(false,eval e X.env)]:=by rfl) :
  PE X (.Call (.Name "sorted" p) [e] [⟨some "key",.Lambda params body scope t.pos,kp⟩] pos) (As0 X.K C t i te tb):=by
 intro pins s σ H Q I h
 refine wpAny_Call_Name_kw (Ng I hg hm (show bootBuiltins "sorted" =some (.builtin "sorted") by decide +kernel) ?_)
 refine callWith_kw ?_ (by rw[h1];rfl) (by rw[h1];rfl)
 rw[h1]
 refine Calls.spliced_cons (thn (he pins s σ H _ I h) fun u s1 ⟨x,H1,I1,r1,q1⟩=>Calls.spliced_nil ?_)
 obtain⟨α,items,f,key,l,rfl,hT,hl,hk,cb,fin⟩:=q1
 cases r1
 refine kws_cons (Q8 L I1 hT fun q c oc ct H2 s2 I2 h2 hob e2=>kws_nil ?_)
 show wpAny _ _ (call (.builtin "sorted") [.ref l] [(Str.ofString "key",.ref q)]) _ _ s2
 refine Ac9 (C:=C) (f:=f) (key:=key) I2 (e2.Dn hl) hk (fun a ha u pins2 s3 H3 ru I3 e3 hq=>?_) fun D H' out s' I' e' n' p1 p2=>?_
 ·refine Tt (Xy (Q:=fun v H3'=>∃p,v= .ref p∧H3' p=some (.tup ((key a).map V.int))∧Ext C H3 H3') L I3 hq (e3.frz h2) hob I.ok.frames (I.ok.hd hc) hr.depth ru hb (cb a ha H3 (e2.trans e3))) fun v s4 ⟨y',H4,I4,r4,p',ep,hp,e4⟩=>?_
  subst ep
  cases r4
  exact⟨p',H4,I4,rfl,hp,e4⟩
 ·exact⟨.ref D,_,I'.Az,rfl,fin D H' out (e2.trans e') n' p1 p2⟩
theorem VH:∀{a b c:List Int},Vbnlag.less a c=true->Vbnlag.less a b=true∨Vbnlag.less b c=true
 | [],[],_,h=> .inr h
 | [],_::_,_,_=> .inl rfl
 | _::_,_,[],h=>by simp[Vbnlag.less]at h
 | _::_,[],_::_,_=> .inr rfl
 | x::r,y::u,z::v,h=>by
  unfold Vbnlag.less at h ⊢
  simp only[Bool.or_eq_true,Bool.and_eq_true,decide_eq_true_eq]at h ⊢
  by_cases h1:x < y
  ·exact .inl (.inl h1)
  ·by_cases h2:y < z
   ·exact .inr (.inl h2)
   ·rcases h with h | ⟨h,h3⟩
    ·omega
    ·rcases VH (b:=u) h3 with q | q
     ·exact .inl (.inr ⟨by omega,q⟩)
     ·exact .inr (.inr ⟨by omega,q⟩)
def Ay9 (K:PySem.W.Frag)(C:Cl)(t:Tab)(i:Nat)(te tb:TE):TE:=fun σ H Q=>te σ H fun x H1=>∃(α:Type)(items:List α)(adr:α->Addr)(key:α->List Int)(l:Addr),x= .ref l∧TabOk H1 t∧SqL K H1 l (items.map fun a=>V.ref (adr a))∧items≠[] ∧
 (∀a∈items,∀H2,Ext C H1 H2->tb (σ.set i (some (.ref (adr a)))) H2 fun v H3=>∃p,v= .ref p∧H3 p=some (.tup ((key a).map V.int))∧Ext C H2 H3) ∧
 ∀a∈items,∀H',Ext C H1 H'->(∀b∈items,Vbnlag.less (key a) (key b)=false)->Q (.ref (adr a)) H'
theorem Al5 {e:Expr}{te tb:TE}{p kp pos:Pos}{k:Nat}(hc:X.calm=true)(hr:CJ (k + 2) X.A)(L:Wn X C t params scope clos y i)(he:PE X e te)(hb:∀(s:Shared)(H:Hp)(L f:Addr)(cd:Value),PE (X.lam X.A.in1 s H (PySem.W.envX t.qual scope L f cd clos)) body tb)
  (hm:X.mg "max" =none) (hg:Gl X "max" :=by rfl)
  (h1:starEach [e] X.env=[(false,eval e X.env)]:=by rfl) :
  PE X (.Call (.Name "max" p) [e] [⟨some "key",.Lambda params body scope t.pos,kp⟩] pos) (Ay9 X.K C t i te tb):=by
 intro pins s σ H Q I h
 refine wpAny_Call_Name_kw (Ng I hg hm (show bootBuiltins "max" =some (.builtin "max") by decide +kernel) ?_)
 refine callWith_kw ?_ (by rw[h1];rfl) (by rw[h1];rfl)
 rw[h1]
 refine Calls.spliced_cons (thn (he pins s σ H _ I h) fun u s1 ⟨x,H1,I1,r1,q1⟩=>Calls.spliced_nil ?_)
 obtain⟨α,items,adr,key,l,rfl,hT,hl,hne,cb,fin⟩:=q1
 cases r1
 refine kws_cons (Q8 L I1 hT fun q c oc ct H2 s2 I2 h2 hob e2=>kws_nil ?_)
 show wpAny _ _ (call (.builtin "max") [.ref l] [(Str.ofString "key",.ref q)]) _ _ s2
 have M:Ay1 X C (fun a v H=>∃p,v= .ref p∧H p=some (.tup ((key a).map V.int))) (fun a b=>Vbnlag.less (key b) (key a)) X.A.in1:=by
  refine⟨fun a v H H' ⟨p,e1,e2⟩ e=>⟨p,e1,e.tup e2⟩,?_⟩
  rintro a b va vb pins σ H s Q E J ⟨p,rfl,hp⟩ ⟨p2,rfl,hp2⟩ hq
  obtain⟨its,r1,t1,_⟩:=J.tuple (SqT.of hp)
  obtain⟨its2,r2,t2,_⟩:=J.tuple (SqT.of hp2)
  refine HT.XC t1 t2 (intsAre_of r1) (intsAre_of r2) (by have:=hr.un;show X.A.units + 1 < _;omega) ?_
  rw[HT.Ht]
  exact hq
 refine An2 (C:=C) (adr:=adr) (I.ok.hd hc) M (fun a b=>Vbnlag.less (key b) (key a)=false) (fun a=>Nm.Iz _) (fun a b c h1 h2=>?_) (fun a b h=>Nm.Eh h) (fun a b h=>h) I2 (e2.Dn hl) hne (fun a ha pins2 s3 H3 I3 e3 hq=>?_) fun a ha H' s' I' e' ge=>?_
 ·cases q:Vbnlag.less (key c) (key a) with
  | false=>rfl
  | true =>
   rcases VH (b:=key b) q with z | z
   ·rw[h2]at z;cases z
   ·rw[h1]at z;cases z
 ·refine Tt (Xy (Q:=fun v H3'=>∃p,v= .ref p∧H3' p=some (.tup ((key a).map V.int))∧Ext C H3 H3') L I3 hq (e3.frz h2) hob I.ok.frames (I.ok.hd hc) hr.depth (show RelV (.ref (adr a)) (.ref (adr a)) from rfl) hb (cb a ha H3 (e2.trans e3))) fun v s4 ⟨y',H4,I4,r4,p',ep,hp,e4⟩=>?_
  subst ep
  cases r4
  exact⟨H4,I4,⟨p',rfl,hp⟩,e4⟩
 ·exact⟨.ref (adr a),H',I'.Az,rfl,fin a ha H' (e2.trans e') ge⟩
def Ay8 (K:PySem.W.Frag)(C:Cl)(t:Tab)(i:Nat)(te tb:TE):TE:=fun σ H Q=>te σ H fun x H1=>∃(α:Type)(items:List α)(adr:α->Addr)(key:α->Int)(l:Addr),x= .ref l∧TabOk H1 t∧SqL K H1 l (items.map fun a=>V.ref (adr a))∧items≠[] ∧
 (∀a∈items,∀H2,Ext C H1 H2->tb (σ.set i (some (.ref (adr a)))) H2 fun v H3=>v= .int (key a)∧Ext C H2 H3) ∧
 ∀a∈items,∀H',Ext C H1 H'->(∀b∈items,key a<=key b)->Q (.ref (adr a)) H'
theorem Al4 {e:Expr}{te tb:TE}{p kp pos:Pos}{k:Nat}(hc:X.calm=true)(hr:CJ (k + 2) X.A)(L:Wn X C t params scope clos y i)(he:PE X e te)(hb:∀(s:Shared)(H:Hp)(L f:Addr)(cd:Value),PE (X.lam X.A.in1 s H (PySem.W.envX t.qual scope L f cd clos)) body tb)
  (hm:X.mg "min" =none) (hg:Gl X "min" :=by rfl)
  (h1:starEach [e] X.env=[(false,eval e X.env)]:=by rfl) :
  PE X (.Call (.Name "min" p) [e] [⟨some "key",.Lambda params body scope t.pos,kp⟩] pos) (Ay8 X.K C t i te tb):=by
 intro pins s σ H Q I h
 refine wpAny_Call_Name_kw (Ng I hg hm (show bootBuiltins "min" =some (.builtin "min") by decide +kernel) ?_)
 refine callWith_kw ?_ (by rw[h1];rfl) (by rw[h1];rfl)
 rw[h1]
 refine Calls.spliced_cons (thn (he pins s σ H _ I h) fun u s1 ⟨x,H1,I1,r1,q1⟩=>Calls.spliced_nil ?_)
 obtain⟨α,items,adr,key,l,rfl,hT,hl,hne,cb,fin⟩:=q1
 cases r1
 refine kws_cons (Q8 L I1 hT fun q c oc ct H2 s2 I2 h2 hob e2=>kws_nil ?_)
 show wpAny _ _ (call (.builtin "min") [.ref l] [(Str.ofString "key",.ref q)]) _ _ s2
 have M:Ay0 X C (fun a v H=>∃tk,v= .int (key a) tk) (fun a b=>decide (key a < key b)) X.A.in1:=by
  refine⟨fun a v H H' h e=>h,?_⟩
  rintro a b va vb pins σ H s Q E J ⟨t1,rfl⟩ ⟨t2,rfl⟩ hq
  exact HT.Vj _ _ _ _ _ _ _ _ _ _ hq
 refine An0 (C:=C) (adr:=adr) (I.ok.hd hc) M (fun a b=>key b<=key a) (fun a=>Int.le_refl _) (fun a b c h1 h2=>Int.le_trans h2 h1) (fun a b h=>Int.le_of_lt (of_decide_eq_true h)) (fun a b h=>Int.not_lt.mp (of_decide_eq_false h)) I2 (e2.Dn hl) hne (fun a ha pins2 s3 H3 I3 e3 hq=>?_) fun a ha H' s' I' e' ge=>?_
 ·refine Tt (Xy (Q:=fun v H3'=>v= .int (key a)∧Ext C H3 H3') L I3 hq (e3.frz h2) hob I.ok.frames (I.ok.hd hc) hr.depth (show RelV (.ref (adr a)) (.ref (adr a)) from rfl) hb (cb a ha H3 (e2.trans e3))) fun v s4 ⟨y',H4,I4,r4,ep,e4⟩=>?_
  subst ep
  obtain⟨tk,rfl⟩:=r4
  exact⟨H4,I4,⟨tk,rfl⟩,e4⟩
 ·exact⟨.ref (adr a),H',I'.Az,rfl,fin a ha H' (e2.trans e') ge⟩
end
end L2
namespace L2
open PySem PySem.Spec PyProof.Rows
open Nm (Tab TabOk Ek Cl Jx Ext)
theorem Av3 {J:It}{n:Nat}{g:TG}{tt:TT}{te:TE}{vs:List Nat}{σ:St}{H1:Hp}{D:Addr}{Qd:Hp->Prop}(Pv:Nat->Hp->Prop)(h0:Pv 0 (upd H1 D (.lst [])))(hgo:∀i H,i < n->Pv i H->J.go i H)(hst:∀H,Pv n H->J.stop n H)
  (hs:∀i x H H',i < n->Pv i H->J.yld i H x H'->g x (wipe σ vs) H' fun σ2 H2=>wipe σ2 vs=wipe σ vs∧tt σ2 H2 fun b H3 =>
   if b=true then te σ2 H3 fun y H4=>∃acc,H4 D=some (.lst acc)∧acc.length < sizeLine∧Pv (i + 1) (upd H4 D (.lst (acc++[y]))) else Pv (i + 1) H3) (hd:∀H,Pv n H->Qd H) :
  ∃W:Nat->Nat->Hp->Prop,(∃m,W 0 m (upd H1 D (.lst [])))∧∀i m H,W i m H ->
   (J.stop i H∧Qd H)∨(J.go i H∧∃Nx:Hp->Prop,(∀H',Nx H'->∃m',m' < m∧W (i + 1) m' H')∧∀x H',J.yld i H x H'->g x (wipe σ vs) H' fun σ2 H2=>wipe σ2 vs=wipe σ vs∧tt σ2 H2 fun b H3 =>
    if b=true then te σ2 H3 fun y H4=>∃acc,H4 D=some (.lst acc)∧acc.length < sizeLine∧Nx (upd H4 D (.lst (acc++[y]))) else Nx H3):=by
 refine⟨fun i m H=>m=n - i∧i<=n∧Pv i H,⟨n,by simp,Nat.zero_le _,h0⟩,?_⟩
 rintro i m H ⟨rfl,hi,p⟩
 by_cases hlt:i < n
 ·exact .inr ⟨hgo i H hlt p,Pv (i + 1),fun H' p'=>⟨n - (i + 1),by omega,rfl,hlt,p'⟩,fun x H' y=>hs i x H H' hlt p y⟩
 ·have e:i=n:=by omega
  subst e
  exact .inl ⟨hst H p,hd H p⟩
theorem Dy {J:It}{n:Nat}{g:TG}{tb:TS}{D:Ends}{σ:St}{H:Hp}(Pv:Nat->St->Hp->Prop)(h0:Pv 0 σ H)(hgo:∀i σ H,i < n->Pv i σ H->J.go i H)(hst:∀σ H,Pv n σ H->J.stop n H)
  (hs:∀i x σ H H',i < n->Pv i σ H->J.yld i H x H'->g x σ H' fun σ2 H2=>tb {D with nx:=Pv (i + 1),ct:=Pv (i + 1),bk:=D.nx} σ2 H2) (hd:∀σ H,Pv n σ H->D.nx σ H) :
  ∃W:Nat->Nat->St->Hp->Prop,(∃m,W 0 m σ H)∧∀i m σ H,W i m σ H ->
   (J.stop i H∧D.nx σ H)∨(J.go i H∧∃N:St->Hp->Prop,(∀σ' H',N σ' H'->∃m',m' < m∧W (i + 1) m' σ' H')∧∀x H',J.yld i H x H'->g x σ H' fun σ2 H2=>tb {D with nx:=N,ct:=N,bk:=D.nx} σ2 H2):=by
 refine⟨fun i m σ H=>m=n - i∧i<=n∧Pv i σ H,⟨n,by simp,Nat.zero_le _,h0⟩,?_⟩
 rintro i m σ H ⟨rfl,hi,p⟩
 by_cases hlt:i < n
 ·exact .inr ⟨hgo i σ H hlt p,Pv (i + 1),fun σ' H' p'=>⟨n - (i + 1),by omega,rfl,hlt,p'⟩,fun x H' y=>hs i x σ H H' hlt p y⟩
 ·have e:i=n:=by omega
  subst e
  exact .inl ⟨hst σ H p,hd σ H p⟩
section
variable {X:Cx}
theorem Ce:OpR X (compareOp .Eq) (rI0 fun i j=> .bl (decide (i=j))):=Zt fun _ _ _ _ _ _ _ q=>eq_int (by rw[Bool.beq_eq_decide_eq];exact q)
theorem Qx:OpR X (compareOp .NotEq) (rI0 fun i j=> .bl (!decide (i=j))):=Zt fun _ _ _ _ _ _ _ q=>ne_int (by rw[bne,Bool.beq_eq_decide_eq];exact q)
end
theorem Rd.split {H:Hp}{a:Addr}{u:HO}(h:Rd H a u):∃o,H a=some o∧(o=u∨∃oe,o= .frz oe u):=by
 rcases h with h | ⟨oe,h⟩
 ·exact⟨_,h,.inl rfl⟩
 ·exact⟨_,h,.inr ⟨oe,rfl⟩⟩
theorem Fun.okC {P:Program}{w:World}{K:PySem.W.Frag}{mg:Str->Option Value}{base:Heap}{x qual:Str}{st:Stmt}{f:Addr}{fd:FuncData}{N ps:List Str}{k:Nat}{sp:Sp}(F:Fun K x qual st f fd)(S:Aj N ps (Ag st))(len:∀vs H Q E,sp vs H Q E->vs.length=ps.length)
  (hbody:∀(cdv:Value) (A:Around) (outer:List Env) (s:Shared) (H:Hp) (vs:List V) (Q:VK) (E:XK),fd.code=cdv->CJ k (A.deeper (envOfC qual (Ag st) s.heap.objs.size f cdv))->sp vs H Q E ->
   ∃t,PSs (XJ CX0 P w K mg base N qual (Ag st) f cdv A outer s H E).nox (Eo st) t∧t {nx:=fun _ H'=>Q .non H',rt:=Q} (start N vs) H):Ay P w K mg base CX0 (k + 1) f fd ps sp:=by
 obtain⟨oc,od,kV,doc,pm,an,cdv,ct,osl,rfl,lk,hcd⟩:=F.ex
 refine Ar0 lk hcd S len fun A outer s H vs Q E hr hsp=>?_
 obtain⟨t,h,q⟩:=hbody cdv A outer s H vs Q E rfl hr hsp
 exact⟨t,h.nox,q⟩
end L2
namespace Nm
open PySem PySem.Spec PyProof.Rows L2
structure Fill (C:Cl)(H1:Hp)(D:Addr)(l:List V)(H:Hp):Prop where
 ext:Ext C H1 H
 new:H1 D=none
 at_:H D=some (.lst l)
theorem Fill.start {C:Cl}{H1:Hp}{D:Addr}(h:H1 D=none):Fill C H1 D [] (upd H1 D (.lst [])):=⟨.new C h _,h,Ab⟩
theorem Fill.go {C:Cl}{H1 H H':Hp}{D:Addr}{l:List V}(f:Fill C H1 D l H)(e:Ext C H H'):Fill C H1 D l H':=⟨f.ext.trans e,f.new,e.lst f.at_⟩
theorem Fill.put {C:Cl}{H1 H:Hp}{D:Addr}{l:List V}{y:V}(f:Fill C H1 D l H)(hl:l.length < sizeLine){Q:Hp->Prop}(h:Fill C H1 D (l++[y]) (upd H D (.lst (l++[y])))->Q (upd H D (.lst (l++[y])))) :
  ∃acc,H D=some (.lst acc)∧acc.length < sizeLine∧Q (upd H D (.lst (acc++[y]))):=⟨l,f.at_,hl,h ⟨f.ext.Hj f.new f.at_ _,f.new,Ab⟩⟩
theorem Bj {n:Nat}(h:n<=1000000):n < sizeLine:=by rw[sizeLine_eq];omega
end Nm
namespace Nm
open PySem PySem.Spec PyProof.Rows L2
theorem Bc {b:Bool}{A B:Prop}(h1:b=true->A)(h2:b=false->B):if b=true then A else B:=by
 cases b with
 | true=>exact h1 rfl
 | false=>exact h2 rfl
abbrev Put (D:Addr)(y:V)(N:Hp->Prop)(H:Hp):Prop:=∃acc,H D=some (.lst acc)∧acc.length < sizeLine∧N (upd H D (.lst (acc++[y])))
theorem Yu {α:Type}{C:Cl}{J:It}{g:TG}{tt:TT}{te:TE}{vs:List Nat}{σ:L2.St}{H1:Hp}{D:Addr}{Qd:Hp->Prop}(items:List α)(Y:α->Hp->V->Prop)(keep:α->Bool)(out:α->V)(hD:H1 D=none)(hn:items.length<=1000000)
  (hgo:∀i H,i < items.length->Ext C H1 H->J.go i H) (hst:∀H,Ext C H1 H->J.stop items.length H) (hy:∀i x H H' (h:i < items.length),Ext C H1 H->J.yld i H x H'->H'=H∧Y items[i] H x)
  (step:∀a∈items,∀x H (N:Hp->Prop),Ext C H1 H->Y a H x->(keep a=true->∀H4,Ext C H H4->Put D (out a) N H4)->(keep a=false->∀H3,Ext C H H3->N H3)->g x (wipe σ vs) H fun σ2 H2=>wipe σ2 vs=wipe σ vs∧tt σ2 H2 fun b H3=>if b=true then te σ2 H3 fun y H4=>Put D y N H4 else N H3)
  (fin:∀H,Ext C H1 H->H D=some (.lst ((items.filter keep).map out))->Qd H) :
  ∃W:Nat->Nat->Hp->Prop,(∃m,W 0 m (upd H1 D (.lst [])))∧∀i m H,W i m H ->
   (J.stop i H∧Qd H)∨(J.go i H∧∃Nx:Hp->Prop,(∀H',Nx H'->∃m',m' < m∧W (i + 1) m' H')∧∀x H',J.yld i H x H'->g x (wipe σ vs) H' fun σ2 H2=>wipe σ2 vs=wipe σ vs∧tt σ2 H2 fun b H3 =>
    if b=true then te σ2 H3 fun y H4=>Put D y Nx H4 else Nx H3):=by
 refine Av3 (n:=items.length) (fun i H'=>Fill C H1 D (((items.take i).filter keep).map out) H') (Fill.start hD) (fun i H' hi p=>hgo i H' hi p.ext) (fun H' p=>hst H' p.ext) ?_ ?_
 ·intro i x H H' hi p y
  obtain⟨rfl,hY⟩:=hy i x H H' hi p.ext y
  have tk:items.take (i + 1)=items.take i++[items[i]]:=by rw[List.take_succ,List.getElem?_eq_getElem hi];rfl
  refine step items[i] (List.getElem_mem hi) x H' _ p.ext hY (fun hk H4 e4=>?_) (fun hk H3 e3=>?_)
  ·refine(p.go e4).put (Bj ?_) fun f=>?_
   ·have:=List.length_filter_le keep (items.take i)
    rw[List.length_map]
    rw[List.length_take]at this
    omega
   ·rw[tk,List.filter_append,List.map_append]
    simp only[List.filter_cons,hk,if_true,List.filter_nil,List.map_cons,List.map_nil]
    exact f
  ·rw[tk,List.filter_append,List.map_append]
   simp only[List.filter_cons,hk,Bool.false_eq_true,if_false,List.filter_nil,List.map_nil,List.append_nil]
   exact p.go e3
 ·intro H p
  rw[List.take_length]at p
  exact fin H p.ext p.at_
section
variable {α:Type}{C:Cl}{g:TG}{tt:TT}{te:TE}{vs:List Nat}{σ:L2.St}{H1:Hp}{D d:Addr}{od:Obj}{Qd:Hp->Prop}{K:PySem.W.Frag}
theorem Jl {kvs:List (Key×V)}(items:List α)(f:α->V)(keep:α->Bool)(out:α->V)(hd:H1 d=some (.frz od (.dK kvs)))(he:kvs.map (·.2)=items.map f)(hD:H1 D=none)(hn:items.length<=1000000)
  (step:∀a∈items,∀H (N:Hp->Prop),Ext C H1 H->(keep a=true->∀H4,Ext C H H4->Put D (out a) N H4)->(keep a=false->∀H3,Ext C H H3->N H3)->g (f a) (wipe σ vs) H fun σ2 H2=>wipe σ2 vs=wipe σ vs∧tt σ2 H2 fun b H3=>if b=true then te σ2 H3 fun y H4=>Put D y N H4 else N H3)
  (fin:∀H,Ext C H1 H->H D=some (.lst ((items.filter keep).map out))->Qd H) :
  ∃W:Nat->Nat->Hp->Prop,(∃m,W 0 m (upd H1 D (.lst [])))∧∀i m H,W i m H ->
   ((Itd d od kvs).stop i H∧Qd H)∨((Itd d od kvs).go i H∧∃Nx:Hp->Prop,(∀H',Nx H'->∃m',m' < m∧W (i + 1) m' H')∧∀x H',(Itd d od kvs).yld i H x H'->g x (wipe σ vs) H' fun σ2 H2=>wipe σ2 vs=wipe σ vs∧tt σ2 H2 fun b H3 =>
    if b=true then te σ2 H3 fun y H4=>Put D y Nx H4 else Nx H3):=by
 have el:kvs.length=items.length:=by have:=congrArg List.length he;simpa using this
 refine Yu (C:=C) items (fun a _ x=>x=f a) keep out hD hn (fun i H hi e=>⟨e.frz hd,by rw[el];exact hi⟩) (fun H e=>⟨e.frz hd,Nat.le_of_eq el⟩) (fun i x H H' hi e ⟨h1,k,h2⟩=>⟨h1,?_⟩) (fun a ha x H N e hx=>?_) fin
 ·have:=congrArg (fun l=>l[i]?) he
  simp only[List.getElem?_map,h2,List.getElem?_eq_getElem hi,Option.map_some]at this
  exact Option.some.inj this
 ·subst hx
  exact step a ha H N e
theorem Ah1 {kvs:List (Key×V)}(items:List α)(f:α->Int)(keep:α->Bool)(out:α->V)(hd:H1 d=some (.frz od (.dK kvs)))(he:kvs.map (·.1)=items.map fun a=>Sum.inl (f a))(hD:H1 D=none)(hn:items.length<=1000000)
  (step:∀a∈items,∀H (N:Hp->Prop),Ext C H1 H->(keep a=true->∀H4,Ext C H H4->Put D (out a) N H4)->(keep a=false->∀H3,Ext C H H3->N H3)->g (.int (f a)) (wipe σ vs) H fun σ2 H2=>wipe σ2 vs=wipe σ vs∧tt σ2 H2 fun b H3=>if b=true then te σ2 H3 fun y H4=>Put D y N H4 else N H3)
  (fin:∀H,Ext C H1 H->H D=some (.lst ((items.filter keep).map out))->Qd H) :
  ∃W:Nat->Nat->Hp->Prop,(∃m,W 0 m (upd H1 D (.lst [])))∧∀i m H,W i m H ->
   ((Itk d od kvs).stop i H∧Qd H)∨((Itk d od kvs).go i H∧∃Nx:Hp->Prop,(∀H',Nx H'->∃m',m' < m∧W (i + 1) m' H')∧∀x H',(Itk d od kvs).yld i H x H'->g x (wipe σ vs) H' fun σ2 H2=>wipe σ2 vs=wipe σ vs∧tt σ2 H2 fun b H3 =>
    if b=true then te σ2 H3 fun y H4=>Put D y Nx H4 else Nx H3):=by
 have el:kvs.length=items.length:=by have:=congrArg List.length he;simpa using this
 refine Yu (C:=C) items (fun a _ x=>x= .int (f a)) keep out hD hn (fun i H hi e=>⟨e.frz hd,by rw[el];exact hi⟩) (fun H e=>⟨e.frz hd,Nat.le_of_eq el⟩) (fun i x H H' hi e ⟨h1,k,v,h2,h3⟩=>⟨h1,?_⟩) (fun a ha x H N e hx=>?_) fin
 ·have:=congrArg (fun l=>l[i]?) he
  simp only[List.getElem?_map,h2,List.getElem?_eq_getElem hi,Option.map_some]at this
  have:=Option.some.inj this
  subst this
  exact h3
 ·subst hx
  exact step a ha H N e
theorem EY {l:Addr}(items:List α)(f:α->V)(keep:α->Bool)(out:α->V)(hl:SqL K H1 l (items.map f))(hD:H1 D=none)(hn:items.length<=1000000)
  (step:∀a∈items,∀H (N:Hp->Prop),Ext C H1 H->(keep a=true->∀H4,Ext C H H4->Put D (out a) N H4)->(keep a=false->∀H3,Ext C H H3->N H3)->g (f a) (wipe σ vs) H fun σ2 H2=>wipe σ2 vs=wipe σ vs∧tt σ2 H2 fun b H3=>if b=true then te σ2 H3 fun y H4=>Put D y N H4 else N H3)
  (fin:∀H,Ext C H1 H->H D=some (.lst ((items.filter keep).map out))->Qd H) :
  ∃W:Nat->Nat->Hp->Prop,(∃m,W 0 m (upd H1 D (.lst [])))∧∀i m H,W i m H ->
   ((Itl K l).stop i H∧Qd H)∨((Itl K l).go i H∧∃Nx:Hp->Prop,(∀H',Nx H'->∃m',m' < m∧W (i + 1) m' H')∧∀x H',(Itl K l).yld i H x H'->g x (wipe σ vs) H' fun σ2 H2=>wipe σ2 vs=wipe σ vs∧tt σ2 H2 fun b H3 =>
    if b=true then te σ2 H3 fun y H4=>Put D y Nx H4 else Nx H3):=by
 refine Yu (C:=C) items (fun a _ x=>x=f a) keep out hD hn (fun i H hi e=>⟨_,f items[i],e.Dn hl,by rw[List.getElem?_map,List.getElem?_eq_getElem hi];rfl⟩) (fun H e=>⟨_,e.Dn hl,by rw[List.length_map];exact Nat.le_refl _⟩) (fun i x H H' hi e ⟨h1,h2⟩=>⟨h1,?_⟩) (fun a ha x H N e hx=>?_) fin
 ·have:=h2 _ (e.Dn hl)
  rw[List.getElem?_map,List.getElem?_eq_getElem hi]at this
  exact(Option.some.inj this).symm
 ·subst hx
  exact step a ha H N e
end
theorem CP {H:Hp}{a D:Addr}{o:HO}(h:upd H a o D=none):H D=none:=by
 by_cases e:D=a
 ·rw[e,Ab]at h;cases h
 ·rw[Ac e]at h;exact h
theorem Tq (l:List (Addr×Vbnlag.Act)):(dA l).map (·.2)=l.map fun p=>V.ref p.1:=by unfold dA;rw[List.map_map];rfl
theorem Aj5 (l:List (Addr×Vbnlag.Name)):(dN l).map (·.2)=l.map fun p=>V.ref p.1:=by unfold dN;rw[List.map_map];rfl
theorem An6 (l:List (Addr×Vbnlag.Name)):(dN l).map (·.1)=l.map fun p=>Sum.inl p.2.key:=by unfold dN;rw[List.map_map];rfl
section
variable {C:Cl}{H:Hp}{k:Addr}{s:VS}{R:Rep}
theorem Kp.ZM (h:Kp C H k s R):R.as.length=s.acts.length:=by rw[← h.ap.length_eq,List.length_map]
theorem Kp.Ag8 (h:Kp C H k s R):R.ns.length=s.names.length:=by rw[← h.np.length_eq,List.length_map]
theorem Kp.Ba1 (h:Kp C H k s R):R.ws.length=s.works.length:=by rw[← h.wp.length_eq,List.length_map]
theorem Kp.Q0 (h:Kp C H k s R) {p}(hp:p∈R.as):p.2∈s.acts:=h.ap.mem_iff.mp (List.mem_map.mpr ⟨p,hp,rfl⟩)
theorem Kp.Xm (h:Kp C H k s R) {p}(hp:p∈R.ns):p.2∈s.names:=h.np.mem_iff.mp (List.mem_map.mpr ⟨p,hp,rfl⟩)
theorem Kp.Ba0 (h:Kp C H k s R) {p}(hp:p∈R.ws):p.2∈s.works:=h.wp.mem_iff.mp (List.mem_map.mpr ⟨p,hp,rfl⟩)
end
section
variable {X:Cx}{e:Expr}{pos:Pos}{K:PySem.W.Frag}{C:Cl}
theorem pF {ta:TE}{f:Str}(T:Cq K C)(he:PE X e ta)(hK:X.K=K:=by rfl)(hb:attributeBase e f X.env (eval e X.env)=eval e X.env:=by rfl):PE X (.Attribute e f pos) (tF K ta f):=hK▸pf he hb
theorem MK (T:Cq K C)(hK:X.K=K:=by rfl):OpR X (compareOp .In) (rIn K false):=hK▸Zr
end
end Nm
namespace L2
open PySem PySem.Spec PyProof.Rows
theorem Dz (val:Nat->Int):∀i,(firstMet val i).Nodup
 | 0=>by rw[firstMet_zero];exact List.nodup_nil
 | i + 1=>by
  rw[firstMet_succ]
  unfold step_dedup
  by_cases h:(firstMet val i).any (· ==val i)=true
  ·rw[if_pos h];exact Dz val i
  ·rw[if_neg h]
   refine List.nodup_append.mpr ⟨Dz val i,(List.nodup_cons.mpr ⟨List.not_mem_nil,List.nodup_nil⟩),fun a ha b hb e=>h ?_⟩
   rw[List.mem_singleton]at hb
   rw[List.any_eq_true]
   exact⟨a,ha,by rw[e,hb];simp⟩
theorem Lr {ns:List Int}{k:Int}:k∈firstMet (fun i=>ns.getD i 0) ns.length↔k∈ns:=by
 have h:=firstMet_any (fun i=>ns.getD i 0) ns.length k
 have e:(List.range ns.length).map (fun i=>ns.getD i 0)=ns:=by
  apply List.ext_getElem
  ·simp
  ·intro i h1 h2
   simp at h1
   simp[List.getD_eq_getElem?_getD,h1]
 rw[e]at h
 constructor
 ·intro m
  have:ns.any (· ==k)=true:=by rw[← h,List.any_eq_true];exact⟨k,m,by simp⟩
  obtain⟨x,hx,q⟩:=List.any_eq_true.mp this
  rw[← (by simpa using q:x=k)]
  exact hx
 ·intro m
  have:(firstMet (fun i=>ns.getD i 0) ns.length).any (· ==k)=true:=by rw[h,List.any_eq_true];exact⟨k,m,by simp⟩
  obtain⟨x,hx,q⟩:=List.any_eq_true.mp this
  rw[← (by simpa using q:x=k)]
  exact hx
section
variable {X:Cx}
theorem Ax3 (hc:X.calm=true):Gg X (.type "set") (fun vs H Q=>∃(a:Addr)(ns:List Int),vs=[V.ref a]∧SqL X.K H a (ns.map V.int)∧ns.length<=1000∧∀(p:Addr)(S:Int->Bool)(R:List Int),H p=none->R.Nodup->(∀x,x∈R↔x∈ns)->Q (.ref p) (upd H p (.set S R.length))):=by
 intro pins s σ H vs us Q I r h
 obtain⟨a,ns,rfl,hs,hn,q⟩:=h
 obtain⟨its,rv,hl,_⟩:=I.list hs
 rw[Vals.Qq r]
 have hi:=rv.ints
 have e:its.toArray.size=ns.length:=by have:=hi.length;simpa using this
 refine PySem.call_set_list (I.ok.hd hc) hl.isList hi (by rw[e];unfold scanBound;omega) fun h' tk hS hk=>?_
 rw[e]at hS
 have hf:=I.hok.fresh (Nat.le_refl s.heap.objs.size)
 exact⟨.ref s.heap.objs.size,_,I.laid (o:= .set _ _) (t':=tk) (fun b u hb=>hk b u (Heap.lt_size hb) hb) (Nat.le_refl _) hS,rfl,q _ _ _ hf (Dz _ _) fun x=>Lr⟩
theorem Ap7:Gg X (.builtin "len") (fun vs H Q=>∃(a:Addr)(S:Int->Bool)(n:Nat),vs=[V.ref a]∧H a=some (.set S n)∧Q (.int n) H):=by
 intro pins s σ H vs us Q I r h
 obtain⟨a,S,n,rfl,ha,q⟩:=h
 rw[Vals.Qq r]
 obtain⟨o,es,ep,t,ho,hex,hd,_,_,hb,hf,rfl⟩:s.heap.SetOf (intKind X.prog X.w) a S n:=I.hok a _ ha
 exact PySem.call_len_set ho hex hd hf (by unfold scanBound at hb;omega) ⟨.int es.size,H,I.kept (t':=s.toks + 1 + 1) fun b o e=>e,⟨_,rfl⟩,q⟩
end
end L2
namespace Nm
open PySem PySem.Spec PyProof.Rows L2
theorem Yo {X:Cx}{K:PySem.W.Frag}{C:Cl}{pos:Pos}{es:List Expr}{k:Nat}{t:TGs}{n:Nat}(T:Cq K C)(hc:X.calm=true)(h:PGs X es t)(hK:X.K=K:=by rfl)
  (hn:(assignEach es X.env).length=n:=by rfl) (hst:(assignEach es X.env).findIdx? (·.1)=none:=by rfl):PG X (.Tuple es k pos) (Ba6 K n t):=hK▸Au4 hc h hn hst
theorem hu0 {k:Nat}{A:Around}(hr:CJ k A):A.units < cLine:=by have:=hr.un;omega
theorem boot_set:bootBuiltins "set" =some (.type "set"):=by decide +kernel
theorem boot_max:bootBuiltins "max" =some (.builtin "max"):=by decide +kernel
theorem boot_min:bootBuiltins "min" =some (.builtin "min"):=by decide +kernel
theorem boot_any:bootBuiltins "any" =some (.builtin "any"):=by decide +kernel
theorem boot_all:bootBuiltins "all" =some (.builtin "all"):=by decide +kernel
section
variable {α:Type}{C:Cl}{g:TG}{tt:TT}{te:TE}{vs:List Nat}{σ:L2.St}{H1:Hp}{D d:Addr}{od:Obj}{Qd:Hp->Prop}{K:PySem.W.Frag}
theorem Ah0 (items:List (Int×Int))(keep:Int×Int->Bool)(out:Int×Int->V)(hd:H1 d=some (.frz od (.dT (dU items))))(hD:H1 D=none)(hn:items.length<=1000000)
  (step:∀u∈items,∀q H (N:Hp->Prop),Ext C H1 H->H q=some (.tup [V.int u.1,V.int u.2])->(keep u=true->∀H4,Ext C H H4->Put D (out u) N H4)->(keep u=false->∀H3,Ext C H H3->N H3)->g (.ref q) (wipe σ vs) H fun σ2 H2=>wipe σ2 vs=wipe σ vs∧tt σ2 H2 fun b H3=>if b=true then te σ2 H3 fun y H4=>Put D y N H4 else N H3)
  (fin:∀H,Ext C H1 H->H D=some (.lst ((items.filter keep).map out))->Qd H) :
  ∃W:Nat->Nat->Hp->Prop,(∃m,W 0 m (upd H1 D (.lst [])))∧∀i m H,W i m H ->
   ((Aj2 d od (dU items)).stop i H∧Qd H)∨((Aj2 d od (dU items)).go i H∧∃Nx:Hp->Prop,(∀H',Nx H'->∃m',m' < m∧W (i + 1) m' H')∧∀x H',(Aj2 d od (dU items)).yld i H x H'->g x (wipe σ vs) H' fun σ2 H2=>wipe σ2 vs=wipe σ vs∧tt σ2 H2 fun b H3 =>
    if b=true then te σ2 H3 fun y H4=>Put D y Nx H4 else Nx H3):=by
 have el:(dU items).length=items.length:=by unfold dU;rw[List.length_map]
 refine Yu (C:=C) items (fun u H x=>∃q,x= .ref q∧H q=some (.tup [V.int u.1,V.int u.2])) keep out hD hn (fun i H hi e=>⟨e.frz hd,by rw[el];exact hi⟩) (fun H e=>⟨e.frz hd,Nat.le_of_eq el⟩) (fun i x H H' hi e ⟨h1,k,v,q,h2,h3,h4⟩=>⟨h1,q,h3,?_⟩) (fun a ha x H N e hx=>?_) fin
 ·unfold dU at h2
  rw[List.getElem?_map,List.getElem?_eq_getElem hi]at h2
  cases h2
  exact h4
 ·obtain⟨q,rfl,h4⟩:=hx
  exact step a ha q H N e h4
end
end Nm
namespace L2
open PySem PySem.Spec PyProof.Rows
section
variable {X:Cx}{pins:List (Addr×Obj)}{σ:St}{H:Hp}{s:Shared}{a:Addr}{kvs:List (Key×V)}{k:Key}{u r:Value}{z:V}{A:Around}{E:Value->Shared->Prop}
theorem Ax1 {Q:Value->Shared->Prop}(I:Inv X pins σ H s)(e:H a=some (.dK kvs))(hz:kvs.length < sizeLine)(ry:RelV (kV k) u)(rz:RelV z r)
  (h1:∀v,BL kvs k=some v->∀w' s',Inv X pins σ H s'->RelV v w'->Q w' s') (h2:BL kvs k=none->∀s',Inv X pins σ (upd H a (.dK (putK kvs k z))) s'->Q r s') :
  wpAny (model X.prog X.w) A (call (.builtin "dict.setdefault") [.ref a,u,r]) Q E s:=by
 obtain⟨zz,hd,vs,rel,dd⟩:=Ai8 I.hok e
 refine call_meetsIn PySem.F.slot_dict_setdefault dd.typeIs PySem.F.entry_dict_setdefault (PySem.F.args_dict_setdefault_3 _ _ _) (kt_meets_setdefault (Bq X.prog X.w) a (Oa ry) hd r)
  ⟨vs,dd,by rw[← rel.length];exact zz,fun v hv=>?_,fun hn h' dd' hs=>?_⟩
 ·have rv:=rel.val k
  rw[hv]at rv
  cases q:BL kvs k with
  | none=>rw[q]at rv;exact absurd rv (by intro z;cases z)
  | some x =>
   rw[q]at rv
   obtain⟨w',e1,e2⟩:=Jc.some_of rv
   cases e1
   exact h1 x q _ _ (I.tok _) e2
 ·have rv:=rel.val k
  rw[hn]at rv
  have q:BL kvs k=none:=by
   cases q:BL kvs k with
   | none=>rfl
   | some x =>
    rw[q]at rv
    obtain⟨w',e1,e2⟩:=Jc.some_of rv
    cases e1
  have he:∃q,h'.get? a=some q:=let ⟨q,_,_,hq,_⟩:=dd';⟨q,hq⟩
  have hl:=Gn kvs k z
  exact h2 q _ (Py I (by rw[e];exact True.intro) hs he (XH (by omega) hd (rel.put k rz) dd'))
end
section
variable {X:Cx}{o e f:Expr}{td ty tx:TE}{apos cpos:Pos}
def As3 (td ty tx:TE):TE:=fun σ H Q=>td σ H fun x H1=>∃a,x= .ref a∧IsD H1 a∧ty σ H1 fun y H2=>tx σ H2 fun z H3=>∃kvs k,y=kV k∧H3 a=some (.dK kvs)∧kvs.length < sizeLine∧(∀v,BL kvs k=some v->Q v H3)∧(BL kvs k=none->Q z (upd H3 a (.dK (putK kvs k z))))
theorem Vp (ho:PE X o td)(he:PE X e ty)(hf:PE X f tx)(m:M2 X o "setdefault" apos e f cpos):PE X (.Call (.Attribute o "setdefault" apos) [e,f] [] cpos) (As3 td ty tx):=by
 intro pins s σ H Q I h
 refine wpAny_Call_method m.base m.few m.line PySem.F.plainAttrs_dict PySem.F.slot_dict_setdefault PySem.F.type_dict_setdefault (thn (ho pins s σ H _ I h) fun u s1 ⟨x,H1,I1,rx,a,ex,d,q1⟩=>?_)
 subst ex
 obtain rfl:u=Value.ref a:=rx
 obtain⟨t1,t2,_⟩:=Ah6 I1 d
 refine⟨t1,t2,?_⟩
 rw[m.trees]
 refine Calls.callWith_builtin rfl (Calls.evalArgs_plain (Calls.spliced_cons (thn (he pins s1 σ H1 _ I1 q1) fun iv s2 ⟨y,H2,I2,ry,q2⟩ =>
  Calls.spliced_cons (thn (hf pins s2 σ H2 _ I2 q2) fun fv s3 ⟨z,H3,I3,rz,kvs,k,ey,hd,hz,g1,g2⟩=>Calls.spliced_nil ?_))))
 subst ey
 exact Ax1 I3 hd hz ry rz (fun v hv w' s4 I4 r4=>⟨v,H3,I4,r4,g1 v hv⟩) (fun hn s4 I4=>⟨z,_,I4,rz,g2 hn⟩)
end
end L2
namespace Nm
open PySem PySem.Spec PyProof.Rows L2
structure Dl (H:Hp)(d:Addr)(f:Int->List Int)(E:List (Int×Addr)):Prop where
 at_:H d=some (.dK (E.map fun p=>(Sum.inl p.1,V.ref p.2)))
 nd:(E.map (·.1)).Nodup
 na:(E.map (·.2)).Nodup
 ls:∀p∈E,H p.2=some (.lst ((f p.1).map V.int))
 no:∀k,k∉E.map (·.1)->f k=[]
theorem Yc (k:Int):∀E:List (Int×Addr),BL (E.map fun p=>((Sum.inl p.1:Key),V.ref p.2)) (Sum.inl k)=(E.find? fun p=>p.1==k).map fun p=>V.ref p.2
 | []=>rfl
 | p::r=>by
  rw[List.map_cons,List.find?_cons]
  by_cases e:p.1=k
  ·rw[Cz (show((Sum.inl p.1:Key))=Sum.inl k by rw[e]),show(p.1==k)=true by simp[e]]
   rfl
  ·rw[Cd (fun q=>e (Sum.inl.inj q)),show(p.1==k)=false by simp[e]]
   exact Yc k r
section
variable {C:Cl}{H H':Hp}{d:Addr}{f:Int->List Int}{E:List (Int×Addr)}
theorem Dl.ext (h:Dl H d f E)(e:Ext C H H'):Dl H' d f E:=⟨e.dK h.at_,h.nd,h.na,fun p hp=>e.lst (h.ls p hp),h.no⟩
theorem Dl.get (h:Dl H d f E)(k:Int):(∃p∈E,p.1=k∧BL (E.map fun p=>((Sum.inl p.1:Key),V.ref p.2)) (Sum.inl k)=some (.ref p.2)∧H p.2=some (.lst ((f k).map V.int)))∨(BL (E.map fun p=>((Sum.inl p.1:Key),V.ref p.2)) (Sum.inl k)=none∧f k=[]∧k∉E.map (·.1)):=by
 rw[Yc]
 cases q:E.find? fun p=>p.1==k with
 | some p =>
  have hp:=List.mem_of_find?_eq_some q
  have ek:p.1=k:=by simpa using List.find?_some q
  refine .inl ⟨p,hp,ek,rfl,?_⟩
  rw[← ek]
  exact h.ls p hp
 | none =>
  have n:k∉E.map (·.1):=fun m=>by
   obtain⟨p,hp,e⟩:=List.mem_map.mp m
   have:=List.find?_eq_none.mp q p hp
   simp[e]at this
  exact .inr ⟨rfl,h.no k n,n⟩
theorem Dl.start {p:Addr}:Dl (upd H p (.dK [])) p (fun _=>[]) []:=⟨Ab,by simp,by simp,by simp,fun _ _=>rfl⟩
theorem Dl.more (h:Dl H d f E){p:Int×Addr}(hp:p∈E)(x:Int){g:Int->List Int}(hg:∀k,g k=if k=p.1 then f k++[x] else f k):Dl (upd H p.2 (.lst ((f p.1).map V.int++[V.int x]))) d g E:=by
 have nd:d≠p.2:=fun z=>by have a:=h.ls p hp;rw[← z,h.at_]at a;cases a
 refine⟨by rw[Ac nd];exact h.at_,h.nd,h.na,fun q hq=>?_,fun k hk=>?_⟩
 ·by_cases e:q.1=p.1
  ·have:q=p:=by
    have:=h.nd
    have key:∀{l:List (Int×Addr)},(l.map (·.1)).Nodup->q∈l->p∈l->q=p:=by
     intro l
     induction l with
     | nil=>intro _ h;exact nomatch h
     | cons c r ih =>
      intro nd hq hp
      rw[List.map_cons,List.nodup_cons]at nd
      rcases List.mem_cons.mp hq with e1 | h1
      ·rcases List.mem_cons.mp hp with e2 | h2
       ·exact e1.trans e2.symm
       ·exact absurd (List.mem_map.mpr ⟨p,h2,by rw[← e1];exact e.symm⟩) nd.1
      ·rcases List.mem_cons.mp hp with e2 | h2
       ·exact absurd (List.mem_map.mpr ⟨q,h1,by rw[← e2];exact e⟩) nd.1
       ·exact ih nd.2 h1 h2
    exact key this hq hp
   subst this
   rw[Ab,hg,if_pos rfl,List.map_append]
   rfl
  ·have ne:q.2≠p.2:=fun z=>by
    have key:∀{l:List (Int×Addr)},(l.map (·.2)).Nodup->q∈l->p∈l->q=p:=by
     intro l
     induction l with
     | nil=>intro _ h;exact nomatch h
     | cons c r ih =>
      intro nd hq hp
      rw[List.map_cons,List.nodup_cons]at nd
      rcases List.mem_cons.mp hq with e1 | h1
      ·rcases List.mem_cons.mp hp with e2 | h2
       ·exact e1.trans e2.symm
       ·exact absurd (List.mem_map.mpr ⟨p,h2,by rw[← e1];exact z.symm⟩) nd.1
      ·rcases List.mem_cons.mp hp with e2 | h2
       ·exact absurd (List.mem_map.mpr ⟨q,h1,by rw[← e2];exact z⟩) nd.1
       ·exact ih nd.2 h1 h2
    exact e (by rw[key h.na hq hp])
   rw[Ac ne,hg,if_neg e]
   exact h.ls q hq
 ·rw[hg,if_neg (fun z=>hk (by rw[z];exact List.mem_map.mpr ⟨p,hp,rfl⟩))]
  exact h.no k hk
theorem Qs {kvs:List (Key×V)}{k:Key}{v:V}(h:BL kvs k=none):putK kvs k v=kvs++[(k,v)]:=by
 unfold putK
 rw[if_neg]
 intro z
 obtain⟨kv,hm,e⟩:=List.any_eq_true.mp z
 have e:=of_decide_eq_true e
 clear z
 induction kvs with
 | nil=>exact nomatch hm
 | cons c r ih =>
  obtain⟨c1,c2⟩:=c
  by_cases q:c1=k
  ·rw[Cz q]at h;cases h
  ·rw[Cd q]at h
   rcases List.mem_cons.mp hm with rfl | hm
   ·exact q e
   ·exact ih h hm
theorem Dl.add (h:Dl H d f E){k:Int}(hk:k∉E.map (·.1)){l:Addr}(hl:H l=none):Dl (upd (upd H l (.lst [])) d (.dK (putK (E.map fun p=>((Sum.inl p.1:Key),V.ref p.2)) (Sum.inl k) (.ref l)))) d f (E++[(k,l)]):=by
 have nd:l≠d:=fun z=>by rw[z,h.at_]at hl;cases hl
 have e0:BL (E.map fun p=>((Sum.inl p.1:Key),V.ref p.2)) (Sum.inl k)=none:=by
  rcases h.get k with⟨p,hp,e,_⟩ | ⟨e,_⟩
  ·exact absurd (List.mem_map.mpr ⟨p,hp,e⟩) hk
  ·exact e
 refine⟨?_,?_,?_,fun p hp=>?_,fun j hj=>?_⟩
 ·rw[Ab,Qs e0,List.map_append]
  rfl
 ·rw[List.map_append]
  exact List.nodup_append.mpr ⟨h.nd,by simp,fun x hx y hy z=>hk (by simp at hy;rw[← hy,← z];exact hx)⟩
 ·rw[List.map_append]
  refine List.nodup_append.mpr ⟨h.na,by simp,fun x hx y hy z=>?_⟩
  simp at hy
  obtain⟨p,hp,e⟩:=List.mem_map.mp hx
  have a:=h.ls p hp
  rw[e,z,hy,hl]at a
  cases a
 ·rcases List.mem_append.mp hp with hp | hp
  ·have a:=h.ls p hp
   rw[Ac (fun z=>by rw[z,h.at_]at a;cases a),Ac (fun z=>by rw[z,hl]at a;cases a)]
   exact a
  ·simp at hp
   subst hp
   rw[Ac nd,Ab,h.no k hk]
   rfl
 ·exact h.no j fun m=>hj (by rw[List.map_append];exact List.mem_append_left _ m)
end
end Nm
namespace L2
open PySem PySem.Spec PyProof.Rows
section
variable {P:Program}{w:World}{J:Type} [DecidableEq J] {kd:HeapKind P w J}{A:Around}{E:Value->Shared->Prop}{s:Shared}
theorem Xv {m:Addr}(hno:(m==sysModules)=false):MeetsIn P w (Builtin.«dict.__len__» ⟨[.ref m],[]⟩) (fun _ R s=>∃xs,s.heap.DictOfH kd m xs∧R (.ok (.ret (.int xs.length s.toks))) {s with toks:=s.toks + 1}) :=
 .of_wp fun A R s ⟨xs,hm,h⟩=>by
  obtain⟨ob,en,q,h1,h2,h3,h4,h5,h6⟩:=hm
  show wpAny _ _ (dictSize m >>=_) _ _ s
  unfold dictSize
  refine wpAny_bind (wpAny_bind (wpAny_dictEntries h1 h3 (wpAny_pure ?_)))
  show wpAny _ _ (Builtin.Dict.pendingCount m >>=_) _ _ s
  refine wpAny_bind (wpAny_pendingCount_other hno ?_)
  refine wpAny_ret_mkInt ?_
  rw[Nat.add_zero,size_of_entries h4]
  exact h
theorem ZL {m:Addr}{xs:List (J×Addr×Value)}{Q:Value->Shared->Prop}(hno:(m==sysModules)=false)(hm:s.heap.DictOfH kd m xs)(fit:(xs.length:Int) < 2 ^ 63)(h:Q (.int xs.length (s.toks + 1)) {s with toks:=s.toks + 1 + 1}) :
  wpAny (model P w) A (call (.builtin "len") [.ref m]) Q E s:=by
 refine Calls.call_function_entry kind_len plain_len entry_len (args_len1 _) ?_
 unfold Builtin.«len»
 refine wpAny_bind (m:=oneArg "len" _) (wpAny_pure ?_)
 refine wpAny_bind (m:=callSpecial? (.ref m) (Str.ofString "__len__")) (wpAny_callSpecial?_slot (name:=Str.ofString "__len__") hm.typeIs PySem.F.slot_dict_len
  (call_meetsIn PySem.F.slot_dict_len hm.typeIs PySem.F.entry_dict_len (PySem.F.args_dict_len_1 _) (Xv (kd:=kd) hno) ⟨xs,hm,?_⟩))
 show wpAny _ _ _ _ _ {s with toks:=s.toks + 1}
 refine wpAny_bind (wpAny_holding (wpAny_pure (wpAny_bind (wpAny_letGo ?_))))
 show wpAny _ _ (if ((xs.length:Nat):Int) < 0 then _ else _) _ _ _
 rw[if_neg (by omega)]
 show wpAny _ _ (if ((xs.length:Nat):Int)≥2 ^ 63 then _ else _) _ _ _
 rw[if_neg (by omega)]
 exact wpAny_bind (wpAny_mkInt (wpAny_pure ⟨_,rfl,h⟩))
end
section
variable {X:Cx}
theorem S9:Gg X (.builtin "len") (fun xs H Q=>∃a kvs,xs=[V.ref a]∧Rd H a (.dT kvs)∧Q (.int kvs.length) H):=by
 intro pins s σ H xs us Q I r h
 obtain⟨a,kvs,rfl,ha,q⟩:=h
 rw[Vals.Qq r]
 obtain⟨z,hno,ys,rel,dd⟩:=LC I.hok ha
 have hl:kvs.length=ys.length:=Paired.length rel
 refine ZL hno dd (by rw[← hl];rw[sizeLine_eq]at z;omega) ⟨.int kvs.length,H,I.kept (t':=s.toks + 1 + 1) fun b o e=>e,?_,q⟩
 rw[← hl]
 exact⟨_,rfl⟩
end
end L2
namespace L2
open PySem PySem.Spec PyProof.Rows
section
variable {X:Cx}{pins:List (Addr×Obj)}{σ:St}{H:Hp}{s:Shared}
theorem W3 {r:Addr}{ns:List Int}{A:Around}{E:Value->Shared->Prop}{Q:Value->Shared->Prop}(I:Inv X pins σ H s)
  (col:∀R:List Value->Shared->Prop,(∀h' tk (acc:Array Value),(∀b o,s.heap.get? b=some o->h'.get? b=some o)->IntsAre acc.toList ns->R acc.toList {s with heap:=h',toks:=tk})->wpAny (model X.prog X.w) A.in1 (collect (.ref r)) R E s) (hz:ns.length<=1000000)
  (h:∀(D:Addr) (ns':List Int) s',Inv X pins σ (upd H D (.lst (ns'.map V.int))) s'->H D=none->ns'.Perm ns->ns'.Pairwise (· <= ·)->Q (.ref D) s'):wpAny (model X.prog X.w) A (call (.builtin "sorted") [.ref r]) Q E s:=by
 refine Calls.call_function_entry kind_sorted plain_sorted entry_sorted (args_sorted1 _) ?_
 unfold Builtin.«sorted»
 refine wpAny_bind (m:=checkCount "sorted" 1 1 _) (wpAny_pure ?_)
 refine wpAny_bind (col _ fun h' tk acc hk hi=>?_)
 have I1:Inv X pins σ H {s with heap:=h',toks:=tk}:=I.kept (t':=tk) hk
 have hl:acc.toList.length=ns.length:=hi.length
 have hzz:ns.length<=sizeLine:=by rw[sizeLine_eq];omega
 refine wpAny_bind (wpAny_newList ?_ (by rw[hl];exact hzz))
 have ho:(h'.push (seqObj "list" acc.toList.toArray 0)).get? h'.objs.size=some (seqObj "list" acc.toList.toArray 0):=Heap.get?_push_size _ rfl
 refine wpAny_bind (wpAny_holding (wpAny_call_entry slot_list_sort ⟨_,ho,rfl⟩ entry_list_sort (list_sort_treeAny ho hi (by rw[hl];exact hzz) fun out ns' a1 a2 a3=>⟨_,rfl,?_⟩) (args_list_sort _)))
 obtain⟨ep,he⟩:=sortedHeap_at (vs:=acc.toList) (out:=out) ho
 have hlen:(ns'.map V.int).length<=sizeLine:=by rw[List.length_map,a2.length_eq];exact hzz
 refine wpAny_pure ⟨_,rfl,h h'.objs.size ns' _ ?_ (I1.hok.fresh (Nat.le_refl _)) a2 a3⟩
 refine I1.laid (o:= .lst (ns'.map V.int)) (t':=tk) (fun b u hb=>?_) (Nat.le_refl _) ⟨hlen,out.toList,ep,Hh a1,he⟩
 have hne:b≠h'.objs.size:=Nat.ne_of_lt (Heap.lt_size hb)
 have h2:=Heap.get?_push_of_some (seqObj "list" acc.toList.toArray 0) hb
 rw[sortedHeap_old hne (Heap.lt_size h2)]
 exact h2
end
section
variable {X:Cx}
theorem An7 {k:Int}{v:Value}(h:Lx (Sum.inl k) v=true):∃t,v= .int k t:=by
 have h:Value.isInt k v=true:=h
 cases v <;>first | (simp[Value.isInt]at h;done) | skip
 all_goals (simp[Value.isInt]at h;exact⟨_,by rw[h]⟩)
theorem Yx:∀{vs:List Value}{ns:List Int},vs.length=ns.length->(∀(j:Nat) v,vs[j]?=some v->∃n t,ns[j]?=some n∧v= .int n t)->IntsAre vs ns
 | [],[],_,_=> .nil
 | [],_::_,h,_=>nomatch h
 | _::_,[],h,_=>nomatch h
 | v::vs,n::ns,h,f=>by
  obtain⟨m,t,e1,e2⟩:=f 0 v rfl
  cases e1
  subst e2
  exact .cons n t (Yx (Nat.succ.inj h) fun j w hw=>f (j + 1) w hw)
theorem Ko (hc:X.calm=true):Gg X (.builtin "sorted") (fun vs H Q=>∃(a:Addr)(kvs:List (Key×V))(ns:List Int),vs=[V.ref a]∧Rd H a (.dK kvs)∧kvs.map (·.1)=ns.map Sum.inl∧ns.length<=1000 ∧
  ∀(D:Addr) (ns':List Int),H D=none->ns'.Perm ns->ns'.Pairwise (· <= ·)->Q (.ref D) (upd H D (.lst (ns'.map V.int)))):=by
 intro pins s σ H vs us Q I r h
 obtain⟨a,kvs,ns,rfl,ha,ek,hn,q⟩:=h
 rw[Vals.Qq r]
 obtain⟨z,hd,ws,rel,dd⟩:=LK I.hok ha
 obtain⟨ep,hat⟩:=dd.dictAt
 have hl:kvs.length=ns.length:=by have:=congrArg List.length ek;simpa using this
 have hw:kvs.length=ws.length:=rel.length
 refine W3 (ns:=ns) I (fun R k=>PySem.W.kdu_collect (PySem.W.kdl_dict (knd:=Bq X.prog X.w) (kvs:=ws) (ep:=ep) hd) (I.ok.hd hc) hat (by rw[← hw,hl,sizeLine_eq];omega) fun h' tk acc hk hacc=>k h' tk acc hk ?_) (by omega) fun D ns' s' I' n' p1 p2=>⟨.ref D,_,I',rfl,q D ns' n' p1 p2⟩
 refine Yx (by rw[Array.length_toList,hacc.1,← hw,hl]) fun j v hv=>?_
 rw[Array.getElem?_toList]at hv
 obtain⟨k0,x,h1,h2⟩:=hacc.2 j v hv
 have hj:j < ws.length:=(List.getElem?_eq_some_iff.mp h1).1
 have h3:=congrArg (fun l=>l[j]?) (rel.keys.symm.trans ek)
 simp only[List.getElem?_map,h1,Option.map_some]at h3
 cases e:ns[j]? with
 | none=>rw[e]at h3;cases h3
 | some n =>
  rw[e]at h3
  have h4:k0=Sum.inl n:=Option.some.inj h3
  subst h4
  obtain⟨t,rfl⟩:=An7 h2
  exact⟨n,t,rfl,rfl⟩
end
end L2
namespace L2
open PySem PySem.Spec PyProof.Rows
section
variable {P:Program}{w:World}{d:Addr}{od:Obj}{en:Array DictEntry}{ep:Nat}
theorem Aj9 (hno:(d==sysModules)=false)(hx:od.ExactDict)(hd:od.data= .dict en ep):PySem.W.KdlSrc P w "dict" d d en.size (fun i v=>∃e,en[i]?=some e∧v=e.key) (fun h=>h.get? d=some od) where
 type:=fun _ h=>⟨od,h,hx.1⟩
 there:=fun _ h=>⟨Heap.lt_size h,Heap.lt_size h⟩
 keep:=fun _ _ h k=>k d (.inl rfl) od h
 notList:=by decide
 notTuple:=by decide
 hint:=fun _ _ _ _ h q=>PySem.W.kdl_hint_dict ⟨od,h,hx.1⟩ q
 iter:=fun A s hh h=>by
  refine⟨_,fun i g=>g.IsKeyIter s.heap.objs.size d i en.size ep∧g.get? d=some od,fun E Q q=>Nk hno h hx hd q,?_,⟨⟨_,Heap.get?_push_size _ rfl,rfl,rfl⟩,Heap.get?_push_of_some _ h⟩⟩
  have ne:d≠s.heap.objs.size:=Nat.ne_of_lt (Heap.lt_size h)
  refine⟨fun b hb=>by simp at hb;simp[hb],fun i g g' st k=>⟨st.1.at fun o e=>k _ (by simp) o e,k d (by simp) od st.2⟩,fun i t Q E hi st hQ=>?_,fun t Q E st hQ=>?_,fun i t Q E st q=>wpAny_pyIter_keyiter st.1 q⟩
  ·exact JD st.1 st.2 hd rfl (Array.getElem?_eq_getElem hi) fun g it sb=>hQ _ g t.toks ⟨_,Array.getElem?_eq_getElem hi,rfl⟩ ⟨it,(sb.2 d ne).trans st.2⟩ fun b o hb e=>(sb.2 b (fun z=>hb (by simp[z]))).trans e
  ·exact Hr hh st.1 st.2 hd rfl (Nat.le_refl _) fun g eb=>hQ g t.toks fun b o hb e=>eb b o (fun z=>hb (by simp[z])) e
end
section
variable {X:Cx}
theorem Aa6 {vs:List Value}:vs.zip vs=vs.map fun v=>(v,v):=by
 induction vs with
 | nil=>rfl
 | cons v r ih=>rw[List.zip_cons_cons,ih,List.map_cons]
theorem XM (hc:X.calm=true):Gg X (.builtin "sorted") (fun vs H Q=>∃(a:Addr)(kvs:List (List Key×V))(ns:List (List Int)),vs=[V.ref a]∧Rd H a (.dT kvs)∧kvs.map (·.1)=ns.map (fun l=>l.map Sum.inl)∧ns.length<=1000∧(∀l∈ns,∃k r,l=k::r) ∧
  ∀(D:Addr) (out:List (Addr×List Int)),H D=none->(out.map (·.2)).Perm ns->(out.Pairwise fun x y=>Vbnlag.less y.2 x.2=false)->(∀t∈out,H t.1=some (.tup (t.2.map V.int)))->Q (.ref D) (upd H D (.lst (out.map fun t=>V.ref t.1)))):=by
 intro pins s σ H vs us Q I r h
 obtain⟨a,kvs,ns,rfl,ha,ek,hn,hne,q⟩:=h
 rw[Vals.Qq r]
 obtain⟨z,hno,xs,rel,o,es,ep,ho,hx,hdt,hes,hk,hnd⟩:=LC I.hok ha
 have hl:kvs.length=ns.length:=by have:=congrArg List.length ek;simpa using this
 have hxs:kvs.length=xs.length:=Paired.length rel
 have hsz:es.size=ns.length:=by rw[size_of_entries hes,← hxs,hl]
 have items:∃ts:List (Addr×List Int),ts.map (·.2)=ns∧xs.map (fun x=>x.2.1)=ts.map (·.1)∧∀t∈ts,H t.1=some (.tup (t.2.map V.int)):=by
  clear hes hk hnd hsz ho hdt hx hn z ha q hl hxs hno
  induction rel generalizing ns with
  | nil =>
   cases ns with
   | nil=>exact⟨[],rfl,rfl,by simp⟩
   | cons _ _=>simp at ek
  | @cons p y ps ys hq t ih =>
   cases ns with
   | nil=>simp at ek
   | cons l r =>
    simp only[List.map_cons,List.cons.injEq]at ek
    obtain⟨ts,t1,t2,t3⟩:=ih r ek.2 (fun l hl=>hne l (List.mem_cons_of_mem _ hl))
    refine⟨(y.2.1,l)::ts,by rw[List.map_cons,t1],by rw[List.map_cons,List.map_cons,t2],fun u hu=>?_⟩
    rcases List.mem_cons.mp hu with rfl | hu
    ·have h2:=hq.2.1
     rw[ek.1,List.map_map]at h2
     exact h2
    ·exact t3 u hu
 obtain⟨ts,t1,t2,t3⟩:=items
 have hts:ts.length=ns.length:=by rw[← t1,List.length_map]
 have hzz:ns.length<=sizeLine:=by rw[sizeLine_eq];omega
 refine Calls.call_function_entry kind_sorted plain_sorted entry_sorted (args_sorted1 _) ?_
 unfold Builtin.«sorted»
 refine wpAny_bind (m:=checkCount "sorted" 1 1 _) (wpAny_pure ?_)
 refine wpAny_bind (PySem.W.kdu_collect (Aj9 hno hx hdt) (I.ok.hd hc) ho (by rw[hsz];exact hzz) fun h' tk acc hkp hacc=>?_)
 have I1:Inv X pins σ H {s with heap:=h',toks:=tk}:=I.kept (t':=tk) hkp
 have hacc2:acc.toList=ts.map fun t=>Value.ref t.1:=by
  apply List.ext_getElem?
  intro j
  rw[Array.getElem?_toList]
  have eL:es.toList=xs.map (entryOfKey (tupleKind (Bq X.prog X.w))):=hes
  cases q1:acc[j]? with
  | none =>
   have:acc.size<=j:=by rw[Array.getElem?_eq_none_iff]at q1;exact q1
   rw[hacc.1,hsz]at this
   rw[List.getElem?_eq_none (by rw[List.length_map,hts];exact this)]
  | some v =>
   obtain⟨e,h1,h2⟩:=hacc.2 j v q1
   rw[entry_at eL]at h1
   have h4:=congrArg (fun l=>l[j]?) t2
   simp only[List.getElem?_map]at h4
   cases q2:xs[j]? with
   | none=>rw[q2]at h1;cases h1
   | some x =>
    rw[q2]at h1 h4
    simp only[Option.map_some,Option.some.injEq]at h1 h4
    cases q3:ts[j]? with
    | none=>rw[q3]at h4;cases h4
    | some t =>
     rw[q3]at h4
     rw[List.getElem?_map,q3,h2,← h1]
     have h5:x.2.1=t.1:=Option.some.inj h4
     show some (Value.ref x.2.1)=_
     rw[h5]
     rfl
 refine wpAny_bind (wpAny_newList ?_ (by rw[hacc2,List.length_map,hts];exact hzz))
 rw[hacc2]
 generalize hD:h'.objs.size=D
 have ho2:(h'.push (seqObj "list" (ts.map fun t=>Value.ref t.1).toArray 0)).get? D=some (seqObj "list" (ts.map fun t=>Value.ref t.1).toArray 0):=by rw[← hD];exact Heap.get?_push_size _ rfl
 have I2:Inv X pins σ H {s with heap:=h'.push (seqObj "list" (ts.map fun t=>Value.ref t.1).toArray 0),toks:=tk}:=I1.kept (t':=tk) fun b o e=>Heap.get?_push_of_some _ e
 obtain⟨fs,hfs⟩:=Tr I2.hok (ts.map (·.1)) (fun p hp=>by
  obtain⟨t,ht,rfl⟩:=List.mem_map.mp hp
  obtain⟨k,r,e⟩:=hne t.2 (by rw[← t1];exact List.mem_map.mpr ⟨t,ht,rfl⟩)
  exact⟨k,r,by rw[← e];exact t3 t ht⟩)
 rw[List.map_map]at hfs
 have keyAt:∀t∈ts,PyProof.Rows.G.tupKeyC (h'.push (seqObj "list" (ts.map fun t=>Value.ref t.1).toArray 0)) (fun _=>false) (.ref t.1)=some (t.2.map Sum.inl):=fun t ht=>Ye I2.hok (t3 t ht)
 refine wpAny_bind (wpAny_holding (wpAny_call_entry slot_list_sort ⟨_,ho2,rfl⟩ entry_list_sort (PyProof.Rows.G.list_sort_tups (s:={s with heap:=h'.push (seqObj "list" (ts.map fun t=>Value.ref t.1).toArray 0),toks:=tk}) ho2 hfs (fun v hv=>by
  obtain⟨t,ht,rfl⟩:=List.mem_map.mp hv
  exact⟨_,keyAt t ht⟩) (by rw[List.length_map,hts];exact hzz) fun st' p1 p2 p3=>⟨_,rfl,?_⟩) (args_list_sort _)))
 have hpl:(arrOf st').toList.Perm (ts.map fun t=>(Value.ref t.1,Value.ref t.1)):=by
  have:=Array.perm_iff_toList_perm.mp p1
  rw[pairsOf_toList,Aa6,List.map_map]at this
  exact this
 obtain⟨ts',p',e'⟩:=Hq _ hpl
 have h0:KeysOf (PyProof.Rows.G.tupKindC (h'.push (seqObj "list" (ts.map fun t=>Value.ref t.1).toArray 0)) (fun _=>false)) (arrOf st'):=fun p hp=>by
  rw[e']at hp
  obtain⟨t,ht,rfl⟩:=List.mem_map.mp hp
  exact⟨_,keyAt t (p'.mem_iff.mp ht)⟩
 have psz:(pairsOf (ts.map fun t=>Value.ref t.1)).size=(arrOf st').size:=p1.size_eq.symm
 rw[psz]at p2
 have pw:=keyLe_of_sorted h0 p2
 rw[e',List.pairwise_map]at pw
 have eout:(arrOf st').map (·.2)=(ts'.map fun t=>Value.ref t.1).toArray:=by
  apply Array.toList_inj.mp
  rw[Array.toList_map,e',List.map_map]
  rfl
 obtain⟨ec,he⟩:=sortedHeap_at (vs:=ts.map fun t=>Value.ref t.1) (out:=(arrOf st').map (·.2)) ho2
 refine wpAny_pure ⟨_,rfl,.ref D,upd H D (.lst (ts'.map fun t=>V.ref t.1)),?_,rfl,q D ts' (by rw[← hD];exact I1.hok.fresh (Nat.le_refl _)) (by rw[← t1];exact p'.map _) ?_ fun t ht=>t3 t (p'.mem_iff.mp ht)⟩
 ·refine I1.laid (o:= .lst (ts'.map fun t=>V.ref t.1)) (t':=tk) (fun b u hb=>?_) (Nat.le_of_eq hD) ⟨by rw[List.length_map,p'.length_eq,hts];exact hzz,ts'.map fun t=>Value.ref t.1,ec,PJ (f:=fun t:Addr×List Int=>V.ref t.1) (g:=fun t=>Value.ref t.1) fun t _=>(show RelV (V.ref t.1) (Value.ref t.1) from rfl),by rw[he,eout]⟩
  have hne2:b≠D:=by rw[← hD];exact Nat.ne_of_lt (Heap.lt_size hb)
  have h2:=Heap.get?_push_of_some (seqObj "list" (ts.map fun t=>Value.ref t.1).toArray 0) hb
  rw[sortedHeap_old hne2 (Heap.lt_size h2)]
  exact h2
 ·refine List.Pairwise.imp_of_mem (fun {x y} hx2 hy2 qq=>?_) pw
  have q2:KeyLe (PyProof.Rows.G.tupKindC (h'.push (seqObj "list" (ts.map fun t=>Value.ref t.1).toArray 0)) (fun _=>false)) (Value.ref x.1,Value.ref x.1) (Value.ref y.1,Value.ref y.1):=qq
  unfold KeyLe at q2
  obtain⟨ka,kb,k1,k2,le⟩:=q2
  have k1':PyProof.Rows.G.tupKeyC (h'.push (seqObj "list" (ts.map fun t=>Value.ref t.1).toArray 0)) (fun _=>false) (.ref x.1)=some ka:=k1
  have k2':PyProof.Rows.G.tupKeyC (h'.push (seqObj "list" (ts.map fun t=>Value.ref t.1).toArray 0)) (fun _=>false) (.ref y.1)=some kb:=k2
  rw[keyAt x (p'.mem_iff.mp hx2)]at k1'
  rw[keyAt y (p'.mem_iff.mp hy2)]at k2'
  cases k1'
  cases k2'
  have le':lexLt itemOrd (y.2.map Sum.inl) (x.2.map Sum.inl)=false:=le
  rw[Q5]at le'
  exact le'
end
end L2
namespace Js
open PySem
structure Tb (led:Bool)(t:SetTable):Prop where
 led:t.led=led
 dum:t.dummies= #[]
 up:t.place.toList.Pairwise (· < ·)
theorem Rt {xs:Array Nat}{j:Nat}(up:xs.toList.Pairwise (· < ·)):∀(f lo hi:Nat),hi - lo<=f->lo<=hi->hi<=xs.size->(∀i v,i < lo->xs[i]?=some v->v < j)->(∀i v,hi<=i->xs[i]?=some v->j<=v) ->
  SetTable.below.go xs j f lo hi<=xs.size∧(∀i v,i < SetTable.below.go xs j f lo hi->xs[i]?=some v->v < j)∧∀i v,SetTable.below.go xs j f lo hi<=i->xs[i]?=some v->j<=v
 | 0,lo,hi,h1,h2,h3,a,b=>by
  have e:lo=hi:=by omega
  subst e
  exact⟨h3,a,b⟩
 | f + 1,lo,hi,h1,h2,h3,a,b=>by
  have mono:∀(i k:Nat) (v w:Nat),i < k->xs[i]?=some v->xs[k]?=some w->v < w:=fun i k v w hik hv hw=>by
   obtain⟨p,e⟩:=Array.getElem?_eq_some_iff.mp hv
   obtain⟨q,e'⟩:=Array.getElem?_eq_some_iff.mp hw
   subst e;subst e'
   have:=List.pairwise_iff_getElem.mp up i k (by simpa using p) (by simpa using q) hik
   simpa using this
  unfold SetTable.below.go
  by_cases hl:lo < hi
  ·rw[if_pos hl]
   have hm:(lo + hi) / 2 < xs.size:=by omega
   have em:xs[(lo + hi) / 2]?=some xs[(lo + hi) / 2]:=Array.getElem?_eq_getElem hm
   have eg:xs.getD ((lo + hi) / 2) j=xs[(lo + hi) / 2]:=by simp[hm]
   dsimp only
   rw[eg]
   by_cases hc:xs[(lo + hi) / 2] < j
   ·rw[if_pos hc]
    refine Rt up f _ hi (by omega) (by omega) h3 (fun i v hi' hv=>?_) b
    by_cases hq:i=(lo + hi) / 2
    ·subst hq;rw[em]at hv;cases hv;exact hc
    ·exact Nat.lt_trans (mono i _ v _ (by omega) hv em) hc
   ·rw[if_neg hc]
    refine Rt up f lo _ (by omega) (by omega) (by omega) a (fun i v hi' hv=>?_)
    by_cases hq:i=(lo + hi) / 2
    ·subst hq;rw[em]at hv;cases hv;omega
    ·have:=mono _ i _ v (by omega) em hv;omega
  ·rw[if_neg hl]
   have e:lo=hi:=by omega
   subst e
   exact⟨h3,a,b⟩
theorem Wh {xs:Array Nat}(up:xs.toList.Pairwise (· < ·))(j:Nat):SetTable.below xs j<=xs.size∧(∀i v,i < SetTable.below xs j->xs[i]?=some v->v < j)∧∀i v,SetTable.below xs j<=i->xs[i]?=some v->j<=v:=by
 unfold SetTable.below
 exact Rt up xs.size 0 xs.size (by omega) (Nat.zero_le _) (Nat.le_refl _) (fun i v h=>absurd h (Nat.not_lt_zero _)) (fun i v h hv=>by
  have:=(Array.getElem?_eq_some_iff.mp hv).1;omega)
theorem below_at {xs:Array Nat}(up:xs.toList.Pairwise (· < ·)){i:Nat}(h:i<=xs.size){j:Nat}(lo:∀k v,k < i->xs[k]?=some v->v < j)(hi:∀v,xs[i]?=some v->j<=v):SetTable.below xs j=i:=by
 obtain⟨a,b,c⟩:=Wh up j
 rcases Nat.lt_trichotomy (SetTable.below xs j) i with g | g | g
 ·have hs:SetTable.below xs j < xs.size:=by omega
  have e:=Array.getElem?_eq_getElem hs
  have:=lo _ _ g e
  have:=c _ _ (Nat.le_refl _) e
  omega
 ·exact g
 ·have hs:i < xs.size:=by omega
  have e:=Array.getElem?_eq_getElem hs
  have:=hi _ e
  have:=b _ _ g e
  omega
theorem ZS {xs:Array Nat}(up:xs.toList.Pairwise (· < ·)){j:Nat}(ab:xs[SetTable.below xs j]?≠some j):(SetTable.insertAt xs (SetTable.below xs j) j).toList.Pairwise (· < ·):=by
 obtain⟨a,b,c⟩:=Wh up j
 rw[SetTable.toList_insertAt,List.pairwise_append,List.pairwise_cons]
 have dr:∀v∈xs.toList.drop (SetTable.below xs j),j < v:=fun v hv=>by
  obtain⟨i,hi,rfl⟩:=List.mem_iff_getElem.mp hv
  rw[List.getElem_drop]
  rw[List.length_drop,Array.length_toList]at hi
  have hs:SetTable.below xs j + i < xs.size:=by omega
  have e:=Array.getElem?_eq_getElem hs
  have h1:=c _ _ (Nat.le_add_right _ i) e
  rw[Array.getElem_toList]
  rcases Nat.eq_or_lt_of_le h1 with h2 | h2
  ·exfalso
   have hs0:SetTable.below xs j < xs.size:=by omega
   have e0:=Array.getElem?_eq_getElem hs0
   have h3:=c _ _ (Nat.le_refl _) e0
   have h4:xs[SetTable.below xs j]≠j:=fun z=>ab (by rw[e0,z])
   by_cases hi0:i=0
   ·subst hi0;exact h4 h2.symm
   ·have:=List.pairwise_iff_getElem.mp up (SetTable.below xs j) (SetTable.below xs j + i) (by simpa using hs0) (by simpa using hs) (by omega)
    rw[Array.getElem_toList,Array.getElem_toList]at this
    omega
  ·exact h2
 have tk:∀v∈xs.toList.take (SetTable.below xs j),v < j:=fun v hv=>by
  obtain⟨i,hi,rfl⟩:=List.mem_iff_getElem.mp hv
  rw[List.getElem_take]
  rw[List.length_take,Array.length_toList]at hi
  have hs:i < xs.size:=by omega
  have e:=Array.getElem?_eq_getElem hs
  rw[Array.getElem_toList]
  exact b _ _ (by omega) e
 refine⟨up.sublist (List.take_sublist _ _),⟨dr,up.sublist (List.drop_sublist _ _)⟩,fun x hx y hy=>?_⟩
 rcases List.mem_cons.mp hy with rfl | hy
 ·exact tk x hx
 ·exact Nat.lt_trans (tk x hx) (dr y hy)
theorem Ag1 (j:Nat):SetTable.has #[] j=false:=rfl
theorem W4 {t:SetTable}(d:t.dummies= #[])(j:Nat):(∃i,t.slot j= .live i)∨(t.slot j= .empty∧t.place[SetTable.below t.place j]?≠some j):=by
 unfold SetTable.slot
 dsimp only
 by_cases h:(t.place[SetTable.below t.place j]?==some j)=true
 ·rw[if_pos h];exact .inl ⟨_,rfl⟩
 ·rw[if_neg h,d,Ag1]
  exact .inr ⟨rfl,fun z=>h (by rw[z];simp)⟩
theorem Vk {t:SetTable}(d:t.dummies= #[]){g:Nat->Int}{h:Int}:∀(f:Nat)(p:SetTable.Probe)(j:Nat)(dm:Option Nat),p.dummy=none->SetTable.probe.go t g h f p=some (.empty j dm)->dm=none∧t.place[SetTable.below t.place j]?≠some j
 | 0,p,j,dm,hp,e=>by unfold SetTable.probe.go at e;cases e
 | f + 1,p,j,dm,hp,e=>by
  have ad:(t.advance p).dummy=none:=by
   unfold SetTable.advance
   by_cases h0:p.more >0
   ·rw[if_pos h0];exact hp
   ·rw[if_neg h0];exact hp
  unfold SetTable.probe.go at e
  rcases W4 d p.j with⟨i,hi⟩ | ⟨he,ab⟩
  ·rw[hi]at e
   dsimp only at e
   split at e
   ·cases e
   ·exact Vk d f _ j dm ad e
  ·rw[he]at e
   dsimp only at e
   cases e
   exact⟨hp,ab⟩
theorem Tb.free {led:Bool}{t:SetTable}(T:Tb led t){h:Int}{j:Nat}{b:Bool}(e:t.freeSlot h=some (j,b)):t.place[SetTable.below t.place j]?≠some j:=by
 unfold SetTable.freeSlot at e
 split at e
 ·rename_i j' dm hp
  unfold SetTable.probe at hp
  obtain⟨z,ab⟩:=Vk T.dum _ _ _ _ rfl hp
  subst z
  cases e
  exact ab
 ·cases e
theorem Ae5 (n:Nat):(Array.range n).toList.Pairwise (· < ·):=by
 rw[Array.toList_range]
 exact List.pairwise_lt_range
theorem Tb.stand {led:Bool}{t:SetTable}(T:Tb led t)(n:Nat):Tb led (t.standIn n):=⟨T.led,rfl,Ae5 n⟩
theorem Tb.Al9 {led:Bool}{t:SetTable}(T:Tb led t)(n:Nat):Tb led (t.orStandIn n):=by
 unfold SetTable.orStandIn
 split
 ·exact T
 ·exact T.stand n
theorem Tb.lay {led:Bool}{t:SetTable}(T:Tb led t)(es:Array (Int×Value))(h:Int)(x:Value):Tb led (layNew t es h x).2.1:=by
 unfold layNew
 split
 ·rename_i j b e
  have ab:=T.free e
  have T1:Tb led (t.put j).1:=by
   refine⟨T.led,?_,ZS T.up ab⟩
   show(if SetTable.has t.dummies j=true then _ else t.dummies)= #[]
   rw[T.dum,Ag1]
   rfl
  exact T1.Al9 _
 ·exact T.stand _
theorem Tb.Ad9 {led:Bool}{t:SetTable}(T:Tb led t)(es:Array (Int×Value))(n:Nat):Tb led (relayAll t es n).2.1:=by
 unfold relayAll
 split
 ·rename_i t' order e
  dsimp only
  split
  ·unfold SetTable.relaid SetTable.laid at e
   cases hc:SetTable.layClean (SetTable.sizeAbove n - 1) (es.map (·.1)) with
   | none=>rw[hc]at e;cases e
   | some ow =>
    rw[hc]at e
    have e:some (({mask:=_,place:=_,dummies:=_,finger:=_,led:=_,moves:=_,plain:=_}:SetTable),_)=some (t',order):=e
    have e:=(Prod.mk.inj (Option.some.inj e)).1
    subst e
    refine⟨T.led,rfl,?_⟩
    show List.Pairwise _ (List.map _ (List.filterMap _ _))
    rw[List.pairwise_map,List.pairwise_filterMap]
    refine List.pairwise_lt_range.imp fun {a b} hab x hx y hy=>?_
    cases h1:ow.getD a none with
    | none=>rw[h1]at hx;cases hx
    | some u =>
     cases h2:ow.getD b none with
     | none=>rw[h2]at hy;cases hy
     | some v =>
      rw[h1]at hx;rw[h2]at hy
      cases hx;cases hy
      exact hab
  ·exact T.stand _
 ·exact T.stand _
theorem Tb.new (f m:Nat)(led:Bool):Tb led (.fresh f m led):=⟨rfl,rfl,.nil⟩
end Js
namespace Js
open PySem PySem.Spec PyProof.Rows
def iv:Value->Int
 | .int n _=>n
 | _=>0
section
variable {P:Program}{w:World}
structure Good (P:Program)(w:World)(led:Bool)(ns:List Int)(es:Array (Int×Value))(t:SetTable):Prop where
 el:ElemsOf (intKind P w) es.toList
 pm:(es.toList.map fun e=>iv e.2).Perm ns
 lt:es.size < scanBound
 ft:t.fits es.size=true
 tb:Tb led t
def Hg (P:Program)(w:World)(led:Bool)(ns:List Int)(h:Heap)(a:Addr):Prop:=∃o es ep t,h.get? a=some o∧o.ExactSet∧o.data= .set es ep t∧Good P w led ns es t
theorem Hg.at' {led:Bool}{ns:List Int}{h h':Heap}{a:Addr}(S:Hg P w led ns h a)(k:∀o,h.get? a=some o->h'.get? a=some o):Hg P w led ns h' a :=
 let ⟨o,es,ep,t,h1,h2⟩:=S
 ⟨o,es,ep,t,k _ h1,h2⟩
theorem Good.size {led:Bool}{ns:List Int}{es:Array (Int×Value)}{t:SetTable}(G:Good P w led ns es t):es.size=ns.length:=by
 have:=G.pm.length_eq
 simpa using this
theorem Good.Ad9 {led:Bool}{ns:List Int}{es:Array (Int×Value)}{t:SetTable}(G:Good P w led ns es t)(n:Nat):Good P w led ns (relayAll t es n).1 (relayAll t es n).2.1:=by
 have p:=relayAll_perm t es n
 have z:(relayAll t es n).1.size=es.size:=by have:=p.length_eq;simpa using this
 exact⟨G.el.perm p,(p.map _).trans G.pm,z▸G.lt,relayAll_fits t es n,G.tb.Ad9 es n⟩
theorem Good.lay {led:Bool}{ns:List Int}{es:Array (Int×Value)}{t:SetTable}(G:Good P w led ns es t)(v:Int)(k:Tok)(r:ns.length + 1 < scanBound) :
  Good P w led (ns++[v]) (layNew t es (hashInt v) (.int v k)).1 (layNew t es (hashInt v) (.int v k)).2.1:=by
 have p:=layNew_perm t es (hashInt v) (.int v k)
 rw[Array.toList_push]at p
 have z:(layNew t es (hashInt v) (.int v k)).1.size=es.size + 1:=by have:=p.length_eq;simpa using this
 refine⟨(G.el.push (k:=v) (x:= .int v k) (intKind_is P w v k) rfl).perm p,(p.map _).trans ?_,by rw[z,G.size];exact r,layNew_fits _ _ _ _,G.tb.lay es _ _⟩
 rw[List.map_append]
 exact G.pm.append_right _
variable {A:Around}{E:Value->Shared->Prop}{s:Shared}{led:Bool}{ns:List Int}
theorem Hg.put {h:Heap}{a:Addr}{o:Obj}{es es1:Array (Int×Value)}{ep:Nat}{t t1:SetTable}(g:h.get? a=some o)(x:o.ExactSet)(d:o.data= .set es ep t)(G:Good P w led ns es1 t1) :
  (h.update a (Obj.putSet es1 t1)).get? a=some {o with data:= .set es1 (ep + 1) t1}:=by
 have u:=Heap.get?_update_self (Obj.putSet es1 t1) g (by rw[putSet_of es1 t1 d];rfl)
 rw[putSet_of es1 t1 d]at u
 exact u
theorem YW {f:Bool->Sem Unit}(hf:∀(b:Bool)(u:Shared)(q:Unit->Shared->Prop),q () u->wpAny (model P w) A (f b) q E u){a:Addr}{o:Obj}{es es1:Array (Int×Value)}{ep:Nat}{t t1:SetTable}(g:s.heap.get? a=some o)
  (x:o.ExactSet) (d:o.data= .set es ep t) (G:Good P w led ns es1 t1) {wd:Bool} {R:Option Bool->Shared->Prop} (h:∀h',Heap.SameBut a s.heap h'->Hg P w led ns h' a->R (some true) {s with heap:=h'}) :
  wpAny (model P w) A (do
    storeSet a es1 t1
    if (!wd&&t1.tooFull)=true then do f (relayAll t1 es1 (SetTable.grown es1.size)).2.2;storeSet a (relayAll t1 es1 (SetTable.grown es1.size)).1 (relayAll t1 es1 (SetTable.grown es1.size)).2.1;pure (some true)
     else pure (some true)) R E s:=by
 refine wpAny_bind (wpAny_storeSet_of g d ?_ (fits_of_scanBound G.lt))
 have g1:=Hg.put g x d G
 have sb:=Heap.SameBut.update s.heap a (Obj.putSet es1 t1)
 split
 ·have G2:=G.Ad9 (SetTable.grown es1.size)
  generalize relayAll t1 es1 (SetTable.grown es1.size)=r at G2 ⊢
  refine wpAny_bind (hf _ _ _ (wpAny_bind (wpAny_storeSet_of g1 rfl ?_ (fits_of_scanBound G2.lt))))
  have g2:=Hg.put (o:={o with data:= .set es1 (ep + 1) t1}) g1 x rfl G2
  exact wpAny_pure (h _ (sb.trans (Heap.SameBut.update _ a _)) ⟨_,_,_,_,g2,x,rfl,G2⟩)
 ·exact wpAny_pure (h _ sb ⟨_,_,_,_,g1,x,rfl,G⟩)
theorem Ah5 {v:Int}{x:Value}(h:(intKind P w).is v x=true):iv x=v:=by
 obtain⟨t,rfl⟩:=Value.isInt_shape h
 rfl
theorem add_int {a:Addr}{v:Int}{k:Tok}{Q:Bool->Shared->Prop}(S:Hg P w led ns s.heap a)(room:ns.length + 1 < scanBound)
  (h:∀h' b,Heap.SameBut a s.heap h'->Hg P w led (step_dedup ns v) h' a->Q b {s with heap:=h'}):wpAny (model P w) A (setAddHashed a (.int v k) ((intKind P w).hash v)) Q E s:=by
 obtain⟨o,es,ep,t,g,x,d,G⟩:=S
 have ki:(intKind P w).is v (.int v k)=true:=intKind_is P w v k
 have mem:∀e∈es.toList,((intKind P w).is v e.2=true↔iv e.2=v):=fun e he=>by
  obtain⟨⟨m,hm,_⟩,_⟩:=G.el e he
  refine⟨Ah5,fun z=>?_⟩
  have:=Ah5 hm
  rw[← z,this]
  exact hm
 unfold setAddHashed setAddHashedIn
 refine wpAny_holding (wpAny_bind (wpAny_setState_of g d G.ft ?_))
 dsimp only
 rw[byScan_of (knd:=intKind P w) (x:= .int v k) rfl G.lt G.el]
 simp only[↓reduceIte]
 unfold setAddByScan
 refine wpAny_bind (wpAny_bind (wpAny_rule (wpAny_bind (wpAny_setScan_of ki g d G.ft G.el ?_))))
 cases hr:List.findIdx? (fun e=>(intKind P w).is v e.2) es.toList with
 | some j =>
  dsimp only
  obtain⟨hj,hp,_⟩:=List.findIdx?_eq_some_iff_getElem.mp hr
  have hv:v∈ns:=G.pm.mem_iff.mp (List.mem_map.mpr ⟨_,List.getElem_mem hj,Ah5 hp⟩)
  have e:step_dedup ns v=ns:=by unfold step_dedup;rw[if_pos (by simpa using hv)]
  have q:=h s.heap false (Heap.SameBut.refl a s.heap) (e.symm▸⟨o,es,ep,t,g,x,d,G⟩)
  exact wpAny_pure (wpAny_pure q)
 | none =>
  dsimp only
  have hv:v∉ns:=fun z=>by
   obtain⟨e,he,hz⟩:=List.mem_map.mp (G.pm.mem_iff.mpr z)
   have:=List.findIdx?_eq_none_iff.mp hr e he
   rw[(mem e he).mpr hz]at this
   cases this
  have e:step_dedup ns v=ns++[v]:=by unfold step_dedup;rw[if_neg (by simpa using hv)]
  rw[e]at h
  have G1:=G.lay v k room
  have gw:∀(b:Bool) (u:Shared) (q:Unit->Shared->Prop),q () u->wpAny (model P w) A (match b with | true=>rule "set.scan.the-table-gave-way" | false=>pure ()) q E u:=fun b u q hq=>by cases b <;>first | exact wpAny_pure hq | exact wpAny_rule hq
  show wpAny _ _ _ _ _ _
  change Good P w led (ns++[v]) (layNew t es ((intKind P w).hash v) (.int v k)).1 (layNew t es ((intKind P w).hash v) (.int v k)).2.1 at G1
  generalize layNew t es ((intKind P w).hash v) (.int v k)=L at G1 ⊢
  obtain⟨es1,t1,wd,gv⟩:=L
  dsimp only at G1 ⊢
  refine wpAny_bind (gw _ _ _ ?_)
  have fin:∀h',Heap.SameBut a s.heap h'->Hg P w led (ns++[v]) h' a->Q true {s with heap:=h'}:=fun h' y z=>h h' true y z
  split
  ·refine wpAny_bind ?_
   rw[hashByValue_scannable 8 rfl]
   refine wpAny_pure (YW (led:=led) ?_ g x d (ns:=ns++[v]) ?_ ?_)
   ·intro b u q hq;cases b <;>first | exact wpAny_pure hq | exact wpAny_rule hq
   ·exact G1
   ·intro h' y z;dsimp only;exact wpAny_pure (fin h' y z)
  ·refine wpAny_bind (wpAny_pure ?_)
   simp only[↓reduceIte]
   refine YW ?_ g x d G1 ?_
   ·intro b u q hq;cases b <;>first | exact wpAny_pure hq | exact wpAny_rule hq
   ·intro h' y z;dsimp only;exact wpAny_pure (fin h' y z)
end
end Js
namespace Js
open PySem PySem.Spec PyProof.Rows
section
variable {P:Program}{w:World}{A:Around}{R:Result->Shared->Prop}{I:Addr}{fp wr:List Addr}{G:Array GenState->Array GenState->Prop}{n:Nat}{Pr:Nat->Value->Prop}{St:Nat->Shared->Prop}{led:Bool}
theorem Vf (W:WalksS P w A.in1 I fp wr G n Pr St)(S:Addr)(hS:S∉fp)(val:Nat->Int)(hv:∀i v,Pr i v->∃t,v= .int (val i) t)(hb:n + 1 < scanBound) :
  ∀(k i:Nat) (s:Shared),n - i=k->i<=n->St i s->Hg P w led (firstMet val i) s.heap S->(∀s',Moved (S::wr) G s s'->Hg P w led (firstMet val n) s'.heap S->R (.ok (.ret .none)) s') ->
   codeAny (model P w) A (.builtin "set.update.loop" ⟨[.ref S,.ref I],[]⟩) R s
 | 0,i,s,e,hi,st,z,k=>by
  have hin:i=n:=by omega
  subst hin
  refine codeAny_builtin PyProof.Rows.F.entry_set_update_loop ?_
  rw[Around.under_plainId PyProof.Rows.F.plain_set_update_loop _]
  show wpAny _ A.in1 (pyNext (.ref I) >>=_) _ _ s
  refine wpAny_bind (W.done s _ _ st fun s' mv=>?_)
  show wpAny _ A.in1 (ret Value.none) _ _ s'
  exact wpAny_pure (k s' (mv.mono fun b hb=>List.mem_cons_of_mem _ hb) (z.at' fun o e=>mv.heap S _ (fun q=>hS (W.sub _ q)) e))
 | j + 1,i,s,e,hi,st,z,k=>by
  have hlt:i < n:=by omega
  refine codeAny_builtin PyProof.Rows.F.entry_set_update_loop ?_
  rw[Around.under_plainId PyProof.Rows.F.plain_set_update_loop _]
  show wpAny _ A.in1 (pyNext (.ref I) >>=_) _ _ s
  refine wpAny_bind (W.item i s _ _ hlt st fun v s1 hP st1 mv=>?_)
  obtain⟨t,rfl⟩:=hv i v hP
  have z1:Hg P w led (firstMet val i) s1.heap S:=z.at' fun o e=>mv.heap S _ (fun q=>hS (W.sub _ q)) e
  show wpAny _ A.in1 (holding [Value.int (val i) t] (setAdd S (.int (val i) t)) >>=_) _ _ s1
  refine wpAny_bind (wpAny_holding ?_)
  unfold setAdd
  refine wpAny_holding (wpAny_bind ((intKind P w).pyHash (k:=val i) (intKind_is _ _ _ _) ?_))
  have room:(firstMet val i).length + 1 < scanBound:=by have:=firstMet_length_le val i;omega
  refine add_int (s:={s1 with toks:=s1.toks + 1}) z1 room fun h' b sb z2=>?_
  rw[← firstMet_succ]at z2
  refine wpAny_pure ⟨plainId_quiet PyProof.Rows.F.plain_set_update_loop _,Vf W S hS val hv hb j (i + 1) _ (by omega) hlt (W.frame _ s1 _ _ st1 (Nat.le_succ _) fun b hb o e=>?_) z2 fun s2 mv2 z3=>?_⟩
  ·rw[sb.2 b (fun q:b=S=>hS (q▸hb))];exact e
  ·refine k s2 (Moved.trans W.gtrans ((mv.mono fun b hb=>List.mem_cons_of_mem _ hb).then_heap (Nat.le_succ _) fun b o hb e=>?_) mv2) z3
   rw[sb.2 b (fun q:b=S=>hb (q▸List.mem_cons_self))];exact e
end
def HD (w:World):Bool:= !w.params.followText "set-order"
abbrev T9 (w:World):Obj:={cls:= .type "set",dict:=none,data:= .set #[] 0 (.fresh 0 0 (HD w))}
section
variable {P:Program}{w:World}{A:Around}{E:Value->Shared->Prop}{s:Shared}
theorem Ai9 (a:Value){Q:Value->Shared->Prop}(h:Q (.ref s.heap.objs.size) {s with heap:=s.heap.push (T9 w)}):codeAny (model P w) A (.call (.builtin "set.__new__") ⟨[.type "set",a],[]⟩) (wants Q E) s:=by
 refine codeAny_of_tree ?_
 show wpAny _ A.in1 (do checkBuiltinCall "set.__new__" ⟨[.type "set",a],[]⟩;again (.builtin "set.__new__" ⟨[.type "set",a],[]⟩)) _ _ s
 refine wpAny_bind (wpAny_of_eq (PySem.F.newCall_set_1 a) (wpAny_pure ⟨plainId_quiet PySem.F.plain_set_new _,codeAny_builtin PySem.F.entry_set_new ?_⟩))
 rw[Around.under_plainId PySem.F.plain_set_new _]
 unfold Builtin.«set.__new__» Builtin.Frozenset.newClass
 have sb:=sub_set_self
 obtain⟨hp,g,d,tk,os⟩:=s
 dsimp only
 wp_walk
 refine wpAny_askSetting (wpAny_pure ?_)
 dsimp only
 simp only[newObj]
 exact wpAny_bind (wpAny_alloc (wpAny_pure (wpAny_pure h)))
theorem good0:Good P w (HD w) [] #[] (.fresh 0 0 (HD w)):=⟨fun e he=>by simp at he,.nil,by decide,by rfl,Tb.new _ _ _⟩
theorem Ad6 {l:Addr}{its:Array Value}{ns:List Int}{Q:Value->Shared->Prop}(hh:A.handled=none)(hl:s.heap.IsList l its)(hi:IntsAre its.toList ns)(hb:its.size + 1 < scanBound)
  (h:∀(h':Heap) (tk:Nat),Hg P w (HD w) (firstMet (fun i=>ns.getD i 0) its.size) h' s.heap.objs.size->(∀b o,s.heap.get? b=some o->h'.get? b=some o)->Q (.ref s.heap.objs.size) {s with heap:=h',toks:=tk}) :
  wpAny (model P w) A (call (.type "set") [.ref l]) Q E s:=by
 obtain⟨c,tl,hmro⟩:=PySem.F.called_set.mro
 have hmade:=PySem.F.called_set.made
 have hsub:=PySem.F.called_set.sub
 refine wpAny_call (codeAny_of_tree ?_)
 show wpAny _ _ (callAny (.type "set") _) _ _ _
 refine wpAny_pure ⟨Code.quiet_builtin _ (by decide +kernel),codeAny_builtin PySem.F.entry_type_call ?_⟩
 rw[Around.under_plain (weight_type_call_type "set" [.ref l] []) rfl]
 have h1:=PySem.F.called_set.notType
 have h2:=PySem.F.called_set.canCreate
 have hct:=PySem.F.typeCall_set_1 (.ref l)
 repeat (any_goals (first | assumption | wp_step))
 refine codeAny_mono (Ai9 (.ref l) (E:=E) (Q:=fun ob s1=>ob= .ref s.heap.objs.size∧s1={s with heap:=s.heap.push (T9 w)}) ⟨rfl,rfl⟩) fun r s1 hr=>?_
 cases r with
 | error e=>exact hr
 | ok fl =>
  cases fl with
  | ret ob =>
   obtain⟨rfl,rfl⟩:=hr
   have g0:(s.heap.push (T9 w)).get? s.heap.objs.size=some (T9 w):=Heap.get?_push_size _ rfl
   have hT:Shared.TypeIs {s with heap:=s.heap.push (T9 w)} (.ref s.heap.objs.size) "set" :=⟨_,g0,rfl⟩
   have hli:=PySem.F.called_set.init.lookup
   have hbi:=PySem.F.called_set.init.bind (.ref s.heap.objs.size)
   repeat (any_goals (first | assumption | wp_step))
   refine codeAny_mono (codeAny_call_builtin (R:=wants (fun r s2=>r= .none∧∃h' tk,s2={s with heap:=h',toks:=tk}∧Hg P w (HD w) (firstMet (fun i=>ns.getD i 0) its.size) h' s.heap.objs.size ∧
     (∀b o,s.heap.get? b=some o->h'.get? b=some o)) E) PySem.F.called_set.init.plain PySem.F.entry_set_init (check_set_init_1 hT ?_)) fun r2 s2 hr2=>?_
   ·obtain⟨ol,hol,hcl,nl,hdl⟩:=hl
    obtain⟨oc,od,oda,osl⟩:=ol
    simp only at hcl hdl
    subst hcl;subst hdl
    have hol1:(s.heap.push (T9 w)).get? l=some {cls:= .type "list",dict:=od,data:= .seq its nl,slots:=osl}:=Heap.get?_push_of_some _ hol
    have hsls:=PySem.F.sub_list_set
    have hslf:=PySem.F.sub_list_frozenset
    have hne:(Value.type "list" ==Value.type "dict")=false:=by decide
    have hl1:(s.heap.push (T9 w)).IsList l its:=⟨_,hol1,rfl,nl,rfl⟩
    unfold Builtin.«set.__init__» noKeywords Builtin.Frozenset.updateFrom
    generalize hPI:pyIter=PI
    wp_walk
    subst hPI
    refine wpAny_pyIter_list hl1 (wpAny_bind (wpAny_runValue ?_))
    have hlS:l < s.heap.objs.size:=Heap.lt_size hol
    have hh3:A.in1.in1.in1.handled=none:=by simp[hh]
    have hneI:l≠(s.heap.push (T9 w)).objs.size:=by rw[Heap.size_push];exact Nat.ne_of_lt (Nat.lt_succ_of_lt hlS)
    have hSf:s.heap.objs.size∉[(s.heap.push (T9 w)).objs.size,l]:=by
     rw[Heap.size_push];intro z
     rcases List.mem_cons.mp z with z | z
     ·exact absurd z (Nat.ne_of_lt (Nat.lt_succ_self _))
     ·exact absurd (List.mem_singleton.mp z) (Nat.ne_of_gt hlS)
    refine Vf (led:=HD w) ((Walks.list hh3 _ l hneI its).toS) s.heap.objs.size hSf (fun i=>ns.getD i 0) (fun i v hv=>IntsAre.int_at hi i v (by rw[Array.getElem?_toList];exact hv)) hb (its.size - 0) 0 _ (by omega) (Nat.zero_le _)
     ⟨⟨_,Heap.get?_push_size _ rfl,rfl,rfl⟩,(hl1.push _)⟩ ⟨_,_,_,_,Heap.get?_push_of_some _ g0,⟨rfl,rfl,rfl⟩,rfl,good0⟩ fun s' hm z=>?_
    obtain⟨h',g',d',tk',os'⟩:=s'
    have eg:g'=s.gens:=hm.gens
    have ed:d'=s.drawn:=hm.drawn
    have eo:os'=s.os:=hm.os
    subst eg;subst ed;subst eo
    show wpAny _ _ _ _ _ _
    refine wpAny_pure ?_
    show wpAny _ _ (ret Value.none) _ _ _
    refine wpAny_pure ⟨rfl,h',tk',rfl,z,fun b o e=>?_⟩
    have hb0:=Heap.lt_size e
    refine hm.heap b o (fun q=>?_) (Heap.get?_push_of_some _ (Heap.get?_push_of_some _ e))
    rcases List.mem_cons.mp q with q | q
    ·exact absurd q (Nat.ne_of_lt hb0)
    ·have q1:=List.mem_singleton.mp q
     rw[Heap.size_push]at q1
     exact absurd q1 (Nat.ne_of_lt (Nat.lt_succ_of_lt hb0))
   ·cases r2 with
    | error e=>exact hr2
    | ok fl2 =>
     cases fl2 with
     | ret r =>
      obtain⟨rfl,h',tk,rfl,z,hk⟩:=hr2
      repeat (any_goals (first | assumption | wp_step))
      exact h _ _ z hk
     | _=>exact hr2.elim
  | _=>exact hr.elim
end
end Js
namespace Js
open PySem PySem.Spec PyProof.Rows
theorem Yr:Manifest.owners.lookup (String.ofList "rotareti_tes".toList.reverse)=some Manifest.sig_set_iterator:=by kernel_rfl
theorem Bm:Slot "set_iterator" "__next__" "set_iterator.__next__" :=
 Slot.of (owner:= "set_iterator") (n:= "__next__") (by rw[typeLookup_type,builtinLookup_eq_fast];kernel_rfl) (by decide +kernel) (by decide +kernel) (by decide +kernel) (by first | exact Or.inl (by decide +kernel) | exact Or.inr (by decide +kernel)) (by rw[isSubtype_type];kernel_rfl)
theorem Jy:Slot "set_iterator" "__iter__" "set_iterator.__iter__" :=
 Slot.of (owner:= "set_iterator") (n:= "__iter__") (by rw[typeLookup_type,builtinLookup_eq_fast];kernel_rfl) (by decide +kernel) (by decide +kernel) (by decide +kernel) (by first | exact Or.inl (by decide +kernel) | exact Or.inr (by decide +kernel)) (by rw[isSubtype_type];kernel_rfl)
theorem DG:entryFor table "set_iterator.__next__" =some Builtin.«set_iterator.__next__» :=entryFor_of_tree (by kernel_rfl)
theorem Rg:entryFor table "set_iterator.__iter__" =some Builtin.«dict_keyiterator.__iter__» :=entryFor_alias (id':= "dict_keyiterator.__iter__") (by kernel_rfl) rfl (by decide +kernel) (by kernel_rfl)
theorem Uw:entryFor table "set.__iter__" =some Builtin.«frozenset.__iter__» :=entryFor_alias (id':= "frozenset.__iter__") (by kernel_rfl) rfl (by decide +kernel) (by kernel_rfl)
theorem Ep (a:Value):argsOk "set_iterator.__next__" ⟨[a],[]⟩:=by
 unfold argsOk;rw[signature?_of (id:= "set_iterator.__next__") (n:= "__txen__".toList) (o:= "rotareti_tes".toList) (by kernel_rfl) Yr];kernel_rfl
theorem RT (a:Value):argsOk "set_iterator.__iter__" ⟨[a],[]⟩:=by
 unfold argsOk;rw[signature?_of (id:= "set_iterator.__iter__") (n:= "__reti__".toList) (o:= "rotareti_tes".toList) (by kernel_rfl) Yr];kernel_rfl
theorem Wj (a:Value):argsOk "set.__iter__" ⟨[a],[]⟩:=by
 unfold argsOk;rw[signature?_of (id:= "set.__iter__") (n:= "__reti__".toList) (o:= "tes".toList) (by kernel_rfl) PySem.F.owner_set];kernel_rfl
abbrev sit (first:Value)(i:Nat)(S:Addr)(n ep:Nat):Obj:={cls:= .type "set_iterator",dict:=none,data:= .fields #[first,.int i 0,.ref S,.int n 0,.int ep 0],slots:= #[]}
section
variable {P:Program}{w:World}{A:Around}{E:Value->Shared->Prop}{s:Shared}{I S:Addr}{first:Value}{i n ep:Nat}{o:Obj}{es:Array (Int×Value)}{t:SetTable}{Q:Option Value->Shared->Prop}
theorem Ve (hi:s.heap.get? I=some (sit first i S n ep)){Q:Value->Shared->Prop}(h:Q (.ref I) s):wpAny (model P w) A (pyIter (.ref I)) Q E s:=by
 have hT:s.TypeIs (.ref I) "set_iterator" :=⟨_,hi,rfl⟩
 refine wpAny_pyIter_slot hT Jy (wpAny_call_entry Jy hT Rg ?_ (RT _))
 show wpAny _ _ (ret (Value.ref I)) _ _ s
 exact wpAny_pure ⟨_,rfl,_,_,hT,Bm.lookup,h⟩
theorem Ad0 {k k':Nat}{x:Value}(hi:s.heap.get? I=some (sit (.int k 0) i S n ep))(g:s.heap.get? S=some o)(d:o.data= .set es ep t)(f:t.fits es.size=true)(hn:es.size=n)
  (st:∀(A:Around) (E:Value->Shared->Prop) (R:Option (Value×Nat)->Shared->Prop),R (some (x,k')) s->wpAny (model P w) A (setNext S k i ep) R E s)
  (h:∀h',h'.get? I=some (sit (.int k' 0) (i + 1) S n ep)->Heap.SameBut I s.heap h'->Q (some x) {s with heap:=h'}):wpAny (model P w) A (pyNext (.ref I)) Q E s:=by
 have hT:s.TypeIs (.ref I) "set_iterator" :=⟨_,hi,rfl⟩
 unfold pyNext
 refine wpAny_bind (wpAny_attempt (wpAny_callSpecial?_slot (name:=Str.ofString "__next__") hT Bm (wpAny_call_entry Bm hT DG ?_ (Ep _))))
 show wpAny _ _ (fieldsOf (.ref I) >>=_) _ _ s
 refine wpAny_bind (wpAny_fieldsOf hi rfl ?_)
 dsimp only
 refine wpAny_bind (wpAny_setEntries_of g d f ?_)
 rw[if_neg (by rw[hn];simp)]
 show wpAny _ _ (setNext S (k:Int).toNat (i:Int).toNat (ep:Int).toNat >>=_) _ _ s
 rw[Int.toNat_natCast,Int.toNat_natCast,Int.toNat_natCast]
 refine wpAny_bind (st _ _ _ ?_)
 dsimp only
 refine wpAny_bind (wpAny_setField_rec hi (by simp) fun h1 e1 b1=>?_)
 refine wpAny_bind (wpAny_setField_rec (s:={s with heap:=h1}) e1 (by simp) fun h2 e2 b2=>?_)
 exact wpAny_pure ⟨x,rfl,wpAny_pure (h h2 (by rw[e2];simp[rawInt]) (b1.trans b2))⟩
theorem Ak1 {k:Nat}(hh:A.handled=none)(hi:s.heap.get? I=some (sit (.int k 0) i S n ep))(g:s.heap.get? S=some o)(d:o.data= .set es ep t)(f:t.fits es.size=true)(hn:es.size=n)
  (st:∀(A:Around) (E:Value->Shared->Prop) (R:Option (Value×Nat)->Shared->Prop),R none s->wpAny (model P w) A (setNext S k i ep) R E s)
  (h:∀h',Heap.ExtBut I s.heap h'->Q none {s with heap:=h'}):wpAny (model P w) A (pyNext (.ref I)) Q E s:=by
 have hT:s.TypeIs (.ref I) "set_iterator" :=⟨_,hi,rfl⟩
 unfold pyNext
 refine wpAny_bind (wpAny_attempt (wpAny_callSpecial?_slot (name:=Str.ofString "__next__") hT Bm (wpAny_call_entry Bm hT DG ?_ (Ep _))))
 show wpAny _ _ (fieldsOf (.ref I) >>=_) _ _ s
 refine wpAny_bind (wpAny_fieldsOf hi rfl ?_)
 dsimp only
 refine wpAny_bind (wpAny_setEntries_of g d f ?_)
 rw[if_neg (by rw[hn];simp)]
 show wpAny _ _ (setNext S (k:Int).toNat (i:Int).toNat (ep:Int).toNat >>=_) _ _ s
 rw[Int.toNat_natCast,Int.toNat_natCast,Int.toNat_natCast]
 refine wpAny_bind (st _ _ _ ?_)
 dsimp only
 refine wpAny_bind (wpAny_setField_rec hi (by simp) fun h1 e1 b1=>?_)
 show wpAny _ _ (newExc (.type "StopIteration") [] >>=_) _ _ _
 refine wpAny_bind ?_
 simp only[newExc,newTuple]
 refine wpAny_bind (wpAny_newObj_type (wpAny_bind (m:=firstArgMember _ _) (wpAny_of_eq (a:=Value.none) (by first | rfl | (simp only[firstArgMember];rfl)) (wpAny_newObj_type ?_ (by size_fits)))) (by size_fits))
 simp only[raiseNew]
 refine wpAny_bind (wpAny_handled ?_)
 rw[show A.in1.handled=none from hh]
 refine wpAny_bind (wpAny_pure (wpAny_throw ?_))
 refine wpAny_bind (wpAny_isInstance (T:= "StopIteration") (b:=true) ⟨_,Heap.get?_push_size _ rfl,rfl⟩ isSubtype_stop (wpAny_pure (h _ ?_)))
 exact(b1.extBut.push _).push _
theorem Zf {p:Addr}{pl:Array Value}{j:Nat}{c:Int}{x:Value}{op:Obj}{nn:Nat}(hi:s.heap.get? I=some (sit (.ref p) i S n ep))(g:s.heap.get? S=some o)(d:o.data= .set es ep t)(f:t.fits es.size=true)(hn:es.size=n)
  (gp:s.heap.get? p=some op) (dp:op.data= .seq pl nn) (hj:pl[i]?=some (.int j 0)) (hx:es[j]?=some (c,x))
  (h:∀h',h'.get? I=some (sit (.ref p) (i + 1) S n ep)->Heap.SameBut I s.heap h'->Q (some x) {s with heap:=h'}):wpAny (model P w) A (pyNext (.ref I)) Q E s:=by
 have hT:s.TypeIs (.ref I) "set_iterator" :=⟨_,hi,rfl⟩
 unfold pyNext
 refine wpAny_bind (wpAny_attempt (wpAny_callSpecial?_slot (name:=Str.ofString "__next__") hT Bm (wpAny_call_entry Bm hT DG ?_ (Ep _))))
 show wpAny _ _ (fieldsOf (.ref I) >>=_) _ _ s
 refine wpAny_bind (wpAny_fieldsOf hi rfl ?_)
 dsimp only
 refine wpAny_bind (wpAny_setEntries_of g d f ?_)
 rw[if_neg (by rw[hn];simp)]
 refine wpAny_bind (wpAny_seqItems gp dp ?_)
 dsimp only
 rw[Int.toNat_natCast,hj]
 dsimp only
 unfold setNextDrawn
 refine wpAny_bind (wpAny_bind (wpAny_setState_of g d f ?_))
 dsimp only
 rw[Int.toNat_natCast,Int.toNat_natCast,if_neg (by simp),hx]
 dsimp only
 refine wpAny_pure (wpAny_bind (wpAny_setField_rec hi (by simp) fun h1 e1 b1=>?_))
 exact wpAny_pure ⟨x,rfl,wpAny_pure (h h1 (by rw[e1];simp[rawInt]) b1)⟩
theorem Ad1 {p:Addr}{pl:Array Value}{op:Obj}{nn:Nat}(hh:A.handled=none)(hi:s.heap.get? I=some (sit (.ref p) i S n ep))(g:s.heap.get? S=some o)(d:o.data= .set es ep t)(f:t.fits es.size=true)(hn:es.size=n)
  (gp:s.heap.get? p=some op) (dp:op.data= .seq pl nn) (hj:pl[i]?=none)
  (h:∀h',Heap.ExtBut I s.heap h'->Q none {s with heap:=h'}):wpAny (model P w) A (pyNext (.ref I)) Q E s:=by
 have hT:s.TypeIs (.ref I) "set_iterator" :=⟨_,hi,rfl⟩
 unfold pyNext
 refine wpAny_bind (wpAny_attempt (wpAny_callSpecial?_slot (name:=Str.ofString "__next__") hT Bm (wpAny_call_entry Bm hT DG ?_ (Ep _))))
 show wpAny _ _ (fieldsOf (.ref I) >>=_) _ _ s
 refine wpAny_bind (wpAny_fieldsOf hi rfl ?_)
 dsimp only
 refine wpAny_bind (wpAny_setEntries_of g d f ?_)
 rw[if_neg (by rw[hn];simp)]
 refine wpAny_bind (wpAny_seqItems gp dp ?_)
 dsimp only
 rw[Int.toNat_natCast,hj]
 dsimp only
 refine wpAny_bind (wpAny_setField_rec hi (by simp) fun h0 e0 b0=>wpAny_bind (wpAny_setField_rec (s:={s with heap:=h0}) e0 (by simp) fun h1 e1 b1=>?_))
 show wpAny _ _ (newExc (.type "StopIteration") [] >>=_) _ _ _
 refine wpAny_bind ?_
 simp only[newExc,newTuple]
 refine wpAny_bind (wpAny_newObj_type (wpAny_bind (m:=firstArgMember _ _) (wpAny_of_eq (a:=Value.none) (by first | rfl | (simp only[firstArgMember];rfl)) (wpAny_newObj_type ?_ (by size_fits)))) (by size_fits))
 simp only[raiseNew]
 refine wpAny_bind (wpAny_handled ?_)
 rw[show A.in1.handled=none from hh]
 refine wpAny_bind (wpAny_pure (wpAny_throw ?_))
 refine wpAny_bind (wpAny_isInstance (T:= "StopIteration") (b:=true) ⟨_,Heap.get?_push_size _ rfl,rfl⟩ isSubtype_stop (wpAny_pure (h _ ?_)))
 exact((b0.trans b1).extBut.push _).push _
end
end Js
namespace Js
open PySem PySem.Spec PyProof.Rows
theorem Dh {α:Type}:∀(l:List α)(i:Nat)(h:i < l.length),(l[i]::l.eraseIdx i).Perm l
 | x::xs,0,_=> .refl _
 | x::xs,i + 1,h=>(List.Perm.swap x _ _).trans ((Dh xs i (Nat.lt_of_succ_lt_succ h)).cons x)
theorem Yl {α:Type}(f:Nat->Nat):∀(n k:Nat)(left:List α)(out:Array α),left.length=n->(pickOrder.go f n k left out).toList.Perm (out.toList++left)
 | 0,k,left,out,h=>by
  unfold pickOrder.go
  rw[List.length_eq_zero_iff.mp h,List.append_nil]
 | n + 1,k,left,out,h=>by
  unfold pickOrder.go
  have hl:f k % left.length < left.length:=Nat.mod_lt _ (by omega)
  rw[List.getElem?_eq_getElem hl]
  dsimp only
  refine(Yl f n (k + 1) _ _ (by rw[List.length_eraseIdx_of_lt hl];omega)).trans ?_
  rw[Array.toList_push,List.append_assoc]
  exact(Dh _ _ hl).append_left _
theorem Zn {α:Type}(f:Nat->Nat)(xs:Array α):(pickOrder f xs).toList.Perm xs.toList:=by
 unfold pickOrder
 have:=Yl f xs.size 0 xs.toList #[] (by simp)
 simpa using this
section
variable {P:Program}{w:World}{A:Around}{E:Value->Shared->Prop}
theorem Z8 {src:Source}{n:Nat}{Q:Nat->Shared->Prop}{s:Shared}(hn:n≠0)(h:∀i d,i < n->Q i {s with drawn:=d}):wpAny (model P w) A (choose src n) Q E s:=fun Γ p hΓ=>by
 unfold choose
 rw[Sem.wp_choose]
 exact⟨hn,h _ _ (Nat.mod_lt _ (Nat.pos_of_ne_zero hn))⟩
theorem YD {α:Type}:∀(n:Nat)(xs:List α){Q:List α->Shared->Prop}{s:Shared},xs.length=n->(∀ys d,ys.Perm xs->Q ys {s with drawn:=d})->wpAny (model P w) A (drawOrder n xs) Q E s
 | 0,xs,Q,s,hl,h=>by
  unfold drawOrder
  rw[List.length_eq_zero_iff.mp hl]at h
  exact wpAny_pure (h [] s.drawn .nil)
 | n + 1,[],Q,s,hl,h=>nomatch hl
 | n + 1,x::xs,Q,s,hl,h=>by
  unfold drawOrder
  refine wpAny_bind (Z8 (by simp) fun i d hi=>?_)
  rw[List.getElem?_eq_getElem hi]
  dsimp only
  refine wpAny_bind (YD n _ (by rw[List.length_eraseIdx_of_lt hi];omega) fun ys d2 hp=>?_)
  exact wpAny_pure (h _ d2 ((hp.cons _).trans (Dh _ _ hi)))
variable {s:Shared}{I S:Addr}{i n ep:Nat}{o:Obj}{es:Array (Int×Value)}{t:SetTable}
theorem ZC {k:Nat}{R:Option (Value×Nat)->Shared->Prop}(hb:w.params.followText "set-order" =true)(g:s.heap.get? S=some o)(d:o.data= .set es ep t)(f:t.fits es.size=true)
  (h:R (((pickOrder (w.params.setOrder S ep) es)[i]?).map fun e=>(e.2,k)) s):wpAny (model P w) A (setNext S k i ep) R E s:=by
 unfold setNext
 refine wpAny_bind (wpAny_setState_of g d f ?_)
 dsimp only
 unfold setsByText
 refine wpAny_bind (wpAny_bind (wpAny_askSetting (wpAny_pure ?_)))
 show wpAny _ _ (if w.params.followText "set-order" =true then _ else _) _ _ _
 rw[if_pos hb,if_neg (by simp)]
 unfold setWalk
 refine wpAny_bind (wpAny_bind (wpAny_setState_of g d f ?_))
 dsimp only
 unfold setsByText
 refine wpAny_bind (wpAny_bind (wpAny_askSetting (wpAny_pure ?_)))
 show wpAny _ _ (if w.params.followText "set-order" =true then _ else _) _ _ _
 rw[if_pos hb]
 exact wpAny_bind (wpAny_askSetting (wpAny_pure (wpAny_pure h)))
theorem Xl {k:Nat}{R:Option (Value×Nat)->Shared->Prop}(hb:w.params.followText "set-order" =false)(hd:(!t.plain&&decide (es.size >1))=false)(hl:t.led=true)(g:s.heap.get? S=some o)(d:o.data= .set es ep t)(f:t.fits es.size=true)
  (h:R (match es[SetTable.below t.place k]?,t.place[SetTable.below t.place k]? with | some (_,x),some j=>some (x,j + 1) | _,_=>none) s):wpAny (model P w) A (setNext S k i ep) R E s:=by
 unfold setNext
 refine wpAny_bind (wpAny_setState_of g d f ?_)
 dsimp only
 unfold setsByText
 refine wpAny_bind (wpAny_bind (wpAny_askSetting (wpAny_pure ?_)))
 show wpAny _ _ (if w.params.followText "set-order" =true then _ else _) _ _ _
 rw[if_neg (by rw[hb];decide)]
 show wpAny _ _ (if (!t.plain&&decide (es.size >1))=true then _ else _) _ _ _
 rw[if_neg (by rw[hd];decide)]
 show wpAny _ _ ((if (!t.led&& !es.isEmpty)=true then _ else _) >>=_) _ _ _
 rw[if_neg (by rw[hl];simp)]
 exact wpAny_bind (wpAny_pure (wpAny_pure h))
theorem Ai6 {Q:Bool->Shared->Prop}(g:s.heap.get? S=some o)(d:o.data= .set es ep t)(f:t.fits es.size=true)(h:Q (!w.params.followText "set-order" &&(!t.plain&&decide (es.size >1))) s):wpAny (model P w) A (setDrawn S) Q E s:=by
 unfold setDrawn
 refine wpAny_bind (wpAny_setState_of g d f ?_)
 dsimp only
 unfold setsByText
 exact wpAny_bind (wpAny_bind (wpAny_askSetting (wpAny_pure (wpAny_pure h))))
end
section
variable {P:Program}{w:World}{A:Around}{I S:Addr}{n ep:Nat}{o:Obj}{es:Array (Int×Value)}{t:SetTable}
theorem Ws (hh:A.handled=none)(hIS:S≠I)(d:o.data= .set es ep t)(f:t.fits es.size=true)(first:Nat->Nat)(ord:Array Value)(hz:ord.size=es.size)
  (st:∀(i:Nat) (s:Shared) (A:Around) (E:Value->Shared->Prop) (R:Option (Value×Nat)->Shared->Prop),i<=ord.size->s.heap.get? S=some o->R ((ord[i]?).map fun x=>(x,first (i + 1))) s->wpAny (model P w) A (setNext S (first i) i ep) R E s) :
  Walks P w A I [I,S] [I] ord.size (fun i v=>ord[i]?=some v) (fun i h=>h.get? I=some (sit (.int (first i) 0) i S es.size ep)∧h.get? S=some o) where
 sub:=fun b hb=>by simp at hb;simp[hb]
 frame:=fun _ _ _ x k=>⟨k I (by simp) _ x.1,k S (by simp) _ x.2⟩
 item:=fun i s Q E hi x hQ=>by
  refine Ad0 (x:=ord[i]) (k':=first (i + 1)) x.1 x.2 d f rfl (fun A E R hR=>st i s A E R (Nat.le_of_lt hi) x.2 (by rw[Array.getElem?_eq_getElem hi];exact hR)) fun h' e b=>?_
  exact hQ _ h' s.toks (Array.getElem?_eq_getElem hi) ⟨e,by rw[b.2 S hIS];exact x.2⟩ fun c u hc hu=>by rw[b.2 c (fun z=>hc (by simp[z]))];exact hu
 done:=fun s Q E x hQ=>Ak1 hh x.1 x.2 d f rfl (fun A E R hR=>st _ s A E R (Nat.le_refl _) x.2 (by rw[Array.getElem?_eq_none (Nat.le_refl _)];exact hR)) fun h' e=>hQ h' s.toks fun c u hc hu=>e c u (fun z=>hc (by simp[z])) hu
 self:=fun _ _ _ _ x hQ=>Ve x.1 hQ
theorem U5 (hh:A.handled=none)(hIS:S≠I){p:Addr}(hIp:p≠I)(d:o.data= .set es ep t)(f:t.fits es.size=true)(ps:List Nat)(ord:Array Value)(hz:ord.size=ps.length)(hp:∀(i:Nat)(v:Value),ord[i]?=some v->∃(j:Nat)(c:Int),ps[i]?=some j∧es[j]?=some (c,v)) :
  Walks P w A I [I,S,p] [I] ord.size (fun i v=>ord[i]?=some v) (fun i h=>h.get? I=some (sit (.ref p) i S es.size ep)∧h.get? S=some o∧h.get? p=some {cls:= .type "tuple",data:= .seq (ps.map fun(j:Nat)=>rawInt j).toArray}) where
 sub:=fun b hb=>by simp at hb;simp[hb]
 frame:=fun _ _ _ x k=>⟨k I (by simp) _ x.1,k S (by simp) _ x.2.1,k p (by simp) _ x.2.2⟩
 item:=fun i s Q E hi x hQ=>by
  obtain⟨j,c,h1,h2⟩:=hp i ord[i] (Array.getElem?_eq_getElem hi)
  refine Zf (j:=j) (c:=c) (x:=ord[i]) x.1 x.2.1 d f rfl x.2.2 rfl (by simp[h1,rawInt]) h2 fun h' e b=>?_
  exact hQ _ h' s.toks (Array.getElem?_eq_getElem hi) ⟨e,by rw[b.2 S hIS];exact x.2.1,by rw[b.2 p hIp];exact x.2.2⟩ fun c u hc hu=>by rw[b.2 c (fun z=>hc (by simp[z]))];exact hu
 done:=fun s Q E x hQ=>Ad1 hh x.1 x.2.1 d f rfl x.2.2 rfl (by simp[hz]) fun h' e=>hQ h' s.toks fun c u hc hu=>e c u (fun z=>hc (by simp[z])) hu
 self:=fun _ _ _ _ x hQ=>Ve x.1 hQ
end
end Js
namespace Js
open PySem PySem.Spec PyProof.Rows
abbrev Ay3 (ps:List Nat):Obj:={cls:= .type "tuple",data:= .seq (ps.map fun(j:Nat)=>rawInt j).toArray}
def slotAt (pl:Array Nat):Nat->Nat
 | 0=>0
 | k + 1=>pl.getD k 0 + 1
section
variable {P:Program}{w:World}{A:Around}{E:Value->Shared->Prop}{s:Shared}{S:Addr}{ns:List Int}
theorem ints_of {led:Bool}{es:Array (Int×Value)}{t:SetTable}(G:Good P w led ns es t){ord:Array Value}(p:ord.toList.Perm (es.toList.map (·.2))):(ord.toList.map iv).Perm ns∧(∀v∈ord.toList,∃m k,v= .int m k):=by
 refine⟨(p.map iv).trans (by rw[List.map_map];exact G.pm),fun v hv=>?_⟩
 obtain⟨e,he,rfl⟩:=List.mem_map.mp (p.mem_iff.mp hv)
 obtain⟨⟨k,hk,_⟩,_⟩:=G.el e he
 obtain⟨u,hu⟩:=Value.isInt_shape hk
 exact⟨_,_,hu⟩
theorem Ad4 {Q:Value->Shared->Prop}(z:Hg P w (HD w) ns s.heap S)
  (h:∀(I:Addr) (fp:List Addr) (h1:Heap) (d:Drawn) (ord:Array Value) (St:Nat->Heap->Prop),(∀b o,s.heap.get? b=some o->h1.get? b=some o)->(∀b∈fp,b=S∨s.heap.objs.size<=b)->I∈fp->s.heap.objs.size<=I->(ord.toList.map iv).Perm ns->(∀v∈ord.toList,∃m k,v= .int m k) ->
   (∀A:Around,A.handled=none->Walks P w A I fp [I] ord.size (fun i v=>ord[i]?=some v) St)->St 0 h1->Q (.ref I) {s with heap:=h1,drawn:=d}):wpAny (model P w) A (pyIter (.ref S)) Q E s:=by
 obtain⟨o,es,ep,t,g,x,d,G⟩:=z
 have hT:s.TypeIs (.ref S) "set" :=⟨_,g,x.1⟩
 have hS:S < s.heap.objs.size:=Heap.lt_size g
 refine wpAny_pyIter_slot hT PySem.F.slot_set_iter (wpAny_call_entry PySem.F.slot_set_iter hT Uw ?_ (Wj _))
 unfold Builtin.«frozenset.__iter__»
 show wpAny _ _ (Builtin.Frozenset.sizeOf S >>=_) _ _ s
 unfold Builtin.Frozenset.sizeOf
 refine wpAny_bind (wpAny_bind (wpAny_setEntries_of g d G.ft (wpAny_pure ?_)))
 refine wpAny_bind (Ai6 g d G.ft ?_)
 cases hm:(!w.params.followText "set-order" &&(!t.plain&&decide (es.size >1))) with
 | true =>
  obtain⟨m1,m2⟩:=Bool.and_eq_true_iff.mp hm
  refine wpAny_bind (YD es.size (List.range es.size) (List.length_range) fun ps d1 pp=>?_)
  have hl:ps.length=es.size:=by rw[pp.length_eq,List.length_range]
  refine wpAny_bind (wpAny_newTuple ?_ ?hz)
  case hz=>(rw[List.length_map,hl];exact fits_of_scanBound G.lt)
  have g1:=Heap.get?_push_of_some (h:=s.heap) {cls:= .type "tuple",data:= .seq (ps.map fun(j:Nat)=>rawInt j).toArray} g
  refine wpAny_bind (wpAny_bind (wpAny_setState_of (s:={s with heap:=_,drawn:=d1}) g1 d G.ft (wpAny_pure ?_)))
  refine wpAny_bind (wpAny_newObj_type (wpAny_pure ⟨_,rfl, "set_iterator",_,⟨_,Heap.get?_push_size _ rfl,rfl⟩,Bm.lookup,?_⟩))
  have hlt:∀j∈ps,j < es.size:=fun j hj=>List.mem_range.mp (pp.mem_iff.mp hj)
  let val:Nat->Value:=fun j=>((es[j]?).map (·.2)).getD .none
  have hv:∀j (hj:j < es.size),val j=es[j].2:=fun j hj=>by show((es[j]?).map (·.2)).getD .none=_;rw[Array.getElem?_eq_getElem hj];rfl
  have e0:(List.range es.size).map val=es.toList.map (·.2):=by
   refine List.ext_getElem (by simp) fun i h1 h2=>?_
   have hi:i < es.size:=by simpa using h1
   rw[List.getElem_map,List.getElem_map,List.getElem_range,hv i hi,Array.getElem_toList]
  have hp:=ints_of G (ord:=(ps.map val).toArray) (by rw[← e0];exact pp.map val)
  refine h _ [(s.heap.push (Ay3 ps)).objs.size,S,s.heap.objs.size] _ d1 (ps.map val).toArray (fun i hp=>hp.get? (s.heap.push (Ay3 ps)).objs.size=some (sit (.ref s.heap.objs.size) i S es.size ep)∧hp.get? S=some o∧hp.get? s.heap.objs.size=some {cls:= .type "tuple",data:= .seq (ps.map fun(j:Nat)=>rawInt j).toArray}) (fun b u e=>Heap.get?_push_of_some _ (Heap.get?_push_of_some _ e)) (fun b hb=>?_) (List.mem_cons_self) ?_ hp.1 hp.2 (fun A hh=>?_) ⟨?_,?_,?_⟩
  ·rcases List.mem_cons.mp hb with rfl | hb
   ·right;rw[Heap.size_push];exact Nat.le_succ _
   ·rcases List.mem_cons.mp hb with rfl | hb
    ·exact .inl rfl
    ·rw[List.mem_singleton.mp hb];exact .inr (Nat.le_refl _)
  ·rw[Heap.size_push];exact Nat.le_succ _
  ·refine U5 hh ?_ ?_ d G.ft ps (ps.map val).toArray (by simp) fun i v hi=>?_
   ·rw[Heap.size_push];exact Nat.ne_of_lt (Nat.lt_succ_of_lt hS)
   ·rw[Heap.size_push];exact Nat.ne_of_lt (Nat.lt_succ_self _)
   ·rw[List.getElem?_toArray,List.getElem?_map]at hi
    cases hj:ps[i]? with
    | none=>rw[hj]at hi;cases hi
    | some j =>
     rw[hj]at hi
     have hi:some (val j)=some v:=hi
     have hjm:j < es.size:=hlt j (List.mem_of_getElem? hj)
     rw[hv j hjm]at hi
     exact⟨j,es[j].1,rfl,by rw[Array.getElem?_eq_getElem hjm,← Option.some.inj hi]⟩
  ·exact Heap.get?_push_size _ rfl
  ·exact Heap.get?_push_of_some _ g1
  ·exact Heap.get?_push_of_some _ (Heap.get?_push_size _ rfl)
 | false =>
  refine wpAny_bind (wpAny_pure ?_)
  refine wpAny_bind (wpAny_bind (wpAny_setState_of g d G.ft (wpAny_pure ?_)))
  refine wpAny_bind (wpAny_newObj_type (wpAny_pure ⟨_,rfl, "set_iterator",_,⟨_,Heap.get?_push_size _ rfl,rfl⟩,Bm.lookup,?_⟩))
  have fin:∀(first:Nat->Nat) (ord:Array Value),first 0=0->ord.size=es.size->ord.toList.Perm (es.toList.map (·.2))->(∀(i:Nat) (s:Shared) (A:Around) (E:Value->Shared->Prop) (R:Option (Value×Nat)->Shared->Prop),i<=ord.size->s.heap.get? S=some o->R ((ord[i]?).map fun x=>(x,first (i + 1))) s->wpAny (model P w) A (setNext S (first i) i ep) R E s) ->
    Q (.ref s.heap.objs.size) {s with heap:=s.heap.push (sit (.int 0 0) 0 S es.size ep)}:=fun first ord e0 ez hp st=>by
   have hp:=ints_of G hp
   refine h s.heap.objs.size [s.heap.objs.size,S] _ s.drawn ord (fun i hp=>hp.get? s.heap.objs.size=some (sit (.int (first i) 0) i S es.size ep)∧hp.get? S=some o) (fun b u e=>Heap.get?_push_of_some _ e) (fun b hb=>?_) List.mem_cons_self (Nat.le_refl _) hp.1 hp.2 (fun A hh=>Ws hh (Nat.ne_of_lt hS) d G.ft first ord ez st) ⟨?_,?_⟩
   ·rcases List.mem_cons.mp hb with rfl | hb
    ·exact .inr (Nat.le_refl _)
    ·exact .inl (List.mem_singleton.mp hb)
   ·rw[e0];exact Heap.get?_push_size _ rfl
   ·exact Heap.get?_push_of_some _ g
  cases hb:w.params.followText "set-order" with
  | true =>
   have pp:=Zn (w.params.setOrder S ep) es
   have pz:(pickOrder (w.params.setOrder S ep) es).size=es.size:=by have:=pp.length_eq;simpa using this
   refine fin (fun _=>0) ((pickOrder (w.params.setOrder S ep) es).map (·.2)) rfl (by simp[pz]) (by rw[Array.toList_map];exact pp.map _) fun i s A E R hi g' hR=>ZC hb g' d G.ft ?_
   rw[Array.getElem?_map,Option.map_map]at hR
   exact hR
  | false =>
   have hd:(!t.plain&&decide (es.size >1))=false:=by rw[hb]at hm;exact hm
   have hl:t.led=true:=by rw[G.tb.led];unfold HD;rw[hb];rfl
   have hpz:t.place.size=es.size:=by have:=G.ft;unfold SetTable.fits at this;exact eq_of_beq (Bool.and_eq_true_iff.mp this).1
   refine fin (slotAt t.place) (es.map (·.2)) rfl (by simp) (by rw[Array.toList_map]) fun i s A E R hi g' hR=>Xl hb hd hl g' d G.ft ?_
   have hi:i<=es.size:=by simpa using hi
   have key:SetTable.below t.place (slotAt t.place i)=i:=by
    cases i with
    | zero=>exact below_at G.tb.up (Nat.zero_le _) (fun k v hk=>absurd hk (Nat.not_lt_zero _)) fun v _=>Nat.zero_le _
    | succ k =>
     have hk:k < t.place.size:=by omega
     have ek:t.place.getD k 0=t.place[k]:=by simp[hk]
     have mono:∀(a b:Nat) (ha:a < t.place.size) (hb:b < t.place.size),a < b->t.place[a] < t.place[b]:=fun a b ha hb hab=>by
      have:=List.pairwise_iff_getElem.mp G.tb.up a b (by simpa using ha) (by simpa using hb) hab
      simpa using this
     show SetTable.below t.place (t.place.getD k 0 + 1)=k + 1
     rw[ek]
     refine below_at G.tb.up hk (fun a v ha hv=>?_) fun v hv=>?_
     ·obtain⟨q,e⟩:=Array.getElem?_eq_some_iff.mp hv
      subst e
      rcases Nat.lt_or_eq_of_le (Nat.le_of_lt_succ ha) with c | c
      ·have:=mono a k q hk c;omega
      ·subst c;omega
     ·obtain⟨q,e⟩:=Array.getElem?_eq_some_iff.mp hv
      subst e
      exact mono k (k + 1) hk q (Nat.lt_succ_self _)
   rw[key]
   rw[Array.getElem?_map]at hR
   rcases Nat.lt_or_eq_of_le hi with c | c
   ·have c2:i < t.place.size:=by omega
    rw[Array.getElem?_eq_getElem c]at hR ⊢
    rw[Array.getElem?_eq_getElem c2]
    have e2:t.place.getD i 0=t.place[i]:=by simp[c2]
    dsimp only[Option.map_some]at hR ⊢
    have hR:R (some (es[i].2,t.place.getD i 0 + 1)) s:=hR
    rw[e2]at hR
    exact hR
   ·rw[Array.getElem?_eq_none (by omega)]at hR ⊢
    exact hR
theorem Ad5 {Q:Bool->Shared->Prop}(hT:s.TypeIs (.ref S) "set")(h:Q false s):wpAny (model P w) A (Builtin.List.listLengthHint (.ref S)) Q E s:=by
 unfold Builtin.List.listLengthHint
 refine wpAny_bind (wpAny_specialOf hT PySem.F.slot_set_len.lookup ?_)
 generalize hid:("set.__len__" :String)=id0
 wp_delta
 rw[show splitId id0=some ("set", "__len__") from by subst hid;decide +kernel]
 subst hid
 refine wpAny_bind (wpAny_isInstance (T:= "set") (b:=true) hT sub_set_self ?_)
 refine wpAny_ite_split (fun q=>absurd q (by decide)) (fun _=>wpAny_ite_split (fun _=>?_) (fun q=>absurd (by decide +kernel) q))
 exact wpAny_bind (wpAny_typeOf hT (wpAny_pure h))
theorem Vg {R:List Value->Shared->Prop}(hh:A.handled=none)(z:Hg P w (HD w) ns s.heap S)
  (h:∀(h':Heap) (tk:Nat) (d:Drawn) (acc:Array Value) (ms:List Int),(∀b o,s.heap.get? b=some o->h'.get? b=some o)->IntsAre acc.toList ms->ms.Perm ns->R acc.toList {s with heap:=h',toks:=tk,drawn:=d}) :
  wpAny (model P w) A (collect (.ref S)) R E s:=by
 have hS:S < s.heap.objs.size:=let ⟨_,_,_,_,g,_⟩:=z;Heap.lt_size g
 have hz:ns.length<=sizeLine:=let ⟨_,_,_,_,_,_,_,G⟩:=z;fits_of_scanBound (by rw[← G.size];exact G.lt)
 unfold collect
 refine wpAny_bind (wpAny_runValue (codeAny_builtin PySem.F.entry_proto_collect ?_))
 rw[Around.under_plainId PySem.F.plain_proto_collect _]
 show wpAny _ A.in1 (newList [] >>=fun l=>again (.builtin "list.__iadd__" ⟨[l,.ref S],[]⟩)) _ _ s
 refine wpAny_bind (wpAny_newObj_type (wpAny_pure ⟨plainId_quiet PySem.F.plain_list_iadd _,codeAny_builtin PySem.F.entry_list_iadd ?_⟩))
 rw[Around.under_plainId PySem.F.plain_list_iadd _]
 show wpAny _ A.in1 (Builtin.List.listExtendWith (.ref s.heap.objs.size) (.ref S) (.ref s.heap.objs.size)) _ _ _
 have gL:(s.heap.push {cls:= .type "list",data:= .seq ([]:List Value).toArray}).get? s.heap.objs.size=some {cls:= .type "list",data:= .seq #[]}:=Heap.get?_push_size _ rfl
 have z1:Hg P w (HD w) ns (s.heap.push {cls:= .type "list",data:= .seq ([]:List Value).toArray}) S:=z.at' fun o e=>Heap.get?_push_of_some _ e
 have hT1:Shared.TypeIs {s with heap:=s.heap.push {cls:= .type "list",data:= .seq ([]:List Value).toArray}} (.ref S) "set" :=let ⟨_,_,_,_,g,x,_⟩:=z1;⟨_,g,x.1⟩
 unfold Builtin.List.listExtendWith
 refine wpAny_bind (wpAny_typeOf (T:= "set") hT1 ?_)
 have hsr:Builtin.List.listSameRef (.ref s.heap.objs.size) (.ref S)=false:=by simp[Builtin.List.listSameRef];exact Nat.ne_of_gt hS
 have n1:(Value.type "set" ==Value.type "list")=false:=by decide
 have n2:(Value.type "set" ==Value.type "tuple")=false:=by decide
 simp only[hsr,n1,n2,Bool.or_false,Bool.false_eq_true,if_false]
 refine wpAny_bind (Ad4 z1 fun I fp h1 d ord St hk hfp hI hI2 hp hv W st=>?_)
 have hLI:s.heap.objs.size < I:=Nat.lt_of_lt_of_le (by rw[Heap.size_push];exact Nat.lt_succ_self _) hI2
 have gL1:=hk _ _ gL
 have hLf:s.heap.objs.size∉fp:=fun q=>by
  rcases hfp _ q with e | e
  ·exact absurd e (Nat.ne_of_gt hS)
  ·rw[Heap.size_push]at e;exact absurd e (Nat.not_succ_le_self _)
 have hT2:Shared.TypeIs {s with heap:=h1,drawn:=d} (.ref S) "set" :=let ⟨_,_,_,_,g,x,_⟩:=z1;⟨_,hk _ _ g,x.1⟩
 have ez:ord.size=ns.length:=by have:=hp.length_eq;simpa using this
 have fin:∀(h2:Heap) (c tk:Nat),St 0 h2->(∀b o,b≠s.heap.objs.size->h1.get? b=some o->h2.get? b=some o)->h2.get? s.heap.objs.size=some {cls:= .type "list",data:= .seq #[] c} ->
   codeAny (model P w) A (.builtin "list.extend.loop" ⟨[.ref s.heap.objs.size,.ref I,.ref s.heap.objs.size],[]⟩) (fun(q:Result) (s':Shared)=>∃(h':Heap) (tk:Nat) (acc:Array Value) (c':Nat) (ms:List Int),q= .ok (.ret (.ref s.heap.objs.size))∧s'={s with heap:=h',toks:=tk,drawn:=d} ∧
    (∀b o,s.heap.get? b=some o->h'.get? b=some o)∧h'.get? s.heap.objs.size=some {cls:= .type "list",dict:=none,data:= .seq acc c',slots:= #[]}∧IntsAre acc.toList ms∧ms.Perm ns) {s with heap:=h2,drawn:=d,toks:=tk}:=fun h2 c tk st2 k2 g2=>by
  refine codeAny_extend_loopS (W A.in1 (by simp[hh])).toS (by rw[ez];exact hz) s.heap.objs.size hLf (.ref s.heap.objs.size) ord.size 0 _ #[] c rfl (Nat.zero_le _) st2 g2 (ItemsOf.nil _) fun s' acc c' hm gl ha=>?_
  obtain⟨h3,g3,d3,t3,o3⟩:=s'
  have eg:g3=s.gens:=hm.gens
  have ed:d3=d:=hm.drawn
  have eo:o3=s.os:=hm.os
  subst eg;subst ed;subst eo
  have ea:acc=ord:=by
   refine Array.ext ha.1 fun i i1 i2=>?_
   have this:ord[i]?=some acc[i]:=ha.2 i acc[i] (Array.getElem?_eq_getElem i1)
   rw[Array.getElem?_eq_getElem i2]at this
   exact(Option.some.inj this).symm
  subst ea
  refine⟨h3,t3,acc,c',acc.toList.map iv,rfl,rfl,fun b o e=>?_,gl,?_,hp⟩
  ·have hb:=Heap.lt_size e
   refine hm.heap b o (fun q=>?_) (k2 b o (Nat.ne_of_lt hb) (hk _ _ (Heap.get?_push_of_some _ e)))
   rcases List.mem_cons.mp q with q | q
   ·exact absurd q (Nat.ne_of_lt hb)
   ·exact absurd (List.mem_singleton.mp q) (Nat.ne_of_lt (Nat.lt_trans hb hLI))
  ·have key:∀l:List Value,(∀v∈l,∃m k,v= .int m k)->IntsAre l (l.map iv):=fun l=>by
    induction l with
    | nil=>intro _;exact .nil
    | cons v l ih =>
     intro q
     obtain⟨m,k,rfl⟩:=q v List.mem_cons_self
     exact .cons m k (ih fun v hv=>q v (List.mem_cons_of_mem _ hv))
   exact key _ hv
 refine wpAny_bind (wpAny_holding (Ad5 hT2 ?_))
 refine wpAny_ite_split (fun _=>?_) (fun q=>absurd (by decide +kernel) q)
 refine wpAny_bind (wpAny_rule (wpAny_bind ?_))
 show wpAny _ _ (updateSeq s.heap.objs.size (·.push .none) >>=fun _=>updateSeq s.heap.objs.size (·.pop)) _ _ _
 refine wpAny_bind (wpAny_updateSeq gL1 rfl ?_)
 have gL2:=Heap.get?_update_self (Obj.mapSeq (·.push Value.none)) gL1 rfl
 refine wpAny_updateSeq (hz:=by seq_fits) gL2 rfl ?_
 have gL3:=Heap.get?_update_self (Obj.mapSeq (·.pop)) gL2 rfl
 have oth:∀b o,b≠s.heap.objs.size->h1.get? b=some o->((h1.update s.heap.objs.size (Obj.mapSeq (·.push Value.none))).update s.heap.objs.size (Obj.mapSeq (·.pop))).get? b=some o:=fun b o hb e =>
  (Heap.get?_update_other _ _ (Ne.symm hb)).trans ((Heap.get?_update_other _ _ (Ne.symm hb)).trans e)
 refine wpAny_pure ⟨plainId_quiet PySem.F.plain_extend_loop _,codeAny_mono (fin _ _ s.toks ((W A.in1 (by simp[hh])).frame 0 _ _ st fun b hb o e=>oth b o (fun q=>hLf (q▸hb)) e) oth gL3) fun q s2 y=>?_⟩
 obtain⟨h',tk,acc,c',ms,rfl,rfl,k3,gl,hi,pm⟩:=y
 show wpAny _ A (load s.heap.objs.size >>=_) _ _ _
 exact wpAny_bind (wpAny_load gl (wpAny_pure (h h' tk d acc ms k3 hi pm)))
end
end Js
namespace L2
open PySem PySem.Spec PyProof.Rows
section
variable {X:Cx}
def Ak3 (P:Program)(w:World)(a:Addr)(ns:List Int):HO:= .ext (fun h=>Js.Hg P w (Js.HD w) ns h a)
theorem Ap6 (hc:X.calm=true):Gg X (.type "set") (fun vs H Q=>∃(a:Addr)(ns:List Int),vs=[V.ref a]∧SqL X.K H a (ns.map V.int)∧ns.length<=1000 ∧
  ∀(D:Addr) (ms:List Int),H D=none->ms.Nodup->(∀k,k∈ms↔k∈ns)->ms.length<=ns.length->Q (.ref D) (upd H D (Ak3 X.prog X.w D ms))):=by
 intro pins s σ H vs us Q I r h
 obtain⟨a,ns,rfl,hs,hn,q⟩:=h
 obtain⟨its,rv,hl,_⟩:=I.list hs
 rw[Vals.Qq r]
 have hi:=rv.ints
 have hz:its.toArray.size=ns.length:=by have:=hi.length;simpa using this
 refine Js.Ad6 (I.ok.hd hc) hl.isList hi (by rw[hz];unfold scanBound;omega) fun h' tk S k=>?_
 rw[hz]at S
 have hf:=I.hok.fresh (Nat.le_refl s.heap.objs.size)
 have hlen:(firstMet (fun i=>ns.getD i 0) ns.length).length<=ns.length:=firstMet_length_le _ _
 refine⟨.ref s.heap.objs.size,_,I.laid (o:=Ak3 X.prog X.w s.heap.objs.size _) (t':=tk) k (Nat.le_refl _) ⟨S,?_,fun h1 h2 y z=>y.at' z⟩,rfl,q _ _ hf (Dz _ _) (fun x=>Lr) hlen⟩
 obtain⟨o,_,_,_,g,_⟩:=S
 exact⟨o,g⟩
theorem XQ (hc:X.calm=true):Gg X (.builtin "sorted") (fun vs H Q=>∃(a:Addr)(ms:List Int),vs=[V.ref a]∧H a=some (Ak3 X.prog X.w a ms)∧ms.length<=1000 ∧
  ∀(D:Addr) (ns':List Int),H D=none->ns'.Perm ms->ns'.Pairwise (· <= ·)->Q (.ref D) (upd H D (.lst (ns'.map V.int)))):=by
 intro pins s σ H vs us Q I r h
 obtain⟨a,ms,rfl,ha,hn,q⟩:=h
 rw[Vals.Qq r]
 have S:Js.Hg X.prog X.w (Js.HD X.w) ms s.heap a:=(I.hok a _ ha).1
 refine Calls.call_function_entry kind_sorted plain_sorted entry_sorted (args_sorted1 _) ?_
 unfold Builtin.«sorted»
 refine wpAny_bind (m:=checkCount "sorted" 1 1 _) (wpAny_pure ?_)
 refine wpAny_bind (Js.Vg (I.ok.hd hc) S fun h' tk d acc ns hk hi pm=>?_)
 have I1:Inv X pins σ H {s with heap:=h',toks:=tk,drawn:=d}:=by
  have I2:=I.kept (t':=tk) hk
  exact⟨I2.ok,I2.os,I2.bare,I2.base,I2.loc,I2.cell,I2.free,I2.Ew,I2.pin,I2.hok,I2.len⟩
 have hl:acc.toList.length=ns.length:=hi.length
 have hzz:ns.length<=sizeLine:=by rw[pm.length_eq,sizeLine_eq];omega
 refine wpAny_bind (wpAny_newList ?_ (by rw[hl];exact hzz))
 have ho:(h'.push (seqObj "list" acc.toList.toArray 0)).get? h'.objs.size=some (seqObj "list" acc.toList.toArray 0):=Heap.get?_push_size _ rfl
 refine wpAny_bind (wpAny_holding (wpAny_call_entry slot_list_sort ⟨_,ho,rfl⟩ entry_list_sort (list_sort_treeAny ho hi (by rw[hl];exact hzz) fun out ns' a1 a2 a3=>⟨_,rfl,?_⟩) (args_list_sort _)))
 obtain⟨ep,he⟩:=sortedHeap_at (vs:=acc.toList) (out:=out) ho
 have hlen:(ns'.map V.int).length<=sizeLine:=by rw[List.length_map,a2.length_eq];exact hzz
 refine wpAny_pure ⟨_,rfl,⟨.ref h'.objs.size,_,I1.laid (o:= .lst (ns'.map V.int)) (t':=tk) (fun b u hb=>?_) (Nat.le_refl _) ⟨hlen,out.toList,ep,Hh a1,he⟩,rfl,q h'.objs.size ns' (I1.hok.fresh (Nat.le_refl _)) (a2.trans pm) a3⟩⟩
 have hne:b≠h'.objs.size:=Nat.ne_of_lt (Heap.lt_size hb)
 have h2:=Heap.get?_push_of_some (seqObj "list" acc.toList.toArray 0) hb
 rw[sortedHeap_old hne (Heap.lt_size h2)]
 exact h2
end
end L2
namespace Nm
open PySem PySem.Spec PyProof.Rows L2
def top (i:Nat):Stmt:=PySem.Challenge.pw_nameorder_s01_answers.main.body.getD i (.Pass ⟨0,0,0,0⟩)
structure Txt (K:PySem.W.Frag)(mg:Str->Option Value)(C:Cl):Prop where
 cl:Cq K C
 Tc:Dq mg "LAST_DAY" 474814
 RQ:Dq mg "GREATEST_KEY" 1000000000
 Rp:Dq mg "GREATEST_PAGE" 1000000
 Nr:Dq mg "GREATEST_DEMAND" 1000
 Wc:Dq mg "MOST_WORKS" 80
 Wd:Dq mg "MOST_NAMES" 40
 X4:Dq mg "MOST_USES" 200
 X5:Dq mg "MOST_ACTS" 60
 UJ:Dq mg "CHOICE" 1
 Jq:Dq mg "REVERSAL" 2
 YL:Dq mg "RULING" 3
 X6:Dq mg "ASIDE" 4
 Ma:Dq mg "RESTORE" 5
 JH:Dq mg "DONE" 0
 Rq:Dq mg "BAD_KEY" (-4)
 DN:Dq mg "KNOWN_ALREADY" (-5)
 Gd:Dq mg "UNKNOWN" (-6)
 YM:Dq mg "FULL" (-8)
 DK:Dq mg "OUT_OF_BOUNDS" (-9)
 Wb:Dq mg "SAME_NAMES" (-10)
 Gs:Dq mg "NOT_OF_THAT_SORT" (-14)
 XS:Dq mg "TOO_EARLY" (-15)
 Kr:Dq mg "TOO_LATE_FOR_CODE" (-16)
 Ap9:Dq mg "LOCKED" 0
 Aa1:Dq mg "TOO_LATE" 1
 Mf:Dq mg "CLOSES_RING" 5
 Aq0:Dq mg "LATEST" 0
 X3:Dq mg "OVERTAKEN" 6
 len:mg "len" =none
 max:mg "max" =none
 min:mg "min" =none
 set:mg "set" =none
 sorted:mg "sorted" =none
 any:mg "any" =none
 all:mg "all" =none
 range:mg "range" =none
section
variable {P:Program}{w:World}{K:PySem.W.Frag}{mg:Str->Option Value}{base:Heap}{C:Cl}
theorem Av {x:Str}{f:Addr}{fd:FuncData}{k:Nat}{ps:List Str}{sp:Sp}(hm:mg x=some (.ref f))(kp:PySem.W.keepIn K (.ref f)=true)(b:Binds K fd ps [])(F:Ay P w K mg base CX0 k f fd ps sp):Ok P w K mg base x k ps sp:=⟨f,fd,hm,kp,b,F⟩
def Ci (p:Int->Bool):Sp:=fun vs H Q _=>∃z,vs=[.int z]∧Q (.bl (p z)) H
theorem Zm:Aj ["number"] ["number"] (Ag (top 31)):=⟨rfl,rfl,rfl,by decide +kernel,rfl,by decide +kernel,by decide +kernel⟩
theorem Zy {f:Addr}{fd:FuncData}(F:Fun K "is_day" "is_day" (top 31) f fd)(T:Txt K mg C):Ay P w K mg base CX0 1 f fd ["number"] (Ci Vbnlag.dayOk):=by
 refine F.ok Zm (fun vs H Q E h=>?_) (fun cdv A outer s H vs Q E hr h=>?_)
 ·obtain⟨z,rfl,_⟩:=h
  rfl
 ·obtain⟨z,rfl,k⟩:=h
  refine⟨_,Af (Ai (Io GK GK Ah (pv 0) (pk T.Tc))),?_⟩
  refine⟨_,rfl,_,_,rfl,rfl,_,rfl,Be2 (fun h=>⟨_,_,rfl,rfl,?_⟩) fun h=>?_⟩
  ·rw[show Vbnlag.dayOk z=decide (z<=474814) by unfold Vbnlag.dayOk Vbnlag.within Vbnlag.LAST;simp[of_decide_eq_true h]]at k
   exact k
  ·rw[show Vbnlag.dayOk z=false by unfold Vbnlag.dayOk Vbnlag.within;simp at h;simp;omega]at k
   exact k
def DY (C:Cl):Sp:=fun vs H Q _=>∃k s R a n,vs=[.ref k,.ref a]∧Kp C H k s R∧DQ C H a n∧n∈s.names∧Q (.int (Vbnlag.dayOf s n.work)) H
theorem Vh:Aj ["kept", "name"] ["kept", "name"] (Ag (top 42)):=⟨rfl,rfl,rfl,by decide +kernel,rfl,by decide +kernel,by decide +kernel⟩
theorem Vu {f:Addr}{fd:FuncData}(F:Fun K "name_day" "name_day" (top 42) f fd)(T:Txt K mg C):Ay P w K mg base CX0 1 f fd ["kept", "name"] (DY C):=by
 refine F.ok Vh (fun vs H Q E h=>?_) (fun cdv A outer s H vs Q E hr h=>?_)
 ·obtain⟨_,_,_,_,_,rfl,_⟩:=h
  rfl
 ·obtain⟨k,st,R,a,n,rfl,hk,hn,hm,q⟩:=h
  obtain⟨wk,hw,ew⟩:=hk.wf.nw n hm
  obtain⟨b,hb,hg⟩:=hk.Ah9 hw
  refine⟨_,Af (Ai (pF T.cl (Br (hu1 hr) (pF T.cl (pv 0)) (pF T.cl (pv 1)) (fun _ _=>rfl)))),?_⟩
  refine⟨_,rfl,_,_,rfl,hk.works T.cl,_,rfl,_,_,rfl,hn.work T.cl,R.w,V.ref b,rfl,by rw[← ew];exact hg,_,_,rfl,hb.day T.cl,?_⟩
  rw[← hk.wf.dOf hw,ew]
  exact q
end
end Nm
namespace Nm
open PySem PySem.Spec PyProof.Rows L2
section
variable {P:Program}{w:World}{K:PySem.W.Frag}{mg:Str->Option Value}{base:Heap}{C:Cl}
def Dt (C:Cl):Sp:=fun vs H Q _=>∃k s R a x,vs=[.ref k,.ref a]∧Kp C H k s R∧BR C H a x∧x∈s.acts∧Q (.int (Vbnlag.dayOf s x.work)) H
theorem Xc:Aj ["kept", "act"] ["kept", "act"] (Ag (top 43)):=⟨rfl,rfl,rfl,by decide +kernel,rfl,by decide +kernel,by decide +kernel⟩
theorem Xi {f:Addr}{fd:FuncData}(F:Fun K "act_day" "act_day" (top 43) f fd)(T:Txt K mg C):Ay P w K mg base CX0 1 f fd ["kept", "act"] (Dt C):=by
 refine F.ok Xc (fun vs H Q E h=>?_) (fun cdv A outer s H vs Q E hr h=>?_)
 ·obtain⟨_,_,_,_,_,rfl,_⟩:=h
  rfl
 ·obtain⟨k,st,R,a,n,rfl,hk,hn,hm,q⟩:=h
  obtain⟨wk,hw,ew⟩:=hk.wf.aw n hm
  obtain⟨b,hb,hg⟩:=hk.Ah9 hw
  refine⟨_,Af (Ai (pF T.cl (Br (hu1 hr) (pF T.cl (pv 0)) (pF T.cl (pv 1)) (fun _ _=>rfl)))),?_⟩
  refine⟨_,rfl,_,_,rfl,hk.works T.cl,_,rfl,_,_,rfl,hn.work T.cl,R.w,V.ref b,rfl,by rw[← ew];exact hg,_,_,rfl,hb.day T.cl,?_⟩
  rw[← hk.wf.dOf hw,ew]
  exact q
def KJ (C:Cl):Sp:=fun vs H Q _=>∃k s R a n,vs=[.ref k,.ref a]∧Kp C H k s R∧DQ C H a n∧n∈s.names∧∀p,H p=none->Q (.ref p) (upd H p (.tup ((Vbnlag.moment s n).map V.int)))
theorem Zj:Aj ["kept", "name"] ["kept", "name"] (Ag (top 44)):=⟨rfl,rfl,rfl,by decide +kernel,rfl,by decide +kernel,by decide +kernel⟩
theorem Zw {f:Addr}{fd:FuncData}(F:Fun K "moment" "moment" (top 44) f fd)(T:Txt K mg C)(G_name_day:Ok P w K mg base "name_day" 1 ["kept", "name"] (DY C)):Ay P w K mg base CX0 2 f fd ["kept", "name"] (KJ C):=by
 refine F.ok Zj (fun vs H Q E h=>?_) (fun cdv A outer s H vs Q E hr h=>?_)
 ·obtain⟨_,_,_,_,_,rfl,_⟩:=h
  rfl
 ·obtain⟨k,st,R,a,n,rfl,hk,hn,hm,q⟩:=h
  refine⟨_,Af (Ai (Il (Aa (Al G_name_day (hr.mono (by decide)) (Aa (pv 0) (Aa (pv 1) Ae))) (Aa (pF T.cl (pv 1)) (Aa (pF T.cl (pv 1)) (Aa (pF T.cl (pv 1)) Ae)))))),?_⟩
  exact⟨_,rfl,_,rfl,k,st,R,a,n,rfl,hk,hn,hm,_,rfl,_,_,rfl,hn.work T.cl,_,rfl,_,_,rfl,hn.page T.cl,_,rfl,_,_,rfl,hn.key T.cl,by show 4<=sizeLine;decide,q⟩
def Ds (s:VS)(d k:Int)(x:Vbnlag.Act):Bool:=(x.kind==4|| x.kind==5)&&(x.a==k&&decide (Vbnlag.dayOf s x.work<=d))
def KQ (C:Cl):Sp:=fun vs H Q _=>∃k s R z d,vs=[.ref k,.int z,.int d]∧Kp C H k s R∧∀H' l,Ext C H H'->H l=none->H' l=some (.lst ((R.as.filter fun p=>Ds s d z p.2).map fun p=>V.ref p.1))->Q (.ref l) H'
theorem CV:Aj ["kept", "key", "d", "act"] ["kept", "key", "d"] (Ag (top 53)):=⟨rfl,rfl,rfl,by decide +kernel,rfl,by decide +kernel,by decide +kernel⟩
theorem Ju {f:Addr}{fd:FuncData}(F:Fun K "acts_of_standing" "acts_of_standing" (top 53) f fd)(T:Txt K mg C)(G_act_day:Ok P w K mg base "act_day" 1 ["kept", "act"] (Dt C)) :
  Ay P w K mg base CX0 2 f fd ["kept", "key", "d"] (KQ C):=by
 refine F.ok CV (fun vs H Q E h=>?_) (fun cdv A outer s H vs Q E hr h=>?_)
 ·obtain⟨_,_,_,_,_,rfl,_⟩:=h
  rfl
 ·obtain⟨k,st,R,z,d,rfl,hk,q⟩:=h
  refine⟨_,(Af (Ai (Vo (Qv rfl CV.nd (Jj (pF T.cl (pv 0))) (BJ (own:=[("act",3)]) (by kernel_rfl)) (fun _ _ _ _ _=>(Bk (i:=3) CV.nd rfl (Or.inl rfl))) (fun _ _ _ _ _=>(Ji (PW.pt (Fx (Ar Ce (pF T.cl (pv 3)) (pv 1) (Ba _)) (Fx (Ar (MK T.cl) (pF T.cl (pv 3)) (Il (Aa (pk T.X6) (Aa (pk T.Ma) Ae))) (by with_unfolding_all rfl)) (En (Ar GK (Al G_act_day (hr.mono (by decide)) (Aa (pv 0) (Aa (pv 3) Ae))) (pv 2) (Ba _)))))))) (fun _ _ _ _ _=>(pv 3)))))),?_⟩
  obtain⟨o,ho,hu⟩:=Rd.split hk.ak
  refine⟨R.a,.dK (dA R.as),o,ho,hu,trivial,fun od=>?_⟩
  have hk1:=hk.lock od hk.ak (.inl ⟨_,rfl⟩)
  refine⟨_,rfl,_,_,rfl,hk1.acts T.cl,R.a,od,dA R.as,rfl,Ab,fun D hD=>?_⟩
  refine Jl (C:=C) R.as (fun p=>V.ref p.1) (fun p=>Ds st d z p.2) (fun p=>V.ref p.1) Ab (Tq _) hD (by rw[hk.ZM];exact Nat.le_trans hk.wf.la (by decide)) (fun p hp H' N e hT hF=>?_) (fun H' e hl=>?_)
  ·have hk2:=hk1.ext e
   have hp2:=hk2.aa p hp
   have em:∀b,b=Ds st d z p.2->∀H3,Ext C H' H3->if b=true then PX 3 (List.set (wipe (L2.start ["kept", "key", "d", "act"] [V.ref k,V.int z,V.int d]) [3]) 3 (some (.ref p.1))) H3 fun y H4=>Put D y N H4 else N H3:=fun b hb H3 e3=>Bc (fun h=>⟨_,rfl,hT (hb.symm.trans h) H3 e3⟩) (fun h=>hF (hb.symm.trans h) H3 e3)
   refine⟨rfl,_,rfl,_,_,rfl,hp2.a_ T.cl,_,rfl,_,_,rfl,rfl,_,rfl,Bc (fun h1=>?_) (fun h1=>em _ ?_ _ (Ext.refl _ _))⟩
   ·refine⟨_,rfl,_,_,rfl,hp2.kind T.cl,by show 2<=sizeLine;decide,fun t ht=>⟨t,_,rfl,.inr (SqT.of Ab),rfl,rfl,_,rfl,Bc (fun h2=>?_) (fun h2=>em _ ?_ _ (Ext.new _ ht _))⟩⟩
    ·have e4:=Ext.new C ht (.tup [V.int 4,V.int 5])
     refine⟨_,rfl,_,rfl,k,st,R,p.1,p.2,rfl,hk2.ext e4,hp2.ext e4,hk2.Q0 hp,_,rfl,_,_,rfl,rfl,_,rfl,em _ ?_ _ e4⟩
     unfold Ds
     have h1:=of_decide_eq_true h1
     simp[inV,eqV]at h2
     rw[h1]
     rcases h2 with h2 | h2 <;>simp[← h2]
    ·unfold Ds
     simp[inV,eqV]at h2
     simp[Ne.symm h2.1,Ne.symm h2.2]
   ·unfold Ds
    have h1:=of_decide_eq_false h1
    simp[h1]
  ·exact⟨e.frz Ab,q _ _ (Ext.unlock ho hu (.inl ⟨_,rfl⟩) e (e.frz Ab)) (CP hD) (by
    rw[Ac (by rintro rfl;rw[e.frz Ab]at hl;cases hl)]
    exact hl)⟩
end
end Nm
namespace Nm
open PySem PySem.Spec PyProof.Rows L2
section
variable {P:Program}{w:World}{K:PySem.W.Frag}{mg:Str->Option Value}{base:Heap}{C:Cl}
def KN (K:PySem.W.Frag)(C:Cl):Sp:=fun vs H Q _=>∃k s R l,∃items:List (Addr×Vbnlag.Act),vs=[.ref k,.ref l]∧Kp C H k s R∧SqL K H l (items.map fun p=>V.ref p.1)∧items≠[]∧(∀p∈items,p∈R.as) ∧
 ∀p∈items,∀H',Ext C H H'->(∀q∈items,Vbnlag.less [Vbnlag.dayOf s p.2.work,p.2.key] [Vbnlag.dayOf s q.2.work,q.2.key]=false)->Q (.ref p.1) H'
theorem Jz:Aj ["kept", "acts", "act"] ["kept", "acts"] (Ag (top 54)):=⟨rfl,rfl,rfl,by decide +kernel,rfl,by decide +kernel,by decide +kernel⟩
theorem RG {f:Addr}{fd:FuncData}(F:Fun K "latest_act" "latest_act" (top 54) f fd)(T:Txt K mg C)(ap:C.Apart)(B:Aa4 mg base C.tl)(hc:fd.code= .ref C.l1)(G_act_day:Ok P w K mg base "act_day" 1 ["kept", "act"] (Dt C)) :
  Ay P w K mg base CX0 4 f fd ["kept", "acts"] (KN K C):=by
 refine F.okC Jz (fun vs H Q E h=>?_) (fun cdv A outer s H vs Q E hcd hr h=>?_)
 ·obtain⟨_,_,_,_,_,rfl,_⟩:=h
  rfl
 ·obtain⟨k,st,R,l,items,rfl,hk,hl,hne,hin,q⟩:=h
  refine⟨_,Af (Ai (Al5 (C:=C) (t:=C.tl) (clos:=[("kept",s.heap.objs.size + 1)]) (y:= "act") (i:=2) (k:=1) rfl (hr.mono (by decide)) ?L (pv 1) (fun _ _ _ _ _=>Il (Aa (Al G_act_day (hr.in1.deeper _) (Aa (pv 0) (Aa (pv 2) Ae))) (Aa (pF T.cl (pv 2)) Ae))) T.max)),?_⟩
  case L =>
   refine⟨B,ap.sep (by simp[Cl.tabs]),hcd.symm.trans hc,rfl,rfl,rfl,fun _ _ _ _ _=>rfl,⟨rfl,rfl,rfl,rfl,rfl,Jz.nd,by decide +kernel,(by decide +kernel:∀z∈(["kept", "acts", "act"]:List Str),z≠ "act" ->_),fun z hz=>?_,fun z c h=>?_⟩⟩
   ·have m:=PySem.mem_of_lookup hz
    simp only[List.mem_cons,Prod.mk.injEq,List.not_mem_nil,or_false]at m
    rcases m with⟨_,h⟩ | ⟨rfl,_⟩ | ⟨_,h⟩
    ·cases h
    ·exact⟨⟨_,rfl⟩,.inl rfl⟩
    ·cases h
   ·have m:=PySem.mem_of_lookup h
    simp only[List.mem_cons,Prod.mk.injEq,List.not_mem_nil,or_false]at m
    obtain⟨rfl,rfl⟩:=m
    rfl
  refine⟨_,rfl,_,items,(·.1),fun p=>[Vbnlag.dayOf st p.2.work,p.2.key],l,rfl,hk.tb _ (by simp[Cl.tabs]),hl,hne,fun p hp H2 e=>?_,fun p hp H' e h=>q p hp H' e h⟩
  have hk2:=hk.ext e
  have hp2:=hk2.aa p (hin p hp)
  exact⟨_,rfl,_,rfl,k,st,R,p.1,p.2,rfl,hk2,hp2,hk2.Q0 (hin p hp),_,rfl,_,_,rfl,hp2.key T.cl,by show 2<=sizeLine;decide,fun t ht=>⟨t,rfl,Ab,Ext.new _ ht _⟩⟩
end
end Nm
namespace Nm
open PySem PySem.Spec PyProof.Rows L2
section
variable {P:Program}{w:World}{K:PySem.W.Frag}{mg:Str->Option Value}{base:Heap}{C:Cl}
section
variable {H:Hp}{k:Addr}{s:VS}{R:Rep}
theorem Ze {z d:Int}(h:Vbnlag.isName s z=false):Vbnlag.stands s d z=false:=by
 unfold Vbnlag.stands
 cases q:Vbnlag.nameOf s z with
 | none=>rfl
 | some n=>rw[Vbnlag.isName,q]at h;cases h
theorem Ml (h:Kp C H k s R){n:Vbnlag.Name}(hn:n∈s.names){d:Int}:Vbnlag.stands s d n.key=(decide (Vbnlag.dayOf s n.work<=d)&&(match Vbnlag.deciding s d n.key with | none=>true | some x=>x.kind==5)):=by
 unfold Vbnlag.stands
 rw[h.wf.nOf.mpr ⟨hn,rfl⟩]
 rfl
theorem Vc (h:Kp C H k s R)(d z:Int):((R.as.filter fun p=>Ds s d z p.2).map (·.2)).Perm (s.acts.filter (Ds s d z)):=by
 have:=h.ap.filter (Ds s d z)
 rw[List.filter_map]at this
 exact this
theorem V6 (h:Kp C H k s R){d z:Int}(e:(R.as.filter fun p=>Ds s d z p.2)=[]):Vbnlag.deciding s d z=none:=by
 have:=Vc h d z
 rw[e]at this
 unfold Vbnlag.deciding
 rw[show(s.acts.filter fun x=>(x.kind==4|| x.kind==5)&&(x.a==z&&decide (Vbnlag.dayOf s x.work<=d)))=[] from this.nil_eq.symm]
 rfl
theorem Ob (h:Kp C H k s R){d z:Int}{p:Addr×Vbnlag.Act}(hp:p∈R.as.filter fun p=>Ds s d z p.2)(hm:∀q∈R.as.filter fun p=>Ds s d z p.2,Vbnlag.less [Vbnlag.dayOf s p.2.work,p.2.key] [Vbnlag.dayOf s q.2.work,q.2.key]=false):Vbnlag.deciding s d z=some p.2:=by
 refine VJ h.wf (fun y hy=>?_) (List.mem_map.mpr ⟨p,hp,rfl⟩) (fun y hy=>?_) (Vc h d z)
 ·obtain⟨q,hq,rfl⟩:=List.mem_map.mp hy
  exact h.Q0 (List.mem_filter.mp hq).1
 ·obtain⟨q,hq,rfl⟩:=List.mem_map.mp hy
  exact hm q hq
end
def GD (C:Cl):Sp:=fun vs H Q _=>∃k s R z d,vs=[.ref k,.int z,.int d]∧Kp C H k s R∧∀H',Ext C H H'->Q (.bl (Vbnlag.stands s d z)) H'
theorem R8:Aj ["kept", "key", "d", "acts"] ["kept", "key", "d"] (Ag (top 55)):=⟨rfl,rfl,rfl,by decide +kernel,rfl,by decide +kernel,by decide +kernel⟩
theorem Zv {f:Addr}{fd:FuncData}(F:Fun K "stands" "stands" (top 55) f fd)(T:Txt K mg C)(G_name_day:Ok P w K mg base "name_day" 1 ["kept", "name"] (DY C))(G_acts_of_standing:Ok P w K mg base "acts_of_standing" 2 ["kept", "key", "d"] (KQ C))(G_latest_act:Ok P w K mg base "latest_act" 4 ["kept", "acts"] (KN K C)) :
  Ay P w K mg base CX0 5 f fd ["kept", "key", "d"] (GD C):=by
 refine F.ok R8 (fun vs H Q E h=>?_) (fun cdv A outer s H vs Q E hr h=>?_)
 ·obtain⟨_,_,_,_,_,rfl,_⟩:=h
  rfl
 ·obtain⟨k,st,R,z,d,rfl,hk,q⟩:=h
  refine⟨_,(Ad (Bl (PW.pt (Sd (Dg (Cu (hu1 hr) (pv 1) (pF T.cl (pv 0)))) (Mx (Ar Lh (Al G_name_day (hr.mono (by decide)) (Aa (pv 0) (Aa (Br (hu1 hr) (pF T.cl (pv 0)) (pv 1) (fun _ _=>rfl)) Ae))) (pv 2) (Ba _))))) (Af (Ai Vr)) Aq)
   (Ad (Am (i:=3) R8.nd rfl (Or.inl rfl) (Al G_acts_of_standing (hr.mono (by decide)) (Aa (pv 0) (Aa (pv 1) (Aa (pv 2) Ae)))))
   (Af (Ai (Az7 (Gk Ce (Bd Bo (by rfl) T.len PySem.boot_len (Aa (pv 3) Ae)) Ah (Ba _)) (Ug (Gk Ce (pF T.cl (Al G_latest_act (hr.mono (by decide)) (Aa (pv 0) (Aa (pv 3) Ae)))) (pk T.Ma) (Ba _)))))))),?_⟩
  obtain⟨ow,hg,ho⟩:=hk.Ao2 z
  refine⟨_,rfl,_,rfl,_,_,rfl,hk.names T.cl,R.n,ow,rfl,hg,_,rfl,Bc (fun h1=>?_) (fun h1=>?_)⟩
  ·have h2:Vbnlag.isName st z=false:=by rw[← ho];cases ow <;>simp at h1 ⊢
   have:=q H (Ext.refl _ _)
   rw[Ze h2]at this
   exact this
  ·have h2:Vbnlag.isName st z=true:=by rw[← ho];cases ow <;>simp at h1 ⊢
   obtain⟨n,hn,rfl⟩:=Dm hk.wf h2
   obtain⟨a,ha,hga⟩:=hk.Ut hn
   refine⟨_,rfl,_,rfl,_,_,rfl,hk.names T.cl,_,rfl,R.n,_,rfl,hga,k,st,R,a,n,rfl,hk,ha,hn,_,rfl,_,_,rfl,rfl,_,rfl,Bc (fun h3=>?_) (fun h3=>?_)⟩
   ·have h3:=of_decide_eq_true h3
    have:=q H (Ext.refl _ _)
    rw[Ml hk hn,show decide (Vbnlag.dayOf st n.work<=d)=false by simp;omega]at this
    exact this
   ·have h3:=of_decide_eq_false h3
    refine⟨_,rfl,_,rfl,_,rfl,k,st,R,n.key,d,rfl,hk,fun H' l e hl hl'=>?_⟩
    have hk':=hk.ext e
    refine⟨_,rfl,l,_,rfl,.inl (.of hl'),_,_,rfl,rfl,_,rfl,Bc (fun h4=>?_) (fun h4=>?_)⟩
    ·have h4:=of_decide_eq_true h4
     have:=q H' e
     rw[Ml hk hn,show decide (Vbnlag.dayOf st n.work<=d)=true by simp;omega,V6 hk (by rw[List.length_map]at h4;exact List.length_eq_zero_iff.mp (by omega))]at this
     exact this
    ·have h4:=of_decide_eq_false h4
     refine⟨_,rfl,_,rfl,k,st,R,l,_,rfl,hk',.of hl',?_,fun p hp=>(List.mem_filter.mp hp).1,fun p hp H2 e2 hm=>?_⟩
     ·intro z;rw[z]at h4;exact h4 rfl
     ·have hp2:=(hk'.ext e2).aa p (List.mem_filter.mp hp).1
      refine⟨_,_,rfl,hp2.kind T.cl,_,_,rfl,rfl,?_⟩
      have:=q H2 (e.trans e2)
      rw[Ml hk hn,show decide (Vbnlag.dayOf st n.work<=d)=true by simp;omega,Ob hk hp hm]at this
      exact this
end
end Nm
namespace Nm
open PySem PySem.Spec PyProof.Rows L2
section
variable {P:Program}{w:World}{K:PySem.W.Frag}{mg:Str->Option Value}{base:Heap}{C:Cl}
def wAt (R:Rep)(k:Int):Option (Addr×Vbnlag.Work):=R.ws.find? fun p=>p.2.key==k
section
variable {H:Hp}{k:Addr}{s:VS}{R:Rep}
theorem Kp.wAt (h:Kp C H k s R){x:Vbnlag.Work}(hx:x∈s.works):∃p,Nm.wAt R x.key=some p∧p∈R.ws∧p.2=x∧DW H R.w (.int x.key) (some (.ref p.1)):=by
 obtain⟨a,m,e⟩:=Px (key:=Vbnlag.Work.key) h.wp h.wf.ws hx
 rw[Kw]at e
 cases f:R.ws.find? fun p=>p.2.key==x.key with
 | none=>rw[f]at e;cases e
 | some z =>
  have hz:z∈R.ws:=List.mem_of_find?_eq_some f
  have ez:z.2.key=x.key:=by simpa using List.find?_some f
  exact⟨z,f,hz,h.wf.Aa7 (h.Ba0 hz) hx ez,Km h.wk (by unfold dW;rw[Kw,f];rfl)⟩
theorem R3 (h:Kp C H k s R)(z lo hi:Int):∀us:List (Int×Int),(∀u∈us,∃x∈s.works,x.key=u.1) ->
  ∃items:List (Addr×Vbnlag.Work),(us.filter fun u=>(Gv s z lo hi u).isSome).map (fun u=>V.ref (((Nm.wAt R u.1).map (·.1)).getD 0))=items.map (fun p=>V.ref p.1)∧(∀p∈items,p∈R.ws)∧items.map (·.2)=users s us z lo hi
 | [],_=>⟨[],rfl,by simp,rfl⟩
 | u::r,hu=>by
  obtain⟨items,e1,e2,e3⟩:=R3 h z lo hi r fun x hx=>hu x (List.mem_cons_of_mem _ hx)
  obtain⟨x,hx,ex⟩:=hu u List.mem_cons_self
  obtain⟨p,h1,h2,h3,_⟩:=h.wAt hx
  cases q:Gv s z lo hi u with
  | none=>exact⟨items,by rw[List.filter_cons,q];exact e1,e2,by rw[e3];unfold users;rw[List.filterMap_cons,q]⟩
  | some y =>
   have ey:y=x:=h.wf.Aa7 (Di h.wf |>.mp q).2.1 hx ((Di h.wf |>.mp q).2.2.1.trans ex.symm)
   refine⟨p::items,?_,fun a ha=>?_,?_⟩
   ·rw[List.filter_cons,q]
    simp only[Option.isSome_some,if_true,List.map_cons]
    rw[← ex,h1,e1]
    rfl
   ·rcases List.mem_cons.mp ha with rfl | ha
    ·exact h2
    ·exact e2 a ha
   ·rw[List.map_cons,e3,h3,← ey]
    unfold users
    rw[List.filterMap_cons,q]
end
def Tw (C:Cl):Sp:=fun vs H Q _=>∃k s R z lo hi,vs=[.ref k,.int z,.int lo,.int hi]∧Kp C H k s R ∧
 ∀H' l,∀items:List (Addr×Vbnlag.Work),Ext C H H'->H l=none->H' l=some (.lst (items.map fun p=>V.ref p.1))->(∀p∈items,p∈R.ws)->items.map (·.2)=users s R.us z lo hi->Q (.ref l) H'
theorem Du:Aj ["kept", "key", "first_day", "last_day", "work", "name"] ["kept", "key", "first_day", "last_day"] (Ag (top 45)):=⟨rfl,rfl,rfl,by decide +kernel,rfl,by decide +kernel,by decide +kernel⟩
theorem Qz {f:Addr}{fd:FuncData}(F:Fun K "works_using" "works_using" (top 45) f fd)(T:Txt K mg C):Ay P w K mg base CX0 1 f fd ["kept", "key", "first_day", "last_day"] (Tw C):=by
 refine F.ok Du (fun vs H Q E h=>?_) (fun cdv A outer s H vs Q E hr h=>?_)
 ·obtain⟨_,_,_,_,_,_,rfl,_⟩:=h
  rfl
 ·obtain⟨k,st,R,z,lo,hi,rfl,hk,q⟩:=h
  refine⟨_,(Af (Ai (Vo (Qv rfl Du.nd (Ym (pF T.cl (pv 0))) (BJ (own:=[("work",4),("name",5)]) (by kernel_rfl)) (fun _ _ _ _ _=>(Yo (n:=2) T.cl rfl (Lg (Bk (i:=4) Du.nd rfl (Or.inl rfl)) (Lg (Bk (i:=5) Du.nd rfl (Or.inl rfl)) Yn)))) (fun _ _ _ _ _=>(Ji (PW.pt (Fx (Ar Ce (pv 5) (pv 1) (Ba _)) (En (Ae7 GK GK (pv 2) (pF T.cl (Br (hu1 hr) (pF T.cl (pv 0)) (pv 4) (fun _ _=>rfl))) (pv 3))))))) (fun _ _ _ _ _=>(Br (hu1 hr) (pF T.cl (pv 0)) (pv 4) (fun _ _=>rfl))))))),?_⟩
  obtain⟨o,ho,hu⟩:=Rd.split hk.uk
  refine⟨R.u,.dT (dU R.us),o,ho,hu,trivial,fun od=>?_⟩
  have hk1:=hk.lock od hk.uk (.inr ⟨_,rfl⟩)
  refine⟨_,rfl,_,_,rfl,hk1.uses T.cl,R.u,od,rfl,.inr ⟨dU R.us,Ab,fun D hD=>?_⟩⟩
  obtain⟨items,i1,i2,i3⟩:=R3 hk z lo hi R.us fun u hu=>(hk.wf.uw u (hk.up.mem_iff.mp hu)).1
  refine Ah0 (C:=C) R.us (fun u=>(Gv st z lo hi u).isSome) (fun u=>V.ref (((Nm.wAt R u.1).map (·.1)).getD 0)) Ab hD (by rw[hk.up.length_eq];exact Nat.le_trans hk.wf.lu (by decide)) (fun u hu t H' N e ht hT hF=>?_) (fun H' e hl=>?_)
  ·have hk2:=hk1.ext e
   obtain⟨x,hx,ex⟩:=(hk.wf.uw u (hk.up.mem_iff.mp hu)).1
   obtain⟨p,p1,p2,p3,p4⟩:=hk2.wAt hx
   have hp2:=hk2.wa p p2
   have iff:(Gv st z lo hi u).isSome=(decide (u.2=z)&&(decide (lo<=x.day)&&decide (x.day<=hi))):=by
    unfold Gv
    rw[hk.wf.wOf.mpr ⟨hx,ex⟩]
    by_cases h1:u.2=z <;>by_cases h2:lo<=x.day <;>by_cases h3:x.day<=hi <;>simp[h1,h2,h3]
   have g4:=p4
   rw[ex]at g4
   have eo:V.ref (((Nm.wAt R u.1).map (·.1)).getD 0)=V.ref p.1:=by rw[← ex,p1];rfl
   have fday:=hp2.day T.cl
   rw[p3]at fday
   have em:∀b,b=(Gv st z lo hi u).isSome->if b=true then Aq6 (tF K (PX 0) "works") (PX 4) [some (.ref k),some (.int z),some (.int lo),some (.int hi),some (.int u.1),some (.int u.2)] H' fun y H4=>Put D y N H4 else N H':=fun b hb =>
    Bc (fun h=>⟨_,rfl,_,_,rfl,hk2.works T.cl,_,rfl,R.w,_,rfl,g4,eo▸hT (hb.symm.trans h) H' (Ext.refl _ _)⟩) (fun h=>hF (hb.symm.trans h) H' (Ext.refl _ _))
   refine⟨t,_,rfl,SqT.of ht,rfl,_,_,rfl,_,_,rfl,rfl,rfl,_,rfl,_,rfl,_,_,rfl,rfl,_,rfl,Bc (fun h1=>?_) (fun h1=>em _ ?_)⟩
   ·refine⟨_,rfl,_,rfl,_,_,rfl,hk2.works T.cl,_,rfl,R.w,_,rfl,g4,_,_,rfl,fday,_,_,rfl,rfl,_,rfl,Bc (fun h2=>?_) (fun h2=>?_)⟩
    ·refine⟨_,rfl,_,_,rfl,rfl,_,rfl,em _ ?_⟩
     rw[iff,h1,h2]
     simp
    ·refine⟨_,rfl,em _ ?_⟩
     rw[iff,h1,h2]
     rfl
   ·rw[iff,h1]
    rfl
  ·exact⟨e.frz Ab,q _ _ items (Ext.unlock ho hu (.inr ⟨_,rfl⟩) e (e.frz Ab)) (CP hD) (by
    rw[Ac (by rintro rfl;rw[e.frz Ab]at hl;cases hl),← i1]
    exact hl) i2 i3⟩
end
end Nm
namespace Nm
open PySem PySem.Spec PyProof.Rows L2
section
variable {P:Program}{w:World}{K:PySem.W.Frag}{mg:Str->Option Value}{base:Heap}{C:Cl}
theorem Tp {σ:L2.St}{H:Hp}{A B:Hp->Prop}(h:A H):Ar8 σ H (fun b H3=>if b=true then A H3 else B H3):=by unfold Ar8;dsimp only;rw[if_pos rfl];exact h
theorem filter_all {α:Type}(l:List α):l.filter (fun _=>true)=l:=by simp
def T4 (K:PySem.W.Frag)(C:Cl):Sp:=fun vs H Q _=>∃l,∃items:List (Addr×Vbnlag.Work),vs=[.ref l]∧(∀p∈items,DP C H p.1 p.2)∧SqL K H l (items.map fun p=>V.ref p.1)∧items.length<=1000∧∀H',Ext C H H'->Q (.int (Vbnlag.once ((items.map (·.2)).map Vbnlag.Work.author)).length) H'
theorem Eb:Aj ["works", "work"] ["works"] (Ag (top 47)):=⟨rfl,rfl,rfl,by decide +kernel,rfl,by decide +kernel,by decide +kernel⟩
theorem MP {f:Addr}{fd:FuncData}(F:Fun K "count_authors" "count_authors" (top 47) f fd)(T:Txt K mg C):Ay P w K mg base CX0 1 f fd ["works"] (T4 K C):=by
 refine F.ok Eb (fun vs H Q E h=>?_) (fun cdv A outer s H vs Q E hr h=>?_)
 ·obtain⟨_,_,rfl,_⟩:=h
  rfl
 ·obtain⟨l,items,rfl,hw,hl,hn,q⟩:=h
  refine⟨_,(Af (Ai (Bd Ap7 (by rfl) T.len PySem.boot_len (Aa (Ss (Ax3 rfl) (by rfl) T.set boot_set (Aa (Qv rfl Eb.nd (Bw (pv 0)) (BJ (own:=[("work",1)]) (by kernel_rfl)) (fun _ _ _ _ _=>(Bk (i:=1) Eb.nd rfl (Or.inl rfl))) (fun _ _ _ _ _=>Ey) (fun _ _ _ _ _=>(pF T.cl (pv 1)))) Ae)) Ae)))),?_⟩
  refine⟨_,rfl,l,rfl,⟨_,hl⟩,fun D hD=>?_⟩
  refine EY (C:=C) items (fun p=>V.ref p.1) (fun _=>true) (fun p=>V.int p.2.author) hl hD (Nat.le_trans hn (by decide)) (fun p hp H' N e hT hF=>?_) (fun H' e hl'=>?_)
  ·exact⟨rfl,Tp ⟨_,rfl,_,_,rfl,((hw p hp).ext e).author T.cl,hT rfl _ (Ext.refl _ _)⟩⟩
  ·rw[filter_all]at hl'
   refine⟨D,(items.map (·.2)).map Vbnlag.Work.author,rfl,.of (by rw[hl',List.map_map,List.map_map];rfl),by rw[List.length_map,List.length_map];exact hn,fun p S R hp nd mm=>⟨p,S,R.length,rfl,Ab,?_⟩⟩
   have:=q _ (e.lay hp (.set S R.length))
   rw[← Af5 nd mm]at this
   exact this
def WK (K:PySem.W.Frag)(C:Cl):Sp:=fun vs H Q _=>∃l,∃items:List (Addr×Vbnlag.Work),vs=[.ref l]∧(∀p∈items,DP C H p.1 p.2)∧SqL K H l (items.map fun p=>V.ref p.1)∧items.length<=1000 ∧
 ∀H',Ext C H H'->Q (.int (Vbnlag.most ((items.map (·.2)).map Vbnlag.Work.day) - Vbnlag.least ((items.map (·.2)).map Vbnlag.Work.day))) H'
theorem Ih:Aj ["works", "days", "work"] ["works"] (Ag (top 48)):=⟨rfl,rfl,rfl,by decide +kernel,rfl,by decide +kernel,by decide +kernel⟩
theorem Vv {f:Addr}{fd:FuncData}(F:Fun K "day_span" "day_span" (top 48) f fd)(T:Txt K mg C):Ay P w K mg base CX0 1 f fd ["works"] (WK K C):=by
 refine F.ok Ih (fun vs H Q E h=>?_) (fun cdv A outer s H vs Q E hr h=>?_)
 ·obtain⟨_,_,rfl,_⟩:=h
  rfl
 ·obtain⟨l,items,rfl,hw,hl,hn,q⟩:=h
  refine⟨_,(Ad (Bl (Ar Ce (Bd Bo (by rfl) T.len PySem.boot_len (Aa (pv 0) Ae)) Ah (Ba _)) (Af (Ai Ah)) Aq)
   (Ad (Es (i:=1) rfl Ih.nd rfl rfl rfl (Bw (pv 0)) (BJ (own:=[("work",2)]) (by kernel_rfl)) (fun _ _ _ _ _=>(Bk (i:=2) Ih.nd rfl (Or.inl rfl))) (fun _ _ _ _ _=>Ey) (fun _ _ _ _ _=>(pF T.cl (pv 2))))
   (Af (Ai (CG Af4 (Bd (Ax5 rfl) (by rfl) T.max boot_max (Aa (pv 1) Ae)) (Bd (Ax4 rfl) (by rfl) T.min boot_min (Aa (pv 1) Ae))))))),?_⟩
  refine⟨_,rfl,l,_,rfl,.inl hl,_,_,rfl,rfl,_,rfl,Bc (fun h1=>?_) (fun h1=>?_)⟩
  ·have h1:items=[]:=by
    have:=of_decide_eq_true h1
    rw[List.length_map]at this
    exact List.length_eq_zero_iff.mp (by omega)
   subst h1
   exact q H (Ext.refl _ _)
  ·have h1:items≠[]:=fun z=>by rw[z]at h1;cases h1
   refine⟨_,rfl,l,rfl,⟨_,hl⟩,fun D hD=>?_⟩
   refine EY (C:=C) items (fun p=>V.ref p.1) (fun _=>true) (fun p=>V.int p.2.day) hl hD (Nat.le_trans hn (by decide)) (fun p hp H' N e hT hF=>?_) (fun H' e hl'=>?_)
   ·exact⟨rfl,Tp ⟨_,rfl,_,_,rfl,((hw p hp).ext e).day T.cl,hT rfl _ (Ext.refl _ _)⟩⟩
   ·rw[filter_all]at hl'
    have hl2:H' D=some (.lst ((((items.map (·.2)).map Vbnlag.Work.day)).map V.int)):=by rw[hl',List.map_map,List.map_map];rfl
    have hne:0 < ((items.map (·.2)).map Vbnlag.Work.day).length:=by rw[List.length_map,List.length_map];exact List.length_pos_iff.mpr h1
    refine⟨_,rfl,D,_,rfl,.of hl2,hne,fun m hm hM=>⟨_,rfl,D,_,rfl,.of hl2,hne,fun m2 hm2 hM2=>⟨_,_,rfl,rfl,?_⟩⟩⟩
    have:=q _ e
    rw[NZ hm hM,Lw hm2 hM2]at this
    exact this
end
end Nm
namespace Nm
open PySem PySem.Spec PyProof.Rows L2
section
variable {P:Program}{w:World}{K:PySem.W.Frag}{mg:Str->Option Value}{base:Heap}{C:Cl}
def Wv (s:VS)(x:Vbnlag.Act):List Int:=[(Vbnlag.tally s x).older,(Vbnlag.tally s x).works,(Vbnlag.tally s x).authors,(Vbnlag.tally s x).span]
def Pb (C:Cl):Sp:=fun vs H Q _=>∃k s R a x,vs=[.ref k,.ref a]∧Kp C H k s R∧BR C H a x∧x∈s.acts∧∀H' l,Ext C H H'->H l=none->H' l=some (.lst ((Wv s x).map V.int))->Q (.ref l) H'
theorem Ia:Aj ["kept", "reversal", "code", "day", "using_b", "using_a"] ["kept", "reversal"] (Ag (top 49)):=⟨rfl,rfl,rfl,by decide +kernel,rfl,by decide +kernel,by decide +kernel⟩
theorem Af6 {f:Addr}{fd:FuncData}(F:Fun K "tally" "tally" (top 49) f fd)(T:Txt K mg C)(G_act_day:Ok P w K mg base "act_day" 1 ["kept", "act"] (Dt C))(G_works_using:Ok P w K mg base "works_using" 1 ["kept", "key", "first_day", "last_day"] (Tw C))
  (G_count_authors:Ok P w K mg base "count_authors" 1 ["works"] (T4 K C)) (G_day_span:Ok P w K mg base "day_span" 1 ["works"] (WK K C)):Ay P w K mg base CX0 2 f fd ["kept", "reversal"] (Pb C):=by
 refine F.ok Ia (fun vs H Q E h=>?_) (fun cdv A outer s H vs Q E hr h=>?_)
 ·obtain⟨_,_,_,_,_,rfl,_⟩:=h
  rfl
 ·obtain⟨k,st,R,a,x,rfl,hk,ha,hx,q⟩:=h
  refine⟨_,(Ad (Am (i:=2) Ia.nd rfl (Or.inl rfl) (pF T.cl (pv 0)))
   (Ad (Am (i:=3) Ia.nd rfl (Or.inl rfl) (Al G_act_day (hr.mono (by decide)) (Aa (pv 0) (Aa (pv 1) Ae))))
   (Ad (Am (i:=4) Ia.nd rfl (Or.inl rfl) (Al G_works_using (hr.mono (by decide)) (Aa (pv 0) (Aa (pF T.cl (pv 1)) (Aa (pF T.cl (pv 2)) (Aa (pv 3) Ae))))))
   (Ad (Am (i:=5) Ia.nd rfl (Or.inl rfl) (Al G_works_using (hr.mono (by decide)) (Aa (pv 0) (Aa (pF T.cl (pv 1)) (Aa (CG Ip (CG Af4 (pv 3) (pF T.cl (pv 2))) Ah) (Aa (pv 3) Ae))))))
   (Af (Ai (Ax (Aa (Bd Bo (by rfl) T.len PySem.boot_len (Aa (pv 4) Ae)) (Aa (Bd Bo (by rfl) T.len PySem.boot_len (Aa (pv 5) Ae)) (Aa (Al G_count_authors (hr.mono (by decide)) (Aa (pv 5) Ae)) (Aa (Al G_day_span (hr.mono (by decide)) (Aa (pv 5) Ae)) Ae))))))))))),?_⟩
  refine⟨_,rfl,_,_,rfl,hk.code T.cl,_,rfl,_,rfl,k,st,R,a,x,rfl,hk,ha,hx,?_⟩
  refine⟨_,rfl,_,rfl,_,_,rfl,ha.b_ T.cl,_,rfl,_,_,rfl,hk.cd.limit T.cl,_,rfl,k,st,R,_,_,_,rfl,hk,fun H1 l1 i1 e1 n1 a1 m1 u1=>?_⟩
  have hk1:=hk.ext e1
  have ha1:=ha.ext e1
  refine⟨_,rfl,_,rfl,_,_,rfl,ha1.a_ T.cl,_,rfl,_,rfl,_,_,rfl,hk1.cd.window T.cl,_,_,rfl,rfl,_,_,rfl,rfl,_,rfl,k,st,R,_,_,_,rfl,hk1,fun H2 l2 i2 e2 n2 a2 m2 u2=>?_⟩
  have hk2:=hk1.ext e2
  have len2:i2.length<=1000:=by
   have h1:i2.length=(users st R.us x.a (Vbnlag.dayOf st x.work - st.code.window + 1) (Vbnlag.dayOf st x.work)).length:=by rw[← u2,List.length_map]
   have h2:(users st R.us x.a (Vbnlag.dayOf st x.work - st.code.window + 1) (Vbnlag.dayOf st x.work)).length<=R.us.length:=List.length_filterMap_le _ _
   have h3:=hk.up.length_eq
   have h4:=hk.wf.lu
   omega
  refine⟨_,rfl,l1,_,rfl,.inl (.of (e2.lst a1)),_,rfl,l2,_,rfl,.inl (.of a2),_,rfl,l2,i2,rfl,fun p hp=>hk2.wa p (m2 p hp),.of a2,len2,fun H3 e3=>?_⟩
  refine⟨_,rfl,l2,i2,rfl,fun p hp=>(hk2.wa p (m2 p hp)).ext e3,.of (e3.lst a2),len2,fun H4 e4=>?_⟩
  refine⟨by show 4<=sizeLine;decide,fun p hp=>?_⟩
  have ee:=((e1.trans e2).trans e3).trans e4
  refine q _ p (ee.lay hp _) (ee.free hp) ?_
  rw[Ab]
  unfold Wv
  rw[← Y9 hk.wf hk.up x]
  unfold Ww
  dsimp only
  rw[← u1,← u2]
  simp only[List.length_map,List.map_cons,List.map_nil]
def WD (K:PySem.W.Frag)(C:Cl):Sp:=fun vs H Q _=>∃c l cd o x y z,vs=[.ref c,.ref l]∧CK C H c cd∧SqL K H l ([o,x,y,z].map V.int)∧Q (.bl (decide (cd.works<=x)&&(decide (cd.authors<=y)&&decide (cd.span<=z)))) H
theorem K4:Aj ["code", "counts"] ["code", "counts"] (Ag (top 50)):=⟨rfl,rfl,rfl,by decide +kernel,rfl,by decide +kernel,by decide +kernel⟩
theorem Li {f:Addr}{fd:FuncData}(F:Fun K "is_used_enough" "is_used_enough" (top 50) f fd)(T:Txt K mg C):Ay P w K mg base CX0 1 f fd ["code", "counts"] (WD K C):=by
 refine F.ok K4 (fun vs H Q E h=>?_) (fun cdv A outer s H vs Q E hr h=>?_)
 ·obtain⟨_,_,_,_,_,_,_,rfl,_⟩:=h
  rfl
 ·obtain⟨c,l,cd,o,x,y,z,rfl,hc,hl,q⟩:=h
  refine⟨_,(Af (Ai (J3 (Gk Qy (Aw Ak (pv 1) Ah (fun _ _=>rfl)) (pF T.cl (pv 0)) (Ba _)) (J3 (Gk Qy (Aw Ak (pv 1) Ah (fun _ _=>rfl)) (pF T.cl (pv 0)) (Ba _)) (Ug (Gk Qy (Aw Ak (pv 1) Ah (fun _ _=>rfl)) (pF T.cl (pv 0)) (Ba _))))))),?_⟩
  refine⟨_,rfl,l,_,_,_,rfl,rfl,hl,rfl,_,rfl,_,_,rfl,hc.works T.cl,_,_,rfl,rfl,_,rfl,Bc (fun h1=>?_) (fun h1=>?_)⟩
  ·refine⟨_,rfl,l,_,_,_,rfl,rfl,hl,rfl,_,rfl,_,_,rfl,hc.authors T.cl,_,_,rfl,rfl,_,rfl,Bc (fun h2=>?_) (fun h2=>?_)⟩
   ·refine⟨_,rfl,l,_,_,_,rfl,rfl,hl,rfl,_,rfl,_,_,rfl,hc.span T.cl,_,_,rfl,rfl,?_⟩
    rw[show decide (cd.works<=x)=true from h1,show decide (cd.authors<=y)=true from h2]at q
    exact q
   ·rw[show decide (cd.works<=x)=true from h1,show decide (cd.authors<=y)=false from h2]at q
    exact q
  ·rw[show decide (cd.works<=x)=false from h1]at q
   exact q
end
end Nm
namespace Nm
open PySem PySem.Spec PyProof.Rows L2
section
variable {P:Program}{w:World}{K:PySem.W.Frag}{mg:Str->Option Value}{base:Heap}{C:Cl}
theorem Dk {s:VS}(W:WF s){n:Vbnlag.Name}(hn:n∈s.names):Vbnlag.momentOf s n.key=Vbnlag.moment s n:=by
 unfold Vbnlag.momentOf
 rw[W.nOf.mpr ⟨hn,rfl⟩]
def HY (C:Cl):Sp:=fun vs H Q _=>∃k s R a x,vs=[.ref k,.ref a]∧Kp C H k s R∧BR C H a x∧x∈s.acts∧x.kind<=3∧∀H',Ext C H H'->Q (.bl (Vbnlag.earned s x)) H'
theorem K5:Aj ["kept", "reversal", "counts"] ["kept", "reversal"] (Ag (top 51)):=⟨rfl,rfl,rfl,by decide +kernel,rfl,by decide +kernel,by decide +kernel⟩
theorem Ul {f:Addr}{fd:FuncData}(F:Fun K "is_earned" "is_earned" (top 51) f fd)(T:Txt K mg C)(G_moment:Ok P w K mg base "moment" 2 ["kept", "name"] (KJ C))(G_tally:Ok P w K mg base "tally" 2 ["kept", "reversal"] (Pb C))
  (G_is_used_enough:Ok P w K mg base "is_used_enough" 1 ["code", "counts"] (WD K C)):Ay P w K mg base CX0 3 f fd ["kept", "reversal"] (HY C):=by
 refine F.ok K5 (fun vs H Q E h=>?_) (fun cdv A outer s H vs Q E hr h=>?_)
 ·obtain⟨_,_,_,_,_,rfl,_⟩:=h
  rfl
 ·obtain⟨k,st,R,a,x,rfl,hk,ha,hx,h3,q⟩:=h
  refine⟨_,(Ad (Bl (Ar (Au8 (hu0 hr)) (Al G_moment (hr.mono (by decide)) (Aa (pv 0) (Aa (Br (hu1 hr) (pF T.cl (pv 0)) (pF T.cl (pv 1)) (fun _ _=>rfl)) Ae))) (Al G_moment (hr.mono (by decide)) (Aa (pv 0) (Aa (Br (hu1 hr) (pF T.cl (pv 0)) (pF T.cl (pv 1)) (fun _ _=>rfl)) Ae))) (Ba _)) (Af (Ai Vr)) Aq)
   (Ad (Am (i:=2) K5.nd rfl (Or.inl rfl) (Al G_tally (hr.mono (by decide)) (Aa (pv 0) (Aa (pv 1) Ae))))
   (Af (Ai (J3 (Gk Ce (Aw Ak (pv 2) Ah (fun _ _=>rfl)) Ah (Ba _)) (Ug (Al G_is_used_enough (hr.mono (by decide)) (Aa (pF T.cl (pv 0)) (Aa (pv 2) Ae))))))))),?_⟩
  obtain⟨na,hna,ena⟩:=hk.wf.aa x hx
  obtain⟨⟨nb,hnb,enb⟩,hab⟩:=hk.wf.ab x hx h3
  obtain⟨pa,hpa,ga⟩:=hk.Ut hna
  rw[ena]at ga
  refine⟨_,rfl,_,rfl,_,_,rfl,hk.names T.cl,_,rfl,_,_,rfl,ha.a_ T.cl,R.n,_,rfl,ga,k,st,R,pa,na,rfl,hk,hpa,hna,fun p1 n1=>?_⟩
  have e1:=Ext.new C n1 (.tup ((Vbnlag.moment st na).map V.int))
  have hk1:=hk.ext e1
  obtain⟨pb,hpb,gb⟩:=hk1.Ut hnb
  rw[enb]at gb
  refine⟨_,rfl,_,rfl,_,_,rfl,hk1.names T.cl,_,rfl,_,_,rfl,(ha.ext e1).b_ T.cl,R.n,_,rfl,gb,k,st,R,pb,nb,rfl,hk1,hpb,hnb,fun p2 n2=>?_⟩
  have e2:=Ext.new C n2 (.tup ((Vbnlag.moment st nb).map V.int))
  have hk2:=hk1.ext e2
  have ee:=e1.trans e2
  refine⟨p1,p2,_,_,rfl,rfl,.of (e2.tup Ab),.of Ab,_,rfl,Bc (fun h1=>?_) (fun h1=>?_)⟩
  ·rw[HT.Ht]at h1
   have:=q _ ee
   unfold Vbnlag.earned at this
   rw[← ena,← enb,Dk hk.wf hna,Dk hk.wf hnb,Eh h1]at this
   exact this
  ·rw[HT.Ht]at h1
   have lt:Vbnlag.less (Vbnlag.moment st nb) (Vbnlag.moment st na)=true:=Ef (by rfl) (fun z=>hab (by
    have:=List.cons.inj z
    have:=List.cons.inj this.2
    have:=List.cons.inj this.2
    have:=List.cons.inj this.2
    rw[← ena,← enb]
    exact this.1)) h1
   refine⟨_,rfl,_,rfl,k,st,R,a,x,rfl,hk2,ha.ext ee,hx,fun H3 l e3 n3 hl=>?_⟩
   have hk3:=hk2.ext e3
   have ee3:=ee.trans e3
   have qq:=q _ ee3
   unfold Vbnlag.earned at qq
   rw[← ena,← enb,Dk hk.wf hna,Dk hk.wf hnb,lt]at qq
   refine⟨_,rfl,l,_,_,_,rfl,rfl,.of hl,rfl,_,_,rfl,rfl,_,rfl,Bc (fun h4=>?_) (fun h4=>?_)⟩
   ·refine⟨_,rfl,_,_,rfl,hk3.code T.cl,_,rfl,R.c,l,st.code,_,_,_,_,rfl,hk3.cd,.of hl,?_⟩
    dsimp only at qq
    rw[show decide ((Vbnlag.tally st x).older=0)=true from h4]at qq
    exact qq
   ·dsimp only at qq
    rw[show decide ((Vbnlag.tally st x).older=0)=false from h4]at qq
    exact qq
end
end Nm
namespace Nm
open PySem PySem.Spec PyProof.Rows L2
section
variable {P:Program}{w:World}{K:PySem.W.Frag}{mg:Str->Option Value}{base:Heap}{C:Cl}
def TV (C:Cl):Sp:=fun vs H Q _=>∃k s R a x d,vs=[.ref k,.ref a,.int d]∧Kp C H k s R∧BR C H a x∧x∈s.acts∧x.kind<=3∧∀H',Ext C H H'->Q (.int (Vbnlag.hindrance s d x)) H'
theorem Ud:Aj ["kept", "act", "d"] ["kept", "act", "d"] (Ag (top 57)):=⟨rfl,rfl,rfl,by decide +kernel,rfl,by decide +kernel,by decide +kernel⟩
theorem Uo {f:Addr}{fd:FuncData}(F:Fun K "hindrance" "hindrance" (top 57) f fd)(T:Txt K mg C)(G_act_day:Ok P w K mg base "act_day" 1 ["kept", "act"] (Dt C))(G_name_day:Ok P w K mg base "name_day" 1 ["kept", "name"] (DY C))(G_stands:Ok P w K mg base "stands" 5 ["kept", "key", "d"] (GD C))
  (G_is_earned:Ok P w K mg base "is_earned" 3 ["kept", "reversal"] (HY C)):Ay P w K mg base CX0 6 f fd ["kept", "act", "d"] (TV C):=by
 refine F.ok Ud (fun vs H Q E h=>?_) (fun cdv A outer s H vs Q E hr h=>?_)
 ·obtain⟨_,_,_,_,_,_,rfl,_⟩:=h
  rfl
 ·obtain⟨k,st,R,a,x,d,rfl,hk,ha,hx,h3,q⟩:=h
  refine⟨_,(Ad (Bl (Ar Lh (Al G_act_day (hr.mono (by decide)) (Aa (pv 0) (Aa (pv 1) Ae))) (pv 2) (Ba _)) (Af (Ai Ah)) Aq)
   (Ad (Bl (PW.pt (Sd (Df (BW (Al G_stands (hr.mono (by decide)) (Aa (pv 0) (Aa (pF T.cl (pv 1)) (Aa (pv 2) Ae)))))) (Mx (Df (BW (Al G_stands (hr.mono (by decide)) (Aa (pv 0) (Aa (pF T.cl (pv 1)) (Aa (pv 2) Ae))))))))) (Af (Ai Ah)) Aq)
   (Ad (Bl (PW.pt (Fx (Ar Ce (pF T.cl (pv 1)) (pk T.UJ) (Ba _)) (En (Ar Qx (Al G_name_day (hr.mono (by decide)) (Aa (pv 0) (Aa (Br (hu1 hr) (pF T.cl (pv 0)) (pF T.cl (pv 1)) (fun _ _=>rfl)) Ae))) (Al G_name_day (hr.mono (by decide)) (Aa (pv 0) (Aa (Br (hu1 hr) (pF T.cl (pv 0)) (pF T.cl (pv 1)) (fun _ _=>rfl)) Ae))) (Ba _))))) (Af (Ai Ah)) Aq)
   (Ad (Bl (PW.pt (Fx (Ar Ce (pF T.cl (pv 1)) (pk T.Jq) (Ba _)) (En (Df (BW (Al G_is_earned (hr.mono (by decide)) (Aa (pv 0) (Aa (pv 1) Ae)))))))) (Af (Ai Ah)) Aq)
   (Af (Ai Ah)))))),?_⟩
  obtain⟨na,hna,ena⟩:=hk.wf.aa x hx
  obtain⟨⟨nb,hnb,enb⟩,hab⟩:=hk.wf.ab x hx h3
  refine⟨_,rfl,_,rfl,k,st,R,a,x,rfl,hk,ha,hx,_,rfl,_,_,rfl,rfl,_,rfl,Bc (fun h1=>?_) (fun h1=>?_)⟩
  ·have:=q H (Ext.refl _ _)
   rw[show Vbnlag.hindrance st d x=1 by unfold Vbnlag.hindrance;rw[if_pos (of_decide_eq_true h1)]]at this
   exact this
  have n1:¬d < Vbnlag.dayOf st x.work:=of_decide_eq_false h1
  refine⟨_,rfl,_,rfl,_,_,rfl,ha.a_ T.cl,_,rfl,k,st,R,x.a,d,rfl,hk,fun H1 e1=>⟨_,rfl,Bc (fun h2=>?_) (fun h2=>?_)⟩⟩
  ·have:=q H1 e1
   rw[show Vbnlag.hindrance st d x=2 by unfold Vbnlag.hindrance;rw[if_neg n1,if_pos (by simp at h2;simp[h2])]]at this
   exact this
  have hk1:=hk.ext e1
  have ha1:=ha.ext e1
  refine⟨_,rfl,_,rfl,_,_,rfl,ha1.b_ T.cl,_,rfl,k,st,R,x.b,d,rfl,hk1,fun H2 e2=>⟨_,rfl,Bc (fun h4=>?_) (fun h4=>?_)⟩⟩
  ·have:=q H2 (e1.trans e2)
   rw[show Vbnlag.hindrance st d x=2 by unfold Vbnlag.hindrance;rw[if_neg n1,if_pos (by simp at h4;simp[h4])]]at this
   exact this
  have n2:¬(Vbnlag.stands st d x.a&&Vbnlag.stands st d x.b)=false:=by simp at h2 h4;simp[h2,h4]
  have hk2:=hk1.ext e2
  have ha2:=ha1.ext e2
  have ee:=e1.trans e2
  have hd:((Vbnlag.momentOf st x.a).head?≠(Vbnlag.momentOf st x.b).head?)↔Vbnlag.dayOf st na.work≠Vbnlag.dayOf st nb.work:=by
   rw[← ena,← enb,Dk hk.wf hna,Dk hk.wf hnb]
   simp[Vbnlag.moment]
  have rest:¬(x.kind=1∧(Vbnlag.momentOf st x.a).head?≠(Vbnlag.momentOf st x.b).head?)->Az5 (Yg (tOp (rI0 fun i j=>V.bl (decide (i=j))) (tF K (PX 1) "kind") (tC (V.int 2)))) (Ay6 (tB (Ab5 (HY C) [] E0 (Yi (PX 0) (Yi (PX 1) Ab3))))) (L2.start ["kept", "act", "d"] [V.ref k,V.ref a,V.int d]) H2
    (fun c H3=>if c=true then Q (.int 4) H3 else Q (.int 0) H3):=fun n3=>by
   refine⟨_,rfl,_,_,rfl,ha2.kind T.cl,_,_,rfl,rfl,_,rfl,Bc (fun h5=>?_) (fun h5=>?_)⟩
   ·refine⟨_,rfl,_,rfl,k,st,R,a,x,rfl,hk2,ha2,hx,h3,fun H3 e3=>⟨_,rfl,Bc (fun h6=>?_) (fun h6=>?_)⟩⟩
    ·have:=q H3 (ee.trans e3)
     rw[show Vbnlag.hindrance st d x=4 by unfold Vbnlag.hindrance;rw[if_neg n1,if_neg n2,if_neg n3,if_pos ⟨of_decide_eq_true h5,by simpa using h6⟩]]at this
     exact this
    ·have:=q H3 (ee.trans e3)
     rw[show Vbnlag.hindrance st d x=0 by unfold Vbnlag.hindrance;rw[if_neg n1,if_neg n2,if_neg n3,if_neg (fun z=>by rw[z.2]at h6;cases h6)]]at this
     exact this
   ·have:=q H2 ee
    rw[show Vbnlag.hindrance st d x=0 by unfold Vbnlag.hindrance;rw[if_neg n1,if_neg n2,if_neg n3,if_neg (fun z=>of_decide_eq_false h5 z.1)]]at this
    exact this
  refine⟨_,rfl,_,_,rfl,ha2.kind T.cl,_,_,rfl,rfl,_,rfl,Bc (fun h5=>?_) (fun h5=>rest fun z=>of_decide_eq_false h5 z.1)⟩
  obtain⟨pa,hpa,ga⟩:=hk2.Ut hna
  obtain⟨pb,hpb,gb⟩:=hk2.Ut hnb
  rw[ena]at ga
  rw[enb]at gb
  refine⟨_,rfl,_,rfl,_,_,rfl,hk2.names T.cl,_,rfl,_,_,rfl,ha2.a_ T.cl,R.n,_,rfl,ga,k,st,R,pa,na,rfl,hk2,hpa,hna,_,rfl,_,rfl,_,_,rfl,hk2.names T.cl,_,rfl,_,_,rfl,ha2.b_ T.cl,R.n,_,rfl,gb,k,st,R,pb,nb,rfl,hk2,hpb,hnb,_,_,rfl,rfl,_,rfl,Bc (fun h6=>?_) (fun h6=>rest fun z=>?_)⟩
  ·have:=q H2 ee
   rw[show Vbnlag.hindrance st d x=3 by unfold Vbnlag.hindrance;rw[if_neg n1,if_neg n2,if_pos ⟨of_decide_eq_true h5,hd.mpr (by simpa using h6)⟩]]at this
   exact this
  ·have:=hd.mp z.2
   simp at h6
   exact this h6
end
end Nm
namespace Nm
open PySem PySem.Spec PyProof.Rows L2
section
variable {P:Program}{w:World}{K:PySem.W.Frag}{mg:Str->Option Value}{base:Heap}{C:Cl}
def Ph (C:Cl):Sp:=fun vs H Q _=>∃k s R d,vs=[.ref k,.int d]∧Kp C H k s R∧∀H' l,∀items:List (Addr×Vbnlag.Act),Ext C H H'->H l=none->H' l=some (.lst (items.map fun p=>V.ref p.1))->(∀p∈items,p∈R.as)->items.map (·.2)=Vbnlag.counting s d->Q (.ref l) H'
theorem Em:Aj ["kept", "d", "asked", "act"] ["kept", "d"] (Ag (top 58)):=⟨rfl,rfl,rfl,by decide +kernel,rfl,by decide +kernel,by decide +kernel⟩
theorem RJ {f:Addr}{fd:FuncData}(F:Fun K "asked_acts" "asked_acts" (top 58) f fd)(T:Txt K mg C)(ap:C.Apart)(B:Aa4 mg base C.ta)(hc:fd.code= .ref C.a1)(G_act_day:Ok P w K mg base "act_day" 1 ["kept", "act"] (Dt C))
  (G_hindrance:Ok P w K mg base "hindrance" 6 ["kept", "act", "d"] (TV C)):Ay P w K mg base CX0 7 f fd ["kept", "d"] (Ph C):=by
 refine F.okC Em (fun vs H Q E h=>?_) (fun cdv A outer s H vs Q E hcd hr h=>?_)
 ·obtain⟨_,_,_,_,rfl,_⟩:=h
  rfl
 ·obtain⟨k,st,R,d,rfl,hk,q⟩:=h
  refine⟨_,(Ad (Ld (Es (i:=2) rfl Em.nd rfl rfl rfl (Jj (pF T.cl (pv 0))) (BJ (own:=[("act",3)]) (by kernel_rfl)) (fun _ _ _ _ _=>(Bk (i:=3) Em.nd rfl (Or.inl rfl))) (fun _ _ _ _ _=>(Ji (PW.pt (Fx (Ar (MK T.cl) (pF T.cl (pv 3)) (Il (Aa (pk T.UJ) (Aa (pk T.Jq) (Aa (pk T.YL) Ae)))) (by with_unfolding_all rfl)) (En (Ar Ce (Al G_hindrance (hr.mono (by decide)) (Aa (pv 0) (Aa (pv 3) (Aa (pv 1) Ae)))) Ah (Ba _))))))) (fun _ _ _ _ _=>(pv 3))))
   (Af (Ai (Vn (C:=C) (t:=C.ta) (clos:=[("kept",s.heap.objs.size + 1)]) (y:= "act") (i:=3) (k:=1) rfl (hr.mono (by decide)) ?L (pv 2) (fun _ _ _ _ _=>Il (Aa (Aq8 Ab1 (pF T.cl (pv 3))) (Aa (Al G_act_day ((hr.in1.in1.deeper _).mono (by decide)) (Aa (pv 0) (Aa (pv 3) Ae))) (Aa (pF T.cl (pv 3)) Ae)))) T.sorted)))),?_⟩
  case L =>
   refine⟨B,ap.sep (by simp[Cl.tabs]),hcd.symm.trans hc,rfl,rfl,rfl,fun _ _ _ _ _=>rfl,⟨rfl,rfl,rfl,rfl,rfl,Em.nd,by decide +kernel,(by decide +kernel:∀z∈(["kept", "d", "asked", "act"]:List Str),z≠ "act" ->_),fun z hz=>?_,fun z c h=>?_⟩⟩
   ·have m:=PySem.mem_of_lookup hz
    simp only[List.mem_cons,Prod.mk.injEq,List.not_mem_nil,or_false]at m
    rcases m with⟨rfl,h⟩ | ⟨rfl,h⟩ | ⟨rfl,h⟩ <;>first | (cases h;done) | exact⟨⟨_,rfl⟩,.inl rfl⟩
   ·have m:=PySem.mem_of_lookup h
    simp only[List.mem_cons,Prod.mk.injEq,List.not_mem_nil,or_false]at m
    obtain⟨rfl,rfl⟩:=m
    rfl
  obtain⟨o,ho,hu⟩:=Rd.split hk.ak
  refine⟨R.a,.dK (dA R.as),o,ho,hu,trivial,fun od=>?_⟩
  have hk1:=hk.lock od hk.ak (.inl ⟨_,rfl⟩)
  refine⟨_,rfl,_,_,rfl,hk1.acts T.cl,R.a,od,dA R.as,rfl,Ab,fun D hD=>?_⟩
  refine Jl (C:=C) R.as (fun p=>V.ref p.1) (fun p=>CQ st d p.2) (fun p=>V.ref p.1) Ab (Tq _) hD (by rw[hk.ZM];exact Nat.le_trans hk.wf.la (by decide)) (fun p hp H' N e hT hF=>?_) (fun H' e hl=>?_)
  ·have hk2:=hk1.ext e
   have hp2:=hk2.aa p hp
   have em:∀b,b=CQ st d p.2->∀H3,Ext C H' H3->if b=true then PX 3 (List.set (wipe (L2.start ["kept", "d", "asked", "act"] [V.ref k,V.int d]) [3]) 3 (some (.ref p.1))) H3 fun y H4=>Put D y N H4 else N H3:=fun b hb H3 e3=>Bc (fun h=>⟨_,rfl,hT (hb.symm.trans h) H3 e3⟩) (fun h=>hF (hb.symm.trans h) H3 e3)
   have hkk:=hk.wf.ak p.2 (hk.Q0 hp)
   refine⟨rfl,_,rfl,_,_,rfl,hp2.kind T.cl,by show 3<=sizeLine;decide,fun t ht=>⟨t,_,rfl,.inr (SqT.of Ab),rfl,rfl,_,rfl,Bc (fun h2=>?_) (fun h2=>em _ ?_ _ (Ext.new _ ht _))⟩⟩
   ·have e4:=Ext.new C ht (.tup [V.int 1,V.int 2,V.int 3])
    have k3:p.2.kind<=3:=by
     simp[inV,eqV]at h2
     omega
    refine⟨_,rfl,_,rfl,_,rfl,k,st,R,p.1,p.2,d,rfl,hk2.ext e4,hp2.ext e4,hk2.Q0 hp,k3,fun H5 e5=>⟨_,_,rfl,rfl,_,rfl,em _ ?_ _ (e4.trans e5)⟩⟩
    unfold CQ
    rw[Bool.beq_eq_decide_eq,decide_eq_true k3,Bool.true_and]
   ·unfold CQ
    simp[inV,eqV]at h2
    rw[show decide (p.2.kind<=3)=false by simp;omega]
    rfl
  ·have e2:Ext C H (upd H' R.a o):=Ext.unlock ho hu (.inl ⟨_,rfl⟩) e (e.frz Ab)
   have hl2:upd H' R.a o D=some (.lst ((R.as.filter fun p=>CQ st d p.2).map fun p=>V.ref p.1)):=by
    rw[Ac (by rintro rfl;rw[e.frz Ab]at hl;cases hl)]
    exact hl
   have hk3:=hk.ext e2
   refine⟨e.frz Ab,_,rfl,_,R.as.filter (fun p=>CQ st d p.2),(fun p=>V.ref p.1),fun p=>Hx st p.2,D,rfl,hk3.tb _ (by simp[Cl.tabs]),.of hl2,fun p hp=>⟨_,_,rfl⟩,fun p hp H2 e3=>?_,fun D2 H2 out e3 n2 pm pw=>?_⟩
   ·have hk4:=hk3.ext e3
    have hp4:=hk4.aa p (List.mem_filter.mp hp).1
    exact⟨_,rfl,_,_,rfl,hp4.kind T.cl,_,rfl,_,rfl,_,rfl,k,st,R,p.1,p.2,rfl,hk4,hp4,hk4.Q0 (List.mem_filter.mp hp).1,_,rfl,_,_,rfl,hp4.key T.cl,by show 3<=sizeLine;decide,fun t ht=>⟨t,rfl,Ab,Ext.new _ ht _⟩⟩
   ·have e5:=(e2.trans e3).lay n2 (.lst (out.map fun p=>V.ref p.1))
    refine q _ D2 out e5 ((e2.trans e3).free n2) Ab (fun p hp=>(List.mem_filter.mp (pm.mem_iff.mp hp)).1) ?_
    refine O8 hk.wf ?_ ?_
    ·refine(pm.map (·.2)).trans ?_
     have:=hk.ap.filter (CQ st d)
     rw[List.filter_map]at this
     exact this
    ·exact List.pairwise_map.mpr pw
end
end Nm
namespace Nm
open PySem PySem.Spec PyProof.Rows L2
section
variable {P:Program}{w:World}{K:PySem.W.Frag}{mg:Str->Option Value}{base:Heap}{C:Cl}
theorem tyL {H:Hp}{p:Addr}{xs:List V}(h:H p=some (.lst xs)):tyV K "list" (.ref p) H:= .inl ⟨rfl,_,.of h⟩
structure Lv (C:Cl)(H0 H:Hp)(r wl:Addr)(R W:List Int):Prop where
 ext:Ext C H0 H
 nr:H0 r=none
 nw:H0 wl=none
 hr:H r=some (.dK (R.map fun x=>(Sum.inl x,V.bl true)))
 hw:H wl=some (.lst (W.map V.int))
theorem Ky (k:Int):∀R:List Int,(BL (R.map fun x=>((Sum.inl x:Key),V.bl true)) (Sum.inl k)).isSome=decide (k∈R)
 | []=>rfl
 | x::r=>by
  rw[List.map_cons]
  by_cases e:x=k
  ·rw[Cz (show((Sum.inl x:Key))=Sum.inl k by rw[e])]
   simp[e]
  ·rw[Cd (fun q=>e (Sum.inl.inj q)),Ky k r]
   simp[Ne.symm e]
section
variable {H0 H:Hp}{r wl:Addr}{R W:List Int}
theorem Lv.ne (h:Lv C H0 H r wl R W):r≠wl:=fun z=>by have a:=h.hr;rw[z,h.hw]at a;cases a
theorem Lv.put (h:Lv C H0 H r wl R W){x:Int}(hx:x∉R):Lv C H0 (upd H r (.dK (putK (R.map fun x=>(Sum.inl x,V.bl true)) (Sum.inl x) (.bl true)))) r wl (R++[x]) W:=by
 refine⟨h.ext.Zh h.nr h.hr _,h.nr,h.nw,?_,?_⟩
 ·rw[Ab,Qs,List.map_append]
  ·rfl
  ·have:=Ky x R
   rw[decide_eq_false hx]at this
   cases q:BL (R.map fun x=>((Sum.inl x:Key),V.bl true)) (Sum.inl x) with
   | none=>rfl
   | some v=>rw[q]at this;cases this
 ·rw[Ac h.ne.symm]
  exact h.hw
theorem Lv.app (h:Lv C H0 H r wl R W)(x:Int):Lv C H0 (upd H wl (.lst (W.map V.int++[V.int x]))) r wl R (W++[x]):=by
 refine⟨h.ext.Hj h.nw h.hw _,h.nr,h.nw,?_,?_⟩
 ·rw[Ac h.ne]
  exact h.hr
 ·rw[Ab,List.map_append]
  rfl
theorem Lv.pop {u:Int}(h:Lv C H0 H r wl R (W++[u])):Lv C H0 (upd H wl (.lst ((W++[u]).map V.int).dropLast)) r wl R W:=by
 refine⟨h.ext.Hj h.nw h.hw _,h.nr,h.nw,?_,?_⟩
 ·rw[Ac h.ne]
  exact h.hr
 ·rw[Ab,List.map_append,List.map_singleton,List.dropLast_concat]
end
def TQ (C:Cl):Sp:=fun vs H Q _=>∃d ls E a g,vs=[.ref d,.int a,.int g]∧Dl H d (under ls) E∧ls.length<=1000∧∀H',Ext C H H'->Q (.bl (Vbnlag.leads ls a g)) H'
theorem Ie:Aj ["lower_names", "start", "goal", "reached", "waiting", "upper", "lower"] ["lower_names", "start", "goal"] (Ag (top 59)):=⟨rfl,rfl,rfl,by decide +kernel,rfl,by decide +kernel,by decide +kernel⟩
theorem Af7 {f:Addr}{fd:FuncData}(F:Fun K "leads" "leads" (top 59) f fd)(T:Txt K mg C):Ay P w K mg base CX0 1 f fd ["lower_names", "start", "goal"] (TQ C):=by
 refine F.ok Ie (fun vs H Q E h=>?_) (fun cdv A outer s H vs Q E hr h=>?_)
 ·obtain⟨_,_,_,_,_,rfl,_⟩:=h
  rfl
 ·obtain⟨d,ls,E',a,g,rfl,hd,hn,q⟩:=h
  refine⟨_,(Ad (Am (i:=3) Ie.nd rfl (Or.inl rfl) (Yp (Vl (pv 1) Vr Yk) rfl rfl (by simp) (by decide)))
   (Ad (Am (i:=4) Ie.nd rfl (Or.inl rfl) (Ax (Aa (pv 1) Ae)))
   (Ad (GJ PassesOwn.never (Ar Lh (Bd Bo (by rfl) T.len PySem.boot_len (Aa (pv 4) Ae)) Ah (Ba _)) (Ad (Am (i:=5) Ie.nd rfl (Or.inl rfl) (Au6 PySem.F.plainAttrs_list PySem.F.slot_list_pop PySem.F.type_list_pop Av2 (pv 4)))
   (Af (Fz PassesOwn.never rfl (Bw (Vq (hu1 hr) (pv 0) (pv 5) (Ax Ae) ⟨rfl,rfl,rfl,rfl⟩)) (Bk (i:=6) Ie.nd rfl (Or.inl rfl)) (Af (Bl (Dg (Cu (hu1 hr) (pv 6) (pv 3))) (Ad (Ho (hu1 hr) (pv 3) (pv 6) Vr rfl)
   (Af (Ca (Dj PySem.F.plainAttrs_list PySem.F.slot_list_append PySem.F.type_list_append Cv (pv 4) (Aa (pv 6) Ae))))) Aq))))))
   (Af (Ai (Af1 (J4 (hu1 hr) (pv 2) (pv 3)))))))),?_⟩
  refine fun r hr0=>⟨_,rfl,Ab,[(Sum.inl a,V.bl true)],rfl,by show 1<=15;decide,_,rfl,by show 1<=sizeLine;decide,fun wl hwl=>?_⟩
  have hwl0:H wl=none:=CP (CP hwl)
  have lv0:Lv C H (upd (upd (upd H r (.dK [])) r (.dK (FQ [] [(Sum.inl a,V.bl true)]))) wl (.lst [V.int a])) r wl [a] [a]:=by
   have e1:Ext C H (upd (upd H r (.dK [])) r (.dK (FQ [] [(Sum.inl a,V.bl true)]))):=(Ext.new C hr0 _).Zh hr0 Ab _
   have nw:wl≠r:=fun z=>by rw[z,Ab]at hwl;cases hwl
   exact⟨e1.lay hwl _,hr0,hwl0,by rw[Ac nw.symm,Ab];rfl,Ab⟩
  generalize upd (upd (upd H r (.dK [])) r (.dK (FQ [] [(Sum.inl a,V.bl true)]))) wl (.lst [V.int a])=Hs at lv0 ⊢
  refine⟨fun m σ H1=>∃R W u v,σ=[some (.ref d),some (.int a),some (.int g),some (.ref r),some (.ref wl),u,v]∧Lv C H H1 r wl R W∧DInv ls a R W∧m=2 * (ls.length + 1 - R.length) + W.length,⟨_,[a],[a],none,none,rfl,lv0,DInv.start ls a,rfl⟩,?_⟩
  rintro m σ H1 ⟨R,W,u,v,rfl,lv,di,rfl⟩
  refine⟨_,rfl,wl,_,rfl,.inl (.of lv.hw),_,_,rfl,rfl,_,rfl,Bc (fun h1=>?_) (fun h1=>?_)⟩
  ·have h1:=of_decide_eq_true h1
   rcases List.eq_nil_or_concat W with rfl | ⟨W',u0,rfl⟩
   ·exact absurd h1 (by decide)
   rw[List.concat_eq_append]at *
   refine⟨fun σ' H'=>∃R' W2 u v,σ'=[some (.ref d),some (.int a),some (.int g),some (.ref r),some (.ref wl),u,v]∧Lv C H H' r wl R' W2∧DInv ls a R' W2∧2 * (ls.length + 1 - R'.length) + W2.length < 2 * (ls.length + 1 - R.length) + (W'++[u0]).length,fun σ' H' ⟨R',W2,u,v,e1,e2,e3,e4⟩=>⟨_,e4,R',W2,u,v,e1,e2,e3,rfl⟩,?_⟩
   refine⟨_,rfl,tyL lv.hw,wl,_,V.int u0,rfl,rfl,lv.hw,by simp,?_⟩
   have lv1:=lv.pop
   generalize upd H1 wl (.lst ((W'++[u0]).map V.int).dropLast)=H2 at lv1 ⊢
   have dt:=di.pop
   have hd2:=hd.ext lv1.ext
   refine⟨_,rfl,d,rfl,.inl ⟨_,.inl hd2.at_⟩,_,rfl,by show 0<=sizeLine;decide,fun p hp=>⟨_,DW.k (k:=Sum.inl _) (by rw[Ac (fun z=>by rw[← z,hd2.at_]at hp;cases hp)];exact hd2.at_),?_⟩⟩
   have lv3:Lv C H (upd H2 p (.lst [])) r wl R W':=⟨lv1.ext.lay hp _,lv1.nr,lv1.nw,by rw[Ac (fun z=>by rw[← z,lv1.hr]at hp;cases hp)];exact lv1.hr,by rw[Ac (fun z=>by rw[← z,lv1.hw]at hp;cases hp)];exact lv1.hw⟩
   obtain⟨l,el,hl,n1,n2⟩:∃l,(BL (E'.map fun p=>((Sum.inl p.1:Key),V.ref p.2)) (Sum.inl u0)).getD (.ref p)= .ref l∧upd H2 p (.lst []) l=some (.lst ((under ls u0).map V.int))∧l≠r∧l≠wl:=by
    rcases hd2.get u0 with⟨pp,hpp,epp,ev,hv⟩ | ⟨ev,ef,_⟩
    ·have h0:=hd.ls pp hpp
     refine⟨pp.2,by rw[ev];rfl,by rw[Ac (fun z=>by rw[← z,hv]at hp;cases hp)];exact hv,fun z=>?_,fun z=>?_⟩
     ·rw[z,hr0]at h0;cases h0
     ·rw[z,hwl0]at h0;cases h0
    ·refine⟨p,by rw[ev];rfl,by rw[Ab,ef];rfl,fun z=>?_,fun z=>?_⟩
     ·rw[z,lv1.hr]at hp;cases hp
     ·rw[z,lv1.hw]at hp;cases hp
   rw[el]
   generalize upd H2 p (.lst [])=H3 at lv3 hl ⊢
   refine⟨l,rfl,⟨_,.of hl⟩,?_⟩
   refine
    Dy (J:=Itl K l) (n:=(under ls u0).length) (fun i σ H4=>∃R' W2 v,σ=[some (.ref d),some (.int a),some (.int g),some (.ref r),some (.ref wl),some (.int u0),v]∧Lv C H H4 r wl R' W2∧H4 l=some (.lst ((under ls u0).map V.int))∧JK ls a u0 ((under ls u0).take i) R' W2∧2 * (ls.length + 1 - R'.length) + W2.length < 2 * (ls.length + 1 - R.length) + (W'++[u0]).length)
    ⟨R,W',v,rfl,lv3,hl,dt,by simp⟩
    (fun i σ H4 hi ⟨R',W2,v,e1,e2,e3,e4,e5⟩=>⟨_,V.int (under ls u0)[i],.of e3,by rw[List.getElem?_map,List.getElem?_eq_getElem hi];rfl⟩)
    (fun σ H4 ⟨R',W2,v,e1,e2,e3,e4,e5⟩=>⟨_,.of e3,by rw[List.length_map];exact Nat.le_refl _⟩)
    (fun i x σ H4 H5 hi ⟨R',W2,v,e1,e2,e3,e4,e5⟩ ⟨y1,y2⟩=>by
     subst y1 e1
     have y3:=y2 _ (.of e3)
     rw[List.getElem?_map,List.getElem?_eq_getElem hi]at y3
     cases y3
     have tk:(under ls u0).take (i + 1)=(under ls u0).take i++[(under ls u0)[i]]:=by rw[List.take_succ,List.getElem?_eq_getElem hi];rfl
     have few:=R9 e4.nd e4.re
     refine⟨_,rfl,_,rfl,r,_,rfl,DW.k (k:=Sum.inl _) e2.hr,_,rfl,Bc (fun h2=>?_) (fun h2=>?_)⟩
     ·rw[Ky]at h2
      have nx:(under ls u0)[i]∉R':=by simpa using h2
      have lv4:=e2.put nx
      have t2:=e4.new nx (Sx.mp (List.getElem_mem hi))
      have few2:=R9 t2.nd t2.re
      rw[List.length_append,List.length_singleton]at few2
      have wl2:W2.length<=R'.length:=e4.wn.length_le_of_subset e4.wr
      refine⟨_,rfl,_,rfl,r,_,rfl,.inl ⟨_,_,e2.hr,rfl,by rw[List.length_map];exact Bj (by omega),rfl⟩,_,rfl,tyL lv4.hw,_,rfl,wl,_,_,rfl,rfl,lv4.hw,by rw[List.length_map];exact Bj (by omega),R'++[(under ls u0)[i]],W2++[(under ls u0)[i]],_,rfl,lv4.app _,?_,by rw[tk];exact t2,?_⟩
      ·rw[Ac n2,Ac n1]
       exact e3
      ·rw[List.length_append,List.length_append,List.length_singleton]
       omega
     ·rw[Ky]at h2
      have nx:(under ls u0)[i]∈R':=by simpa using h2
      exact⟨R',W2,_,rfl,e2,e3,by rw[tk];exact e4.old nx,e5⟩)
    (fun σ H4 ⟨R',W2,v,e1,e2,e3,e4,e5⟩=>by
     rw[List.take_length]at e4
     exact⟨R',W2,_,v,e1,e2,e4.end_,e5⟩)
  ·have h1:=of_decide_eq_false h1
   have:W=[]:=by
    cases W with
    | nil=>rfl
    | cons x t=>exact absurd (by simp) h1
   subst this
   refine⟨_,rfl,_,rfl,r,_,rfl,DW.k (k:=Sum.inl _) lv.hr,?_⟩
   rw[Ky]
   have:=q H1 lv.ext
   rw[show Vbnlag.leads ls a g=decide (g∈R) by
    have:=di.done g
    cases h:Vbnlag.leads ls a g with
    | true=>exact(decide_eq_true (this.mpr h)).symm
    | false=>exact(decide_eq_false (fun z=>by rw[this.mp z]at h;cases h)).symm]at this
   exact this
end
end Nm
namespace Nm
open PySem PySem.Spec PyProof.Rows L2
section
variable {P:Program}{w:World}{K:PySem.W.Frag}{mg:Str->Option Value}{base:Heap}{C:Cl}
theorem Ai7 {H0 H:Hp}{d:Addr}{f g:Int->List Int}{E:List (Int×Addr)}{t:TA}{σ:L2.St}{k x:Int}{Q:VK}(h:Dl H d f E)(ex:Ext C H0 H)(nd:H0 d=none)(own:∀p∈E,H0 p.2=none)(len:E.length<=1000)(lf:(f k).length<=1000)
  (hx:∀H2 R,Ext C H0 H2->R [V.int x] H2->t σ H2 R) (hg:∀j,g j=if j=k then f j++[x] else f j)
  (fin:∀H' E',Dl H' d g E'->Ext C H0 H'->(∀p∈E',H0 p.2=none)->E'.length<=E.length + 1->(∀b o,H b=some o->b≠d->b∉E.map (·.2)->H' b=some o∧b∉E'.map (·.2))->Q .non H') (p:Addr) (hp:H p=none) :
  ∃kvs k',V.int k=kV k'∧upd H p (.lst []) d=some (.dK kvs)∧kvs.length < sizeLine∧(∀v,BL kvs k'=some v->tyV K "list" v (upd H p (.lst []))∧t σ (upd H p (.lst [])) fun vs H2=>Ue v vs H2 Q) ∧
   (BL kvs k'=none->tyV K "list" (.ref p) (upd (upd H p (.lst [])) d (.dK (putK kvs k' (.ref p))))∧t σ (upd (upd H p (.lst [])) d (.dK (putK kvs k' (.ref p)))) fun vs H2=>Ue (.ref p) vs H2 Q):=by
 have dp:d≠p:=fun z=>by rw[← z,h.at_]at hp;cases hp
 have e1:Ext C H0 (upd H p (.lst [])):=ex.lay hp _
 have h1:Dl (upd H p (.lst [])) d f E:=h.ext (Ext.new C hp _)
 refine⟨_,Sum.inl k,rfl,h1.at_,by rw[List.length_map];exact Bj (by omega),fun v hv=>?_,fun hv=>?_⟩
 ·rcases h1.get k with⟨q,hq,eq,ev,hl⟩ | ⟨ev,_⟩
  ·rw[ev]at hv
   cases hv
   refine⟨tyL hl,hx _ _ e1 ⟨q.2,_,V.int x,rfl,rfl,hl,by rw[List.length_map];exact Bj (by omega),?_⟩⟩
   subst eq
   have e2:Ext C H0 (upd (upd H p (.lst [])) q.2 (.lst ((f q.1).map V.int++[V.int x]))):=e1.Hj (own q hq) hl _
   refine fin _ E (h1.more hq x hg) e2 own (Nat.le_succ _) fun b o hb n1 n2=>⟨?_,n2⟩
   rw[Ac (fun z=>n2 (by rw[z];exact List.mem_map.mpr ⟨q,hq,rfl⟩)),Ac (fun z=>by rw[z,hp]at hb;cases hb)]
   exact hb
  ·rw[ev]at hv;cases hv
 ·have hk:k∉E.map (·.1):=by
   rcases h1.get k with⟨q,hq,eq,ev,hl⟩ | ⟨_,_,n⟩
   ·rw[ev]at hv;cases hv
   ·exact n
  have h2:=h.add hk hp
  have e2:Ext C H0 (upd (upd H p (.lst [])) d (.dK (putK (E.map fun p=>((Sum.inl p.1:Key),V.ref p.2)) (Sum.inl k) (.ref p)))):=e1.Zh nd h1.at_ _
  have mem:(k,p)∈E++[(k,p)]:=by simp
  have hl:=h2.ls (k,p) mem
  have np:H0 p=none:=ex.free hp
  refine⟨tyL hl,hx _ _ e2 ⟨p,_,V.int x,rfl,rfl,hl,by rw[List.length_map];exact Bj (by show(f k).length<=_;omega),?_⟩⟩
  have e3:=e2.Hj np hl (.lst ((f k).map V.int++[V.int x]))
  refine fin _ (E++[(k,p)]) (h2.more mem x hg) e3 (fun q hq=>?_) (by simp) fun b o hb n1 n2=>?_
  ·rcases List.mem_append.mp hq with hq | hq
   ·exact own q hq
   ·simp at hq
    subst hq
    exact np
  ·have bp:b≠p:=fun z=>by rw[z,hp]at hb;cases hb
   refine⟨by rw[Ac bp,Ac n1,Ac bp];exact hb,?_⟩
   rw[List.map_append]
   intro m
   rcases List.mem_append.mp m with m | m
   ·exact n2 m
   ·simp at m
    exact bp m
theorem YZ (ls:List (Int×Int))(a b j:Int):under (ls++[(a,b)]) j=if j=a then under ls j++[b] else under ls j:=by
 unfold under
 rw[List.filter_append,List.map_append]
 by_cases h:j=a
 ·simp[h]
 ·simp[h,Ne.symm h]
theorem Af2 (ls:List (Int×Int))(a b j:Int):over (ls++[(a,b)]) j=if j=b then over ls j++[a] else over ls j:=by
 unfold over
 rw[List.filter_append,List.map_append]
 by_cases h:j=b
 ·simp[h]
 ·simp[h,Ne.symm h]
theorem Y0 (ls:List (Int×Int))(j:Int):(under ls j).length<=ls.length:=by unfold under;rw[List.length_map];exact List.length_filter_le _ _
theorem Vs (ls:List (Int×Int))(j:Int):(over ls j).length<=ls.length:=by unfold over;rw[List.length_map];exact List.length_filter_le _ _
def TJ (K:PySem.W.Frag)(C:Cl):Sp:=fun vs H Q _=>∃l,∃items:List (Addr×Vbnlag.Act),vs=[.ref l]∧SqL K H l (items.map fun p=>V.ref p.1)∧(∀p∈items,BR C H p.1 p.2)∧items.length<=100 ∧
 ∀H' l',∀out:List (Addr×Vbnlag.Act),Ext C H H'->H l'=none->H' l'=some (.lst (out.map fun p=>V.ref p.1))->out.Sublist items->out.map (·.2)=Vbnlag.locks [] (items.map (·.2))->Q (.ref l') H'
theorem Pk:Aj ["asked", "locked", "lower_names", "act"] ["asked"] (Ag (top 60)):=⟨rfl,rfl,rfl,by decide +kernel,rfl,by decide +kernel,by decide +kernel⟩
theorem Am1 {f:Addr}{fd:FuncData}(F:Fun K "lock" "lock" (top 60) f fd)(T:Txt K mg C)(G_leads:Ok P w K mg base "leads" 1 ["lower_names", "start", "goal"] (TQ C)):Ay P w K mg base CX0 2 f fd ["asked"] (TJ K C):=by
 refine F.ok Pk (fun vs H Q E h=>?_) (fun cdv A outer s H vs Q E hr h=>?_)
 ·obtain⟨_,_,rfl,_⟩:=h
  rfl
 ·obtain⟨l,items,rfl,hl,hac,hn,q⟩:=h
  refine⟨_,(Ad (Am (i:=1) Pk.nd rfl (Or.inl rfl) (Ax Ae))
   (Ad (Am (i:=2) Pk.nd rfl (Or.inl rfl) Im)
   (Ad (Fz PassesOwn.never rfl (Bw (pv 0)) (Bk (i:=3) Pk.nd rfl (Or.inl rfl)) (Af (Bl (Df (BW (Al G_leads (hr.mono (by decide)) (Aa (pv 2) (Aa (pF T.cl (pv 3)) (Aa (pF T.cl (pv 3)) Ae)))))) (Ad (Ca (Dj PySem.F.plainAttrs_list PySem.F.slot_list_append PySem.F.type_list_append Cv (pv 1) (Aa (pv 3) Ae)))
   (Af (Ca (Dj PySem.F.plainAttrs_list PySem.F.slot_list_append PySem.F.type_list_append Cv (Vp (pv 2) (pF T.cl (pv 3)) (Ax Ae) ⟨rfl,rfl,rfl,rfl⟩) (Aa (pF T.cl (pv 3)) Ae))))) Aq)))
   (Af (Ai (pv 1)))))),?_⟩
  refine⟨by show 0<=sizeLine;decide,fun lo hlo d hd=>⟨_,rfl,l,rfl,⟨_,((Ext.new C hlo _).lay hd _).Dn hl⟩,?_⟩⟩
  have d0:H d=none:=CP hd
  have ld:lo≠d:=fun z=>by rw[← z,Ab]at hd;cases hd
  have e0:Ext C H (upd (upd H lo (.lst [])) d (.dK [])):=(Ext.new C hlo _).lay hd _
  have hlo0:upd (upd H lo (.lst [])) d (.dK []) lo=some (.lst []):=by rw[Ac ld,Ab]
  have dl0:Dl (upd (upd H lo (.lst [])) d (.dK [])) d (under (Vbnlag.pairs [])) []:=Dl.start
  generalize upd (upd H lo (.lst [])) d (.dK [])=Hs at e0 hlo0 dl0 ⊢
  refine Dy (J:=Itl K l) (n:=items.length) (fun i σ H1=>∃v E,∃out:List (Addr×Vbnlag.Act),σ=[some (.ref l),some (.ref lo),some (.ref d),v]∧Ext C H H1∧H1 lo=some (.lst (out.map fun p=>V.ref p.1))∧Dl H1 d (under (Vbnlag.pairs (out.map (·.2)))) E∧(∀p∈E,H p.2=none)∧lo∉E.map (·.2)∧E.length<=i∧out.Sublist (items.take i)∧out.map (·.2)=Vbnlag.locks [] ((items.take i).map (·.2)))
   ⟨none,[],[],rfl,e0,hlo0,dl0,by simp,by simp,Nat.le_refl _,List.nil_sublist _,rfl⟩
   (fun i σ H1 hi ⟨v,E,out,e1,e2,e3,e4,e5,e6,e7,e8,e9⟩=>⟨_,V.ref items[i].1,e2.Dn hl,by rw[List.getElem?_map,List.getElem?_eq_getElem hi];rfl⟩)
   (fun σ H1 ⟨v,E,out,e1,e2,e3,e4,e5,e6,e7,e8,e9⟩=>⟨_,e2.Dn hl,by rw[List.length_map];exact Nat.le_refl _⟩)
   (fun i x σ H1 H2 hi ⟨v,E,out,e1,e2,e3,e4,e5,e6,e7,e8,e9⟩ ⟨y1,y2⟩=>?_)
   (fun σ H1 ⟨v,E,out,e1,e2,e3,e4,e5,e6,e7,e8,e9⟩=>?_)
  ·subst y1 e1
   have y3:=y2 _ (e2.Dn hl)
   rw[List.getElem?_map,List.getElem?_eq_getElem hi]at y3
   cases y3
   have tk:items.take (i + 1)=items.take i++[items[i]]:=by rw[List.take_succ,List.getElem?_eq_getElem hi];rfl
   have ha:=(hac _ (List.getElem_mem hi)).ext e2
   have ol:out.length<=i:=by
    have:=e8.length_le
    rw[List.length_take]at this
    omega
   refine⟨_,rfl,_,rfl,_,_,rfl,ha.b_ T.cl,_,rfl,_,_,rfl,ha.a_ T.cl,d,_,E,_,_,rfl,e4,by rw[pairs_len,List.length_map];omega,fun H3 e10=>⟨_,rfl,Bc (fun h1=>?_) (fun h1=>?_)⟩⟩
   ·have h1:Vbnlag.leads (Vbnlag.pairs (out.map (·.2))) items[i].2.b items[i].2.a=false:=by simpa using h1
    have e11:=e2.trans e10
    refine⟨_,rfl,tyL (e10.lst e3),_,rfl,lo,_,_,rfl,rfl,e10.lst e3,by rw[List.length_map];exact Bj (by omega),?_⟩
    have e12:Ext C H (upd H3 lo (.lst (out.map (fun p=>V.ref p.1)++[V.ref items[i].1]))):=e11.Hj hlo (e10.lst e3) _
    have dl3:=e4.ext e10
    have dl4:Dl (upd H3 lo (.lst (out.map (fun p=>V.ref p.1)++[V.ref items[i].1]))) d (under (Vbnlag.pairs (out.map (·.2)))) E:=⟨by rw[Ac ld.symm];exact dl3.at_,dl3.nd,dl3.na,fun p hp=>by rw[Ac (fun z=>e6 (by rw[← z];exact List.mem_map.mpr ⟨p,hp,rfl⟩))];exact dl3.ls p hp,dl3.no⟩
    have hlo4:upd H3 lo (.lst (out.map (fun p=>V.ref p.1)++[V.ref items[i].1])) lo=some (.lst ((out++[items[i]]).map fun p=>V.ref p.1)):=by rw[Ab,List.map_append];rfl
    generalize upd H3 lo (.lst (out.map (fun p=>V.ref p.1)++[V.ref items[i].1]))=H4 at e12 dl4 hlo4 ⊢
    have ha4:=(hac _ (List.getElem_mem hi)).ext e12
    refine⟨_,rfl,d,rfl,.inl ⟨_,.inl dl4.at_⟩,_,rfl,_,_,rfl,ha4.a_ T.cl,by show 0<=sizeLine;decide,?_⟩
    refine Ai7 (x:=items[i].2.b) (g:=under (Vbnlag.pairs ((out++[items[i]]).map (·.2)))) dl4 e12 d0 e5 (by omega) (Nat.le_trans (Y0 _ _) (by rw[pairs_len,List.length_map];omega)) (fun H5 R e13 r=>⟨_,rfl,_,_,rfl,((hac _ (List.getElem_mem hi)).ext e13).b_ T.cl,r⟩) (fun j=>?_) (fun H5 E5 dl5 e13 own5 Ag9 oth=>?_)
    ·rw[List.map_append,Ez]
     exact YZ _ _ _ _
    ·obtain⟨o1,o2⟩:=oth lo _ hlo4 ld e6
     refine⟨_,E5,out++[items[i]],rfl,e13,o1,dl5,own5,o2,by omega,by rw[tk];exact e8.append (List.Sublist.refl _),?_⟩
     rw[tk,List.map_append,List.map_append,List.map_singleton,FW,← e9,if_neg (by rw[h1];exact Bool.false_ne_true)]
   ·have h1:Vbnlag.leads (Vbnlag.pairs (out.map (·.2))) items[i].2.b items[i].2.a=true:=by simpa using h1
    refine⟨_,E,out,rfl,e2.trans e10,e10.lst e3,e4.ext e10,e5,e6,by omega,by rw[tk];exact e8.trans (List.sublist_append_left _ _),?_⟩
    rw[tk,List.map_append,List.map_singleton,FW,← e9,if_pos h1]
  ·subst e1
   rw[List.take_length]at e8 e9
   exact⟨_,rfl,q H1 lo out e2 hlo e3 e8 e9⟩
end
end Nm
namespace Nm
open PySem PySem.Spec PyProof.Rows L2
section
variable {P:Program}{w:World}{K:PySem.W.Frag}{mg:Str->Option Value}{base:Heap}{C:Cl}
theorem GZ {s:VS}(W:WF s)(d:Int):(Vbnlag.counting s d).length<=60:=by
 rw[(Dc d).length_eq]
 exact Nat.le_trans (List.length_filter_le _ _) W.la
def HX (C:Cl):Sp:=fun vs H Q _=>∃k s R d,vs=[.ref k,.int d]∧Kp C H k s R∧∀H' l,∀out:List (Addr×Vbnlag.Act),Ext C H H'->H l=none->H' l=some (.lst (out.map fun p=>V.ref p.1))->(∀p∈out,p∈R.as)->out.map (·.2)=Vbnlag.locked s d->Q (.ref l) H'
theorem Qi:Aj ["kept", "d"] ["kept", "d"] (Ag (top 61)):=⟨rfl,rfl,rfl,by decide +kernel,rfl,by decide +kernel,by decide +kernel⟩
theorem QG {f:Addr}{fd:FuncData}(F:Fun K "locked_acts" "locked_acts" (top 61) f fd)(T:Txt K mg C)(G_lock:Ok P w K mg base "lock" 2 ["asked"] (TJ K C))(G_asked_acts:Ok P w K mg base "asked_acts" 7 ["kept", "d"] (Ph C)):Ay P w K mg base CX0 8 f fd ["kept", "d"] (HX C):=by
 refine F.ok Qi (fun vs H Q E h=>?_) (fun cdv A outer s H vs Q E hr h=>?_)
 ·obtain⟨_,_,_,_,rfl,_⟩:=h
  rfl
 ·obtain⟨k,st,R,d,rfl,hk,q⟩:=h
  refine⟨_,(Af (Ai (Al G_lock (hr.mono (by decide)) (Aa (Al G_asked_acts (hr.mono (by decide)) (Aa (pv 0) (Aa (pv 1) Ae))) Ae)))),?_⟩
  refine⟨_,rfl,_,rfl,k,st,R,d,rfl,hk,fun H1 l items e1 n1 hl hm ei=>⟨l,items,rfl,.of hl,fun p hp=>(hk.ext e1).aa p (hm p hp),?_,fun H2 l2 out e2 n2 hl2 su eo=>?_⟩⟩
  ·have:=congrArg List.length ei
   rw[List.length_map]at this
   have:=GZ hk.wf d
   omega
  ·exact q H2 l2 out (e1.trans e2) (e1.free n2) hl2 (fun p hp=>hm p (su.subset hp)) (by rw[eo,ei];rfl)
def WR (C:Cl):Sp:=fun vs H Q _=>∃k s R d,vs=[.ref k,.int d]∧Kp C H k s R∧∀H' l,∀W:List Vbnlag.Name,Ext C H H'->H l=none->H' l=some (.lst (W.map fun n=>V.int n.key))->W.Perm (Vbnlag.standing s d)->(W.Pairwise fun x y=>Vbnlag.less (Vbnlag.moment s y) (Vbnlag.moment s x)=false)->Q (.ref l) H'
theorem Cj:Aj ["kept", "d", "standing", "key"] ["kept", "d"] (Ag (top 63)):=⟨rfl,rfl,rfl,by decide +kernel,rfl,by decide +kernel,by decide +kernel⟩
theorem J8 {f:Addr}{fd:FuncData}(F:Fun K "standing_by_age" "standing_by_age" (top 63) f fd)(T:Txt K mg C)(ap:C.Apart)(B:Aa4 mg base C.ts)(hc:fd.code= .ref C.s1)(G_stands:Ok P w K mg base "stands" 5 ["kept", "key", "d"] (GD C))
  (G_moment:Ok P w K mg base "moment" 2 ["kept", "name"] (KJ C)):Ay P w K mg base CX0 6 f fd ["kept", "d"] (WR C):=by
 refine F.okC Cj (fun vs H Q E h=>?_) (fun cdv A outer s H vs Q E hcd hr h=>?_)
 ·obtain⟨_,_,_,_,rfl,_⟩:=h
  rfl
 ·obtain⟨k,st,R,d,rfl,hk,q⟩:=h
  refine⟨_,(Ad (Ld (Es (i:=2) rfl Cj.nd rfl rfl rfl (Ym (pF T.cl (pv 0))) (BJ (own:=[("key",3)]) (by kernel_rfl)) (fun _ _ _ _ _=>(Bk (i:=3) Cj.nd rfl (Or.inl rfl))) (fun _ _ _ _ _=>(Ji (BW (Al G_stands (hr.mono (by decide)) (Aa (pv 0) (Aa (pv 3) (Aa (pv 1) Ae))))))) (fun _ _ _ _ _=>(pv 3))))
   (Af (Ai (Vn (C:=C) (t:=C.ts) (clos:=[("kept",s.heap.objs.size + 1)]) (y:= "key") (i:=3) (k:=2) rfl (hr.mono (by decide)) ?L (pv 2) (fun _ _ _ _ _=>Al G_moment ((hr.in1.in1.deeper _).mono (by decide)) (Aa (pv 0) (Aa (Br (hu1 (hr.in1.in1.deeper _)) (pF T.cl (pv 0)) (pv 3) (fun _ _=>rfl)) Ae))) T.sorted)))),?_⟩
  case L =>
   refine⟨B,ap.sep (by simp[Cl.tabs]),hcd.symm.trans hc,rfl,rfl,rfl,fun _ _ _ _ _=>rfl,⟨rfl,rfl,rfl,rfl,rfl,Cj.nd,by decide +kernel,(by decide +kernel:∀z∈(["kept", "d", "standing", "key"]:List Str),z≠ "key" ->_),fun z hz=>?_,fun z c h=>?_⟩⟩
   ·have m:=PySem.mem_of_lookup hz
    simp only[List.mem_cons,Prod.mk.injEq,List.not_mem_nil,or_false]at m
    rcases m with⟨rfl,h⟩ | ⟨rfl,h⟩ | ⟨rfl,h⟩ <;>first | (cases h;done) | exact⟨⟨_,rfl⟩,.inl rfl⟩
   ·have m:=PySem.mem_of_lookup h
    simp only[List.mem_cons,Prod.mk.injEq,List.not_mem_nil,or_false]at m
    obtain⟨rfl,rfl⟩:=m
    rfl
  obtain⟨o,ho,hu⟩:=Rd.split hk.nk
  refine⟨R.n,.dK (dN R.ns),o,ho,hu,trivial,fun od=>?_⟩
  have hk1:=hk.lock od hk.nk (.inl ⟨_,rfl⟩)
  refine⟨_,rfl,_,_,rfl,hk1.names T.cl,R.n,od,rfl,.inl ⟨dN R.ns,Ab,fun D hD=>?_⟩⟩
  refine Ah1 (C:=C) R.ns (fun p=>p.2.key) (fun p=>Vbnlag.stands st d p.2.key) (fun p=>V.int p.2.key) Ab (An6 _) hD (by rw[hk.Ag8];exact Nat.le_trans hk.wf.ln (by decide)) (fun p hp H' N e hT hF=>?_) (fun H' e hl=>?_)
  ·exact⟨rfl,_,rfl,_,rfl,_,rfl,k,st,R,p.2.key,d,rfl,hk1.ext e,fun H3 e3=>⟨_,rfl,Bc (fun h=>⟨_,rfl,hT h H3 e3⟩) (fun h=>hF h H3 e3)⟩⟩
  ·have e2:Ext C H (upd H' R.n o):=Ext.unlock ho hu (.inl ⟨_,rfl⟩) e (e.frz Ab)
   have hl2:upd H' R.n o D=some (.lst (((R.ns.filter fun p=>Vbnlag.stands st d p.2.key).map (·.2)).map fun n=>V.int n.key)):=by
    rw[Ac (by rintro rfl;rw[e.frz Ab]at hl;cases hl),List.map_map]
    exact hl
   have hk3:=hk.ext e2
   have Xm:∀n∈(R.ns.filter fun p=>Vbnlag.stands st d p.2.key).map (·.2),n∈st.names:=fun n hn=>by
    obtain⟨p,hp,rfl⟩:=List.mem_map.mp hn
    exact hk.Xm (List.mem_filter.mp hp).1
   refine⟨e.frz Ab,_,rfl,_,(R.ns.filter fun p=>Vbnlag.stands st d p.2.key).map (·.2),(fun n=>V.int n.key),fun n=>Vbnlag.moment st n,D,rfl,hk3.tb _ (by simp[Cl.tabs]),.of hl2,fun p hp=>⟨_,_,rfl⟩,fun n hn H2 e3=>?_,fun D2 H2 out e3 n2 pm pw=>?_⟩
   ·have hk4:=hk3.ext e3
    obtain⟨a,ha,hga⟩:=hk4.Ut (Xm n hn)
    exact⟨_,rfl,_,rfl,_,_,rfl,hk4.names T.cl,_,rfl,R.n,_,rfl,hga,k,st,R,a,n,rfl,hk4,ha,Xm n hn,fun t ht=>⟨t,rfl,Ab,Ext.new _ ht _⟩⟩
   ·refine q _ D2 out ((e2.trans e3).lay n2 _) ((e2.trans e3).free n2) Ab (pm.trans ?_) pw
    have:=hk.np.filter fun n=>Vbnlag.stands st d n.key
    rw[List.filter_map]at this
    exact this
def T6 (K:PySem.W.Frag)(C:Cl):Sp:=fun vs H Q _=>∃l,∃items:List (Addr×Vbnlag.Act),vs=[.ref l]∧SqL K H l (items.map fun p=>V.ref p.1)∧(∀p∈items,BR C H p.1 p.2)∧items.length<=100 ∧
 ∀H' d E,Ext C H H'->Dl H' d (over (Vbnlag.pairs (items.map (·.2)))) E->Q (.ref d) H'
theorem Ft:Aj ["locked", "above", "act"] ["locked"] (Ag (top 64)):=⟨rfl,rfl,rfl,by decide +kernel,rfl,by decide +kernel,by decide +kernel⟩
theorem QD {f:Addr}{fd:FuncData}(F:Fun K "names_above" "names_above" (top 64) f fd)(T:Txt K mg C):Ay P w K mg base CX0 1 f fd ["locked"] (T6 K C):=by
 refine F.ok Ft (fun vs H Q E h=>?_) (fun cdv A outer s H vs Q E hr h=>?_)
 ·obtain⟨_,_,rfl,_⟩:=h
  rfl
 ·obtain⟨l,items,rfl,hl,hac,hn,q⟩:=h
  refine⟨_,(Ad (Am (i:=1) Ft.nd rfl (Or.inl rfl) Im)
   (Ad (Fz PassesOwn.never rfl (Bw (pv 0)) (Bk (i:=2) Ft.nd rfl (Or.inl rfl)) (Af (Ca (Dj PySem.F.plainAttrs_list PySem.F.slot_list_append PySem.F.type_list_append Cv (Vp (pv 1) (pF T.cl (pv 2)) (Ax Ae) ⟨rfl,rfl,rfl,rfl⟩) (Aa (pF T.cl (pv 2)) Ae)))))
   (Af (Ai (pv 1))))),?_⟩
  refine fun d hd=>⟨_,rfl,l,rfl,⟨_,(Ext.new C hd _).Dn hl⟩,?_⟩
  refine Dy (J:=Itl K l) (n:=items.length) (fun i σ H1=>∃v E,σ=[some (.ref l),some (.ref d),v]∧Ext C H H1∧Dl H1 d (over (Vbnlag.pairs ((items.take i).map (·.2)))) E∧(∀p∈E,H p.2=none)∧E.length<=i)
   ⟨none,[],rfl,Ext.new C hd _,Dl.start,by simp,Nat.le_refl _⟩
   (fun i σ H1 hi ⟨v,E,e1,e2,e4,e5,e7⟩=>⟨_,V.ref items[i].1,e2.Dn hl,by rw[List.getElem?_map,List.getElem?_eq_getElem hi];rfl⟩)
   (fun σ H1 ⟨v,E,e1,e2,e4,e5,e7⟩=>⟨_,e2.Dn hl,by rw[List.length_map];exact Nat.le_refl _⟩)
   (fun i x σ H1 H2 hi ⟨v,E,e1,e2,e4,e5,e7⟩ ⟨y1,y2⟩=>?_)
   (fun σ H1 ⟨v,E,e1,e2,e4,e5,e7⟩=>?_)
  ·subst y1 e1
   have y3:=y2 _ (e2.Dn hl)
   rw[List.getElem?_map,List.getElem?_eq_getElem hi]at y3
   cases y3
   have tk:items.take (i + 1)=items.take i++[items[i]]:=by rw[List.take_succ,List.getElem?_eq_getElem hi];rfl
   have ha:=(hac _ (List.getElem_mem hi)).ext e2
   refine⟨_,rfl,d,rfl,.inl ⟨_,.inl e4.at_⟩,_,rfl,_,_,rfl,ha.b_ T.cl,by show 0<=sizeLine;decide,?_⟩
   refine Ai7 (x:=items[i].2.a) (g:=over (Vbnlag.pairs ((items.take (i + 1)).map (·.2)))) e4 e2 hd e5 (by omega) (Nat.le_trans (Vs _ _) (by rw[pairs_len,List.length_map,List.length_take];omega)) (fun H5 R e13 r=>⟨_,rfl,_,_,rfl,((hac _ (List.getElem_mem hi)).ext e13).a_ T.cl,r⟩) (fun j=>?_) (fun H5 E5 dl5 e13 own5 Ag9 oth=>?_)
   ·rw[tk,List.map_append,Ez]
    exact Af2 _ _ _ _
   ·exact⟨_,E5,rfl,e13,dl5,own5,by omega⟩
  ·subst e1
   rw[List.take_length]at e4
   exact⟨_,rfl,q H1 d E e2 e4⟩
def WM (K:PySem.W.Frag)(C:Cl):Sp:=fun vs H Q _=>∃k wl d ls E,∃W:List Int,vs=[.int k,.ref wl,.ref d]∧Dl H d (over ls) E∧SqL K H wl (W.map V.int)∧ls.length<=1000∧∀H',Ext C H H'->Q (.bl ((over ls k).any fun u=>W.contains u)) H'
theorem Eu:Aj ["key", "waiting", "above", "upper"] ["key", "waiting", "above"] (Ag (top 65)):=⟨rfl,rfl,rfl,by decide +kernel,rfl,by decide +kernel,by decide +kernel⟩
theorem Rc (x:Int)(W:List Int):inV (.int x) (W.map V.int)=W.contains x:=by
 unfold inV
 rw[List.any_map]
 induction W with
 | nil=>rfl
 | cons y r ih =>
  rw[List.any_cons,List.contains_cons,ih]
  congr 1
  show(y==x)=(x==y)
  exact Bool.beq_comm
theorem Fi (W:List Int):(W.map V.int).all GX=true:=by
 rw[List.all_map]
 exact List.all_eq_true.mpr fun x _=>rfl
theorem Ov {f:Addr}{fd:FuncData}(F:Fun K "is_held_back" "is_held_back" (top 65) f fd)(T:Txt K mg C):Ay P w K mg base CX0 1 f fd ["key", "waiting", "above"] (WM K C):=by
 refine F.ok Eu (fun vs H Q E h=>?_) (fun cdv A outer s H vs Q E hr h=>?_)
 ·obtain⟨_,_,_,_,_,_,rfl,_⟩:=h
  rfl
 ·obtain⟨k,wl,d,ls,E',W,rfl,hd,hw,hn,q⟩:=h
  refine⟨_,(Af (Ai (Bd (Ax6 rfl) (by rfl) T.any boot_any (Aa (Qv rfl Eu.nd (Bw (Vq (hu1 hr) (pv 2) (pv 0) (Ax Ae) ⟨rfl,rfl,rfl,rfl⟩)) (BJ (own:=[("upper",3)]) (by kernel_rfl)) (fun _ _ _ _ _=>(Bk (i:=3) Eu.nd rfl (Or.inl rfl))) (fun _ _ _ _ _=>Ey) (fun _ _ _ _ _=>(Gk (MK T.cl) (pv 3) (pv 1) (by with_unfolding_all rfl)))) Ae)))),?_⟩
  refine⟨_,rfl,d,rfl,.inl ⟨_,.inl hd.at_⟩,_,rfl,by show 0<=sizeLine;decide,fun p hp=>⟨_,DW.k (k:=Sum.inl _) (by rw[Ac (fun z=>by rw[← z,hd.at_]at hp;cases hp)];exact hd.at_),?_⟩⟩
  have e1:=Ext.new C hp (.lst [])
  obtain⟨l,el,hl⟩:∃l,(BL (E'.map fun p=>((Sum.inl p.1:Key),V.ref p.2)) (Sum.inl k)).getD (.ref p)= .ref l∧upd H p (.lst []) l=some (.lst ((over ls k).map V.int)):=by
   rcases hd.get k with⟨pp,hpp,epp,ev,hv⟩ | ⟨ev,ef,_⟩
   ·exact⟨pp.2,by rw[ev];rfl,e1.lst hv⟩
   ·exact⟨p,by rw[ev];rfl,by rw[Ab,ef];rfl⟩
  rw[el]
  refine⟨l,rfl,⟨_,.of hl⟩,fun D hD=>?_⟩
  refine EY (C:=C) (over ls k) V.int (fun _=>true) (fun u=>V.bl (W.contains u)) (.of hl) hD (Nat.le_trans (Vs _ _) (by omega)) (fun u hu H' N e hT hF=>?_) (fun H' e hl'=>?_)
  ·refine⟨rfl,Tp ⟨_,rfl,_,rfl,wl,_,rfl,.inl ((e1.trans e).Dn hw),rfl,Fi W,?_⟩⟩
   rw[if_neg Bool.false_ne_true,Rc]
   exact hT rfl _ (Ext.refl _ _)
  ·rw[filter_all]at hl'
   refine⟨D,(over ls k).map fun u=>W.contains u,rfl,.of (by rw[hl',List.map_map];rfl),?_⟩
   have:=q H' (e1.trans e)
   rw[List.any_map]
   exact this
end
end Nm
namespace Nm
open PySem PySem.Spec PyProof.Rows L2
section
variable {P:Program}{w:World}{K:PySem.W.Frag}{mg:Str->Option Value}{base:Heap}{C:Cl}
theorem Jr {α:Type}{xs:List α}{j:Nat}{x:α}(h:xs[j]?=some x):atI xs (j:Int)=some x:=by
 have hj:j < xs.length:=(List.getElem?_eq_some_iff.mp h).1
 unfold atI ixN
 rw[if_pos (by omega),if_pos (by omega)]
 exact h
theorem Ai4 {α β:Type}(f:α->β):∀(l:List α)(j:Nat),(l.map f).eraseIdx j=(l.eraseIdx j).map f
 | [],_=>rfl
 | _::_,0=>rfl
 | x::r,j + 1=>by simp only[List.map_cons,List.eraseIdx_cons_succ,Ai4 f r j]
theorem Zi {j n:Nat}(h:j < n):seqIndex? (j:Int) n=some j:=by
 unfold seqIndex?
 simp only[show ¬((j:Int) < 0) by omega,if_false]
 rw[if_pos (by simp;omega)]
 rfl
def KH (C:Cl):Sp:=fun vs H Q _=>∃k s R d,vs=[.ref k,.int d]∧Kp C H k s R∧∀H' l,Ext C H H'->H l=none->H' l=some (.lst ((Vbnlag.order s d).map V.int))->Q (.ref l) H'
theorem Cr:Aj ["kept", "d", "above", "waiting", "placed", "place"] ["kept", "d"] (Ag (top 66)):=⟨rfl,rfl,rfl,by decide +kernel,rfl,by decide +kernel,by decide +kernel⟩
theorem RD {f:Addr}{fd:FuncData}(F:Fun K "precedence" "precedence" (top 66) f fd)(T:Txt K mg C)(G_names_above:Ok P w K mg base "names_above" 1 ["locked"] (T6 K C))(G_locked_acts:Ok P w K mg base "locked_acts" 8 ["kept", "d"] (HX C))
  (G_standing_by_age:Ok P w K mg base "standing_by_age" 6 ["kept", "d"] (WR C)) (G_is_held_back:Ok P w K mg base "is_held_back" 1 ["key", "waiting", "above"] (WM K C)):Ay P w K mg base CX0 9 f fd ["kept", "d"] (KH C):=by
 refine F.ok Cr (fun vs H Q E h=>?_) (fun cdv A outer s H vs Q E hr h=>?_)
 ·obtain⟨_,_,_,_,rfl,_⟩:=h
  rfl
 ·obtain⟨k,st,R,d,rfl,hk,q⟩:=h
  refine⟨_,(Ad (Am (i:=2) Cr.nd rfl (Or.inl rfl) (Al G_names_above (hr.mono (by decide)) (Aa (Al G_locked_acts (hr.mono (by decide)) (Aa (pv 0) (Aa (pv 1) Ae))) Ae)))
   (Ad (Am (i:=3) Cr.nd rfl (Or.inl rfl) (Al G_standing_by_age (hr.mono (by decide)) (Aa (pv 0) (Aa (pv 1) Ae))))
   (Ad (Am (i:=4) Cr.nd rfl (Or.inl rfl) (Ax Ae))
   (Ad (GJ PassesOwn.never (Ar Lh (Bd Bo (by rfl) T.len PySem.boot_len (Aa (pv 3) Ae)) Ah (Ba _)) (Ad (Am (i:=5) Cr.nd rfl (Or.inl rfl) Ah)
   (Ad (GJ PassesOwn.never (BW (Al G_is_held_back (hr.mono (by decide)) (Aa (Aw Ak (pv 3) (pv 5) (fun _ _=>rfl)) (Aa (pv 3) (Aa (pv 2) Ae))))) (Af (Ae8 (i:=5) Cr.nd rfl (Or.inl rfl) Ah Ah7)))
   (Af (Ca (Dj PySem.F.plainAttrs_list PySem.F.slot_list_append PySem.F.type_list_append Cv (pv 4) (Aa (Dj PySem.F.plainAttrs_list PySem.F.slot_list_pop PySem.F.type_list_pop Ag3 (pv 3) (Aa (pv 5) Ae)) Ae)))))))
   (Af (Ai (pv 4))))))),?_⟩
  refine⟨_,rfl,_,rfl,k,st,R,d,rfl,hk,fun H1 l1 out e1 n1 hl1 hm eo=>⟨l1,out,rfl,.of hl1,fun p hp=>(hk.ext e1).aa p (hm p hp),?_,fun H2 dd E2 e2 dl=>?_⟩⟩
  ·have:=congrArg List.length eo
   rw[List.length_map]at this
   have h1:=GZ hk.wf d
   obtain⟨r,er,su⟩:=Cw (Vbnlag.counting st d) []
   have h2:(Vbnlag.locked st d).length<=(Vbnlag.counting st d).length:=by
    unfold Vbnlag.locked
    rw[er]
    simpa using su.length_le
   omega
  rw[eo]at dl
  have lsl:(Vbnlag.pairs (Vbnlag.locked st d)).length<=1000:=by
   rw[pairs_len]
   have h1:=GZ hk.wf d
   obtain⟨r,er,su⟩:=Cw (Vbnlag.counting st d) []
   have h2:(Vbnlag.locked st d).length<=(Vbnlag.counting st d).length:=by
    unfold Vbnlag.locked
    rw[er]
    simpa using su.length_le
   omega
  have hk2:=hk.ext (e1.trans e2)
  refine⟨_,rfl,_,rfl,k,st,R,d,rfl,hk2,fun H3 wl W e3 n3 hl3 pm pw=>⟨by show 0<=sizeLine;decide,fun pl hpl=>?_⟩⟩
  have oi:=RW.start hk.wf d pm pw
  have wlpl:wl≠pl:=fun z=>by rw[← z,hl3]at hpl;cases hpl
  have npl:H2 pl=none:=e3.free hpl
  have e4:Ext C H2 (upd H3 pl (.lst [])):=e3.lay hpl _
  have hw4:upd H3 pl (.lst []) wl=some (.lst (W.map fun n=>V.int n.key)):=by rw[Ac wlpl];exact hl3
  have hp4:upd H3 pl (.lst []) pl=some (.lst (([]:List Int).map V.int)):=Ab
  have len0:W.length<=40:=by
   rw[pm.length_eq]
   exact Nat.le_trans (List.length_filter_le _ _) hk.wf.ln
  generalize upd H3 pl (.lst [])=H4 at e4 hw4 hp4 ⊢
  refine⟨fun m σ H5=>∃placed,∃W:List Vbnlag.Name,∃v,σ=[some (.ref k),some (.int d),some (.ref dd),some (.ref wl),some (.ref pl),v]∧Ext C H2 H5∧H5 wl=some (.lst (W.map fun n=>V.int n.key))∧H5 pl=some (.lst (placed.map V.int))∧RW st (Vbnlag.pairs (Vbnlag.locked st d)) (Vbnlag.order st d) placed W∧placed.length + W.length<=40∧m=W.length,
   ⟨_,[],W,none,rfl,e4,hw4,hp4,oi,by simpa using len0,rfl⟩,?_⟩
  rintro m σ H5 ⟨placed,W,v,rfl,e5,hw5,hp5,oi,len,rfl⟩
  refine⟨_,rfl,wl,_,rfl,.inl (.of hw5),_,_,rfl,rfl,_,rfl,Bc (fun h1=>?_) (fun h1=>?_)⟩
  ·have h1:W≠[]:=fun z=>by rw[z]at h1;cases h1
   obtain⟨i0,n0,hi0,hf0⟩:=R7 (N6 d) h1
   refine⟨fun σ' H'=>∃placed,∃W2:List Vbnlag.Name,∃v,σ'=[some (.ref k),some (.int d),some (.ref dd),some (.ref wl),some (.ref pl),v]∧Ext C H2 H'∧H' wl=some (.lst (W2.map fun n=>V.int n.key))∧H' pl=some (.lst (placed.map V.int))∧RW st (Vbnlag.pairs (Vbnlag.locked st d)) (Vbnlag.order st d) placed W2∧placed.length + W2.length<=40∧W2.length < W.length,
    fun σ' H' ⟨placed,W2,v,a1,a2,a3,a4,a5,a6,a7⟩=>⟨_,a7,placed,W2,v,a1,a2,a3,a4,a5,a6,rfl⟩,?_⟩
   refine⟨fun m σ H6=>∃j:Nat,σ=[some (.ref k),some (.int d),some (.ref dd),some (.ref wl),some (.ref pl),some (.int j)]∧Ext C H5 H6∧(∀i,i < j->∀n,W[i]?=some n->held (Vbnlag.pairs (Vbnlag.locked st d)) W n=true)∧m=i0 + 1 - j,⟨_,0,rfl,Ext.refl _ _,fun i hi=>absurd hi (Nat.not_lt_zero _),rfl⟩,?_⟩
   rintro m σ H6 ⟨j,rfl,e6,hb,rfl⟩
   have hw6:=e6.lst hw5
   have hp6:=e6.lst hp5
   have ji:j<=i0:=Nat.le_of_not_lt fun z=>by rw[hb i0 z n0 hi0]at hf0;cases hf0
   have i0l:i0 < W.length:=(List.getElem?_eq_some_iff.mp hi0).1
   have jl:j < W.length:=Nat.lt_of_le_of_lt ji i0l
   have hj:W[j]?=some W[j]:=List.getElem?_eq_getElem jl
   have hwi:H6 wl=some (.lst ((W.map Vbnlag.Name.key).map V.int)):=by rw[List.map_map];exact hw6
   refine⟨_,rfl,_,rfl,wl,_,_,V.int W[j].key,rfl,rfl,.of hw6,Jr (by rw[List.getElem?_map,hj];rfl),_,rfl,_,rfl,W[j].key,wl,dd,_,E2,_,rfl,dl.ext (e5.trans e6),.of hwi,lsl,fun H7 e7=>⟨_,rfl,?_⟩⟩
   rw[← ZW]
   refine Bc (fun h2=>?_) (fun h2=>?_)
   ·refine⟨fun σ' H'=>∃j':Nat,σ'=[some (.ref k),some (.int d),some (.ref dd),some (.ref wl),some (.ref pl),some (.int j')]∧Ext C H5 H'∧(∀i,i < j'->∀n,W[i]?=some n->held (Vbnlag.pairs (Vbnlag.locked st d)) W n=true)∧i0 + 1 - j' < i0 + 1 - j,fun σ' H' ⟨j',a1,a2,a3,a4⟩=>⟨_,a4,j',a1,a2,a3,rfl⟩,?_⟩
    refine⟨_,rfl,_,_,rfl,rfl,j + 1,rfl,e6.trans e7,fun i hi n hn=>?_,by omega⟩
    by_cases z:i=j
    ·subst z
     rw[hj]at hn
     cases hn
     exact h2
    ·exact hb i (by omega) n hn
   ·have e67:=e6.trans e7
    have hw7:=e67.lst hw5
    have hp7:=e67.lst hp5
    have nwl:H2 wl=none:=n3
    refine⟨_,rfl,tyL hp7,_,rfl,tyL hw7,_,rfl,wl,_,(j:Int),j,V.int W[j].key,rfl,rfl,hw7,by omega,by omega,Zi (by rw[List.length_map];exact jl),by rw[List.getElem?_map,hj];rfl,?_⟩
    have e8:Ext C H2 (upd H7 wl (.lst ((W.map fun n=>V.int n.key).eraseIdx j))):=(e5.trans e67).Hj nwl hw7 _
    have hp8:upd H7 wl (.lst ((W.map fun n=>V.int n.key).eraseIdx j)) pl=some (.lst (placed.map V.int)):=by rw[Ac wlpl.symm];exact hp7
    have hw8:upd H7 wl (.lst ((W.map fun n=>V.int n.key).eraseIdx j)) wl=some (.lst ((W.eraseIdx j).map fun n=>V.int n.key)):=by rw[Ab,Ai4]
    generalize upd H7 wl (.lst ((W.map fun n=>V.int n.key).eraseIdx j))=H8 at e8 hp8 hw8 ⊢
    refine⟨pl,_,_,rfl,rfl,hp8,by rw[List.length_map];exact Bj (by omega),placed++[W[j].key],W.eraseIdx j,_,rfl,e8.Hj npl hp8 _,by rw[Ac wlpl];exact hw8,by rw[Ab,List.map_append];rfl,oi.step hk.wf hj h2 hb,?_,?_⟩
    ·rw[List.length_append,List.length_singleton,List.length_eraseIdx,if_pos jl]
     omega
    ·rw[List.length_eraseIdx,if_pos jl]
     omega
  ·have h1:=of_decide_eq_false h1
   have:W=[]:=by
    cases W with
    | nil=>rfl
    | cons x t=>exact absurd (by simp) h1
   subst this
   rw[oi.done]at hp5
   exact⟨_,rfl,q H5 pl ((e1.trans e2).trans e5) ((e1.trans e2).free npl) hp5⟩
end
end Nm
namespace Nm
open PySem PySem.Spec PyProof.Rows L2
section
variable {P:Program}{w:World}{K:PySem.W.Frag}{mg:Str->Option Value}{base:Heap}{C:Cl}
def Vd (K:PySem.W.Frag)(C:Cl):Sp:=fun vs H Q _=>∃k s R d wn,∃set:List Int,vs=[.ref k,.int d,.ref wn]∧Kp C H k s R∧SqL K H wn (set.map V.int)∧∀H' l,Ext C H H'->H l=none->H' l=some (.lst ((Vbnlag.why s d set).map V.int))->Q (.ref l) H'
theorem Fo:Aj ["kept", "d", "wanted", "way", "key"] ["kept", "d", "wanted"] (Ag (top 67)):=⟨rfl,rfl,rfl,by decide +kernel,rfl,by decide +kernel,by decide +kernel⟩
theorem QB {f:Addr}{fd:FuncData}(F:Fun K "way_to_name" "way_to_name" (top 67) f fd)(T:Txt K mg C)(G_precedence:Ok P w K mg base "precedence" 9 ["kept", "d"] (KH C)):Ay P w K mg base CX0 10 f fd ["kept", "d", "wanted"] (Vd K C):=by
 refine F.ok Fo (fun vs H Q E h=>?_) (fun cdv A outer s H vs Q E hr h=>?_)
 ·obtain⟨_,_,_,_,_,_,rfl,_⟩:=h
  rfl
 ·obtain⟨k,st,R,d,wn,set,rfl,hk,hs,q⟩:=h
  refine⟨_,(Ad (Am (i:=3) Fo.nd rfl (Or.inl rfl) (Ax Ae))
   (Ad (Fz PassesOwn.never rfl (Bw (Al G_precedence (hr.mono (by decide)) (Aa (pv 0) (Aa (pv 1) Ae)))) (Bk (i:=4) Fo.nd rfl (Or.inl rfl)) (Ad (Ca (Dj PySem.F.plainAttrs_list PySem.F.slot_list_append PySem.F.type_list_append Cv (pv 3) (Aa (pv 4) Ae)))
   (Af (Bl (Ar (MK T.cl) (pv 4) (pv 2) (by with_unfolding_all rfl)) (Af (Ai (pv 3))) Aq))))
   (Af (Ai (Ax Ae))))),?_⟩
  refine⟨by show 0<=sizeLine;decide,fun wy hwy=>?_⟩
  have e0:=Ext.new C hwy (.lst [])
  refine⟨_,rfl,_,rfl,k,st,R,d,rfl,hk.ext e0,fun H1 ol e1 n1 hol=>⟨ol,rfl,⟨_,.of hol⟩,?_⟩⟩
  have ne:ol≠wy:=fun z=>by rw[z,Ab]at n1;cases n1
  have ol40:=MJ hk.wf d
  refine Dy (J:=Itl K ol) (n:=(Vbnlag.order st d).length) (fun i σ H2=>∃v,σ=[some (.ref k),some (.int d),some (.ref wn),some (.ref wy),v]∧Ext C H H2∧H2 wy=some (.lst (((Vbnlag.order st d).take i).map V.int))∧H2 ol=some (.lst ((Vbnlag.order st d).map V.int))∧∀x∈(Vbnlag.order st d).take i,set.contains x=false)
   ⟨none,rfl,e0.trans e1,by rw[e1.lst Ab];rfl,hol,by simp⟩
   (fun i σ H2 hi ⟨v,a1,a2,a3,a4,a5⟩=>⟨_,V.int (Vbnlag.order st d)[i],.of a4,by rw[List.getElem?_map,List.getElem?_eq_getElem hi];rfl⟩)
   (fun σ H2 ⟨v,a1,a2,a3,a4,a5⟩=>⟨_,.of a4,by rw[List.length_map];exact Nat.le_refl _⟩)
   (fun i x σ H2 H3 hi ⟨v,a1,a2,a3,a4,a5⟩ ⟨y1,y2⟩=>?_)
   (fun σ H2 ⟨v,a1,a2,a3,a4,a5⟩=>?_)
  ·subst y1 a1
   have y3:=y2 _ (.of a4)
   rw[List.getElem?_map,List.getElem?_eq_getElem hi]at y3
   cases y3
   have tk:(Vbnlag.order st d).take (i + 1)=(Vbnlag.order st d).take i++[(Vbnlag.order st d)[i]]:=by rw[List.take_succ,List.getElem?_eq_getElem hi];rfl
   refine⟨_,rfl,tyL a3,_,rfl,wy,_,_,rfl,rfl,a3,by rw[List.length_map,List.length_take];exact Bj (by omega),?_⟩
   have b1:Ext C H (upd H3 wy (.lst (((Vbnlag.order st d).take i).map V.int++[V.int (Vbnlag.order st d)[i]]))):=a2.Hj hwy a3 _
   have b2:upd H3 wy (.lst (((Vbnlag.order st d).take i).map V.int++[V.int (Vbnlag.order st d)[i]])) wy=some (.lst (((Vbnlag.order st d).take (i + 1)).map V.int)):=by rw[Ab,tk,List.map_append];rfl
   have b3:upd H3 wy (.lst (((Vbnlag.order st d).take i).map V.int++[V.int (Vbnlag.order st d)[i]])) ol=some (.lst ((Vbnlag.order st d).map V.int)):=by rw[Ac ne];exact a4
   generalize upd H3 wy (.lst (((Vbnlag.order st d).take i).map V.int++[V.int (Vbnlag.order st d)[i]]))=H4 at b1 b2 b3 ⊢
   refine⟨_,rfl,_,rfl,wn,_,rfl,.inl (b1.Dn hs),rfl,Fi set,_,rfl,?_⟩
   rw[if_neg Bool.false_ne_true,Rc]
   refine Bc (fun h1=>⟨_,rfl,?_⟩) (fun h1=>⟨_,rfl,b1,b2,b3,fun x hx=>?_⟩)
   ·refine q H4 wy b1 hwy ?_
    have eo:Vbnlag.order st d=(Vbnlag.order st d).take i++(Vbnlag.order st d)[i]::(Vbnlag.order st d).drop (i + 1):=by
     rw[List.getElem_cons_drop,List.take_append_drop]
    rw[(Kv hk.wf eo a5 h1).1,b2,tk]
   ·rw[tk]at hx
    rcases List.mem_append.mp hx with hx | hx
    ·exact a5 x hx
    ·simp at hx
     rw[hx]
     exact h1
  ·subst a1
   rw[List.take_length]at a5
   refine⟨by show 0<=sizeLine;decide,fun p hp=>q _ p (a2.lay hp _) (a2.free hp) ?_⟩
   rw[Ab,(HN a5).1]
   rfl
def Pg (K:PySem.W.Frag)(C:Cl):Sp:=fun vs H Q _=>∃k s R d wn,∃set:List Int,vs=[.ref k,.int d,.ref wn]∧Kp C H k s R∧SqL K H wn (set.map V.int)∧∀H',Ext C H H'->Q (.int (Vbnlag.first s d set)) H'
theorem Ib:Aj ["kept", "d", "wanted", "way"] ["kept", "d", "wanted"] (Ag (top 68)):=⟨rfl,rfl,rfl,by decide +kernel,rfl,by decide +kernel,by decide +kernel⟩
theorem QF {f:Addr}{fd:FuncData}(F:Fun K "name_of_set" "name_of_set" (top 68) f fd)(T:Txt K mg C)(G_way_to_name:Ok P w K mg base "way_to_name" 10 ["kept", "d", "wanted"] (Vd K C)):Ay P w K mg base CX0 11 f fd ["kept", "d", "wanted"] (Pg K C):=by
 refine F.ok Ib (fun vs H Q E h=>?_) (fun cdv A outer s H vs Q E hr h=>?_)
 ·obtain⟨_,_,_,_,_,_,rfl,_⟩:=h
  rfl
 ·obtain⟨k,st,R,d,wn,set,rfl,hk,hs,q⟩:=h
  refine⟨_,(Ad (Am (i:=3) Ib.nd rfl (Or.inl rfl) (Al G_way_to_name (hr.mono (by decide)) (Aa (pv 0) (Aa (pv 1) (Aa (pv 2) Ae)))))
   (Af (Ai (FJ (Ar Lh (Bd Bo (by rfl) T.len PySem.boot_len (Aa (pv 3) Ae)) Ah (Ba _)) (Aw Ak (pv 3) (Aq8 Ab1 Ah) (fun _ _=>rfl)) Ah)))),?_⟩
  refine⟨_,rfl,_,rfl,_,rfl,k,st,R,d,wn,set,rfl,hk,hs,fun H1 l e1 n1 hl=>⟨_,rfl,l,_,rfl,.inl (.of hl),_,_,rfl,rfl,_,rfl,Bc (fun h1=>?_) (fun h1=>?_)⟩⟩
  ·rcases Lz hk.wf d set with⟨z,_⟩ | ⟨pre,z⟩
   ·rw[z]at h1;cases h1
   ·refine⟨_,rfl,_,rfl,l,_,_,V.int (Vbnlag.first st d set),rfl,rfl,.of hl,?_,q H1 e1⟩
    rw[z]
    have e:(((pre++[Vbnlag.first st d set]).map V.int).length:Int)=pre.length + 1:=by simp
    unfold atI ixN
    rw[e,if_neg (by decide),if_pos (by omega),show((-1:Int) + ((pre.length:Int) + 1)).toNat=pre.length by omega]
    simp
  ·rcases Lz hk.wf d set with⟨_,z⟩ | ⟨pre,z⟩
   ·have:=q H1 e1
    rw[z]at this
    exact this
   ·rw[z]at h1
    simp at h1
def Qe (C:Cl):Sp:=fun vs H Q _=>∃k s R d a b,vs=[.ref k,.int d,.int a,.int b]∧Kp C H k s R∧Vbnlag.stands s d a=true∧Vbnlag.stands s d b=true∧∀H',Ext C H H'->Q (.bl (decide (a≠b)&&Vbnlag.first s d [a,b]==a)) H'
theorem Hy:Aj ["kept", "d", "a", "b", "placed"] ["kept", "d", "a", "b"] (Ag (top 69)):=⟨rfl,rfl,rfl,by decide +kernel,rfl,by decide +kernel,by decide +kernel⟩
theorem Us {l:List Int}{a:Int}(h:a∈l):∃z,(l.map V.int)[l.idxOf a]?=some z∧eqV z (.int a)=true∧∀i z,i < l.idxOf a->(l.map V.int)[i]?=some z->eqV z (.int a)=false:=by
 have hl:l.idxOf a < l.length:=List.idxOf_lt_length_of_mem h
 refine⟨V.int a,?_,by show(a==a)=true;simp,fun i z hi hz=>?_⟩
 ·rw[List.getElem?_map,List.getElem?_eq_getElem hl,List.getElem_idxOf]
  rfl
 ·rw[List.getElem?_map,List.getElem?_eq_getElem (Nat.lt_trans hi hl)]at hz
  cases hz
  show(l[i]==a)=false
  have:=List.not_of_lt_findIdx hi
  simpa using this
theorem Ox {f:Addr}{fd:FuncData}(F:Fun K "comes_before" "comes_before" (top 69) f fd)(T:Txt K mg C)(G_precedence:Ok P w K mg base "precedence" 9 ["kept", "d"] (KH C)):Ay P w K mg base CX0 10 f fd ["kept", "d", "a", "b"] (Qe C):=by
 refine F.ok Hy (fun vs H Q E h=>?_) (fun cdv A outer s H vs Q E hr h=>?_)
 ·obtain⟨_,_,_,_,_,_,rfl,_⟩:=h
  rfl
 ·obtain⟨k,st,R,d,a,b,rfl,hk,ha,hb,q⟩:=h
  refine⟨_,(Ad (Am (i:=4) Hy.nd rfl (Or.inl rfl) (Al G_precedence (hr.mono (by decide)) (Aa (pv 0) (Aa (pv 1) Ae))))
   (Af (Ai (Gk Ys (Dj PySem.F.plainAttrs_list PySem.F.slot_list_index PySem.F.type_list_index QZ (pv 4) (Aa (pv 2) Ae)) (Dj PySem.F.plainAttrs_list PySem.F.slot_list_index PySem.F.type_list_index QZ (pv 4) (Aa (pv 3) Ae)) (Ba _))))),?_⟩
  have ma:=(Nf hk.wf d a).mpr ha
  have mb:=(Nf hk.wf d b).mpr hb
  refine⟨_,rfl,_,rfl,k,st,R,d,rfl,hk,fun H1 l e1 n1 hl=>?_⟩
  obtain⟨za,za1,za2,za3⟩:=Us ma
  obtain⟨zb,zb1,zb2,zb3⟩:=Us mb
  refine⟨_,rfl,tyL hl,_,rfl,l,_,_,_,za,rfl,rfl,.of hl,rfl,Fi _,za1,za2,za3,_,rfl,tyL hl,_,rfl,l,_,_,_,zb,rfl,rfl,.of hl,rfl,Fi _,zb1,zb2,zb3,_,_,rfl,rfl,?_⟩
  have:=q H1 e1
  have bi:=X8 ma mb
  rw[show(decide (a≠b)&&Vbnlag.first st d [a,b]==a)=decide (((Vbnlag.order st d).idxOf a:Int) < (Vbnlag.order st d).idxOf b) by
   unfold Vbnlag.first
   by_cases h:(Vbnlag.order st d).idxOf a < (Vbnlag.order st d).idxOf b
   ·rw[bi.mpr h]
    exact(decide_eq_true (by omega)).symm
   ·rw[show decide (((Vbnlag.order st d).idxOf a:Int) < (Vbnlag.order st d).idxOf b)=false from decide_eq_false (by omega)]
    exact Bool.eq_false_iff.mpr fun z=>h (bi.mp z)]at this
  exact this
end
end Nm
namespace Nm
open PySem PySem.Spec PyProof.Rows L2
section
variable {P:Program}{w:World}{K:PySem.W.Frag}{mg:Str->Option Value}{base:Heap}{C:Cl}
theorem Ap8 {s:VS}{set:List Int}{acc:List Int×Int}{d:Int}(h:Vbnlag.first s d set=acc.2):chg s set acc d=acc:=by unfold chg;rw[if_pos h]
theorem YJ {s:VS}{set:List Int}{acc:List Int×Int}{d:Int}(h:Vbnlag.first s d set≠acc.2):chg s set acc d=(acc.1++[d,Vbnlag.first s d set],Vbnlag.first s d set):=by unfold chg;rw[if_neg h]
def WQ (C:Cl):Sp:=fun vs H Q _=>∃k s R,vs=[.ref k]∧Kp C H k s R∧∀H' l,∀L:List Int,Ext C H H'->H l=none->H' l=some (.lst (L.map V.int))->L.Pairwise (· < ·)->(∀d,d∈L↔Gx s d)->L.length<=1000->Q (.ref l) H'
def Ms (K:PySem.W.Frag)(C:Cl):Sp:=fun vs H Q _=>∃k s R wn,∃set:List Int,vs=[.ref k,.ref wn]∧Kp C H k s R∧SqL K H wn (set.map V.int)∧∀H' l,Ext C H H'->H l=none->H' l=some (.lst (((Vbnlag.history s set).flatMap fun p=>[p.1,p.2]).map V.int))->((Vbnlag.history s set).flatMap fun p=>[p.1,p.2]).length<=10000->Q (.ref l) H'
theorem Ea:Aj ["kept", "wanted", "changes", "last", "d", "key"] ["kept", "wanted"] (Ag (top 72)):=⟨rfl,rfl,rfl,by decide +kernel,rfl,by decide +kernel,by decide +kernel⟩
theorem Xg {f:Addr}{fd:FuncData}(F:Fun K "history" "history" (top 72) f fd)(T:Txt K mg C)(G_days_of_change:Ok P w K mg base "days_of_change" 2 ["kept"] (WQ C))(G_name_of_set:Ok P w K mg base "name_of_set" 11 ["kept", "d", "wanted"] (Pg K C)):Ay P w K mg base CX0 12 f fd ["kept", "wanted"] (Ms K C):=by
 refine F.ok Ea (fun vs H Q E h=>?_) (fun cdv A outer s H vs Q E hr h=>?_)
 ·obtain⟨_,_,_,_,_,rfl,_⟩:=h
  rfl
 ·obtain⟨k,st,R,wn,set,rfl,hk,hs,q⟩:=h
  refine⟨_,(Ad (Am (i:=2) Ea.nd rfl (Or.inl rfl) (Ax Ae))
   (Ad (Am (i:=3) Ea.nd rfl (Or.inl rfl) Ah)
   (Ad (Fz PassesOwn.never rfl (Bw (Al G_days_of_change (hr.mono (by decide)) (Aa (pv 0) Ae))) (Bk (i:=4) Ea.nd rfl (Or.inl rfl)) (Ad (Am (i:=5) Ea.nd rfl (Or.inl rfl) (Al G_name_of_set (hr.mono (by decide)) (Aa (pv 0) (Aa (pv 4) (Aa (pv 1) Ae)))))
   (Af (Bl (Ar Qx (pv 5) (pv 3) (Ba _)) (Ad (Ca (Dj PySem.F.plainAttrs_list PySem.F.slot_list_extend PySem.F.type_list_extend Fg (pv 2) (Aa (Ax (Aa (pv 4) (Aa (pv 5) Ae))) Ae)))
   (Af (Am (i:=3) Ea.nd rfl (Or.inl rfl) (pv 5)))) Aq))))
   (Af (Ai (pv 2)))))),?_⟩
  refine⟨by show 0<=sizeLine;decide,fun cl hcl=>?_⟩
  have e0:=Ext.new C hcl (.lst [])
  refine⟨_,rfl,k,st,R,rfl,hk.ext e0,fun H1 dl L e1 n1 hdl so tu len=>⟨dl,rfl,⟨_,.of hdl⟩,?_⟩⟩
  have ne:dl≠cl:=fun z=>by rw[z,Ab]at n1;cases n1
  have bound:∀i,((L.take i).foldl (chg st set) ([],0)).1.length<=2000:=fun i=>by
   have:=YK (s:=st) set (L.take i) ([],0)
   rw[List.length_take]at this
   simp at this
   omega
  refine Dy (J:=Itl K dl) (n:=L.length) (fun i σ H2=>∃v u,σ=[some (.ref k),some (.ref wn),some (.ref cl),some (.int ((L.take i).foldl (chg st set) ([],0)).2),v,u]∧Ext C H H2∧H2 cl=some (.lst (((L.take i).foldl (chg st set) ([],0)).1.map V.int))∧H2 dl=some (.lst (L.map V.int)))
   ⟨none,none,rfl,e0.trans e1,by rw[e1.lst Ab];rfl,hdl⟩
   (fun i σ H2 hi ⟨v,u,a1,a2,a3,a4⟩=>⟨_,V.int L[i],.of a4,by rw[List.getElem?_map,List.getElem?_eq_getElem hi];rfl⟩)
   (fun σ H2 ⟨v,u,a1,a2,a3,a4⟩=>⟨_,.of a4,by rw[List.length_map];exact Nat.le_refl _⟩)
   (fun i x σ H2 H3 hi ⟨v,u,a1,a2,a3,a4⟩ ⟨y1,y2⟩=>?_)
   (fun σ H2 ⟨v,u,a1,a2,a3,a4⟩=>?_)
  ·subst y1 a1
   have y3:=y2 _ (.of a4)
   rw[List.getElem?_map,List.getElem?_eq_getElem hi]at y3
   cases y3
   have tk:(L.take (i + 1)).foldl (chg st set) ([],0)=chg st set ((L.take i).foldl (chg st set) ([],0)) L[i]:=by
    rw[List.take_succ,List.getElem?_eq_getElem hi,List.foldl_append]
    rfl
   refine⟨_,rfl,_,rfl,_,rfl,k,st,R,L[i],wn,set,rfl,hk.ext a2,a2.Dn hs,fun H4 e4=>⟨_,rfl,_,rfl,_,_,rfl,rfl,_,rfl,Bc (fun h1=>?_) (fun h1=>?_)⟩⟩
   ·have h1:Vbnlag.first st L[i] set≠((L.take i).foldl (chg st set) ([],0)).2:=by simpa using h1
    have a24:=a2.trans e4
    refine⟨_,rfl,tyL (e4.lst a3),_,rfl,_,rfl,by show 2<=sizeLine;decide,fun p hp=>?_⟩
    have pc:cl≠p:=fun z=>by rw[← z,e4.lst a3]at hp;cases hp
    have pd:dl≠p:=fun z=>by rw[← z,e4.lst a4]at hp;cases hp
    have a25:Ext C H (upd H4 p (.lst [V.int L[i],V.int (Vbnlag.first st L[i] set)])):=a24.lay hp _
    refine⟨cl,p,_,_,rfl,rfl,by rw[Ac pc];exact e4.lst a3,Ab,?_,_,rfl,some (.int L[i]),some (.int (Vbnlag.first st L[i] set)),?_,a25.Hj hcl (by rw[Ac pc];exact e4.lst a3) _,?_,?_⟩
    ·have:=bound i
     rw[List.length_map]
     show _ + 2<=_
     rw[sizeLine_eq]
     omega
    ·rw[tk,YJ h1]
     rfl
    ·rw[Ab,tk,YJ h1,List.map_append]
     rfl
    ·rw[Ac ne,Ac pd]
     exact e4.lst a4
   ·have h1:Vbnlag.first st L[i] set=((L.take i).foldl (chg st set) ([],0)).2:=by simpa using h1
    have ec:chg st set ((L.take i).foldl (chg st set) ([],0)) L[i]=(L.take i).foldl (chg st set) ([],0):=Ap8 h1
    refine⟨some (.int L[i]),some (.int (Vbnlag.first st L[i] set)),?_,a2.trans e4,?_,e4.lst a4⟩
    ·rw[tk,ec]
     rfl
    ·rw[tk,ec]
     exact e4.lst a3
  ·subst a1
   rw[List.take_length]at a3
   have eh:=UG (s:=st) set L [] 0
   rw[← Xz hk.wf set so tu,List.nil_append]at eh
   refine⟨_,rfl,q H2 cl a2 hcl (by rw[← eh];exact a3) ?_⟩
   rw[← eh]
   have:=bound L.length
   rw[List.take_length]at this
   omega
end
end Nm
namespace Nm
open PySem PySem.Spec PyProof.Rows L2
section
variable {P:Program}{w:World}{K:PySem.W.Frag}{mg:Str->Option Value}{base:Heap}{C:Cl}
def TY (C:Cl):Sp:=fun vs H Q _=>∃k s R a x d,vs=[.ref k,.ref a,.int d]∧Kp C H k s R∧BR C H a x∧x∈s.acts∧4<=x.kind∧∀H',Ext C H H'->Q (.int (Vbnlag.fate s d x)) H'
theorem Ig:Aj ["kept", "act", "d", "latest"] ["kept", "act", "d"] (Ag (top 79)):=⟨rfl,rfl,rfl,by decide +kernel,rfl,by decide +kernel,by decide +kernel⟩
theorem QJ {f:Addr}{fd:FuncData}(F:Fun K "fate_of_one" "fate_of_one" (top 79) f fd)(T:Txt K mg C)(G_act_day:Ok P w K mg base "act_day" 1 ["kept", "act"] (Dt C))(G_acts_of_standing:Ok P w K mg base "acts_of_standing" 2 ["kept", "key", "d"] (KQ C))(G_latest_act:Ok P w K mg base "latest_act" 4 ["kept", "acts"] (KN K C)):Ay P w K mg base CX0 5 f fd ["kept", "act", "d"] (TY C):=by
 refine F.ok Ig (fun vs H Q E h=>?_) (fun cdv A outer s H vs Q E hr h=>?_)
 ·obtain⟨_,_,_,_,_,_,rfl,_⟩:=h
  rfl
 ·obtain⟨k,st,R,a,x,d,rfl,hk,ha,hx,h4,q⟩:=h
  refine⟨_,(Ad (Bl (Ar Lh (Al G_act_day (hr.mono (by decide)) (Aa (pv 0) (Aa (pv 1) Ae))) (pv 2) (Ba _)) (Af (Ai (pk T.Aa1))) Aq)
   (Ad (Am (i:=3) Ig.nd rfl (Or.inl rfl) (Al G_latest_act (hr.mono (by decide)) (Aa (pv 0) (Aa (Al G_acts_of_standing (hr.mono (by decide)) (Aa (pv 0) (Aa (pF T.cl (pv 1)) (Aa (pv 2) Ae)))) Ae))))
   (Af (Ai (FJ (Ar Ce (pF T.cl (pv 3)) (pF T.cl (pv 1)) (Ba _)) (pk T.Aq0) (pk T.X3)))))),?_⟩
  refine⟨_,rfl,_,rfl,k,st,R,a,x,rfl,hk,ha,hx,_,rfl,_,_,rfl,rfl,_,rfl,Bc (fun h1=>?_) (fun h1=>?_)⟩
  ·have:=q H (Ext.refl _ _)
   rw[show Vbnlag.fate st d x=1 by unfold Vbnlag.fate;rw[if_pos h4,if_pos (of_decide_eq_true h1)]]at this
   exact this
  ·have n1:¬d < Vbnlag.dayOf st x.work:=of_decide_eq_false h1
   refine⟨_,rfl,_,rfl,_,rfl,_,_,rfl,ha.a_ T.cl,_,rfl,k,st,R,x.a,d,rfl,hk,fun H1 l e1 nl hl=>?_⟩
   have hk1:=hk.ext e1
   have hkk:=hk.wf.ak x hx
   obtain⟨px,hpx,epx⟩:=List.mem_map.mp (hk.ap.mem_iff.mpr hx)
   have mem:px∈R.as.filter fun p=>Ds st d x.a p.2:=by
    refine List.mem_filter.mpr ⟨hpx,?_⟩
    rw[epx]
    unfold Ds
    simp
    omega
   refine⟨k,st,R,l,_,rfl,hk1,.of hl,List.ne_nil_of_mem mem,fun p hp=>(List.mem_filter.mp hp).1,fun p hp H2 e2 hm=>?_⟩
   have hk2:=hk1.ext e2
   have dec:=Ob hk hp hm
   have pin:=(List.mem_filter.mp hp).1
   refine⟨_,rfl,_,_,rfl,(hk2.aa p pin).key T.cl,_,rfl,_,_,rfl,(ha.ext (e1.trans e2)).key T.cl,_,_,rfl,rfl,_,rfl,Bc (fun h2=>?_) (fun h2=>?_)⟩
   ·have:=q H2 (e1.trans e2)
    rw[show Vbnlag.fate st d x=0 by
     unfold Vbnlag.fate
     rw[if_pos h4,if_neg n1,if_pos (by rw[dec,hk.wf.Tn (hk.Q0 pin) hx (of_decide_eq_true h2)])]]at this
    exact this
   ·have:=q H2 (e1.trans e2)
    rw[show Vbnlag.fate st d x=6 by
     unfold Vbnlag.fate
     rw[if_pos h4,if_neg n1,if_neg (fun z=>by rw[dec]at z;exact of_decide_eq_false h2 (by rw[Option.some.inj z]))]]at this
    exact this
def TX (C:Cl):Sp:=fun vs H Q _=>∃k s R a x d,vs=[.ref k,.ref a,.int d]∧Kp C H k s R∧BR C H a x∧x∈s.acts∧x.kind<=3∧∀H',Ext C H H'->Q (.int (Vbnlag.fate s d x)) H'
theorem Dv:Aj ["kept", "act", "d", "hindered_by", "locked_keys", "locked"] ["kept", "act", "d"] (Ag (top 80)):=⟨rfl,rfl,rfl,by decide +kernel,rfl,by decide +kernel,by decide +kernel⟩
theorem V0 (s:VS)(d:Int)(x:Vbnlag.Act):0<=Vbnlag.hindrance s d x:=by
 unfold Vbnlag.hindrance
 split
 ·decide
 ·split
  ·decide
  ·split
   ·decide
   ·split <;>decide
theorem O4 {s:VS}{d:Int}{x:Vbnlag.Act}(h:x∈Vbnlag.locked s d):x∈s.acts:=(Hw d (Xr d h)).1
theorem VG {s:VS}(W:WF s)(d:Int):(Vbnlag.locked s d).length<=60:=by
 have h1:=GZ W d
 obtain⟨r,er,su⟩:=Cw (Vbnlag.counting s d) []
 have h2:(Vbnlag.locked s d).length<=(Vbnlag.counting s d).length:=by
  unfold Vbnlag.locked
  rw[er]
  simpa using su.length_le
 omega
theorem QH {f:Addr}{fd:FuncData}(F:Fun K "fate_of_two" "fate_of_two" (top 80) f fd)(T:Txt K mg C)(G_hindrance:Ok P w K mg base "hindrance" 6 ["kept", "act", "d"] (TV C))(G_locked_acts:Ok P w K mg base "locked_acts" 8 ["kept", "d"] (HX C)):Ay P w K mg base CX0 9 f fd ["kept", "act", "d"] (TX C):=by
 refine F.ok Dv (fun vs H Q E h=>?_) (fun cdv A outer s H vs Q E hr h=>?_)
 ·obtain⟨_,_,_,_,_,_,rfl,_⟩:=h
  rfl
 ·obtain⟨k,st,R,a,x,d,rfl,hk,ha,hx,h3,q⟩:=h
  refine⟨_,(Ad (Am (i:=3) Dv.nd rfl (Or.inl rfl) (Al G_hindrance (hr.mono (by decide)) (Aa (pv 0) (Aa (pv 1) (Aa (pv 2) Ae)))))
   (Ad (Bl (Ar Lh (pv 3) Ah (Ba _)) (Af (Ai (pv 3))) Aq)
   (Ad (Es (i:=4) rfl Dv.nd rfl rfl rfl (Bw (Al G_locked_acts (hr.mono (by decide)) (Aa (pv 0) (Aa (pv 2) Ae)))) (BJ (own:=[("locked",5)]) (by kernel_rfl)) (fun _ _ _ _ _=>(Bk (i:=5) Dv.nd rfl (Or.inl rfl))) (fun _ _ _ _ _=>Ey) (fun _ _ _ _ _=>(pF T.cl (pv 5))))
   (Af (Ai (FJ (Ar (MK T.cl) (pF T.cl (pv 1)) (pv 4) (by with_unfolding_all rfl)) (pk T.Ap9) (pk T.Mf))))))),?_⟩
  have n4:¬ 4<=x.kind:=by omega
  refine⟨_,rfl,_,rfl,_,rfl,k,st,R,a,x,d,rfl,hk,ha,hx,h3,fun H1 e1=>⟨_,rfl,_,_,rfl,rfl,_,rfl,Bc (fun h1=>?_) (fun h1=>?_)⟩⟩
  ·have h1:=of_decide_eq_true h1
   have:=q H1 e1
   rw[show Vbnlag.fate st d x=Vbnlag.hindrance st d x by unfold Vbnlag.fate;rw[if_neg n4,if_pos (by omega)]]at this
   exact⟨_,rfl,this⟩
  ·have h1:=of_decide_eq_false h1
   have h0:Vbnlag.hindrance st d x=0:=by have:=V0 st d x;omega
   have hk1:=hk.ext e1
   refine⟨_,rfl,_,rfl,k,st,R,d,rfl,hk1,fun H2 l out e2 nl hl hm eo=>⟨l,rfl,⟨_,.of hl⟩,fun D hD=>?_⟩⟩
   have hk2:=hk1.ext e2
   have ol:out.length<=60:=by
    have:=congrArg List.length eo
    rw[List.length_map]at this
    have:=VG hk.wf d
    omega
   refine EY (C:=C) out (fun p=>V.ref p.1) (fun _=>true) (fun p=>V.int p.2.key) (.of hl) hD (by omega) (fun p hp H' N e hT hF=>?_) (fun H' e hl'=>?_)
   ·exact⟨rfl,Tp ⟨_,rfl,_,_,rfl,((hk2.aa p (hm p hp)).ext e).key T.cl,hT rfl _ (Ext.refl _ _)⟩⟩
   ·rw[filter_all]at hl'
    have e3:=(e1.trans e2).trans e
    have hl2:H' D=some (.lst (((Vbnlag.locked st d).map Vbnlag.Act.key).map V.int)):=by rw[hl',← eo,List.map_map,List.map_map];rfl
    refine⟨_,rfl,_,_,rfl,(ha.ext e3).key T.cl,_,rfl,D,_,rfl,.inl (.of hl2),rfl,Fi _,_,rfl,?_⟩
    rw[if_neg Bool.false_ne_true,Rc]
    have iff:(((Vbnlag.locked st d).map Vbnlag.Act.key).contains x.key=true)↔(Vbnlag.locked st d).contains x=true:=by
     rw[List.contains_iff_mem,List.contains_iff_mem]
     constructor
     ·intro m
      obtain⟨y,hy,e⟩:=List.mem_map.mp m
      rw[← hk.wf.Tn (O4 hy) hx e]
      exact hy
     ·intro m
      exact List.mem_map.mpr ⟨x,m,rfl⟩
    refine Bc (fun h2=>?_) (fun h2=>?_)
    ·have:=q H' e3
     rw[show Vbnlag.fate st d x=0 by unfold Vbnlag.fate;rw[if_neg n4,if_neg (by simp[h0]),if_pos (iff.mp h2)]]at this
     exact this
    ·have:=q H' e3
     rw[show Vbnlag.fate st d x=5 by unfold Vbnlag.fate;rw[if_neg n4,if_neg (by simp[h0]),if_neg (fun z=>by rw[iff.mpr z]at h2;cases h2)]]at this
     exact this
def T3 (C:Cl):Sp:=fun vs H Q _=>∃k s R a x d,vs=[.ref k,.ref a,.int d]∧Kp C H k s R∧BR C H a x∧x∈s.acts∧∀H',Ext C H H'->Q (.int (Vbnlag.fate s d x)) H'
theorem Ak5:Aj ["kept", "act", "d"] ["kept", "act", "d"] (Ag (top 81)):=⟨rfl,rfl,rfl,by decide +kernel,rfl,by decide +kernel,by decide +kernel⟩
theorem Am2 {f:Addr}{fd:FuncData}(F:Fun K "fate" "fate" (top 81) f fd)(T:Txt K mg C)(G_fate_of_one:Ok P w K mg base "fate_of_one" 5 ["kept", "act", "d"] (TY C))(G_fate_of_two:Ok P w K mg base "fate_of_two" 9 ["kept", "act", "d"] (TX C)):Ay P w K mg base CX0 10 f fd ["kept", "act", "d"] (T3 C):=by
 refine F.ok Ak5 (fun vs H Q E h=>?_) (fun cdv A outer s H vs Q E hr h=>?_)
 ·obtain⟨_,_,_,_,_,_,rfl,_⟩:=h
  rfl
 ·obtain⟨k,st,R,a,x,d,rfl,hk,ha,hx,q⟩:=h
  refine⟨_,(Ad (Bl (Ar (MK T.cl) (pF T.cl (pv 1)) (Il (Aa (pk T.X6) (Aa (pk T.Ma) Ae))) (by with_unfolding_all rfl)) (Af (Ai (Al G_fate_of_one (hr.mono (by decide)) (Aa (pv 0) (Aa (pv 1) (Aa (pv 2) Ae)))))) Aq)
   (Af (Ai (Al G_fate_of_two (hr.mono (by decide)) (Aa (pv 0) (Aa (pv 1) (Aa (pv 2) Ae))))))),?_⟩
  have hkk:=hk.wf.ak x hx
  refine⟨_,rfl,_,_,rfl,ha.kind T.cl,by show 2<=sizeLine;decide,fun t ht=>⟨t,_,rfl,.inr (SqT.of Ab),rfl,rfl,_,rfl,Bc (fun h2=>?_) (fun h2=>?_)⟩⟩
  ·have e1:=Ext.new C ht (.tup [V.int 4,V.int 5])
   have:4<=x.kind:=by
    simp[inV,eqV]at h2
    omega
   exact⟨_,rfl,_,rfl,_,rfl,k,st,R,a,x,d,rfl,hk.ext e1,ha.ext e1,hx,this,fun H2 e2=>q H2 (e1.trans e2)⟩
  ·have e1:=Ext.new C ht (.tup [V.int 4,V.int 5])
   have:x.kind<=3:=by
    simp[inV,eqV]at h2
    omega
   exact⟨_,rfl,_,rfl,_,rfl,k,st,R,a,x,d,rfl,hk.ext e1,ha.ext e1,hx,this,fun H2 e2=>q H2 (e1.trans e2)⟩
def T5 (C:Cl):Sp:=fun vs H Q _=>∃k s R a x d,vs=[.ref k,.ref a,.int d]∧Kp C H k s R∧BR C H a x∧x∈Vbnlag.counting s d ∧
 ∀H' l,∀out:List (Addr×Vbnlag.Act),Ext C H H'->H l=none->H' l=some (.lst (out.map fun p=>V.ref p.1))->(∀p∈out,p∈R.as)->out.map (·.2)=Vbnlag.lockedAhead s d x->out.length<=60->Q (.ref l) H'
theorem CN:Aj ["kept", "act", "d", "asked", "asked_keys", "other"] ["kept", "act", "d"] (Ag (top 82)):=⟨rfl,rfl,rfl,by decide +kernel,rfl,by decide +kernel,by decide +kernel⟩
theorem MN {f:Addr}{fd:FuncData}(F:Fun K "locked_before" "locked_before" (top 82) f fd)(T:Txt K mg C)(G_asked_acts:Ok P w K mg base "asked_acts" 7 ["kept", "d"] (Ph C))(G_lock:Ok P w K mg base "lock" 2 ["asked"] (TJ K C)):Ay P w K mg base CX0 8 f fd ["kept", "act", "d"] (T5 C):=by
 refine F.ok CN (fun vs H Q E h=>?_) (fun cdv A outer s H vs Q E hr h=>?_)
 ·obtain⟨_,_,_,_,_,_,rfl,_⟩:=h
  rfl
 ·obtain⟨k,st,R,a,x,d,rfl,hk,ha,hx,q⟩:=h
  refine⟨_,(Ad (Am (i:=3) CN.nd rfl (Or.inl rfl) (Al G_asked_acts (hr.mono (by decide)) (Aa (pv 0) (Aa (pv 2) Ae))))
   (Ad (Es (i:=4) rfl CN.nd rfl rfl rfl (Bw (pv 3)) (BJ (own:=[("other",5)]) (by kernel_rfl)) (fun _ _ _ _ _=>(Bk (i:=5) CN.nd rfl (Or.inl rfl))) (fun _ _ _ _ _=>Ey) (fun _ _ _ _ _=>(pF T.cl (pv 5))))
   (Af (Ai (Al G_lock (hr.mono (by decide)) (Aa (Qu T8 (pv 3) Al3 (Le (Dj PySem.F.plainAttrs_list PySem.F.slot_list_index PySem.F.type_list_index QZ (pv 4) (Aa (pF T.cl (pv 1)) Ae)))) Ae)))))),?_⟩
  refine⟨_,rfl,_,rfl,k,st,R,d,rfl,hk,fun H1 l items e1 n1 hl hm ei=>⟨_,rfl,l,rfl,⟨_,.of hl⟩,fun D hD=>?_⟩⟩
  have hk1:=hk.ext e1
  have il:items.length<=60:=by
   have:=congrArg List.length ei
   rw[List.length_map]at this
   have:=GZ hk.wf d
   omega
  refine EY (C:=C) items (fun p=>V.ref p.1) (fun _=>true) (fun p=>V.int p.2.key) (.of hl) hD (by omega) (fun p hp H' N e hT hF=>?_) (fun H' e hl'=>?_)
  ·exact⟨rfl,Tp ⟨_,rfl,_,_,rfl,((hk1.aa p (hm p hp)).ext e).key T.cl,hT rfl _ (Ext.refl _ _)⟩⟩
  ·rw[filter_all]at hl'
   have hl2:H' D=some (.lst (((Vbnlag.counting st d).map Vbnlag.Act.key).map V.int)):=by rw[hl',← ei,List.map_map,List.map_map];rfl
   have e2:=e1.trans e
   have mx:x.key∈(Vbnlag.counting st d).map Vbnlag.Act.key:=List.mem_map.mpr ⟨x,hx,rfl⟩
   obtain⟨z,z1,z2,z3⟩:=Us mx
   refine⟨_,rfl,_,rfl,tyL hl2,_,rfl,_,_,rfl,(ha.ext e2).key T.cl,D,_,_,_,z,rfl,rfl,.of hl2,rfl,Fi _,z1,z2,z3,_,rfl,l,_,rfl,.of (e.lst hl),fun p hp=>?_⟩
   have jl:((Vbnlag.counting st d).map Vbnlag.Act.key).idxOf x.key < (Vbnlag.counting st d).length:=by
    have:=List.idxOf_lt_length_of_mem mx
    rwa [List.length_map]at this
   have lic:items.length=(Vbnlag.counting st d).length:=by rw[← ei,List.length_map]
   generalize ej:((Vbnlag.counting st d).map Vbnlag.Act.key).idxOf x.key=j at jl z1 ⊢
   have hjx:(Vbnlag.counting st d)[j]=x:=by
    have h1:((Vbnlag.counting st d).map Vbnlag.Act.key)[j]?=some x.key:=by
     rw[← ej,List.getElem?_eq_getElem (List.idxOf_lt_length_of_mem mx),List.getElem_idxOf]
    rw[List.getElem?_map,List.getElem?_eq_getElem jl]at h1
    exact hk.wf.Tn (Hw d (List.getElem_mem jl)).1 (Hw d hx).1 (Option.some.inj h1)
   have ec:Vbnlag.counting st d=(Vbnlag.counting st d).take j++x::(Vbnlag.counting st d).drop (j + 1):=by
    rw[← hjx,List.getElem_cons_drop,List.take_append_drop]
   have nx:x∉(Vbnlag.counting st d).take j:=fun m=>by
    have nd:=FZ hk.wf d
    rw[ec]at nd
    exact(List.nodup_append.mp nd).2.2 x m x List.mem_cons_self rfl
   have cut:RP (items.map fun p=>V.ref p.1) none (some (j:Int))=(items.take j).map fun p=>V.ref p.1:=by
    unfold RP
    rw[HT.Ad7,List.drop_zero,List.map_take]
    congr 1
    show(if ((j:Int)) < 0 then((j:Int) + ((items.map fun p=>V.ref p.1).length:Int)).toNat else min (j:Int).toNat (items.map fun p=>V.ref p.1).length) - 0=j
    rw[if_neg (by omega),List.length_map]
    omega
   rw[cut]
   have e3:=e2.lay hp (.lst ((items.take j).map fun p=>V.ref p.1))
   refine⟨p,items.take j,rfl,.of Ab,fun y hy=>(hk.ext e3).aa y (hm y (List.mem_of_mem_take hy)),by rw[List.length_take];omega,fun H3 l3 out e4 n4 hl4 su eo=>?_⟩
   refine q H3 l3 out (e3.trans e4) (e3.free n4) hl4 (fun y hy=>hm y (List.mem_of_mem_take (su.subset hy))) ?_ ?_
   ·rw[eo,List.map_take,ei]
    unfold Vbnlag.lockedAhead
    rw[KC ec nx]
   ·have:=su.length_le
    rw[List.length_take]at this
    omega
end
end Nm
namespace Nm
open PySem PySem.Spec PyProof.Rows L2
section
variable {P:Program}{w:World}{K:PySem.W.Frag}{mg:Str->Option Value}{base:Heap}{C:Cl}
abbrev dS (es:List (Int×Nat)):List (Key×V):=es.map fun e=>(Sum.inl e.1,V.int e.2)
theorem Jo:∀{es:List (Int×Nat)},(es.map (·.1)).Nodup->∀{x:Int}{k:Nat},(x,k)∈es->BL (dS es) (Sum.inl x)=some (.int k)
 | [],_,_,_,h=>nomatch h
 | e::r,nd,x,k,h=>by
  rw[List.map_cons,List.nodup_cons]at nd
  unfold dS
  rw[List.map_cons]
  by_cases q:e.1=x
  ·rw[Cz (show((Sum.inl e.1:Key))=Sum.inl x by rw[q])]
   rcases List.mem_cons.mp h with h | h
   ·rw[← h]
   ·exact absurd (List.mem_map.mpr ⟨(x,k),h,q.symm⟩) nd.1
  ·rw[Cd (fun z=>q (Sum.inl.inj z))]
   rcases List.mem_cons.mp h with h | h
   ·exact absurd (by rw[← h]) q
   ·exact Jo nd.2 h
theorem YG:∀{es:List (Int×Nat)}{x:Int},x∉es.map (·.1)->BL (dS es) (Sum.inl x)=none
 | [],_,_=>rfl
 | e::r,x,h=>by
  unfold dS
  rw[List.map_cons,Cd (fun z=>h (by rw[List.map_cons];exact List.mem_cons.mpr (.inl (Sum.inl.inj z).symm)))]
  exact YG fun m=>h (by rw[List.map_cons];exact List.mem_cons_of_mem _ m)
theorem Ar1 {es:List (Int×Nat)}{x:Int}:(BL (dS es) (Sum.inl x)).isSome=decide (x∈es.map (·.1)):=by
 induction es with
 | nil=>rfl
 | cons e r ih =>
  unfold dS
  rw[List.map_cons]
  by_cases q:e.1=x
  ·rw[Cz (show((Sum.inl e.1:Key))=Sum.inl x by rw[q])]
   simp[q]
  ·rw[Cd (fun z=>q (Sum.inl.inj z))]
   rw[ih]
   simp[Ne.symm q]
structure Bs (C:Cl)(H0 H:Hp)(sd rl:Addr)(es:List (Int×Nat)):Prop where
 ext:Ext C H0 H
 ns:H0 sd=none
 nr:H0 rl=none
 hs:H sd=some (.dK (dS es))
 hr:H rl=some (.lst (es.map fun e=>V.int e.1))
section
variable {H0 H:Hp}{sd rl:Addr}{es:List (Int×Nat)}
theorem Bs.ne (h:Bs C H0 H sd rl es):sd≠rl:=fun z=>by have a:=h.hs;rw[z,h.hr]at a;cases a
theorem Bs.put (h:Bs C H0 H sd rl es){x:Int}{k:Nat}(hx:x∉es.map (·.1)):Bs C H0 (upd (upd H sd (.dK (putK (dS es) (Sum.inl x) (.int k)))) rl (.lst (es.map (fun e=>V.int e.1)++[V.int x]))) sd rl (es++[(x,k)]):=by
 have e1:Ext C H0 (upd H sd (.dK (putK (dS es) (Sum.inl x) (.int k)))):=h.ext.Zh h.ns h.hs _
 have hr1:upd H sd (.dK (putK (dS es) (Sum.inl x) (.int k))) rl=some (.lst (es.map fun e=>V.int e.1)):=by rw[Ac h.ne.symm];exact h.hr
 refine⟨e1.Hj h.nr hr1 _,h.ns,h.nr,?_,?_⟩
 ·rw[Ac h.ne,Ab,Qs (YG hx)]
  unfold dS
  rw[List.map_append]
  rfl
 ·rw[Ab,List.map_append]
  rfl
end
def Tz (K:PySem.W.Frag)(C:Cl):Sp:=fun vs H Q _=>∃l g,∃items:List (Addr×Vbnlag.Act),vs=[.ref l,.int g]∧SqL K H l (items.map fun p=>V.ref p.1)∧(∀p∈items,BR C H p.1 p.2)∧items.length<=100 ∧
 ∀H' sd es,Ext C H H'->H' sd=some (.dK (dS es))->(es.map (·.1)).Nodup->(∀x k,(x,k)∈es↔Short (Vbnlag.pairs (items.map (·.2))) k x g)->Q (.ref sd) H'
theorem Bu:Aj ["acts", "goal", "steps", "reached", "place", "lower", "act"] ["acts", "goal"] (Ag (top 83)):=⟨rfl,rfl,rfl,by decide +kernel,rfl,by decide +kernel,by decide +kernel⟩
theorem Ow {f:Addr}{fd:FuncData}(F:Fun K "fewest_steps" "fewest_steps" (top 83) f fd)(T:Txt K mg C):Ay P w K mg base CX0 1 f fd ["acts", "goal"] (Tz K C):=by
 refine F.ok Bu (fun vs H Q E h=>?_) (fun cdv A outer s H vs Q E hr h=>?_)
 ·obtain⟨_,_,_,rfl,_⟩:=h
  rfl
 ·obtain⟨l,g,items,rfl,hl,hac,hn,q⟩:=h
  refine⟨_,(Ad (Am (i:=2) Bu.nd rfl (Or.inl rfl) (Yp (Vl (pv 1) Ah Yk) rfl rfl (by simp) (by decide)))
   (Ad (Am (i:=3) Bu.nd rfl (Or.inl rfl) (Ax (Aa (pv 1) Ae)))
   (Ad (Am (i:=4) Bu.nd rfl (Or.inl rfl) Ah)
   (Ad (GJ PassesOwn.never (Ar Ys (pv 4) (Bd Bo (by rfl) T.len PySem.boot_len (Aa (pv 3) Ae)) (Ba _)) (Ad (Am (i:=5) Bu.nd rfl (Or.inl rfl) (Aw Ak (pv 3) (pv 4) (fun _ _=>rfl)))
   (Ad (Fz PassesOwn.never rfl (Bw (pv 0)) (Bk (i:=6) Bu.nd rfl (Or.inl rfl)) (Af (Bl (PW.pt (Fx (Ar Ce (pF T.cl (pv 6)) (pv 5) (Ba _)) (En (Dg (Cu (hu1 hr) (pF T.cl (pv 6)) (pv 2)))))) (Ad (Ho (hu1 hr) (pv 2) (pF T.cl (pv 6)) (CG Ip (Br (hu1 hr) (pv 2) (pv 5) (fun _ _=>rfl)) Ah) rfl)
   (Af (Ca (Dj PySem.F.plainAttrs_list PySem.F.slot_list_append PySem.F.type_list_append Cv (pv 3) (Aa (pF T.cl (pv 6)) Ae))))) Aq)))
   (Af (Ae8 (i:=4) Bu.nd rfl (Or.inl rfl) Ah Ah7)))))
   (Af (Ai (pv 2))))))),?_⟩
  refine fun sd hsd=>⟨_,rfl,Ab,[(Sum.inl g,V.int 0)],rfl,by show 1<=15;decide,_,rfl,by show 1<=sizeLine;decide,fun rl hrl=>?_⟩
  have hrl0:H rl=none:=CP (CP hrl)
  have b0:Bs C H (upd (upd (upd H sd (.dK [])) sd (.dK (FQ [] [(Sum.inl g,V.int 0)]))) rl (.lst [V.int g])) sd rl [(g,0)]:=by
   have e1:Ext C H (upd (upd H sd (.dK [])) sd (.dK (FQ [] [(Sum.inl g,V.int 0)]))):=(Ext.new C hsd _).Zh hsd Ab _
   have nw:rl≠sd:=fun z=>by rw[z,Ab]at hrl;cases hrl
   exact⟨e1.lay hrl _,hsd,hrl0,by rw[Ac nw.symm,Ab];rfl,Ab⟩
  generalize upd (upd (upd H sd (.dK [])) sd (.dK (FQ [] [(Sum.inl g,V.int 0)]))) rl (.lst [V.int g])=Hs at b0 ⊢
  generalize els:Vbnlag.pairs (items.map (·.2))=ls at q
  have lsl:ls.length=items.length:=by rw[← els,pairs_len,List.length_map]
  refine⟨fun m σ H1=>∃es,∃p:Nat,∃v u,σ=[some (.ref l),some (.int g),some (.ref sd),some (.ref rl),some (.int p),v,u]∧Bs C H H1 sd rl es∧RX ls g es p∧m=ls.length + 1 - p,⟨_,[(g,0)],0,none,none,rfl,b0,RX.start ls g,rfl⟩,?_⟩
  rintro m σ H1 ⟨es,p,v,u,rfl,bs,bi,rfl⟩
  have few:=YQ bi.nd bi.pa
  refine⟨_,rfl,_,rfl,rl,_,rfl,.inl (.of bs.hr),_,_,rfl,rfl,_,rfl,Bc (fun h1=>?_) (fun h1=>?_)⟩
  ·have h1:p < es.length:=by
    have:=of_decide_eq_true h1
    rw[List.length_map]at this
    omega
   refine⟨fun σ' H'=>∃es',∃v u,σ'=[some (.ref l),some (.int g),some (.ref sd),some (.ref rl),some (.int ((p + 1:Nat):Int)),v,u]∧Bs C H H' sd rl es'∧RX ls g es' (p + 1),fun σ' H' ⟨es',v,u,a1,a2,a3⟩=>⟨_,by omega,es',p + 1,v,u,a1,a2,a3,rfl⟩,?_⟩
   have hc:es[p]?=some es[p]:=List.getElem?_eq_getElem h1
   refine⟨_,rfl,_,rfl,rl,_,_,V.int es[p].1,rfl,rfl,.of bs.hr,Jr (by rw[List.getElem?_map,hc];rfl),?_⟩
   have bt:=bi.turn hc
   generalize es[p]=c at bt
   refine⟨_,rfl,l,rfl,⟨_,bs.ext.Dn hl⟩,?_⟩
   refine Dy (J:=Itl K l) (n:=items.length) (fun i σ H2=>∃es',∃v,σ=[some (.ref l),some (.int g),some (.ref sd),some (.ref rl),some (.int p),some (.int c.1),v]∧Bs C H H2 sd rl es'∧JL ls g (Vbnlag.pairs ((items.take i).map (·.2))) es' p c)
    ⟨es,u,rfl,bs,bt⟩
    (fun i σ H2 hi ⟨es',v,a1,a2,a3⟩=>⟨_,V.ref items[i].1,a2.ext.Dn hl,by rw[List.getElem?_map,List.getElem?_eq_getElem hi];rfl⟩)
    (fun σ H2 ⟨es',v,a1,a2,a3⟩=>⟨_,a2.ext.Dn hl,by rw[List.length_map];exact Nat.le_refl _⟩)
    (fun i x σ H2 H3 hi ⟨es',v,a1,a2,a3⟩ ⟨y1,y2⟩=>?_)
    (fun σ H2 ⟨es',v,a1,a2,a3⟩=>?_)
   ·subst y1 a1
    have y3:=y2 _ (a2.ext.Dn hl)
    rw[List.getElem?_map,List.getElem?_eq_getElem hi]at y3
    cases y3
    have tk:Vbnlag.pairs ((items.take (i + 1)).map (·.2))=Vbnlag.pairs ((items.take i).map (·.2))++[(items[i].2.a,items[i].2.b)]:=by
     rw[List.take_succ,List.getElem?_eq_getElem hi,List.map_append,Ez]
     rfl
    have ha:=(hac _ (List.getElem_mem hi)).ext a2.ext
    have few2:=YQ a3.nd a3.pa
    refine⟨_,rfl,_,_,rfl,ha.b_ T.cl,_,rfl,_,_,rfl,rfl,_,rfl,Bc (fun h2=>?_) (fun h2=>?_)⟩
    ·have h2:items[i].2.b=c.1:=of_decide_eq_true h2
     refine⟨_,rfl,_,_,rfl,ha.a_ T.cl,_,rfl,sd,_,rfl,DW.k (k:=Sum.inl _) a2.hs,_,rfl,?_⟩
     rw[Ar1]
     refine Bc (fun h3=>?_) (fun h3=>?_)
     ·have nx:items[i].2.a∉es'.map (·.1):=fun m=>by rw[decide_eq_true m]at h3;cases h3
      have hcm:(c.1,c.2)∈es':=List.mem_of_getElem? a3.cu
      refine⟨_,rfl,_,rfl,sd,V.int c.2,rfl,by rw[← Jo a3.nd hcm];exact DW.k (k:=Sum.inl _) a2.hs,_,_,rfl,rfl,_,rfl,_,rfl,_,_,rfl,ha.a_ T.cl,sd,_,rfl,.inl ⟨_,Sum.inl items[i].2.a,a2.hs,rfl,by rw[List.length_map];exact Bj (by omega),rfl⟩,?_⟩
      have b2:=a2.put (k:=c.2 + 1) nx
      have ek:(c.2:Int) + 1=((c.2 + 1:Nat):Int):=by omega
      have e1:Ext C H (upd H3 sd (.dK (putK (dS es') (Sum.inl items[i].2.a) (.int ((c.2:Int) + 1))))):=a2.ext.Zh a2.ns a2.hs _
      have hr1:upd H3 sd (.dK (putK (dS es') (Sum.inl items[i].2.a) (.int ((c.2:Int) + 1)))) rl=some (.lst (es'.map fun e=>V.int e.1)):=by rw[Ac a2.ne.symm];exact a2.hr
      refine⟨_,rfl,tyL hr1,_,rfl,_,_,rfl,((hac _ (List.getElem_mem hi)).ext e1).a_ T.cl,rl,_,_,rfl,rfl,hr1,by rw[List.length_map];exact Bj (by omega),es'++[(items[i].2.a,c.2 + 1)],_,rfl,?_,?_⟩
      ·dsimp only
       rw[ek]
       exact b2
      ·rw[tk]
       exact a3.new (by rw[← els];exact Jk.mpr ⟨items[i].2,List.mem_map.mpr ⟨items[i],List.getElem_mem hi,rfl⟩,rfl,rfl⟩) h2 nx
     ·have nx:items[i].2.a∈es'.map (·.1):=by simpa using h3
      exact⟨es',_,rfl,a2,by rw[tk];exact a3.pass fun _=>nx⟩
    ·exact⟨es',_,rfl,a2,by rw[tk];exact a3.pass fun z=>absurd z (of_decide_eq_false h2)⟩
   ·subst a1
    rw[List.take_length,els]at a3
    exact⟨_,rfl,_,_,rfl,rfl,es',some (.int c.1),v,rfl,a2,a3.end_⟩
  ·have h1:es.length<=p:=by
    have:=of_decide_eq_false h1
    rw[List.length_map]at this
    omega
   exact⟨_,rfl,q H1 sd es bs.ext bs.hs bi.nd (bi.done h1)⟩
end
end Nm
namespace Nm
open PySem PySem.Spec PyProof.Rows L2
section
variable {P:Program}{w:World}{K:PySem.W.Frag}{mg:Str->Option Value}{base:Heap}{C:Cl}
theorem Ad3 {ls:List (Int×Int)}{x y:Int}:∀{j:Nat},Path ls j x y->∃k,Short ls k x y:=by
 intro j
 induction j using Nat.strongRecOn with
 | _ j ih =>
  intro p
  by_cases h:∃i,i < j∧Path ls i x y
  ·obtain⟨i,hi,pi⟩:=h
   exact ih i hi pi
  ·exact⟨j,p,fun i pi=>Nat.le_of_not_lt fun z=>h ⟨i,z,pi⟩⟩
noncomputable def nearer (es:List (Int×Nat)) (p:Addr×Vbnlag.Act):Bool:=@decide (∃k,(p.2.b,k)∈es∧(p.2.a,k + 1)∈es) (Classical.propDecidable _)
theorem FP {es:List (Int×Nat)}{p:Addr×Vbnlag.Act}:nearer es p=true↔∃k,(p.2.b,k)∈es∧(p.2.a,k + 1)∈es:=by
 unfold nearer
 exact @decide_eq_true_iff _ (Classical.propDecidable _)
theorem Ai3 {es:List (Int×Nat)}(nd:(es.map (·.1)).Nodup){x:Int}{j k:Nat}(h:(x,j)∈es)(g:(x,k)∈es):j=k:=by
 have h1:=Jo nd h
 have h2:=Jo nd g
 rw[h1]at h2
 have:=V.int.inj (Option.some.inj h2)
 omega
def TF (K:PySem.W.Frag)(C:Cl):Sp:=fun vs H Q _=>∃l a g s,∃items:List (Addr×Vbnlag.Act),vs=[.ref l,.int a,.int g]∧WF s∧Jx C H∧SqL K H l (items.map fun p=>V.ref p.1)∧(∀p∈items,BR C H p.1 p.2)∧items.length<=100∧(∀p∈items,p.2∈s.acts)∧(items.map (·.2)).Nodup∧Vbnlag.leads (Vbnlag.pairs (items.map (·.2))) a g=true ∧
 ∀H' l',Ext C H H'->H l'=none->H' l'=some (.lst ((Vbnlag.way (byKey (items.map (·.2))) (Vbnlag.distance (Vbnlag.pairs (byKey (items.map (·.2)))) a g (byKey (items.map (·.2))).length) a g).map V.int)) ->
  (Vbnlag.way (byKey (items.map (·.2))) (Vbnlag.distance (Vbnlag.pairs (byKey (items.map (·.2)))) a g (byKey (items.map (·.2))).length) a g).length<=1000->Q (.ref l') H'
theorem Bh:Aj ["acts", "start", "goal", "steps", "nearing", "way", "upper", "step", "act"] ["acts", "start", "goal"] (Ag (top 84)):=⟨rfl,rfl,rfl,by decide +kernel,rfl,by decide +kernel,by decide +kernel⟩
theorem Ot {f:Addr}{fd:FuncData}(F:Fun K "shortest_way" "shortest_way" (top 84) f fd)(T:Txt K mg C)(ap:C.Apart)(B:Aa4 mg base C.tm)(hcx:fd.code= .ref C.m1)(G_fewest_steps:Ok P w K mg base "fewest_steps" 1 ["acts", "goal"] (Tz K C)):Ay P w K mg base CX0 3 f fd ["acts", "start", "goal"] (TF K C):=by
 refine F.okC Bh (fun vs H Q E h=>?_) (fun cdv A outer s H vs Q E hcd hr h=>?_)
 ·obtain⟨_,_,_,_,_,rfl,_⟩:=h
  rfl
 ·obtain⟨l,a,g,st,items,rfl,wf,tb,hl,hac,hn,hin,nd,ld,q⟩:=h
  refine⟨_,(Ad (Am (i:=3) Bh.nd rfl (Or.inr rfl) (Al G_fewest_steps (hr.mono (by decide)) (Aa (pv 0) (Aa (pv 2) Ae))))
   (Ad (Es (i:=4) rfl Bh.nd rfl rfl rfl (Bw (pv 0)) (BJ (own:=[("act",8)]) (by kernel_rfl)) (fun _ _ _ _ _=>(Bk (i:=8) Bh.nd rfl (Or.inl rfl))) (fun _ _ _ _ _=>(Ji (PW.pt (Fx (Dg (J4 (hu1 hr) (pF T.cl (pv 8)) (pv 3))) (En (Ar Ce (Br (hu1 hr) (pv 3) (pF T.cl (pv 8)) (fun _ _=>rfl)) (CG Ip (Br (hu1 hr) (pv 3) (pF T.cl (pv 8)) (fun _ _=>rfl)) Ah) (Ba _))))))) (fun _ _ _ _ _=>(pv 8)))
   (Ad (Am (i:=5) Bh.nd rfl (Or.inl rfl) (Ax Ae))
   (Ad (Am (i:=6) Bh.nd rfl (Or.inr rfl) (pv 1))
   (Ad (GJ PassesOwn.never (Ar Qx (pv 6) (pv 2) (Ba _)) (Ad (Am (i:=7) Bh.nd rfl (Or.inl rfl) (Al4 (C:=C) (t:=C.tm) (clos:=[]) (y:= "act") (i:=8) (k:=0) rfl (hr.mono (by decide)) ?L ((Qv rfl Bh.nd (Bw (pv 4)) (BJ (own:=[("act",8)]) (by kernel_rfl)) (fun _ _ _ _ _=>(Bk (i:=8) Bh.nd rfl (Or.inl rfl))) (fun _ _ _ _ _=>(Ji (Ar Ce (pF T.cl (pv 8)) (pv 6) (Ba _)))) (fun _ _ _ _ _=>(pv 8)))) (fun _ _ _ _ _=>pF T.cl (pv 8)) T.min))
   (Ad (Ca (Dj PySem.F.plainAttrs_list PySem.F.slot_list_append PySem.F.type_list_append Cv (pv 5) (Aa (pF T.cl (pv 7)) Ae)))
   (Af (Am (i:=6) Bh.nd rfl (Or.inr rfl) (pF T.cl (pv 7)))))))
   (Af (Ai (pv 5)))))))),?_⟩
  case L =>
   refine⟨B,ap.sep (by simp[Cl.tabs]),hcd.symm.trans hcx,rfl,rfl,rfl,fun _ _ _ _ _=>rfl,⟨rfl,rfl,rfl,rfl,rfl,Bh.nd,by decide +kernel,(by decide +kernel:∀z∈(["acts", "start", "goal", "steps", "nearing", "way", "upper", "step", "act"]:List Str),z≠ "act" ->_),fun z hz=>?_,fun z c h=>nomatch h⟩⟩
   have m:=PySem.mem_of_lookup hz
   simp only[List.mem_cons,Prod.mk.injEq,List.not_mem_nil,or_false]at m
   obtain⟨_,h⟩:=m
   cases h
  generalize els:Vbnlag.pairs (items.map (·.2))=ls at ld
  refine⟨_,rfl,_,rfl,l,g,items,rfl,hl,hac,hn,fun H1 sd es e1 hsd es1 es2=>?_⟩
  rw[els]at es2
  refine⟨_,rfl,l,rfl,⟨_,e1.Dn hl⟩,fun D hD=>?_⟩
  refine EY (C:=C) items (fun p=>V.ref p.1) (nearer es) (fun p=>V.ref p.1) (e1.Dn hl) hD (by omega) (fun p hp H' N e hT hF=>?_) (fun H2 e2 hnl=>?_)
  ·have hp2:=((hac p hp).ext e1).ext e
   have hs2:=e.dK hsd
   have inl:(p.2.a,p.2.b)∈ls:=by rw[← els];exact Jk.mpr ⟨p.2,List.mem_map.mpr ⟨p,hp,rfl⟩,rfl,rfl⟩
   refine⟨rfl,_,rfl,_,_,rfl,hp2.b_ T.cl,_,rfl,sd,_,rfl,DW.k (k:=Sum.inl _) hs2,_,rfl,?_⟩
   rw[Ar1]
   refine Bc (fun h1=>?_) (fun h1=>?_)
   ·have h1:=of_decide_eq_true h1
    obtain⟨⟨b',k⟩,hk,eb⟩:=List.mem_map.mp h1
    dsimp only at eb
    subst eb
    obtain⟨j,sj⟩:=Ad3 (.cons inl ((es2 _ _).mp hk).1)
    have ha:=(es2 _ _).mpr sj
    refine⟨_,rfl,_,rfl,_,_,rfl,hp2.a_ T.cl,sd,V.int j,rfl,by rw[← Jo es1 ha];exact DW.k (k:=Sum.inl _) hs2,_,rfl,_,rfl,_,_,rfl,hp2.b_ T.cl,sd,V.int k,rfl,by rw[← Jo es1 hk];exact DW.k (k:=Sum.inl _) hs2,_,_,rfl,rfl,_,_,rfl,rfl,_,rfl,Bc (fun h2=>⟨_,rfl,hT ?_ _ (Ext.refl _ _)⟩) (fun h2=>hF ?_ _ (Ext.refl _ _))⟩
    ·have h2:=of_decide_eq_true h2
     have:j=k + 1:=by omega
     subst this
     exact FP.mpr ⟨k,hk,ha⟩
    ·have h2:=of_decide_eq_false h2
     refine Bool.eq_false_iff.mpr fun z=>?_
     obtain⟨k',z1,z2⟩:=FP.mp z
     have:=Ai3 es1 z1 hk
     have:=Ai3 es1 z2 ha
     omega
   ·have h1:=of_decide_eq_false h1
    refine hF (Bool.eq_false_iff.mpr fun z=>?_) _ (Ext.refl _ _)
    obtain⟨k',z1,z2⟩:=FP.mp z
    exact h1 (List.mem_map.mpr ⟨_,z1,rfl⟩)
  ·have e12:=e1.trans e2
   refine⟨by show 0<=sizeLine;decide,fun wy hwy=>⟨_,rfl,?_⟩⟩
   have nwy:H wy=none:=e12.free hwy
   have e3:Ext C H (upd H2 wy (.lst [])):=e12.lay hwy _
   have hwy3:upd H2 wy (.lst []) wy=some (.lst (([]:List Int).map V.int)):=Ab
   have hnl3:upd H2 wy (.lst []) D=some (.lst ((items.filter (nearer es)).map fun p=>V.ref p.1)):=by rw[Ac (fun z=>by rw[← z,hnl]at hwy;cases hwy)];exact hnl
   have dw:D≠wy:=fun z=>by rw[← z,hnl]at hwy;cases hwy
   generalize upd H2 wy (.lst [])=H3 at e3 hwy3 hnl3 ⊢
   generalize eL:byKey (items.map (·.2))=L at q
   have pL:L.Perm (items.map (·.2)):=by rw[← eL];exact X7 _
   have soL:L.Pairwise fun x y=>x.key < y.key:=by
    rw[← eL]
    exact UL wf nd fun x hx=>by
     obtain⟨p,hp,rfl⟩:=List.mem_map.mp hx
     exact hin p hp
   have shL:∀{k:Nat} {x:Int},Short (Vbnlag.pairs L) k x g↔Short ls k x g:=by
    intro k x
    rw[← els]
    exact W7 pL
   have ld2:Vbnlag.leads (Vbnlag.pairs L) a g=true:=by rw[Xx pL,els];exact ld
   have sh0:=Ri ld2
   rw[pairs_len]at sh0
   have dl:=(Gy (Vbnlag.pairs L) a g L.length).1
   have lenL:L.length<=100:=by rw[pL.length_eq,List.length_map];exact hn
   generalize Vbnlag.distance (Vbnlag.pairs L) a g L.length=k0 at sh0 dl q
   refine⟨fun m σ H4=>∃u so v v2,σ=[some (.ref l),some (.int a),some (.int g),some (.ref sd),some (.ref D),some (.ref wy),some (.int u),v,v2]∧Ext C H H4∧H4 wy=some (.lst (so.map V.int))∧H4 D=some (.lst ((items.filter (nearer es)).map fun p=>V.ref p.1))∧Short ls m u g∧so++Vbnlag.way L m u g=Vbnlag.way L k0 a g∧so.length + m<=100,
    ⟨k0,a,[],none,none,rfl,e3,hwy3,hnl3,shL.mp sh0,rfl,by simp;omega⟩,?_⟩
   rintro m σ H4 ⟨u,so,v,v2,rfl,e4,hw4,hn4,sh,ew,len⟩
   refine⟨_,rfl,_,rfl,_,_,rfl,rfl,_,rfl,Bc (fun h1=>?_) (fun h1=>?_)⟩
   ·have h1:u≠g:=by simpa using h1
    obtain⟨m',rfl⟩:=Ad2 sh h1
    refine⟨fun σ' H'=>∃u so v v2,σ'=[some (.ref l),some (.int a),some (.int g),some (.ref sd),some (.ref D),some (.ref wy),some (.int u),v,v2]∧Ext C H H'∧H' wy=some (.lst (so.map V.int))∧H' D=some (.lst ((items.filter (nearer es)).map fun p=>V.ref p.1))∧Short ls m' u g∧so++Vbnlag.way L m' u g=Vbnlag.way L k0 a g∧so.length + m'<=100,fun σ' H' z=>⟨m',Nat.lt_succ_self _,z⟩,?_⟩
    refine⟨_,rfl,D,rfl,⟨_,.of hn4⟩,fun D2 hD2=>?_⟩
    refine EY (C:=C) (items.filter (nearer es)) (fun p=>V.ref p.1) (fun p=>decide (p.2.a=u)) (fun p=>V.ref p.1) (.of hn4) hD2 (Nat.le_trans (List.length_filter_le _ _) (by omega)) (fun p hp H' N e hT hF=>?_) (fun H5 e5 hl5=>?_)
    ·exact⟨rfl,_,rfl,_,_,rfl,((hac p (List.mem_filter.mp hp).1).ext (e4.trans e)).a_ T.cl,_,rfl,_,_,rfl,rfl,_,rfl,Bc (fun h2=>⟨_,rfl,hT h2 _ (Ext.refl _ _)⟩) (fun h2=>hF h2 _ (Ext.refl _ _))⟩
    ·have e45:=e4.trans e5
     have nearOf:∀p∈(items.filter (nearer es)).filter fun p=>decide (p.2.a=u),p∈items∧p.2.a=u∧Short ls m' p.2.b g:=fun p hp=>by
      obtain⟨h2,h3⟩:=List.mem_filter.mp hp
      obtain⟨h4,h5⟩:=List.mem_filter.mp h2
      have h3:=of_decide_eq_true h3
      obtain⟨k',z1,z2⟩:=FP.mp h5
      rw[h3]at z2
      have:=Zg ((es2 _ _).mp z2) sh
      have:k'=m':=by omega
      subst this
      exact⟨h4,h3,(es2 _ _).mp z1⟩
     have inOf:∀y∈L,y.a=u->Short ls m' y.b g->∃p∈(items.filter (nearer es)).filter (fun p=>decide (p.2.a=u)),p.2=y:=fun y hy ya ys=>by
      obtain⟨p,hp,ep⟩:=List.mem_map.mp (pL.mem_iff.mp hy)
      refine⟨p,List.mem_filter.mpr ⟨List.mem_filter.mpr ⟨hp,FP.mpr ⟨m',?_,?_⟩⟩,decide_eq_true (by rw[ep];exact ya)⟩,ep⟩
      ·rw[ep];exact(es2 _ _).mpr ys
      ·rw[ep,ya];exact(es2 _ _).mpr sh
     refine⟨Addr×Vbnlag.Act,_,(·.1),fun p=>p.2.key,D2,rfl,e45.tab tb _ (by simp[Cl.tabs]),.of hl5,?_,fun p hp H6 e6=>?_,fun p hp H6 e6 hmin=>?_⟩
     ·obtain⟨y,hy,ya,ys⟩:=Ab0 (shL.mpr sh)
      obtain⟨p,hp,_⟩:=inOf y hy ya (shL.mp ys)
      exact List.ne_nil_of_mem hp
     ·exact⟨_,rfl,_,_,rfl,((hac p (nearOf p hp).1).ext (e45.trans e6)).key T.cl,rfl,Ext.refl _ _⟩
     ·obtain⟨p1,p2,p3⟩:=nearOf p hp
      have e46:=e45.trans e6
      have e56:=e5.trans e6
      have hp6:=(hac p p1).ext e46
      refine⟨_,rfl,tyL (e56.lst hw4),_,rfl,_,_,rfl,hp6.key T.cl,wy,_,_,rfl,rfl,e56.lst hw4,by rw[List.length_map];exact Bj (by omega),?_⟩
      have e7:Ext C H (upd H6 wy (.lst (so.map V.int++[V.int p.2.key]))):=e46.Hj nwy (e56.lst hw4) _
      refine⟨_,rfl,_,_,rfl,((hac p p1).ext e7).b_ T.cl,p.2.b,so++[p.2.key],_,_,rfl,e7,by rw[Ab,List.map_append];rfl,by rw[Ac dw];exact e56.lst hn4,p3,?_,by rw[List.length_append,List.length_singleton];omega⟩
      have pin:p.2∈L:=pL.mem_iff.mpr (List.mem_map.mpr ⟨p,p1,rfl⟩)
      rw[← ew,Aa9 soL (shL.mpr sh) pin p2 (shL.mpr p3) (fun y hy ya ys=>by
       obtain⟨p',hp',e'⟩:=inOf y hy ya (shL.mp ys)
       have:p.2.key<=p'.2.key:=hmin p' hp'
       rw[e']at this
       exact this),List.append_assoc]
      rfl
   ·have h1:u=g:=by simpa using h1
    subst h1
    have:=W6 sh
    subst this
    have ew:so=Vbnlag.way L k0 a u:=by rw[← ew];simp[Vbnlag.way]
    rw[← ew]at q
    exact⟨_,rfl,q H4 wy e4 nwy hw4 (by omega)⟩
def WL (C:Cl):Sp:=fun vs H Q _=>∃k s R a x d,vs=[.ref k,.ref a,.int d]∧Kp C H k s R∧BR C H a x∧x∈Vbnlag.counting s d∧x∉Vbnlag.locked s d∧∀H' l,Ext C H H'->H l=none->H' l=some (.lst ((Vbnlag.ring s d x).map V.int))->(Vbnlag.ring s d x).length<=1000->Q (.ref l) H'
theorem Ak4:Aj ["kept", "act", "d"] ["kept", "act", "d"] (Ag (top 85)):=⟨rfl,rfl,rfl,by decide +kernel,rfl,by decide +kernel,by decide +kernel⟩
theorem Am0 {f:Addr}{fd:FuncData}(F:Fun K "ring" "ring" (top 85) f fd)(T:Txt K mg C)(G_shortest_way:Ok P w K mg base "shortest_way" 3 ["acts", "start", "goal"] (TF K C))(G_locked_before:Ok P w K mg base "locked_before" 8 ["kept", "act", "d"] (T5 C)):Ay P w K mg base CX0 9 f fd ["kept", "act", "d"] (WL C):=by
 refine F.ok Ak4 (fun vs H Q E h=>?_) (fun cdv A outer s H vs Q E hr h=>?_)
 ·obtain⟨_,_,_,_,_,_,rfl,_⟩:=h
  rfl
 ·obtain⟨k,st,R,a,x,d,rfl,hk,ha,hx,nx,q⟩:=h
  refine⟨_,(Af (Ai (Al G_shortest_way (hr.mono (by decide)) (Aa (Al G_locked_before (hr.mono (by decide)) (Aa (pv 0) (Aa (pv 1) (Aa (pv 2) Ae)))) (Aa (pF T.cl (pv 1)) (Aa (pF T.cl (pv 1)) Ae)))))),?_⟩
  refine⟨_,rfl,_,rfl,_,rfl,k,st,R,a,x,d,rfl,hk,ha,hx,fun H1 l out e1 n1 hl hm eo ol=>?_⟩
  have hk1:=hk.ext e1
  have ha1:=ha.ext e1
  obtain⟨pre,post,c1,c2,c3,c4⟩:=Al0 hk.wf hx nx
  refine⟨_,rfl,_,_,rfl,ha1.b_ T.cl,_,rfl,_,_,rfl,ha1.a_ T.cl,l,x.b,x.a,st,out,rfl,hk.wf,hk1.tb,.of hl,fun p hp=>hk1.aa p (hm p hp),by omega,fun p hp=>hk.Q0 (hm p hp),?_,?_,fun H2 l2 e2 n2 hl2 ln=>?_⟩
  ·rw[eo,c3]
   obtain⟨r,er,su⟩:=Cw pre []
   rw[er,List.nil_append]
   have nd:=FZ hk.wf d
   rw[c1]at nd
   exact(List.nodup_append.mp nd).1.sublist su
  ·rw[eo,c3]
   exact c4
  ·rw[eo]at hl2 ln
   exact q H2 l2 (e1.trans e2) (e1.free n2) hl2 ln
end
end Nm
namespace Nm
open PySem PySem.Spec PyProof.Rows L2
section
variable {P:Program}{w:World}{K:PySem.W.Frag}{mg:Str->Option Value}{base:Heap}{C:Cl}
theorem Zk:Aj ["number"] ["number"] (Ag (top 32)):=⟨rfl,rfl,rfl,by decide +kernel,rfl,by decide +kernel,by decide +kernel⟩
theorem Xa:Aj ["number"] ["number"] (Ag (top 33)):=⟨rfl,rfl,rfl,by decide +kernel,rfl,by decide +kernel,by decide +kernel⟩
theorem Uc:Aj ["number"] ["number"] (Ag (top 34)):=⟨rfl,rfl,rfl,by decide +kernel,rfl,by decide +kernel,by decide +kernel⟩
theorem Ub:Aj ["number"] ["number"] (Ag (top 35)):=⟨rfl,rfl,rfl,by decide +kernel,rfl,by decide +kernel,by decide +kernel⟩
theorem Ks {z lo hi:Int}(h:decide (lo<=z)=true):Vbnlag.within z lo hi=decide (z<=hi):=by unfold Vbnlag.within;rw[h];rfl
theorem Ku {z lo hi:Int}(h:decide (lo<=z)=false):Vbnlag.within z lo hi=false:=by unfold Vbnlag.within;rw[h];rfl
theorem Zx {f:Addr}{fd:FuncData}(F:Fun K "is_key" "is_key" (top 32) f fd)(T:Txt K mg C):Ay P w K mg base CX0 1 f fd ["number"] (Ci Vbnlag.keyOk):=by
 refine F.ok Zk (fun vs H Q E h=>?_) (fun cdv A outer s H vs Q E hr h=>?_)
 ·obtain⟨z,rfl,_⟩:=h
  rfl
 ·obtain⟨z,rfl,k⟩:=h
  refine⟨_,Af (Ai (Io GK GK Ah (pv 0) (pk T.RQ))),?_⟩
  refine⟨_,rfl,_,_,rfl,rfl,_,rfl,Bc (fun h=>⟨_,_,rfl,rfl,?_⟩) fun h=>?_⟩
  ·rw[show Vbnlag.keyOk z=decide (z<=1000000000) from Ks h]at k
   exact k
  ·rw[show Vbnlag.keyOk z=false from Ku h]at k
   exact k
theorem Xe {f:Addr}{fd:FuncData}(F:Fun K "is_page" "is_page" (top 33) f fd)(T:Txt K mg C):Ay P w K mg base CX0 1 f fd ["number"] (Ci fun z=>Vbnlag.within z 1 Vbnlag.MOSTPAGE):=by
 refine F.ok Xa (fun vs H Q E h=>?_) (fun cdv A outer s H vs Q E hr h=>?_)
 ·obtain⟨z,rfl,_⟩:=h
  rfl
 ·obtain⟨z,rfl,k⟩:=h
  refine⟨_,Af (Ai (Io GK GK Ah (pv 0) (pk T.Rp))),?_⟩
  refine⟨_,rfl,_,_,rfl,rfl,_,rfl,Bc (fun h=>⟨_,_,rfl,rfl,?_⟩) fun h=>?_⟩
  ·dsimp only at k
   rw[show Vbnlag.within z 1 Vbnlag.MOSTPAGE=decide (z<=1000000) from Ks h]at k
   exact k
  ·dsimp only at k
   rw[show Vbnlag.within z 1 Vbnlag.MOSTPAGE=false from Ku h]at k
   exact k
theorem Um {f:Addr}{fd:FuncData}(F:Fun K "is_demand" "is_demand" (top 34) f fd)(T:Txt K mg C):Ay P w K mg base CX0 1 f fd ["number"] (Ci fun z=>Vbnlag.within z 0 1000):=by
 refine F.ok Uc (fun vs H Q E h=>?_) (fun cdv A outer s H vs Q E hr h=>?_)
 ·obtain⟨z,rfl,_⟩:=h
  rfl
 ·obtain⟨z,rfl,k⟩:=h
  refine⟨_,Af (Ai (Io GK GK Ah (pv 0) (pk T.Nr))),?_⟩
  refine⟨_,rfl,_,_,rfl,rfl,_,rfl,Bc (fun h=>⟨_,_,rfl,rfl,?_⟩) fun h=>?_⟩
  ·dsimp only at k
   rw[show Vbnlag.within z 0 1000=decide (z<=1000) from Ks h]at k
   exact k
  ·dsimp only at k
   rw[show Vbnlag.within z 0 1000=false from Ku h]at k
   exact k
theorem Uk {f:Addr}{fd:FuncData}(F:Fun K "is_window" "is_window" (top 35) f fd)(T:Txt K mg C):Ay P w K mg base CX0 1 f fd ["number"] (Ci fun z=>Vbnlag.within z 1 (Vbnlag.LAST + 1)):=by
 refine F.ok Ub (fun vs H Q E h=>?_) (fun cdv A outer s H vs Q E hr h=>?_)
 ·obtain⟨z,rfl,_⟩:=h
  rfl
 ·obtain⟨z,rfl,k⟩:=h
  refine⟨_,Af (Ai (Io GK GK Ah (pv 0) (CG Ip (pk T.Tc) Ah))),?_⟩
  refine⟨_,rfl,_,_,rfl,rfl,_,rfl,Bc (fun h=>⟨_,_,rfl,rfl,_,_,rfl,rfl,?_⟩) fun h=>?_⟩
  ·dsimp only at k
   rw[show Vbnlag.within z 1 (Vbnlag.LAST + 1)=decide (z<=474815) from Ks h]at k
   exact k
  ·dsimp only at k
   rw[show Vbnlag.within z 1 (Vbnlag.LAST + 1)=false from Ku h]at k
   exact k
def Qc:Sp:=fun vs H Q _=>∃a b c d e,vs=[.int a,.int b,.int c,.int d,.int e]∧Q (.bl (Vbnlag.codeOk ⟨a,b,c,d,e⟩)) H
theorem Xb:Aj ["limit", "works", "authors", "window", "span"] ["limit", "works", "authors", "window", "span"] (Ag (top 87)):=⟨rfl,rfl,rfl,by decide +kernel,rfl,by decide +kernel,by decide +kernel⟩
theorem Xf {f:Addr}{fd:FuncData}(F:Fun K "is_code" "is_code" (top 87) f fd)(T:Txt K mg C)(G_is_day:Ok P w K mg base "is_day" 1 ["number"] (Ci Vbnlag.dayOk))(G_is_demand:Ok P w K mg base "is_demand" 1 ["number"] (Ci fun z=>Vbnlag.within z 0 1000))(G_is_window:Ok P w K mg base "is_window" 1 ["number"] (Ci fun z=>Vbnlag.within z 1 (Vbnlag.LAST + 1))) :
  Ay P w K mg base CX0 2 f fd ["limit", "works", "authors", "window", "span"] Qc:=by
 refine F.ok Xb (fun vs H Q E h=>?_) (fun cdv A outer s H vs Q E hr h=>?_)
 ·obtain⟨_,_,_,_,_,rfl,_⟩:=h
  rfl
 ·obtain⟨a,b,c,d,e,rfl,q⟩:=h
  refine⟨_,(Af (Ai (J3 (Al G_is_day (hr.mono (by decide)) (Aa (pv 0) Ae)) (J3 (Al G_is_demand (hr.mono (by decide)) (Aa (pv 1) Ae)) (J3 (Al G_is_demand (hr.mono (by decide)) (Aa (pv 2) Ae)) (J3 (Al G_is_window (hr.mono (by decide)) (Aa (pv 3) Ae)) (Ug (Al G_is_day (hr.mono (by decide)) (Aa (pv 4) Ae))))))))),?_⟩
  unfold Vbnlag.codeOk at q
  dsimp only at q
  refine⟨_,rfl,a,rfl,_,rfl,Bc (fun h1=>?_) (fun h1=>?_)⟩
  ·have h1:Vbnlag.within a 0 Vbnlag.LAST=true:=h1
   rw[h1]at q
   refine⟨_,rfl,b,rfl,_,rfl,Bc (fun h2=>?_) (fun h2=>?_)⟩
   ·rw[show Vbnlag.within b 0 1000=true from h2]at q
    refine⟨_,rfl,c,rfl,_,rfl,Bc (fun h3=>?_) (fun h3=>?_)⟩
    ·rw[show Vbnlag.within c 0 1000=true from h3]at q
     refine⟨_,rfl,d,rfl,_,rfl,Bc (fun h4=>?_) (fun h4=>?_)⟩
     ·rw[show Vbnlag.within d 1 (Vbnlag.LAST + 1)=true from h4]at q
      exact⟨_,rfl,e,rfl,q⟩
     ·rw[show Vbnlag.within d 1 (Vbnlag.LAST + 1)=false from h4]at q
      exact q
    ·rw[show Vbnlag.within c 0 1000=false from h3]at q
     exact q
   ·rw[show Vbnlag.within b 0 1000=false from h2]at q
    exact q
  ·have h1:Vbnlag.within a 0 Vbnlag.LAST=false:=h1
   rw[h1]at q
   exact q
def Hi (C:Cl):Sp:=fun vs H Q _=>∃x dx a b c d e,vs=[.ref x,.int a,.int b,.int c,.int d,.int e]∧H x=some (.ins C.code dx [])∧∀H',(∀y,y≠x->H' y=H y)->H' x=some (.ins C.code dx (Ar2 ⟨a,b,c,d,e⟩))->Q .non H'
theorem Ak9:Aj ["self", "limit", "works", "authors", "window", "span"] ["self", "limit", "works", "authors", "window", "span"] (Ag (inClass (top 37) 0)):=⟨rfl,rfl,rfl,by decide +kernel,rfl,by decide +kernel,by decide +kernel⟩
theorem Am6 {f:Addr}{fd:FuncData}{q:Str}(F:Fun K "__init__" q (inClass (top 37) 0) f fd)(T:Txt K mg C):Ay P w K mg base CX0 1 f fd ["self", "limit", "works", "authors", "window", "span"] (Hi C):=by
 refine F.ok Ak9 (fun vs H Q E h=>?_) (fun cdv A outer s H vs Q E hr h=>?_)
 ·obtain⟨_,_,_,_,_,_,_,rfl,_⟩:=h
  rfl
 ·obtain⟨x,dx,a,b,c,d,e,rfl,hx,q⟩:=h
  refine⟨_,(Ad (BK (pv 0) (pv 1) rfl) (Ad (BK (pv 0) (pv 2) rfl) (Ad (BK (pv 0) (pv 3) rfl) (Ad (BK (pv 0) (pv 4) rfl) (Af (BK (pv 0) (pv 5) rfl)))))),?_⟩
  refine⟨_,rfl,_,rfl,x,C.code,dx,_,rfl,hx,T.cl.code,T.cl.Rm,by decide,?_⟩
  refine⟨_,rfl,_,rfl,x,C.code,dx,_,rfl,Ab,T.cl.code,T.cl.Rk,by show 1 < 1000;decide,?_⟩
  refine⟨_,rfl,_,rfl,x,C.code,dx,_,rfl,Ab,T.cl.code,T.cl.LQ,by show 2 < 1000;decide,?_⟩
  refine⟨_,rfl,_,rfl,x,C.code,dx,_,rfl,Ab,T.cl.code,T.cl.Od,by show 3 < 1000;decide,?_⟩
  refine⟨_,rfl,_,rfl,x,C.code,dx,_,rfl,Ab,T.cl.code,T.cl.S8,by show 4 < 1000;decide,?_⟩
  exact q _ (fun y hy=>by rw[Ac hy,Ac hy,Ac hy,Ac hy,Ac hy]) Ab
def JT (C:Cl):Sp:=fun vs H Q _=>∃x dx a b c,vs=[.ref x,.int a,.int b,.int c]∧H x=some (.ins C.work dx [])∧∀H',(∀y,y≠x->H' y=H y)->H' x=some (.ins C.work dx (Aq5 ⟨a,b,c⟩))->Q .non H'
theorem Ak6:Aj ["self", "key", "day", "author"] ["self", "key", "day", "author"] (Ag (inClass (top 38) 0)):=⟨rfl,rfl,rfl,by decide +kernel,rfl,by decide +kernel,by decide +kernel⟩
theorem Am3 {f:Addr}{fd:FuncData}{q:Str}(F:Fun K "__init__" q (inClass (top 38) 0) f fd)(T:Txt K mg C):Ay P w K mg base CX0 1 f fd ["self", "key", "day", "author"] (JT C):=by
 refine F.ok Ak6 (fun vs H Q E h=>?_) (fun cdv A outer s H vs Q E hr h=>?_)
 ·obtain⟨_,_,_,_,_,rfl,_⟩:=h
  rfl
 ·obtain⟨x,dx,a,b,c,rfl,hx,q⟩:=h
  refine⟨_,(Ad (BK (pv 0) (pv 1) rfl) (Ad (BK (pv 0) (pv 2) rfl) (Af (BK (pv 0) (pv 3) rfl)))),?_⟩
  refine⟨_,rfl,_,rfl,x,C.work,dx,_,rfl,hx,T.cl.work,T.cl.U3,by show 0 < 1000;decide,?_⟩
  refine⟨_,rfl,_,rfl,x,C.work,dx,_,rfl,Ab,T.cl.work,T.cl.U4,by show 1 < 1000;decide,?_⟩
  refine⟨_,rfl,_,rfl,x,C.work,dx,_,rfl,Ab,T.cl.work,T.cl.Nt,by show 2 < 1000;decide,?_⟩
  exact q _ (fun y hy=>by rw[Ac hy,Ac hy,Ac hy]) Ab
def JV (C:Cl):Sp:=fun vs H Q _=>∃x dx a b c,vs=[.ref x,.int a,.int b,.int c]∧H x=some (.ins C.name dx [])∧∀H',(∀y,y≠x->H' y=H y)->H' x=some (.ins C.name dx (Aq9 ⟨a,b,c⟩))->Q .non H'
theorem Ak7:Aj ["self", "key", "work", "page"] ["self", "key", "work", "page"] (Ag (inClass (top 39) 0)):=⟨rfl,rfl,rfl,by decide +kernel,rfl,by decide +kernel,by decide +kernel⟩
theorem Am4 {f:Addr}{fd:FuncData}{q:Str}(F:Fun K "__init__" q (inClass (top 39) 0) f fd)(T:Txt K mg C):Ay P w K mg base CX0 1 f fd ["self", "key", "work", "page"] (JV C):=by
 refine F.ok Ak7 (fun vs H Q E h=>?_) (fun cdv A outer s H vs Q E hr h=>?_)
 ·obtain⟨_,_,_,_,_,rfl,_⟩:=h
  rfl
 ·obtain⟨x,dx,a,b,c,rfl,hx,q⟩:=h
  refine⟨_,(Ad (BK (pv 0) (pv 1) rfl) (Ad (BK (pv 0) (pv 2) rfl) (Af (BK (pv 0) (pv 3) rfl)))),?_⟩
  refine⟨_,rfl,_,rfl,x,C.name,dx,_,rfl,hx,T.cl.name,T.cl.Vy,by show 0 < 1000;decide,?_⟩
  refine⟨_,rfl,_,rfl,x,C.name,dx,_,rfl,Ab,T.cl.name,T.cl.Sv,by show 1 < 1000;decide,?_⟩
  refine⟨_,rfl,_,rfl,x,C.name,dx,_,rfl,Ab,T.cl.name,T.cl.Sw,by show 2 < 1000;decide,?_⟩
  exact q _ (fun y hy=>by rw[Ac hy,Ac hy,Ac hy]) Ab
def Jf (C:Cl):Sp:=fun vs H Q _=>∃x dx a b c d e,vs=[.ref x,.int a,.int b,.int c,.int d,.int e]∧H x=some (.ins C.act dx [])∧∀H',(∀y,y≠x->H' y=H y)->H' x=some (.ins C.act dx (Bb2 ⟨a,b,c,d,e⟩))->Q .non H'
theorem Au0:Aj ["self", "key", "kind", "work", "a", "b"] ["self", "key", "kind", "work", "a", "b"] (Ag (inClass (top 40) 0)):=⟨rfl,rfl,rfl,by decide +kernel,rfl,by decide +kernel,by decide +kernel⟩
theorem Av0 {f:Addr}{fd:FuncData}{q:Str}(F:Fun K "__init__" q (inClass (top 40) 0) f fd)(T:Txt K mg C):Ay P w K mg base CX0 1 f fd ["self", "key", "kind", "work", "a", "b"] (Jf C):=by
 refine F.ok Au0 (fun vs H Q E h=>?_) (fun cdv A outer s H vs Q E hr h=>?_)
 ·obtain⟨_,_,_,_,_,_,_,rfl,_⟩:=h
  rfl
 ·obtain⟨x,dx,a,b,c,d,e,rfl,hx,q⟩:=h
  refine⟨_,(Ad (BK (pv 0) (pv 1) rfl) (Ad (BK (pv 0) (pv 2) rfl) (Ad (BK (pv 0) (pv 3) rfl) (Ad (BK (pv 0) (pv 4) rfl) (Af (BK (pv 0) (pv 5) rfl)))))),?_⟩
  refine⟨_,rfl,_,rfl,x,C.act,dx,_,rfl,hx,T.cl.act,T.cl.YX,by show 0 < 1000;decide,?_⟩
  refine⟨_,rfl,_,rfl,x,C.act,dx,_,rfl,Ab,T.cl.act,T.cl.Wm,by show 1 < 1000;decide,?_⟩
  refine⟨_,rfl,_,rfl,x,C.act,dx,_,rfl,Ab,T.cl.act,T.cl.Wk,by show 2 < 1000;decide,?_⟩
  refine⟨_,rfl,_,rfl,x,C.act,dx,_,rfl,Ab,T.cl.act,T.cl.Ar4,by show 3 < 1000;decide,?_⟩
  refine⟨_,rfl,_,rfl,x,C.act,dx,_,rfl,Ab,T.cl.act,T.cl.Ar3,by show 4 < 1000;decide,?_⟩
  exact q _ (fun y hy=>by rw[Ac hy,Ac hy,Ac hy,Ac hy,Ac hy]) Ab
end
end Nm
namespace Nm
open PySem PySem.Spec PyProof.Rows L2
structure Own (H:Hp)(R:Rep):Prop where
 w:H R.w=some (.dK (dW R.ws))
 n:H R.n=some (.dK (dN R.ns))
 u:H R.u=some (.dT (dU R.us))
 a:H R.a=some (.dK (dA R.as))
 wn:R.w≠R.n
 wa:R.w≠R.a
 na:R.n≠R.a
structure Oth (C:Cl)(k:Addr)(R:Rep)(H H':Hp):Prop where
 keep:∀b o,H b=some o->b∉[k,R.w,R.n,R.u,R.a]->H' b=some o∨∃ps ps',o= .tbl ps∧H' b=some (.tbl ps')
 tab:Jx C H->Jx C H'
structure Rep.Same (R R':Rep):Prop where
 w:R'.w=R.w
 n:R'.n=R.n
 u:R'.u=R.u
 a:R'.a=R.a
section
variable {C:Cl}{H H1 H':Hp}{k:Addr}{s:VS}{R R1 R':Rep}
theorem Rep.Same.refl (R:Rep):R.Same R:=⟨rfl,rfl,rfl,rfl⟩
theorem Ext.oth (e:Ext C H H'):Oth C k R H H':=⟨fun b o h _=>e.keep b o h,e.tab⟩
theorem Oth.trans (e:Oth C k R H H1)(sm:R.Same R1)(f:Oth C k R1 H1 H'):Oth C k R H H':=by
 refine⟨fun b o h n=>?_,fun t=>f.tab (e.tab t)⟩
 have n':b∉[k,R1.w,R1.n,R1.u,R1.a]:=by rw[sm.w,sm.n,sm.u,sm.a];exact n
 rcases e.keep b o h n with q | ⟨ps,ps',rfl,q⟩
 ·exact f.keep b o q n'
 ·rcases f.keep b _ q n' with z | ⟨_,ps2,_,z⟩
  ·exact .inr ⟨ps,ps',rfl,z⟩
  ·exact .inr ⟨ps,ps2,rfl,z⟩
theorem Own.ext (o:Own H R)(e:Ext C H H'):Own H' R:=⟨e.dK o.w,e.dK o.n,e.dT o.u,e.dK o.a,o.wn,o.wa,o.na⟩
theorem Af8 (hk:Kp C H k s R)(ow:Own H R){b:Addr}{o:HO}(h:H b=some o)(n1:∀c dx fs,o≠ .ins c dx fs)(n2:∀kvs,o≠ .dK kvs)(n3:∀kvs,o≠ .dT kvs):b∉[k,R.w,R.n,R.u,R.a]:=by
 intro m
 simp only[List.mem_cons,List.not_mem_nil,or_false]at m
 rcases m with rfl | rfl | rfl | rfl | rfl
 ·rw[hk.kp]at h;cases h;exact n1 _ _ _ rfl
 ·rw[ow.w]at h;cases h;exact n2 _ rfl
 ·rw[ow.n]at h;cases h;exact n2 _ rfl
 ·rw[ow.u]at h;cases h;exact n3 _ rfl
 ·rw[ow.a]at h;cases h;exact n2 _ rfl
theorem Oth.lst (e:Oth C k R H H')(hk:Kp C H k s R)(ow:Own H R){b:Addr}{xs:List V}(h:H b=some (.lst xs)):H' b=some (.lst xs):=by
 rcases e.keep b _ h (Af8 hk ow h (fun _ _ _ z=>nomatch z) (fun _ z=>nomatch z) (fun _ z=>nomatch z)) with z | ⟨_,_,z,_⟩
 ·exact z
 ·cases z
theorem Oth.free (e:Oth C k R H H')(hk:Kp C H k s R)(ow:Own H R)(kp':∀b∈[k,R.w,R.n,R.u,R.a],H' b≠none){b:Addr}(h:H' b=none):H b=none:=by
 cases q:H b with
 | none=>rfl
 | some o =>
  by_cases m:b∈[k,R.w,R.n,R.u,R.a]
  ·exact absurd h (kp' b m)
  ·rcases e.keep b o q m with z | ⟨_,_,_,z⟩ <;>(rw[h]at z;cases z)
end
section
variable {P:Program}{w:World}{K:PySem.W.Frag}{mg:Str->Option Value}{base:Heap}{C:Cl}
def JW (C:Cl):Sp:=fun vs H Q _=>∃x dx,vs=[.ref x]∧H x=some (.ins C.kept dx [])∧Jx C H∧∀H' R,Kp C H' x Vbnlag.start R->Own H' R->(∀b o,b≠x->H b=some o->H' b=some o)->(∀b∈[R.w,R.n,R.u,R.a],H b=none)->Q .non H'
theorem Ak8:Aj ["self"] ["self"] (Ag (inClass (top 41) 0)):=⟨rfl,rfl,rfl,by decide +kernel,rfl,by decide +kernel,by decide +kernel⟩
theorem Am5 {f:Addr}{fd:FuncData}{q:Str}(F:Fun K "__init__" q (inClass (top 41) 0) f fd)(T:Txt K mg C)(M_Code:OkC P w K mg base "Code" C.code 1 ["self", "limit", "works", "authors", "window", "span"] (Hi C)):Ay P w K mg base CX0 3 f fd ["self"] (JW C):=by
 refine F.ok Ak8 (fun vs H Q E h=>?_) (fun cdv A outer s H vs Q E hr h=>?_)
 ·obtain⟨_,_,rfl,_⟩:=h
  rfl
 ·obtain⟨x,dx,rfl,hx,tb,q⟩:=h
  refine⟨_,(Ad (BK (pv 0) (Sh M_Code (hr.mono (by decide)) (Aa Ah (Aa Ah (Aa Ah (Aa Ah (Aa Ah Ae)))))) rfl)
   (Ad (BK (pv 0) Im rfl)
   (Ad (BK (pv 0) Im rfl)
   (Ad (BK (pv 0) Af0 rfl)
   (Af (BK (pv 0) Im rfl)))))),?_⟩
  intro xc dc nxc ndc ne
  refine⟨xc,dc,_,_,_,_,_,rfl,Ab,fun H1 k1 hc1=>⟨rfl,?_⟩⟩
  have xxc:x≠xc:=fun z=>by rw[z,nxc]at hx;cases hx
  have xdc:x≠dc:=fun z=>by rw[z,ndc]at hx;cases hx
  have hx1:H1 x=some (.ins C.kept dx []):=by rw[k1 x xxc,Ac xxc,Ac xdc];exact hx
  have kk1:∀b o,H b=some o->H1 b=some o:=fun b o h=>by
   rw[k1 b (fun z=>by rw[z,nxc]at h;cases h),Ac (fun z=>by rw[z,nxc]at h;cases h),Ac (fun z=>by rw[z,ndc]at h;cases h)]
   exact h
  refine⟨_,rfl,x,C.kept,dx,_,rfl,hx1,T.cl.kept,T.cl.Nj,by show 0 < 1000;decide,?_⟩
  intro pw hpw
  have a1:pw≠x:=fun z=>by rw[z,Ab]at hpw;cases hpw
  rw[Ac a1]at hpw
  have a2:xc≠pw:=fun z=>by rw[z,hpw]at hc1;cases hc1
  refine⟨_,rfl,x,C.kept,dx,_,rfl,by rw[Ac a1.symm];exact Ab,T.cl.kept,T.cl.Q9,by show 1 < 1000;decide,?_⟩
  intro pn hpn
  have b1:pn≠x:=fun z=>by rw[z,Ab]at hpn;cases hpn
  rw[Ac b1]at hpn
  have b2:pn≠pw:=fun z=>by rw[z,Ab]at hpn;cases hpn
  rw[Ac b2,Ac b1]at hpn
  have b3:xc≠pn:=fun z=>by rw[z,hpn]at hc1;cases hc1
  refine⟨_,rfl,x,C.kept,dx,_,rfl,by rw[Ac b1.symm];exact Ab,T.cl.kept,T.cl.Ra,by show 2 < 1000;decide,?_⟩
  intro pu hpu
  have c1:pu≠x:=fun z=>by rw[z,Ab]at hpu;cases hpu
  rw[Ac c1]at hpu
  have c2:pu≠pn:=fun z=>by rw[z,Ab]at hpu;cases hpu
  rw[Ac c2,Ac c1]at hpu
  have c3:pu≠pw:=fun z=>by rw[z,Ab]at hpu;cases hpu
  rw[Ac c3,Ac c1]at hpu
  have c4:xc≠pu:=fun z=>by rw[z,hpu]at hc1;cases hc1
  refine⟨_,rfl,x,C.kept,dx,_,rfl,by rw[Ac c1.symm];exact Ab,T.cl.kept,T.cl.SN,by show 3 < 1000;decide,?_⟩
  intro pa hpa
  have d1:pa≠x:=fun z=>by rw[z,Ab]at hpa;cases hpa
  rw[Ac d1]at hpa
  have d2:pa≠pu:=fun z=>by rw[z,Ab]at hpa;cases hpa
  rw[Ac d2,Ac d1]at hpa
  have d3:pa≠pn:=fun z=>by rw[z,Ab]at hpa;cases hpa
  rw[Ac d3,Ac d1]at hpa
  have d4:pa≠pw:=fun z=>by rw[z,Ab]at hpa;cases hpa
  rw[Ac d4,Ac d1]at hpa
  have d5:xc≠pa:=fun z=>by rw[z,hpa]at hc1;cases hc1
  refine⟨_,rfl,x,C.kept,dx,_,rfl,by rw[Ac d1.symm];exact Ab,T.cl.kept,T.cl.SQ,by show 4 < 1000;decide,?_⟩
  have all:∀b,b≠x->b≠pa->b≠pu->b≠pn->b≠pw->∀F1 F2 F3 F4 F5:HO,upd (upd (upd (upd (upd (upd (upd (upd (upd H1 x F1) pw (.dK [])) x F2) pn (.dK [])) x F3) pu (.dT [])) x F4) pa (.dK [])) x F5 b=H1 b:=fun b n1 n2 n3 n4 n5 F1 F2 F3 F4 F5=>by
   rw[Ac n1,Ac n2,Ac n1,Ac n3,Ac n1,Ac n4,Ac n1,Ac n5,Ac n1]
  have keepAll:∀b o,b≠x->H b=some o->∀F1 F2 F3 F4 F5:HO,upd (upd (upd (upd (upd (upd (upd (upd (upd H1 x F1) pw (.dK [])) x F2) pn (.dK [])) x F3) pu (.dT [])) x F4) pa (.dK [])) x F5 b=some o:=fun b o n h F1 F2 F3 F4 F5=>by
   have h1:=kk1 b o h
   rw[all b n (fun z=>by rw[z,hpa]at h1;cases h1) (fun z=>by rw[z,hpu]at h1;cases h1) (fun z=>by rw[z,hpn]at h1;cases h1) (fun z=>by rw[z,hpw]at h1;cases h1)]
   exact h1
  have ow:∀F1 F2 F3 F4 F5:HO,Own (upd (upd (upd (upd (upd (upd (upd (upd (upd H1 x F1) pw (.dK [])) x F2) pn (.dK [])) x F3) pu (.dT [])) x F4) pa (.dK [])) x F5) ⟨dx,xc,pw,pn,pu,pa,[],[],[],[]⟩:=fun F1 F2 F3 F4 F5 =>
   ⟨by show upd _ x F5 pw=_;rw[Ac a1,Ac d4.symm,Ac a1,Ac c3.symm,Ac a1,Ac b2.symm,Ac a1];exact Ab,
   by show upd _ x F5 pn=_;rw[Ac b1,Ac d3.symm,Ac b1,Ac c2.symm,Ac b1];exact Ab,
   by show upd _ x F5 pu=_;rw[Ac c1,Ac d2.symm,Ac c1];exact Ab,
   by show upd _ x F5 pa=_;rw[Ac d1];exact Ab,b2.symm,d4.symm,d3.symm⟩
  refine q _ ⟨dx,xc,pw,pn,pu,pa,[],[],[],[]⟩ ?_ (ow _ _ _ _ _) (fun b o n h=>keepAll b o n h _ _ _ _ _) (fun b hb=>?_)
  rotate_left
  ·have back:∀b,H1 b=none->H b=none:=fun b h=>by
    cases z:H b with
    | none=>rfl
    | some o=>rw[kk1 b o z]at h;cases h
   simp only[List.mem_cons,List.not_mem_nil,or_false]at hb
   rcases hb with rfl | rfl | rfl | rfl
   ·exact back _ hpw
   ·exact back _ hpn
   ·exact back _ hpu
   ·exact back _ hpa
  refine⟨WF.start,Ab,⟨dc,?_⟩,.inl (ow _ _ _ _ _).w,by simp,.refl _,.inl (ow _ _ _ _ _).n,by simp,.refl _,.inl (ow _ _ _ _ _).u,.refl _,.inl (ow _ _ _ _ _).a,by simp,.refl _,fun t ht=>?_⟩
  ·show upd _ x _ xc=_
   rw[all xc xxc.symm d5 c4 b3 a2]
   exact hc1
  ·refine(tb t ht).at_ fun b o h hv=>keepAll b o (fun z=>?_) h _ _ _ _ _
   rw[z,hx]at h
   cases h
   rcases hv with⟨_,z⟩ | ⟨_,z⟩ <;>cases z
end
end Nm
namespace Nm
open PySem PySem.Spec PyProof.Rows L2
section
variable {C:Cl}{H H2:Hp}{k x dx:Addr}{s:VS}{R:Rep}
theorem Ext.M8 (h:∀b o,H b=some o->H2 b=some o):Ext C H H2:=⟨fun b o q=> .inl (h b o q),fun T t ht=>(T t ht).at_ fun b o q _=>h b o q⟩
theorem GQ {c:Addr}{Hm:Hp}(nx:H x=none)(nd:H dx=none)(same:∀y,y≠x->H2 y=upd (upd H dx (.own x)) x (.ins c dx []) y):∀b o,H b=some o->H2 b=some o:=fun b o h=>by
 have n1:b≠x:=fun z=>by rw[z,nx]at h;cases h
 rw[same b n1,Ac n1,Ac (fun z=>by rw[z,nd]at h;cases h)]
 exact h
theorem CW {κ:Type} [DecidableEq κ] {α:Type}{f:α->κ}{g:α->V}{j:κ}:∀{l:List α},(∀x∈l,f x≠j)->BL (l.map fun x=>(f x,g x)) j=none
 | [],_=>rfl
 | y::r,h=>by
  rw[List.map_cons,Cd (h y List.mem_cons_self)]
  exact CW fun x hx=>h x (List.mem_cons_of_mem _ hx)
theorem Jh {κ:Type} [DecidableEq κ] {kvs:List (κ×V)}{j:κ}{v:V}(h:BL kvs j=none):putK kvs j v=kvs++[(j,v)]:=by
 unfold putK
 rw[if_neg]
 intro z
 obtain⟨kv,hm,e⟩:=List.any_eq_true.mp z
 have e:=of_decide_eq_true e
 clear z
 induction kvs with
 | nil=>exact nomatch hm
 | cons c r ih =>
  obtain⟨c1,c2⟩:=c
  by_cases q:c1=j
  ·rw[Cz q]at h;cases h
  ·rw[Cd q]at h
   rcases List.mem_cons.mp hm with rfl | hm
   ·exact q e
   ·exact ih h hm
theorem Oth.put {d:Addr}{o:HO}(hd:d∈[k,R.w,R.n,R.u,R.a]){u:HO}(h:H d=some u)(n1:∀ps,u≠ .tbl ps)(n2:∀oc w,u≠ .frz oc w):Oth C k R H (upd H d o):=by
 refine⟨fun b v q n=> .inl ?_,fun T t ht=>(T t ht).at_ fun b v q w=>?_⟩
 ·rw[Ac (fun z=>n (by rw[z];exact hd))]
  exact q
 ·rw[Ac]
  ·exact q
  ·rintro rfl
   rw[h]at q
   cases q
   rcases w with⟨ps,w⟩ | ⟨oc,w⟩
   ·exact n1 ps w
   ·exact n2 oc _ w
theorem Rb {a d c dx:Addr}{fs:List (Str×V)}{o:HO}(h:H a=some (.ins c dx fs))(hd:H d=some o)(n:∀c dx fs,o≠ .ins c dx fs):a≠d:=fun z=>by
 rw[z,hd]at h
 cases h
 exact n _ _ _ rfl
theorem Kp.addW (hk:Kp C H k s R)(ow:Own H R){y:Vbnlag.Work}{a:Addr}(ha:DP C H a y)(n:∀w∈s.works,w.key≠y.key)(wf:WF {s with works:=Vbnlag.putWork y s.works}) :
  Kp C (upd H R.w (.dK (putK (dW R.ws) (Sum.inl y.key) (.ref a)))) k {s with works:=Vbnlag.putWork y s.works} {R with ws:=R.ws++[(a,y)]}∧Own (upd H R.w (.dK (putK (dW R.ws) (Sum.inl y.key) (.ref a)))) {R with ws:=R.ws++[(a,y)]}∧Oth C k R H (upd H R.w (.dK (putK (dW R.ws) (Sum.inl y.key) (.ref a)))):=by
 have e0:putK (dW R.ws) (Sum.inl y.key) (.ref a)=dW (R.ws++[(a,y)]):=by
  have vn:BL (dW R.ws) (Sum.inl y.key)=none:=CW fun p hp z=>n p.2 (hk.Ba0 hp) (Sum.inl.inj z)
  rw[Jh vn]
  unfold dW
  rw[List.map_append]
  rfl
 rw[e0]
 have nI:∀c dx fs,HO.dK (dW R.ws)≠ .ins c dx fs:=fun _ _ _ z=>nomatch z
 have nu:R.u≠R.w:=fun z=>by have:=ow.u;rw[z,ow.w]at this;cases this
 have ot:Oth C k R H (upd H R.w (.dK (dW (R.ws++[(a,y)])))):=Oth.put (by simp) ow.w (fun _ z=>nomatch z) (fun _ _ z=>nomatch z)
 have ins:∀{b c dx fs},H b=some (.ins c dx fs)->upd H R.w (.dK (dW (R.ws++[(a,y)]))) b=some (.ins c dx fs):=fun h=>by rw[Ac (Rb h ow.w nI)];exact h
 have ow':Own (upd H R.w (.dK (dW (R.ws++[(a,y)])))) {R with ws:=R.ws++[(a,y)]}:=⟨Ab,by show upd H R.w _ R.n=_;rw[Ac ow.wn.symm];exact ow.n,by show upd H R.w _ R.u=_;rw[Ac nu];exact ow.u,by show upd H R.w _ R.a=_;rw[Ac ow.wa.symm];exact ow.a,ow.wn,ow.wa,ow.na⟩
 refine⟨⟨wf,ins hk.kp,let ⟨d,q⟩:=hk.cd;⟨d,ins q⟩,.inl ow'.w,fun p hp=>?_,?_,.inl ow'.n,fun p hp=>let ⟨d,q⟩:=hk.na p hp;⟨d,ins q⟩,hk.np,.inl ow'.u,hk.up,.inl ow'.a,fun p hp=>let ⟨d,q⟩:=hk.aa p hp;⟨d,ins q⟩,hk.ap,ot.tab hk.tb⟩,ow',ot⟩
 ·rcases List.mem_append.mp hp with hp | hp
  ·exact let ⟨d,q⟩:=hk.wa p hp;⟨d,ins q⟩
  ·simp at hp
   subst hp
   exact let ⟨d,q⟩:=ha;⟨d,ins q⟩
 ·show((R.ws++[(a,y)]).map (·.2)).Perm (Vbnlag.putWork y s.works)
  rw[List.map_append]
  exact(List.perm_append_comm.trans (List.Perm.cons y hk.wp)).trans (La y s.works).symm
theorem Kp.Be9 (hk:Kp C H k s R)(ow:Own H R){y:Vbnlag.Name}{a:Addr}(ha:DQ C H a y)(n:∀w∈s.names,w.key≠y.key)(wf:WF {s with names:=Vbnlag.putName y s.names}) :
  Kp C (upd H R.n (.dK (putK (dN R.ns) (Sum.inl y.key) (.ref a)))) k {s with names:=Vbnlag.putName y s.names} {R with ns:=R.ns++[(a,y)]}∧Own (upd H R.n (.dK (putK (dN R.ns) (Sum.inl y.key) (.ref a)))) {R with ns:=R.ns++[(a,y)]}∧Oth C k R H (upd H R.n (.dK (putK (dN R.ns) (Sum.inl y.key) (.ref a)))):=by
 have e0:putK (dN R.ns) (Sum.inl y.key) (.ref a)=dN (R.ns++[(a,y)]):=by
  have vn:BL (dN R.ns) (Sum.inl y.key)=none:=CW fun p hp z=>n p.2 (hk.Xm hp) (Sum.inl.inj z)
  rw[Jh vn]
  unfold dN
  rw[List.map_append]
  rfl
 rw[e0]
 have nI:∀c dx fs,HO.dK (dN R.ns)≠ .ins c dx fs:=fun _ _ _ z=>nomatch z
 have nu:R.u≠R.n:=fun z=>by have:=ow.u;rw[z,ow.n]at this;cases this
 have ot:Oth C k R H (upd H R.n (.dK (dN (R.ns++[(a,y)])))):=Oth.put (by simp) ow.n (fun _ z=>nomatch z) (fun _ _ z=>nomatch z)
 have ins:∀{b c dx fs},H b=some (.ins c dx fs)->upd H R.n (.dK (dN (R.ns++[(a,y)]))) b=some (.ins c dx fs):=fun h=>by rw[Ac (Rb h ow.n nI)];exact h
 have ow':Own (upd H R.n (.dK (dN (R.ns++[(a,y)])))) {R with ns:=R.ns++[(a,y)]}:=⟨by show upd H R.n _ R.w=_;rw[Ac ow.wn];exact ow.w,Ab,by show upd H R.n _ R.u=_;rw[Ac nu];exact ow.u,by show upd H R.n _ R.a=_;rw[Ac ow.na.symm];exact ow.a,ow.wn,ow.wa,ow.na⟩
 refine⟨⟨wf,ins hk.kp,let ⟨d,q⟩:=hk.cd;⟨d,ins q⟩,.inl ow'.w,fun p hp=>let ⟨d,q⟩:=hk.wa p hp;⟨d,ins q⟩,hk.wp,.inl ow'.n,fun p hp=>?_,?_,.inl ow'.u,hk.up,.inl ow'.a,fun p hp=>let ⟨d,q⟩:=hk.aa p hp;⟨d,ins q⟩,hk.ap,ot.tab hk.tb⟩,ow',ot⟩
 ·rcases List.mem_append.mp hp with hp | hp
  ·exact let ⟨d,q⟩:=hk.na p hp;⟨d,ins q⟩
  ·simp at hp
   subst hp
   exact let ⟨d,q⟩:=ha;⟨d,ins q⟩
 ·show((R.ns++[(a,y)]).map (·.2)).Perm (Vbnlag.putName y s.names)
  rw[List.map_append]
  exact(List.perm_append_comm.trans (List.Perm.cons y hk.np)).trans (Lb y s.names).symm
theorem Kp.Bb1 (hk:Kp C H k s R)(ow:Own H R){y:Vbnlag.Act}{a:Addr}(ha:BR C H a y)(n:∀w∈s.acts,w.key≠y.key)(wf:WF {s with acts:=Vbnlag.putKey y s.acts}) :
  Kp C (upd H R.a (.dK (putK (dA R.as) (Sum.inl y.key) (.ref a)))) k {s with acts:=Vbnlag.putKey y s.acts} {R with as:=R.as++[(a,y)]}∧Own (upd H R.a (.dK (putK (dA R.as) (Sum.inl y.key) (.ref a)))) {R with as:=R.as++[(a,y)]}∧Oth C k R H (upd H R.a (.dK (putK (dA R.as) (Sum.inl y.key) (.ref a)))):=by
 have e0:putK (dA R.as) (Sum.inl y.key) (.ref a)=dA (R.as++[(a,y)]):=by
  have vn:BL (dA R.as) (Sum.inl y.key)=none:=CW fun p hp z=>n p.2 (hk.Q0 hp) (Sum.inl.inj z)
  rw[Jh vn]
  unfold dA
  rw[List.map_append]
  rfl
 rw[e0]
 have nI:∀c dx fs,HO.dK (dA R.as)≠ .ins c dx fs:=fun _ _ _ z=>nomatch z
 have nu:R.u≠R.a:=fun z=>by have:=ow.u;rw[z,ow.a]at this;cases this
 have ot:Oth C k R H (upd H R.a (.dK (dA (R.as++[(a,y)])))):=Oth.put (by simp) ow.a (fun _ z=>nomatch z) (fun _ _ z=>nomatch z)
 have ins:∀{b c dx fs},H b=some (.ins c dx fs)->upd H R.a (.dK (dA (R.as++[(a,y)]))) b=some (.ins c dx fs):=fun h=>by rw[Ac (Rb h ow.a nI)];exact h
 have ow':Own (upd H R.a (.dK (dA (R.as++[(a,y)])))) {R with as:=R.as++[(a,y)]}:=⟨by show upd H R.a _ R.w=_;rw[Ac ow.wa];exact ow.w,by show upd H R.a _ R.n=_;rw[Ac ow.na];exact ow.n,by show upd H R.a _ R.u=_;rw[Ac nu];exact ow.u,Ab,ow.wn,ow.wa,ow.na⟩
 refine⟨⟨wf,ins hk.kp,let ⟨d,q⟩:=hk.cd;⟨d,ins q⟩,.inl ow'.w,fun p hp=>let ⟨d,q⟩:=hk.wa p hp;⟨d,ins q⟩,hk.wp,.inl ow'.n,fun p hp=>let ⟨d,q⟩:=hk.na p hp;⟨d,ins q⟩,hk.np,.inl ow'.u,hk.up,.inl ow'.a,fun p hp=>?_,?_,ot.tab hk.tb⟩,ow',ot⟩
 ·rcases List.mem_append.mp hp with hp | hp
  ·exact let ⟨d,q⟩:=hk.aa p hp;⟨d,ins q⟩
  ·simp at hp
   subst hp
   exact let ⟨d,q⟩:=ha;⟨d,ins q⟩
 ·show((R.as++[(a,y)]).map (·.2)).Perm (Vbnlag.putKey y s.acts)
  rw[List.map_append]
  exact(List.perm_append_comm.trans (List.Perm.cons y hk.ap)).trans (NQ y s.acts).symm
theorem Kp.Be8 (hk:Kp C H k s R)(ow:Own H R){y:Int×Int}(n:y∉s.uses)(wf:WF {s with uses:=Vbnlag.putUse y s.uses}) :
  Kp C (upd H R.u (.dT (putK (dU R.us) [Sum.inl y.1,Sum.inl y.2] (.bl true)))) k {s with uses:=Vbnlag.putUse y s.uses} {R with us:=R.us++[y]}∧Own (upd H R.u (.dT (putK (dU R.us) [Sum.inl y.1,Sum.inl y.2] (.bl true)))) {R with us:=R.us++[y]}∧Oth C k R H (upd H R.u (.dT (putK (dU R.us) [Sum.inl y.1,Sum.inl y.2] (.bl true)))):=by
 have e0:putK (dU R.us) [Sum.inl y.1,Sum.inl y.2] (.bl true)=dU (R.us++[y]):=by
  have vn:BL (dU R.us) [Sum.inl y.1,Sum.inl y.2]=none:=CW fun p hp z=>n (by
   have h1:=List.cons.inj z
   have h2:=List.cons.inj h1.2
   have:p=y:=Prod.ext (Sum.inl.inj h1.1) (Sum.inl.inj h2.1)
   rw[← this]
   exact hk.up.mem_iff.mp hp)
  rw[Jh vn]
  unfold dU
  rw[List.map_append]
  rfl
 rw[e0]
 have nI:∀c dx fs,HO.dT (dU R.us)≠ .ins c dx fs:=fun _ _ _ z=>nomatch z
 have n1:R.w≠R.u:=fun z=>by have:=ow.u;rw[← z,ow.w]at this;cases this
 have n2:R.n≠R.u:=fun z=>by have:=ow.u;rw[← z,ow.n]at this;cases this
 have n3:R.a≠R.u:=fun z=>by have:=ow.u;rw[← z,ow.a]at this;cases this
 have ot:Oth C k R H (upd H R.u (.dT (dU (R.us++[y])))):=Oth.put (by simp) ow.u (fun _ z=>nomatch z) (fun _ _ z=>nomatch z)
 have ins:∀{b c dx fs},H b=some (.ins c dx fs)->upd H R.u (.dT (dU (R.us++[y]))) b=some (.ins c dx fs):=fun h=>by rw[Ac (Rb h ow.u nI)];exact h
 have ow':Own (upd H R.u (.dT (dU (R.us++[y])))) {R with us:=R.us++[y]}:=⟨by show upd H R.u _ R.w=_;rw[Ac n1];exact ow.w,by show upd H R.u _ R.n=_;rw[Ac n2];exact ow.n,Ab,by show upd H R.u _ R.a=_;rw[Ac n3];exact ow.a,ow.wn,ow.wa,ow.na⟩
 refine⟨⟨wf,ins hk.kp,let ⟨d,q⟩:=hk.cd;⟨d,ins q⟩,.inl ow'.w,fun p hp=>let ⟨d,q⟩:=hk.wa p hp;⟨d,ins q⟩,hk.wp,.inl ow'.n,fun p hp=>let ⟨d,q⟩:=hk.na p hp;⟨d,ins q⟩,hk.np,.inl ow'.u,?_,.inl ow'.a,fun p hp=>let ⟨d,q⟩:=hk.aa p hp;⟨d,ins q⟩,hk.ap,ot.tab hk.tb⟩,ow',ot⟩
 show(R.us++[y]).Perm (Vbnlag.putUse y s.uses)
 exact(List.perm_append_comm.trans (List.Perm.cons y hk.up)).trans (NP y s.uses).symm
theorem Kp.newC (hk:Kp C H k s R)(ow:Own H R){y:Vbnlag.Code}{a:Addr}(ha:CK C H a y)(ne:a≠k):Kp C (upd H k (.ins C.kept R.dx (N8 a R.w R.n R.u R.a))) k {s with code:=y} {R with c:=a}∧Own (upd H k (.ins C.kept R.dx (N8 a R.w R.n R.u R.a))) {R with c:=a}∧Oth C k R H (upd H k (.ins C.kept R.dx (N8 a R.w R.n R.u R.a))):=by
 have ot:Oth C k R H (upd H k (.ins C.kept R.dx (N8 a R.w R.n R.u R.a))):=Oth.put (by simp) hk.kp (fun _ z=>nomatch z) (fun _ _ z=>nomatch z)
 have nd:∀{d o},H d=some o->(∀c dx fs,o≠ .ins c dx fs)->upd H k (.ins C.kept R.dx (N8 a R.w R.n R.u R.a)) d=some o:=fun h n=>by rw[Ac (Rb hk.kp h n).symm];exact h
 have ow':Own (upd H k (.ins C.kept R.dx (N8 a R.w R.n R.u R.a))) {R with c:=a}:=⟨nd ow.w (fun _ _ _ z=>nomatch z),nd ow.n (fun _ _ _ z=>nomatch z),nd ow.u (fun _ _ _ z=>nomatch z),nd ow.a (fun _ _ _ z=>nomatch z),ow.wn,ow.wa,ow.na⟩
 have ins:∀{b c dx f z fs},H b=some (.ins c dx ((f,V.int z)::fs))->upd H k (.ins C.kept R.dx (N8 a R.w R.n R.u R.a)) b=some (.ins c dx ((f,V.int z)::fs)):=fun h=>by
  rw[Ac]
  ·exact h
  ·rintro rfl
   rw[hk.kp]at h
   cases h
 refine⟨⟨hk.wf.code y,Ab,let ⟨d,q⟩:=ha;⟨d,ins q⟩,.inl ow'.w,fun p hp=>let ⟨d,q⟩:=hk.wa p hp;⟨d,ins q⟩,hk.wp,.inl ow'.n,fun p hp=>let ⟨d,q⟩:=hk.na p hp;⟨d,ins q⟩,hk.np,.inl ow'.u,hk.up,.inl ow'.a,fun p hp=>let ⟨d,q⟩:=hk.aa p hp;⟨d,ins q⟩,hk.ap,ot.tab hk.tb⟩,ow',ot⟩
end
end Nm
namespace Nm
open PySem PySem.Spec PyProof.Rows L2
section
variable {P:Program}{w:World}{K:PySem.W.Frag}{mg:Str->Option Value}{base:Heap}{C:Cl}
def Gi (s:VS)(k day author:Int):Int:=if Vbnlag.keyOk k=false then -4 else if (Vbnlag.dayOk day&&Vbnlag.keyOk author)=false then -9 else if Vbnlag.isWork s k=true then -5 else if Vbnlag.WORKS<=s.works.length then -8 else 0
def Gm (s:VS)(k w page:Int):Int:=if Vbnlag.keyOk k=false then -4 else if Vbnlag.within page 1 Vbnlag.MOSTPAGE=false then -9 else if Vbnlag.isName s k=true then -5 else if Vbnlag.isWork s w=false then -6 else if Vbnlag.NAMES<=s.names.length then -8 else 0
def HS (s:VS)(w n:Int):Int:=if (Vbnlag.isWork s w&&Vbnlag.isName s n)=false then -6 else if Vbnlag.dayOf s w < Vbnlag.nameDay s n then -15 else if s.uses.contains (w,n)=true then -5 else if Vbnlag.USES<=s.uses.length then -8 else 0
def Cy (s:VS)(k w:Int)(ns:List Int):Int:=if Vbnlag.keyOk k=false then -4 else if (Vbnlag.actOf s k).isSome=true then -5 else if (Vbnlag.isWork s w&&ns.all (Vbnlag.isName s))=false then -6 else if ns.length=2∧ns[0]?=ns[1]? then -10 else if Vbnlag.ACTS<=s.acts.length then -8 else 0
section
variable {H:Hp}{k:Addr}{s:VS}{R:Rep}
theorem Kp.S6 (h:Kp C H k s R):(dW R.ws).length=s.works.length:=by unfold dW;rw[List.length_map,h.Ba1]
theorem Kp.YH (h:Kp C H k s R):(dN R.ns).length=s.names.length:=by unfold dN;rw[List.length_map,h.Ag8]
theorem Kp.V7 (h:Kp C H k s R):(dA R.as).length=s.acts.length:=by unfold dA;rw[List.length_map,h.ZM]
theorem Kp.YF (h:Kp C H k s R):(dU R.us).length=s.uses.length:=by unfold dU;rw[List.length_map,h.up.length_eq]
end
def Mp (C:Cl):Sp:=fun vs H Q _=>∃k s R key day author,vs=[.ref k,.int key,.int day,.int author]∧Kp C H k s R∧Q (.int (Gi s key day author)) H
theorem Og:Aj ["kept", "key", "day", "author"] ["kept", "key", "day", "author"] (Ag (top 89)):=⟨rfl,rfl,rfl,by decide +kernel,rfl,by decide +kernel,by decide +kernel⟩
theorem Oq {f:Addr}{fd:FuncData}(F:Fun K "work_refusal" "work_refusal" (top 89) f fd)(T:Txt K mg C)(G_is_day:Ok P w K mg base "is_day" 1 ["number"] (Ci Vbnlag.dayOk))(G_is_key:Ok P w K mg base "is_key" 1 ["number"] (Ci Vbnlag.keyOk)):Ay P w K mg base CX0 2 f fd ["kept", "key", "day", "author"] (Mp C):=by
 refine F.ok Og (fun vs H Q E h=>?_) (fun cdv A outer s H vs Q E hr h=>?_)
 ·obtain⟨_,_,_,_,_,_,rfl,_⟩:=h
  rfl
 ·obtain⟨k,st,R,key,day,au,rfl,hk,q⟩:=h
  refine⟨_,(Ad (Bl (Df (BW (Al G_is_key (hr.mono (by decide)) (Aa (pv 1) Ae)))) (Af (Ai (pk T.Rq))) Aq)
   (Ad (Bl (PW.pt (Sd (Df (BW (Al G_is_day (hr.mono (by decide)) (Aa (pv 2) Ae)))) (Mx (Df (BW (Al G_is_key (hr.mono (by decide)) (Aa (pv 3) Ae))))))) (Af (Ai (pk T.DK))) Aq)
   (Ad (Bl (Dg (J4 (hu1 hr) (pv 1) (pF T.cl (pv 0)))) (Af (Ai (pk T.DN))) Aq)
   (Ad (Bl (Ar Qy (Bd Ej (by rfl) T.len PySem.boot_len (Aa (pF T.cl (pv 0)) Ae)) (pk T.Wc) (Ba _)) (Af (Ai (pk T.YM))) Aq)
   (Af (Ai (pk T.JH))))))),?_⟩
  unfold Gi at q
  refine⟨_,rfl,key,rfl,_,rfl,Bc (fun h1=>?_) (fun h1=>?_)⟩
  ·rw[if_pos (by simpa using h1)]at q;exact q
  rw[if_neg (by simpa using h1)]at q
  refine⟨_,rfl,day,rfl,_,rfl,Bc (fun h2=>?_) (fun h2=>?_)⟩
  ·rw[if_pos (by simp at h2;simp[h2])]at q;exact q
  refine⟨_,rfl,au,rfl,_,rfl,Bc (fun h3=>?_) (fun h3=>?_)⟩
  ·rw[if_pos (by simp at h3;simp[h3])]at q;exact q
  rw[if_neg (by simp at h2 h3;simp[h2,h3])]at q
  obtain⟨o,hg,ho⟩:=hk.Ao1 key
  refine⟨_,rfl,_,rfl,_,_,rfl,hk.works T.cl,R.w,o,rfl,hg,_,rfl,Bc (fun h4=>?_) (fun h4=>?_)⟩
  ·rw[if_pos (by rw[← ho];exact h4)]at q;exact q
  rw[if_neg (by rw[← ho,h4];decide)]at q
  refine⟨_,rfl,_,_,rfl,hk.works T.cl,R.w,_,rfl,hk.wk,_,_,rfl,rfl,_,rfl,Bc (fun h5=>?_) (fun h5=>?_)⟩
  ·have h5:=of_decide_eq_true h5
   rw[hk.S6]at h5
   rw[if_pos (by show 80<=_;omega)]at q;exact q
  ·have h5:=of_decide_eq_false h5
   rw[hk.S6]at h5
   rw[if_neg (by show ¬ 80<=_;omega)]at q;exact q
def Mr (C:Cl):Sp:=fun vs H Q _=>∃k s R key wk page,vs=[.ref k,.int key,.int wk,.int page]∧Kp C H k s R∧Q (.int (Gm s key wk page)) H
theorem Oh:Aj ["kept", "key", "work", "page"] ["kept", "key", "work", "page"] (Ag (top 91)):=⟨rfl,rfl,rfl,by decide +kernel,rfl,by decide +kernel,by decide +kernel⟩
theorem Ou {f:Addr}{fd:FuncData}(F:Fun K "name_refusal" "name_refusal" (top 91) f fd)(T:Txt K mg C)(G_is_page:Ok P w K mg base "is_page" 1 ["number"] (Ci fun z=>Vbnlag.within z 1 Vbnlag.MOSTPAGE))(G_is_key:Ok P w K mg base "is_key" 1 ["number"] (Ci Vbnlag.keyOk)):Ay P w K mg base CX0 2 f fd ["kept", "key", "work", "page"] (Mr C):=by
 refine F.ok Oh (fun vs H Q E h=>?_) (fun cdv A outer s H vs Q E hr h=>?_)
 ·obtain⟨_,_,_,_,_,_,rfl,_⟩:=h
  rfl
 ·obtain⟨k,st,R,key,wk,pg,rfl,hk,q⟩:=h
  refine⟨_,(Ad (Bl (Df (BW (Al G_is_key (hr.mono (by decide)) (Aa (pv 1) Ae)))) (Af (Ai (pk T.Rq))) Aq)
   (Ad (Bl (Df (BW (Al G_is_page (hr.mono (by decide)) (Aa (pv 3) Ae)))) (Af (Ai (pk T.DK))) Aq)
   (Ad (Bl (Dg (J4 (hu1 hr) (pv 1) (pF T.cl (pv 0)))) (Af (Ai (pk T.DN))) Aq)
   (Ad (Bl (Dg (Cu (hu1 hr) (pv 2) (pF T.cl (pv 0)))) (Af (Ai (pk T.Gd))) Aq)
   (Ad (Bl (Ar Qy (Bd Ej (by rfl) T.len PySem.boot_len (Aa (pF T.cl (pv 0)) Ae)) (pk T.Wd) (Ba _)) (Af (Ai (pk T.YM))) Aq)
   (Af (Ai (pk T.JH)))))))),?_⟩
  unfold Gm at q
  refine⟨_,rfl,key,rfl,_,rfl,Bc (fun h1=>?_) (fun h1=>?_)⟩
  ·rw[if_pos (by simpa using h1)]at q;exact q
  rw[if_neg (by simpa using h1)]at q
  refine⟨_,rfl,pg,rfl,_,rfl,Bc (fun h2=>?_) (fun h2=>?_)⟩
  ·rw[if_pos (by simpa using h2)]at q;exact q
  rw[if_neg (by simpa using h2)]at q
  obtain⟨o,hg,ho⟩:=hk.Ao2 key
  refine⟨_,rfl,_,rfl,_,_,rfl,hk.names T.cl,R.n,o,rfl,hg,_,rfl,Bc (fun h4=>?_) (fun h4=>?_)⟩
  ·rw[if_pos (by rw[← ho];exact h4)]at q;exact q
  rw[if_neg (by rw[← ho,h4];decide)]at q
  obtain⟨o2,hg2,ho2⟩:=hk.Ao1 wk
  refine⟨_,rfl,_,rfl,_,_,rfl,hk.works T.cl,R.w,o2,rfl,hg2,_,rfl,Bc (fun h5=>?_) (fun h5=>?_)⟩
  ·rw[if_pos (by rw[← ho2];cases q2:o2.isSome with | false=>rfl | true=>rw[q2]at h5;cases h5)]at q;exact q
  rw[if_neg (by rw[← ho2];intro z;rw[z]at h5;cases h5)]at q
  refine⟨_,rfl,_,_,rfl,hk.names T.cl,R.n,_,rfl,hk.nk,_,_,rfl,rfl,_,rfl,Bc (fun h6=>?_) (fun h6=>?_)⟩
  ·have h6:=of_decide_eq_true h6
   rw[hk.YH]at h6
   rw[if_pos (by show 40<=_;omega)]at q;exact q
  ·have h6:=of_decide_eq_false h6
   rw[hk.YH]at h6
   rw[if_neg (by show ¬ 40<=_;omega)]at q;exact q
def Qa (C:Cl):Sp:=fun vs H Q _=>∃k s R wk nm,vs=[.ref k,.int wk,.int nm]∧Kp C H k s R∧∀H',Ext C H H'->Q (.int (HS s wk nm)) H'
theorem Qh:Aj ["kept", "work", "name"] ["kept", "work", "name"] (Ag (top 93)):=⟨rfl,rfl,rfl,by decide +kernel,rfl,by decide +kernel,by decide +kernel⟩
theorem Yd (y:Int×Int):∀us:List (Int×Int),(BL (dU us) [Sum.inl y.1,Sum.inl y.2]).isSome=us.contains y
 | []=>rfl
 | u::r=>by
  unfold dU
  rw[List.map_cons,List.contains_cons]
  by_cases e:u=y
  ·rw[Cz (by rw[e]),e]
   simp
  ·rw[Cd (fun z=>e (by
    have h1:=List.cons.inj z
    have h2:=List.cons.inj h1.2
    exact Prod.ext (Sum.inl.inj h1.1) (Sum.inl.inj h2.1)))]
   have:=Yd y r
   unfold dU at this
   rw[this,show(y==u)=false by simp[Ne.symm e]]
   rfl
theorem QC {f:Addr}{fd:FuncData}(F:Fun K "use_refusal" "use_refusal" (top 93) f fd)(T:Txt K mg C)(G_name_day:Ok P w K mg base "name_day" 1 ["kept", "name"] (DY C)):Ay P w K mg base CX0 2 f fd ["kept", "work", "name"] (Qa C):=by
 refine F.ok Qh (fun vs H Q E h=>?_) (fun cdv A outer s H vs Q E hr h=>?_)
 ·obtain⟨_,_,_,_,_,rfl,_⟩:=h
  rfl
 ·obtain⟨k,st,R,wk,nm,rfl,hk,q⟩:=h
  refine⟨_,(Ad (Bl (PW.pt (Sd (Dg (Cu (hu1 hr) (pv 1) (pF T.cl (pv 0)))) (Mx (Dg (Cu (hu1 hr) (pv 2) (pF T.cl (pv 0))))))) (Af (Ai (pk T.Gd))) Aq)
   (Ad (Bl (Ar Ys (pF T.cl (Br (hu1 hr) (pF T.cl (pv 0)) (pv 1) (fun _ _=>rfl))) (Al G_name_day (hr.mono (by decide)) (Aa (pv 0) (Aa (Br (hu1 hr) (pF T.cl (pv 0)) (pv 2) (fun _ _=>rfl)) Ae))) (Ba _)) (Af (Ai (pk T.XS))) Aq)
   (Ad (Bl (Dg (J4 (hu1 hr) (Il (Aa (pv 1) (Aa (pv 2) Ae))) (pF T.cl (pv 0)))) (Af (Ai (pk T.DN))) Aq)
   (Ad (Bl (Ar Qy (Bd S9 (by rfl) T.len PySem.boot_len (Aa (pF T.cl (pv 0)) Ae)) (pk T.X4) (Ba _)) (Af (Ai (pk T.YM))) Aq)
   (Af (Ai (pk T.JH))))))),?_⟩
  unfold HS at q
  have qr:=fun H' e=>q H' e
  obtain⟨o1,hg1,ho1⟩:=hk.Ao1 wk
  obtain⟨o2,hg2,ho2⟩:=hk.Ao2 nm
  refine⟨_,rfl,_,rfl,_,_,rfl,hk.works T.cl,R.w,o1,rfl,hg1,_,rfl,Bc (fun h1=>?_) (fun h1=>?_)⟩
  ·have q1:=q H (Ext.refl _ _)
   rw[if_pos (by rw[← ho1];simp at h1;simp[h1])]at q1;exact q1
  refine⟨_,rfl,_,rfl,_,_,rfl,hk.names T.cl,R.n,o2,rfl,hg2,_,rfl,Bc (fun h2=>?_) (fun h2=>?_)⟩
  ·have q1:=q H (Ext.refl _ _)
   rw[if_pos (by rw[← ho2];simp at h2;simp[h2])]at q1;exact q1
  have w1:Vbnlag.isWork st wk=true:=by rw[← ho1];simpa using h1
  have w2:Vbnlag.isName st nm=true:=by rw[← ho2];simpa using h2
  rw[if_neg (by rw[w1,w2];decide)]at q
  obtain⟨x,hx,rfl⟩:=Et hk.wf w1
  obtain⟨n,hn,rfl⟩:=Dm hk.wf w2
  obtain⟨ax,hax,gax⟩:=hk.Ah9 hx
  obtain⟨an,han,gan⟩:=hk.Ut hn
  have nd:Vbnlag.nameDay st n.key=Vbnlag.dayOf st n.work:=by unfold Vbnlag.nameDay;rw[hk.wf.nOf.mpr ⟨hn,rfl⟩]
  rw[hk.wf.dOf hx,nd]at q
  refine⟨_,rfl,_,_,rfl,hk.works T.cl,_,rfl,R.w,_,rfl,gax,_,_,rfl,hax.day T.cl,_,rfl,_,rfl,_,_,rfl,hk.names T.cl,_,rfl,R.n,_,rfl,gan,k,st,R,an,n,rfl,hk,han,hn,_,_,rfl,rfl,_,rfl,Bc (fun h3=>?_) (fun h3=>?_)⟩
  ·have q1:=q H (Ext.refl _ _)
   rw[if_pos (of_decide_eq_true h3)]at q1;exact q1
  rw[if_neg (of_decide_eq_false h3)]at q
  refine⟨_,rfl,_,rfl,by show 2<=sizeLine;decide,fun t ht=>?_⟩
  have e1:=Ext.new C ht (.tup [V.int x.key,V.int n.key])
  have hk1:=hk.ext e1
  refine⟨_,rfl,_,_,rfl,hk1.uses T.cl,R.u,_,rfl,.inr ⟨_,[Sum.inl x.key,Sum.inl n.key],t,hk1.uk,rfl,Ab,rfl⟩,_,rfl,?_⟩
  rw[show(BL (dU R.us) [Sum.inl x.key,Sum.inl n.key]).isSome=st.uses.contains (x.key,n.key) by
   rw[Yd (x.key,n.key)]
   cases h:st.uses.contains (x.key,n.key) with
   | true=>exact List.contains_iff_mem.mpr (hk.up.mem_iff.mpr (List.contains_iff_mem.mp h))
   | false=>exact Bool.eq_false_iff.mpr fun z=>by rw[List.contains_iff_mem.mpr (hk.up.mem_iff.mp (List.contains_iff_mem.mp z))]at h;cases h]
  refine Bc (fun h4=>?_) (fun h4=>?_)
  ·have q1:=q _ e1
   rw[if_pos h4]at q1;exact q1
  rw[if_neg (by rw[h4];decide)]at q
  refine⟨_,rfl,_,_,rfl,hk1.uses T.cl,R.u,_,rfl,hk1.uk,_,_,rfl,rfl,_,rfl,Bc (fun h6=>?_) (fun h6=>?_)⟩
  ·have h6:=of_decide_eq_true h6
   rw[hk.YF]at h6
   have q1:=q _ e1
   rw[if_pos (by show 200<=_;omega)]at q1;exact q1
  ·have h6:=of_decide_eq_false h6
   rw[hk.YF]at h6
   have q1:=q _ e1
   rw[if_neg (by show ¬ 200<=_;omega)]at q1;exact q1
end
end Nm
namespace Nm
open PySem PySem.Spec PyProof.Rows L2
section
variable {P:Program}{w:World}{K:PySem.W.Frag}{mg:Str->Option Value}{base:Heap}{C:Cl}
def KR (K:PySem.W.Frag)(C:Cl):Sp:=fun vs H Q _=>∃k s R key wk l,∃ns:List Int,vs=[.ref k,.int key,.int wk,.ref l]∧Kp C H k s R∧SqL K H l (ns.map V.int)∧1<=ns.length∧ns.length<=2∧∀H',Ext C H H'->Q (.int (Cy s key wk ns)) H'
theorem Fv:Aj ["kept", "key", "work", "names", "name"] ["kept", "key", "work", "names"] (Ag (top 95)):=⟨rfl,rfl,rfl,by decide +kernel,rfl,by decide +kernel,by decide +kernel⟩
theorem QX {f:Addr}{fd:FuncData}(F:Fun K "act_refusal" "act_refusal" (top 95) f fd)(T:Txt K mg C)(G_is_key:Ok P w K mg base "is_key" 1 ["number"] (Ci Vbnlag.keyOk)):Ay P w K mg base CX0 2 f fd ["kept", "key", "work", "names"] (KR K C):=by
 refine F.ok Fv (fun vs H Q E h=>?_) (fun cdv A outer s H vs Q E hr h=>?_)
 ·obtain⟨_,_,_,_,_,_,_,rfl,_⟩:=h
  rfl
 ·obtain⟨k,st,R,key,wk,l,ns,rfl,hk,hl,n1,n2,q⟩:=h
  refine⟨_,(Ad (Bl (Df (BW (Al G_is_key (hr.mono (by decide)) (Aa (pv 1) Ae)))) (Af (Ai (pk T.Rq))) Aq)
   (Ad (Bl (Dg (J4 (hu1 hr) (pv 1) (pF T.cl (pv 0)))) (Af (Ai (pk T.DN))) Aq)
   (Ad (Bl (PW.pt (Sd (Dg (Cu (hu1 hr) (pv 2) (pF T.cl (pv 0)))) (Mx (Df (BW (Bd (Ax7 rfl) (by rfl) T.all boot_all (Aa (Qv rfl Fv.nd (Bw (pv 3)) (BJ (own:=[("name",4)]) (by kernel_rfl)) (fun _ _ _ _ _=>(Bk (i:=4) Fv.nd rfl (Or.inl rfl))) (fun _ _ _ _ _=>Ey) (fun _ _ _ _ _=>(Af1 (J4 (hu1 hr) (pv 4) (pF T.cl (pv 0)))))) Ae))))))) (Af (Ai (pk T.Gd))) Aq)
   (Ad (Bl (PW.pt (Fx (Ar Ce (Bd Bo (by rfl) T.len PySem.boot_len (Aa (pv 3) Ae)) Ah (Ba _)) (En (Ar Ce (Aw Ak (pv 3) Ah (fun _ _=>rfl)) (Aw Ak (pv 3) Ah (fun _ _=>rfl)) (Ba _))))) (Af (Ai (pk T.Wb))) Aq)
   (Ad (Bl (Ar Qy (Bd Ej (by rfl) T.len PySem.boot_len (Aa (pF T.cl (pv 0)) Ae)) (pk T.X5) (Ba _)) (Af (Ai (pk T.YM))) Aq)
   (Af (Ai (pk T.JH)))))))),?_⟩
  unfold Cy at q
  refine⟨_,rfl,key,rfl,_,rfl,Bc (fun h1=>?_) (fun h1=>?_)⟩
  ·have q1:=q H (Ext.refl _ _)
   rw[if_pos (by simpa using h1)]at q1;exact q1
  rw[if_neg (by simpa using h1)]at q
  obtain⟨o,hg,ho⟩:=hk.Ao3 key
  refine⟨_,rfl,_,rfl,_,_,rfl,hk.acts T.cl,R.a,o,rfl,hg,_,rfl,Bc (fun h2=>?_) (fun h2=>?_)⟩
  ·have q1:=q H (Ext.refl _ _)
   rw[if_pos (by rw[← ho];exact h2)]at q1;exact q1
  rw[if_neg (by rw[← ho,h2];decide)]at q
  obtain⟨o2,hg2,ho2⟩:=hk.Ao1 wk
  refine⟨_,rfl,_,rfl,_,_,rfl,hk.works T.cl,R.w,o2,rfl,hg2,_,rfl,Bc (fun h3=>?_) (fun h3=>?_)⟩
  ·have q1:=q H (Ext.refl _ _)
   rw[if_pos (by
    have:Vbnlag.isWork st wk=false:=by rw[← ho2];cases q2:o2.isSome with | false=>rfl | true=>rw[q2]at h3;cases h3
    rw[this];rfl)]at q1
   exact q1
  have w1:Vbnlag.isWork st wk=true:=by rw[← ho2];cases q2:o2.isSome with | true=>rfl | false=>rw[q2]at h3;cases h3
  rw[w1,Bool.true_and]at q
  refine⟨_,rfl,l,rfl,⟨_,hl⟩,fun D hD=>?_⟩
  refine EY (C:=C) ns V.int (fun _=>true) (fun n=>V.bl (Vbnlag.isName st n)) hl hD (by omega) (fun n hn H' N e hT hF=>?_) (fun H' e hl'=>?_)
  ·have hk1:=hk.ext e
   obtain⟨o3,hg3,ho3⟩:=hk1.Ao2 n
   refine⟨rfl,Tp ⟨_,rfl,_,rfl,_,_,rfl,hk1.names T.cl,R.n,o3,rfl,hg3,?_⟩⟩
   rw[ho3]
   exact hT rfl _ (Ext.refl _ _)
  ·rw[filter_all]at hl'
   have hk1:=hk.ext e
   have hl1:=e.Dn hl
   refine⟨D,ns.map (Vbnlag.isName st),rfl,.of (by rw[hl',List.map_map];rfl),_,rfl,?_⟩
   rw[List.all_map]
   have eid:(id∘Vbnlag.isName st)=Vbnlag.isName st:=rfl
   rw[eid]
   refine Bc (fun h4=>?_) (fun h4=>?_)
   ·have q1:=q H' e
    rw[if_pos (by simpa using h4)]at q1;exact q1
   rw[if_neg (by simpa using h4)]at q
   have rest:¬(ns.length=2∧ns[0]?=ns[1]?)->Yg (tOp (rI0 fun i j=>V.bl (decide (i≥j))) (tCB (fun xs H Q=>∃a kvs,xs=[V.ref a]∧Rd H a (.dK kvs)∧Q (.int kvs.length) H) (Yi (tF K (PX 0) "acts") Ab3)) (tC (V.int 60))) (L2.start ["kept", "key", "work", "names", "name"] [V.ref k,V.int key,V.int wk,V.ref l]) H' fun c H3=>if c=true then Q (.int (-8)) H3 else Q (.int 0) H3:=fun n5=>by
    rw[if_neg n5]at q
    refine⟨_,rfl,_,_,rfl,hk1.acts T.cl,R.a,_,rfl,hk1.ak,_,_,rfl,rfl,_,rfl,Bc (fun h6=>?_) (fun h6=>?_)⟩
    ·have h6:=of_decide_eq_true h6
     rw[hk.V7]at h6
     have q1:=q H' e
     rw[if_pos (by show 60<=_;omega)]at q1;exact q1
    ·have h6:=of_decide_eq_false h6
     rw[hk.V7]at h6
     have q1:=q H' e
     rw[if_neg (by show ¬ 60<=_;omega)]at q1;exact q1
   refine⟨_,rfl,l,_,rfl,.inl hl1,_,_,rfl,rfl,_,rfl,Bc (fun h5=>?_) (fun h5=>rest fun z=>?_)⟩
   ·have h5:ns.length=2:=by
     have:=of_decide_eq_true h5
     rw[List.length_map]at this
     omega
    obtain⟨a,b,rfl⟩:∃a b,ns=[a,b]:=by
     match ns,h5 with
     | [a,b],_=>exact⟨a,b,rfl⟩
    refine⟨_,rfl,l,_,_,_,rfl,rfl,hl1,rfl,_,rfl,l,_,_,_,rfl,rfl,hl1,rfl,_,_,rfl,rfl,_,rfl,Bc (fun h6=>?_) (fun h6=>rest fun z=>?_)⟩
    ·have q1:=q H' e
     rw[if_pos ⟨rfl,by show some a=some b;rw[of_decide_eq_true h6]⟩]at q1;exact q1
    ·exact of_decide_eq_false h6 (Option.some.inj z.2)
   ·have:=of_decide_eq_false h5
    rw[List.length_map]at this
    omega
end
end Nm
namespace Nm
open PySem PySem.Spec PyProof.Rows L2
theorem Za (s:VS)(k d a:Int):Vbnlag.step s (.work k d a)=if Gi s k d a=0 then({s with works:=Vbnlag.putWork ⟨k,d,a⟩ s.works},[0]) else(s,[Gi s k d a]):=by
 unfold Vbnlag.step Gi
 by_cases h1:Vbnlag.keyOk k=false
 ·simp[h1]
 ·by_cases h2:(Vbnlag.dayOk d&&Vbnlag.keyOk a)=false
  ·simp only[if_neg h1,if_pos h2];rfl
  ·by_cases h3:Vbnlag.isWork s k=true
   ·simp only[if_neg h1,if_neg h2,if_pos h3];rfl
   ·by_cases h4:Vbnlag.WORKS<=s.works.length
    ·simp only[if_neg h1,if_neg h2,if_neg h3,if_pos h4];rfl
    ·simp only[if_neg h1,if_neg h2,if_neg h3,if_neg h4];rfl
theorem Zb (s:VS)(k d a:Int):Vbnlag.step s (.name k d a)=if Gm s k d a=0 then({s with names:=Vbnlag.putName ⟨k,d,a⟩ s.names},[0]) else(s,[Gm s k d a]):=by
 unfold Vbnlag.step Gm
 by_cases h1:Vbnlag.keyOk k=false
 ·simp[h1]
 ·by_cases h2:Vbnlag.within a 1 Vbnlag.MOSTPAGE=false
  ·simp only[if_neg h1,if_pos h2];rfl
  ·by_cases h3:Vbnlag.isName s k=true
   ·simp only[if_neg h1,if_neg h2,if_pos h3];rfl
   ·by_cases h5:Vbnlag.isWork s d=false
    ·simp only[if_neg h1,if_neg h2,if_neg h3,if_pos h5];rfl
    ·by_cases h4:Vbnlag.NAMES<=s.names.length
     ·simp only[if_neg h1,if_neg h2,if_neg h3,if_neg h5,if_pos h4];rfl
     ·simp only[if_neg h1,if_neg h2,if_neg h3,if_neg h5,if_neg h4];rfl
theorem Ab6 (s:VS)(d a:Int):Vbnlag.step s (.use d a)=if HS s d a=0 then({s with uses:=Vbnlag.putUse (d,a) s.uses},[0]) else(s,[HS s d a]):=by
 unfold Vbnlag.step HS
 by_cases h1:(Vbnlag.isWork s d&&Vbnlag.isName s a)=false
 ·simp only[if_pos h1];rfl
 ·by_cases h2:Vbnlag.dayOf s d < Vbnlag.nameDay s a
  ·simp only[if_neg h1,if_pos h2];rfl
  ·by_cases h3:s.uses.contains (d,a)=true
   ·simp only[if_neg h1,if_neg h2,if_pos h3];rfl
   ·by_cases h4:Vbnlag.USES<=s.uses.length
    ·simp only[if_neg h1,if_neg h2,if_neg h3,if_pos h4];rfl
    ·simp only[if_neg h1,if_neg h2,if_neg h3,if_neg h4];rfl
theorem Z2 (s:VS){kind:Int}(k w a b:Int)(hk:kind<=3):Vbnlag.actFault s ⟨k,kind,w,a,b⟩=Cy s k w [a,b]:=by
 unfold Vbnlag.actFault Cy
 dsimp only
 by_cases h1:Vbnlag.keyOk k=false
 ·simp only[if_pos h1]
 ·by_cases h2:(Vbnlag.actOf s k).isSome=true
  ·simp only[if_neg h1,if_pos h2]
  ·simp only[if_neg h1,if_neg h2]
   by_cases h3:Vbnlag.isWork s w=true <;>by_cases h4:Vbnlag.isName s a=true <;>by_cases h5:Vbnlag.isName s b=true <;>by_cases h6:a=b <;>simp[h3,h4,h5,h6,hk]
theorem Z4 (s:VS){kind:Int}(k w a b:Int)(hk:¬kind<=3):Vbnlag.actFault s ⟨k,kind,w,a,b⟩=Cy s k w [a]:=by
 unfold Vbnlag.actFault Cy
 dsimp only
 by_cases h1:Vbnlag.keyOk k=false
 ·simp only[if_pos h1]
 ·by_cases h2:(Vbnlag.actOf s k).isSome=true
  ·simp only[if_neg h1,if_pos h2]
  ·simp only[if_neg h1,if_neg h2]
   by_cases h3:Vbnlag.isWork s w=true <;>by_cases h4:Vbnlag.isName s a=true <;>simp[h3,h4,hk]
section
variable {P:Program}{w:World}{K:PySem.W.Frag}{mg:Str->Option Value}{base:Heap}{C:Cl}
def Told (C:Cl)(H:Hp)(k:Addr)(s:VS)(R:Rep)(c:Vbnlag.Call)(Q:VK):Prop:=∀H' R' r,(Vbnlag.step s c).2=[r]->Kp C H' k (Vbnlag.step s c).1 R'->Own H' R'->R.Same R'->Oth C k R H H'->Q (.int r) H'
def JN (C:Cl):Sp:=fun vs H Q _=>∃k s R key day author,vs=[.ref k,.int key,.int day,.int author]∧Kp C H k s R∧Own H R∧Told C H k s R (.work key day author) Q
theorem KY:Aj ["kept", "key", "day", "author", "refusal"] ["kept", "key", "day", "author"] (Ag (top 90)):=⟨rfl,rfl,rfl,by decide +kernel,rfl,by decide +kernel,by decide +kernel⟩
theorem Uh {f:Addr}{fd:FuncData}(F:Fun K "tell_work" "tell_work" (top 90) f fd)(T:Txt K mg C)(G_work_refusal:Ok P w K mg base "work_refusal" 2 ["kept", "key", "day", "author"] (Mp C))(M_Work:OkC P w K mg base "Work" C.work 1 ["self", "key", "day", "author"] (JT C)):Ay P w K mg base CX0 3 f fd ["kept", "key", "day", "author"] (JN C):=by
 refine F.ok KY (fun vs H Q E h=>?_) (fun cdv A outer s H vs Q E hr h=>?_)
 ·obtain⟨_,_,_,_,_,_,rfl,_⟩:=h
  rfl
 ·obtain⟨k,st,R,key,day,au,rfl,hk,ow,q⟩:=h
  refine⟨_,(Ad (Am (i:=4) KY.nd rfl (Or.inl rfl) (Al G_work_refusal (hr.mono (by decide)) (Aa (pv 0) (Aa (pv 1) (Aa (pv 2) (Aa (pv 3) Ae))))))
   (Ad (Bl (Ar Ce (pv 4) (pk T.JH) (Ba _)) (Af (Ho (hu1 hr) (pF T.cl (pv 0)) (pv 1) (Sh M_Work (hr.mono (by decide)) (Aa (pv 1) (Aa (pv 2) (Aa (pv 3) Ae)))) rfl)) Aq)
   (Af (Ai (pv 4))))),?_⟩
  have st1:=Za st key day au
  refine⟨_,rfl,_,rfl,_,rfl,_,rfl,k,st,R,key,day,au,rfl,hk,_,rfl,_,_,rfl,rfl,_,rfl,Bc (fun h1=>?_) (fun h1=>?_)⟩
  ·have h1:Gi st key day au=0:=of_decide_eq_true h1
   rw[if_pos h1]at st1
   have wf:=hk.wf.step (.work key day au) (fun _ _ _ _ _ z=>nomatch z)
   rw[st1]at wf
   have nw:Vbnlag.isWork st key=false:=by
    unfold Gi at h1
    cases q:Vbnlag.isWork st key with
    | false=>rfl
    | true =>
     rw[q]at h1
     split at h1
     ·cases h1
     ·split at h1
      ·cases h1
      ·cases h1
   refine⟨_,rfl,_,rfl,_,rfl,fun x dx nx nd ne=>⟨x,dx,_,_,_,rfl,Ab,fun H2 sm hx2=>⟨rfl,?_⟩⟩⟩
   have kp:=GQ (Hm:=H) nx nd sm
   have e2:Ext C H H2:=Ext.M8 kp
   have hk2:=hk.ext e2
   have ow2:=ow.ext e2
   obtain⟨k3,o3,t3⟩:=hk2.addW ow2 (y:=⟨key,day,au⟩) (a:=x) ⟨dx,hx2⟩ (Hu nw) wf
   refine⟨_,rfl,_,_,rfl,hk2.works T.cl,_,rfl,R.w,_,rfl,.inl ⟨_,Sum.inl key,ow2.w,rfl,by rw[hk2.S6];exact Bj (Nat.le_trans hk.wf.lw (by decide)),rfl⟩,_,rfl,?_⟩
   rw[h1]
   exact q _ _ 0 (by rw[st1]) (by rw[st1];exact k3) o3 ⟨rfl,rfl,rfl,rfl⟩ (e2.oth.trans (Rep.Same.refl R) t3)
  ·have h1:Gi st key day au≠0:=of_decide_eq_false h1
   rw[if_neg h1]at st1
   exact⟨_,rfl,q H R _ (by rw[st1]) (by rw[st1];exact hk) ow (Rep.Same.refl R) (Ext.refl C H).oth⟩
def JQ (C:Cl):Sp:=fun vs H Q _=>∃k s R key wk page,vs=[.ref k,.int key,.int wk,.int page]∧Kp C H k s R∧Own H R∧Told C H k s R (.name key wk page) Q
theorem KZ:Aj ["kept", "key", "work", "page", "refusal"] ["kept", "key", "work", "page"] (Ag (top 92)):=⟨rfl,rfl,rfl,by decide +kernel,rfl,by decide +kernel,by decide +kernel⟩
theorem Ui {f:Addr}{fd:FuncData}(F:Fun K "tell_name" "tell_name" (top 92) f fd)(T:Txt K mg C)(G_name_refusal:Ok P w K mg base "name_refusal" 2 ["kept", "key", "work", "page"] (Mr C))(M_Name:OkC P w K mg base "Name" C.name 1 ["self", "key", "work", "page"] (JV C)):Ay P w K mg base CX0 3 f fd ["kept", "key", "work", "page"] (JQ C):=by
 refine F.ok KZ (fun vs H Q E h=>?_) (fun cdv A outer s H vs Q E hr h=>?_)
 ·obtain⟨_,_,_,_,_,_,rfl,_⟩:=h
  rfl
 ·obtain⟨k,st,R,key,wk,pg,rfl,hk,ow,q⟩:=h
  refine⟨_,(Ad (Am (i:=4) KZ.nd rfl (Or.inl rfl) (Al G_name_refusal (hr.mono (by decide)) (Aa (pv 0) (Aa (pv 1) (Aa (pv 2) (Aa (pv 3) Ae))))))
   (Ad (Bl (Ar Ce (pv 4) (pk T.JH) (Ba _)) (Af (Ho (hu1 hr) (pF T.cl (pv 0)) (pv 1) (Sh M_Name (hr.mono (by decide)) (Aa (pv 1) (Aa (pv 2) (Aa (pv 3) Ae)))) rfl)) Aq)
   (Af (Ai (pv 4))))),?_⟩
  have st1:=Zb st key wk pg
  refine⟨_,rfl,_,rfl,_,rfl,_,rfl,k,st,R,key,wk,pg,rfl,hk,_,rfl,_,_,rfl,rfl,_,rfl,Bc (fun h1=>?_) (fun h1=>?_)⟩
  ·have h1:Gm st key wk pg=0:=of_decide_eq_true h1
   rw[if_pos h1]at st1
   have wf:=hk.wf.step (.name key wk pg) (fun _ _ _ _ _ z=>nomatch z)
   rw[st1]at wf
   have nw:Vbnlag.isName st key=false:=by
    unfold Gm at h1
    cases q:Vbnlag.isName st key with
    | false=>rfl
    | true =>
     rw[q]at h1
     split at h1
     ·cases h1
     ·split at h1
      ·cases h1
      ·cases h1
   refine⟨_,rfl,_,rfl,_,rfl,fun x dx nx nd ne=>⟨x,dx,_,_,_,rfl,Ab,fun H2 sm hx2=>⟨rfl,?_⟩⟩⟩
   have kp:=GQ (Hm:=H) nx nd sm
   have e2:Ext C H H2:=Ext.M8 kp
   have hk2:=hk.ext e2
   have ow2:=ow.ext e2
   obtain⟨k3,o3,t3⟩:=hk2.Be9 ow2 (y:=⟨key,wk,pg⟩) (a:=x) ⟨dx,hx2⟩ (Hv nw) wf
   refine⟨_,rfl,_,_,rfl,hk2.names T.cl,_,rfl,R.n,_,rfl,.inl ⟨_,Sum.inl key,ow2.n,rfl,by rw[hk2.YH];exact Bj (Nat.le_trans hk.wf.ln (by decide)),rfl⟩,_,rfl,?_⟩
   rw[h1]
   exact q _ _ 0 (by rw[st1]) (by rw[st1];exact k3) o3 ⟨rfl,rfl,rfl,rfl⟩ (e2.oth.trans (Rep.Same.refl R) t3)
  ·have h1:Gm st key wk pg≠0:=of_decide_eq_false h1
   rw[if_neg h1]at st1
   exact⟨_,rfl,q H R _ (by rw[st1]) (by rw[st1];exact hk) ow (Rep.Same.refl R) (Ext.refl C H).oth⟩
def Mq (C:Cl):Sp:=fun vs H Q _=>∃k s R wk nm,vs=[.ref k,.int wk,.int nm]∧Kp C H k s R∧Own H R∧Told C H k s R (.use wk nm) Q
theorem Nz:Aj ["kept", "work", "name", "refusal"] ["kept", "work", "name"] (Ag (top 94)):=⟨rfl,rfl,rfl,by decide +kernel,rfl,by decide +kernel,by decide +kernel⟩
theorem Vt {f:Addr}{fd:FuncData}(F:Fun K "tell_use" "tell_use" (top 94) f fd)(T:Txt K mg C)(G_use_refusal:Ok P w K mg base "use_refusal" 2 ["kept", "work", "name"] (Qa C)):Ay P w K mg base CX0 3 f fd ["kept", "work", "name"] (Mq C):=by
 refine F.ok Nz (fun vs H Q E h=>?_) (fun cdv A outer s H vs Q E hr h=>?_)
 ·obtain⟨_,_,_,_,_,rfl,_⟩:=h
  rfl
 ·obtain⟨k,st,R,wk,nm,rfl,hk,ow,q⟩:=h
  refine⟨_,(Ad (Am (i:=3) Nz.nd rfl (Or.inl rfl) (Al G_use_refusal (hr.mono (by decide)) (Aa (pv 0) (Aa (pv 1) (Aa (pv 2) Ae)))))
   (Ad (Bl (Ar Ce (pv 3) (pk T.JH) (Ba _)) (Af (Ho (hu1 hr) (pF T.cl (pv 0)) (Il (Aa (pv 1) (Aa (pv 2) Ae))) Vr rfl)) Aq)
   (Af (Ai (pv 3))))),?_⟩
  have st1:=Ab6 st wk nm
  refine⟨_,rfl,_,rfl,_,rfl,k,st,R,wk,nm,rfl,hk,fun H1 e1=>⟨_,rfl,_,_,rfl,rfl,_,rfl,Bc (fun h1=>?_) (fun h1=>?_)⟩⟩
  ·have h1:HS st wk nm=0:=of_decide_eq_true h1
   rw[if_pos h1]at st1
   have wf:=hk.wf.step (.use wk nm) (fun _ _ _ _ _ z=>nomatch z)
   rw[st1]at wf
   have nw:(wk,nm)∉st.uses:=fun m=>by
    unfold HS at h1
    have c:st.uses.contains (wk,nm)=true:=List.contains_iff_mem.mpr m
    rw[c]at h1
    split at h1
    ·cases h1
    ·split at h1
     ·cases h1
     ·cases h1
   have hk1:=hk.ext e1
   refine⟨_,rfl,_,_,rfl,hk1.uses T.cl,_,rfl,_,rfl,by show 2<=sizeLine;decide,fun t ht=>?_⟩
   have e2:=e1.lay ht (.tup [V.int wk,V.int nm])
   have hk2:=hk.ext e2
   have ow2:=ow.ext e2
   obtain⟨k3,o3,t3⟩:=hk2.Be8 ow2 (y:=(wk,nm)) nw wf
   refine⟨R.u,_,rfl,.inr ⟨_,[Sum.inl wk,Sum.inl nm],t,ow2.u,rfl,Ab,by rw[hk2.YF];exact Bj (Nat.le_trans hk.wf.lu (by decide)),rfl⟩,_,rfl,?_⟩
   rw[h1]
   exact q _ _ 0 (by rw[st1]) (by rw[st1];exact k3) o3 ⟨rfl,rfl,rfl,rfl⟩ (e2.oth.trans (Rep.Same.refl R) t3)
  ·have h1:HS st wk nm≠0:=of_decide_eq_false h1
   rw[if_neg h1]at st1
   exact⟨_,rfl,q H1 R _ (by rw[st1]) (by rw[st1];exact hk.ext e1) (ow.ext e1) (Rep.Same.refl R) e1.oth⟩
end
end Nm
namespace Nm
open PySem PySem.Spec PyProof.Rows L2
theorem Zc (s:VS){kind:Int}(k w a b:Int)(hk:kind<=3):Vbnlag.step s (.act kind k w a b)=if Cy s k w [a,b]=0 then({s with acts:=Vbnlag.putKey ⟨k,kind,w,a,b⟩ s.acts},[0]) else(s,[Cy s k w [a,b]]):=by
 unfold Vbnlag.step
 dsimp only
 rw[if_pos hk,Z2 s k w a b hk]
 by_cases h:Cy s k w [a,b]=0
 ·rw[if_neg (fun z=>z h),if_pos h]
 ·rw[if_pos h,if_neg h]
theorem Zd (s:VS){kind:Int}(k w a b:Int)(hk:¬kind<=3):Vbnlag.step s (.act kind k w a b)=if Cy s k w [a]=0 then({s with acts:=Vbnlag.putKey ⟨k,kind,w,a,0⟩ s.acts},[0]) else(s,[Cy s k w [a]]):=by
 unfold Vbnlag.step
 dsimp only
 rw[if_neg hk,Z4 s k w a 0 hk]
 by_cases h:Cy s k w [a]=0
 ·rw[if_neg (fun z=>z h),if_pos h]
 ·rw[if_pos h,if_neg h]
theorem Yj {s:VS}{k w:Int}{ns:List Int}(h:Cy s k w ns=0):∀x∈s.acts,x.key≠k:=by
 have n:(Vbnlag.actOf s k).isSome=false:=by
  unfold Cy at h
  cases q:(Vbnlag.actOf s k).isSome with
  | false=>rfl
  | true =>
   rw[q]at h
   split at h
   ·cases h
   ·cases h
 exact CZ.mp (by cases q:Vbnlag.actOf s k with | none=>exact q | some x=>rw[q]at n;cases n)
section
variable {P:Program}{w:World}{K:PySem.W.Frag}{mg:Str->Option Value}{base:Heap}{C:Cl}
def KD (C:Cl):Sp:=fun vs H Q _=>∃k s R kind key wk a b,vs=[.ref k,.int kind,.int key,.int wk,.int a,.int b]∧1<=kind∧kind<=3∧Kp C H k s R∧Own H R∧Told C H k s R (.act kind key wk a b) Q
theorem Fp:Aj ["kept", "kind", "key", "work", "a", "b", "refusal"] ["kept", "kind", "key", "work", "a", "b"] (Ag (top 96)):=⟨rfl,rfl,rfl,by decide +kernel,rfl,by decide +kernel,by decide +kernel⟩
theorem J6 {f:Addr}{fd:FuncData}(F:Fun K "tell_act_of_two" "tell_act_of_two" (top 96) f fd)(T:Txt K mg C)(G_act_refusal:Ok P w K mg base "act_refusal" 2 ["kept", "key", "work", "names"] (KR K C))(M_Act:OkC P w K mg base "Act" C.act 1 ["self", "key", "kind", "work", "a", "b"] (Jf C)):Ay P w K mg base CX0 3 f fd ["kept", "kind", "key", "work", "a", "b"] (KD C):=by
 refine F.ok Fp (fun vs H Q E h=>?_) (fun cdv A outer s H vs Q E hr h=>?_)
 ·obtain⟨_,_,_,_,_,_,_,_,rfl,_⟩:=h
  rfl
 ·obtain⟨k,st,R,kind,key,wk,a,b,rfl,k1,k3,hk,ow,q⟩:=h
  refine⟨_,(Ad (Am (i:=6) Fp.nd rfl (Or.inl rfl) (Al G_act_refusal (hr.mono (by decide)) (Aa (pv 0) (Aa (pv 2) (Aa (pv 3) (Aa (Ax (Aa (pv 4) (Aa (pv 5) Ae))) Ae))))))
   (Ad (Bl (Ar Ce (pv 6) (pk T.JH) (Ba _)) (Af (Ho (hu1 hr) (pF T.cl (pv 0)) (pv 2) (Sh M_Act (hr.mono (by decide)) (Aa (pv 2) (Aa (pv 1) (Aa (pv 3) (Aa (pv 4) (Aa (pv 5) Ae)))))) rfl)) Aq)
   (Af (Ai (pv 6))))),?_⟩
  have st1:=Zc st key wk a b k3
  refine⟨_,rfl,_,rfl,_,rfl,_,rfl,_,rfl,by show 2<=sizeLine;decide,fun l hl=>?_⟩
  have e0:=Ext.new C hl (.lst [V.int a,V.int b])
  refine⟨k,st,R,key,wk,l,[a,b],rfl,hk.ext e0,.of Ab,by simp,by simp,fun H1 e1=>⟨_,rfl,_,_,rfl,rfl,_,rfl,Bc (fun h1=>?_) (fun h1=>?_)⟩⟩
  ·have h1:Cy st key wk [a,b]=0:=of_decide_eq_true h1
   rw[if_pos h1]at st1
   have wf:=hk.wf.step (.act kind key wk a b) (fun _ _ _ _ _ z=>by cases z;exact⟨k1,by omega⟩)
   rw[st1]at wf
   refine⟨_,rfl,_,rfl,_,rfl,_,rfl,_,rfl,fun x dx nx nd ne=>⟨x,dx,_,_,_,_,_,rfl,Ab,fun H2 sm hx2=>⟨rfl,?_⟩⟩⟩
   have e01:=e0.trans e1
   have e2:Ext C H H2:=e01.trans (Ext.M8 (GQ (Hm:=H) nx nd sm))
   have hk2:=hk.ext e2
   have ow2:=ow.ext e2
   obtain⟨k3,o3,t3⟩:=hk2.Bb1 ow2 (y:=⟨key,kind,wk,a,b⟩) (a:=x) ⟨dx,hx2⟩ (Yj h1) wf
   refine⟨_,rfl,_,_,rfl,hk2.acts T.cl,_,rfl,R.a,_,rfl,.inl ⟨_,Sum.inl key,ow2.a,rfl,by rw[hk2.V7];exact Bj (Nat.le_trans hk.wf.la (by decide)),rfl⟩,_,rfl,?_⟩
   rw[h1]
   exact q _ _ 0 (by rw[st1]) (by rw[st1];exact k3) o3 ⟨rfl,rfl,rfl,rfl⟩ (e2.oth.trans (Rep.Same.refl R) t3)
  ·have h1:Cy st key wk [a,b]≠0:=of_decide_eq_false h1
   rw[if_neg h1]at st1
   have e01:=e0.trans e1
   exact⟨_,rfl,q H1 R _ (by rw[st1]) (by rw[st1];exact hk.ext e01) (ow.ext e01) (Rep.Same.refl R) e01.oth⟩
def Pa (C:Cl):Sp:=fun vs H Q _=>∃k s R kind key wk a b,vs=[.ref k,.int kind,.int key,.int wk,.int a]∧4<=kind∧kind<=5∧Kp C H k s R∧Own H R∧Told C H k s R (.act kind key wk a b) Q
theorem Fq:Aj ["kept", "kind", "key", "work", "a", "refusal"] ["kept", "kind", "key", "work", "a"] (Ag (top 97)):=⟨rfl,rfl,rfl,by decide +kernel,rfl,by decide +kernel,by decide +kernel⟩
theorem J7 {f:Addr}{fd:FuncData}(F:Fun K "tell_act_of_one" "tell_act_of_one" (top 97) f fd)(T:Txt K mg C)(G_act_refusal:Ok P w K mg base "act_refusal" 2 ["kept", "key", "work", "names"] (KR K C))(M_Act:OkC P w K mg base "Act" C.act 1 ["self", "key", "kind", "work", "a", "b"] (Jf C)):Ay P w K mg base CX0 3 f fd ["kept", "kind", "key", "work", "a"] (Pa C):=by
 refine F.ok Fq (fun vs H Q E h=>?_) (fun cdv A outer s H vs Q E hr h=>?_)
 ·obtain⟨_,_,_,_,_,_,_,_,rfl,_⟩:=h
  rfl
 ·obtain⟨k,st,R,kind,key,wk,a,b,rfl,k1,k3,hk,ow,q⟩:=h
  refine⟨_,(Ad (Am (i:=5) Fq.nd rfl (Or.inl rfl) (Al G_act_refusal (hr.mono (by decide)) (Aa (pv 0) (Aa (pv 2) (Aa (pv 3) (Aa (Ax (Aa (pv 4) Ae)) Ae))))))
   (Ad (Bl (Ar Ce (pv 5) (pk T.JH) (Ba _)) (Af (Ho (hu1 hr) (pF T.cl (pv 0)) (pv 2) (Sh M_Act (hr.mono (by decide)) (Aa (pv 2) (Aa (pv 1) (Aa (pv 3) (Aa (pv 4) (Aa Ah Ae)))))) rfl)) Aq)
   (Af (Ai (pv 5))))),?_⟩
  have n3:¬kind<=3:=by omega
  have st1:=Zd st key wk a b n3
  refine⟨_,rfl,_,rfl,_,rfl,_,rfl,by show 1<=sizeLine;decide,fun l hl=>?_⟩
  have e0:=Ext.new C hl (.lst [V.int a])
  refine⟨k,st,R,key,wk,l,[a],rfl,hk.ext e0,.of Ab,by simp,by simp,fun H1 e1=>⟨_,rfl,_,_,rfl,rfl,_,rfl,Bc (fun h1=>?_) (fun h1=>?_)⟩⟩
  ·have h1:Cy st key wk [a]=0:=of_decide_eq_true h1
   rw[if_pos h1]at st1
   have wf:=hk.wf.step (.act kind key wk a b) (fun _ _ _ _ _ z=>by cases z;exact⟨by omega,k3⟩)
   rw[st1]at wf
   refine⟨_,rfl,_,rfl,_,rfl,_,rfl,fun x dx nx nd ne=>⟨x,dx,_,_,_,_,_,rfl,Ab,fun H2 sm hx2=>⟨rfl,?_⟩⟩⟩
   have e01:=e0.trans e1
   have e2:Ext C H H2:=e01.trans (Ext.M8 (GQ (Hm:=H) nx nd sm))
   have hk2:=hk.ext e2
   have ow2:=ow.ext e2
   obtain⟨k3,o3,t3⟩:=hk2.Bb1 ow2 (y:=⟨key,kind,wk,a,0⟩) (a:=x) ⟨dx,hx2⟩ (Yj h1) wf
   refine⟨_,rfl,_,_,rfl,hk2.acts T.cl,_,rfl,R.a,_,rfl,.inl ⟨_,Sum.inl key,ow2.a,rfl,by rw[hk2.V7];exact Bj (Nat.le_trans hk.wf.la (by decide)),rfl⟩,_,rfl,?_⟩
   rw[h1]
   exact q _ _ 0 (by rw[st1]) (by rw[st1];exact k3) o3 ⟨rfl,rfl,rfl,rfl⟩ (e2.oth.trans (Rep.Same.refl R) t3)
  ·have h1:Cy st key wk [a]≠0:=of_decide_eq_false h1
   rw[if_neg h1]at st1
   have e01:=e0.trans e1
   exact⟨_,rfl,q H1 R _ (by rw[st1]) (by rw[st1];exact hk.ext e01) (ow.ext e01) (Rep.Same.refl R) e01.oth⟩
def JR (C:Cl):Sp:=fun vs H Q _=>∃k s R a b c d e,vs=[.ref k,.int a,.int b,.int c,.int d,.int e]∧Kp C H k s R∧Own H R∧Told C H k s R (.code ⟨a,b,c,d,e⟩) Q
theorem Ua:Aj ["kept", "limit", "works", "authors", "window", "span"] ["kept", "limit", "works", "authors", "window", "span"] (Ag (top 88)):=⟨rfl,rfl,rfl,by decide +kernel,rfl,by decide +kernel,by decide +kernel⟩
theorem Uj {f:Addr}{fd:FuncData}(F:Fun K "tell_code" "tell_code" (top 88) f fd)(T:Txt K mg C)(G_is_code:Ok P w K mg base "is_code" 2 ["limit", "works", "authors", "window", "span"] Qc)(M_Code:OkC P w K mg base "Code" C.code 1 ["self", "limit", "works", "authors", "window", "span"] (Hi C)):Ay P w K mg base CX0 3 f fd ["kept", "limit", "works", "authors", "window", "span"] (JR C):=by
 refine F.ok Ua (fun vs H Q E h=>?_) (fun cdv A outer s H vs Q E hr h=>?_)
 ·obtain⟨_,_,_,_,_,_,_,_,rfl,_⟩:=h
  rfl
 ·obtain⟨k,st,R,a,b,c,d,e,rfl,hk,ow,q⟩:=h
  refine⟨_,(Ad (Bl (Df (BW (Al G_is_code (hr.mono (by decide)) (Aa (pv 1) (Aa (pv 2) (Aa (pv 3) (Aa (pv 4) (Aa (pv 5) Ae)))))))) (Af (Ai (pk T.DK))) Aq)
   (Ad (Bl (Ar Lh (Bd Ej (by rfl) T.len PySem.boot_len (Aa (pF T.cl (pv 0)) Ae)) Ah (Ba _)) (Af (Ai (pk T.Kr))) Aq)
   (Ad (BK (pv 0) (Sh M_Code (hr.mono (by decide)) (Aa (pv 1) (Aa (pv 2) (Aa (pv 3) (Aa (pv 4) (Aa (pv 5) Ae)))))) rfl)
   (Af (Ai (pk T.JH)))))),?_⟩
  refine⟨_,rfl,_,rfl,_,rfl,_,rfl,_,rfl,a,b,c,d,e,rfl,_,rfl,Bc (fun h1=>?_) (fun h1=>?_)⟩
  ·have h1:Vbnlag.codeOk ⟨a,b,c,d,e⟩=false:=by simpa using h1
   have st1:Vbnlag.step st (.code ⟨a,b,c,d,e⟩)=(st,[-9]):=by unfold Vbnlag.step;dsimp only;rw[if_pos h1]
   exact q H R _ (by rw[st1]) (by rw[st1];exact hk) ow (Rep.Same.refl R) (Ext.refl C H).oth
  have h1:¬Vbnlag.codeOk ⟨a,b,c,d,e⟩=false:=by simpa using h1
  refine⟨_,rfl,_,_,rfl,hk.works T.cl,R.w,_,rfl,hk.wk,_,_,rfl,rfl,_,rfl,Bc (fun h2=>?_) (fun h2=>?_)⟩
  ·have h2:=of_decide_eq_true h2
   rw[hk.S6]at h2
   have h3:st.works.isEmpty=false:=by
    cases q:st.works with
    | nil=>rw[q]at h2;exact absurd h2 (by decide)
    | cons x r=>rfl
   have st1:Vbnlag.step st (.code ⟨a,b,c,d,e⟩)=(st,[-16]):=by unfold Vbnlag.step;dsimp only;rw[if_neg h1,if_pos h3]
   exact q H R _ (by rw[st1]) (by rw[st1];exact hk) ow (Rep.Same.refl R) (Ext.refl C H).oth
  ·have h2:=of_decide_eq_false h2
   rw[hk.S6]at h2
   have h3:¬st.works.isEmpty=false:=by
    cases q:st.works with
    | nil=>decide
    | cons x r=>rw[q]at h2;exact absurd (by simp) h2
   have st1:Vbnlag.step st (.code ⟨a,b,c,d,e⟩)=({st with code:=⟨a,b,c,d,e⟩},[0]):=by unfold Vbnlag.step;dsimp only;rw[if_neg h1,if_neg h3]
   refine⟨_,rfl,_,rfl,_,rfl,_,rfl,_,rfl,fun x dx nx nd ne=>⟨x,dx,_,_,_,_,_,rfl,Ab,fun H2 sm hx2=>⟨rfl,?_⟩⟩⟩
   have e2:Ext C H H2:=Ext.M8 (GQ (Hm:=H) nx nd sm)
   have hk2:=hk.ext e2
   have ow2:=ow.ext e2
   have nk:x≠k:=fun z=>by rw[z,hk.kp]at nx;cases nx
   obtain⟨k3,o3,t3⟩:=hk2.newC ow2 (y:=⟨a,b,c,d,e⟩) (a:=x) ⟨dx,hx2⟩ nk
   refine⟨_,rfl,k,C.kept,R.dx,_,rfl,hk2.kp,T.cl.kept,T.cl.Nj,by show 5 < 1000;decide,?_⟩
   exact q _ _ 0 (by rw[st1]) (by rw[st1];exact k3) o3 ⟨rfl,rfl,rfl,rfl⟩ (e2.oth.trans (Rep.Same.refl R) t3)
end
end Nm
namespace Nm
open PySem PySem.Spec PyProof.Rows L2
section
variable {P:Program}{w:World}{K:PySem.W.Frag}{mg:Str->Option Value}{base:Heap}{C:Cl}
theorem IK {α:Type}{key:α->Int}{l:List Int}{m:List α}(p:l.Perm (m.map key))(h:l.Pairwise (· <= ·))(so:m.Pairwise fun x y=>key x < key y):l=m.map key:=by
 refine List.Perm.eq_of_pairwise (le:=fun x y:Int=>x<=y) (fun a b _ _ h1 h2=>Int.le_antisymm h1 h2) h ?_ p
 exact List.pairwise_map.mpr (so.imp fun h=>Int.le_of_lt h)
def WY (C:Cl):Sp:=fun vs H Q _=>∃c cd,vs=[.ref c]∧CK C H c cd∧∀l,H l=none->Q (.ref l) (upd H l (.lst (([cd.limit,cd.works,cd.authors,cd.window,cd.span]:List Int).map V.int)))
theorem JX:Aj ["code"] ["code"] (Ag (top 1)):=⟨rfl,rfl,rfl,by decide +kernel,rfl,by decide +kernel,by decide +kernel⟩
theorem Ka {f:Addr}{fd:FuncData}(F:Fun K "account_of_code" "account_of_code" (top 1) f fd)(T:Txt K mg C):Ay P w K mg base CX0 1 f fd ["code"] (WY C):=by
 refine F.ok JX (fun vs H Q E h=>?_) (fun cdv A outer s H vs Q E hr h=>?_)
 ·obtain⟨_,_,rfl,_⟩:=h
  rfl
 ·obtain⟨c,cd,rfl,hc,q⟩:=h
  refine⟨_,(Af (Ai (Ax (Aa (pF T.cl (pv 0)) (Aa (pF T.cl (pv 0)) (Aa (pF T.cl (pv 0)) (Aa (pF T.cl (pv 0)) (Aa (pF T.cl (pv 0)) Ae)))))))),?_⟩
  exact⟨_,rfl,_,_,rfl,hc.limit T.cl,_,rfl,_,_,rfl,hc.works T.cl,_,rfl,_,_,rfl,hc.authors T.cl,_,rfl,_,_,rfl,hc.window T.cl,_,rfl,_,_,rfl,hc.span T.cl,by show 5<=sizeLine;decide,q⟩
theorem boot_sorted:bootBuiltins "sorted" =some (.builtin "sorted"):=by decide +kernel
def WT (C:Cl):Sp:=fun vs H Q _=>∃k s R,vs=[.ref R.w]∧Kp C H k s R∧∀H' l,Ext C H H'->H l=none->H' l=some (.lst (((s.works.length:Int)::s.works.flatMap fun x=>[x.key,x.day,x.author]).map V.int))->Q (.ref l) H'
theorem BX:Aj ["works", "numbers", "key", "work"] ["works"] (Ag (top 2)):=⟨rfl,rfl,rfl,by decide +kernel,rfl,by decide +kernel,by decide +kernel⟩
theorem Jv {f:Addr}{fd:FuncData}(F:Fun K "account_of_works" "account_of_works" (top 2) f fd)(T:Txt K mg C):Ay P w K mg base CX0 1 f fd ["works"] (WT C):=by
 refine F.ok BX (fun vs H Q E h=>?_) (fun cdv A outer s H vs Q E hr h=>?_)
 ·obtain⟨_,_,_,rfl,_⟩:=h
  rfl
 ·obtain⟨k,st,R,rfl,hk,q⟩:=h
  refine⟨_,(Ad (Am (i:=1) BX.nd rfl (Or.inl rfl) (Ax (Aa (Bd Ej (by rfl) T.len PySem.boot_len (Aa (pv 0) Ae)) Ae)))
   (Ad (Fz PassesOwn.never rfl (Bw (Bd (Ko rfl) (by rfl) T.sorted boot_sorted (Aa (pv 0) Ae))) (Bk (i:=2) BX.nd rfl (Or.inl rfl)) (Ad (Am (i:=3) BX.nd rfl (Or.inl rfl) (Br (hu1 hr) (pv 0) (pv 2) (fun _ _=>rfl)))
   (Af (Ca (Dj PySem.F.plainAttrs_list PySem.F.slot_list_extend PySem.F.type_list_extend Fg (pv 1) (Aa (Ax (Aa (pF T.cl (pv 3)) (Aa (pF T.cl (pv 3)) (Aa (pF T.cl (pv 3)) Ae)))) Ae))))))
   (Af (Ai (pv 1))))),?_⟩
  refine⟨_,rfl,R.w,_,rfl,hk.wk,by show 1<=sizeLine;decide,fun nl hnl=>?_⟩
  have e0:=Ext.new C hnl (.lst [V.int (dW R.ws).length])
  have hk0:=hk.ext e0
  refine⟨_,rfl,R.w,_,R.ws.map fun p=>p.2.key,rfl,hk0.wk,by unfold dW;rw[List.map_map,List.map_map];rfl,by rw[List.length_map,hk.Ba1];exact Nat.le_trans hk.wf.lw (by decide),fun kl ns hkl pm so=>?_⟩
  have ens:ns=st.works.map Vbnlag.Work.key:=IK (key:=Vbnlag.Work.key) (pm.trans (by
   have:=hk.wp.map Vbnlag.Work.key
   rw[List.map_map]at this
   exact this)) so hk.wf.ws
  subst ens
  have e1:=e0.lay hkl (.lst ((st.works.map Vbnlag.Work.key).map V.int))
  have ne:kl≠nl:=fun z=>by rw[z,Ab]at hkl;cases hkl
  have lw:st.works.length<=100:=Nat.le_trans hk.wf.lw (by decide)
  refine⟨kl,rfl,⟨_,.of Ab⟩,?_⟩
  refine Dy (J:=Itl K kl) (n:=st.works.length) (fun i σ H2=>∃v u,σ=[some (.ref R.w),some (.ref nl),v,u]∧Ext C H H2∧H2 nl=some (.lst (((st.works.length:Int)::(st.works.take i).flatMap fun x=>[x.key,x.day,x.author]).map V.int))∧H2 kl=some (.lst ((st.works.map Vbnlag.Work.key).map V.int))∧((st.works.take i).flatMap fun x=>[x.key,x.day,x.author]).length<=3 * i)
   ⟨none,none,rfl,e1,by rw[Ac ne.symm,Ab];show some (HO.lst [V.int (dW R.ws).length])=_;rw[hk.S6];rfl,Ab,by simp⟩
   (fun i σ H2 hi ⟨v,u,a1,a2,a3,a4,a5⟩=>⟨_,V.int st.works[i].key,.of a4,by rw[List.getElem?_map,List.getElem?_map,List.getElem?_eq_getElem hi];rfl⟩)
   (fun σ H2 ⟨v,u,a1,a2,a3,a4,a5⟩=>⟨_,.of a4,by rw[List.length_map,List.length_map];exact Nat.le_refl _⟩)
   (fun i x σ H2 H3 hi ⟨v,u,a1,a2,a3,a4,a5⟩ ⟨y1,y2⟩=>?_)
   (fun σ H2 ⟨v,u,a1,a2,a3,a4,a5⟩=>?_)
  ·subst y1 a1
   have y3:=y2 _ (.of a4)
   rw[List.getElem?_map,List.getElem?_map,List.getElem?_eq_getElem hi]at y3
   cases y3
   have tk:st.works.take (i + 1)=st.works.take i++[st.works[i]]:=by rw[List.take_succ,List.getElem?_eq_getElem hi];rfl
   obtain⟨a,ha,hg⟩:=(hk.ext a2).Ah9 (List.getElem_mem hi)
   refine⟨_,rfl,_,rfl,R.w,_,rfl,hg,_,rfl,tyL a3,_,rfl,_,_,rfl,(ha.ext (Ext.refl _ _)).key T.cl,_,rfl,_,_,rfl,(ha.ext (Ext.refl _ _)).day T.cl,_,rfl,_,_,rfl,(ha.ext (Ext.refl _ _)).author T.cl,by show 3<=sizeLine;decide,fun p hp=>?_⟩
   have pn:nl≠p:=fun z=>by rw[← z,a3]at hp;cases hp
   have pk:kl≠p:=fun z=>by rw[← z,a4]at hp;cases hp
   refine⟨nl,p,_,_,rfl,rfl,by rw[Ac pn];exact a3,Ab,?_,some (.int st.works[i].key),some (.ref a),rfl,(a2.lay hp _).Hj hnl (by rw[Ac pn];exact a3) _,?_,by rw[Ac ne,Ac pk];exact a4,?_⟩
   ·rw[List.length_map,List.length_cons]
    show _ + 3<=_
    rw[sizeLine_eq]
    omega
   ·rw[Ab,tk,List.flatMap_append,List.map_cons,List.map_cons,List.map_append]
    rfl
   ·rw[tk,List.flatMap_append,List.length_append]
    show _ + 3<=_
    omega
  ·subst a1
   rw[List.take_length]at a3
   exact⟨_,rfl,q H2 nl a2 hnl a3⟩
def WX (C:Cl):Sp:=fun vs H Q _=>∃k s R,vs=[.ref R.n]∧Kp C H k s R∧∀H' l,Ext C H H'->H l=none->H' l=some (.lst (((s.names.length:Int)::s.names.flatMap fun x=>[x.key,x.work,x.page]).map V.int))->Q (.ref l) H'
theorem BZ:Aj ["names", "numbers", "key", "name"] ["names"] (Ag (top 3)):=⟨rfl,rfl,rfl,by decide +kernel,rfl,by decide +kernel,by decide +kernel⟩
theorem Jw {f:Addr}{fd:FuncData}(F:Fun K "account_of_names" "account_of_names" (top 3) f fd)(T:Txt K mg C):Ay P w K mg base CX0 1 f fd ["names"] (WX C):=by
 refine F.ok BZ (fun vs H Q E h=>?_) (fun cdv A outer s H vs Q E hr h=>?_)
 ·obtain⟨_,_,_,rfl,_⟩:=h
  rfl
 ·obtain⟨k,st,R,rfl,hk,q⟩:=h
  refine⟨_,(Ad (Am (i:=1) BZ.nd rfl (Or.inl rfl) (Ax (Aa (Bd Ej (by rfl) T.len PySem.boot_len (Aa (pv 0) Ae)) Ae)))
   (Ad (Fz PassesOwn.never rfl (Bw (Bd (Ko rfl) (by rfl) T.sorted boot_sorted (Aa (pv 0) Ae))) (Bk (i:=2) BZ.nd rfl (Or.inl rfl)) (Ad (Am (i:=3) BZ.nd rfl (Or.inl rfl) (Br (hu1 hr) (pv 0) (pv 2) (fun _ _=>rfl)))
   (Af (Ca (Dj PySem.F.plainAttrs_list PySem.F.slot_list_extend PySem.F.type_list_extend Fg (pv 1) (Aa (Ax (Aa (pF T.cl (pv 3)) (Aa (pF T.cl (pv 3)) (Aa (pF T.cl (pv 3)) Ae)))) Ae))))))
   (Af (Ai (pv 1))))),?_⟩
  refine⟨_,rfl,R.n,_,rfl,hk.nk,by show 1<=sizeLine;decide,fun nl hnl=>?_⟩
  have e0:=Ext.new C hnl (.lst [V.int (dN R.ns).length])
  have hk0:=hk.ext e0
  refine⟨_,rfl,R.n,_,R.ns.map fun p=>p.2.key,rfl,hk0.nk,by unfold dN;rw[List.map_map,List.map_map];rfl,by rw[List.length_map,hk.Ag8];exact Nat.le_trans hk.wf.ln (by decide),fun kl ns hkl pm so=>?_⟩
  have ens:ns=st.names.map Vbnlag.Name.key:=IK (key:=Vbnlag.Name.key) (pm.trans (by
   have:=hk.np.map Vbnlag.Name.key
   rw[List.map_map]at this
   exact this)) so hk.wf.ns
  subst ens
  have e1:=e0.lay hkl (.lst ((st.names.map Vbnlag.Name.key).map V.int))
  have ne:kl≠nl:=fun z=>by rw[z,Ab]at hkl;cases hkl
  have lw:st.names.length<=100:=Nat.le_trans hk.wf.ln (by decide)
  refine⟨kl,rfl,⟨_,.of Ab⟩,?_⟩
  refine Dy (J:=Itl K kl) (n:=st.names.length) (fun i σ H2=>∃v u,σ=[some (.ref R.n),some (.ref nl),v,u]∧Ext C H H2∧H2 nl=some (.lst (((st.names.length:Int)::(st.names.take i).flatMap fun x=>[x.key,x.work,x.page]).map V.int))∧H2 kl=some (.lst ((st.names.map Vbnlag.Name.key).map V.int))∧((st.names.take i).flatMap fun x=>[x.key,x.work,x.page]).length<=3 * i)
   ⟨none,none,rfl,e1,by rw[Ac ne.symm,Ab];show some (HO.lst [V.int (dN R.ns).length])=_;rw[hk.YH];rfl,Ab,by simp⟩
   (fun i σ H2 hi ⟨v,u,a1,a2,a3,a4,a5⟩=>⟨_,V.int st.names[i].key,.of a4,by rw[List.getElem?_map,List.getElem?_map,List.getElem?_eq_getElem hi];rfl⟩)
   (fun σ H2 ⟨v,u,a1,a2,a3,a4,a5⟩=>⟨_,.of a4,by rw[List.length_map,List.length_map];exact Nat.le_refl _⟩)
   (fun i x σ H2 H3 hi ⟨v,u,a1,a2,a3,a4,a5⟩ ⟨y1,y2⟩=>?_)
   (fun σ H2 ⟨v,u,a1,a2,a3,a4,a5⟩=>?_)
  ·subst y1 a1
   have y3:=y2 _ (.of a4)
   rw[List.getElem?_map,List.getElem?_map,List.getElem?_eq_getElem hi]at y3
   cases y3
   have tk:st.names.take (i + 1)=st.names.take i++[st.names[i]]:=by rw[List.take_succ,List.getElem?_eq_getElem hi];rfl
   obtain⟨a,ha,hg⟩:=(hk.ext a2).Ut (List.getElem_mem hi)
   refine⟨_,rfl,_,rfl,R.n,_,rfl,hg,_,rfl,tyL a3,_,rfl,_,_,rfl,(ha.ext (Ext.refl _ _)).key T.cl,_,rfl,_,_,rfl,(ha.ext (Ext.refl _ _)).work T.cl,_,rfl,_,_,rfl,(ha.ext (Ext.refl _ _)).page T.cl,by show 3<=sizeLine;decide,fun p hp=>?_⟩
   have pn:nl≠p:=fun z=>by rw[← z,a3]at hp;cases hp
   have pk:kl≠p:=fun z=>by rw[← z,a4]at hp;cases hp
   refine⟨nl,p,_,_,rfl,rfl,by rw[Ac pn];exact a3,Ab,?_,some (.int st.names[i].key),some (.ref a),rfl,(a2.lay hp _).Hj hnl (by rw[Ac pn];exact a3) _,?_,by rw[Ac ne,Ac pk];exact a4,?_⟩
   ·rw[List.length_map,List.length_cons]
    show _ + 3<=_
    rw[sizeLine_eq]
    omega
   ·rw[Ab,tk,List.flatMap_append,List.map_cons,List.map_cons,List.map_append]
    rfl
   ·rw[tk,List.flatMap_append,List.length_append]
    show _ + 3<=_
    omega
  ·subst a1
   rw[List.take_length]at a3
   exact⟨_,rfl,q H2 nl a2 hnl a3⟩
def W0 (C:Cl):Sp:=fun vs H Q _=>∃k s R,vs=[.ref R.a]∧Kp C H k s R∧∀H' l,Ext C H H'->H l=none->H' l=some (.lst (((s.acts.length:Int)::s.acts.flatMap fun x=>[x.key,x.kind,x.work,x.a,x.b]).map V.int))->Q (.ref l) H'
theorem Cm:Aj ["acts", "numbers", "key", "act"] ["acts"] (Ag (top 5)):=⟨rfl,rfl,rfl,by decide +kernel,rfl,by decide +kernel,by decide +kernel⟩
theorem Kc {f:Addr}{fd:FuncData}(F:Fun K "account_of_acts" "account_of_acts" (top 5) f fd)(T:Txt K mg C):Ay P w K mg base CX0 1 f fd ["acts"] (W0 C):=by
 refine F.ok Cm (fun vs H Q E h=>?_) (fun cdv A outer s H vs Q E hr h=>?_)
 ·obtain⟨_,_,_,rfl,_⟩:=h
  rfl
 ·obtain⟨k,st,R,rfl,hk,q⟩:=h
  refine⟨_,(Ad (Am (i:=1) Cm.nd rfl (Or.inl rfl) (Ax (Aa (Bd Ej (by rfl) T.len PySem.boot_len (Aa (pv 0) Ae)) Ae)))
   (Ad (Fz PassesOwn.never rfl (Bw (Bd (Ko rfl) (by rfl) T.sorted boot_sorted (Aa (pv 0) Ae))) (Bk (i:=2) Cm.nd rfl (Or.inl rfl)) (Ad (Am (i:=3) Cm.nd rfl (Or.inl rfl) (Br (hu1 hr) (pv 0) (pv 2) (fun _ _=>rfl)))
   (Af (Ca (Dj PySem.F.plainAttrs_list PySem.F.slot_list_extend PySem.F.type_list_extend Fg (pv 1) (Aa (Ax (Aa (pF T.cl (pv 3)) (Aa (pF T.cl (pv 3)) (Aa (pF T.cl (pv 3)) (Aa (pF T.cl (pv 3)) (Aa (pF T.cl (pv 3)) Ae)))))) Ae))))))
   (Af (Ai (pv 1))))),?_⟩
  refine⟨_,rfl,R.a,_,rfl,hk.ak,by show 1<=sizeLine;decide,fun nl hnl=>?_⟩
  have e0:=Ext.new C hnl (.lst [V.int (dA R.as).length])
  have hk0:=hk.ext e0
  refine⟨_,rfl,R.a,_,R.as.map fun p=>p.2.key,rfl,hk0.ak,by unfold dA;rw[List.map_map,List.map_map];rfl,by rw[List.length_map,hk.ZM];exact Nat.le_trans hk.wf.la (by decide),fun kl ns hkl pm so=>?_⟩
  have ens:ns=st.acts.map Vbnlag.Act.key:=IK (key:=Vbnlag.Act.key) (pm.trans (by
   have:=hk.ap.map Vbnlag.Act.key
   rw[List.map_map]at this
   exact this)) so hk.wf.as
  subst ens
  have e1:=e0.lay hkl (.lst ((st.acts.map Vbnlag.Act.key).map V.int))
  have ne:kl≠nl:=fun z=>by rw[z,Ab]at hkl;cases hkl
  have lw:st.acts.length<=100:=Nat.le_trans hk.wf.la (by decide)
  refine⟨kl,rfl,⟨_,.of Ab⟩,?_⟩
  refine Dy (J:=Itl K kl) (n:=st.acts.length) (fun i σ H2=>∃v u,σ=[some (.ref R.a),some (.ref nl),v,u]∧Ext C H H2∧H2 nl=some (.lst (((st.acts.length:Int)::(st.acts.take i).flatMap fun x=>[x.key,x.kind,x.work,x.a,x.b]).map V.int))∧H2 kl=some (.lst ((st.acts.map Vbnlag.Act.key).map V.int))∧((st.acts.take i).flatMap fun x=>[x.key,x.kind,x.work,x.a,x.b]).length<=5 * i)
   ⟨none,none,rfl,e1,by rw[Ac ne.symm,Ab];show some (HO.lst [V.int (dA R.as).length])=_;rw[hk.V7];rfl,Ab,by simp⟩
   (fun i σ H2 hi ⟨v,u,a1,a2,a3,a4,a5⟩=>⟨_,V.int st.acts[i].key,.of a4,by rw[List.getElem?_map,List.getElem?_map,List.getElem?_eq_getElem hi];rfl⟩)
   (fun σ H2 ⟨v,u,a1,a2,a3,a4,a5⟩=>⟨_,.of a4,by rw[List.length_map,List.length_map];exact Nat.le_refl _⟩)
   (fun i x σ H2 H3 hi ⟨v,u,a1,a2,a3,a4,a5⟩ ⟨y1,y2⟩=>?_)
   (fun σ H2 ⟨v,u,a1,a2,a3,a4,a5⟩=>?_)
  ·subst y1 a1
   have y3:=y2 _ (.of a4)
   rw[List.getElem?_map,List.getElem?_map,List.getElem?_eq_getElem hi]at y3
   cases y3
   have tk:st.acts.take (i + 1)=st.acts.take i++[st.acts[i]]:=by rw[List.take_succ,List.getElem?_eq_getElem hi];rfl
   obtain⟨a,ha,hg⟩:=(hk.ext a2).Ai0 (List.getElem_mem hi)
   refine⟨_,rfl,_,rfl,R.a,_,rfl,hg,_,rfl,tyL a3,_,rfl,_,_,rfl,(ha.ext (Ext.refl _ _)).key T.cl,_,rfl,_,_,rfl,(ha.ext (Ext.refl _ _)).kind T.cl,_,rfl,_,_,rfl,(ha.ext (Ext.refl _ _)).work T.cl,_,rfl,_,_,rfl,(ha.ext (Ext.refl _ _)).a_ T.cl,_,rfl,_,_,rfl,(ha.ext (Ext.refl _ _)).b_ T.cl,by show 5<=sizeLine;decide,fun p hp=>?_⟩
   have pn:nl≠p:=fun z=>by rw[← z,a3]at hp;cases hp
   have pk:kl≠p:=fun z=>by rw[← z,a4]at hp;cases hp
   refine⟨nl,p,_,_,rfl,rfl,by rw[Ac pn];exact a3,Ab,?_,some (.int st.acts[i].key),some (.ref a),rfl,(a2.lay hp _).Hj hnl (by rw[Ac pn];exact a3) _,?_,by rw[Ac ne,Ac pk];exact a4,?_⟩
   ·rw[List.length_map,List.length_cons]
    show _ + 5<=_
    rw[sizeLine_eq]
    omega
   ·rw[Ab,tk,List.flatMap_append,List.map_cons,List.map_cons,List.map_append]
    rfl
   ·rw[tk,List.flatMap_append,List.length_append]
    show _ + 5<=_
    omega
  ·subst a1
   rw[List.take_length]at a3
   exact⟨_,rfl,q H2 nl a2 hnl a3⟩
end
end Nm
namespace Nm
open PySem PySem.Spec PyProof.Rows L2
section
variable {P:Program}{w:World}{K:PySem.W.Frag}{mg:Str->Option Value}{base:Heap}{C:Cl}
def PL (u:Int×Int):List Int:=[u.1,u.2]
theorem ZK (x y:Int×Int):Vbnlag.less (PL x) (PL y)=Fj x y:=by
 unfold PL Fj
 simp[Vbnlag.less]
theorem U7 {out:List (Addr×List Int)}{us:List (Int×Int)}(p:(out.map (·.2)).Perm (us.map PL))(h:out.Pairwise fun x y=>Vbnlag.less y.2 x.2=false)(so:us.Pairwise fun x y=>Fj x y=true):out.map (·.2)=us.map PL:=by
 refine List.Perm.eq_of_pairwise (le:=fun x y:List Int=>Vbnlag.less y x=false) (fun a b ha hb h1 h2=>?_) (List.pairwise_map.mpr h) ?_ p
 ·obtain⟨x,_,rfl⟩:=List.mem_map.mp (p.mem_iff.mp ha)
  obtain⟨y,_,rfl⟩:=List.mem_map.mp hb
  apply Classical.byContradiction
  intro ne
  have:=Ef (a:=PL x) (b:=PL y) rfl ne h2
  rw[h1]at this
  cases this
 ·refine List.pairwise_map.mpr (so.imp fun {x y} h=>?_)
  have:=ZK x y
  rw[h]at this
  exact Eh this
def WW (C:Cl):Sp:=fun vs H Q _=>∃k s R,vs=[.ref R.u]∧Kp C H k s R∧∀H' l,Ext C H H'->H l=none->H' l=some (.lst (((s.uses.length:Int)::s.uses.flatMap fun u=>[u.1,u.2]).map V.int))->Q (.ref l) H'
theorem Ck:Aj ["uses", "numbers", "work", "name"] ["uses"] (Ag (top 4)):=⟨rfl,rfl,rfl,by decide +kernel,rfl,by decide +kernel,by decide +kernel⟩
theorem J9 {f:Addr}{fd:FuncData}(F:Fun K "account_of_uses" "account_of_uses" (top 4) f fd)(T:Txt K mg C):Ay P w K mg base CX0 1 f fd ["uses"] (WW C):=by
 refine F.ok Ck (fun vs H Q E h=>?_) (fun cdv A outer s H vs Q E hr h=>?_)
 ·obtain⟨_,_,_,rfl,_⟩:=h
  rfl
 ·obtain⟨k,st,R,rfl,hk,q⟩:=h
  refine⟨_,(Ad (Am (i:=1) Ck.nd rfl (Or.inl rfl) (Ax (Aa (Bd S9 (by rfl) T.len PySem.boot_len (Aa (pv 0) Ae)) Ae)))
   (Ad (Fz PassesOwn.never rfl (Bw (Bd (XM rfl) (by rfl) T.sorted boot_sorted (Aa (pv 0) Ae))) (Yo (n:=2) T.cl rfl (Lg (Bk (i:=2) Ck.nd rfl (Or.inl rfl)) (Lg (Bk (i:=3) Ck.nd rfl (Or.inl rfl)) Yn))) (Af (Ca (Dj PySem.F.plainAttrs_list PySem.F.slot_list_extend PySem.F.type_list_extend Fg (pv 1) (Aa (Ax (Aa (pv 2) (Aa (pv 3) Ae))) Ae)))))
   (Af (Ai (pv 1))))),?_⟩
  refine⟨_,rfl,R.u,_,rfl,hk.uk,by show 1<=sizeLine;decide,fun nl hnl=>?_⟩
  have e0:=Ext.new C hnl (.lst [V.int (dU R.us).length])
  have hk0:=hk.ext e0
  refine⟨_,rfl,R.u,_,R.us.map PL,rfl,hk0.uk,by unfold dU;rw[List.map_map,List.map_map];rfl,by rw[List.length_map,hk.up.length_eq];exact Nat.le_trans hk.wf.lu (by decide),fun l hl=>by
   obtain⟨u,_,rfl⟩:=List.mem_map.mp hl
   exact⟨_,_,rfl⟩,fun kl out hkl pm so ht=>?_⟩
  have eo:out.map (·.2)=st.uses.map PL:=U7 (pm.trans (hk.up.map PL)) so hk.wf.us
  have lo:out.length=st.uses.length:=by have:=congrArg List.length eo;simpa using this
  have e1:=e0.lay hkl (.lst (out.map fun t=>V.ref t.1))
  have ne:kl≠nl:=fun z=>by rw[z,Ab]at hkl;cases hkl
  have lw:st.uses.length<=1000:=Nat.le_trans hk.wf.lu (by decide)
  have ht1:∀t∈out,upd (upd H nl (.lst [V.int (dU R.us).length])) kl (.lst (out.map fun t=>V.ref t.1)) t.1=some (.tup (t.2.map V.int)):=fun t htm=>(Ext.new C hkl _).tup (ht t htm)
  have hk1:upd (upd H nl (.lst [V.int (dU R.us).length])) kl (.lst (out.map fun t=>V.ref t.1)) nl=some (.lst [V.int (st.uses.length:Int)]):=by rw[Ac ne.symm,Ab,hk.YF]
  have hk2:upd (upd H nl (.lst [V.int (dU R.us).length])) kl (.lst (out.map fun t=>V.ref t.1)) kl=some (.lst (out.map fun t=>V.ref t.1)):=Ab
  generalize upd (upd H nl (.lst [V.int (dU R.us).length])) kl (.lst (out.map fun t=>V.ref t.1))=H1 at e1 ht1 hk1 hk2 ⊢
  refine⟨kl,rfl,⟨_,.of hk2⟩,?_⟩
  refine Dy (J:=Itl K kl) (n:=st.uses.length) (fun i σ H2=>∃v u,σ=[some (.ref R.u),some (.ref nl),v,u]∧Ext C H H2∧(∀t∈out,H2 t.1=some (.tup (t.2.map V.int)))∧H2 nl=some (.lst (((st.uses.length:Int)::(st.uses.take i).flatMap fun u=>[u.1,u.2]).map V.int))∧H2 kl=some (.lst (out.map fun t=>V.ref t.1))∧((st.uses.take i).flatMap fun u=>[u.1,u.2]).length<=2 * i)
   ⟨none,none,rfl,e1,ht1,hk1,hk2,by simp⟩
   (fun i σ H2 hi ⟨v,u,a1,a2,a6,a3,a4,a5⟩=>⟨_,V.ref (out[i]'(by omega)).1,.of a4,by rw[List.getElem?_map,List.getElem?_eq_getElem (by omega)];rfl⟩)
   (fun σ H2 ⟨v,u,a1,a2,a6,a3,a4,a5⟩=>⟨_,.of a4,by rw[List.length_map,lo];exact Nat.le_refl _⟩)
   (fun i x σ H2 H3 hi ⟨v,u,a1,a2,a6,a3,a4,a5⟩ ⟨y1,y2⟩=>?_)
   (fun σ H2 ⟨v,u,a1,a2,a6,a3,a4,a5⟩=>?_)
  ·subst y1 a1
   have hi2:i < out.length:=by omega
   have y3:=y2 _ (.of a4)
   rw[List.getElem?_map,List.getElem?_eq_getElem hi2]at y3
   cases y3
   have tk:st.uses.take (i + 1)=st.uses.take i++[st.uses[i]]:=by rw[List.take_succ,List.getElem?_eq_getElem hi];rfl
   have eu:out[i].2=PL st.uses[i]:=by
    have:=congrArg (fun l=>l[i]?) eo
    simp only[List.getElem?_map,List.getElem?_eq_getElem hi,List.getElem?_eq_getElem hi2,Option.map_some]at this
    exact Option.some.inj this
   have htu:=a6 _ (List.getElem_mem hi2)
   rw[eu]at htu
   refine⟨out[i].1,_,rfl,.of htu,rfl,_,_,rfl,_,_,rfl,rfl,_,rfl,tyL a3,_,rfl,_,rfl,by show 2<=sizeLine;decide,fun p hp=>?_⟩
   have pn:nl≠p:=fun z=>by rw[← z,a3]at hp;cases hp
   have pk:kl≠p:=fun z=>by rw[← z,a4]at hp;cases hp
   refine⟨nl,p,_,_,rfl,rfl,by rw[Ac pn];exact a3,Ab,?_,some (.int st.uses[i].1),some (.int st.uses[i].2),rfl,(a2.lay hp _).Hj hnl (by rw[Ac pn];exact a3) _,fun t htm=>?_,?_,by rw[Ac ne,Ac pk];exact a4,?_⟩
   ·rw[List.length_map,List.length_cons]
    show _ + 2<=_
    rw[sizeLine_eq]
    omega
   ·have h6:=a6 t htm
    rw[Ac (fun z=>by rw[z,a3]at h6;cases h6),Ac (fun z=>by rw[z,hp]at h6;cases h6)]
    exact h6
   ·rw[Ab,tk,List.flatMap_append,List.map_cons,List.map_cons,List.map_append]
    rfl
   ·rw[tk,List.flatMap_append,List.length_append]
    show _ + 2<=_
    omega
  ·subst a1
   rw[List.take_length]at a3
   exact⟨_,rfl,q H2 nl a2 hnl a3⟩
def Mu (C:Cl):Sp:=fun vs H Q _=>∃k s R,vs=[.ref k]∧Kp C H k s R∧∀H' l,Ext C H H'->H l=none->H' l=some (.lst ((Vbnlag.told s).map V.int))->(Vbnlag.told s).length<=10000->Q (.ref l) H'
theorem Qp:Aj ["kept", "works_and_names"] ["kept"] (Ag (top 6)):=⟨rfl,rfl,rfl,by decide +kernel,rfl,by decide +kernel,by decide +kernel⟩
theorem Rf {α:Type}{f:α->List Int}{n:Nat}(h:∀x,(f x).length=n):∀l:List α,(l.flatMap f).length=n * l.length
 | []=>by simp
 | x::r=>by rw[List.flatMap_cons,List.length_append,h,Rf h r,List.length_cons,Nat.mul_succ,Nat.add_comm]
theorem Xj {f:Addr}{fd:FuncData}(F:Fun K "account" "account" (top 6) f fd)(T:Txt K mg C)(G_account_of_code:Ok P w K mg base "account_of_code" 1 ["code"] (WY C))(G_account_of_works:Ok P w K mg base "account_of_works" 1 ["works"] (WT C))(G_account_of_names:Ok P w K mg base "account_of_names" 1 ["names"] (WX C))
  (G_account_of_uses:Ok P w K mg base "account_of_uses" 1 ["uses"] (WW C)) (G_account_of_acts:Ok P w K mg base "account_of_acts" 1 ["acts"] (W0 C)):Ay P w K mg base CX0 2 f fd ["kept"] (Mu C):=by
 refine F.ok Qp (fun vs H Q E h=>?_) (fun cdv A outer s H vs Q E hr h=>?_)
 ·obtain⟨_,_,_,rfl,_⟩:=h
  rfl
 ·obtain⟨k,st,R,rfl,hk,q⟩:=h
  refine⟨_,(Ad (Am (i:=1) Qp.nd rfl (Or.inl rfl) (CG Ed (Al G_account_of_works (hr.mono (by decide)) (Aa (pF T.cl (pv 0)) Ae)) (Al G_account_of_names (hr.mono (by decide)) (Aa (pF T.cl (pv 0)) Ae))))
   (Af (Ai (CG Ed (CG Ed (CG Ed (Al G_account_of_code (hr.mono (by decide)) (Aa (pF T.cl (pv 0)) Ae)) (pv 1)) (Al G_account_of_uses (hr.mono (by decide)) (Aa (pF T.cl (pv 0)) Ae))) (Al G_account_of_acts (hr.mono (by decide)) (Aa (pF T.cl (pv 0)) Ae)))))),?_⟩
  have L1:((st.works.length:Int)::st.works.flatMap fun x=>[x.key,x.day,x.author]).length<=1000:=by have:=hk.wf.lw;rw[List.length_cons,Rf (n:=3) (fun x=>rfl)];omega
  have L2:((st.names.length:Int)::st.names.flatMap fun x=>[x.key,x.work,x.page]).length<=1000:=by have:=hk.wf.ln;rw[List.length_cons,Rf (n:=3) (fun x=>rfl)];omega
  have L3:((st.uses.length:Int)::st.uses.flatMap fun x=>[x.1,x.2]).length<=1000:=by have:=hk.wf.lu;rw[List.length_cons,Rf (n:=2) (fun x=>rfl)];omega
  have L4:((st.acts.length:Int)::st.acts.flatMap fun x=>[x.key,x.kind,x.work,x.a,x.b]).length<=1000:=by have:=hk.wf.la;rw[List.length_cons,Rf (n:=5) (fun x=>rfl)];omega
  have etold:Vbnlag.told st=[st.code.limit,st.code.works,st.code.authors,st.code.window,st.code.span]++((st.works.length:Int)::st.works.flatMap fun x=>[x.key,x.day,x.author])++((st.names.length:Int)::st.names.flatMap fun x=>[x.key,x.work,x.page])++((st.uses.length:Int)::st.uses.flatMap fun x=>[x.1,x.2])++((st.acts.length:Int)::st.acts.flatMap fun x=>[x.key,x.kind,x.work,x.a,x.b]):=rfl
  rw[etold]at q
  generalize g1:((st.works.length:Int)::st.works.flatMap fun x=>[x.key,x.day,x.author])=l1 at L1 q
  generalize g2:((st.names.length:Int)::st.names.flatMap fun x=>[x.key,x.work,x.page])=l2 at L2 q
  generalize g3:((st.uses.length:Int)::st.uses.flatMap fun x=>[x.1,x.2])=l3 at L3 q
  generalize g4:((st.acts.length:Int)::st.acts.flatMap fun x=>[x.key,x.kind,x.work,x.a,x.b])=l4 at L4 q
  refine⟨_,rfl,_,_,rfl,hk.works T.cl,k,st,R,rfl,hk,fun H1 p1 e1 n1 h1=>?_⟩
  rw[g1]at h1
  have hk1:=hk.ext e1
  refine⟨_,rfl,_,_,rfl,hk1.names T.cl,k,st,R,rfl,hk1,fun H2 p2 e2 n2 h2=>?_⟩
  rw[g2]at h2
  have hk2:=hk1.ext e2
  refine⟨p1,p2,_,_,rfl,rfl,e2.lst h1,h2,by rw[List.length_map,List.length_map,sizeLine_eq];omega,fun p3 n3=>?_⟩
  have e3:=Ext.new C n3 (.lst (l1.map V.int++l2.map V.int))
  have hk3:=hk2.ext e3
  refine⟨_,rfl,_,_,rfl,hk3.code T.cl,R.c,st.code,rfl,hk3.cd,fun p4 n4=>?_⟩
  have e4:=Ext.new C n4 (.lst (([st.code.limit,st.code.works,st.code.authors,st.code.window,st.code.span]:List Int).map V.int))
  refine⟨_,rfl,p4,p3,_,_,rfl,rfl,Ab,e4.lst Ab,by rw[List.length_map,List.length_append,List.length_map,List.length_map,sizeLine_eq];simp only[List.length_cons,List.length_nil];omega,fun p5 n5=>?_⟩
  have e5:=Ext.new C n5 (.lst (([st.code.limit,st.code.works,st.code.authors,st.code.window,st.code.span]:List Int).map V.int++(l1.map V.int++l2.map V.int)))
  have hk5:=(hk3.ext e4).ext e5
  refine⟨_,rfl,_,_,rfl,hk5.uses T.cl,k,st,R,rfl,hk5,fun H6 p6 e6 n6 h6=>?_⟩
  rw[g3]at h6
  refine⟨p5,p6,_,_,rfl,rfl,e6.lst Ab,h6,by rw[List.length_append,List.length_append,List.length_map,List.length_map,List.length_map,List.length_map,sizeLine_eq];simp only[List.length_cons,List.length_nil];omega,fun p7 n7=>?_⟩
  have e7:=Ext.new C n7 (.lst (([st.code.limit,st.code.works,st.code.authors,st.code.window,st.code.span]:List Int).map V.int++(l1.map V.int++l2.map V.int)++l3.map V.int))
  have hk7:=(hk5.ext e6).ext e7
  refine⟨_,rfl,_,_,rfl,hk7.acts T.cl,k,st,R,rfl,hk7,fun H8 p8 e8 n8 h8=>?_⟩
  rw[g4]at h8
  refine⟨p7,p8,_,_,rfl,rfl,e8.lst Ab,h8,by rw[List.length_append,List.length_append,List.length_append,List.length_map,List.length_map,List.length_map,List.length_map,List.length_map,sizeLine_eq];simp only[List.length_cons,List.length_nil];omega,fun p9 n9=>?_⟩
  have ee:=(((((((e1.trans e2).trans e3).trans e4).trans e5).trans e6).trans e7).trans e8)
  refine q _ p9 (ee.lay n9 _) (ee.free n9) ?_ ?_
  ·rw[Ab]
   simp only[List.map_append,List.append_assoc]
  ·simp only[List.length_append,List.length_cons,List.length_nil]
   omega
end
end Nm
namespace Nm
open PySem PySem.Spec PyProof.Rows L2
section
variable {P:Program}{w:World}{K:PySem.W.Frag}{mg:Str->Option Value}{base:Heap}{C:Cl}
def Ans (C:Cl)(H:Hp)(k:Addr)(s:VS)(R:Rep)(c:Vbnlag.Call)(Q:VK):Prop:=∀H' R' l,Kp C H' k (Vbnlag.step s c).1 R'->Own H' R'->R.Same R'->Oth C k R H H'->H l=none->H' l=some (.lst ((Vbnlag.step s c).2.map V.int))->(Vbnlag.step s c).2.length<=20000->Q (.ref l) H'
section
variable {H H':Hp}{k l:Addr}{s:VS}{R R':Rep}{c:Vbnlag.Call}{Q:VK}
theorem Ans.told (a:Ans C H k s R c Q){r:Int}(hk:Kp C H k s R)(ow0:Own H R)(h:(Vbnlag.step s c).2=[r])(kp:Kp C H' k (Vbnlag.step s c).1 R')(ow:Own H' R')(sm:R.Same R')(ot:Oth C k R H H')(hl:H' l=none):Q (.ref l) (upd H' l (.lst [V.int r])):=by
 have e:=Ext.new C hl (.lst [V.int r])
 have nl:H l=none:=ot.free hk ow0 (fun b hb=>by
  simp only[List.mem_cons,List.not_mem_nil,or_false]at hb
  rcases hb with rfl | rfl | rfl | rfl | rfl
  ·rw[kp.kp];exact fun z=>nomatch z
  ·rw[← sm.w,ow.w];exact fun z=>nomatch z
  ·rw[← sm.n,ow.n];exact fun z=>nomatch z
  ·rw[← sm.u,ow.u];exact fun z=>nomatch z
  ·rw[← sm.a,ow.a];exact fun z=>nomatch z) hl
 exact a _ R' l (kp.ext e) (ow.ext e) sm (ot.trans sm e.oth) nl (by rw[h,Ab];rfl) (by rw[h];show 1<=20000;decide)
theorem Ans.K9 (a:Ans C H k s R c Q){out:List Int}{ys:List V}(h:Vbnlag.step s c=(s,out))(hk:Kp C H k s R)(ow:Own H R)(e:Ext C H H')(hl:H' l=none)(ey:ys=out.map V.int)(len:out.length<=20000):Q (.ref l) (upd H' l (.lst ys)):=by
 unfold Ans at a
 rw[h]at a
 have e2:=e.lay hl (.lst ys)
 exact a _ R l (hk.ext e2) (ow.ext e2) (Rep.Same.refl R) e2.oth (e.free hl) (by rw[Ab,ey]) len
theorem Ans.one (a:Ans C H k s R c Q){r:Int}(h:Vbnlag.step s c=(s,[r]))(hk:Kp C H k s R)(ow:Own H R)(e:Ext C H H')(hl:H' l=none):Q (.ref l) (upd H' l (.lst [V.int r])) :=
 a.K9 h hk ow e hl rfl (by show 1<=20000;decide)
end
def At9 (C:Cl):Sp:=fun vs H Q _=>∃k s R gl a b c d e,vs=[.ref k,.ref gl]∧Kp C H k s R∧Own H R∧H gl=some (.lst [.int a,.int b,.int c,.int d,.int e])∧Ans C H k s R (.code ⟨a,b,c,d,e⟩) Q
theorem Qo:Aj ["kept", "given"] ["kept", "given"] (Ag (top 99)):=⟨rfl,rfl,rfl,by decide +kernel,rfl,by decide +kernel,by decide +kernel⟩
theorem QW {f:Addr}{fd:FuncData}(F:Fun K "answer_code" "answer_code" (top 99) f fd)(T:Txt K mg C)(G_tell_code:Ok P w K mg base "tell_code" 3 ["kept", "limit", "works", "authors", "window", "span"] (JR C)):Ay P w K mg base CX0 4 f fd ["kept", "given"] (At9 C):=by
 refine F.ok Qo (fun vs H Q E h=>?_) (fun cdv A outer s H vs Q E hr h=>?_)
 ·obtain⟨_,_,_,_,_,_,_,_,_,rfl,_⟩:=h
  rfl
 ·obtain⟨k,st,R,gl,a,b,c,d,e,rfl,hk,ow,hg,q⟩:=h
  refine⟨_,(Af (Ai (Ax (Aa (Al G_tell_code (hr.mono (by decide)) (Aa (pv 0) (Aa (Aw Ak (pv 1) Ah (fun _ _=>rfl)) (Aa (Aw Ak (pv 1) Ah (fun _ _=>rfl)) (Aa (Aw Ak (pv 1) Ah (fun _ _=>rfl)) (Aa (Aw Ak (pv 1) Ah (fun _ _=>rfl)) (Aa (Aw Ak (pv 1) Ah (fun _ _=>rfl)) Ae))))))) Ae)))),?_⟩
  exact⟨_,rfl,_,rfl,gl,_,_,_,rfl,rfl,.of hg,rfl,_,rfl,gl,_,_,_,rfl,rfl,.of hg,rfl,_,rfl,gl,_,_,_,rfl,rfl,.of hg,rfl,_,rfl,gl,_,_,_,rfl,rfl,.of hg,rfl,_,rfl,gl,_,_,_,rfl,rfl,.of hg,rfl,k,st,R,a,b,c,d,e,rfl,hk,ow,fun H' R' r h1 h2 h3 h4 h5=>⟨by show 1<=sizeLine;decide,fun l hl=>q.told hk ow h1 h2 h3 h4 h5 hl⟩⟩
def At8 (C:Cl):Sp:=fun vs H Q _=>∃k s R gl a b c,vs=[.ref k,.ref gl]∧Kp C H k s R∧Own H R∧H gl=some (.lst [.int a,.int b,.int c])∧Ans C H k s R (.work a b c) Q
theorem Qj:Aj ["kept", "given"] ["kept", "given"] (Ag (top 100)):=⟨rfl,rfl,rfl,by decide +kernel,rfl,by decide +kernel,by decide +kernel⟩
theorem QK {f:Addr}{fd:FuncData}(F:Fun K "answer_work" "answer_work" (top 100) f fd)(T:Txt K mg C)(G_tell_work:Ok P w K mg base "tell_work" 3 ["kept", "key", "day", "author"] (JN C)):Ay P w K mg base CX0 4 f fd ["kept", "given"] (At8 C):=by
 refine F.ok Qj (fun vs H Q E h=>?_) (fun cdv A outer s H vs Q E hr h=>?_)
 ·obtain⟨_,_,_,_,_,_,_,rfl,_⟩:=h
  rfl
 ·obtain⟨k,st,R,gl,a,b,c,rfl,hk,ow,hg,q⟩:=h
  refine⟨_,(Af (Ai (Ax (Aa (Al G_tell_work (hr.mono (by decide)) (Aa (pv 0) (Aa (Aw Ak (pv 1) Ah (fun _ _=>rfl)) (Aa (Aw Ak (pv 1) Ah (fun _ _=>rfl)) (Aa (Aw Ak (pv 1) Ah (fun _ _=>rfl)) Ae))))) Ae)))),?_⟩
  exact⟨_,rfl,_,rfl,gl,_,_,_,rfl,rfl,.of hg,rfl,_,rfl,gl,_,_,_,rfl,rfl,.of hg,rfl,_,rfl,gl,_,_,_,rfl,rfl,.of hg,rfl,k,st,R,a,b,c,rfl,hk,ow,fun H' R' r h1 h2 h3 h4 h5=>⟨by show 1<=sizeLine;decide,fun l hl=>q.told hk ow h1 h2 h3 h4 h5 hl⟩⟩
def At7 (C:Cl):Sp:=fun vs H Q _=>∃k s R gl a b c,vs=[.ref k,.ref gl]∧Kp C H k s R∧Own H R∧H gl=some (.lst [.int a,.int b,.int c])∧Ans C H k s R (.name a b c) Q
theorem Qm:Aj ["kept", "given"] ["kept", "given"] (Ag (top 101)):=⟨rfl,rfl,rfl,by decide +kernel,rfl,by decide +kernel,by decide +kernel⟩
theorem QT {f:Addr}{fd:FuncData}(F:Fun K "answer_name" "answer_name" (top 101) f fd)(T:Txt K mg C)(G_tell_name:Ok P w K mg base "tell_name" 3 ["kept", "key", "work", "page"] (JQ C)):Ay P w K mg base CX0 4 f fd ["kept", "given"] (At7 C):=by
 refine F.ok Qm (fun vs H Q E h=>?_) (fun cdv A outer s H vs Q E hr h=>?_)
 ·obtain⟨_,_,_,_,_,_,_,rfl,_⟩:=h
  rfl
 ·obtain⟨k,st,R,gl,a,b,c,rfl,hk,ow,hg,q⟩:=h
  refine⟨_,(Af (Ai (Ax (Aa (Al G_tell_name (hr.mono (by decide)) (Aa (pv 0) (Aa (Aw Ak (pv 1) Ah (fun _ _=>rfl)) (Aa (Aw Ak (pv 1) Ah (fun _ _=>rfl)) (Aa (Aw Ak (pv 1) Ah (fun _ _=>rfl)) Ae))))) Ae)))),?_⟩
  exact⟨_,rfl,_,rfl,gl,_,_,_,rfl,rfl,.of hg,rfl,_,rfl,gl,_,_,_,rfl,rfl,.of hg,rfl,_,rfl,gl,_,_,_,rfl,rfl,.of hg,rfl,k,st,R,a,b,c,rfl,hk,ow,fun H' R' r h1 h2 h3 h4 h5=>⟨by show 1<=sizeLine;decide,fun l hl=>q.told hk ow h1 h2 h3 h4 h5 hl⟩⟩
def At6 (C:Cl):Sp:=fun vs H Q _=>∃k s R gl a b,vs=[.ref k,.ref gl]∧Kp C H k s R∧Own H R∧H gl=some (.lst [.int a,.int b])∧Ans C H k s R (.use a b) Q
theorem RB:Aj ["kept", "given"] ["kept", "given"] (Ag (top 102)):=⟨rfl,rfl,rfl,by decide +kernel,rfl,by decide +kernel,by decide +kernel⟩
theorem RL {f:Addr}{fd:FuncData}(F:Fun K "answer_use" "answer_use" (top 102) f fd)(T:Txt K mg C)(G_tell_use:Ok P w K mg base "tell_use" 3 ["kept", "work", "name"] (Mq C)):Ay P w K mg base CX0 4 f fd ["kept", "given"] (At6 C):=by
 refine F.ok RB (fun vs H Q E h=>?_) (fun cdv A outer s H vs Q E hr h=>?_)
 ·obtain⟨_,_,_,_,_,_,rfl,_⟩:=h
  rfl
 ·obtain⟨k,st,R,gl,a,b,rfl,hk,ow,hg,q⟩:=h
  refine⟨_,(Af (Ai (Ax (Aa (Al G_tell_use (hr.mono (by decide)) (Aa (pv 0) (Aa (Aw Ak (pv 1) Ah (fun _ _=>rfl)) (Aa (Aw Ak (pv 1) Ah (fun _ _=>rfl)) Ae)))) Ae)))),?_⟩
  exact⟨_,rfl,_,rfl,gl,_,_,_,rfl,rfl,.of hg,rfl,_,rfl,gl,_,_,_,rfl,rfl,.of hg,rfl,k,st,R,a,b,rfl,hk,ow,fun H' R' r h1 h2 h3 h4 h5=>⟨by show 1<=sizeLine;decide,fun l hl=>q.told hk ow h1 h2 h3 h4 h5 hl⟩⟩
def At5 (C:Cl):Sp:=fun vs H Q _=>∃k s R gl a b c d,vs=[.ref k,.ref gl]∧Kp C H k s R∧Own H R∧H gl=some (.lst [.int a,.int b,.int c,.int d])∧Ans C H k s R (.act 1 a b c d) Q
theorem Mw:Aj ["kept", "given"] ["kept", "given"] (Ag (top 103)):=⟨rfl,rfl,rfl,by decide +kernel,rfl,by decide +kernel,by decide +kernel⟩
theorem M6 {f:Addr}{fd:FuncData}(F:Fun K "answer_choice" "answer_choice" (top 103) f fd)(T:Txt K mg C)(G_tell_act_of_two:Ok P w K mg base "tell_act_of_two" 3 ["kept", "kind", "key", "work", "a", "b"] (KD C)):Ay P w K mg base CX0 4 f fd ["kept", "given"] (At5 C):=by
 refine F.ok Mw (fun vs H Q E h=>?_) (fun cdv A outer s H vs Q E hr h=>?_)
 ·obtain⟨_,_,_,_,_,_,_,_,rfl,_⟩:=h
  rfl
 ·obtain⟨k,st,R,gl,a,b,c,d,rfl,hk,ow,hg,q⟩:=h
  refine⟨_,(Af (Ai (Ax (Aa (Al G_tell_act_of_two (hr.mono (by decide)) (Aa (pv 0) (Aa (pk T.UJ) (Aa (Aw Ak (pv 1) Ah (fun _ _=>rfl)) (Aa (Aw Ak (pv 1) Ah (fun _ _=>rfl)) (Aa (Aw Ak (pv 1) Ah (fun _ _=>rfl)) (Aa (Aw Ak (pv 1) Ah (fun _ _=>rfl)) Ae))))))) Ae)))),?_⟩
  exact⟨_,rfl,_,rfl,gl,_,_,_,rfl,rfl,.of hg,rfl,_,rfl,gl,_,_,_,rfl,rfl,.of hg,rfl,_,rfl,gl,_,_,_,rfl,rfl,.of hg,rfl,_,rfl,gl,_,_,_,rfl,rfl,.of hg,rfl,k,st,R,1,a,b,c,d,rfl,by decide,by decide,hk,ow,fun H' R' r h1 h2 h3 h4 h5=>⟨by show 1<=sizeLine;decide,fun l hl=>q.told hk ow h1 h2 h3 h4 h5 hl⟩⟩
def At4 (C:Cl):Sp:=fun vs H Q _=>∃k s R gl a b c d,vs=[.ref k,.ref gl]∧Kp C H k s R∧Own H R∧H gl=some (.lst [.int a,.int b,.int c,.int d])∧Ans C H k s R (.act 2 a b c d) Q
theorem K6:Aj ["kept", "given"] ["kept", "given"] (Ag (top 104)):=⟨rfl,rfl,rfl,by decide +kernel,rfl,by decide +kernel,by decide +kernel⟩
theorem Lk {f:Addr}{fd:FuncData}(F:Fun K "answer_reverse" "answer_reverse" (top 104) f fd)(T:Txt K mg C)(G_tell_act_of_two:Ok P w K mg base "tell_act_of_two" 3 ["kept", "kind", "key", "work", "a", "b"] (KD C)):Ay P w K mg base CX0 4 f fd ["kept", "given"] (At4 C):=by
 refine F.ok K6 (fun vs H Q E h=>?_) (fun cdv A outer s H vs Q E hr h=>?_)
 ·obtain⟨_,_,_,_,_,_,_,_,rfl,_⟩:=h
  rfl
 ·obtain⟨k,st,R,gl,a,b,c,d,rfl,hk,ow,hg,q⟩:=h
  refine⟨_,(Af (Ai (Ax (Aa (Al G_tell_act_of_two (hr.mono (by decide)) (Aa (pv 0) (Aa (pk T.Jq) (Aa (Aw Ak (pv 1) Ah (fun _ _=>rfl)) (Aa (Aw Ak (pv 1) Ah (fun _ _=>rfl)) (Aa (Aw Ak (pv 1) Ah (fun _ _=>rfl)) (Aa (Aw Ak (pv 1) Ah (fun _ _=>rfl)) Ae))))))) Ae)))),?_⟩
  exact⟨_,rfl,_,rfl,gl,_,_,_,rfl,rfl,.of hg,rfl,_,rfl,gl,_,_,_,rfl,rfl,.of hg,rfl,_,rfl,gl,_,_,_,rfl,rfl,.of hg,rfl,_,rfl,gl,_,_,_,rfl,rfl,.of hg,rfl,k,st,R,2,a,b,c,d,rfl,by decide,by decide,hk,ow,fun H' R' r h1 h2 h3 h4 h5=>⟨by show 1<=sizeLine;decide,fun l hl=>q.told hk ow h1 h2 h3 h4 h5 hl⟩⟩
def At3 (C:Cl):Sp:=fun vs H Q _=>∃k s R gl a b c d,vs=[.ref k,.ref gl]∧Kp C H k s R∧Own H R∧H gl=some (.lst [.int a,.int b,.int c,.int d])∧Ans C H k s R (.act 3 a b c d) Q
theorem Ql:Aj ["kept", "given"] ["kept", "given"] (Ag (top 105)):=⟨rfl,rfl,rfl,by decide +kernel,rfl,by decide +kernel,by decide +kernel⟩
theorem QM {f:Addr}{fd:FuncData}(F:Fun K "answer_rule" "answer_rule" (top 105) f fd)(T:Txt K mg C)(G_tell_act_of_two:Ok P w K mg base "tell_act_of_two" 3 ["kept", "kind", "key", "work", "a", "b"] (KD C)):Ay P w K mg base CX0 4 f fd ["kept", "given"] (At3 C):=by
 refine F.ok Ql (fun vs H Q E h=>?_) (fun cdv A outer s H vs Q E hr h=>?_)
 ·obtain⟨_,_,_,_,_,_,_,_,rfl,_⟩:=h
  rfl
 ·obtain⟨k,st,R,gl,a,b,c,d,rfl,hk,ow,hg,q⟩:=h
  refine⟨_,(Af (Ai (Ax (Aa (Al G_tell_act_of_two (hr.mono (by decide)) (Aa (pv 0) (Aa (pk T.YL) (Aa (Aw Ak (pv 1) Ah (fun _ _=>rfl)) (Aa (Aw Ak (pv 1) Ah (fun _ _=>rfl)) (Aa (Aw Ak (pv 1) Ah (fun _ _=>rfl)) (Aa (Aw Ak (pv 1) Ah (fun _ _=>rfl)) Ae))))))) Ae)))),?_⟩
  exact⟨_,rfl,_,rfl,gl,_,_,_,rfl,rfl,.of hg,rfl,_,rfl,gl,_,_,_,rfl,rfl,.of hg,rfl,_,rfl,gl,_,_,_,rfl,rfl,.of hg,rfl,_,rfl,gl,_,_,_,rfl,rfl,.of hg,rfl,k,st,R,3,a,b,c,d,rfl,by decide,by decide,hk,ow,fun H' R' r h1 h2 h3 h4 h5=>⟨by show 1<=sizeLine;decide,fun l hl=>q.told hk ow h1 h2 h3 h4 h5 hl⟩⟩
def At2 (C:Cl):Sp:=fun vs H Q _=>∃k s R gl a b c,vs=[.ref k,.ref gl]∧Kp C H k s R∧Own H R∧H gl=some (.lst [.int a,.int b,.int c])∧Ans C H k s R (.act 4 a b c 0) Q
theorem Ol:Aj ["kept", "given"] ["kept", "given"] (Ag (top 106)):=⟨rfl,rfl,rfl,by decide +kernel,rfl,by decide +kernel,by decide +kernel⟩
theorem O2 {f:Addr}{fd:FuncData}(F:Fun K "answer_aside" "answer_aside" (top 106) f fd)(T:Txt K mg C)(G_tell_act_of_one:Ok P w K mg base "tell_act_of_one" 3 ["kept", "kind", "key", "work", "a"] (Pa C)):Ay P w K mg base CX0 4 f fd ["kept", "given"] (At2 C):=by
 refine F.ok Ol (fun vs H Q E h=>?_) (fun cdv A outer s H vs Q E hr h=>?_)
 ·obtain⟨_,_,_,_,_,_,_,rfl,_⟩:=h
  rfl
 ·obtain⟨k,st,R,gl,a,b,c,rfl,hk,ow,hg,q⟩:=h
  refine⟨_,(Af (Ai (Ax (Aa (Al G_tell_act_of_one (hr.mono (by decide)) (Aa (pv 0) (Aa (pk T.X6) (Aa (Aw Ak (pv 1) Ah (fun _ _=>rfl)) (Aa (Aw Ak (pv 1) Ah (fun _ _=>rfl)) (Aa (Aw Ak (pv 1) Ah (fun _ _=>rfl)) Ae)))))) Ae)))),?_⟩
  exact⟨_,rfl,_,rfl,gl,_,_,_,rfl,rfl,.of hg,rfl,_,rfl,gl,_,_,_,rfl,rfl,.of hg,rfl,_,rfl,gl,_,_,_,rfl,rfl,.of hg,rfl,k,st,R,4,a,b,c,0,rfl,by decide,by decide,hk,ow,fun H' R' r h1 h2 h3 h4 h5=>⟨by show 1<=sizeLine;decide,fun l hl=>q.told hk ow h1 h2 h3 h4 h5 hl⟩⟩
def At1 (C:Cl):Sp:=fun vs H Q _=>∃k s R gl a b c,vs=[.ref k,.ref gl]∧Kp C H k s R∧Own H R∧H gl=some (.lst [.int a,.int b,.int c])∧Ans C H k s R (.act 5 a b c 0) Q
theorem K7:Aj ["kept", "given"] ["kept", "given"] (Ag (top 107)):=⟨rfl,rfl,rfl,by decide +kernel,rfl,by decide +kernel,by decide +kernel⟩
theorem Ln {f:Addr}{fd:FuncData}(F:Fun K "answer_restore" "answer_restore" (top 107) f fd)(T:Txt K mg C)(G_tell_act_of_one:Ok P w K mg base "tell_act_of_one" 3 ["kept", "kind", "key", "work", "a"] (Pa C)):Ay P w K mg base CX0 4 f fd ["kept", "given"] (At1 C):=by
 refine F.ok K7 (fun vs H Q E h=>?_) (fun cdv A outer s H vs Q E hr h=>?_)
 ·obtain⟨_,_,_,_,_,_,_,rfl,_⟩:=h
  rfl
 ·obtain⟨k,st,R,gl,a,b,c,rfl,hk,ow,hg,q⟩:=h
  refine⟨_,(Af (Ai (Ax (Aa (Al G_tell_act_of_one (hr.mono (by decide)) (Aa (pv 0) (Aa (pk T.Ma) (Aa (Aw Ak (pv 1) Ah (fun _ _=>rfl)) (Aa (Aw Ak (pv 1) Ah (fun _ _=>rfl)) (Aa (Aw Ak (pv 1) Ah (fun _ _=>rfl)) Ae)))))) Ae)))),?_⟩
  exact⟨_,rfl,_,rfl,gl,_,_,_,rfl,rfl,.of hg,rfl,_,rfl,gl,_,_,_,rfl,rfl,.of hg,rfl,_,rfl,gl,_,_,_,rfl,rfl,.of hg,rfl,k,st,R,5,a,b,c,0,rfl,by decide,by decide,hk,ow,fun H' R' r h1 h2 h3 h4 h5=>⟨by show 1<=sizeLine;decide,fun l hl=>q.told hk ow h1 h2 h3 h4 h5 hl⟩⟩
end
end Nm
namespace Nm
open PySem PySem.Spec PyProof.Rows L2
section
variable {P:Program}{w:World}{K:PySem.W.Frag}{mg:Str->Option Value}{base:Heap}{C:Cl}
def At0 (C:Cl):Sp:=fun vs H Q _=>∃k s R gl d key,vs=[.ref k,.ref gl]∧Kp C H k s R∧Own H R∧H gl=some (.lst [.int d,.int key])∧Vbnlag.dayOk d=true∧Ans C H k s R (.stands d key) Q
theorem Mv:Aj ["kept", "given"] ["kept", "given"] (Ag (top 108)):=⟨rfl,rfl,rfl,by decide +kernel,rfl,by decide +kernel,by decide +kernel⟩
theorem not_false {b:Bool}(h:b=true):¬b=false:=by rw[h];decide
theorem M4 {f:Addr}{fd:FuncData}(F:Fun K "answer_stands" "answer_stands" (top 108) f fd)(T:Txt K mg C)(G_stands:Ok P w K mg base "stands" 5 ["kept", "key", "d"] (GD C)):Ay P w K mg base CX0 6 f fd ["kept", "given"] (At0 C):=by
 refine F.ok Mv (fun vs H Q E h=>?_) (fun cdv A outer s H vs Q E hr h=>?_)
 ·obtain⟨_,_,_,_,_,_,rfl,_⟩:=h
  rfl
 ·obtain⟨k,st,R,gl,d,key,rfl,hk,ow,hg,hd,q⟩:=h
  refine⟨_,(Af (Ai (Ax (Aa (FJ (BW (Al G_stands (hr.mono (by decide)) (Aa (pv 0) (Aa (Aw Ak (pv 1) Ah (fun _ _=>rfl)) (Aa (Aw Ak (pv 1) Ah (fun _ _=>rfl)) Ae))))) Ah Ah) Ae)))),?_⟩
  have st1:Vbnlag.step st (.stands d key)=(st,[Vbnlag.truth (Vbnlag.stands st d key)]):=by unfold Vbnlag.step;dsimp only;rw[if_neg (not_false hd)]
  refine⟨_,rfl,_,rfl,gl,_,_,_,rfl,rfl,.of hg,rfl,_,rfl,gl,_,_,_,rfl,rfl,.of hg,rfl,k,st,R,key,d,rfl,hk,fun H1 e1=>⟨_,rfl,Bc (fun h1=>?_) (fun h1=>?_)⟩⟩
  ·exact⟨by show 1<=sizeLine;decide,fun l hl=>q.one (by rw[st1,h1];rfl) hk ow e1 hl⟩
  ·exact⟨by show 1<=sizeLine;decide,fun l hl=>q.one (by rw[st1,h1];rfl) hk ow e1 hl⟩
def Ac8 (C:Cl):Sp:=fun vs H Q _=>∃k s R gl d,vs=[.ref k,.ref gl]∧Kp C H k s R∧Own H R∧H gl=some (.lst [.int d])∧Vbnlag.dayOk d=true∧Ans C H k s R (.order d) Q
theorem Oi:Aj ["kept", "given"] ["kept", "given"] (Ag (top 109)):=⟨rfl,rfl,rfl,by decide +kernel,rfl,by decide +kernel,by decide +kernel⟩
theorem OD {f:Addr}{fd:FuncData}(F:Fun K "answer_order" "answer_order" (top 109) f fd)(T:Txt K mg C)(G_precedence:Ok P w K mg base "precedence" 9 ["kept", "d"] (KH C)):Ay P w K mg base CX0 10 f fd ["kept", "given"] (Ac8 C):=by
 refine F.ok Oi (fun vs H Q E h=>?_) (fun cdv A outer s H vs Q E hr h=>?_)
 ·obtain⟨_,_,_,_,_,rfl,_⟩:=h
  rfl
 ·obtain⟨k,st,R,gl,d,rfl,hk,ow,hg,hd,q⟩:=h
  refine⟨_,(Af (Ai (CG Ed (Ax (Aa Ah Ae)) (Al G_precedence (hr.mono (by decide)) (Aa (pv 0) (Aa (Aw Ak (pv 1) Ah (fun _ _=>rfl)) Ae)))))),?_⟩
  have st1:Vbnlag.step st (.order d)=(st,0::Vbnlag.order st d):=by unfold Vbnlag.step;dsimp only;rw[if_neg (not_false hd)]
  refine⟨by show 1<=sizeLine;decide,fun p hp=>?_⟩
  have e0:=Ext.new C hp (.lst [V.int 0])
  have ln:=MJ hk.wf d
  refine⟨_,rfl,_,rfl,gl,_,_,_,rfl,rfl,.of (e0.lst hg),rfl,k,st,R,d,rfl,hk.ext e0,fun H1 l e1 n1 hl=>⟨p,l,_,_,rfl,rfl,e1.lst Ab,hl,by rw[List.length_map,sizeLine_eq];show 1 + _<=_;omega,fun l2 n2=>q.K9 st1 hk ow (e0.trans e1) n2 rfl (by rw[List.length_cons];omega)⟩⟩
def Ac7 (C:Cl):Sp:=fun vs H Q _=>∃k s R gl d rl,∃set:List Int,vs=[.ref k,.ref gl]∧Kp C H k s R∧Own H R∧H gl=some (.lst [.int d,.ref rl])∧H rl=some (.lst (set.map V.int))∧Vbnlag.dayOk d=true∧Ans C H k s R (.first d set) Q
theorem Oj:Aj ["kept", "given"] ["kept", "given"] (Ag (top 110)):=⟨rfl,rfl,rfl,by decide +kernel,rfl,by decide +kernel,by decide +kernel⟩
theorem OJ {f:Addr}{fd:FuncData}(F:Fun K "answer_first" "answer_first" (top 110) f fd)(T:Txt K mg C)(G_name_of_set:Ok P w K mg base "name_of_set" 11 ["kept", "d", "wanted"] (Pg K C)):Ay P w K mg base CX0 12 f fd ["kept", "given"] (Ac7 C):=by
 refine F.ok Oj (fun vs H Q E h=>?_) (fun cdv A outer s H vs Q E hr h=>?_)
 ·obtain⟨_,_,_,_,_,_,_,rfl,_⟩:=h
  rfl
 ·obtain⟨k,st,R,gl,d,rl,set,rfl,hk,ow,hg,hrl,hd,q⟩:=h
  refine⟨_,(Af (Ai (Ax (Aa (Al G_name_of_set (hr.mono (by decide)) (Aa (pv 0) (Aa (Aw Ak (pv 1) Ah (fun _ _=>rfl)) (Aa (Aw Ak (pv 1) Ah (fun _ _=>rfl)) Ae)))) Ae)))),?_⟩
  have st1:Vbnlag.step st (.first d set)=(st,[Vbnlag.first st d set]):=by unfold Vbnlag.step;dsimp only;rw[if_neg (not_false hd)]
  exact⟨_,rfl,_,rfl,gl,_,_,_,rfl,rfl,.of hg,rfl,_,rfl,gl,_,_,_,rfl,rfl,.of hg,rfl,k,st,R,d,rl,set,rfl,hk,.of hrl,fun H1 e1=>⟨by show 1<=sizeLine;decide,fun l hl=>q.one st1 hk ow e1 hl⟩⟩
def Ac6 (C:Cl):Sp:=fun vs H Q _=>∃k s R gl d rl,∃set:List Int,vs=[.ref k,.ref gl]∧Kp C H k s R∧Own H R∧H gl=some (.lst [.int d,.ref rl])∧H rl=some (.lst (set.map V.int))∧Vbnlag.dayOk d=true∧Ans C H k s R (.why d set) Q
theorem Rz:Aj ["kept", "given"] ["kept", "given"] (Ag (top 111)):=⟨rfl,rfl,rfl,by decide +kernel,rfl,by decide +kernel,by decide +kernel⟩
theorem RK {f:Addr}{fd:FuncData}(F:Fun K "answer_why" "answer_why" (top 111) f fd)(T:Txt K mg C)(G_way_to_name:Ok P w K mg base "way_to_name" 10 ["kept", "d", "wanted"] (Vd K C)):Ay P w K mg base CX0 11 f fd ["kept", "given"] (Ac6 C):=by
 refine F.ok Rz (fun vs H Q E h=>?_) (fun cdv A outer s H vs Q E hr h=>?_)
 ·obtain⟨_,_,_,_,_,_,_,rfl,_⟩:=h
  rfl
 ·obtain⟨k,st,R,gl,d,rl,set,rfl,hk,ow,hg,hrl,hd,q⟩:=h
  refine⟨_,(Af (Ai (CG Ed (Ax (Aa Ah Ae)) (Al G_way_to_name (hr.mono (by decide)) (Aa (pv 0) (Aa (Aw Ak (pv 1) Ah (fun _ _=>rfl)) (Aa (Aw Ak (pv 1) Ah (fun _ _=>rfl)) Ae))))))),?_⟩
  have st1:Vbnlag.step st (.why d set)=(st,0::Vbnlag.why st d set):=by unfold Vbnlag.step;dsimp only;rw[if_neg (not_false hd)]
  refine⟨by show 1<=sizeLine;decide,fun p hp=>?_⟩
  have e0:=Ext.new C hp (.lst [V.int 0])
  have ln:=Aj4 hk.wf d set
  exact⟨_,rfl,_,rfl,gl,_,_,_,rfl,rfl,.of (e0.lst hg),rfl,_,rfl,gl,_,_,_,rfl,rfl,.of (e0.lst hg),rfl,k,st,R,d,rl,set,rfl,hk.ext e0,.of (e0.lst hrl),fun H1 l e1 n1 hl=>⟨p,l,_,_,rfl,rfl,e1.lst Ab,hl,by rw[List.length_map,sizeLine_eq];show 1 + _<=_;omega,fun l2 n2=>q.K9 st1 hk ow (e0.trans e1) n2 rfl (by rw[List.length_cons];omega)⟩⟩
def Ac4 (C:Cl):Sp:=fun vs H Q _=>∃k s R gl d a b,vs=[.ref k,.ref gl]∧Kp C H k s R∧Own H R∧H gl=some (.lst [.int d,.int a,.int b])∧Vbnlag.dayOk d=true∧Ans C H k s R (.before d a b) Q
theorem GF:Aj ["kept", "given", "d"] ["kept", "given"] (Ag (top 113)):=⟨rfl,rfl,rfl,by decide +kernel,rfl,by decide +kernel,by decide +kernel⟩
theorem M7 {f:Addr}{fd:FuncData}(F:Fun K "answer_before" "answer_before" (top 113) f fd)(T:Txt K mg C)(G_stands:Ok P w K mg base "stands" 5 ["kept", "key", "d"] (GD C))(G_comes_before:Ok P w K mg base "comes_before" 10 ["kept", "d", "a", "b"] (Qe C)):Ay P w K mg base CX0 11 f fd ["kept", "given"] (Ac4 C):=by
 refine F.ok GF (fun vs H Q E h=>?_) (fun cdv A outer s H vs Q E hr h=>?_)
 ·obtain⟨_,_,_,_,_,_,_,rfl,_⟩:=h
  rfl
 ·obtain⟨k,st,R,gl,d,a,b,rfl,hk,ow,hg,hd,q⟩:=h
  refine⟨_,(Ad (Am (i:=2) GF.nd rfl (Or.inl rfl) (Aw Ak (pv 1) Ah (fun _ _=>rfl)))
   (Ad (Bl (PW.pt (Sd (Df (BW (Al G_stands (hr.mono (by decide)) (Aa (pv 0) (Aa (Aw Ak (pv 1) Ah (fun _ _=>rfl)) (Aa (pv 2) Ae)))))) (Mx (Df (BW (Al G_stands (hr.mono (by decide)) (Aa (pv 0) (Aa (Aw Ak (pv 1) Ah (fun _ _=>rfl)) (Aa (pv 2) Ae))))))))) (Af (Ai (Ax (Aa (pk T.Gd) Ae)))) Aq)
   (Af (Ai (Ax (Aa (FJ (BW (Al G_comes_before (hr.mono (by decide)) (Aa (pv 0) (Aa (pv 2) (Aa (Aw Ak (pv 1) Ah (fun _ _=>rfl)) (Aa (Aw Ak (pv 1) Ah (fun _ _=>rfl)) Ae)))))) Ah Ah) Ae)))))),?_⟩
  have st0:Vbnlag.step st (.before d a b)=if (Vbnlag.stands st d a&&Vbnlag.stands st d b)=false then(st,[-6]) else(st,[Vbnlag.truth (decide (a≠b)&&Vbnlag.first st d [a,b]==a)]):=by conv=>lhs;unfold Vbnlag.step;dsimp only;rw[if_neg (not_false hd)]
  refine⟨_,rfl,gl,_,_,_,rfl,rfl,.of hg,rfl,_,rfl,_,rfl,gl,_,_,_,rfl,rfl,.of hg,rfl,_,rfl,k,st,R,a,d,rfl,hk,fun H1 e1=>⟨_,rfl,Bc (fun h1=>?_) (fun h1=>?_)⟩⟩
  ·have h1:Vbnlag.stands st d a=false:=by simpa using h1
   exact⟨by show 1<=sizeLine;decide,fun l hl=>q.one (by rw[st0,h1];rfl) hk ow e1 hl⟩
  have h1:Vbnlag.stands st d a=true:=by simpa using h1
  have hk1:=hk.ext e1
  refine⟨_,rfl,_,rfl,gl,_,_,_,rfl,rfl,.of (e1.lst hg),rfl,_,rfl,k,st,R,b,d,rfl,hk1,fun H2 e2=>⟨_,rfl,Bc (fun h2=>?_) (fun h2=>?_)⟩⟩
  ·have h2:Vbnlag.stands st d b=false:=by simpa using h2
   exact⟨by show 1<=sizeLine;decide,fun l hl=>q.one (by rw[st0,h1,h2];rfl) hk ow (e1.trans e2) hl⟩
  have h2:Vbnlag.stands st d b=true:=by simpa using h2
  have e12:=e1.trans e2
  rw[h1,h2]at st0
  have st1:Vbnlag.step st (.before d a b)=(st,[Vbnlag.truth (decide (a≠b)&&Vbnlag.first st d [a,b]==a)]):=st0
  refine⟨_,rfl,_,rfl,_,rfl,gl,_,_,_,rfl,rfl,.of (e12.lst hg),rfl,_,rfl,gl,_,_,_,rfl,rfl,.of (e12.lst hg),rfl,k,st,R,d,a,b,rfl,hk.ext e12,h1,h2,fun H3 e3=>⟨_,rfl,Bc (fun h3=>?_) (fun h3=>?_)⟩⟩
  ·exact⟨by show 1<=sizeLine;decide,fun l hl=>q.one (by rw[st1,h3];rfl) hk ow (e12.trans e3) hl⟩
  ·exact⟨by show 1<=sizeLine;decide,fun l hl=>q.one (by rw[st1,h3];rfl) hk ow (e12.trans e3) hl⟩
end
end Nm
namespace Nm
open PySem PySem.Spec PyProof.Rows L2
theorem V2:∀xs ys:List Int,PyData.eqvAll (xs.map .int) (ys.map .int)=decide (xs=ys)
 | [],[]=>rfl
 | [],_::_=>rfl
 | _::_,[]=>rfl
 | x::xs,y::ys=>by
  simp only[List.map_cons,PyData.eqvAll,PyData.eqv]
  rw[V2 xs ys]
  by_cases h:x=y <;>by_cases g:xs=ys <;>simp[h,g]
theorem lay_ints:∀xs:List Int,PyData.canLayAll0 (xs.map .int)=true
 | []=>rfl
 | x::xs=>by
  simp only[List.map_cons,PyData.canLayAll0,PyData.canLay0,Bool.true_and]
  exact lay_ints xs
theorem Rj:∀xs:List Int,PyData.depthAll (xs.map .int)=0
 | []=>rfl
 | x::xs=>by
  simp only[List.map_cons,PyData.depthAll,PyData.depth,Rj xs]
  rfl
theorem shaped_ints (xs:List Int):SeqAt.shaped (.list (xs.map .int))=true:=by
 unfold SeqAt.shaped
 simp only[PyData.canLay0,PyData.depth,lay_ints,Rj]
 decide
theorem Uy {K:PySem.W.Frag}{H:Hp}:∀xs:List Int,Ru K H (xs.map V.int) (xs.map .int)
 | []=> .nil
 | x::xs=> .cons (.int x) (Uy xs)
section
variable {P:Program}{w:World}{K:PySem.W.Frag}{mg:Str->Option Value}{base:Heap}{C:Cl}
def Ac5 (C:Cl):Sp:=fun vs H Q _=>∃k s R gl d rl r2,∃set l2:List Int,vs=[.ref k,.ref gl]∧Kp C H k s R∧Own H R∧H gl=some (.lst [.int d,.ref rl,.ref r2])∧H rl=some (.lst (set.map V.int))∧H r2=some (.lst (l2.map V.int))∧Vbnlag.dayOk d=true∧Ans C H k s R (.check d set l2) Q
theorem HB:Aj ["kept", "given", "claimed"] ["kept", "given"] (Ag (top 112)):=⟨rfl,rfl,rfl,by decide +kernel,rfl,by decide +kernel,by decide +kernel⟩
theorem O1 {f:Addr}{fd:FuncData}(F:Fun K "answer_check" "answer_check" (top 112) f fd)(T:Txt K mg C)(G_way_to_name:Ok P w K mg base "way_to_name" 10 ["kept", "d", "wanted"] (Vd K C)):Ay P w K mg base CX0 11 f fd ["kept", "given"] (Ac5 C):=by
 refine F.ok HB (fun vs H Q E h=>?_) (fun cdv A outer s H vs Q E hr h=>?_)
 ·obtain⟨_,_,_,_,_,_,_,_,_,rfl,_⟩:=h
  rfl
 ·obtain⟨k,st,R,gl,d,rl,r2,set,l2,rfl,hk,ow,hg,hrl,hr2,hd,q⟩:=h
  refine⟨_,(Ad (Am (i:=2) HB.nd rfl (Or.inl rfl) (Aw Ak (pv 1) Ah (fun _ _=>rfl)))
   (Af (Ai (Ax (Aa (FJ (PW.pt (Fx (Ar Lh (Bd Bo (by rfl) T.len PySem.boot_len (Aa (pv 2) Ae)) Ah (Ba _)) (En (Ar (Au9 (Be3 hr)) (pv 2) (Al G_way_to_name (hr.mono (by decide)) (Aa (pv 0) (Aa (Aw Ak (pv 1) Ah (fun _ _=>rfl)) (Aa (Aw Ak (pv 1) Ah (fun _ _=>rfl)) Ae)))) (Ba _))))) Ah Ah) Ae))))),?_⟩
  have st1:Vbnlag.step st (.check d set l2)=(st,[Vbnlag.truth (Vbnlag.check st d set l2)]):=by unfold Vbnlag.step;dsimp only;rw[if_neg (not_false hd)]
  have ci:=Z9 hk.wf d set l2
  refine⟨_,rfl,gl,_,_,_,rfl,rfl,.of hg,rfl,_,rfl,r2,_,rfl,.inl (.of hr2),_,_,rfl,rfl,_,rfl,Bc (fun h1=>?_) (fun h1=>?_)⟩
  ·have h1:l2≠[]:=fun z=>by rw[z]at h1;cases h1
   refine⟨_,rfl,_,rfl,_,rfl,gl,_,_,_,rfl,rfl,.of hg,rfl,_,rfl,gl,_,_,_,rfl,rfl,.of hg,rfl,k,st,R,d,rl,set,rfl,hk,.of hrl,fun H1 l e1 n1 hl=>⟨.list (l2.map .int),.list ((Vbnlag.why st d set).map .int),.lst (.of (e1.lst hr2)) (Uy l2),.lst (.of hl) (Uy _),shaped_ints _,shaped_ints _,_,rfl,?_⟩⟩
   have ee:PyData.eqv (.list (l2.map .int)) (.list ((Vbnlag.why st d set).map .int))=decide (l2=Vbnlag.why st d set):=by
    rw[PyData.eqv]
    exact V2 _ _
   rw[ee]
   refine Bc (fun h2=>?_) (fun h2=>?_)
   ·have hc:Vbnlag.check st d set l2=true:=ci.mpr ⟨h1,of_decide_eq_true h2⟩
    exact⟨by show 1<=sizeLine;decide,fun l hl=>q.one (by rw[st1,hc];rfl) hk ow e1 hl⟩
   ·have hc:Vbnlag.check st d set l2=false:=Bool.eq_false_iff.mpr fun z=>of_decide_eq_false h2 (ci.mp z).2
    exact⟨by show 1<=sizeLine;decide,fun l hl=>q.one (by rw[st1,hc];rfl) hk ow e1 hl⟩
  ·have h1:l2=[]:=by
    cases l2 with
    | nil=>rfl
    | cons x r=>exact absurd (by simp) (of_decide_eq_false h1)
   have hc:Vbnlag.check st d set l2=false:=Bool.eq_false_iff.mpr fun z=>(ci.mp z).1 h1
   exact⟨by show 1<=sizeLine;decide,fun l hl=>q.one (by rw[st1,hc];rfl) hk ow (Ext.refl _ _) hl⟩
def Ac3 (C:Cl):Sp:=fun vs H Q _=>∃k s R gl d key,vs=[.ref k,.ref gl]∧Kp C H k s R∧Own H R∧H gl=some (.lst [.int d,.int key])∧Vbnlag.dayOk d=true∧Ans C H k s R (.fate d key) Q
theorem Qn:Aj ["kept", "given"] ["kept", "given"] (Ag (top 114)):=⟨rfl,rfl,rfl,by decide +kernel,rfl,by decide +kernel,by decide +kernel⟩
theorem QV {f:Addr}{fd:FuncData}(F:Fun K "answer_fate" "answer_fate" (top 114) f fd)(T:Txt K mg C)(G_fate:Ok P w K mg base "fate" 10 ["kept", "act", "d"] (T3 C)):Ay P w K mg base CX0 11 f fd ["kept", "given"] (Ac3 C):=by
 refine F.ok Qn (fun vs H Q E h=>?_) (fun cdv A outer s H vs Q E hr h=>?_)
 ·obtain⟨_,_,_,_,_,_,rfl,_⟩:=h
  rfl
 ·obtain⟨k,st,R,gl,d,key,rfl,hk,ow,hg,hd,q⟩:=h
  refine⟨_,(Ad (Bl (Dg (Cu (hu1 hr) (Aw Ak (pv 1) Ah (fun _ _=>rfl)) (pF T.cl (pv 0)))) (Af (Ai (Ax (Aa (pk T.Gd) Ae)))) Aq)
   (Af (Ai (Ax (Aa (Al G_fate (hr.mono (by decide)) (Aa (pv 0) (Aa (Br (hu1 hr) (pF T.cl (pv 0)) (Aw Ak (pv 1) Ah (fun _ _=>rfl)) (fun _ _=>rfl)) (Aa (Aw Ak (pv 1) Ah (fun _ _=>rfl)) Ae)))) Ae))))),?_⟩
  obtain⟨o,hgo,ho⟩:=hk.Ao3 key
  refine⟨_,rfl,gl,_,_,_,rfl,rfl,.of hg,rfl,_,rfl,_,_,rfl,hk.acts T.cl,R.a,o,rfl,hgo,_,rfl,Bc (fun h1=>?_) (fun h1=>?_)⟩
  ·have n:Vbnlag.actOf st key=none:=by
    cases z:Vbnlag.actOf st key with
    | none=>rfl
    | some x=>rw[z]at ho;rw[ho]at h1;cases h1
   have st1:Vbnlag.step st (.fate d key)=(st,[-6]):=by unfold Vbnlag.step;dsimp only;rw[if_neg (not_false hd),n]
   exact⟨by show 1<=sizeLine;decide,fun l hl=>q.one st1 hk ow (Ext.refl _ _) hl⟩
  ·obtain⟨x,hx⟩:∃x,Vbnlag.actOf st key=some x:=by
    cases z:Vbnlag.actOf st key with
    | none=>rw[z]at ho;rw[ho]at h1;cases h1
    | some x=>exact⟨x,rfl⟩
   obtain⟨mx,ex⟩:=hk.wf.aOf.mp hx
   have st1:Vbnlag.step st (.fate d key)=(st,[Vbnlag.fate st d x]):=by unfold Vbnlag.step;dsimp only;rw[if_neg (not_false hd),hx]
   obtain⟨a,ha,ga⟩:=hk.Ai0 mx
   rw[ex]at ga
   exact⟨_,rfl,_,rfl,_,_,rfl,hk.acts T.cl,_,rfl,gl,_,_,_,rfl,rfl,.of hg,rfl,R.a,_,rfl,ga,_,rfl,gl,_,_,_,rfl,rfl,.of hg,rfl,k,st,R,a,x,d,rfl,hk,ha,mx,fun H1 e1=>⟨by show 1<=sizeLine;decide,fun l hl=>q.one st1 hk ow e1 hl⟩⟩
def Ac2 (C:Cl):Sp:=fun vs H Q _=>∃k s R gl d key,vs=[.ref k,.ref gl]∧Kp C H k s R∧Own H R∧H gl=some (.lst [.int d,.int key])∧Vbnlag.dayOk d=true∧Ans C H k s R (.ring d key) Q
theorem Ii:Aj ["kept", "given", "act"] ["kept", "given"] (Ag (top 115)):=⟨rfl,rfl,rfl,by decide +kernel,rfl,by decide +kernel,by decide +kernel⟩
theorem Z5 {s:VS}(W:WF s){d:Int}{x:Vbnlag.Act}(hx:x∈s.acts)(h:Vbnlag.fate s d x=5):x∈Vbnlag.counting s d∧x∉Vbnlag.locked s d:=by
 unfold Vbnlag.fate at h
 split at h
 ·split at h
  ·cases h
  ·split at h
   ·cases h
   ·cases h
 ·rename_i k4
  split at h
  ·rename_i hh
   exfalso
   unfold Vbnlag.hindrance at h
   split at h
   ·cases h
   ·split at h
    ·cases h
    ·split at h
     ·cases h
     ·split at h
      ·cases h
      ·cases h
  ·rename_i hh
   split at h
   ·cases h
   ·rename_i hl
    refine⟨(Dc d).mem_iff.mpr (List.mem_filter.mpr ⟨hx,?_⟩),fun m=>hl (List.contains_iff_mem.mpr m)⟩
    unfold CQ
    have:Vbnlag.hindrance s d x=0:=Classical.byContradiction hh
    rw[this,decide_eq_true (show x.kind<=3 by omega)]
    rfl
theorem QS {f:Addr}{fd:FuncData}(F:Fun K "answer_ring" "answer_ring" (top 115) f fd)(T:Txt K mg C)(G_fate:Ok P w K mg base "fate" 10 ["kept", "act", "d"] (T3 C))(G_ring:Ok P w K mg base "ring" 9 ["kept", "act", "d"] (WL C)):Ay P w K mg base CX0 11 f fd ["kept", "given"] (Ac2 C):=by
 refine F.ok Ii (fun vs H Q E h=>?_) (fun cdv A outer s H vs Q E hr h=>?_)
 ·obtain⟨_,_,_,_,_,_,rfl,_⟩:=h
  rfl
 ·obtain⟨k,st,R,gl,d,key,rfl,hk,ow,hg,hd,q⟩:=h
  refine⟨_,(Ad (Bl (Dg (Cu (hu1 hr) (Aw Ak (pv 1) Ah (fun _ _=>rfl)) (pF T.cl (pv 0)))) (Af (Ai (Ax (Aa (pk T.Gd) Ae)))) Aq)
   (Ad (Am (i:=2) Ii.nd rfl (Or.inl rfl) (Br (hu1 hr) (pF T.cl (pv 0)) (Aw Ak (pv 1) Ah (fun _ _=>rfl)) (fun _ _=>rfl)))
   (Ad (Bl (Ar Qx (Al G_fate (hr.mono (by decide)) (Aa (pv 0) (Aa (pv 2) (Aa (Aw Ak (pv 1) Ah (fun _ _=>rfl)) Ae)))) (pk T.Mf) (Ba _)) (Af (Ai (Ax (Aa (pk T.Gs) Ae)))) Aq)
   (Af (Ai (CG Ed (Ax (Aa Ah Ae)) (Al G_ring (hr.mono (by decide)) (Aa (pv 0) (Aa (pv 2) (Aa (Aw Ak (pv 1) Ah (fun _ _=>rfl)) Ae)))))))))),?_⟩
  obtain⟨o,hgo,ho⟩:=hk.Ao3 key
  refine⟨_,rfl,gl,_,_,_,rfl,rfl,.of hg,rfl,_,rfl,_,_,rfl,hk.acts T.cl,R.a,o,rfl,hgo,_,rfl,Bc (fun h1=>?_) (fun h1=>?_)⟩
  ·have n:Vbnlag.actOf st key=none:=by
    cases z:Vbnlag.actOf st key with
    | none=>rfl
    | some x=>rw[z]at ho;rw[ho]at h1;cases h1
   have st1:Vbnlag.step st (.ring d key)=(st,[-6]):=by unfold Vbnlag.step;dsimp only;rw[if_neg (not_false hd),n]
   exact⟨by show 1<=sizeLine;decide,fun l hl=>q.one st1 hk ow (Ext.refl _ _) hl⟩
  ·obtain⟨x,hx⟩:∃x,Vbnlag.actOf st key=some x:=by
    cases z:Vbnlag.actOf st key with
    | none=>rw[z]at ho;rw[ho]at h1;cases h1
    | some x=>exact⟨x,rfl⟩
   obtain⟨mx,ex⟩:=hk.wf.aOf.mp hx
   have st0:Vbnlag.step st (.ring d key)=if Vbnlag.fate st d x=5 then(st,0::Vbnlag.ring st d x) else(st,[-14]):=by conv=>lhs;unfold Vbnlag.step;dsimp only;rw[if_neg (not_false hd),hx]
   obtain⟨a,ha,ga⟩:=hk.Ai0 mx
   rw[ex]at ga
   refine⟨_,rfl,_,_,rfl,hk.acts T.cl,_,rfl,gl,_,_,_,rfl,rfl,.of hg,rfl,R.a,_,rfl,ga,_,rfl,_,rfl,_,rfl,gl,_,_,_,rfl,rfl,.of hg,rfl,k,st,R,a,x,d,rfl,hk,ha,mx,fun H1 e1=>⟨_,_,rfl,rfl,_,rfl,Bc (fun h2=>?_) (fun h2=>?_)⟩⟩
   ·have h2:Vbnlag.fate st d x≠5:=by simpa using h2
    rw[if_neg h2]at st0
    exact⟨by show 1<=sizeLine;decide,fun l hl=>q.one st0 hk ow e1 hl⟩
   ·have h2:Vbnlag.fate st d x=5:=by simpa using h2
    rw[if_pos h2]at st0
    obtain⟨c1,c2⟩:=Z5 hk.wf mx h2
    refine⟨by show 1<=sizeLine;decide,fun p hp=>?_⟩
    have e2:=Ext.new C hp (.lst [V.int 0])
    have e12:=e1.trans e2
    exact⟨_,rfl,_,rfl,_,rfl,gl,_,_,_,rfl,rfl,.of (e12.lst hg),rfl,k,st,R,a,x,d,rfl,hk.ext e12,ha.ext e12,c1,c2,fun H3 l e3 n3 hl ln=>⟨p,l,_,_,rfl,rfl,e3.lst Ab,hl,by rw[List.length_map,sizeLine_eq];show 1 + _<=_;omega,fun l2 n2=>q.K9 st0 hk ow (e12.trans e3) n2 rfl (by rw[List.length_cons];omega)⟩⟩
end
end Nm
namespace L2
open PySem PySem.Spec PyProof.Rows
section
variable {X:Cx}{k:Nat}{x:Str}{p pos:Pos}{e:Expr}{es:List Expr}{t:TA}{i:Nat}
def As7 (P:Program)(w:World)(K:PySem.W.Frag)(mg:Str->Option Value)(base:Heap)(k i:Nat)(t:TA):TE:=fun σ H Q=>∃f fd ps sp,σ[i]?=some (some (.ref f))∧PySem.W.keepIn K (.ref f)=true∧Binds K fd ps []∧Ay P w K mg base CX0 k f fd ps sp∧t σ H fun vs H1=>sp (vs++[]) H1 Q E0
theorem Au7 (hv:PE X (.Name x p) (PX i))(hr:CJ k X.A)(ha:PA X (e::es) t)(he:starEach (e::es) X.env=(false,eval e X.env)::starEach es X.env:=by rfl)(hpl:(backTo pos (starEach es X.env)).any (·.1)=false:=by rfl) :
  PE X (.Call (.Name x p) (e::es) [] pos) (As7 X.prog X.w X.K X.mg X.base k i t):=by
 intro pins s σ H Q I h
 obtain⟨f,fd,ps,sp,h1,h2,h3,h4,h5⟩:=h
 refine wpAny_Call_Name_kw (thn (hv pins s σ H (fun v H'=>v= .ref f∧H'=H) I ⟨_,h1,rfl,rfl⟩) fun u s1 ⟨y,H1,I1,r1,e1,e2⟩=>?_)
 subst e1 e2
 obtain rfl:u=Value.ref f:=r1
 refine PySem.W.callWith_K (h₀:=X.base) I1.ok.mod.kin h2 (thn (ha pos pins s1 σ H1 _ I1 h5) fun us s2 ⟨vs,H2,I2,r,q⟩=>⟨I2.kIn,?_⟩) he hpl
 exact Ad8 h4 hr h3 .nil Yq I2 r q
end
end L2
namespace Nm
open PySem PySem.Spec PyProof.Rows L2
section
variable {P:Program}{w:World}{K:PySem.W.Frag}{mg:Str->Option Value}{base:Heap}{C:Cl}
def Ac1 (C:Cl):Sp:=fun vs H Q _=>∃k s R gl key,vs=[.ref k,.ref gl]∧Kp C H k s R∧Own H R∧H gl=some (.lst [.int key])∧Ans C H k s R (.tally key) Q
theorem Hz:Aj ["kept", "given", "act"] ["kept", "given"] (Ag (top 116)):=⟨rfl,rfl,rfl,by decide +kernel,rfl,by decide +kernel,by decide +kernel⟩
theorem Oz {f:Addr}{fd:FuncData}(F:Fun K "answer_tally" "answer_tally" (top 116) f fd)(T:Txt K mg C)(G_tally:Ok P w K mg base "tally" 2 ["kept", "reversal"] (Pb C))(G_is_earned:Ok P w K mg base "is_earned" 3 ["kept", "reversal"] (HY C)):Ay P w K mg base CX0 4 f fd ["kept", "given"] (Ac1 C):=by
 refine F.ok Hz (fun vs H Q E h=>?_) (fun cdv A outer s H vs Q E hr h=>?_)
 ·obtain⟨_,_,_,_,_,rfl,_⟩:=h
  rfl
 ·obtain⟨k,st,R,gl,key,rfl,hk,ow,hg,q⟩:=h
  refine⟨_,(Ad (Bl (Dg (Cu (hu1 hr) (Aw Ak (pv 1) Ah (fun _ _=>rfl)) (pF T.cl (pv 0)))) (Af (Ai (Ax (Aa (pk T.Gd) Ae)))) Aq)
   (Ad (Am (i:=2) Hz.nd rfl (Or.inl rfl) (Br (hu1 hr) (pF T.cl (pv 0)) (Aw Ak (pv 1) Ah (fun _ _=>rfl)) (fun _ _=>rfl)))
   (Ad (Bl (Ar Qx (pF T.cl (pv 2)) (pk T.Jq) (Ba _)) (Af (Ai (Ax (Aa (pk T.Gs) Ae)))) Aq)
   (Af (Ai (CG Ed (CG Ed (Ax (Aa Ah Ae)) (Al G_tally (hr.mono (by decide)) (Aa (pv 0) (Aa (pv 2) Ae)))) (Ax (Aa (FJ (BW (Al G_is_earned (hr.mono (by decide)) (Aa (pv 0) (Aa (pv 2) Ae)))) Ah Ah) Ae)))))))),?_⟩
  obtain⟨o,hgo,ho⟩:=hk.Ao3 key
  refine⟨_,rfl,gl,_,_,_,rfl,rfl,.of hg,rfl,_,rfl,_,_,rfl,hk.acts T.cl,R.a,o,rfl,hgo,_,rfl,Bc (fun h1=>?_) (fun h1=>?_)⟩
  ·have n:Vbnlag.actOf st key=none:=by
    cases z:Vbnlag.actOf st key with
    | none=>rfl
    | some x=>rw[z]at ho;rw[ho]at h1;cases h1
   have st1:Vbnlag.step st (.tally key)=(st,[-6]):=by unfold Vbnlag.step;dsimp only;rw[n]
   exact⟨by show 1<=sizeLine;decide,fun l hl=>q.one st1 hk ow (Ext.refl _ _) hl⟩
  ·obtain⟨x,hx⟩:∃x,Vbnlag.actOf st key=some x:=by
    cases z:Vbnlag.actOf st key with
    | none=>rw[z]at ho;rw[ho]at h1;cases h1
    | some x=>exact⟨x,rfl⟩
   obtain⟨mx,ex⟩:=hk.wf.aOf.mp hx
   have st0:Vbnlag.step st (.tally key)=if x.kind=2 then(st,[0,(Vbnlag.tally st x).older,(Vbnlag.tally st x).works,(Vbnlag.tally st x).authors,(Vbnlag.tally st x).span,Vbnlag.truth (Vbnlag.earned st x)]) else(st,[-14]):=by conv=>lhs;unfold Vbnlag.step;dsimp only;rw[hx]
   obtain⟨a,ha,ga⟩:=hk.Ai0 mx
   rw[ex]at ga
   refine⟨_,rfl,_,_,rfl,hk.acts T.cl,_,rfl,gl,_,_,_,rfl,rfl,.of hg,rfl,R.a,_,rfl,ga,_,rfl,_,_,rfl,ha.kind T.cl,_,_,rfl,rfl,_,rfl,Bc (fun h2=>?_) (fun h2=>?_)⟩
   ·have h2:x.kind≠2:=by simpa using h2
    rw[if_neg h2]at st0
    exact⟨by show 1<=sizeLine;decide,fun l hl=>q.one st0 hk ow (Ext.refl _ _) hl⟩
   ·have h2:x.kind=2:=by simpa using h2
    rw[if_pos h2]at st0
    refine⟨by show 1<=sizeLine;decide,fun p hp=>?_⟩
    have e1:=Ext.new C hp (.lst [V.int 0])
    refine⟨_,rfl,_,rfl,k,st,R,a,x,rfl,hk.ext e1,ha.ext e1,mx,fun H2 l e2 n2 hl=>⟨p,l,_,_,rfl,rfl,e2.lst Ab,hl,by show 5<=sizeLine;decide,fun p3 n3=>?_⟩⟩
    have e3:=Ext.new C n3 (.lst ([V.int 0]++(Wv st x).map V.int))
    have e13:=(e1.trans e2).trans e3
    refine⟨_,rfl,_,rfl,k,st,R,a,x,rfl,hk.ext e13,ha.ext e13,mx,by omega,fun H4 e4=>⟨_,rfl,Bc (fun h3=>?_) (fun h3=>?_)⟩⟩
    ·refine⟨by show 1<=sizeLine;decide,fun p5 n5=>?_⟩
     have e5:=Ext.new C n5 (.lst [V.int 1])
     refine⟨p3,p5,_,_,rfl,rfl,e5.lst (e4.lst Ab),Ab,by show 6<=sizeLine;decide,fun p6 n6=>?_⟩
     exact q.K9 st0 hk ow ((e13.trans e4).trans e5) n6 (by rw[h3];rfl) (by show 6<=20000;decide)
    ·refine⟨by show 1<=sizeLine;decide,fun p5 n5=>?_⟩
     have e5:=Ext.new C n5 (.lst [V.int 0])
     refine⟨p3,p5,_,_,rfl,rfl,e5.lst (e4.lst Ab),Ab,by show 6<=sizeLine;decide,fun p6 n6=>?_⟩
     exact q.K9 st0 hk ow ((e13.trans e4).trans e5) n6 (by rw[h3];rfl) (by show 6<=20000;decide)
def Ac0 (C:Cl):Sp:=fun vs H Q _=>∃k s R gl rl,∃set:List Int,vs=[.ref k,.ref gl]∧Kp C H k s R∧Own H R∧H gl=some (.lst [.ref rl])∧H rl=some (.lst (set.map V.int))∧Ans C H k s R (.history set) Q
theorem K8:Aj ["kept", "given"] ["kept", "given"] (Ag (top 117)):=⟨rfl,rfl,rfl,by decide +kernel,rfl,by decide +kernel,by decide +kernel⟩
theorem Lp {f:Addr}{fd:FuncData}(F:Fun K "answer_history" "answer_history" (top 117) f fd)(T:Txt K mg C)(G_history:Ok P w K mg base "history" 12 ["kept", "wanted"] (Ms K C)):Ay P w K mg base CX0 13 f fd ["kept", "given"] (Ac0 C):=by
 refine F.ok K8 (fun vs H Q E h=>?_) (fun cdv A outer s H vs Q E hr h=>?_)
 ·obtain⟨_,_,_,_,_,_,rfl,_⟩:=h
  rfl
 ·obtain⟨k,st,R,gl,rl,set,rfl,hk,ow,hg,hrl,q⟩:=h
  refine⟨_,(Af (Ai (CG Ed (Ax (Aa Ah Ae)) (Al G_history (hr.mono (by decide)) (Aa (pv 0) (Aa (Aw Ak (pv 1) Ah (fun _ _=>rfl)) Ae)))))),?_⟩
  refine⟨by show 1<=sizeLine;decide,fun p hp=>?_⟩
  have e0:=Ext.new C hp (.lst [V.int 0])
  have st1:Vbnlag.step st (.history set)=(st,0::(Vbnlag.history st set).flatMap fun p=>[p.1,p.2]):=rfl
  exact⟨_,rfl,_,rfl,gl,_,_,_,rfl,rfl,.of (e0.lst hg),rfl,k,st,R,rl,set,rfl,hk.ext e0,.of (e0.lst hrl),fun H1 l e1 n1 hl ln=>⟨p,l,_,_,rfl,rfl,e1.lst Ab,hl,by rw[List.length_map,sizeLine_eq];show 1 + _<=_;omega,fun l2 n2=>q.K9 st1 hk ow (e0.trans e1) n2 rfl (by rw[List.length_cons];omega)⟩⟩
def Ab9 (C:Cl):Sp:=fun vs H Q _=>∃k s R gl d,vs=[.ref k,.ref gl]∧Kp C H k s R∧Own H R∧H gl=some (.lst [.int d])∧Vbnlag.dayOk d=true∧Ans C H k s R (.locked d) Q
theorem Ec:Aj ["kept", "given", "act"] ["kept", "given"] (Ag (top 118)):=⟨rfl,rfl,rfl,by decide +kernel,rfl,by decide +kernel,by decide +kernel⟩
theorem M5 {f:Addr}{fd:FuncData}(F:Fun K "answer_locked" "answer_locked" (top 118) f fd)(T:Txt K mg C)(G_locked_acts:Ok P w K mg base "locked_acts" 8 ["kept", "d"] (HX C)):Ay P w K mg base CX0 9 f fd ["kept", "given"] (Ab9 C):=by
 refine F.ok Ec (fun vs H Q E h=>?_) (fun cdv A outer s H vs Q E hr h=>?_)
 ·obtain⟨_,_,_,_,_,rfl,_⟩:=h
  rfl
 ·obtain⟨k,st,R,gl,d,rfl,hk,ow,hg,hd,q⟩:=h
  refine⟨_,(Af (Ai (CG Ed (Ax (Aa Ah Ae)) (Qv rfl Ec.nd (Bw (Al G_locked_acts (hr.mono (by decide)) (Aa (pv 0) (Aa (Aw Ak (pv 1) Ah (fun _ _=>rfl)) Ae)))) (BJ (own:=[("act",2)]) (by kernel_rfl)) (fun _ _ _ _ _=>(Bk (i:=2) Ec.nd rfl (Or.inl rfl))) (fun _ _ _ _ _=>Ey) (fun _ _ _ _ _=>(pF T.cl (pv 2))))))),?_⟩
  have st1:Vbnlag.step st (.locked d)=(st,0::(Vbnlag.locked st d).map fun x=>x.key):=by unfold Vbnlag.step;dsimp only;rw[if_neg (not_false hd)]
  refine⟨by show 1<=sizeLine;decide,fun p hp=>?_⟩
  have e0:=Ext.new C hp (.lst [V.int 0])
  have ln:=VG hk.wf d
  refine⟨_,rfl,_,rfl,gl,_,_,_,rfl,rfl,.of (e0.lst hg),rfl,k,st,R,d,rfl,hk.ext e0,fun H1 l out e1 n1 hl hm eo=>⟨l,rfl,⟨_,.of hl⟩,fun D hD=>?_⟩⟩
  have e01:=e0.trans e1
  have hk1:=hk.ext e01
  have ol:out.length<=60:=by have:=congrArg List.length eo;rw[List.length_map]at this;omega
  refine EY (C:=C) out (fun p=>V.ref p.1) (fun _=>true) (fun p=>V.int p.2.key) (.of hl) hD (by omega) (fun p hp H' N e hT hF=>?_) (fun H' e hl'=>?_)
  ·exact⟨rfl,Tp ⟨_,rfl,_,_,rfl,((hk1.aa p (hm p hp)).ext e).key T.cl,hT rfl _ (Ext.refl _ _)⟩⟩
  ·rw[filter_all]at hl'
   have hl2:H' D=some (.lst (((Vbnlag.locked st d).map fun x=>x.key).map V.int)):=by rw[hl',← eo,List.map_map,List.map_map];rfl
   refine⟨p,D,_,_,rfl,rfl,(e1.trans e).lst Ab,hl2,by rw[List.length_map,List.length_map,sizeLine_eq];show 1 + _<=_;omega,fun l2 n2=>q.K9 st1 hk ow (e01.trans e) n2 rfl (by rw[List.length_cons,List.length_map];omega)⟩
def Ab8 (C:Cl):Sp:=fun vs H Q _=>∃k s R gl,vs=[.ref k,.ref gl]∧Kp C H k s R∧Own H R∧Ans C H k s R .told Q
theorem Qk:Aj ["kept", "given"] ["kept", "given"] (Ag (top 119)):=⟨rfl,rfl,rfl,by decide +kernel,rfl,by decide +kernel,by decide +kernel⟩
theorem QL {f:Addr}{fd:FuncData}(F:Fun K "answer_told" "answer_told" (top 119) f fd)(T:Txt K mg C)(G_account:Ok P w K mg base "account" 2 ["kept"] (Mu C)):Ay P w K mg base CX0 3 f fd ["kept", "given"] (Ab8 C):=by
 refine F.ok Qk (fun vs H Q E h=>?_) (fun cdv A outer s H vs Q E hr h=>?_)
 ·obtain⟨_,_,_,_,rfl,_⟩:=h
  rfl
 ·obtain⟨k,st,R,gl,rfl,hk,ow,q⟩:=h
  refine⟨_,(Af (Ai (CG Ed (Ax (Aa Ah Ae)) (Al G_account (hr.mono (by decide)) (Aa (pv 0) Ae))))),?_⟩
  refine⟨by show 1<=sizeLine;decide,fun p hp=>?_⟩
  have e0:=Ext.new C hp (.lst [V.int 0])
  have st1:Vbnlag.step st .told=(st,0::Vbnlag.told st):=rfl
  exact⟨_,rfl,k,st,R,rfl,hk.ext e0,fun H1 l e1 n1 hl ln=>⟨p,l,_,_,rfl,rfl,e1.lst Ab,hl,by rw[List.length_map,sizeLine_eq];show 1 + _<=_;omega,fun l2 n2=>q.K9 st1 hk ow (e0.trans e1) n2 rfl (by rw[List.length_cons];omega)⟩⟩
end
end Nm
namespace Nm
open PySem PySem.Spec PyProof.Rows L2
def Aa5 (C:Cl)(H:Hp)(k:Addr)(s:VS)(R:Rep)(c:List (List Int))(Q:VK):Prop:=∀H' R' l,Kp C H' k (VbnlagNeutral.step s c).1 R'->Own H' R'->R.Same R'->Oth C k R H H'->H l=none->H' l=some (.lst ((VbnlagNeutral.step s c).2.map V.int))->(VbnlagNeutral.step s c).2.length<=20000->Q (.ref l) H'
theorem Aa5.to {C:Cl}{H:Hp}{k:Addr}{s:VS}{R:Rep}{c:List (List Int)}{x:Vbnlag.Call}{Q:VK}(a:Aa5 C H k s R c Q)(h:VbnlagNeutral.callOf c=some x):Ans C H k s R x Q:=by
 have e:VbnlagNeutral.step s c=Vbnlag.step s x:=by unfold VbnlagNeutral.step;rw[h]
 unfold Aa5 at a
 rw[e]at a
 exact a
inductive Rows (H:Hp):List Addr->List (List Int)->Prop
 | nil:Rows H [] []
 | cons {r:Addr} {row:List Int} {rs:List Addr} {rows:List (List Int)}:H r=some (.lst (row.map V.int))->Rows H rs rows->Rows H (r::rs) (row::rows)
theorem len0 {α:Type}{l:List α}(h:l.length=0):l=[]:=List.length_eq_zero_iff.mp h
theorem len1 {α:Type}{l:List α}(h:l.length=1):∃a,l=[a]:=by match l,h with | [a],_=>exact⟨a,rfl⟩
theorem len2 {α:Type}{l:List α}(h:l.length=2):∃a b,l=[a,b]:=by match l,h with | [a,b],_=>exact⟨a,b,rfl⟩
theorem Gh {α:Type}{l:List α}(h:l.length=3):∃a b c,l=[a,b,c]:=by match l,h with | [a,b,c],_=>exact⟨a,b,c,rfl⟩
theorem O5 {α:Type}{l:List α}(h:l.length=4):∃a b c d,l=[a,b,c,d]:=by match l,h with | [a,b,c,d],_=>exact⟨a,b,c,d,rfl⟩
theorem Ag9 {α:Type}{l:List α}(h:l.length=5):∃a b c d e,l=[a,b,c,d,e]:=by match l,h with | [a,b,c,d,e],_=>exact⟨a,b,c,d,e,rfl⟩
section
variable {P:Program}{w:World}{K:PySem.W.Frag}{mg:Str->Option Value}{base:Heap}{C:Cl}
structure Form (P:Program)(w:World)(K:PySem.W.Frag)(mg:Str->Option Value)(base:Heap)(C:Cl)(x:Int)(t:Addr):Prop where
 ex:∃(n r:Nat) (day:Bool) (f:Addr) (fd:FuncData) (sp:Sp),(∀H,SqT K H t [.int n,.int r,.bl day,.ref f])∧PyVbnlag.shape x=some (n,r)∧PySem.W.keepIn K (.ref f)=true∧Binds K fd ["kept", "given"] []∧Ay P w K mg base CX0 13 f fd ["kept", "given"] sp ∧
  (∀k s R gl ns rs rows H Q,Kp C H k s R->Own H R->H gl=some (.lst (ns.map V.int++rs.map V.ref))->Rows H rs rows->ns.length=n->rows.length=r->(day=true->Vbnlag.dayOk (ns.headD 0)=true)->Aa5 C H k s R ((x::ns)::rows) Q->sp [.ref k,.ref gl] H Q E0) ∧
  (day=true->1<=n)∧(day=true->∀s ns rows,ns.length=n->rows.length=r->Vbnlag.dayOk (ns.headD 0)=false->VbnlagNeutral.step s ((x::ns)::rows)=(s,[-9]))
theorem Aw8 {t f:Addr}(O:Ok P w K mg base "answer_code" 4 ["kept", "given"] (At9 C))(hm:mg "answer_code" =some (.ref f))(ht:∀H,SqT K H t [.int 5,.int 0,.bl false,.ref f]):Form P w K mg base C 0 t:=by
 obtain⟨g,fd,h1,h2,h3,h4⟩:=O.ex
 rw[hm]at h1
 cases h1
 refine⟨5,0,false,f,fd,_,ht,rfl,h2,h3,h4.mono (by decide),fun k s R gl ns rs rows H Q hk ow hg rw l1 l2 hd q=>?_,(fun z=>nomatch z),(fun z=>nomatch z)⟩
 ·obtain⟨a,b,c,d,e,rfl⟩:=Ag9 l1
  obtain rfl:=len0 l2
  cases rw
  exact⟨k,s,R,gl,a,b,c,d,e,rfl,hk,ow,hg,q.to rfl⟩
theorem Aw7 {t f:Addr}(O:Ok P w K mg base "answer_work" 4 ["kept", "given"] (At8 C))(hm:mg "answer_work" =some (.ref f))(ht:∀H,SqT K H t [.int 3,.int 0,.bl false,.ref f]):Form P w K mg base C 1 t:=by
 obtain⟨g,fd,h1,h2,h3,h4⟩:=O.ex
 rw[hm]at h1
 cases h1
 refine⟨3,0,false,f,fd,_,ht,rfl,h2,h3,h4.mono (by decide),fun k s R gl ns rs rows H Q hk ow hg rw l1 l2 hd q=>?_,(fun z=>nomatch z),(fun z=>nomatch z)⟩
 ·obtain⟨a,b,c,rfl⟩:=Gh l1
  obtain rfl:=len0 l2
  cases rw
  exact⟨k,s,R,gl,a,b,c,rfl,hk,ow,hg,q.to rfl⟩
theorem Aw6 {t f:Addr}(O:Ok P w K mg base "answer_name" 4 ["kept", "given"] (At7 C))(hm:mg "answer_name" =some (.ref f))(ht:∀H,SqT K H t [.int 3,.int 0,.bl false,.ref f]):Form P w K mg base C 2 t:=by
 obtain⟨g,fd,h1,h2,h3,h4⟩:=O.ex
 rw[hm]at h1
 cases h1
 refine⟨3,0,false,f,fd,_,ht,rfl,h2,h3,h4.mono (by decide),fun k s R gl ns rs rows H Q hk ow hg rw l1 l2 hd q=>?_,(fun z=>nomatch z),(fun z=>nomatch z)⟩
 ·obtain⟨a,b,c,rfl⟩:=Gh l1
  obtain rfl:=len0 l2
  cases rw
  exact⟨k,s,R,gl,a,b,c,rfl,hk,ow,hg,q.to rfl⟩
theorem Aw5 {t f:Addr}(O:Ok P w K mg base "answer_use" 4 ["kept", "given"] (At6 C))(hm:mg "answer_use" =some (.ref f))(ht:∀H,SqT K H t [.int 2,.int 0,.bl false,.ref f]):Form P w K mg base C 3 t:=by
 obtain⟨g,fd,h1,h2,h3,h4⟩:=O.ex
 rw[hm]at h1
 cases h1
 refine⟨2,0,false,f,fd,_,ht,rfl,h2,h3,h4.mono (by decide),fun k s R gl ns rs rows H Q hk ow hg rw l1 l2 hd q=>?_,(fun z=>nomatch z),(fun z=>nomatch z)⟩
 ·obtain⟨a,b,rfl⟩:=len2 l1
  obtain rfl:=len0 l2
  cases rw
  exact⟨k,s,R,gl,a,b,rfl,hk,ow,hg,q.to rfl⟩
theorem Aw4 {t f:Addr}(O:Ok P w K mg base "answer_choice" 4 ["kept", "given"] (At5 C))(hm:mg "answer_choice" =some (.ref f))(ht:∀H,SqT K H t [.int 4,.int 0,.bl false,.ref f]):Form P w K mg base C 4 t:=by
 obtain⟨g,fd,h1,h2,h3,h4⟩:=O.ex
 rw[hm]at h1
 cases h1
 refine⟨4,0,false,f,fd,_,ht,rfl,h2,h3,h4.mono (by decide),fun k s R gl ns rs rows H Q hk ow hg rw l1 l2 hd q=>?_,(fun z=>nomatch z),(fun z=>nomatch z)⟩
 ·obtain⟨a,b,c,d,rfl⟩:=O5 l1
  obtain rfl:=len0 l2
  cases rw
  exact⟨k,s,R,gl,a,b,c,d,rfl,hk,ow,hg,q.to rfl⟩
theorem Aw3 {t f:Addr}(O:Ok P w K mg base "answer_reverse" 4 ["kept", "given"] (At4 C))(hm:mg "answer_reverse" =some (.ref f))(ht:∀H,SqT K H t [.int 4,.int 0,.bl false,.ref f]):Form P w K mg base C 5 t:=by
 obtain⟨g,fd,h1,h2,h3,h4⟩:=O.ex
 rw[hm]at h1
 cases h1
 refine⟨4,0,false,f,fd,_,ht,rfl,h2,h3,h4.mono (by decide),fun k s R gl ns rs rows H Q hk ow hg rw l1 l2 hd q=>?_,(fun z=>nomatch z),(fun z=>nomatch z)⟩
 ·obtain⟨a,b,c,d,rfl⟩:=O5 l1
  obtain rfl:=len0 l2
  cases rw
  exact⟨k,s,R,gl,a,b,c,d,rfl,hk,ow,hg,q.to rfl⟩
theorem Aw2 {t f:Addr}(O:Ok P w K mg base "answer_rule" 4 ["kept", "given"] (At3 C))(hm:mg "answer_rule" =some (.ref f))(ht:∀H,SqT K H t [.int 4,.int 0,.bl false,.ref f]):Form P w K mg base C 6 t:=by
 obtain⟨g,fd,h1,h2,h3,h4⟩:=O.ex
 rw[hm]at h1
 cases h1
 refine⟨4,0,false,f,fd,_,ht,rfl,h2,h3,h4.mono (by decide),fun k s R gl ns rs rows H Q hk ow hg rw l1 l2 hd q=>?_,(fun z=>nomatch z),(fun z=>nomatch z)⟩
 ·obtain⟨a,b,c,d,rfl⟩:=O5 l1
  obtain rfl:=len0 l2
  cases rw
  exact⟨k,s,R,gl,a,b,c,d,rfl,hk,ow,hg,q.to rfl⟩
theorem Aw1 {t f:Addr}(O:Ok P w K mg base "answer_aside" 4 ["kept", "given"] (At2 C))(hm:mg "answer_aside" =some (.ref f))(ht:∀H,SqT K H t [.int 3,.int 0,.bl false,.ref f]):Form P w K mg base C 7 t:=by
 obtain⟨g,fd,h1,h2,h3,h4⟩:=O.ex
 rw[hm]at h1
 cases h1
 refine⟨3,0,false,f,fd,_,ht,rfl,h2,h3,h4.mono (by decide),fun k s R gl ns rs rows H Q hk ow hg rw l1 l2 hd q=>?_,(fun z=>nomatch z),(fun z=>nomatch z)⟩
 ·obtain⟨a,b,c,rfl⟩:=Gh l1
  obtain rfl:=len0 l2
  cases rw
  exact⟨k,s,R,gl,a,b,c,rfl,hk,ow,hg,q.to rfl⟩
theorem Aw0 {t f:Addr}(O:Ok P w K mg base "answer_restore" 4 ["kept", "given"] (At1 C))(hm:mg "answer_restore" =some (.ref f))(ht:∀H,SqT K H t [.int 3,.int 0,.bl false,.ref f]):Form P w K mg base C 8 t:=by
 obtain⟨g,fd,h1,h2,h3,h4⟩:=O.ex
 rw[hm]at h1
 cases h1
 refine⟨3,0,false,f,fd,_,ht,rfl,h2,h3,h4.mono (by decide),fun k s R gl ns rs rows H Q hk ow hg rw l1 l2 hd q=>?_,(fun z=>nomatch z),(fun z=>nomatch z)⟩
 ·obtain⟨a,b,c,rfl⟩:=Gh l1
  obtain rfl:=len0 l2
  cases rw
  exact⟨k,s,R,gl,a,b,c,rfl,hk,ow,hg,q.to rfl⟩
theorem Av9 {t f:Addr}(O:Ok P w K mg base "answer_stands" 6 ["kept", "given"] (At0 C))(hm:mg "answer_stands" =some (.ref f))(ht:∀H,SqT K H t [.int 2,.int 0,.bl true,.ref f]):Form P w K mg base C 9 t:=by
 obtain⟨g,fd,h1,h2,h3,h4⟩:=O.ex
 rw[hm]at h1
 cases h1
 refine⟨2,0,true,f,fd,_,ht,rfl,h2,h3,h4.mono (by decide),fun k s R gl ns rs rows H Q hk ow hg rw l1 l2 hd q=>?_,fun _=>by decide,fun _ s ns rows l1 l2 hd=>?_⟩
 ·obtain⟨a,b,rfl⟩:=len2 l1
  obtain rfl:=len0 l2
  cases rw
  exact⟨k,s,R,gl,a,b,rfl,hk,ow,hg,hd rfl,q.to rfl⟩
 ·obtain⟨a,b,rfl⟩:=len2 l1
  obtain rfl:=len0 l2
  have hd:Vbnlag.dayOk a=false:=hd
  show(if Vbnlag.dayOk a=false then _ else _)=_
  rw[if_pos hd]
theorem Ap4 {t f:Addr}(O:Ok P w K mg base "answer_order" 10 ["kept", "given"] (Ac8 C))(hm:mg "answer_order" =some (.ref f))(ht:∀H,SqT K H t [.int 1,.int 0,.bl true,.ref f]):Form P w K mg base C 10 t:=by
 obtain⟨g,fd,h1,h2,h3,h4⟩:=O.ex
 rw[hm]at h1
 cases h1
 refine⟨1,0,true,f,fd,_,ht,rfl,h2,h3,h4.mono (by decide),fun k s R gl ns rs rows H Q hk ow hg rw l1 l2 hd q=>?_,fun _=>by decide,fun _ s ns rows l1 l2 hd=>?_⟩
 ·obtain⟨a,rfl⟩:=len1 l1
  obtain rfl:=len0 l2
  cases rw
  exact⟨k,s,R,gl,a,rfl,hk,ow,hg,hd rfl,q.to rfl⟩
 ·obtain⟨a,rfl⟩:=len1 l1
  obtain rfl:=len0 l2
  have hd:Vbnlag.dayOk a=false:=hd
  show(if Vbnlag.dayOk a=false then _ else _)=_
  rw[if_pos hd]
theorem Ap3 {t f:Addr}(O:Ok P w K mg base "answer_first" 12 ["kept", "given"] (Ac7 C))(hm:mg "answer_first" =some (.ref f))(ht:∀H,SqT K H t [.int 1,.int 1,.bl true,.ref f]):Form P w K mg base C 11 t:=by
 obtain⟨g,fd,h1,h2,h3,h4⟩:=O.ex
 rw[hm]at h1
 cases h1
 refine⟨1,1,true,f,fd,_,ht,rfl,h2,h3,h4.mono (by decide),fun k s R gl ns rs rows H Q hk ow hg rw l1 l2 hd q=>?_,fun _=>by decide,fun _ s ns rows l1 l2 hd=>?_⟩
 ·obtain⟨a,rfl⟩:=len1 l1
  obtain⟨r1,rfl⟩:=len1 l2
  cases rw with
  | cons x1 w1 =>
  cases w1
  exact⟨k,s,R,gl,a,_,r1,rfl,hk,ow,hg,x1,hd rfl,q.to rfl⟩
 ·obtain⟨a,rfl⟩:=len1 l1
  obtain⟨r1,rfl⟩:=len1 l2
  have hd:Vbnlag.dayOk a=false:=hd
  show(if Vbnlag.dayOk a=false then _ else _)=_
  rw[if_pos hd]
theorem Ap2 {t f:Addr}(O:Ok P w K mg base "answer_why" 11 ["kept", "given"] (Ac6 C))(hm:mg "answer_why" =some (.ref f))(ht:∀H,SqT K H t [.int 1,.int 1,.bl true,.ref f]):Form P w K mg base C 12 t:=by
 obtain⟨g,fd,h1,h2,h3,h4⟩:=O.ex
 rw[hm]at h1
 cases h1
 refine⟨1,1,true,f,fd,_,ht,rfl,h2,h3,h4.mono (by decide),fun k s R gl ns rs rows H Q hk ow hg rw l1 l2 hd q=>?_,fun _=>by decide,fun _ s ns rows l1 l2 hd=>?_⟩
 ·obtain⟨a,rfl⟩:=len1 l1
  obtain⟨r1,rfl⟩:=len1 l2
  cases rw with
  | cons x1 w1 =>
  cases w1
  exact⟨k,s,R,gl,a,_,r1,rfl,hk,ow,hg,x1,hd rfl,q.to rfl⟩
 ·obtain⟨a,rfl⟩:=len1 l1
  obtain⟨r1,rfl⟩:=len1 l2
  have hd:Vbnlag.dayOk a=false:=hd
  show(if Vbnlag.dayOk a=false then _ else _)=_
  rw[if_pos hd]
theorem Ap1 {t f:Addr}(O:Ok P w K mg base "answer_check" 11 ["kept", "given"] (Ac5 C))(hm:mg "answer_check" =some (.ref f))(ht:∀H,SqT K H t [.int 1,.int 2,.bl true,.ref f]):Form P w K mg base C 13 t:=by
 obtain⟨g,fd,h1,h2,h3,h4⟩:=O.ex
 rw[hm]at h1
 cases h1
 refine⟨1,2,true,f,fd,_,ht,rfl,h2,h3,h4.mono (by decide),fun k s R gl ns rs rows H Q hk ow hg rw l1 l2 hd q=>?_,fun _=>by decide,fun _ s ns rows l1 l2 hd=>?_⟩
 ·obtain⟨a,rfl⟩:=len1 l1
  obtain⟨r1,r2,rfl⟩:=len2 l2
  cases rw with
  | cons x1 w1 =>
  cases w1 with
  | cons x2 w2 =>
  cases w2
  exact⟨k,s,R,gl,a,_,_,r1,r2,rfl,hk,ow,hg,x1,x2,hd rfl,q.to rfl⟩
 ·obtain⟨a,rfl⟩:=len1 l1
  obtain⟨r1,r2,rfl⟩:=len2 l2
  have hd:Vbnlag.dayOk a=false:=hd
  show(if Vbnlag.dayOk a=false then _ else _)=_
  rw[if_pos hd]
theorem Ap0 {t f:Addr}(O:Ok P w K mg base "answer_before" 11 ["kept", "given"] (Ac4 C))(hm:mg "answer_before" =some (.ref f))(ht:∀H,SqT K H t [.int 3,.int 0,.bl true,.ref f]):Form P w K mg base C 14 t:=by
 obtain⟨g,fd,h1,h2,h3,h4⟩:=O.ex
 rw[hm]at h1
 cases h1
 refine⟨3,0,true,f,fd,_,ht,rfl,h2,h3,h4.mono (by decide),fun k s R gl ns rs rows H Q hk ow hg rw l1 l2 hd q=>?_,fun _=>by decide,fun _ s ns rows l1 l2 hd=>?_⟩
 ·obtain⟨a,b,c,rfl⟩:=Gh l1
  obtain rfl:=len0 l2
  cases rw
  exact⟨k,s,R,gl,a,b,c,rfl,hk,ow,hg,hd rfl,q.to rfl⟩
 ·obtain⟨a,b,c,rfl⟩:=Gh l1
  obtain rfl:=len0 l2
  have hd:Vbnlag.dayOk a=false:=hd
  show(if Vbnlag.dayOk a=false then _ else _)=_
  rw[if_pos hd]
theorem Ao9 {t f:Addr}(O:Ok P w K mg base "answer_fate" 11 ["kept", "given"] (Ac3 C))(hm:mg "answer_fate" =some (.ref f))(ht:∀H,SqT K H t [.int 2,.int 0,.bl true,.ref f]):Form P w K mg base C 15 t:=by
 obtain⟨g,fd,h1,h2,h3,h4⟩:=O.ex
 rw[hm]at h1
 cases h1
 refine⟨2,0,true,f,fd,_,ht,rfl,h2,h3,h4.mono (by decide),fun k s R gl ns rs rows H Q hk ow hg rw l1 l2 hd q=>?_,fun _=>by decide,fun _ s ns rows l1 l2 hd=>?_⟩
 ·obtain⟨a,b,rfl⟩:=len2 l1
  obtain rfl:=len0 l2
  cases rw
  exact⟨k,s,R,gl,a,b,rfl,hk,ow,hg,hd rfl,q.to rfl⟩
 ·obtain⟨a,b,rfl⟩:=len2 l1
  obtain rfl:=len0 l2
  have hd:Vbnlag.dayOk a=false:=hd
  show(if Vbnlag.dayOk a=false then _ else _)=_
  rw[if_pos hd]
theorem Ao8 {t f:Addr}(O:Ok P w K mg base "answer_ring" 11 ["kept", "given"] (Ac2 C))(hm:mg "answer_ring" =some (.ref f))(ht:∀H,SqT K H t [.int 2,.int 0,.bl true,.ref f]):Form P w K mg base C 16 t:=by
 obtain⟨g,fd,h1,h2,h3,h4⟩:=O.ex
 rw[hm]at h1
 cases h1
 refine⟨2,0,true,f,fd,_,ht,rfl,h2,h3,h4.mono (by decide),fun k s R gl ns rs rows H Q hk ow hg rw l1 l2 hd q=>?_,fun _=>by decide,fun _ s ns rows l1 l2 hd=>?_⟩
 ·obtain⟨a,b,rfl⟩:=len2 l1
  obtain rfl:=len0 l2
  cases rw
  exact⟨k,s,R,gl,a,b,rfl,hk,ow,hg,hd rfl,q.to rfl⟩
 ·obtain⟨a,b,rfl⟩:=len2 l1
  obtain rfl:=len0 l2
  have hd:Vbnlag.dayOk a=false:=hd
  show(if Vbnlag.dayOk a=false then _ else _)=_
  rw[if_pos hd]
theorem Ao7 {t f:Addr}(O:Ok P w K mg base "answer_tally" 4 ["kept", "given"] (Ac1 C))(hm:mg "answer_tally" =some (.ref f))(ht:∀H,SqT K H t [.int 1,.int 0,.bl false,.ref f]):Form P w K mg base C 17 t:=by
 obtain⟨g,fd,h1,h2,h3,h4⟩:=O.ex
 rw[hm]at h1
 cases h1
 refine⟨1,0,false,f,fd,_,ht,rfl,h2,h3,h4.mono (by decide),fun k s R gl ns rs rows H Q hk ow hg rw l1 l2 hd q=>?_,(fun z=>nomatch z),(fun z=>nomatch z)⟩
 ·obtain⟨a,rfl⟩:=len1 l1
  obtain rfl:=len0 l2
  cases rw
  exact⟨k,s,R,gl,a,rfl,hk,ow,hg,q.to rfl⟩
theorem Ao6 {t f:Addr}(O:Ok P w K mg base "answer_history" 13 ["kept", "given"] (Ac0 C))(hm:mg "answer_history" =some (.ref f))(ht:∀H,SqT K H t [.int 0,.int 1,.bl false,.ref f]):Form P w K mg base C 18 t:=by
 obtain⟨g,fd,h1,h2,h3,h4⟩:=O.ex
 rw[hm]at h1
 cases h1
 refine⟨0,1,false,f,fd,_,ht,rfl,h2,h3,h4.mono (by decide),fun k s R gl ns rs rows H Q hk ow hg rw l1 l2 hd q=>?_,(fun z=>nomatch z),(fun z=>nomatch z)⟩
 ·obtain rfl:=len0 l1
  obtain⟨r1,rfl⟩:=len1 l2
  cases rw with
  | cons x1 w1 =>
  cases w1
  exact⟨k,s,R,gl,_,r1,rfl,hk,ow,hg,x1,q.to rfl⟩
theorem Ao5 {t f:Addr}(O:Ok P w K mg base "answer_locked" 9 ["kept", "given"] (Ab9 C))(hm:mg "answer_locked" =some (.ref f))(ht:∀H,SqT K H t [.int 1,.int 0,.bl true,.ref f]):Form P w K mg base C 19 t:=by
 obtain⟨g,fd,h1,h2,h3,h4⟩:=O.ex
 rw[hm]at h1
 cases h1
 refine⟨1,0,true,f,fd,_,ht,rfl,h2,h3,h4.mono (by decide),fun k s R gl ns rs rows H Q hk ow hg rw l1 l2 hd q=>?_,fun _=>by decide,fun _ s ns rows l1 l2 hd=>?_⟩
 ·obtain⟨a,rfl⟩:=len1 l1
  obtain rfl:=len0 l2
  cases rw
  exact⟨k,s,R,gl,a,rfl,hk,ow,hg,hd rfl,q.to rfl⟩
 ·obtain⟨a,rfl⟩:=len1 l1
  obtain rfl:=len0 l2
  have hd:Vbnlag.dayOk a=false:=hd
  show(if Vbnlag.dayOk a=false then _ else _)=_
  rw[if_pos hd]
theorem Ao4 {t f:Addr}(O:Ok P w K mg base "answer_told" 3 ["kept", "given"] (Ab8 C))(hm:mg "answer_told" =some (.ref f))(ht:∀H,SqT K H t [.int 0,.int 0,.bl false,.ref f]):Form P w K mg base C 20 t:=by
 obtain⟨g,fd,h1,h2,h3,h4⟩:=O.ex
 rw[hm]at h1
 cases h1
 refine⟨0,0,false,f,fd,_,ht,rfl,h2,h3,h4.mono (by decide),fun k s R gl ns rs rows H Q hk ow hg rw l1 l2 hd q=>?_,(fun z=>nomatch z),(fun z=>nomatch z)⟩
 ·obtain rfl:=len0 l1
  obtain rfl:=len0 l2
  cases rw
  exact⟨k,s,R,gl,rfl,hk,ow,q.to rfl⟩
structure Rv (P:Program)(w:World)(K:PySem.W.Frag)(mg:Str->Option Value)(base:Heap)(C:Cl)(ct:Addr)(ts:List Addr):Prop where
 glob:mg "CALLS" =some (.ref ct)
 at_:∀H,SqT K H ct (ts.map V.ref)
 len:ts.length=21
 form:∀(i:Nat) (h:i < ts.length),Form P w K mg base C i ts[i]
theorem Rv.get {ct:Addr}{ts:List Addr}(c:Rv P w K mg base C ct ts){x:Int}{n r:Nat}(h:PyVbnlag.shape x=some (n,r)):∃t,atI (ts.map V.ref) x=some (.ref t)∧Form P w K mg base C x t:=by
 obtain⟨h0,h1⟩:=W8 h
 obtain⟨i,rfl⟩:∃i:Nat,x=i:=⟨x.toNat,by omega⟩
 have hi:i < ts.length:=by rw[c.len];omega
 exact⟨ts[i],Jr (by rw[List.getElem?_map,List.getElem?_eq_getElem hi];rfl),c.form i hi⟩
def Ab7 (C:Cl):Sp:=fun vs H Q _=>∃k s R x gl ns rs rows,vs=[.ref k,.int x,.ref gl]∧Kp C H k s R∧Own H R∧H gl=some (.lst (ns.map V.int++rs.map V.ref))∧Rows H rs rows∧PyVbnlag.shape x=some (ns.length,rows.length)∧Aa5 C H k s R ((x::ns)::rows) Q
theorem Gw:Aj ["kept", "number", "given", "form", "answerer"] ["kept", "number", "given"] (Ag (top 121)):=⟨rfl,rfl,rfl,by decide +kernel,rfl,by decide +kernel,by decide +kernel⟩
theorem RM {f ct:Addr}{ts:List Addr}{fd:FuncData}(F:Fun K "answer_one" "answer_one" (top 121) f fd)(T:Txt K mg C)(ca:Rv P w K mg base C ct ts)(G_is_day:Ok P w K mg base "is_day" 1 ["number"] (Ci Vbnlag.dayOk)):Ay P w K mg base CX0 14 f fd ["kept", "number", "given"] (Ab7 C):=by
 refine F.ok Gw (fun vs H Q E h=>?_) (fun cdv A outer s H vs Q E hr h=>?_)
 ·obtain⟨_,_,_,_,_,_,_,_,rfl,_⟩:=h
  rfl
 ·obtain⟨k,st,R,x,gl,ns,rs,rows,rfl,hk,ow,hg,rw,hs,q⟩:=h
  refine⟨_,(Ad (Am (i:=3) Gw.nd rfl (Or.inl rfl) (Aw Kl (Pq (v:= .ref ct) rfl ca.glob rfl) (pv 1) (fun _ _=>rfl)))
   (Ad (Bl (PW.pt (Fx (BW (Aw Kl (pv 3) Ah (fun _ _=>rfl))) (En (Df (BW (Al G_is_day (hr.mono (by decide)) (Aa (Aw Ak (pv 2) Ah (fun _ _=>rfl)) Ae))))))) (Af (Ai (Ax (Aa (pk T.DK) Ae)))) Aq)
   (Ad (Am (i:=4) Gw.nd rfl (Or.inl rfl) (Aw Kl (pv 3) Ah (fun _ _=>rfl)))
   (Af (Ai (Au7 (i:=4) (pv 4) hr (Aa (pv 0) (Aa (pv 2) Ae)))))))),?_⟩
  obtain⟨t,ht,fo⟩:=ca.get hs
  obtain⟨n,r,day,g,gd,sp,f1,f2,f3,f4,f5,f6,f7,f8⟩:=fo.ex
  rw[hs]at f2
  obtain⟨e1,e2⟩:=Prod.mk.inj (Option.some.inj f2)
  have go:(day=true->Vbnlag.dayOk (ns.headD 0)=true)->sp [.ref k,.ref gl] H Q E0:=fun hd=>f6 k st R gl ns rs rows H Q hk ow hg rw e1 e2 hd q
  refine⟨_,rfl,ct,_,x,.ref t,rfl,rfl,ca.at_ H,ht,_,rfl,t,_,_,_,rfl,rfl,f1 H,rfl,_,rfl,Bc (fun h1=>?_) (fun h1=>?_)⟩
  ·obtain⟨d,ns',rfl⟩:∃d ns',ns=d::ns':=by
    cases ns with
    | nil=>have:=f7 h1;rw[← e1]at this;exact absurd this (by decide)
    | cons d ns'=>exact⟨d,ns',rfl⟩
   refine⟨_,rfl,gl,_,_,V.int d,rfl,rfl,.of hg,Jr (j:=0) rfl,d,rfl,_,rfl,Bc (fun h2=>?_) (fun h2=>?_)⟩
   ·have h2:Vbnlag.dayOk d=false:=by simpa using h2
    have st1:=f8 h1 st (d::ns') rows e1 e2 h2
    unfold Aa5 at q
    rw[st1]at q
    refine⟨by show 1<=sizeLine;decide,fun l hl=>?_⟩
    have e:=Ext.new C hl (.lst [V.int (-9)])
    exact q _ R l (hk.ext e) (ow.ext e) (Rep.Same.refl R) e.oth hl Ab (by show 1<=20000;decide)
   ·have h2:Vbnlag.dayOk d=true:=by simpa using h2
    exact⟨_,rfl,t,_,_,_,rfl,rfl,f1 H,rfl,g,gd,_,sp,rfl,f3,f4,f5,_,rfl,_,rfl,go fun _=>h2⟩
  ·exact⟨_,rfl,t,_,_,_,rfl,rfl,f1 H,rfl,g,gd,_,sp,rfl,f3,f4,f5,_,rfl,_,rfl,go fun z=>by rw[z]at h1;cases h1⟩
end
end Nm
namespace Nm
open PySem PySem.Spec PyProof.Rows L2
theorem Rows.ext {C:Cl}{H H':Hp}(e:Ext C H H'):∀{rs rows},Rows H rs rows->Rows H' rs rows
 | _,_,.nil=> .nil
 | _,_,.cons h t=> .cons (e.lst h) (Rows.ext e t)
theorem Rows.upd {H:Hp}{g:Addr}{o:HO}:∀{rs rows},Rows H rs rows->g∉rs->Rows (L2.upd H g o) rs rows
 | _,_,.nil,_=> .nil
 | _,_,.cons h t,n=> .cons (by rw[Ac (fun z=>n (by rw[← z];exact List.mem_cons_self))];exact h) (Rows.upd t fun m=>n (List.mem_cons_of_mem _ m))
theorem Rows.snoc {H:Hp}{q:Addr}{row:List Int}(h:H q=some (.lst (row.map V.int))):∀{rs rows},Rows H rs rows->Rows H (rs++[q]) (rows++[row])
 | _,_,.nil=> .cons h .nil
 | _,_,.cons h' t=> .cons h' (Rows.snoc h t)
theorem Rows.len {H:Hp}:∀{rs rows},Rows H rs rows->rs.length=rows.length
 | _,_,.nil=>rfl
 | _,_,.cons _ t=>by rw[List.length_cons,List.length_cons,Rows.len t]
theorem ite_small {x a:Int}{p:Nat×Nat}{o:Option (Nat×Nat)}(hp:p.1<=5∧p.2<=2)(ho:∀q,o=some q->q.1<=5∧q.2<=2):∀q,(if x=a then some p else o)=some q->q.1<=5∧q.2<=2:=by
 intro q h
 by_cases e:x=a
 ·rw[if_pos e]at h
  cases h
  exact hp
 ·rw[if_neg e]at h
  exact ho q h
theorem Ny {x:Int}{n k:Nat}(h:PyVbnlag.shape x=some (n,k)):n<=5∧k<=2:=by
 unfold PyVbnlag.shape at h
 refine(?_:∀q,_=some q->q.1<=5∧q.2<=2) (n,k) h
 iterate 21 refine ite_small (by decide) ?_
 exact fun q h=>nomatch h
theorem V8 {l:List Int}{a n:Nat}(h:a + n<=l.length):RP (l.map V.int) (some (a:Int)) (some ((a:Int) + n))=((l.drop a).take n).map V.int:=by
 unfold RP
 have e1:HT.sIx (l.map V.int).length 0 (some (a:Int))=a:=by
  show(if (a:Int) < 0 then((a:Int) + ((l.map V.int).length:Int)).toNat else min (a:Int).toNat (l.map V.int).length)=a
  rw[if_neg (by omega),List.length_map]
  omega
 have e2:HT.sIx (l.map V.int).length (l.map V.int).length (some ((a:Int) + n))=a + n:=by
  show(if (a:Int) + n < 0 then((a:Int) + n + ((l.map V.int).length:Int)).toNat else min ((a:Int) + n).toNat (l.map V.int).length)=a + n
  rw[if_neg (by omega),List.length_map]
  omega
 rw[e1,e2,List.map_take,List.map_drop]
 congr 1
 omega
theorem Ext.Af3 {C:Cl}{H0 H1 H2:Hp}{k:Addr}{R:Rep}(e:Ext C H0 H1)(o:Oth C k R H1 H2)(f:∀b∈[k,R.w,R.n,R.u,R.a],H0 b=none):Ext C H0 H2:=by
 refine⟨fun b v h=>?_,fun t=>o.tab (e.tab t)⟩
 have n:b∉[k,R.w,R.n,R.u,R.a]:=fun m=>by rw[f b m]at h;cases h
 rcases e.keep b v h with q | ⟨ps,ps',rfl,q⟩
 ·exact o.keep b v q n
 ·rcases o.keep b _ q n with z | ⟨_,ps2,_,z⟩
  ·exact .inr ⟨ps,ps',rfl,z⟩
  ·exact .inr ⟨ps,ps2,rfl,z⟩
section
variable {C:Cl}{H:Hp}{k:Addr}{s:VS}{R:Rep}{an:Addr}{xs:List V}{o:HO}
theorem Kp.Qg (hk:Kp C H k s R)(h:H an=some (.lst xs)):Kp C (upd H an o) k s R:=by
 have ins:∀{b c dx fs},H b=some (.ins c dx fs)->upd H an o b=some (.ins c dx fs):=fun q=>by
  rw[Ac (fun z=>by rw[z,h]at q;cases q)]
  exact q
 have rd:∀{b u},Rd H b u->(∀ys,u≠ .lst ys)->Rd (upd H an o) b u:=fun q n=>by
  rcases q with q | ⟨ob,q⟩
  ·exact .inl (by rw[Ac (fun z=>by rw[z,h]at q;cases q;exact n _ rfl)];exact q)
  ·exact .inr ⟨ob,by rw[Ac (fun z=>by rw[z,h]at q;cases q)];exact q⟩
 refine⟨hk.wf,ins hk.kp,let ⟨d,q⟩:=hk.cd;⟨d,ins q⟩,rd hk.wk (fun _ z=>nomatch z),fun p hp=>let ⟨d,q⟩:=hk.wa p hp;⟨d,ins q⟩,hk.wp,rd hk.nk (fun _ z=>nomatch z),fun p hp=>let ⟨d,q⟩:=hk.na p hp;⟨d,ins q⟩,hk.np,rd hk.uk (fun _ z=>nomatch z),hk.up,rd hk.ak (fun _ z=>nomatch z),fun p hp=>let ⟨d,q⟩:=hk.aa p hp;⟨d,ins q⟩,hk.ap,fun t ht=>(hk.tb t ht).at_ fun b v q w=>?_⟩
 rw[Ac]
 ·exact q
 ·rintro rfl
  rw[h]at q
  cases q
  rcases w with⟨_,w⟩ | ⟨_,w⟩ <;>cases w
theorem Own.Qg (ow:Own H R)(h:H an=some (.lst xs)):Own (upd H an o) R:=by
 refine⟨?_,?_,?_,?_,ow.wn,ow.wa,ow.na⟩
 ·rw[Ac (fun z=>by have:=ow.w;rw[z,h]at this;cases this)];exact ow.w
 ·rw[Ac (fun z=>by have:=ow.n;rw[z,h]at this;cases this)];exact ow.n
 ·rw[Ac (fun z=>by have:=ow.u;rw[z,h]at this;cases this)];exact ow.u
 ·rw[Ac (fun z=>by have:=ow.a;rw[z,h]at this;cases this)];exact ow.a
end
section
variable {P:Program}{w:World}{K:PySem.W.Frag}{mg:Str->Option Value}{base:Heap}{C:Cl}
def Mt (K:PySem.W.Frag)(C:Cl):Sp:=fun vs H Q _=>∃a,∃l:List Int,∃cs,vs=[.ref a]∧SqL K H a (l.map V.int)∧Jx C H∧PyFlat.calls PyVbnlag.shape l.length l=some cs∧cs.length<=400∧∀H' r,Ext C H H'->H r=none->H' r=some (.lst ((PyFlat.told (PyFlat.played VbnlagNeutral.step VbnlagNeutral.start cs)).map V.int))->Q (.ref r) H'
theorem Bv:Aj ["calls", "kept", "answered", "place", "number", "start", "given", "row", "answer"] ["calls"] (Ag (top 122)):=⟨rfl,rfl,rfl,by decide +kernel,rfl,by decide +kernel,by decide +kernel⟩
theorem Xh {f ct:Addr}{ts:List Addr}{fd:FuncData}(F:Fun K "answers" "answers" (top 122) f fd)(T:Txt K mg C)(ca:Rv P w K mg base C ct ts)(M_Kept:OkC P w K mg base "Kept" C.kept 3 ["self"] (JW C))(G_answer_one:Ok P w K mg base "answer_one" 14 ["kept", "number", "given"] (Ab7 C)):Ay P w K mg base CX0 15 f fd ["calls"] (Mt K C):=by
 refine F.ok Bv (fun vs H Q E h=>?_) (fun cdv A outer s H vs Q E hr h=>?_)
 ·obtain⟨_,_,_,rfl,_⟩:=h
  rfl
 ·obtain⟨a,l,cs,rfl,hl,tb,hcs,ncs,q⟩:=h
  refine⟨_,(Ad (Am (i:=1) Bv.nd rfl (Or.inl rfl) (Au3 M_Kept (hr.mono (by decide))))
   (Ad (Am (i:=2) Bv.nd rfl (Or.inl rfl) (Ax Ae))
   (Ad (Am (i:=3) Bv.nd rfl (Or.inl rfl) Ah)
   (Ad (GJ PassesOwn.never (Ar Ys (pv 3) (Bd Bo (by rfl) T.len PySem.boot_len (Aa (pv 0) Ae)) (Ba _)) (Ad (Am (i:=4) Bv.nd rfl (Or.inl rfl) (Aw Ak (pv 0) (pv 3) (fun _ _=>rfl)))
   (Ad (Am (i:=5) Bv.nd rfl (Or.inl rfl) (CG Ip (pv 3) Ah))
   (Ad (Am (i:=3) Bv.nd rfl (Or.inl rfl) (CG Ip (pv 5) (Aw Kl (Aw Kl (Pq (v:= .ref ct) rfl ca.glob rfl) (pv 4) (fun _ _=>rfl)) Ah (fun _ _=>rfl))))
   (Ad (Am (i:=6) Bv.nd rfl (Or.inl rfl) (Qu T8 (pv 0) (Le (pv 5)) (Le (pv 3))))
   (Ad (Fz PassesOwn.never rfl (Zo rfl T.range (Aa (Aw Kl (Aw Kl (Pq (v:= .ref ct) rfl ca.glob rfl) (pv 4) (fun _ _=>rfl)) Ah (fun _ _=>rfl)) Ae)) (Bk (i:=7) Bv.nd rfl (Or.inl rfl)) (Ad (Am (i:=5) Bv.nd rfl (Or.inl rfl) (CG Ip (pv 3) Ah))
   (Ad (Am (i:=3) Bv.nd rfl (Or.inl rfl) (CG Ip (pv 5) (Aw Ak (pv 0) (pv 3) (fun _ _=>rfl))))
   (Af (Ca (Dj PySem.F.plainAttrs_list PySem.F.slot_list_append PySem.F.type_list_append Cv (pv 6) (Aa (Qu T8 (pv 0) (Le (pv 5)) (Le (pv 3))) Ae)))))))
   (Ad (Am (i:=8) Bv.nd rfl (Or.inl rfl) (Al G_answer_one (hr.mono (by decide)) (Aa (pv 1) (Aa (pv 4) (Aa (pv 6) Ae)))))
   (Ad (Ca (Dj PySem.F.plainAttrs_list PySem.F.slot_list_append PySem.F.type_list_append Cv (pv 2) (Aa (Bd Bo (by rfl) T.len PySem.boot_len (Aa (pv 8) Ae)) Ae)))
   (Af (Ca (Dj PySem.F.plainAttrs_list PySem.F.slot_list_extend PySem.F.type_list_extend Fg (pv 2) (Aa (pv 8) Ae))))))))))))
   (Af (Ai (pv 2))))))),?_⟩
  intro k dk nk ndk nek
  have tb1:Jx C (upd (upd H dk (.own k)) k (.ins C.kept dk [])):=fun t ht=>(tb t ht).at_ fun b o h _=>by
   rw[Ac (fun z=>by rw[z,nk]at h;cases h),Ac (fun z=>by rw[z,ndk]at h;cases h)]
   exact h
  refine⟨k,dk,rfl,Ab,tb1,fun H1 R hk ow kp fr=>⟨rfl,?_⟩⟩
  have keep1:∀b o,H b=some o->H1 b=some o:=fun b o h=>by
   have n1:b≠k:=fun z=>by rw[z,nk]at h;cases h
   refine kp b o n1 ?_
   rw[Ac n1,Ac (fun z=>by rw[z,ndk]at h;cases h)]
   exact h
  have e1:Ext C H H1:=Ext.M8 keep1
  have fresh:∀b∈[k,R.w,R.n,R.u,R.a],H b=none:=fun b hb=>by
   rcases List.mem_cons.mp hb with rfl | hb
   ·exact nk
   ·exact CP (CP (fr b hb))
  refine⟨by show 0<=sizeLine;decide,fun an han=>?_⟩
  have n_an:H an=none:=e1.free han
  have e2:Ext C H (upd H1 an (.lst [])):=e1.lay han _
  have hk2:=hk.ext (Ext.new C han (.lst []))
  have ow2:=ow.ext (Ext.new C han (.lst []))
  have han2:upd H1 an (.lst []) an=some (.lst (([]:List Int).map V.int)):=Ab
  generalize upd H1 an (.lst [])=H2 at e2 hk2 ow2 han2 ⊢
  generalize htot:PyFlat.told (PyFlat.played VbnlagNeutral.step VbnlagNeutral.start cs)=tot at q
  refine⟨fun m σ H3=>∃(pl:Nat) (s:VS) (R:Rep) (out:List Int) (cs':List (List (List Int))) (fu:Nat) (v4 v5 v6 v7 v8:Option V),σ=[some (.ref a),some (.ref k),some (.ref an),some (.int pl),v4,v5,v6,v7,v8]∧Ext C H H3∧Kp C H3 k s R∧Own H3 R∧(∀b∈[k,R.w,R.n,R.u,R.a],H b=none)∧H3 an=some (.lst (out.map V.int))∧PyFlat.calls PyVbnlag.shape fu (l.drop pl)=some cs'∧out++PyFlat.told (PyFlat.played VbnlagNeutral.step s cs')=tot∧out.length + 20001 * cs'.length<=20001 * 400∧pl<=l.length∧m=cs'.length,
   ⟨_,0,_,R,[],cs,l.length,none,none,none,none,none,rfl,e2,hk2,ow2,fresh,han2,hcs,htot,by simp only[List.length_nil];omega,Nat.zero_le _,rfl⟩,?_⟩
  rintro m σ H3 ⟨pl,st,R,out,cs',fu,v4,v5,v6,v7,v8,rfl,e3,hk3,ow3,fr3,han3,hc3,ht3,ln3,pl3,rfl⟩
  refine⟨_,rfl,_,rfl,a,_,rfl,.inl (e3.Dn hl),_,_,rfl,rfl,_,rfl,Bc (fun h1=>?_) (fun h1=>?_)⟩
  ·have h1:pl < l.length:=by
    have:=of_decide_eq_true h1
    rw[List.length_map]at this
    omega
   rcases Aa0 hc3 with⟨z,_⟩ | ⟨c,t,cs2,f2,c1,c2,rfl⟩
   ·have:=congrArg List.length z
    rw[List.length_drop,List.length_nil]at this
    omega
   obtain⟨x,r,n,kk,xs,i1,i2,i3,i4,rfl⟩:=call_inv c1
   have hx:l[pl]?=some x:=by
    have:=congrArg (fun l=>l[0]?) i1
    simpa using this
   have er:l.drop (pl + 1)=r:=by
    have:=congrArg List.tail i1
    rw[List.tail_drop]at this
    simpa using this
   have rl:r.length=l.length - (pl + 1):=by rw[← er,List.length_drop]
   refine⟨fun σ' H'=>∃(pl:Nat) (s:VS) (R:Rep) (out:List Int) (fu:Nat) (v4 v5 v6 v7 v8:Option V),σ'=[some (.ref a),some (.ref k),some (.ref an),some (.int pl),v4,v5,v6,v7,v8]∧Ext C H H'∧Kp C H' k s R∧Own H' R∧(∀b∈[k,R.w,R.n,R.u,R.a],H b=none)∧H' an=some (.lst (out.map V.int))∧PyFlat.calls PyVbnlag.shape fu (l.drop pl)=some cs2∧out++PyFlat.told (PyFlat.played VbnlagNeutral.step s cs2)=tot∧out.length + 20001 * cs2.length<=20001 * 400∧pl<=l.length,
    fun σ' H' ⟨pl,s,R,out,fu,v4,v5,v6,v7,v8,b1,b2,b3,b4,b5,b6,b7,b8,b9,b10⟩=>⟨cs2.length,by rw[List.length_cons];omega,pl,s,R,out,cs2,fu,v4,v5,v6,v7,v8,b1,b2,b3,b4,b5,b6,b7,b8,b9,b10,rfl⟩,?_⟩
   obtain⟨tt,htt,fo⟩:=ca.get i2
   obtain⟨n',kk',day,g,gd,sp,g1,g2,_⟩:=fo.ex
   rw[i2]at g2
   obtain⟨rfl,rfl⟩:=Prod.mk.inj (Option.some.inj g2)
   refine⟨_,rfl,_,rfl,a,_,_,V.int x,rfl,rfl,e3.Dn hl,Jr (by rw[List.getElem?_map,hx];rfl),?_⟩
   refine⟨_,rfl,_,_,rfl,rfl,_,rfl,_,rfl,ct,_,x,.ref tt,rfl,rfl,ca.at_ H3,htt,tt,_,_,_,rfl,rfl,g1 H3,rfl,_,_,rfl,rfl,?_⟩
   refine⟨_,rfl,_,rfl,_,rfl,_,rfl,_,rfl,a,_,rfl,e3.Dn hl,fun gl hgl=>?_⟩
   have ecut:RP (l.map V.int) (some ((pl:Int) + 1)) (some ((pl:Int) + 1 + n))=(r.take n).map V.int:=by
    have:=V8 (l:=l) (a:=pl + 1) (n:=n) (by omega)
    rw[er]at this
    rw[← this]
    congr 1
   dsimp only
   rw[ecut]
   have n_gl:H gl=none:=e3.free hgl
   have e4:Ext C H3 (upd H3 gl (.lst ((r.take n).map V.int))):=Ext.new C hgl _
   have hg4:upd H3 gl (.lst ((r.take n).map V.int)) gl=some (.lst ((r.take n).map V.int++([]:List Addr).map V.ref)):=by rw[Ab];simp
   generalize upd H3 gl (.lst ((r.take n).map V.int))=H4 at e4 hg4 ⊢
   have kk2:kk<=2:=(Ny i2).2
   refine⟨_,rfl,ct,_,x,.ref tt,rfl,rfl,ca.at_ H4,htt,tt,_,_,_,rfl,rfl,g1 H4,rfl,(kk:Int),rfl,by omega,by omega,?_⟩
   refine Dy (J:=Itr 0 ((kk:Int)).toNat) (n:=kk) (fun i σ H5=>∃(pi:Nat) (rs:List Addr) (done rest:List (List Int)) (w5 w7:Option V),σ=[some (.ref a),some (.ref k),some (.ref an),some (.int pi),some (.int x),w5,some (.ref gl),w7,v8]∧Ext C H3 H5∧H5 gl=some (.lst ((r.take n).map V.int++rs.map V.ref))∧Rows H5 rs done∧gl∉rs∧PyFlat.rows (kk - i) (l.drop pi)=some (rest,t)∧done++rest=xs∧pi<=l.length∧rs.length<=i)
    ⟨pl + 1 + n,[],[],xs,_,v7,rfl,e4,hg4,.nil,by simp,?_,rfl,by omega,Nat.le_refl _⟩
    (fun i σ H5 hi _=>by show i < ((kk:Int)).toNat;omega)
    (fun σ H5 _=>by show((kk:Int)).toNat<=kk;omega)
    (fun i y σ H5 H6 hi ⟨pi,rs,done,rest,w5,w7,b1,b2,b3,b4,b5,b6,b7,b8,b9⟩ ⟨y1,y2⟩=>?_)
    (fun σ H5 ⟨pi,rs,done,rest,w5,w7,b1,b2,b3,b4,b5,b6,b7,b8,b9⟩=>?_)
   ·rw[← List.drop_drop,er]
    exact i4
   ·subst y1 b1 y2
    have hki:kk - i=(kk - (i + 1)) + 1:=by omega
    rw[hki]at b6
    obtain⟨mm,r',xs',j1,j2,j3,j4,rfl⟩:=rows_inv b6
    have hm:l[pi]?=some mm:=by
     have:=congrArg (fun l=>l[0]?) j1
     simpa using this
    have er':l.drop (pi + 1)=r':=by
     have:=congrArg List.tail j1
     rw[List.tail_drop]at this
     simpa using this
    have rl':r'.length=l.length - (pi + 1):=by rw[← er',List.length_drop]
    have pil:pi < l.length:=(List.getElem?_eq_some_iff.mp hm).1
    obtain⟨mn,rfl⟩:∃mn:Nat,mm=mn:=⟨mm.toNat,by omega⟩
    have hlH:SqL K H6 a (l.map V.int):=(e3.trans b2).Dn hl
    refine⟨_,rfl,_,_,rfl,rfl,_,rfl,_,rfl,_,rfl,a,_,_,V.int (mn:Int),rfl,rfl,hlH,Jr (by rw[List.getElem?_map,hm];rfl),_,_,rfl,rfl,?_⟩
    refine⟨_,rfl,tyL b3,_,rfl,_,rfl,_,rfl,_,rfl,_,rfl,a,_,rfl,hlH,fun q1 hq1=>?_⟩
    have ecut2:RP (l.map V.int) (some ((pi:Int) + 1)) (some ((pi:Int) + 1 + mn))=(r'.take mn).map V.int:=by
     have:=V8 (l:=l) (a:=pi + 1) (n:=mn) (by omega)
     rw[er']at this
     rw[← this]
     congr 1
    dsimp only
    rw[ecut2]
    have qg:gl≠q1:=fun z=>by rw[← z,b3]at hq1;cases hq1
    have e5:Ext C H3 (upd H6 q1 (.lst ((r'.take mn).map V.int))):=b2.lay hq1 _
    have b3':upd H6 q1 (.lst ((r'.take mn).map V.int)) gl=some (.lst ((r.take n).map V.int++rs.map V.ref)):=by rw[Ac qg];exact b3
    have b4':Rows (upd H6 q1 (.lst ((r'.take mn).map V.int))) (rs++[q1]) (done++[r'.take mn]):=Rows.snoc Ab (b4.ext (Ext.new C hq1 _))
    generalize upd H6 q1 (.lst ((r'.take mn).map V.int))=H7 at e5 b3' b4' ⊢
    refine⟨gl,_,_,rfl,rfl,b3',?_,pi + 1 + mn,rs++[q1],done++[r'.take mn],xs',_,_,rfl,e5.Hj hgl b3' _,by rw[Ab,List.map_append,List.append_assoc];rfl,b4'.upd (fun m=>?_),fun m=>?_,?_,?_,by omega,by rw[List.length_append,List.length_singleton];omega⟩
    ·rw[List.length_append,List.length_map,List.length_map,List.length_take]
     have:n<=5:=(Ny i2).1
     exact Bj (by omega)
    ·rcases List.mem_append.mp m with m | m
     ·exact b5 m
     ·exact qg (List.mem_singleton.mp m)
    ·rcases List.mem_append.mp m with m | m
     ·exact b5 m
     ·exact qg (List.mem_singleton.mp m)
    ·rw[← List.drop_drop,er']
     have:(mn:Int).toNat=mn:=by omega
     rw[this]at j4
     exact j4
    ·rw[List.append_assoc]
     have:(mn:Int).toNat=mn:=by omega
     rw[this]at b7
     exact b7
   ·subst b1
    rw[Nat.sub_self]at b6
    have hr0:rest=[]∧l.drop pi=t:=by
     unfold PyFlat.rows at b6
     have:=Prod.mk.inj (Option.some.inj b6)
     exact⟨this.1.symm,this.2⟩
    obtain⟨rfl,et⟩:=hr0
    rw[List.append_nil]at b7
    subst b7
    have hk5:=hk3.ext b2
    have ow5:=ow3.ext b2
    have l1:(r.take n).length=n:=by rw[List.length_take];omega
    have lrows:done.length=kk:=by
     have:∀(j:Nat) (u:List Int) (ys:List (List Int)) (v:List Int),PyFlat.rows j u=some (ys,v)->ys.length=j:=by
      intro j
      induction j with
      | zero=>intro u ys v h;unfold PyFlat.rows at h;rw[← (Prod.mk.inj (Option.some.inj h)).1];rfl
      | succ j ih =>
       intro u ys v h
       obtain⟨_,_,ys',_,_,_,h4,rfl⟩:=rows_inv h
       rw[List.length_cons,ih _ _ _ h4]
     exact this _ _ _ _ i4
    refine⟨_,rfl,_,rfl,_,rfl,k,st,R,x,gl,r.take n,rs,done,rfl,hk5,ow5,b3,b4,by rw[l1,lrows];exact i2,fun H6 R6 lr k6 o6 s6 t6 nlr hlr6 len6=>?_⟩
    have e36:=(e3.trans b2)
    have e6:Ext C H H6:=e36.Af3 t6 fr3
    have han6:H6 an=some (.lst (out.map V.int)):=t6.lst hk5 ow5 (b2.lst han3)
    have fr6:∀b∈[k,R6.w,R6.n,R6.u,R6.a],H b=none:=by rw[s6.w,s6.n,s6.u,s6.a];exact fr3
    generalize hans:VbnlagNeutral.step st ((x::r.take n)::done)=sa at k6 hlr6 len6
    have bound:out.length + 20001 * (cs2.length + 1)<=20001 * 400:=by rw[List.length_cons]at ln3;exact ln3
    refine⟨_,rfl,tyL han6,_,rfl,lr,_,rfl,.inl (.of hlr6),an,_,_,rfl,rfl,han6,by rw[List.length_map,sizeLine_eq];omega,?_⟩
    have ne:lr≠an:=fun z=>by rw[z,b2.lst han3]at nlr;cases nlr
    have e7:Ext C H (upd H6 an (.lst (out.map V.int++[V.int (sa.2.map V.int).length]))):=e6.Hj n_an han6 _
    have lr7:upd H6 an (.lst (out.map V.int++[V.int (sa.2.map V.int).length])) lr=some (.lst (sa.2.map V.int)):=by rw[Ac ne];exact hlr6
    have an7:upd H6 an (.lst (out.map V.int++[V.int (sa.2.map V.int).length])) an=some (.lst ((out++[(sa.2.length:Int)]).map V.int)):=by rw[Ab,List.map_append,List.length_map];rfl
    refine⟨_,rfl,tyL an7,_,rfl,an,lr,_,_,rfl,rfl,an7,lr7,by rw[List.length_map,List.length_map,List.length_append,List.length_singleton,sizeLine_eq];omega,pi,sa.1,R6,out++[(sa.2.length:Int)]++sa.2,f2,_,_,_,_,_,rfl,e7.Hj n_an an7 _,(k6.Qg han6).Qg an7,(o6.Qg han6).Qg an7,fr6,by rw[Ab];simp only[List.map_append],by rw[et];exact c2,?_,?_,b8⟩
    ·rw[← ht3]
     show _=out++PyFlat.told ((VbnlagNeutral.step st ((x::r.take n)::done)).2::PyFlat.played VbnlagNeutral.step (VbnlagNeutral.step st ((x::r.take n)::done)).1 cs2)
     rw[Y8,hans]
     simp only[List.append_assoc,List.cons_append,List.nil_append]
    ·rw[List.length_append,List.length_append,List.length_singleton]
     omega
  ·have h1:l.length<=pl:=by
    have:=of_decide_eq_false h1
    rw[List.length_map]at this
    omega
   rw[List.drop_eq_nil_of_le h1]at hc3
   have:cs'=[]:=by
    cases fu <;>(unfold PyFlat.calls at hc3;exact(Option.some.inj hc3).symm)
   subst this
   have eo:out=tot:=by rw[← ht3];simp[PyFlat.played,PyFlat.told]
   rw[eo]at han3
   exact⟨_,rfl,q H3 an e3 n_an han3⟩
end
end Nm
namespace Nm
open PySem PySem.Spec PyProof.Rows L2
section
variable {P:Program}{w:World}{K:PySem.W.Frag}{mg:Str->Option Value}{base:Heap}{C:Cl}
theorem R4:∀{l:List Int},l.Pairwise (· <= ·)->l.Nodup->l.Pairwise (· < ·)
 | [],_,_=> .nil
 | a::r,h,n=>by
  obtain⟨h1,h2⟩:=List.pairwise_cons.mp h
  obtain⟨n1,n2⟩:=List.nodup_cons.mp n
  refine List.pairwise_cons.mpr ⟨fun b hb=>?_,R4 h2 n2⟩
  have:=h1 b hb
  have:a≠b:=fun z=>n1 (z▸hb)
  omega
theorem BP:Aj ["kept", "name_days", "act_days", "name", "act"] ["kept"] (Ag (top 71)):=⟨rfl,rfl,rfl,by decide +kernel,rfl,by decide +kernel,by decide +kernel⟩
theorem Lj {f:Addr}{fd:FuncData}(F:Fun K "days_of_change" "days_of_change" (top 71) f fd)(T:Txt K mg C)(G_name_day:Ok P w K mg base "name_day" 1 ["kept", "name"] (DY C))(G_act_day:Ok P w K mg base "act_day" 1 ["kept", "act"] (Dt C)):Ay P w K mg base CX0 2 f fd ["kept"] (WQ C):=by
 refine F.ok BP (fun vs H Q E h=>?_) (fun cdv A outer s H vs Q E hr h=>?_)
 ·obtain⟨_,_,_,rfl,_⟩:=h
  rfl
 ·obtain⟨k,st,R,rfl,hk,q⟩:=h
  refine⟨_,(Ad (Ld (Es (i:=1) rfl BP.nd rfl rfl rfl (Jj (pF T.cl (pv 0))) (BJ (own:=[("name",3)]) (by kernel_rfl)) (fun _ _ _ _ _=>(Bk (i:=3) BP.nd rfl (Or.inl rfl))) (fun _ _ _ _ _=>Ey) (fun _ _ _ _ _=>(Al G_name_day (hr.mono (by decide)) (Aa (pv 0) (Aa (pv 3) Ae))))))
   (Ad (Ld (Es (i:=2) rfl BP.nd rfl rfl rfl (Jj (pF T.cl (pv 0))) (BJ (own:=[("act",4)]) (by kernel_rfl)) (fun _ _ _ _ _=>(Bk (i:=4) BP.nd rfl (Or.inl rfl))) (fun _ _ _ _ _=>Ey) (fun _ _ _ _ _=>(Al G_act_day (hr.mono (by decide)) (Aa (pv 0) (Aa (pv 4) Ae))))))
   (Af (Ai (Bd (XQ rfl) (by rfl) T.sorted boot_sorted (Aa (Ss (Ap6 rfl) (by rfl) T.set boot_set (Aa (CG Ed (pv 1) (pv 2)) Ae)) Ae)))))),?_⟩
  obtain⟨o,ho,hu⟩:=Rd.split hk.nk
  refine⟨R.n,.dK (dN R.ns),o,ho,hu,trivial,fun od=>?_⟩
  have hk1:=hk.lock od hk.nk (.inl ⟨_,rfl⟩)
  refine⟨_,rfl,_,_,rfl,hk1.names T.cl,R.n,od,dN R.ns,rfl,Ab,fun D hD=>?_⟩
  refine Jl (C:=C) R.ns (fun p=>V.ref p.1) (fun _=>true) (fun p=>V.int (Vbnlag.dayOf st p.2.work)) Ab (Aj5 _) hD (by rw[hk.Ag8];exact Nat.le_trans hk.wf.ln (by decide)) (fun p hp H' N e hT hF=>?_) (fun H' e hl=>?_)
  ·exact⟨rfl,Tp ⟨_,rfl,_,rfl,k,st,R,p.1,p.2,rfl,hk1.ext e,(hk1.na p hp).ext e,hk.Xm hp,hT rfl _ (Ext.refl _ _)⟩⟩
  ·rw[filter_all]at hl
   have e2:Ext C H (upd H' R.n o):=Ext.unlock ho hu (.inl ⟨_,rfl⟩) e (e.frz Ab)
   have hl2:upd H' R.n o D=some (.lst ((R.ns.map fun p=>Vbnlag.dayOf st p.2.work).map V.int)):=by
    rw[Ac (by rintro rfl;rw[e.frz Ab]at hl;cases hl),List.map_map]
    exact hl
   have hk2:=hk.ext e2
   refine⟨e.frz Ab,?_⟩
   generalize upd H' R.n o=H2 at e2 hl2 hk2 ⊢
   obtain⟨o2,ho2,hu2⟩:=Rd.split hk2.ak
   refine⟨R.a,.dK (dA R.as),o2,ho2,hu2,trivial,fun od2=>?_⟩
   have hk3:=hk2.lock od2 hk2.ak (.inl ⟨_,rfl⟩)
   refine⟨_,rfl,_,_,rfl,hk3.acts T.cl,R.a,od2,dA R.as,rfl,Ab,fun D2 hD2=>?_⟩
   refine Jl (C:=C) R.as (fun p=>V.ref p.1) (fun _=>true) (fun p=>V.int (Vbnlag.dayOf st p.2.work)) Ab (Tq _) hD2 (by rw[hk2.ZM];exact Nat.le_trans hk2.wf.la (by decide)) (fun p hp H3 N e3 hT hF=>?_) (fun H3 e3 hl3=>?_)
   ·exact⟨rfl,Tp ⟨_,rfl,_,rfl,k,st,R,p.1,p.2,rfl,hk3.ext e3,(hk3.aa p hp).ext e3,hk2.Q0 hp,hT rfl _ (Ext.refl _ _)⟩⟩
   ·rw[filter_all]at hl3
    have e4:Ext C H2 (upd H3 R.a o2):=Ext.unlock ho2 hu2 (.inl ⟨_,rfl⟩) e3 (e3.frz Ab)
    have hl4:upd H3 R.a o2 D2=some (.lst ((R.as.map fun p=>Vbnlag.dayOf st p.2.work).map V.int)):=by
     rw[Ac (by rintro rfl;rw[e3.frz Ab]at hl3;cases hl3),List.map_map]
     exact hl3
    refine⟨e3.frz Ab,?_⟩
    generalize upd H3 R.a o2=H4 at e4 hl4 ⊢
    have e5:=e2.trans e4
    have hlen:(R.ns.map (fun p=>Vbnlag.dayOf st p.2.work)++R.as.map (fun p=>Vbnlag.dayOf st p.2.work)).length<=1000:=by
     have h1:=hk.wf.ln
     have h2:=hk.wf.la
     rw[List.length_append,List.length_map,List.length_map,hk.Ag8,hk.ZM]
     omega
    refine⟨_,rfl,_,rfl,D,D2,_,_,rfl,rfl,e4.lst hl2,hl4,by rw[List.length_append]at hlen;simp only[List.length_map,sizeLine_eq]at hlen ⊢;omega,fun p hp=>?_⟩
    rw[← List.map_append]
    refine⟨p,_,rfl,.of Ab,hlen,fun D5 ms h5 nd mem len=>⟨D5,ms,rfl,Ab,Nat.le_trans len hlen,fun D6 ns' h6 pm pw=>?_⟩⟩
    have e6:Ext C H (upd (upd (upd H4 p _) D5 (Ak3 P w D5 ms)) D6 (.lst (ns'.map V.int))):=((e5.lay hp _).lay h5 _).lay h6 _
    refine q _ D6 ns' e6 (((e5.lay hp _).lay h5 _).free h6) Ab (R4 pw (pm.nodup_iff.mpr nd)) (fun d=>?_) (by rw[pm.length_eq];exact Nat.le_trans len hlen)
    rw[pm.mem_iff,mem,List.mem_append,List.mem_map,List.mem_map]
    unfold Gx
    constructor
    ·rintro(⟨p,hp,e⟩ | ⟨p,hp,e⟩)
     ·exact .inl ⟨p.2,hk.Xm hp,e⟩
     ·exact .inr ⟨p.2,hk.Q0 hp,e⟩
    ·rintro(⟨n,hn,e⟩ | ⟨x,hx,e⟩)
     ·obtain⟨p,hp,rfl⟩:=List.mem_map.mp (hk.np.mem_iff.mpr hn)
      exact .inl ⟨p,hp,e⟩
     ·obtain⟨p,hp,rfl⟩:=List.mem_map.mp (hk.ap.mem_iff.mpr hx)
      exact .inr ⟨p,hp,e⟩
end
end Nm
namespace L2
open PySem PySem.Spec PyProof.Rows
open PySem.W (WData Codec OpenSpec Well WellAll ReadsW ReadsAllW)
def Ge (H:Hp)(tabs:List (Addr×Addr)):Hp:=fun b=>match H b with
 | some u=>some u
 | none=>if tabs.any (fun q=>q.2==b)=true then some (.tbl #[]) else none
def BMain (mg:Str->Option Value)(h:Heap):Prop:=∃bm ob,mg "__builtins__" =some (.ref bm)∧bm≠builtinsNs∧bm≠mainGlobals∧h.get? bm=some ob∧ob.cls= .type "module" ∧ob.dict=some builtinsNs∧ob.data= .plain
theorem Wz {P:Program}{w:World}{K:PySem.W.Frag}{mg mb:Str->Option Value}{CX:CXT}{k:Nat}{fa:Addr}{fd:FuncData}{ps:List Str}{sp:Sp}{s₁:Shared}{vals:List Value}{ds:List WData}{R:PySem.W.WRecords}{cl:Str->Option Addr}{d0:WData}{tabs:List (Addr×Addr)}
  (KX:K.In s₁.heap) (hns:s₁.heap.Ns mainGlobals mg) (hb:s₁.heap.Ns builtinsNs mb) (hbb:∀x:Str,x≠ "__name__" ->mb x=bootBuiltins x) (hlim:s₁.heap.NoLimit) (hg:s₁.gens= #[]) (hbm:BMain mg s₁.heap)
  (hT:∀q∈tabs,PySem.W.CodeHd s₁.heap q.1 q.2∧s₁.heap.get? q.2=some (PySem.W.tabObj #[])) (hnt:PySem.W.noTabs K=true)
  (hwl:WellAll w.params s₁.heap vals ds) (hpl:Om ds=true) (hwt:∀d∈ds,d.weight<=1048576) (hr:CJ k callerA)
  (F:∀base:Heap,K.In base->base.Ns mainGlobals mg->BMain mg base->Ay P w K mg base CX k fa fd ps sp) (hbind:∀(s:Shared) (us:List Value),us.length=ps.length->BindsTo s fd ⟨us,[]⟩ (ps.zip us)) (hlen:ds.length=ps.length)
  (hsp:∀(H0 H:Hp) (xs:List V),(∀b o,H0 b=some o->H b=some o)->(∀q∈tabs,H q.2=some (.tbl #[]))->Je K H0 xs ds->sp xs H (fun v H'=>Dw K H' v d0) fun _ _ _=>False)
  (hCX:∀H e s',CX [] H s₁ (fun _ _ _=>False) e s'->False) :
  codeAny (model P w) callerA (.call (.ref fa) ⟨vals,[]⟩) (fun r s'=>∃u as,r= .ok (.ret u)∧ReadsW R cl s'.heap u d0 as∧OldK s₁.heap s'.heap∧s'.os=s₁.os∧AllBare s'.gens) s₁:=by
 obtain⟨A,ho,ar⟩:=Mi ds vals hwl hpl hwt
 have hO:Ar5 (Gz K s₁.heap A):=Aa2 ar
 have hok0:HOk P w (Gz K s₁.heap A) s₁.heap:=Aq2 ar
 have hS:=Ux KX ar ds vals hwl hpl ho
 have hV:=GC ho
 have hK0:∀b u,Gz K s₁.heap A b=some u->K.lookup b=none:=fun b u q=>(Mh ar q).1
 have noS:∀{b:Addr} {o:Obj},s₁.heap.get? b=some o->o.cls≠ .type "list" ->o.cls≠ .type "tuple" ->Gz K s₁.heap A b=none:=fun {b o} e n1 n2=>by
  cases q:Gz K s₁.heap A b with
  | none=>rfl
  | some u =>
   obtain⟨_,vs,_,_,⟨e2,_⟩ | ⟨e2,_⟩⟩:=Mh ar q
   ·rw[e2]at e
    cases e
    exact absurd rfl n1
   ·rw[e2]at e
    cases e
    exact absurd rfl n2
 have noD:∀{b:Addr} {o:Obj} {es:Array DictEntry} {ep:Nat},s₁.heap.get? b=some o->o.data= .dict es ep->Gz K s₁.heap A b=none:=fun {b o es ep} e d=>by
  cases q:Gz K s₁.heap A b with
  | none=>rfl
  | some u =>
   obtain⟨_,vs,_,_,⟨e2,_⟩ | ⟨e2,_⟩⟩:=Mh ar q
   ·rw[e2]at e
    cases e
    have d':Data.seq vs.toArray _=Data.dict es ep:=d
    cases d'
   ·rw[e2]at e
    cases e
    have d':Data.seq vs.toArray _=Data.dict es ep:=d
    cases d'
 generalize Gz K s₁.heap A=H0 at hO hok0 hS hK0 noS noD
 have tabAt:∀b,tabs.any (fun q=>q.2==b)=true->∃c,PySem.W.CodeHd s₁.heap c b∧s₁.heap.get? b=some (PySem.W.tabObj #[]):=fun b h=>by
  obtain⟨q,hq,e⟩:=List.any_eq_true.mp h
  have e:q.2=b:=by simpa using e
  subst e
  exact⟨q.1,hT q hq⟩
 have tabNo:∀b,tabs.any (fun q=>q.2==b)=true->H0 b=none:=fun b h=>by
  obtain⟨c,_,e⟩:=tabAt b h
  exact noS e (by show Value.none≠_;exact fun z=>nomatch z) (by show Value.none≠_;exact fun z=>nomatch z)
 have tabK:∀b,tabs.any (fun q=>q.2==b)=true->K.lookup b=none:=fun b h=>by
  obtain⟨c,_,e⟩:=tabAt b h
  cases q:K.lookup b with
  | none=>rfl
  | some o =>
   have e2:=KX b o q
   rw[e]at e2
   have h2:=List.all_eq_true.mp hnt (b,o) (PySem.W.mem_of_lookupK q)
   rw[← Option.some.inj e2]at h2
   exact absurd (show false=true from h2) Bool.false_ne_true
 have sub:∀b o,H0 b=some o->Ge H0 tabs b=some o:=fun b o h=>by unfold Ge;rw[h]
 have is:∀b u,Ge H0 tabs b=some u->H0 b=some u∨(H0 b=none∧tabs.any (fun q=>q.2==b)=true∧u= .tbl #[]):=fun b u h=>by
  unfold Ge at h
  cases q:H0 b with
  | some v=>rw[q]at h;exact .inl h
  | none =>
   rw[q]at h
   by_cases z:tabs.any (fun q=>q.2==b)=true
   ·rw[if_pos z]at h
    exact .inr ⟨rfl,z,(Option.some.inj h).symm⟩
   ·rw[if_neg z]at h
    cases h
 have tabIs:∀b,tabs.any (fun q=>q.2==b)=true->Ge H0 tabs b=some (.tbl #[]):=fun b h=>by
  unfold Ge
  rw[tabNo b h,if_pos h]
 have noneOf:∀b,H0 b=none->¬tabs.any (fun q=>q.2==b)=true->Ge H0 tabs b=none:=fun b h n=>by
  unfold Ge
  rw[h,if_neg n]
 have hok:HOk P w (Ge H0 tabs) s₁.heap:=fun b u q=>by
  rcases is b u q with h | ⟨_,h,rfl⟩
  ·refine(hok0 b u h).stay (fun d v _ e=>e) (fun d hd=>sub d _ hd) fun d xs hd=>sub d _ hd
  ·obtain⟨c,_,e⟩:=tabAt b h
   exact e
 have hK:∀b u,Ge H0 tabs b=some u->K.lookup b=none:=fun b u q=>by
  rcases is b u q with h | ⟨_,h,_⟩
  ·exact hK0 b u h
  ·exact tabK b h
 have noA:∀{b:Addr} {o:Obj},s₁.heap.get? b=some o->H0 b=none->o.cls≠ .none->Ge H0 tabs b=none:=fun {b o} e n0 n=>noneOf b n0 fun z=>by
  obtain⟨c,_,e2⟩:=tabAt b z
  rw[e]at e2
  exact n (by rw[Option.some.inj e2])
 have noDict:∀{b:Addr} {o:Obj} {es:Array DictEntry} {ep:Nat},s₁.heap.get? b=some o->o.data= .dict es ep->Ge H0 tabs b=none:=fun {b o es ep} e d=>noneOf b (noD e d) fun z=>by
  obtain⟨c,_,e2⟩:=tabAt b z
  rw[e]at e2
  rw[Option.some.inj e2]at d
  cases d
 have tabAll:∀q∈tabs,Ge H0 tabs q.2=some (.tbl #[]):=fun q hq=>tabIs q.2 (List.any_eq_true.mpr ⟨q,hq,by simp⟩)
 have hsp':=hsp H0 (Ge H0 tabs) _ sub tabAll hS
 generalize Ge H0 tabs=H at hok hK noA noDict tabAll hsp' is
 have base_of:∀{b:Addr} {o:Obj},s₁.heap.get? b=some o->H b=none->(RN s₁.heap H).get? b=some o:=fun e n=>Ah8 e n
 have nsK:∀{b:Addr} {m:Str->Option Value},s₁.heap.Ns b m->(RN s₁.heap H).Ns b m:=fun {b m} ⟨o,es,ep,e,d,r⟩=>⟨o,es,ep,base_of e (noDict e d),d,r⟩
 have nK:∀b o,K.lookup b=some o->H b=none:=fun b o e=>by
  cases q:H b with
  | none=>rfl
  | some u =>
   rw[hK b u q]at e
   cases e
 have hKb:K.In (RN s₁.heap H):=fun b o e=>base_of (KX b o e) (nK b o e)
 have hM:Mod K mg (RN s₁.heap H):=⟨hKb,nsK hns,⟨mb,nsK hb,hbb⟩,let ⟨mc,h1,h2⟩:=hlim;⟨mc,nsK h1,h2⟩⟩
 have e0:Yb P w K mg (RN s₁.heap H) callerA [] s₁ H:=⟨rfl,hM,fun b o e=>Am7 e,Nat.le_of_eq (ZV _ _),trivial,fun b hb=>absurd (show b∈([]:List Addr) from hb) (by simp),hok,.of_eq hg⟩
 have hbm':BMain mg (RN s₁.heap H):=by
  obtain⟨bm,ob,b1,b2,b3,b4,b5,b6,b7⟩:=hbm
  exact⟨bm,ob,b1,b2,b3,base_of b4 (noA b4 (noS b4 (by rw[b5];decide +kernel) (by rw[b5];decide +kernel)) (by rw[b5];exact fun z=>nomatch z)),b5,b6,b7⟩
 have hl:vals.length=ps.length:=by rw[Gj hwl];exact hlen
 refine codeAny_mono ((F _ hKb (nsK hns) hbm').run callerA [] s₁ H ⟨vals,[]⟩ vals (vals.map toV) _ _ hr e0 (hbind s₁ vals hl) hV hsp') fun r s' x=>?_
 cases r with
 | error e=>exact(hCX H e s' x).elim
 | ok fl =>
  cases fl with
  | next=>exact False.elim x
  | brk=>exact False.elim x
  | cont=>exact False.elim x
  | ret u =>
   obtain⟨v,H',os,bare,un,hok',r',q⟩:=x
   have kept:∀b o,s₁.heap.get? b=some o->(∀ps,H b≠some (.tbl ps))->s'.heap.get? b=some o:=fun b o e nt=>by
    cases q2:H b with
    | none=>exact un.keep b o e q2 (by intro z;exact absurd (show b∈([]:List Addr) from z) (by simp)) (by simp)
    | some u2 =>
     rcases is b u2 q2 with z | ⟨_,_,z⟩
     ·rcases hO b with y | ⟨ob,u3,y⟩
      ·rw[z]at y
       cases y
      ·rw[z]at y
       cases y
       have z2:=un.O7 b ob _ q2
       obtain⟨e1,_⟩:=hok b _ q2
       obtain⟨e2,_⟩:=hok' b _ z2
       rw[e]at e1
       cases e1
       exact e2
     ·exact absurd (by rw[q2,z]) (nt #[])
   have KX':K.In s'.heap:=fun b o e=>kept b o (KX b o e) fun ps z=>by rw[nK b o e]at z;cases z
   obtain⟨as,hrd⟩:=Dw.reads (R:=R) (cl:=cl) hok' KX' d0 v u q r'
   have tabOld:∀b o,s₁.heap.get? b=some o->∀ps,H b=some (.tbl ps)->∃more,(∃c,PySem.W.CodeHd s₁.heap c b)∧o=PySem.W.tabObj #[]∧s'.heap.get? b=some (PySem.W.tabObj (#[]++more)):=fun b o e ps hp=>by
    rcases is b _ hp with z | ⟨_,z,z2⟩
    ·rcases hO b with y | ⟨ob,u3,y⟩ <;>(rw[z]at y;cases y)
    ·cases z2
     obtain⟨c,c1,c2⟩:=tabAt b z
     obtain⟨more,hm⟩:=un.PN b _ hp
     rw[e]at c2
     exact⟨more,⟨c,c1⟩,Option.some.inj c2,hok' b _ hm⟩
   refine⟨u,as,rfl,hrd,⟨fun b o e=>?_,fun b o e=>?_⟩,os,bare⟩
   ·by_cases z:∃ps,H b=some (.tbl ps)
    ·obtain⟨ps,z⟩:=z
     obtain⟨more,⟨c,c1⟩,rfl,e2⟩:=tabOld b o e ps z
     exact .inr (.inl ⟨(c1.tab e).isCodeTable,rfl,#[],more,rfl,e2⟩)
    ·exact .inl (kept b o e fun ps y=>z ⟨ps,y⟩)
   ·by_cases z:∃ps,H b=some (.tbl ps)
    ·obtain⟨ps,z⟩:=z
     obtain⟨more,_,_,e2⟩:=tabOld b o e ps z
     exact⟨_,e2⟩
    ·exact⟨o,kept b o e fun ps y=>z ⟨ps,y⟩⟩
theorem Wr {r:OpenSpec}{k:Nat}{q:Program}{loose:List Str}{XP:(Str->Option Value)->Heap->Prop}{YP:World->Heap->Prop}{d:DefRec}{K:Params->PySem.W.Frag}{CX:CXT}{ps:List Str}{sp:PySem.W.Frag->Sp}{tabs:List (Addr×Addr)}
  (hwell:r.wellSaid=true) (hdf:d.params.defaults=[]) (hlen:r.args.length=ps.length) (hr:CJ k callerA)
  (hY:∀(w:World) (h:Heap),YP w h->(K w.params).In h) (hnt:∀w:World,PySem.W.noTabs (K w.params)=true)
  (hTab:∀(w:World) (s₀ s₁:Shared) (mg mb:Str->Option Value),PySem.W.Ground q loose [] XP w s₀ mg mb s₁.heap->(K w.params).In s₁.heap->∀t∈tabs,PySem.W.CodeHd s₁.heap t.1 t.2∧s₁.heap.get? t.2=some (PySem.W.tabObj #[]))
  (F:∀(w:World) (mg:Str->Option Value) (fa:Addr) (h:Heap),YP w h->(K w.params).In h->h.Ns mainGlobals mg->mg d.name=some (.ref fa) ->
   ∃fd:FuncData,(∀(s:Shared) (us:List Value),us.length=ps.length->BindsTo s fd ⟨us,[]⟩ (ps.zip us)) ∧
    ∀base:Heap,(K w.params).In base->base.Ns mainGlobals mg->BMain mg base->Ay r.prog w (K w.params) mg base CX k fa fd ps (sp (K w.params)))
  (hsp:∀(K:PySem.W.Frag) (H0 H:Hp) (xs:List V) (a:Codec.denoteAll r.args),(∀b o,H0 b=some o->H b=some o)->(∀t∈tabs,H t.2=some (.tbl #[]))->Codec.withinAll r.args a=true->Codec.app r.args r.asked a=true->Je K H0 xs (Codec.encAll r.args a) ->
   sp K xs H (fun v H'=>Dw K H' v (r.ret.enc (Codec.app r.args r.f a))) fun _ _ _=>False)
  (hCX:∀(H:Hp) (s:Shared) (e:Value) (s':Shared),CX [] H s (fun _ _ _=>False) e s'->False) :
  PySem.W.WalkOS q loose XP YP r d [] (fun f vs=>PySem.call f vs):=by
 intro w s_0 s₁ mg mb G Y fa o pm cd doc dV kV ho hd hcd hD hmg hg args vals as hpre hlay hrd hwl hlo
 obtain⟨a,e1,e2⟩:=PySem.W.os_pre_some hpre
 obtain⟨e3,hwi⟩:=Codec.encAll_of_decAll r.args args a e1
 subst e3
 have KX:=hY w _ Y
 obtain⟨fd,hb,hF⟩:=F w mg fa _ Y KX G.T.g hmg
 have hbm:BMain mg s₁.heap:=by
  obtain⟨bm,ob,a1,a2,a3,a4,a5,a6⟩:=G.T.bmain
  refine⟨bm,ob,a1,a2,fun z=>?_,a3,a4,a5,a6⟩
  obtain⟨o2,es,ep,e,hd2,_⟩:=G.T.g
  rw[z,e]at a3
  rw[Option.some.inj a3,a6]at hd2
  cases hd2
 refine PySem.W.enter_call (codeAny_mono (Wz (R:=[]) (cl:=classAt s_0.heap) (d0:=r.ret.enc (Codec.app r.args r.f a)) KX G.T.g G.T.b G.T.builtins G.T.nolimit hg hbm (hTab w s_0 s₁ mg mb G KX) (hnt w) hwl (Sq _ _) (Q7 hlay) hr hF hb (by rw[Rh];exact hlen)
  (fun H0 H xs hs ht hS=>hsp (K w.params) H0 H xs a hs ht hwi e2 hS) fun H e s'=>hCX H s₁ e s') fun r' s' hq=>?_)
 obtain⟨u,as',rfl,h1,h2,h3,h4⟩:=hq
 exact⟨.inl ⟨u,_,as',rfl,fun _=>rfl,h1,(OpenSpec.post_iff hwell hwi _ _).mpr rfl,fun z=>Bool.noConfusion (show false=true from z)⟩,h2,h3,h4⟩
end L2
namespace Nm
open PySem PySem.Spec PyProof.Rows L2
structure Ao (K:PySem.W.Frag)(x:Str)(st:Stmt):Prop where
 ex:∃(f:Addr) (oc kV dc pm cd ct:Value) (od an:Option Addr) (sl:Array (Option Value)),PySem.W.nsIn K mainGlobals x=some (some (.ref f))∧K.lookup f=some ⟨oc,od,.func (PySem.W.fnOf x x (Gp st) (Eo st) (Ag st) .none kV dc pm an cd ct),sl⟩∧PySem.W.codeIn K cd x=true∧PySem.W.keepIn K (.ref f)=true
theorem Ao.mk' {K:PySem.W.Frag}{x:Str}{st:Stmt}{f:Addr}{oc kV dc pm cd ct:Value}{od an:Option Addr}{sl:Array (Option Value)}(a:PySem.W.nsIn K mainGlobals x=some (some (.ref f)))(l:K.lookup f=some ⟨oc,od,.func (PySem.W.fnOf x x (Gp st) (Eo st) (Ag st) .none kV dc pm an cd ct),sl⟩)(c:PySem.W.codeIn K cd x=true)(k:PySem.W.keepIn K (.ref f)=true):Ao K x st:=⟨f,oc,kV,dc,pm,cd,ct,od,an,sl,a,l,c,k⟩
structure ClsAt (K:PySem.W.Frag)(x q:Str)(C:Addr)(st:Stmt):Prop where
 ex:∃(f:Addr) (oc kV dc pm cd ct:Value) (od an:Option Addr) (sl:Array (Option Value)),PySem.W.nsIn K mainGlobals x=some (some (.ref C))∧PySem.W.findIn K (.ref C) "__init__" =some (some (.ref f))∧PySem.W.isFn K (.ref f)=true∧K.lookup f=some ⟨oc,od,.func (PySem.W.fnOf "__init__" q (Gp st) (Eo st) (Ag st) .none kV dc pm an cd ct),sl⟩∧PySem.W.codeIn K cd q=true∧PySem.W.keepIn K (.ref f)=true∧PySem.W.makesIn K C=true∧PySem.W.keepIn K (.ref C)=true
theorem ClsAt.mk' {K:PySem.W.Frag}{x q:Str}{C:Addr}{st:Stmt}{f:Addr}{oc kV dc pm cd ct:Value}{od an:Option Addr}{sl:Array (Option Value)}(a:PySem.W.nsIn K mainGlobals x=some (some (.ref C)))(b:PySem.W.findIn K (.ref C) "__init__" =some (some (.ref f)))(i:PySem.W.isFn K (.ref f)=true)(l:K.lookup f=some ⟨oc,od,.func (PySem.W.fnOf "__init__" q (Gp st) (Eo st) (Ag st) .none kV dc pm an cd ct),sl⟩)(c:PySem.W.codeIn K cd q=true)(k:PySem.W.keepIn K (.ref f)=true)(m:PySem.W.makesIn K C=true)(g:PySem.W.keepIn K (.ref C)=true):ClsAt K x q C st:=⟨f,oc,kV,dc,pm,cd,ct,od,an,sl,a,b,i,l,c,k,m,g⟩
theorem len6 {α:Type}{l:List α}(h:l.length=6):∃a0 a1 a2 a3 a4 a5,l=[a0,a1,a2,a3,a4,a5]:=by match l,h with | [a0,a1,a2,a3,a4,a5],_=>exact⟨a0,a1,a2,a3,a4,a5,rfl⟩
theorem len7 {α:Type}{l:List α}(h:l.length=7):∃a0 a1 a2 a3 a4 a5 a6,l=[a0,a1,a2,a3,a4,a5,a6]:=by match l,h with | [a0,a1,a2,a3,a4,a5,a6],_=>exact⟨a0,a1,a2,a3,a4,a5,a6,rfl⟩
theorem len8 {α:Type}{l:List α}(h:l.length=8):∃a0 a1 a2 a3 a4 a5 a6 a7,l=[a0,a1,a2,a3,a4,a5,a6,a7]:=by match l,h with | [a0,a1,a2,a3,a4,a5,a6,a7],_=>exact⟨a0,a1,a2,a3,a4,a5,a6,a7,rfl⟩
theorem len9 {α:Type}{l:List α}(h:l.length=9):∃a0 a1 a2 a3 a4 a5 a6 a7 a8,l=[a0,a1,a2,a3,a4,a5,a6,a7,a8]:=by match l,h with | [a0,a1,a2,a3,a4,a5,a6,a7,a8],_=>exact⟨a0,a1,a2,a3,a4,a5,a6,a7,a8,rfl⟩
theorem lt21 {P:Nat->Prop}(h0:P 0)(h1:P 1)(h2:P 2)(h3:P 3)(h4:P 4)(h5:P 5)(h6:P 6)(h7:P 7)(h8:P 8)(h9:P 9)(h10:P 10)(h11:P 11)(h12:P 12)(h13:P 13)(h14:P 14)(h15:P 15)(h16:P 16)(h17:P 17)(h18:P 18)(h19:P 19)(h20:P 20):∀i,i < 21->P i
 | 0,_=>h0
 | 1,_=>h1
 | 2,_=>h2
 | 3,_=>h3
 | 4,_=>h4
 | 5,_=>h5
 | 6,_=>h6
 | 7,_=>h7
 | 8,_=>h8
 | 9,_=>h9
 | 10,_=>h10
 | 11,_=>h11
 | 12,_=>h12
 | 13,_=>h13
 | 14,_=>h14
 | 15,_=>h15
 | 16,_=>h16
 | 17,_=>h17
 | 18,_=>h18
 | 19,_=>h19
 | 20,_=>h20
 | n + 21,h=>absurd h (by omega)
section
variable {P:Program}{w:World}{K:PySem.W.Frag}{mg:Str->Option Value}{base h:Heap}{C:Cl}
theorem Ao.Bf {x:Str}{st:Stmt}(D:Ao K x st)(X:K.In h)(G:h.Ns mainGlobals mg):∃f fd,mg x=some (.ref f)∧Fun K x x st f fd∧∃o,h.get? f=some o∧o.data= .func fd:=by
 obtain⟨f,oc,kV,dc,pm,cd,ct,od,an,sl,a,l,c,k⟩:=D.ex
 exact⟨f,_,PySem.W.mg_of X G a,Ai1 l c k,_,X _ _ l,rfl⟩
theorem ClsAt.Bf {x q:Str}{c:Addr}{st:Stmt}(D:ClsAt K x q c st)(X:K.In h)(G:h.Ns mainGlobals mg):∃f fd,mg x=some (.ref c)∧Mk K c f∧Fun K "__init__" q st f fd:=by
 obtain⟨f,oc,kV,dc,pm,cd,ct,od,an,sl,a,b,i,l,e,k,m,g⟩:=D.ex
 exact⟨f,_,PySem.W.mg_of X G a,⟨m,b,i,g⟩,Ai1 l e k⟩
def forms:List (Nat×Nat×Bool×Str):=[(5,0,false, "answer_code"),(3,0,false, "answer_work"),(3,0,false, "answer_name"),(2,0,false, "answer_use"),(4,0,false, "answer_choice"),(4,0,false, "answer_reverse"),(4,0,false, "answer_rule"),(3,0,false, "answer_aside"),(3,0,false, "answer_restore"),(2,0,true, "answer_stands"),(1,0,true, "answer_order"),(1,1,true, "answer_first"),(1,1,true, "answer_why"),(1,2,true, "answer_check"),(3,0,true, "answer_before"),(2,0,true, "answer_fate"),(2,0,true, "answer_ring"),(1,0,false, "answer_tally"),(0,1,false, "answer_history"),(1,0,true, "answer_locked"),(0,0,false, "answer_told")]
structure Written (K:PySem.W.Frag)(C:Cl):Prop where
 d0:Ao K "is_day" (top 31)
 d1:Ao K "name_day" (top 42)
 d2:Ao K "act_day" (top 43)
 d3:Ao K "moment" (top 44)
 d4:Ao K "acts_of_standing" (top 53)
 d5:Ao K "latest_act" (top 54)
 d6:Ao K "stands" (top 55)
 d7:Ao K "works_using" (top 45)
 d8:Ao K "count_authors" (top 47)
 d9:Ao K "day_span" (top 48)
 d10:Ao K "tally" (top 49)
 d11:Ao K "is_used_enough" (top 50)
 d12:Ao K "is_earned" (top 51)
 d13:Ao K "hindrance" (top 57)
 d14:Ao K "asked_acts" (top 58)
 d15:Ao K "leads" (top 59)
 d16:Ao K "lock" (top 60)
 d17:Ao K "locked_acts" (top 61)
 d18:Ao K "standing_by_age" (top 63)
 d19:Ao K "names_above" (top 64)
 d20:Ao K "is_held_back" (top 65)
 d21:Ao K "precedence" (top 66)
 d22:Ao K "way_to_name" (top 67)
 d23:Ao K "name_of_set" (top 68)
 d24:Ao K "comes_before" (top 69)
 d25:Ao K "days_of_change" (top 71)
 d26:Ao K "history" (top 72)
 d27:Ao K "fate_of_one" (top 79)
 d28:Ao K "fate_of_two" (top 80)
 d29:Ao K "fate" (top 81)
 d30:Ao K "locked_before" (top 82)
 d31:Ao K "fewest_steps" (top 83)
 d32:Ao K "shortest_way" (top 84)
 d33:Ao K "ring" (top 85)
 d34:Ao K "is_key" (top 32)
 d35:Ao K "is_page" (top 33)
 d36:Ao K "is_demand" (top 34)
 d37:Ao K "is_window" (top 35)
 d38:Ao K "is_code" (top 87)
 d44:Ao K "work_refusal" (top 89)
 d45:Ao K "name_refusal" (top 91)
 d46:Ao K "use_refusal" (top 93)
 d47:Ao K "act_refusal" (top 95)
 d48:Ao K "tell_work" (top 90)
 d49:Ao K "tell_name" (top 92)
 d50:Ao K "tell_use" (top 94)
 d51:Ao K "tell_act_of_two" (top 96)
 d52:Ao K "tell_act_of_one" (top 97)
 d53:Ao K "tell_code" (top 88)
 d54:Ao K "account_of_code" (top 1)
 d55:Ao K "account_of_works" (top 2)
 d56:Ao K "account_of_names" (top 3)
 d57:Ao K "account_of_acts" (top 5)
 d58:Ao K "account_of_uses" (top 4)
 d59:Ao K "account" (top 6)
 d60:Ao K "answer_code" (top 99)
 d61:Ao K "answer_work" (top 100)
 d62:Ao K "answer_name" (top 101)
 d63:Ao K "answer_use" (top 102)
 d64:Ao K "answer_choice" (top 103)
 d65:Ao K "answer_reverse" (top 104)
 d66:Ao K "answer_rule" (top 105)
 d67:Ao K "answer_aside" (top 106)
 d68:Ao K "answer_restore" (top 107)
 d69:Ao K "answer_stands" (top 108)
 d70:Ao K "answer_order" (top 109)
 d71:Ao K "answer_first" (top 110)
 d72:Ao K "answer_why" (top 111)
 d73:Ao K "answer_before" (top 113)
 d74:Ao K "answer_check" (top 112)
 d75:Ao K "answer_fate" (top 114)
 d76:Ao K "answer_ring" (top 115)
 d77:Ao K "answer_tally" (top 116)
 d78:Ao K "answer_history" (top 117)
 d79:Ao K "answer_locked" (top 118)
 d80:Ao K "answer_told" (top 119)
 d81:Ao K "answer_one" (top 121)
 d82:Ao K "answers" (top 122)
 k39:ClsAt K "Code" "Code.__init__" C.code (inClass (top 37) 0)
 k40:ClsAt K "Work" "Work.__init__" C.work (inClass (top 38) 0)
 k41:ClsAt K "Name" "Name.__init__" C.name (inClass (top 39) 0)
 k42:ClsAt K "Act" "Act.__init__" C.act (inClass (top 40) 0)
 k43:ClsAt K "Kept" "Kept.__init__" C.kept (inClass (top 41) 0)
 t5:PySem.W.tabIn K "latest_act" =some (C.l1,C.l2)
 h5:PySem.W.codeHdIn K C.l1 C.l2=true
 t14:PySem.W.tabIn K "asked_acts" =some (C.a1,C.a2)
 h14:PySem.W.codeHdIn K C.a1 C.a2=true
 t18:PySem.W.tabIn K "standing_by_age" =some (C.s1,C.s2)
 h18:PySem.W.codeHdIn K C.s1 C.s2=true
 t32:PySem.W.tabIn K "shortest_way" =some (C.m1,C.m2)
 h32:PySem.W.codeHdIn K C.m1 C.m2=true
theorem all_mk {ct:Addr}{ts:List Addr}{fa:Addr}(X:K.In h)(G:h.Ns mainGlobals mg)(hfa:mg "answers" =some (.ref fa))(W:Written K C)(T:Txt K mg C)(ap:C.Apart)
  (cg:mg "CALLS" =some (.ref ct)) (ca:∀H,SqT K H ct (ts.map V.ref)) (cl:ts.length=21) (cf:∀(i:Nat) (n:Nat) (r:Nat) (day:Bool) (x:Str),(forms[i]?=some (n,r,day,x))->∃(t f:Addr),ts[i]?=some t∧mg x=some (.ref f)∧∀H,SqT K H t [.int n,.int r,.bl day,.ref f]) :
  ∃fd:FuncData,(∀(s:Shared) (us:List Value),us.length=(["calls"]:List Str).length->BindsTo s fd ⟨us,[]⟩ ((["calls"]:List Str).zip us))∧∀base:Heap,K.In base->base.Ns mainGlobals mg->BMain mg base->Ay P w K mg base CX0 15 fa fd ["calls"] (Mt K C):=by
 obtain⟨f0,e0,m0,F0,o0,g0,w0⟩:=W.d0.Bf X G
 obtain⟨f1,e1,m1,F1,o1,g1,w1⟩:=W.d1.Bf X G
 obtain⟨f2,e2,m2,F2,o2,g2,w2⟩:=W.d2.Bf X G
 obtain⟨f3,e3,m3,F3,o3,g3,w3⟩:=W.d3.Bf X G
 obtain⟨f4,e4,m4,F4,o4,g4,w4⟩:=W.d4.Bf X G
 obtain⟨f5,e5,m5,F5,o5,g5,w5⟩:=W.d5.Bf X G
 obtain⟨f6,e6,m6,F6,o6,g6,w6⟩:=W.d6.Bf X G
 obtain⟨f7,e7,m7,F7,o7,g7,w7⟩:=W.d7.Bf X G
 obtain⟨f8,e8,m8,F8,o8,g8,w8⟩:=W.d8.Bf X G
 obtain⟨f9,e9,m9,F9,o9,g9,w9⟩:=W.d9.Bf X G
 obtain⟨f10,e10,m10,F10,o10,g10,w10⟩:=W.d10.Bf X G
 obtain⟨f11,e11,m11,F11,o11,g11,w11⟩:=W.d11.Bf X G
 obtain⟨f12,e12,m12,F12,o12,g12,w12⟩:=W.d12.Bf X G
 obtain⟨f13,e13,m13,F13,o13,g13,w13⟩:=W.d13.Bf X G
 obtain⟨f14,e14,m14,F14,o14,g14,w14⟩:=W.d14.Bf X G
 obtain⟨f15,e15,m15,F15,o15,g15,w15⟩:=W.d15.Bf X G
 obtain⟨f16,e16,m16,F16,o16,g16,w16⟩:=W.d16.Bf X G
 obtain⟨f17,e17,m17,F17,o17,g17,w17⟩:=W.d17.Bf X G
 obtain⟨f18,e18,m18,F18,o18,g18,w18⟩:=W.d18.Bf X G
 obtain⟨f19,e19,m19,F19,o19,g19,w19⟩:=W.d19.Bf X G
 obtain⟨f20,e20,m20,F20,o20,g20,w20⟩:=W.d20.Bf X G
 obtain⟨f21,e21,m21,F21,o21,g21,w21⟩:=W.d21.Bf X G
 obtain⟨f22,e22,m22,F22,o22,g22,w22⟩:=W.d22.Bf X G
 obtain⟨f23,e23,m23,F23,o23,g23,w23⟩:=W.d23.Bf X G
 obtain⟨f24,e24,m24,F24,o24,g24,w24⟩:=W.d24.Bf X G
 obtain⟨f25,e25,m25,F25,o25,g25,w25⟩:=W.d25.Bf X G
 obtain⟨f26,e26,m26,F26,o26,g26,w26⟩:=W.d26.Bf X G
 obtain⟨f27,e27,m27,F27,o27,g27,w27⟩:=W.d27.Bf X G
 obtain⟨f28,e28,m28,F28,o28,g28,w28⟩:=W.d28.Bf X G
 obtain⟨f29,e29,m29,F29,o29,g29,w29⟩:=W.d29.Bf X G
 obtain⟨f30,e30,m30,F30,o30,g30,w30⟩:=W.d30.Bf X G
 obtain⟨f31,e31,m31,F31,o31,g31,w31⟩:=W.d31.Bf X G
 obtain⟨f32,e32,m32,F32,o32,g32,w32⟩:=W.d32.Bf X G
 obtain⟨f33,e33,m33,F33,o33,g33,w33⟩:=W.d33.Bf X G
 obtain⟨f34,e34,m34,F34,o34,g34,w34⟩:=W.d34.Bf X G
 obtain⟨f35,e35,m35,F35,o35,g35,w35⟩:=W.d35.Bf X G
 obtain⟨f36,e36,m36,F36,o36,g36,w36⟩:=W.d36.Bf X G
 obtain⟨f37,e37,m37,F37,o37,g37,w37⟩:=W.d37.Bf X G
 obtain⟨f38,e38,m38,F38,o38,g38,w38⟩:=W.d38.Bf X G
 obtain⟨f44,e44,m44,F44,o44,g44,w44⟩:=W.d44.Bf X G
 obtain⟨f45,e45,m45,F45,o45,g45,w45⟩:=W.d45.Bf X G
 obtain⟨f46,e46,m46,F46,o46,g46,w46⟩:=W.d46.Bf X G
 obtain⟨f47,e47,m47,F47,o47,g47,w47⟩:=W.d47.Bf X G
 obtain⟨f48,e48,m48,F48,o48,g48,w48⟩:=W.d48.Bf X G
 obtain⟨f49,e49,m49,F49,o49,g49,w49⟩:=W.d49.Bf X G
 obtain⟨f50,e50,m50,F50,o50,g50,w50⟩:=W.d50.Bf X G
 obtain⟨f51,e51,m51,F51,o51,g51,w51⟩:=W.d51.Bf X G
 obtain⟨f52,e52,m52,F52,o52,g52,w52⟩:=W.d52.Bf X G
 obtain⟨f53,e53,m53,F53,o53,g53,w53⟩:=W.d53.Bf X G
 obtain⟨f54,e54,m54,F54,o54,g54,w54⟩:=W.d54.Bf X G
 obtain⟨f55,e55,m55,F55,o55,g55,w55⟩:=W.d55.Bf X G
 obtain⟨f56,e56,m56,F56,o56,g56,w56⟩:=W.d56.Bf X G
 obtain⟨f57,e57,m57,F57,o57,g57,w57⟩:=W.d57.Bf X G
 obtain⟨f58,e58,m58,F58,o58,g58,w58⟩:=W.d58.Bf X G
 obtain⟨f59,e59,m59,F59,o59,g59,w59⟩:=W.d59.Bf X G
 obtain⟨f60,e60,m60,F60,o60,g60,w60⟩:=W.d60.Bf X G
 obtain⟨f61,e61,m61,F61,o61,g61,w61⟩:=W.d61.Bf X G
 obtain⟨f62,e62,m62,F62,o62,g62,w62⟩:=W.d62.Bf X G
 obtain⟨f63,e63,m63,F63,o63,g63,w63⟩:=W.d63.Bf X G
 obtain⟨f64,e64,m64,F64,o64,g64,w64⟩:=W.d64.Bf X G
 obtain⟨f65,e65,m65,F65,o65,g65,w65⟩:=W.d65.Bf X G
 obtain⟨f66,e66,m66,F66,o66,g66,w66⟩:=W.d66.Bf X G
 obtain⟨f67,e67,m67,F67,o67,g67,w67⟩:=W.d67.Bf X G
 obtain⟨f68,e68,m68,F68,o68,g68,w68⟩:=W.d68.Bf X G
 obtain⟨f69,e69,m69,F69,o69,g69,w69⟩:=W.d69.Bf X G
 obtain⟨f70,e70,m70,F70,o70,g70,w70⟩:=W.d70.Bf X G
 obtain⟨f71,e71,m71,F71,o71,g71,w71⟩:=W.d71.Bf X G
 obtain⟨f72,e72,m72,F72,o72,g72,w72⟩:=W.d72.Bf X G
 obtain⟨f73,e73,m73,F73,o73,g73,w73⟩:=W.d73.Bf X G
 obtain⟨f74,e74,m74,F74,o74,g74,w74⟩:=W.d74.Bf X G
 obtain⟨f75,e75,m75,F75,o75,g75,w75⟩:=W.d75.Bf X G
 obtain⟨f76,e76,m76,F76,o76,g76,w76⟩:=W.d76.Bf X G
 obtain⟨f77,e77,m77,F77,o77,g77,w77⟩:=W.d77.Bf X G
 obtain⟨f78,e78,m78,F78,o78,g78,w78⟩:=W.d78.Bf X G
 obtain⟨f79,e79,m79,F79,o79,g79,w79⟩:=W.d79.Bf X G
 obtain⟨f80,e80,m80,F80,o80,g80,w80⟩:=W.d80.Bf X G
 obtain⟨f81,e81,m81,F81,o81,g81,w81⟩:=W.d81.Bf X G
 obtain⟨f82,e82,m82,F82,o82,g82,w82⟩:=W.d82.Bf X G
 obtain⟨f39,e39,m39,k39,F39⟩:=W.k39.Bf X G
 obtain⟨f40,e40,m40,k40,F40⟩:=W.k40.Bf X G
 obtain⟨f41,e41,m41,k41,F41⟩:=W.k41.Bf X G
 obtain⟨f42,e42,m42,k42,F42⟩:=W.k42.Bf X G
 obtain⟨f43,e43,m43,k43,F43⟩:=W.k43.Bf X G
 have c5:e5.code= .ref C.l1:=PySem.W.law_code X G W.t5 m5 g5 w5
 have c14:e14.code= .ref C.a1:=PySem.W.law_code X G W.t14 m14 g14 w14
 have c18:e18.code= .ref C.s1:=PySem.W.law_code X G W.t18 m18 g18 w18
 have c32:e32.code= .ref C.m1:=PySem.W.law_code X G W.t32 m32 g32 w32
 have e:=hfa.symm.trans m82
 cases e
 refine⟨e82,fun s us hu=>?_,fun base KB GB BM=>?_⟩
 ·obtain⟨oc,od,kV,doc,pm,an,cdv,c2,osl,rfl,lk,hcd⟩:=F82.ex
  obtain⟨_,rfl⟩:=len1 hu
  exact .of_eq rfl
 have b0:=F0.binds (ps:=["number"]) (by intro _ _ _ _ _ _ us hl;obtain⟨_,rfl⟩:=len1 hl;rfl)
 have G0:Ok P w K mg base "is_day" 1 ["number"] (Ci Vbnlag.dayOk):=Av m0 F0.kp b0 (Zy F0 T)
 have b1:=F1.binds (ps:=["kept", "name"]) (by intro _ _ _ _ _ _ us hl;obtain⟨_,_,rfl⟩:=len2 hl;rfl)
 have G1:Ok P w K mg base "name_day" 1 ["kept", "name"] (DY C):=Av m1 F1.kp b1 (Vu F1 T)
 have b2:=F2.binds (ps:=["kept", "act"]) (by intro _ _ _ _ _ _ us hl;obtain⟨_,_,rfl⟩:=len2 hl;rfl)
 have G2:Ok P w K mg base "act_day" 1 ["kept", "act"] (Dt C):=Av m2 F2.kp b2 (Xi F2 T)
 have b3:=F3.binds (ps:=["kept", "name"]) (by intro _ _ _ _ _ _ us hl;obtain⟨_,_,rfl⟩:=len2 hl;rfl)
 have G3:Ok P w K mg base "moment" 2 ["kept", "name"] (KJ C):=Av m3 F3.kp b3 (Zw F3 T G1)
 have b4:=F4.binds (ps:=["kept", "key", "d"]) (by intro _ _ _ _ _ _ us hl;obtain⟨_,_,_,rfl⟩:=Gh hl;rfl)
 have G4:Ok P w K mg base "acts_of_standing" 2 ["kept", "key", "d"] (KQ C):=Av m4 F4.kp b4 (Ju F4 T G2)
 have b5:=F5.binds (ps:=["kept", "acts"]) (by intro _ _ _ _ _ _ us hl;obtain⟨_,_,rfl⟩:=len2 hl;rfl)
 have G5:Ok P w K mg base "latest_act" 4 ["kept", "acts"] (KN K C):=Av m5 F5.kp b5 (RG F5 T ap ⟨PySem.W.codeHd_of_K KB W.h5,BM⟩ c5 G2)
 have b6:=F6.binds (ps:=["kept", "key", "d"]) (by intro _ _ _ _ _ _ us hl;obtain⟨_,_,_,rfl⟩:=Gh hl;rfl)
 have G6:Ok P w K mg base "stands" 5 ["kept", "key", "d"] (GD C):=Av m6 F6.kp b6 (Zv F6 T G1 G4 G5)
 have b7:=F7.binds (ps:=["kept", "key", "first_day", "last_day"]) (by intro _ _ _ _ _ _ us hl;obtain⟨_,_,_,_,rfl⟩:=O5 hl;rfl)
 have G7:Ok P w K mg base "works_using" 1 ["kept", "key", "first_day", "last_day"] (Tw C):=Av m7 F7.kp b7 (Qz F7 T)
 have b8:=F8.binds (ps:=["works"]) (by intro _ _ _ _ _ _ us hl;obtain⟨_,rfl⟩:=len1 hl;rfl)
 have G8:Ok P w K mg base "count_authors" 1 ["works"] (T4 K C):=Av m8 F8.kp b8 (MP F8 T)
 have b9:=F9.binds (ps:=["works"]) (by intro _ _ _ _ _ _ us hl;obtain⟨_,rfl⟩:=len1 hl;rfl)
 have G9:Ok P w K mg base "day_span" 1 ["works"] (WK K C):=Av m9 F9.kp b9 (Vv F9 T)
 have b10:=F10.binds (ps:=["kept", "reversal"]) (by intro _ _ _ _ _ _ us hl;obtain⟨_,_,rfl⟩:=len2 hl;rfl)
 have G10:Ok P w K mg base "tally" 2 ["kept", "reversal"] (Pb C):=Av m10 F10.kp b10 (Af6 F10 T G2 G7 G8 G9)
 have b11:=F11.binds (ps:=["code", "counts"]) (by intro _ _ _ _ _ _ us hl;obtain⟨_,_,rfl⟩:=len2 hl;rfl)
 have G11:Ok P w K mg base "is_used_enough" 1 ["code", "counts"] (WD K C):=Av m11 F11.kp b11 (Li F11 T)
 have b12:=F12.binds (ps:=["kept", "reversal"]) (by intro _ _ _ _ _ _ us hl;obtain⟨_,_,rfl⟩:=len2 hl;rfl)
 have G12:Ok P w K mg base "is_earned" 3 ["kept", "reversal"] (HY C):=Av m12 F12.kp b12 (Ul F12 T G3 G10 G11)
 have b13:=F13.binds (ps:=["kept", "act", "d"]) (by intro _ _ _ _ _ _ us hl;obtain⟨_,_,_,rfl⟩:=Gh hl;rfl)
 have G13:Ok P w K mg base "hindrance" 6 ["kept", "act", "d"] (TV C):=Av m13 F13.kp b13 (Uo F13 T G2 G1 G6 G12)
 have b14:=F14.binds (ps:=["kept", "d"]) (by intro _ _ _ _ _ _ us hl;obtain⟨_,_,rfl⟩:=len2 hl;rfl)
 have G14:Ok P w K mg base "asked_acts" 7 ["kept", "d"] (Ph C):=Av m14 F14.kp b14 (RJ F14 T ap ⟨PySem.W.codeHd_of_K KB W.h14,BM⟩ c14 G2 G13)
 have b15:=F15.binds (ps:=["lower_names", "start", "goal"]) (by intro _ _ _ _ _ _ us hl;obtain⟨_,_,_,rfl⟩:=Gh hl;rfl)
 have G15:Ok P w K mg base "leads" 1 ["lower_names", "start", "goal"] (TQ C):=Av m15 F15.kp b15 (Af7 F15 T)
 have b16:=F16.binds (ps:=["asked"]) (by intro _ _ _ _ _ _ us hl;obtain⟨_,rfl⟩:=len1 hl;rfl)
 have G16:Ok P w K mg base "lock" 2 ["asked"] (TJ K C):=Av m16 F16.kp b16 (Am1 F16 T G15)
 have b17:=F17.binds (ps:=["kept", "d"]) (by intro _ _ _ _ _ _ us hl;obtain⟨_,_,rfl⟩:=len2 hl;rfl)
 have G17:Ok P w K mg base "locked_acts" 8 ["kept", "d"] (HX C):=Av m17 F17.kp b17 (QG F17 T G16 G14)
 have b18:=F18.binds (ps:=["kept", "d"]) (by intro _ _ _ _ _ _ us hl;obtain⟨_,_,rfl⟩:=len2 hl;rfl)
 have G18:Ok P w K mg base "standing_by_age" 6 ["kept", "d"] (WR C):=Av m18 F18.kp b18 (J8 F18 T ap ⟨PySem.W.codeHd_of_K KB W.h18,BM⟩ c18 G6 G3)
 have b19:=F19.binds (ps:=["locked"]) (by intro _ _ _ _ _ _ us hl;obtain⟨_,rfl⟩:=len1 hl;rfl)
 have G19:Ok P w K mg base "names_above" 1 ["locked"] (T6 K C):=Av m19 F19.kp b19 (QD F19 T)
 have b20:=F20.binds (ps:=["key", "waiting", "above"]) (by intro _ _ _ _ _ _ us hl;obtain⟨_,_,_,rfl⟩:=Gh hl;rfl)
 have G20:Ok P w K mg base "is_held_back" 1 ["key", "waiting", "above"] (WM K C):=Av m20 F20.kp b20 (Ov F20 T)
 have b21:=F21.binds (ps:=["kept", "d"]) (by intro _ _ _ _ _ _ us hl;obtain⟨_,_,rfl⟩:=len2 hl;rfl)
 have G21:Ok P w K mg base "precedence" 9 ["kept", "d"] (KH C):=Av m21 F21.kp b21 (RD F21 T G19 G17 G18 G20)
 have b22:=F22.binds (ps:=["kept", "d", "wanted"]) (by intro _ _ _ _ _ _ us hl;obtain⟨_,_,_,rfl⟩:=Gh hl;rfl)
 have G22:Ok P w K mg base "way_to_name" 10 ["kept", "d", "wanted"] (Vd K C):=Av m22 F22.kp b22 (QB F22 T G21)
 have b23:=F23.binds (ps:=["kept", "d", "wanted"]) (by intro _ _ _ _ _ _ us hl;obtain⟨_,_,_,rfl⟩:=Gh hl;rfl)
 have G23:Ok P w K mg base "name_of_set" 11 ["kept", "d", "wanted"] (Pg K C):=Av m23 F23.kp b23 (QF F23 T G22)
 have b24:=F24.binds (ps:=["kept", "d", "a", "b"]) (by intro _ _ _ _ _ _ us hl;obtain⟨_,_,_,_,rfl⟩:=O5 hl;rfl)
 have G24:Ok P w K mg base "comes_before" 10 ["kept", "d", "a", "b"] (Qe C):=Av m24 F24.kp b24 (Ox F24 T G21)
 have b25:=F25.binds (ps:=["kept"]) (by intro _ _ _ _ _ _ us hl;obtain⟨_,rfl⟩:=len1 hl;rfl)
 have G25:Ok P w K mg base "days_of_change" 2 ["kept"] (WQ C):=Av m25 F25.kp b25 (Lj F25 T G1 G2)
 have b26:=F26.binds (ps:=["kept", "wanted"]) (by intro _ _ _ _ _ _ us hl;obtain⟨_,_,rfl⟩:=len2 hl;rfl)
 have G26:Ok P w K mg base "history" 12 ["kept", "wanted"] (Ms K C):=Av m26 F26.kp b26 (Xg F26 T G25 G23)
 have b27:=F27.binds (ps:=["kept", "act", "d"]) (by intro _ _ _ _ _ _ us hl;obtain⟨_,_,_,rfl⟩:=Gh hl;rfl)
 have G27:Ok P w K mg base "fate_of_one" 5 ["kept", "act", "d"] (TY C):=Av m27 F27.kp b27 (QJ F27 T G2 G4 G5)
 have b28:=F28.binds (ps:=["kept", "act", "d"]) (by intro _ _ _ _ _ _ us hl;obtain⟨_,_,_,rfl⟩:=Gh hl;rfl)
 have G28:Ok P w K mg base "fate_of_two" 9 ["kept", "act", "d"] (TX C):=Av m28 F28.kp b28 (QH F28 T G13 G17)
 have b29:=F29.binds (ps:=["kept", "act", "d"]) (by intro _ _ _ _ _ _ us hl;obtain⟨_,_,_,rfl⟩:=Gh hl;rfl)
 have G29:Ok P w K mg base "fate" 10 ["kept", "act", "d"] (T3 C):=Av m29 F29.kp b29 (Am2 F29 T G27 G28)
 have b30:=F30.binds (ps:=["kept", "act", "d"]) (by intro _ _ _ _ _ _ us hl;obtain⟨_,_,_,rfl⟩:=Gh hl;rfl)
 have G30:Ok P w K mg base "locked_before" 8 ["kept", "act", "d"] (T5 C):=Av m30 F30.kp b30 (MN F30 T G14 G16)
 have b31:=F31.binds (ps:=["acts", "goal"]) (by intro _ _ _ _ _ _ us hl;obtain⟨_,_,rfl⟩:=len2 hl;rfl)
 have G31:Ok P w K mg base "fewest_steps" 1 ["acts", "goal"] (Tz K C):=Av m31 F31.kp b31 (Ow F31 T)
 have b32:=F32.binds (ps:=["acts", "start", "goal"]) (by intro _ _ _ _ _ _ us hl;obtain⟨_,_,_,rfl⟩:=Gh hl;rfl)
 have G32:Ok P w K mg base "shortest_way" 3 ["acts", "start", "goal"] (TF K C):=Av m32 F32.kp b32 (Ot F32 T ap ⟨PySem.W.codeHd_of_K KB W.h32,BM⟩ c32 G31)
 have b33:=F33.binds (ps:=["kept", "act", "d"]) (by intro _ _ _ _ _ _ us hl;obtain⟨_,_,_,rfl⟩:=Gh hl;rfl)
 have G33:Ok P w K mg base "ring" 9 ["kept", "act", "d"] (WL C):=Av m33 F33.kp b33 (Am0 F33 T G32 G30)
 have b34:=F34.binds (ps:=["number"]) (by intro _ _ _ _ _ _ us hl;obtain⟨_,rfl⟩:=len1 hl;rfl)
 have G34:Ok P w K mg base "is_key" 1 ["number"] (Ci Vbnlag.keyOk):=Av m34 F34.kp b34 (Zx F34 T)
 have b35:=F35.binds (ps:=["number"]) (by intro _ _ _ _ _ _ us hl;obtain⟨_,rfl⟩:=len1 hl;rfl)
 have G35:Ok P w K mg base "is_page" 1 ["number"] (Ci fun z=>Vbnlag.within z 1 Vbnlag.MOSTPAGE):=Av m35 F35.kp b35 (Xe F35 T)
 have b36:=F36.binds (ps:=["number"]) (by intro _ _ _ _ _ _ us hl;obtain⟨_,rfl⟩:=len1 hl;rfl)
 have G36:Ok P w K mg base "is_demand" 1 ["number"] (Ci fun z=>Vbnlag.within z 0 1000):=Av m36 F36.kp b36 (Um F36 T)
 have b37:=F37.binds (ps:=["number"]) (by intro _ _ _ _ _ _ us hl;obtain⟨_,rfl⟩:=len1 hl;rfl)
 have G37:Ok P w K mg base "is_window" 1 ["number"] (Ci fun z=>Vbnlag.within z 1 (Vbnlag.LAST + 1)):=Av m37 F37.kp b37 (Uk F37 T)
 have b38:=F38.binds (ps:=["limit", "works", "authors", "window", "span"]) (by intro _ _ _ _ _ _ us hl;obtain⟨_,_,_,_,_,rfl⟩:=Ag9 hl;rfl)
 have G38:Ok P w K mg base "is_code" 2 ["limit", "works", "authors", "window", "span"] Qc:=Av m38 F38.kp b38 (Xf F38 T G0 G36 G37)
 have b39:=F39.binds (ps:=["self", "limit", "works", "authors", "window", "span"]) (by intro _ _ _ _ _ _ us hl;obtain⟨_,_,_,_,_,_,rfl⟩:=len6 hl;rfl)
 have M39:OkC P w K mg base "Code" C.code 1 ["self", "limit", "works", "authors", "window", "span"] (Hi C):=⟨f39,e39,m39,k39,b39,Am6 F39 T⟩
 have b40:=F40.binds (ps:=["self", "key", "day", "author"]) (by intro _ _ _ _ _ _ us hl;obtain⟨_,_,_,_,rfl⟩:=O5 hl;rfl)
 have M40:OkC P w K mg base "Work" C.work 1 ["self", "key", "day", "author"] (JT C):=⟨f40,e40,m40,k40,b40,Am3 F40 T⟩
 have b41:=F41.binds (ps:=["self", "key", "work", "page"]) (by intro _ _ _ _ _ _ us hl;obtain⟨_,_,_,_,rfl⟩:=O5 hl;rfl)
 have M41:OkC P w K mg base "Name" C.name 1 ["self", "key", "work", "page"] (JV C):=⟨f41,e41,m41,k41,b41,Am4 F41 T⟩
 have b42:=F42.binds (ps:=["self", "key", "kind", "work", "a", "b"]) (by intro _ _ _ _ _ _ us hl;obtain⟨_,_,_,_,_,_,rfl⟩:=len6 hl;rfl)
 have M42:OkC P w K mg base "Act" C.act 1 ["self", "key", "kind", "work", "a", "b"] (Jf C):=⟨f42,e42,m42,k42,b42,Av0 F42 T⟩
 have b43:=F43.binds (ps:=["self"]) (by intro _ _ _ _ _ _ us hl;obtain⟨_,rfl⟩:=len1 hl;rfl)
 have M43:OkC P w K mg base "Kept" C.kept 3 ["self"] (JW C):=⟨f43,e43,m43,k43,b43,Am5 F43 T M39⟩
 have b44:=F44.binds (ps:=["kept", "key", "day", "author"]) (by intro _ _ _ _ _ _ us hl;obtain⟨_,_,_,_,rfl⟩:=O5 hl;rfl)
 have G44:Ok P w K mg base "work_refusal" 2 ["kept", "key", "day", "author"] (Mp C):=Av m44 F44.kp b44 (Oq F44 T G0 G34)
 have b45:=F45.binds (ps:=["kept", "key", "work", "page"]) (by intro _ _ _ _ _ _ us hl;obtain⟨_,_,_,_,rfl⟩:=O5 hl;rfl)
 have G45:Ok P w K mg base "name_refusal" 2 ["kept", "key", "work", "page"] (Mr C):=Av m45 F45.kp b45 (Ou F45 T G35 G34)
 have b46:=F46.binds (ps:=["kept", "work", "name"]) (by intro _ _ _ _ _ _ us hl;obtain⟨_,_,_,rfl⟩:=Gh hl;rfl)
 have G46:Ok P w K mg base "use_refusal" 2 ["kept", "work", "name"] (Qa C):=Av m46 F46.kp b46 (QC F46 T G1)
 have b47:=F47.binds (ps:=["kept", "key", "work", "names"]) (by intro _ _ _ _ _ _ us hl;obtain⟨_,_,_,_,rfl⟩:=O5 hl;rfl)
 have G47:Ok P w K mg base "act_refusal" 2 ["kept", "key", "work", "names"] (KR K C):=Av m47 F47.kp b47 (QX F47 T G34)
 have b48:=F48.binds (ps:=["kept", "key", "day", "author"]) (by intro _ _ _ _ _ _ us hl;obtain⟨_,_,_,_,rfl⟩:=O5 hl;rfl)
 have G48:Ok P w K mg base "tell_work" 3 ["kept", "key", "day", "author"] (JN C):=Av m48 F48.kp b48 (Uh F48 T G44 M40)
 have b49:=F49.binds (ps:=["kept", "key", "work", "page"]) (by intro _ _ _ _ _ _ us hl;obtain⟨_,_,_,_,rfl⟩:=O5 hl;rfl)
 have G49:Ok P w K mg base "tell_name" 3 ["kept", "key", "work", "page"] (JQ C):=Av m49 F49.kp b49 (Ui F49 T G45 M41)
 have b50:=F50.binds (ps:=["kept", "work", "name"]) (by intro _ _ _ _ _ _ us hl;obtain⟨_,_,_,rfl⟩:=Gh hl;rfl)
 have G50:Ok P w K mg base "tell_use" 3 ["kept", "work", "name"] (Mq C):=Av m50 F50.kp b50 (Vt F50 T G46)
 have b51:=F51.binds (ps:=["kept", "kind", "key", "work", "a", "b"]) (by intro _ _ _ _ _ _ us hl;obtain⟨_,_,_,_,_,_,rfl⟩:=len6 hl;rfl)
 have G51:Ok P w K mg base "tell_act_of_two" 3 ["kept", "kind", "key", "work", "a", "b"] (KD C):=Av m51 F51.kp b51 (J6 F51 T G47 M42)
 have b52:=F52.binds (ps:=["kept", "kind", "key", "work", "a"]) (by intro _ _ _ _ _ _ us hl;obtain⟨_,_,_,_,_,rfl⟩:=Ag9 hl;rfl)
 have G52:Ok P w K mg base "tell_act_of_one" 3 ["kept", "kind", "key", "work", "a"] (Pa C):=Av m52 F52.kp b52 (J7 F52 T G47 M42)
 have b53:=F53.binds (ps:=["kept", "limit", "works", "authors", "window", "span"]) (by intro _ _ _ _ _ _ us hl;obtain⟨_,_,_,_,_,_,rfl⟩:=len6 hl;rfl)
 have G53:Ok P w K mg base "tell_code" 3 ["kept", "limit", "works", "authors", "window", "span"] (JR C):=Av m53 F53.kp b53 (Uj F53 T G38 M39)
 have b54:=F54.binds (ps:=["code"]) (by intro _ _ _ _ _ _ us hl;obtain⟨_,rfl⟩:=len1 hl;rfl)
 have G54:Ok P w K mg base "account_of_code" 1 ["code"] (WY C):=Av m54 F54.kp b54 (Ka F54 T)
 have b55:=F55.binds (ps:=["works"]) (by intro _ _ _ _ _ _ us hl;obtain⟨_,rfl⟩:=len1 hl;rfl)
 have G55:Ok P w K mg base "account_of_works" 1 ["works"] (WT C):=Av m55 F55.kp b55 (Jv F55 T)
 have b56:=F56.binds (ps:=["names"]) (by intro _ _ _ _ _ _ us hl;obtain⟨_,rfl⟩:=len1 hl;rfl)
 have G56:Ok P w K mg base "account_of_names" 1 ["names"] (WX C):=Av m56 F56.kp b56 (Jw F56 T)
 have b57:=F57.binds (ps:=["acts"]) (by intro _ _ _ _ _ _ us hl;obtain⟨_,rfl⟩:=len1 hl;rfl)
 have G57:Ok P w K mg base "account_of_acts" 1 ["acts"] (W0 C):=Av m57 F57.kp b57 (Kc F57 T)
 have b58:=F58.binds (ps:=["uses"]) (by intro _ _ _ _ _ _ us hl;obtain⟨_,rfl⟩:=len1 hl;rfl)
 have G58:Ok P w K mg base "account_of_uses" 1 ["uses"] (WW C):=Av m58 F58.kp b58 (J9 F58 T)
 have b59:=F59.binds (ps:=["kept"]) (by intro _ _ _ _ _ _ us hl;obtain⟨_,rfl⟩:=len1 hl;rfl)
 have G59:Ok P w K mg base "account" 2 ["kept"] (Mu C):=Av m59 F59.kp b59 (Xj F59 T G54 G55 G56 G58 G57)
 have b60:=F60.binds (ps:=["kept", "given"]) (by intro _ _ _ _ _ _ us hl;obtain⟨_,_,rfl⟩:=len2 hl;rfl)
 have G60:Ok P w K mg base "answer_code" 4 ["kept", "given"] (At9 C):=Av m60 F60.kp b60 (QW F60 T G53)
 have b61:=F61.binds (ps:=["kept", "given"]) (by intro _ _ _ _ _ _ us hl;obtain⟨_,_,rfl⟩:=len2 hl;rfl)
 have G61:Ok P w K mg base "answer_work" 4 ["kept", "given"] (At8 C):=Av m61 F61.kp b61 (QK F61 T G48)
 have b62:=F62.binds (ps:=["kept", "given"]) (by intro _ _ _ _ _ _ us hl;obtain⟨_,_,rfl⟩:=len2 hl;rfl)
 have G62:Ok P w K mg base "answer_name" 4 ["kept", "given"] (At7 C):=Av m62 F62.kp b62 (QT F62 T G49)
 have b63:=F63.binds (ps:=["kept", "given"]) (by intro _ _ _ _ _ _ us hl;obtain⟨_,_,rfl⟩:=len2 hl;rfl)
 have G63:Ok P w K mg base "answer_use" 4 ["kept", "given"] (At6 C):=Av m63 F63.kp b63 (RL F63 T G50)
 have b64:=F64.binds (ps:=["kept", "given"]) (by intro _ _ _ _ _ _ us hl;obtain⟨_,_,rfl⟩:=len2 hl;rfl)
 have G64:Ok P w K mg base "answer_choice" 4 ["kept", "given"] (At5 C):=Av m64 F64.kp b64 (M6 F64 T G51)
 have b65:=F65.binds (ps:=["kept", "given"]) (by intro _ _ _ _ _ _ us hl;obtain⟨_,_,rfl⟩:=len2 hl;rfl)
 have G65:Ok P w K mg base "answer_reverse" 4 ["kept", "given"] (At4 C):=Av m65 F65.kp b65 (Lk F65 T G51)
 have b66:=F66.binds (ps:=["kept", "given"]) (by intro _ _ _ _ _ _ us hl;obtain⟨_,_,rfl⟩:=len2 hl;rfl)
 have G66:Ok P w K mg base "answer_rule" 4 ["kept", "given"] (At3 C):=Av m66 F66.kp b66 (QM F66 T G51)
 have b67:=F67.binds (ps:=["kept", "given"]) (by intro _ _ _ _ _ _ us hl;obtain⟨_,_,rfl⟩:=len2 hl;rfl)
 have G67:Ok P w K mg base "answer_aside" 4 ["kept", "given"] (At2 C):=Av m67 F67.kp b67 (O2 F67 T G52)
 have b68:=F68.binds (ps:=["kept", "given"]) (by intro _ _ _ _ _ _ us hl;obtain⟨_,_,rfl⟩:=len2 hl;rfl)
 have G68:Ok P w K mg base "answer_restore" 4 ["kept", "given"] (At1 C):=Av m68 F68.kp b68 (Ln F68 T G52)
 have b69:=F69.binds (ps:=["kept", "given"]) (by intro _ _ _ _ _ _ us hl;obtain⟨_,_,rfl⟩:=len2 hl;rfl)
 have G69:Ok P w K mg base "answer_stands" 6 ["kept", "given"] (At0 C):=Av m69 F69.kp b69 (M4 F69 T G6)
 have b70:=F70.binds (ps:=["kept", "given"]) (by intro _ _ _ _ _ _ us hl;obtain⟨_,_,rfl⟩:=len2 hl;rfl)
 have G70:Ok P w K mg base "answer_order" 10 ["kept", "given"] (Ac8 C):=Av m70 F70.kp b70 (OD F70 T G21)
 have b71:=F71.binds (ps:=["kept", "given"]) (by intro _ _ _ _ _ _ us hl;obtain⟨_,_,rfl⟩:=len2 hl;rfl)
 have G71:Ok P w K mg base "answer_first" 12 ["kept", "given"] (Ac7 C):=Av m71 F71.kp b71 (OJ F71 T G23)
 have b72:=F72.binds (ps:=["kept", "given"]) (by intro _ _ _ _ _ _ us hl;obtain⟨_,_,rfl⟩:=len2 hl;rfl)
 have G72:Ok P w K mg base "answer_why" 11 ["kept", "given"] (Ac6 C):=Av m72 F72.kp b72 (RK F72 T G22)
 have b73:=F73.binds (ps:=["kept", "given"]) (by intro _ _ _ _ _ _ us hl;obtain⟨_,_,rfl⟩:=len2 hl;rfl)
 have G73:Ok P w K mg base "answer_before" 11 ["kept", "given"] (Ac4 C):=Av m73 F73.kp b73 (M7 F73 T G6 G24)
 have b74:=F74.binds (ps:=["kept", "given"]) (by intro _ _ _ _ _ _ us hl;obtain⟨_,_,rfl⟩:=len2 hl;rfl)
 have G74:Ok P w K mg base "answer_check" 11 ["kept", "given"] (Ac5 C):=Av m74 F74.kp b74 (O1 F74 T G22)
 have b75:=F75.binds (ps:=["kept", "given"]) (by intro _ _ _ _ _ _ us hl;obtain⟨_,_,rfl⟩:=len2 hl;rfl)
 have G75:Ok P w K mg base "answer_fate" 11 ["kept", "given"] (Ac3 C):=Av m75 F75.kp b75 (QV F75 T G29)
 have b76:=F76.binds (ps:=["kept", "given"]) (by intro _ _ _ _ _ _ us hl;obtain⟨_,_,rfl⟩:=len2 hl;rfl)
 have G76:Ok P w K mg base "answer_ring" 11 ["kept", "given"] (Ac2 C):=Av m76 F76.kp b76 (QS F76 T G29 G33)
 have b77:=F77.binds (ps:=["kept", "given"]) (by intro _ _ _ _ _ _ us hl;obtain⟨_,_,rfl⟩:=len2 hl;rfl)
 have G77:Ok P w K mg base "answer_tally" 4 ["kept", "given"] (Ac1 C):=Av m77 F77.kp b77 (Oz F77 T G10 G12)
 have b78:=F78.binds (ps:=["kept", "given"]) (by intro _ _ _ _ _ _ us hl;obtain⟨_,_,rfl⟩:=len2 hl;rfl)
 have G78:Ok P w K mg base "answer_history" 13 ["kept", "given"] (Ac0 C):=Av m78 F78.kp b78 (Lp F78 T G26)
 have b79:=F79.binds (ps:=["kept", "given"]) (by intro _ _ _ _ _ _ us hl;obtain⟨_,_,rfl⟩:=len2 hl;rfl)
 have G79:Ok P w K mg base "answer_locked" 9 ["kept", "given"] (Ab9 C):=Av m79 F79.kp b79 (M5 F79 T G17)
 have b80:=F80.binds (ps:=["kept", "given"]) (by intro _ _ _ _ _ _ us hl;obtain⟨_,_,rfl⟩:=len2 hl;rfl)
 have G80:Ok P w K mg base "answer_told" 3 ["kept", "given"] (Ab8 C):=Av m80 F80.kp b80 (QL F80 T G59)
 have CT:Rv P w K mg base C ct ts:=by
  refine⟨cg,ca,cl,fun i hi=>?_⟩
  rw[cl]at hi
  have key:∀(j n r:Nat) (day:Bool) (x:Str),forms[j]?=some (n,r,day,x)->∀(hj:j < ts.length),∃f,mg x=some (.ref f)∧∀H,SqT K H ts[j] [.int n,.int r,.bl day,.ref f]:=fun j n r day x hj hl=>by
   obtain⟨t,f,h1,h2,h3⟩:=cf j n r day x hj
   rw[List.getElem?_eq_getElem hl]at h1
   cases h1
   exact⟨f,h2,h3⟩
  have al:∀(i:Nat),i < 21->∀hi:i < ts.length,Form P w K mg base C i ts[i]:=by
   refine lt21 ?_ ?_ ?_ ?_ ?_ ?_ ?_ ?_ ?_ ?_ ?_ ?_ ?_ ?_ ?_ ?_ ?_ ?_ ?_ ?_ ?_
   ·intro hj
    obtain⟨f,h2,h3⟩:=key 0 _ _ _ _ rfl hj
    exact Aw8 G60 h2 h3
   ·intro hj
    obtain⟨f,h2,h3⟩:=key 1 _ _ _ _ rfl hj
    exact Aw7 G61 h2 h3
   ·intro hj
    obtain⟨f,h2,h3⟩:=key 2 _ _ _ _ rfl hj
    exact Aw6 G62 h2 h3
   ·intro hj
    obtain⟨f,h2,h3⟩:=key 3 _ _ _ _ rfl hj
    exact Aw5 G63 h2 h3
   ·intro hj
    obtain⟨f,h2,h3⟩:=key 4 _ _ _ _ rfl hj
    exact Aw4 G64 h2 h3
   ·intro hj
    obtain⟨f,h2,h3⟩:=key 5 _ _ _ _ rfl hj
    exact Aw3 G65 h2 h3
   ·intro hj
    obtain⟨f,h2,h3⟩:=key 6 _ _ _ _ rfl hj
    exact Aw2 G66 h2 h3
   ·intro hj
    obtain⟨f,h2,h3⟩:=key 7 _ _ _ _ rfl hj
    exact Aw1 G67 h2 h3
   ·intro hj
    obtain⟨f,h2,h3⟩:=key 8 _ _ _ _ rfl hj
    exact Aw0 G68 h2 h3
   ·intro hj
    obtain⟨f,h2,h3⟩:=key 9 _ _ _ _ rfl hj
    exact Av9 G69 h2 h3
   ·intro hj
    obtain⟨f,h2,h3⟩:=key 10 _ _ _ _ rfl hj
    exact Ap4 G70 h2 h3
   ·intro hj
    obtain⟨f,h2,h3⟩:=key 11 _ _ _ _ rfl hj
    exact Ap3 G71 h2 h3
   ·intro hj
    obtain⟨f,h2,h3⟩:=key 12 _ _ _ _ rfl hj
    exact Ap2 G72 h2 h3
   ·intro hj
    obtain⟨f,h2,h3⟩:=key 13 _ _ _ _ rfl hj
    exact Ap1 G74 h2 h3
   ·intro hj
    obtain⟨f,h2,h3⟩:=key 14 _ _ _ _ rfl hj
    exact Ap0 G73 h2 h3
   ·intro hj
    obtain⟨f,h2,h3⟩:=key 15 _ _ _ _ rfl hj
    exact Ao9 G75 h2 h3
   ·intro hj
    obtain⟨f,h2,h3⟩:=key 16 _ _ _ _ rfl hj
    exact Ao8 G76 h2 h3
   ·intro hj
    obtain⟨f,h2,h3⟩:=key 17 _ _ _ _ rfl hj
    exact Ao7 G77 h2 h3
   ·intro hj
    obtain⟨f,h2,h3⟩:=key 18 _ _ _ _ rfl hj
    exact Ao6 G78 h2 h3
   ·intro hj
    obtain⟨f,h2,h3⟩:=key 19 _ _ _ _ rfl hj
    exact Ao5 G79 h2 h3
   ·intro hj
    obtain⟨f,h2,h3⟩:=key 20 _ _ _ _ rfl hj
    exact Ao4 G80 h2 h3
  exact al i hi _
 have b81:=F81.binds (ps:=["kept", "number", "given"]) (by intro _ _ _ _ _ _ us hl;obtain⟨_,_,_,rfl⟩:=Gh hl;rfl)
 have G81:Ok P w K mg base "answer_one" 14 ["kept", "number", "given"] (Ab7 C):=Av m81 F81.kp b81 (RM F81 T CT G0)
 exact Xh F82 T CT M43 G81
end
end Nm
open PySem PySem.W PyProof.Rows
theorem Nm.DR {K:Frag}{h:Heap}{mg:Str->Option Value}{n:Str}{z:Int}{t:Tok}(X:K.In h)(G:h.Ns mainGlobals mg)(e:nsIn K mainGlobals n=some (some (.int z t))):Nm.Dq mg n z:=⟨t,PySem.W.mg_of X G e⟩
theorem Nm.Ay4 {K:Frag}{t:Addr}{d:Option Addr}{its:Array Value}{n:Nat}{sl:Array (Option Value)}{xs:List L2.V}(l:K.lookup t=some ⟨.type "tuple",d,.seq its n,sl⟩)(z:its.size<=sizeLine)(v:L2.Vals xs its.toList):∀H,L2.SqT K H t xs:=fun H=> .inr ⟨_,its,n,l,rfl,rfl,z,v⟩
theorem Nm.Dd {K:Frag}{h:Heap}{mg:Str->Option Value}{ts:List Addr}{i n r nn:Nat}{day:Bool}{x:Str}{t f:Addr}{d:Option Addr}{its:Array Value}{sl:Array (Option Value)}(e:ts[i]?=some t)(X:K.In h)(G:h.Ns mainGlobals mg)(m:nsIn K mainGlobals x=some (some (.ref f)))(l:K.lookup t=some ⟨.type "tuple",d,.seq its nn,sl⟩)(z:its.size<=sizeLine)(v:L2.Vals [.int n,.int r,.bl day,.ref f] its.toList) :
  ∃(t f:Addr),ts[i]?=some t∧mg x=some (.ref f)∧∀H,L2.SqT K H t [.int n,.int r,.bl day,.ref f]:=⟨t,f,e,PySem.W.mg_of X G m,Nm.Ay4 l z v⟩
theorem Nm.Ak0 {K:Frag}{H0 H:L2.Hp}{a:Addr}{xs:List L2.V}(hsub:∀(b:Addr)(o:L2.HO),H0 b=some o->H b=some o)(hs:L2.SqL K H0 a xs):L2.SqL K H a xs:=by
 rcases hs with(hs | ⟨ob,hs⟩) | hs
 ·exact .inl (.inl (hsub _ _ hs))
 ·exact .inl (.inr ⟨ob,hsub _ _ hs⟩)
 ·exact .inr hs
abbrev Nm.CC:Nm.Cl:=⟨108,129,150,171,192,264,260,283,281,309,307,397,395⟩
namespace PySem.W.Fast
def tw6088971711106740625:=0
def tw1201587549268581378:=0
def tw12385470884024178786:=0
def tw1074440792553787618:=0
def tw1597887457184780205:=0
def tw3327488735198823263:=0
def tw2883648379811957481:=0
def tw6137418654871393147:=0
def tw2435850274139074042:=0
def tw18339153509709833732:=0
def tw12777388160631511598:=0
def tw570259145538615961:=0
def tw12016458414413683769:=0
def tw12914468990631150105:=0
def tw17514276418751785739:=0
def tw14715810036599049032:=0
def tw14233598530176425574:=0
def tw10233639635968215511:=0
def tw104060349773765211:=0
def tw13044443745153033868:=0
def tw750362034681768680:=0
def tw8923598164617313887:=0
def tw6396808693933473714:=0
def tw17123904576075878327:=0
def tw9290918356181594772:=0
def tw12665965222477066054:=0
def tw10157172225739104606:=0
def tw7518789672715570204:=0
def tw2551351787880753542:=0
def tw5671813289497826385:=0
def tw1683122219603712402:=0
def tw18275114381676775851:=0
def tw8092806948824763137:=0
def tw2152440931368950496:=0
def tw8527431875127656945:=0
def tw4928440690321731138:=0
def tw10783066486533746571:=0
def tw7661113106768730899:=0
def tw14462388511600269740:=0
def tw3440227064371267229:=0
def tw16439358435225896186:=0
def tw16107108164028236671:=0
def tw1707947330619897254:=0
def tw6605741326265433485:=0
def tw8569692602395308478:=0
def tw17620400774397956220:=0
def tw16679389899767968450:=0
def tw6777383953441258571:=0
def tw3056450838039200790:=0
def tw12818067417765032752:=0
def tw9528047818499094914:=0
def tw2750199617666358945:=0
def tw1972026572357467074:=0
def tw12642751484887260234:=0
def tw9711310919789660110:=0
def tw16264017826480044691:=0
def tw13206118966090450544:=0
def tw10744771603191683283:=0
def tw2562147870870680168:=0
def tw2196355815149764602:=0
def tw18392583975747141479:=0
def tw15991798352337650242:=0
def tw4098348909555445968:=0
def tw13982395080925493239:=0
def tw10179276781718389470:=0
def tw15847370592652335596:=0
def tw5289890997055625192:=0
def tw7241386007873580232:=0
def tw13252074046784460118:=0
def tw11583979728860047084:=0
def tw4241460200346095747:=0
def tw12902294820688025082:=0
def tw7635879435387521402:=0
def tw13148911064993234706:=0
def tw9731380988441198770:=0
def tw15410674882910755017:=0
def tw3941289444960159938:=0
end PySem.W.Fast
set_option maxRecDepth 100000 in
set_option maxHeartbeats 0 in
theorem PySem.Challenge.cw_nameorder_s01_answers_holds : PySem.Challenge.rw_nameorder_s01_answers.Holds := by
  w_on; k_headS; (case hw => exact ⟨[.list [.int 20]], by decide +kernel, by decide +kernel⟩)
  k_fillS
  refine L2.Wr (r := PySem.Challenge.rw_nameorder_s01_answers) (k := 15) (CX := L2.CX0) (ps := ["calls"]) (sp := fun K => Nm.Mt K Nm.CC) (tabs := [(264, 260), (283, 281), (309, 307), (397, 395)]) (by decide +kernel) rfl rfl ⟨rfl, by decide, by decide⟩ (fun w h Y => PySem.W.kIn_of Y) ?NT ?TB ?F ?S (fun _ _ _ _ z => z)
  case NT =>
    intro w
    kernel_rfl
  case TB =>
    intro w s0 s1 mg mb G KX t ht
    simp only [List.mem_cons, List.not_mem_nil, or_false] at ht
    rcases ht with rfl | rfl | rfl | rfl
    · exact PySem.W.tab_of (x := "latest_act") G.T KX (by rfl) (by kernel_rfl)
    · exact PySem.W.tab_of (x := "asked_acts") G.T KX (by rfl) (by kernel_rfl)
    · exact PySem.W.tab_of (x := "standing_by_age") G.T KX (by rfl) (by kernel_rfl)
    · exact PySem.W.tab_of (x := "shortest_way") G.T KX (by rfl) (by kernel_rfl)
  case F =>
    intro w mg fa h Y KX G hmg
    refine' Nm.all_mk (ts := [626, 627, 628, 629, 630, 631, 632, 633, 634, 635, 636, 637, 638, 639, 640, 641, 642, 643, 644, 645, 646]) KX G hmg ?W ?T ⟨by decide, by decide, by decide, by decide, by decide, by decide⟩  (PySem.W.mg_of KX G ?cg) ?ca ?cl ?cf
    case T => exact ⟨⟨⟨by k_is, by k_is, by k_is, by k_is⟩, ⟨by k_is, by k_is, by k_is, by k_is⟩, ⟨by k_is, by k_is, by k_is, by k_is⟩, ⟨by k_is, by k_is, by k_is, by k_is⟩, ⟨by k_is, by k_is, by k_is, by k_is⟩, (by unfold L2.Bb; k_is), (by unfold L2.Bb; k_is), (by unfold L2.Bb; k_is), (by unfold L2.Bb; k_is), (by unfold L2.Bb; k_is), (by unfold L2.Bb; k_is), (by unfold L2.Bb; k_is), (by unfold L2.Bb; k_is), (by unfold L2.Bb; k_is), (by unfold L2.Bb; k_is), (by unfold L2.Bb; k_is), (by unfold L2.Bb; k_is), (by unfold L2.Bb; k_is), (by unfold L2.Bb; k_is), (by unfold L2.Bb; k_is), (by unfold L2.Bb; k_is), (by unfold L2.Bb; k_is), (by unfold L2.Bb; k_is), (by unfold L2.Bb; k_is), (by unfold L2.Bb; k_is), (by unfold L2.Bb; k_is)⟩, Nm.DR KX G (by k_is), Nm.DR KX G (by k_is), Nm.DR KX G (by k_is), Nm.DR KX G (by k_is), Nm.DR KX G (by k_is), Nm.DR KX G (by k_is), Nm.DR KX G (by k_is), Nm.DR KX G (by k_is), Nm.DR KX G (by k_is), Nm.DR KX G (by k_is), Nm.DR KX G (by k_is), Nm.DR KX G (by k_is), Nm.DR KX G (by k_is), Nm.DR KX G (by k_is), Nm.DR KX G (by k_is), Nm.DR KX G (by k_is), Nm.DR KX G (by k_is), Nm.DR KX G (by k_is), Nm.DR KX G (by k_is), Nm.DR KX G (by k_is), Nm.DR KX G (by k_is), Nm.DR KX G (by k_is), Nm.DR KX G (by k_is), Nm.DR KX G (by k_is), Nm.DR KX G (by k_is), Nm.DR KX G (by k_is), Nm.DR KX G (by k_is), Nm.DR KX G (by k_is), PySem.W.mg_none_of KX G (by k_is), PySem.W.mg_none_of KX G (by k_is), PySem.W.mg_none_of KX G (by k_is), PySem.W.mg_none_of KX G (by k_is), PySem.W.mg_none_of KX G (by k_is), PySem.W.mg_none_of KX G (by k_is), PySem.W.mg_none_of KX G (by k_is), PySem.W.mg_none_of KX G (by k_is)⟩
    case W => exact ⟨.mk' (by k_is) (by k_is) (by k_is) (by k_is), .mk' (by k_is) (by k_is) (by k_is) (by k_is), .mk' (by k_is) (by k_is) (by k_is) (by k_is), .mk' (by k_is) (by k_is) (by k_is) (by k_is), .mk' (by k_is) (by k_is) (by k_is) (by k_is), .mk' (by k_is) (by k_is) (by k_is) (by k_is), .mk' (by k_is) (by k_is) (by k_is) (by k_is), .mk' (by k_is) (by k_is) (by k_is) (by k_is), .mk' (by k_is) (by k_is) (by k_is) (by k_is), .mk' (by k_is) (by k_is) (by k_is) (by k_is), .mk' (by k_is) (by k_is) (by k_is) (by k_is), .mk' (by k_is) (by k_is) (by k_is) (by k_is), .mk' (by k_is) (by k_is) (by k_is) (by k_is), .mk' (by k_is) (by k_is) (by k_is) (by k_is), .mk' (by k_is) (by k_is) (by k_is) (by k_is), .mk' (by k_is) (by k_is) (by k_is) (by k_is), .mk' (by k_is) (by k_is) (by k_is) (by k_is), .mk' (by k_is) (by k_is) (by k_is) (by k_is), .mk' (by k_is) (by k_is) (by k_is) (by k_is), .mk' (by k_is) (by k_is) (by k_is) (by k_is), .mk' (by k_is) (by k_is) (by k_is) (by k_is), .mk' (by k_is) (by k_is) (by k_is) (by k_is), .mk' (by k_is) (by k_is) (by k_is) (by k_is), .mk' (by k_is) (by k_is) (by k_is) (by k_is), .mk' (by k_is) (by k_is) (by k_is) (by k_is), .mk' (by k_is) (by k_is) (by k_is) (by k_is), .mk' (by k_is) (by k_is) (by k_is) (by k_is), .mk' (by k_is) (by k_is) (by k_is) (by k_is), .mk' (by k_is) (by k_is) (by k_is) (by k_is), .mk' (by k_is) (by k_is) (by k_is) (by k_is), .mk' (by k_is) (by k_is) (by k_is) (by k_is), .mk' (by k_is) (by k_is) (by k_is) (by k_is), .mk' (by k_is) (by k_is) (by k_is) (by k_is), .mk' (by k_is) (by k_is) (by k_is) (by k_is), .mk' (by k_is) (by k_is) (by k_is) (by k_is), .mk' (by k_is) (by k_is) (by k_is) (by k_is), .mk' (by k_is) (by k_is) (by k_is) (by k_is), .mk' (by k_is) (by k_is) (by k_is) (by k_is), .mk' (by k_is) (by k_is) (by k_is) (by k_is), .mk' (by k_is) (by k_is) (by k_is) (by k_is), .mk' (by k_is) (by k_is) (by k_is) (by k_is), .mk' (by k_is) (by k_is) (by k_is) (by k_is), .mk' (by k_is) (by k_is) (by k_is) (by k_is), .mk' (by k_is) (by k_is) (by k_is) (by k_is), .mk' (by k_is) (by k_is) (by k_is) (by k_is), .mk' (by k_is) (by k_is) (by k_is) (by k_is), .mk' (by k_is) (by k_is) (by k_is) (by k_is), .mk' (by k_is) (by k_is) (by k_is) (by k_is), .mk' (by k_is) (by k_is) (by k_is) (by k_is), .mk' (by k_is) (by k_is) (by k_is) (by k_is), .mk' (by k_is) (by k_is) (by k_is) (by k_is), .mk' (by k_is) (by k_is) (by k_is) (by k_is), .mk' (by k_is) (by k_is) (by k_is) (by k_is), .mk' (by k_is) (by k_is) (by k_is) (by k_is), .mk' (by k_is) (by k_is) (by k_is) (by k_is), .mk' (by k_is) (by k_is) (by k_is) (by k_is), .mk' (by k_is) (by k_is) (by k_is) (by k_is), .mk' (by k_is) (by k_is) (by k_is) (by k_is), .mk' (by k_is) (by k_is) (by k_is) (by k_is), .mk' (by k_is) (by k_is) (by k_is) (by k_is), .mk' (by k_is) (by k_is) (by k_is) (by k_is), .mk' (by k_is) (by k_is) (by k_is) (by k_is), .mk' (by k_is) (by k_is) (by k_is) (by k_is), .mk' (by k_is) (by k_is) (by k_is) (by k_is), .mk' (by k_is) (by k_is) (by k_is) (by k_is), .mk' (by k_is) (by k_is) (by k_is) (by k_is), .mk' (by k_is) (by k_is) (by k_is) (by k_is), .mk' (by k_is) (by k_is) (by k_is) (by k_is), .mk' (by k_is) (by k_is) (by k_is) (by k_is), .mk' (by k_is) (by k_is) (by k_is) (by k_is), .mk' (by k_is) (by k_is) (by k_is) (by k_is), .mk' (by k_is) (by k_is) (by k_is) (by k_is), .mk' (by k_is) (by k_is) (by k_is) (by k_is), .mk' (by k_is) (by k_is) (by k_is) (by k_is), .mk' (by k_is) (by k_is) (by k_is) (by k_is), .mk' (by k_is) (by k_is) (by k_is) (by k_is), .mk' (by k_is) (by k_is) (by k_is) (by k_is), .mk' (by k_is) (by k_is) (by k_is) (by k_is), .mk' (by k_is) (by k_is) (by k_is) (by k_is) (by k_is) (by k_is) (by k_is) (by k_is), .mk' (by k_is) (by k_is) (by k_is) (by k_is) (by k_is) (by k_is) (by k_is) (by k_is), .mk' (by k_is) (by k_is) (by k_is) (by k_is) (by k_is) (by k_is) (by k_is) (by k_is), .mk' (by k_is) (by k_is) (by k_is) (by k_is) (by k_is) (by k_is) (by k_is) (by k_is), .mk' (by k_is) (by k_is) (by k_is) (by k_is) (by k_is) (by k_is) (by k_is) (by k_is), by kernel_rfl, by kernel_rfl, by kernel_rfl, by kernel_rfl, by kernel_rfl, by kernel_rfl, by kernel_rfl, by kernel_rfl⟩
    case cg => k_is
    case ca =>
      refine' Nm.Ay4 ?l ?z ?v
      (case l => k_is); (case z => decide +kernel)
      case v => exact (.cons rfl (.cons rfl (.cons rfl (.cons rfl (.cons rfl (.cons rfl (.cons rfl (.cons rfl (.cons rfl (.cons rfl (.cons rfl (.cons rfl (.cons rfl (.cons rfl (.cons rfl (.cons rfl (.cons rfl (.cons rfl (.cons rfl (.cons rfl (.cons rfl .nil)))))))))))))))))))))
    case cl => rfl
    case cf =>
      intro i n r day x hx
      match i, hx with
      | 0, hx =>
        have hx : some (5, 0, false, ("answer_code" : Str)) = some (n, r, day, x) := hx
        cases hx
        refine' Nm.Dd (t := 626) rfl KX G ?m ?l ?z ?v
        (case m => k_is); (case l => k_is); (case z => decide +kernel)
        case v => exact .cons ⟨_, rfl⟩ (.cons ⟨_, rfl⟩ (.cons rfl (.cons rfl .nil)))
      | 1, hx =>
        have hx : some (3, 0, false, ("answer_work" : Str)) = some (n, r, day, x) := hx
        cases hx
        refine' Nm.Dd (t := 627) rfl KX G ?m ?l ?z ?v
        (case m => k_is); (case l => k_is); (case z => decide +kernel)
        case v => exact .cons ⟨_, rfl⟩ (.cons ⟨_, rfl⟩ (.cons rfl (.cons rfl .nil)))
      | 2, hx =>
        have hx : some (3, 0, false, ("answer_name" : Str)) = some (n, r, day, x) := hx
        cases hx
        refine' Nm.Dd (t := 628) rfl KX G ?m ?l ?z ?v
        (case m => k_is); (case l => k_is); (case z => decide +kernel)
        case v => exact .cons ⟨_, rfl⟩ (.cons ⟨_, rfl⟩ (.cons rfl (.cons rfl .nil)))
      | 3, hx =>
        have hx : some (2, 0, false, ("answer_use" : Str)) = some (n, r, day, x) := hx
        cases hx
        refine' Nm.Dd (t := 629) rfl KX G ?m ?l ?z ?v
        (case m => k_is); (case l => k_is); (case z => decide +kernel)
        case v => exact .cons ⟨_, rfl⟩ (.cons ⟨_, rfl⟩ (.cons rfl (.cons rfl .nil)))
      | 4, hx =>
        have hx : some (4, 0, false, ("answer_choice" : Str)) = some (n, r, day, x) := hx
        cases hx
        refine' Nm.Dd (t := 630) rfl KX G ?m ?l ?z ?v
        (case m => k_is); (case l => k_is); (case z => decide +kernel)
        case v => exact .cons ⟨_, rfl⟩ (.cons ⟨_, rfl⟩ (.cons rfl (.cons rfl .nil)))
      | 5, hx =>
        have hx : some (4, 0, false, ("answer_reverse" : Str)) = some (n, r, day, x) := hx
        cases hx
        refine' Nm.Dd (t := 631) rfl KX G ?m ?l ?z ?v
        (case m => k_is); (case l => k_is); (case z => decide +kernel)
        case v => exact .cons ⟨_, rfl⟩ (.cons ⟨_, rfl⟩ (.cons rfl (.cons rfl .nil)))
      | 6, hx =>
        have hx : some (4, 0, false, ("answer_rule" : Str)) = some (n, r, day, x) := hx
        cases hx
        refine' Nm.Dd (t := 632) rfl KX G ?m ?l ?z ?v
        (case m => k_is); (case l => k_is); (case z => decide +kernel)
        case v => exact .cons ⟨_, rfl⟩ (.cons ⟨_, rfl⟩ (.cons rfl (.cons rfl .nil)))
      | 7, hx =>
        have hx : some (3, 0, false, ("answer_aside" : Str)) = some (n, r, day, x) := hx
        cases hx
        refine' Nm.Dd (t := 633) rfl KX G ?m ?l ?z ?v
        (case m => k_is); (case l => k_is); (case z => decide +kernel)
        case v => exact .cons ⟨_, rfl⟩ (.cons ⟨_, rfl⟩ (.cons rfl (.cons rfl .nil)))
      | 8, hx =>
        have hx : some (3, 0, false, ("answer_restore" : Str)) = some (n, r, day, x) := hx
        cases hx
        refine' Nm.Dd (t := 634) rfl KX G ?m ?l ?z ?v
        (case m => k_is); (case l => k_is); (case z => decide +kernel)
        case v => exact .cons ⟨_, rfl⟩ (.cons ⟨_, rfl⟩ (.cons rfl (.cons rfl .nil)))
      | 9, hx =>
        have hx : some (2, 0, true, ("answer_stands" : Str)) = some (n, r, day, x) := hx
        cases hx
        refine' Nm.Dd (t := 635) rfl KX G ?m ?l ?z ?v
        (case m => k_is); (case l => k_is); (case z => decide +kernel)
        case v => exact .cons ⟨_, rfl⟩ (.cons ⟨_, rfl⟩ (.cons rfl (.cons rfl .nil)))
      | 10, hx =>
        have hx : some (1, 0, true, ("answer_order" : Str)) = some (n, r, day, x) := hx
        cases hx
        refine' Nm.Dd (t := 636) rfl KX G ?m ?l ?z ?v
        (case m => k_is); (case l => k_is); (case z => decide +kernel)
        case v => exact .cons ⟨_, rfl⟩ (.cons ⟨_, rfl⟩ (.cons rfl (.cons rfl .nil)))
      | 11, hx =>
        have hx : some (1, 1, true, ("answer_first" : Str)) = some (n, r, day, x) := hx
        cases hx
        refine' Nm.Dd (t := 637) rfl KX G ?m ?l ?z ?v
        (case m => k_is); (case l => k_is); (case z => decide +kernel)
        case v => exact .cons ⟨_, rfl⟩ (.cons ⟨_, rfl⟩ (.cons rfl (.cons rfl .nil)))
      | 12, hx =>
        have hx : some (1, 1, true, ("answer_why" : Str)) = some (n, r, day, x) := hx
        cases hx
        refine' Nm.Dd (t := 638) rfl KX G ?m ?l ?z ?v
        (case m => k_is); (case l => k_is); (case z => decide +kernel)
        case v => exact .cons ⟨_, rfl⟩ (.cons ⟨_, rfl⟩ (.cons rfl (.cons rfl .nil)))
      | 13, hx =>
        have hx : some (1, 2, true, ("answer_check" : Str)) = some (n, r, day, x) := hx
        cases hx
        refine' Nm.Dd (t := 639) rfl KX G ?m ?l ?z ?v
        (case m => k_is); (case l => k_is); (case z => decide +kernel)
        case v => exact .cons ⟨_, rfl⟩ (.cons ⟨_, rfl⟩ (.cons rfl (.cons rfl .nil)))
      | 14, hx =>
        have hx : some (3, 0, true, ("answer_before" : Str)) = some (n, r, day, x) := hx
        cases hx
        refine' Nm.Dd (t := 640) rfl KX G ?m ?l ?z ?v
        (case m => k_is); (case l => k_is); (case z => decide +kernel)
        case v => exact .cons ⟨_, rfl⟩ (.cons ⟨_, rfl⟩ (.cons rfl (.cons rfl .nil)))
      | 15, hx =>
        have hx : some (2, 0, true, ("answer_fate" : Str)) = some (n, r, day, x) := hx
        cases hx
        refine' Nm.Dd (t := 641) rfl KX G ?m ?l ?z ?v
        (case m => k_is); (case l => k_is); (case z => decide +kernel)
        case v => exact .cons ⟨_, rfl⟩ (.cons ⟨_, rfl⟩ (.cons rfl (.cons rfl .nil)))
      | 16, hx =>
        have hx : some (2, 0, true, ("answer_ring" : Str)) = some (n, r, day, x) := hx
        cases hx
        refine' Nm.Dd (t := 642) rfl KX G ?m ?l ?z ?v
        (case m => k_is); (case l => k_is); (case z => decide +kernel)
        case v => exact .cons ⟨_, rfl⟩ (.cons ⟨_, rfl⟩ (.cons rfl (.cons rfl .nil)))
      | 17, hx =>
        have hx : some (1, 0, false, ("answer_tally" : Str)) = some (n, r, day, x) := hx
        cases hx
        refine' Nm.Dd (t := 643) rfl KX G ?m ?l ?z ?v
        (case m => k_is); (case l => k_is); (case z => decide +kernel)
        case v => exact .cons ⟨_, rfl⟩ (.cons ⟨_, rfl⟩ (.cons rfl (.cons rfl .nil)))
      | 18, hx =>
        have hx : some (0, 1, false, ("answer_history" : Str)) = some (n, r, day, x) := hx
        cases hx
        refine' Nm.Dd (t := 644) rfl KX G ?m ?l ?z ?v
        (case m => k_is); (case l => k_is); (case z => decide +kernel)
        case v => exact .cons ⟨_, rfl⟩ (.cons ⟨_, rfl⟩ (.cons rfl (.cons rfl .nil)))
      | 19, hx =>
        have hx : some (1, 0, true, ("answer_locked" : Str)) = some (n, r, day, x) := hx
        cases hx
        refine' Nm.Dd (t := 645) rfl KX G ?m ?l ?z ?v
        (case m => k_is); (case l => k_is); (case z => decide +kernel)
        case v => exact .cons ⟨_, rfl⟩ (.cons ⟨_, rfl⟩ (.cons rfl (.cons rfl .nil)))
      | 20, hx =>
        have hx : some (0, 0, false, ("answer_told" : Str)) = some (n, r, day, x) := hx
        cases hx
        refine' Nm.Dd (t := 646) rfl KX G ?m ?l ?z ?v
        (case m => k_is); (case l => k_is); (case z => decide +kernel)
        case v => exact .cons ⟨_, rfl⟩ (.cons ⟨_, rfl⟩ (.cons rfl (.cons rfl .nil)))
      | j + 21, hx => exact absurd hx (by unfold Nm.forms; simp)
  case S =>
    intro K H0 H xs a hsub htab hwi hask hx
    cases hx with
    | cons h1 h2 =>
      cases h2
      cases h1 with
      | lst hs ha =>
        have e := L2.Yw a.1 _ ha
        subst e
        have hask : PyVbnlag.answers_asked a.1 = true := hask
        unfold PyVbnlag.answers_asked at hask
        cases hc : PyVbnlag.calls a.1 with
        | none => rw [hc] at hask; cases hask
        | some cs =>
          rw [hc] at hask
          have h400 : cs.length ≤ 400 := of_decide_eq_true (Bool.and_eq_true_iff.mp hask).1
          have hc2 := hc
          rw [Nm.Aj0] at hc2
          have hs2 := Nm.Ak0 hsub hs
          refine ⟨_, a.1, cs, rfl, hs2, fun t ht => ⟨#[], ?_, .inl rfl⟩, hc2, h400, fun H' r e n hr => ?_⟩
          · have hm : (t.c, t.P) ∈ ([(264, 260), (283, 281), (309, 307), (397, 395)] : List (Addr × Addr)) := by
              unfold Nm.Cl.tabs at ht
              simp only [List.mem_cons, List.not_mem_nil, or_false] at ht
              rcases ht with rfl | rfl | rfl | rfl <;> simp
            exact htab _ hm
          · have ea : PyVbnlag.answers a.1 = PyFlat.told (PyFlat.played VbnlagNeutral.step VbnlagNeutral.start cs) := by unfold PyVbnlag.answers; rw [hc]
            show L2.Dw K H' (.ref r) (_ : WData)
            have := L2.Dw.lst (K := K) (L2.SqL.of hr) (L2.YC _)
            rw [← ea] at this
            exact this
