
import PyProof.Rows.All
import Wide.All
import OpenK.AllK
import Wide.FinOn
import Lean
import PyProof.EqAt
import PyProof.EqKinds
import PyProof.TupleCall
import PyProof.SetScanFacts
import PyProof.SetRoads
import PyProof.SetNew
import PyProof.TupleKey
import PyProof.DictFindH
import PyProof.Rows.SetFrom
import KE.KDictOf
import PyProof.AttrMissHeap
import PyProof.MeetsDictList
import PyProof.FString5
import KE.KUnpackStar
import PyProof.StationsW
import PyProof.RulesDel
import PyProof.RulesAs
import PyProof.InstStoreFacts
import PyProof.ExcInit
import PyProof.ExcClass3
import PyProof.ExcBaseAll.ValueError
import PyProof.ExcArgsOwn
import PySem.Challenge.RW_fleethide_k04_hidings_by_number
set_option Elab.async false
set_option linter.all false
set_option maxRecDepth 100000
set_option maxHeartbeats 4000000
namespace St
open PySem
def s5:Nat→Nat
  | 0=>0
  | n+1=>5*s5 n+1
def g5:Nat→Nat→Nat
  | 0,x=>x
  | n+1,x=>5*g5 n x+1
end St
namespace St
open PySem
def adv (mask:Nat) (p:SetTable.Probe):SetTable.Probe:=
  if p.more>0 then { p with j:=p.j+1,more:=p.more-1 } else
  { p with j:=(SetTable.leap mask p.i p.perturb).1,more:=SetTable.runEnd mask (SetTable.leap mask p.i p.perturb).1-(SetTable.leap mask p.i p.perturb).1,i:=(SetTable.leap mask p.i p.perturb).1,perturb:=(SetTable.leap mask p.i p.perturb).2 }
def it (mask:Nat) (p:SetTable.Probe):Nat→SetTable.Probe
  | 0=>p
  | m+1=>adv mask (it mask p m)
def st (mask i pert:Nat):SetTable.Probe:={ j:=i,more:=SetTable.runEnd mask i-i,i:=i,perturb:=pert,dummy:=none }
structure Ok (t:SetTable) (hs:List Int):Prop where
  dum:t.dummies=#[]
  pw:∃ k,t.mask+1=2 ^ k
  up:t.place.toList.Pairwise (· < ·)
  le:∀ x∈t.place.toList,x≤t.mask
  len:t.place.size=hs.length
  lt:t.place.size≤t.mask
  ch:∀ q∈t.place.toList.zip hs,∃ m,(it t.mask (t.probeStart q.2) m).j=q.1∧∀ m'<m,(it t.mask (t.probeStart q.2) m').j∈t.place.toList
end St
namespace St
open PySem
def taken (ow:Array (Option Nat)) (j:Nat):Prop:=∃ k,ow[j]?=some (some k)
end St
namespace St
open PySem
structure Lay (mask:Nat) (done:List Int) (ow:Array (Option Nat)):Prop where
  sz:ow.size=mask+1
  bd:∀ (j k:Nat),ow[j]?=some (some k)→k<done.length
  on:∀ k<done.length,∃ j:Nat,ow[j]?=some (some k)
  inj:∀ (j j' k:Nat),ow[j]?=some (some k)→ow[j']?=some (some k)→j=j'
  ch:∀ (j k:Nat) (h:Int),ow[j]?=some (some k)→done[k]?=some h→∃ m,(it mask (st mask (SetTable.bits h%(mask+1)) (SetTable.bits h)) m).j=j∧∀ m'<m,taken ow (it mask (st mask (SetTable.bits h%(mask+1)) (SetTable.bits h)) m').j
end St
namespace St
open PySem
structure SK {prog:Program} {w:World} {K:Type} [DecidableEq K] (knd:HeapKind prog w K):Prop where
  cls:∀ {A:Around} {E:Value→Shared→Prop} {s:Shared} {k:K} {a:Addr} {Q:Bool→Shared→Prop},knd.is s.heap k a→Q false s→wpAny (model prog w) A (ofAClassStatement 8 (.ref a)) Q E s
  hbv:∀ {A:Around} {E:Value→Shared→Prop} {s:Shared} {k:K} {a:Addr} {Q:Bool→Shared→Prop},knd.is s.heap k a→(∀ b,Q b s)→wpAny (model prog w) A (hashByValue 8 (.ref a)) Q E s
def masks:List Nat:=[7,31,127,511,2047,8191]
section
variable {prog:Program} {w:World} {K:Type} [DecidableEq K] {knd:HeapKind prog w K} {A:Around} {E:Value→Shared→Prop} {s:Shared}
def ent (knd:HeapKind prog w K) (x:K×Addr):Int×Value:=(knd.hash x.1,.ref x.2)
structure Tab (knd:HeapKind prog w K) (es:Array (Int×Value)) (t:SetTable) (xs:List (K×Addr)):Prop where
  perm:es.toList.Perm (xs.map (ent knd))
  ok:Ok t (es.toList.map (·.1))
  msk:t.mask∈masks
  nf:t.place.size*5<t.mask*3
end
end St
namespace St
open PySem
section
variable {prog:Program} {w:World} {K:Type} [DecidableEq K] {knd:HeapKind prog w K} {A:Around} {E:Value→Shared→Prop} {s:Shared}
end
end St
namespace L2
open PySem PySem.Spec PyProof.Rows
abbrev Key:=Sum Int Str
def keyIs:Key→Value→Bool
  | .inl k,v=>Value.isInt k v
  | .inr x,v=>Value.isStrOf x v
def keyH (w:World):Key→Int
  | .inl k=>hashInt k
  | .inr x=>hashStr w x
theorem keyIs_shape:∀ {k:Key} {v:Value},keyIs k v=true→(∃ i t,k=Sum.inl i∧v=Value.int i t)∨(∃ x t,k=Sum.inr x∧v=Value.str x t)
  | .inl i,v,h=>by
    obtain ⟨t,e⟩:=Value.isInt_shape (k:=i) (v:=v) h
    exact .inl ⟨i,t,rfl,e⟩
  | .inr x,v,h=>by
    obtain ⟨t,e⟩:=Value.isStrOf_shape (x:=x) (v:=v) h
    exact .inr ⟨x,t,rfl,e⟩
theorem keyIs_int (i:Int) (t:Tok):keyIs (.inl i) (.int i t)=true:=by simp [keyIs,Value.isInt]
theorem keyIs_str (x:Str) (t:Tok):keyIs (.inr x) (.str x t)=true:=by simp [keyIs,Value.isStrOf]
theorem key_ll (a b:Int):decide ((Sum.inl a:Key)=Sum.inl b)=(a==b):=by
  by_cases e:a=b
  · subst e;simp
  · have h:¬ (Sum.inl a:Key)=Sum.inl b:=fun q=>e (Sum.inl.inj q)
    rw [decide_eq_false h]
    exact (beq_eq_false_iff_ne.mpr e).symm
theorem key_rr (a b:Str):decide ((Sum.inr a:Key)=Sum.inr b)=decide (a=b):=by
  by_cases e:a=b
  · subst e;simp
  · have h:¬ (Sum.inr a:Key)=Sum.inr b:=fun q=>e (Sum.inr.inj q)
    rw [decide_eq_false h,decide_eq_false e]
theorem key_lr (a:Int) (b:Str):decide ((Sum.inl a:Key)=Sum.inr b)=false:=decide_eq_false (fun q=>nomatch q)
theorem key_rl (a:Str) (b:Int):decide ((Sum.inr a:Key)=Sum.inl b)=false:=decide_eq_false (fun q=>nomatch q)
def mixKind (prog:Program) (w:World):PySem.KeyKind prog w Key where
  is:=keyIs
  hash:=keyH w
  inj:=fun v a b ha hb=>by
    rcases keyIs_shape ha with ⟨i,t,rfl,rfl⟩ | ⟨x,t,rfl,rfl⟩
    · rcases keyIs_shape hb with ⟨j,u,rfl,e⟩ | ⟨y,u,rfl,e⟩
      · injection e with e1 _;rw [e1]
      · exact nomatch e
    · rcases keyIs_shape hb with ⟨j,u,rfl,e⟩ | ⟨y,u,rfl,e⟩
      · exact nomatch e
      · injection e with e1 _;rw [e1]
  byValue:=fun k v h=>by
    rcases keyIs_shape h with ⟨i,t,rfl,rfl⟩ | ⟨x,t,rfl,rfl⟩<;>rfl
  pyHash:=fun hv h=>by
    rcases keyIs_shape hv with ⟨i,t,rfl,rfl⟩ | ⟨x,t,rfl,rfl⟩
    · exact wpAny_pyHash_int h
    · exact wpAny_pyHash_str h
  eqBool:=fun hu hv h=>by
    rcases keyIs_shape hu with ⟨i,t,rfl,rfl⟩ | ⟨x,t,rfl,rfl⟩
    · rcases keyIs_shape hv with ⟨j,u,rfl,rfl⟩ | ⟨y,u,rfl,rfl⟩
      · rw [key_ll] at h;exact wpAny_eqBool_int h
      · rw [key_lr] at h;exact SeqAt.EqAt.int_str i t y u _ _ _ _ h
    · rcases keyIs_shape hv with ⟨j,u,rfl,rfl⟩ | ⟨y,u,rfl,rfl⟩
      · rw [key_rl] at h;exact SeqAt.EqAt.str_int x t j u _ _ _ _ h
      · rw [key_rr] at h;exact wpAny_eqBool_str h
  «strs»:=fun k x t v h=>by
    rcases keyIs_shape h with ⟨i,u,rfl,e⟩ | ⟨y,u,rfl,e⟩
    · exact nomatch e
    · injection e with e1 _
      subst e1
      cases v<;>rfl
theorem mixKind_int (prog:Program) (w:World) (i:Int) (t:Tok):(mixKind prog w).is (.inl i) (.int i t)=true:=keyIs_int i t
theorem mixKind_str (prog:Program) (w:World) (x:Str) (t:Tok):(mixKind prog w).is (.inr x) (.str x t)=true:=keyIs_str x t
end L2
namespace L2
open PySem PySem.Spec PyProof.Rows
inductive V where
  | non | bl (b:Bool) | int (i:Int) | str (x:Str) | byt (b:Array UInt8) | flt (b:UInt64) | ref (a:Addr) | ty (n:String)
  deriving DecidableEq
def RelV:V→Value→Prop
  | .non,u=>u=Value.none
  | .bl b,u=>u=Value.bool b
  | .int i,u=>∃ t,u=Value.int i t
  | .str x,u=>∃ t,u=Value.str x t
  | .byt b,u=>∃ t,u=Value.bytes b t
  | .flt b,u=>∃ t,u=Value.float b t
  | .ref a,u=>u=Value.ref a
  | .ty n,u=>u=Value.type n
abbrev Vals:List V→List Value→Prop:=Paired RelV
theorem Vals.length {xs:List V} {us:List Value} (r:Vals xs us):xs.length=us.length:=Paired.length r
theorem Vals.get:∀ {xs:List V} {us:List Value} {i:Nat} {x:V},Vals xs us→xs[i]?=some x→∃ u,us[i]?=some u∧RelV x u
  | _,_,_,_,.nil,e=>by simp at e
  | _,_,0,_,.cons r _,e=>by simp at e;subst e;exact ⟨_,rfl,r⟩
  | _,_,i+1,x,.cons _ t,e=>by
    obtain ⟨u,h1,h2⟩:=Vals.get (i:=i) (x:=x) t (by simpa using e)
    exact ⟨u,by simpa using h1,h2⟩
theorem Vals.append:∀ {xs ys:List V} {us ws:List Value},Vals xs us→Vals ys ws→Vals (xs++ys) (us++ws)
  | _,_,_,_,.nil,s=>s
  | _,_,_,_,.cons r t,s=>.cons r (Vals.append t s)
theorem Vals.take:∀ {xs:List V} {us:List Value} (n:Nat),Vals xs us→Vals (xs.take n) (us.take n)
  | _,_,0,_=>.nil
  | _,_,_+1,.nil=>.nil
  | _,_,n+1,.cons r t=>.cons r (Vals.take n t)
theorem Vals.drop:∀ {xs:List V} {us:List Value} (n:Nat),Vals xs us→Vals (xs.drop n) (us.drop n)
  | _,_,0,r=>r
  | _,_,_+1,.nil=>.nil
  | _,_,n+1,.cons _ t=>Vals.drop n t
def RelO:Option V→Option Value→Prop
  | some v,some u=>RelV v u
  | none,none=>True
  | _,_=>False
def KV {κ:Type}:List (κ×V)→List (κ×Value)→Prop:=Paired fun (p:κ×V) (q:κ×Value)=>p.1=q.1∧RelV p.2 q.2
def kV:Key→V
  | .inl i=>.int i
  | .inr x=>.str x
inductive HO where
    | lst (xs:List V)
    | tup (xs:List V)
    | dK (kvs:List (Key×V)) | dT (kvs:List (List Key×V))
    | set (S:Int→Bool) (n:Nat)
    | ins (C dx:Addr) (fs:List (Str×V))
    | own (x:Addr)
    | xd (fs:List (Str×V))
    | met (f x:Addr)
    | rng (lo hi:Int)
    | frz (o:Obj) (u:HO)
    | tbl (ps:Array Value)
    | ext (φ:Heap→Prop)
abbrev Hp:=Addr→Option HO
def upd (H:Hp) (a:Addr) (o:HO):Hp:=fun b=>if b=a then some o else H b
theorem upd_same {H:Hp} {a:Addr} {o:HO}:upd H a o a=some o:=by unfold upd;rw [if_pos rfl]
theorem upd_ne {H:Hp} {a b:Addr} {o:HO} (h:b≠a):upd H a o b=H b:=by unfold upd;rw [if_neg h]
theorem ne_of_none {H:Hp} {a b:Addr} {o:HO} (h:H a=some o) (h':H b=none):a≠b:=by
  intro e;subst e;rw [h] at h';cases h'
section
variable (P:Program) (w:World)
def ObjOk (H:Hp) (h:Heap) (a:Addr):HO→Prop
  | .lst xs=>xs.length≤sizeLine∧∃ (its:List Value) (n:Nat),Vals xs its∧h.get? a=some { cls:=.type "list",data:=.seq its.toArray n }
  | .tup xs=>xs.length≤sizeLine∧∃ its:List Value,Vals xs its∧IsTup h a its.toArray
  | .dK kvs=>kvs.length≤sizeLine∧(a==sysModules)=false∧∃ vs,KV kvs vs∧h.DictOf (mixKind P w) a vs
  | .dT kvs=>kvs.length≤sizeLine∧(a==sysModules)=false∧∃ xs:List (List Key×Addr×Value),
      Paired (fun (p:List Key×V) (q:List Key×Addr×Value)=>p.1=q.1∧H q.2.1=some (.tup (p.1.map kV))∧RelV p.2 q.2.2) kvs xs∧
      ∃ o es ep,h.get? a=some o∧o.ExactDict∧o.data=.dict es ep∧es.toList=xs.map (entryOfKey (tupleKind (mixKind P w)))∧(xs.map (·.1)).Nodup
  | .set S n=>h.SetOf (intKind P w) a S n
  | .ins C dx fs=>H dx=some (.own a)∧fs.length≤1000∧dx≠a∧h.get? a=some (PySem.W.instObj C dx)∧
      ∃ mA,h.Ns1 dx mA∧(∀ f,RelO (fs.lookup f) (mA f))∧PySem.Within mA (fs.map (·.1))
  | .own _=>∃ o,h.get? a=some o
  | .xd fs=>∃ mA,h.Ns1 a mA∧∀ f,RelO (fs.lookup f) (mA f)
  | .rng lo hi=>∃ t u v,h.get? a=some { cls:=.type "range",data:=.fields #[.int lo t,.int hi u,.int 1 v] }
  | .frz o u=>h.get? a=some o∧ObjOk H h a u
  | .tbl ps=>h.get? a=some { cls:=.none,data:=.fields ps }
  | .met f x=>h.get? a=some (PySem.W.methodObj (.ref f) (.ref x))
  | .ext φ=>φ h∧(∃ o,h.get? a=some o)∧∀ h1 h2:Heap,φ h1→(∀ o,h1.get? a=some o→h2.get? a=some o)→φ h2
def HOk (H:Hp) (h:Heap):Prop:=∀ a o,H a=some o→ObjOk P w H h a o
end
section
variable {P:Program} {w:World} {H H':Hp} {h h':Heap} {a:Addr} {o:HO}
theorem ObjOk.lt (x:ObjOk P w H h a o):a<h.objs.size:=by
  cases o with
  | lst xs=>obtain ⟨_,_,_,_,e⟩:=x;exact Heap.lt_size e
  | tup xs=>obtain ⟨_,_,_,p⟩:=x;exact p.lt
  | dK kvs=>obtain ⟨_,_,_,_,o,_,_,e,_⟩:=x;exact Heap.lt_size e
  | dT kvs=>obtain ⟨_,_,_,_,o,_,_,e,_⟩:=x;exact Heap.lt_size e
  | set S n=>obtain ⟨o,_,_,_,e,_⟩:=x;exact Heap.lt_size e
  | ins C dx fs=>obtain ⟨_,_,_,e,_⟩:=x;exact Heap.lt_size e
  | own y=>obtain ⟨_,e⟩:=x;exact Heap.lt_size e
  | xd fs=>obtain ⟨_,⟨_,_,_,e,_⟩,_⟩:=x;exact Heap.lt_size e
  | rng lo hi=>obtain ⟨_,_,_,e⟩:=x;exact Heap.lt_size e
  | frz ob u=>obtain ⟨e,_⟩:=x;exact Heap.lt_size e
  | tbl ps=>exact Heap.lt_size (show h.get? a=some _ from x)
  | met f y=>exact Heap.lt_size (show h.get? a=some _ from x)
  | ext φ=>obtain ⟨_,⟨_,e⟩,_⟩:=x;exact Heap.lt_size e
theorem Paired.mapP {α β:Type} {F G:α→β→Prop}:∀ {l₁:List α} {l₂:List β},Paired F l₁ l₂→(∀ a b,F a b→G a b)→Paired G l₁ l₂
  | _,_,.nil,_=>.nil
  | _,_,.cons r t,f=>.cons (f _ _ r) (Paired.mapP t f)
theorem ObjOk.stay (x:ObjOk P w H h a o) (k:∀ b u,(b=a∨H b=some (.own a))→h.get? b=some u→h'.get? b=some u)
    (ho:∀ b,H b=some (.own a)→H' b=some (.own a)) (ht:∀ b xs,H b=some (.tup xs)→H' b=some (.tup xs)):ObjOk P w H' h' a o:=by
  induction o with
  | lst xs=>obtain ⟨z,its,n,r,e⟩:=x;exact ⟨z,its,n,r,k _ _ (.inl rfl) e⟩
  | tup xs=>obtain ⟨z,its,r,ob,e,c⟩:=x;exact ⟨z,its,r,ob,k _ _ (.inl rfl) e,c⟩
  | dK kvs=>obtain ⟨z,y,vs,r,ob,es,ep,e,c⟩:=x;exact ⟨z,y,vs,r,ob,es,ep,k _ _ (.inl rfl) e,c⟩
  | dT kvs=>
    obtain ⟨z,y,xs,r,ob,es,ep,e,c⟩:=x
    exact ⟨z,y,xs,Paired.mapP r fun p q z=>⟨z.1,ht _ _ z.2.1,z.2.2⟩,ob,es,ep,k _ _ (.inl rfl) e,c⟩
  | set S n=>obtain ⟨ob,es,ep,t,e,c⟩:=x;exact ⟨ob,es,ep,t,k _ _ (.inl rfl) e,c⟩
  | ins C dx fs=>
    obtain ⟨d,z,ne,e,mA,⟨od,es,ep,e2,c⟩,r⟩:=x
    exact ⟨ho _ d,z,ne,k _ _ (.inl rfl) e,mA,⟨od,es,ep,k _ _ (.inr d) e2,c⟩,r⟩
  | own y=>obtain ⟨ob,e⟩:=x;exact ⟨ob,k _ _ (.inl rfl) e⟩
  | xd fs=>obtain ⟨mA,⟨od,es,ep,e,c⟩,r⟩:=x;exact ⟨mA,⟨od,es,ep,k _ _ (.inl rfl) e,c⟩,r⟩
  | rng lo hi=>obtain ⟨t,u,v,e⟩:=x;exact ⟨t,u,v,k _ _ (.inl rfl) e⟩
  | frz ob u ih=>obtain ⟨e,q⟩:=x;exact ⟨k _ _ (.inl rfl) e,ih q⟩
  | tbl ps=>
    have e:h.get? a=some { cls:=.none,data:=.fields ps }:=x
    show h'.get? a=some { cls:=.none,data:=.fields ps }
    exact k a _ (.inl rfl) e
  | met f y=>
    have e:h.get? a=some (PySem.W.methodObj (.ref f) (.ref y)):=x
    show h'.get? a=some (PySem.W.methodObj (.ref f) (.ref y))
    exact k a _ (.inl rfl) e
  | ext φ=>obtain ⟨p,⟨o,e⟩,st⟩:=x;exact ⟨st _ _ p fun o q=>k _ _ (.inl rfl) q,⟨o,k _ _ (.inl rfl) e⟩,st⟩
theorem HOk.lt (x:HOk P w H h) (e:H a=some o):a<h.objs.size:=(x a o e).lt
theorem HOk.fresh (x:HOk P w H h) (e:h.objs.size≤a):H a=none:=by
  cases q:H a with
  | none=>rfl
  | some u=>exact absurd (Nat.lt_of_lt_of_le (x.lt q) e) (Nat.lt_irrefl _)
theorem HOk.kept (x:HOk P w H h) (k:∀ b u,h.get? b=some u→h'.get? b=some u):HOk P w H h':=fun a o e=>
  (x a o e).stay (fun b u _ q=>k b u q) (fun _ q=>q) fun _ _ q=>q
theorem HOk.laid (x:HOk P w H h) (k:∀ b u,h.get? b=some u→h'.get? b=some u) (hp:h.objs.size≤a) (new:ObjOk P w (upd H a o) h' a o):HOk P w (upd H a o) h':=fun b u e=>by
  have hn:=x.fresh hp
  by_cases hb:b=a
  · subst hb;rw [upd_same] at e;cases e;exact new
  · rw [upd_ne hb] at e
    exact (x b u e).stay (fun c v _ q=>k c v q) (fun c q=>by rw [upd_ne (ne_of_none q hn)];exact q) fun c xs q=>by rw [upd_ne (ne_of_none q hn)];exact q
end
def Rd (H:Hp) (a:Addr) (u:HO):Prop:=H a=some u∨∃ o,H a=some (.frz o u)
theorem Rd.ok {P:Program} {w:World} {H:Hp} {h:Heap} {a:Addr} {u:HO} (r:Rd H a u) (x:HOk P w H h):ObjOk P w H h a u:=by
  rcases r with r | ⟨o,r⟩
  · exact x a u r
  · obtain ⟨_,q⟩:=x a _ r
    exact q
def Mut:Option HO→Prop
  | some (.lst _)=>True
  | some (.dK _)=>True
  | some (.dT _)=>True
  | some (.set _ _)=>True
  | some (.ins _ _ _)=>True
  | some (.ext _)=>True
  | _=>False
section
variable {P:Program} {w:World} {H:Hp} {h h':Heap} {x e:Addr} {o':HO}
theorem HOk.write (ok:HOk P w H h) (mu:Mut (H x)) (he:e=x∨H e=some (.own x)) (k:∀ b u,b≠e→h.get? b=some u→h'.get? b=some u) (heo:∃ u,h'.get? e=some u)
    (new:ObjOk P w (upd H x o') h' x o'):HOk P w (upd H x o') h':=fun b u q=>by
  have nown:∀ c y,H c=some (.own y)→c≠x:=fun c y r z=>by subst z;rw [r] at mu;exact mu
  have ntup:∀ c xs,H c=some (.tup xs)→c≠x:=fun c xs r z=>by subst z;rw [r] at mu;exact mu
  by_cases hb:b=x
  · subst hb;rw [upd_same] at q;cases q;exact new
  · rw [upd_ne hb] at q
    by_cases hbe:b=e
    · have q':H b=some (.own x):=by
        rcases he with z | z
        · exact absurd (hbe.trans z) hb
        · rw [hbe];exact z
      rw [q] at q';cases q'
      obtain ⟨v,hv⟩:=heo
      exact ⟨v,by rw [hbe];exact hv⟩
    · refine (ok b u q).stay (fun c v hc r=>k c v ?_ r) (fun c r=>by rw [upd_ne (nown c b r)];exact r) fun c xs r=>by rw [upd_ne (ntup c xs r)];exact r
      rcases hc with rfl | hc
      · exact hbe
      · rintro rfl
        rcases he with z | z
        · exact nown c b hc z
        · rw [hc] at z;cases z;exact hb rfl
end
structure Un (fs ex:List Addr) (H H':Hp) (h h':Heap):Prop where
  keep:∀ b o,h.get? b=some o→H b=none→b∉fs→b∉ex→h'.get? b=some o
  slot:∀ b o,h.get? b=some o→H b=none→b∈fs→b∉ex→∃ sl,h'.get? b=some { o with slots:=sl }
  free:∀ b o,h.get? b=some o→H b=none→b∉ex→H' b=none
  there:∀ b o,h.get? b=some o→b∉ex→∃ o',h'.get? b=some o'
  tups:∀ b xs,H b=some (.tup xs)→H' b=some (.tup xs)
  frzs:∀ b o u,H b=some (.frz o u)→H' b=some (.frz o u)
  tbls:∀ b ps,H b=some (.tbl ps)→∃ more,H' b=some (.tbl (ps++more))
section
variable {fs fs' ex ex':List Addr} {H H1 H2:Hp} {h h1 h2 h':Heap} {a x e:Addr} {o:HO}
theorem Un.any (u:Un fs ex H H1 h h1) {b:Addr} {ob:Obj} (q:h.get? b=some ob) (n:H b=none) (hx:b∉ex):∃ sl,h1.get? b=some { ob with slots:=sl }:=by
  by_cases hb:b∈fs
  · exact u.slot b ob q n hb hx
  · exact ⟨ob.slots,u.keep b ob q n hb hx⟩
theorem Un.trans (a:Un fs ex H H1 h h1) (b:Un fs ex H1 H2 h1 h2):Un fs ex H H2 h h2 where
  keep:=fun c ob q n hc hx=>b.keep c ob (a.keep c ob q n hc hx) (a.free c ob q n hx) hc hx
  slot:=fun c ob q n hc hx=>by
    obtain ⟨sl,e1⟩:=a.slot c ob q n hc hx
    obtain ⟨sl',e2⟩:=b.slot c _ e1 (a.free c ob q n hx) hc hx
    exact ⟨sl',e2⟩
  free:=fun c ob q n hx=>by
    obtain ⟨o',e1⟩:=a.there c ob q hx
    exact b.free c o' e1 (a.free c ob q n hx) hx
  there:=fun c ob q hx=>by
    obtain ⟨o',e1⟩:=a.there c ob q hx
    exact b.there c o' e1 hx
  tups:=fun c xs q=>b.tups c xs (a.tups c xs q)
  frzs:=fun c ob xs q=>b.frzs c ob xs (a.frzs c ob xs q)
  tbls:=fun c ps q=>by
    obtain ⟨m1,e1⟩:=a.tbls c ps q
    obtain ⟨m2,e2⟩:=b.tbls c _ e1
    exact ⟨m1++m2,by rw [e2,Array.append_assoc]⟩
theorem Un.kept (k:∀ b u,h.get? b=some u→h'.get? b=some u):Un fs ex H H h h':=
  ⟨fun b ob q _ _ _=>k b ob q,fun b ob q _ _ _=>⟨ob.slots,k b ob q⟩,fun _ _ _ n _=>n,fun b ob q _=>⟨ob,k b ob q⟩,fun _ _ q=>q,fun _ _ _ q=>q,fun _ ps q=>⟨#[],by rw [q];simp⟩⟩
theorem Un.refl:Un fs ex H H h h:=Un.kept fun _ _ q=>q
theorem Un.laid (k:∀ b u,h.get? b=some u→h'.get? b=some u) (hp:h.objs.size≤a) (hn:H a=none):Un fs ex H (upd H a o) h h' where
  keep:=fun b u q _ _ _=>k b u q
  slot:=fun b u q _ _ _=>⟨u.slots,k b u q⟩
  free:=fun b u q n _=>by rw [upd_ne (Nat.ne_of_lt (Nat.lt_of_lt_of_le (Heap.lt_size q) hp))];exact n
  there:=fun b u q _=>⟨u,k b u q⟩
  tups:=fun b xs q=>by rw [upd_ne (ne_of_none q hn)];exact q
  frzs:=fun b u xs q=>by rw [upd_ne (ne_of_none q hn)];exact q
  tbls:=fun b ps q=>⟨#[],by rw [upd_ne (ne_of_none q hn),q];simp⟩
theorem Un.write (mu:Mut (H x)) (he:e=x∨H e=some (.own x)) (k:∀ b u,b≠e→h.get? b=some u→h'.get? b=some u) (heo:∃ u,h'.get? e=some u):Un fs ex H (upd H x o) h h':=by
  have hx:∀ b,H b=none→b≠x:=fun b n z=>by subst z;rw [n] at mu;exact mu
  have hb:∀ b,H b=none→b≠e:=fun b n z=>by
    subst z
    rcases he with r | r
    · exact hx b n r
    · rw [n] at r;cases r
  have hm:∀ b u,H b=some u→¬ Mut (some u)→b≠x:=fun b u q nm z=>by subst z;rw [q] at mu;exact nm mu
  refine ⟨fun b u q n _ _=>k b u (hb b n) q,fun b u q n _ _=>⟨u.slots,k b u (hb b n) q⟩,fun b u q n _=>by rw [upd_ne (hx b n)];exact n,fun b u q _=>?_,
    fun b xs q=>by rw [upd_ne (hm b _ q fun z=>z)];exact q,fun b u xs q=>by rw [upd_ne (hm b _ q fun z=>z)];exact q,fun b ps q=>⟨#[],by rw [upd_ne (hm b _ q fun z=>z),q];simp⟩⟩
  by_cases hbe:b=e
  · subst hbe;exact heo
  · exact ⟨u,k b u hbe q⟩
end
def trk (h:Heap) (H:Hp):List Addr:=(List.range h.objs.size).filter fun a=>(H a).isSome
def hidT (h:Heap) (H:Hp):Heap:=PySem.W.hideAll h (trk h H)
theorem hidT_size (h:Heap) (H:Hp):(hidT h H).objs.size=h.objs.size:=PySem.W.hideAll_size _ _
theorem hidT_get {h:Heap} {H:Hp} {b:Addr} {o:Obj} (e:h.get? b=some o) (n:H b=none):(hidT h H).get? b=some o:=
  PySem.W.hideAll_get _ e fun hm=>by
    have q:(H b).isSome=true:=(List.mem_filter.mp hm).2
    rw [n] at q;simp at q
theorem of_hidT {h:Heap} {H:Hp} {b:Addr} {o:Obj} (e:(hidT h H).get? b=some o):h.get? b=some o∧H b=none:=by
  have e':h.get? b=some o:=PySem.W.of_hideAll (trk h H) e
  refine ⟨e',?_⟩
  cases q:H b with
  | none=>rfl
  | some x=>
    have hm:b∈trk h H:=List.mem_filter.mpr ⟨List.mem_range.mpr (Heap.lt_size e'),by simp [q]⟩
    have z:(hidT h H).get? b=none:=PySem.W.hideAll_none (trk h H) hm
    rw [z] at e;cases e
def allNews (g h:Heap) (L:Addr):List (Addr×Obj):=(List.range h.objs.size).filterMap fun a=>if a=L∨(g.get? a).isSome=true then none else (h.get? a).map fun o=>(a,o)
def rest (g h:Heap) (L d:Addr):List (Addr×Obj):=(allNews g h L).filter fun p=>decide (p.1≠d)
end L2
namespace L2
open PySem PySem.Spec PyProof.Rows
structure Mod (K:PySem.W.Frag) (mg:Str→Option Value) (base:Heap):Prop where
  kin:K.In base
  glob:base.Ns mainGlobals mg
  blt:∃ mb,base.Ns builtinsNs mb∧∀ x:Str,x≠"__name__"→mb x=bootBuiltins x
  nolimit:base.NoLimit
structure Cx where
  prog:Program
  w:World
  K:PySem.W.Frag
  mg:Str→Option Value
  base:Heap
  A:Around
  N:List Str
  s₀:Shared
  H₀:Hp
  env:Env
  outer:List Env
  stack:List Env
  ex:List Addr
  fn:Str→Bool
  calm:Bool
  pn:List (Addr×Obj)
  xe:Value→Shared→Prop
def frs (l:List Env):List Addr:=l.filterMap (·.frame)
abbrev Cx.fs (X:Cx):List Addr:=frs X.outer
def Vis (sc:Scope) (x:Str):Prop:=sc.names.lookup x=some .local∨sc.names.lookup x=some .cell∨sc.names.lookup x=some .free
def Loc (sc:Scope) (x:Str):Prop:=sc.names.lookup x=some .local∨sc.names.lookup x=some .cell
def Look (env:Env) (h:Heap) (m:Str→Option Value) (x:Str) (u:Value):Prop:=
  (env.kindOf x=some .local∧m x=some u)∨((env.kindOf x=some .cell∨env.kindOf x=some .free)∧∃ c,env.cells.lookup x=some c∧h.IsCell c (some u))
structure Cx.Ok (X:Cx):Prop where
  mod:Mod X.K X.mg X.base
  kind:X.env.scope.kind=.function
  glob:X.env.globals=mainGlobals
  blt:X.env.builtins=builtinsNs
  above:X.s₀.heap.objs.size≤X.env.locals
  inj:∀ x y c,X.env.cells.lookup x=some c→X.env.cells.lookup y=some c→x=y
  has:∀ x,(X.env.kindOf x=some .cell∨X.env.kindOf x=some .free)→∃ c,X.env.cells.lookup x=some c
  cab:∀ x c,X.fn x=true→X.env.cells.lookup x=some c→X.s₀.heap.objs.size≤c
  hd:X.calm=true→X.A.handled=none
  frames:X.A.frames=some X.stack
  stk:X.stack=X.outer∨(X.stack=X.env::X.outer∧X.env.frame=some X.env.locals)
  exf:∀ b∈X.ex,b≠X.env.locals∧∀ x c,X.env.cells.lookup x=some c→c≠b
  bs:∀ b o,X.base.get? b=some o→X.s₀.heap.get? b=some o∧X.H₀ b=none
  bsz:X.base.objs.size≤X.s₀.heap.objs.size
  noex:∀ b o,X.base.get? b=some o→b∉X.ex
  exfs:∀ b∈X.ex,b∉X.fs
  funs:X.s₀.heap.FunFrames X.base X.outer
  frf:∀ b∈X.fs,X.H₀ b=none
structure Inv (X:Cx) (pins:List (Addr×Obj)) (σ:List (Option V)) (H:Hp) (s:Shared):Prop where
  ok:X.Ok
  os:s.os=X.s₀.os
  bare:AllBare s.gens
  base:Un X.fs X.ex X.H₀ H X.s₀.heap s.heap
  loc:∃ m,s.heap.Ns X.env.locals m∧∀ (i:Nat) (x:Str) (v:V),X.N[i]?=some x→σ[i]?=some (some v)→Vis X.env.scope x→∃ u,RelV v u∧Look X.env s.heap m x u
  cell:∀ x c,X.env.cells.lookup x=some c→∃ v,s.heap.IsCell c v
  free:H X.env.locals=none
  freeC:∀ x c,X.env.cells.lookup x=some c→H c=none
  pin:∀ p∈X.pn++pins,s.heap.get? p.1=some p.2∧H p.1=none∧p.1≠X.env.locals∧p.1∉X.fs∧∀ v,p.2.data≠.cell v
  hok:HOk X.prog X.w H s.heap
  len:σ.length=X.N.length
section
variable {X:Cx} {pins:List (Addr×Obj)} {σ:List (Option V)} {H H':Hp} {s:Shared} {h':Heap}
theorem Cx.Ok.nofr (ok:X.Ok) {b:Addr} {o:Obj} (e:X.base.get? b=some o):b∉X.fs:=fun hb=>by
  have:=(ok.funs.mem hb).1
  rw [e] at this;cases this
theorem Inv.bs (I:Inv X pins σ H s):∀ b o,X.base.get? b=some o→s.heap.get? b=some o∧H b=none:=fun b o e=>
  ⟨I.base.keep b o (I.ok.bs b o e).1 (I.ok.bs b o e).2 (I.ok.nofr e) (I.ok.noex b o e),I.base.free b o (I.ok.bs b o e).1 (I.ok.bs b o e).2 (I.ok.noex b o e)⟩
theorem Inv.bk (I:Inv X pins σ H s):∀ b o,X.base.get? b=some o→s.heap.get? b=some o:=fun b o e=>(I.bs b o e).1
theorem Inv.mod (I:Inv X pins σ H s):Mod X.K X.mg X.base:=I.ok.mod
theorem Inv.kIn (I:Inv X pins σ H s):X.K.In s.heap:=I.ok.mod.kin.keeps I.bk
theorem Inv.fr (I:Inv X pins σ H s):∃ m,Fr X.base X.env.locals s.heap m:=
  let ⟨m,hn,_⟩:=I.loc
  ⟨m,hn,I.bk,Nat.le_trans I.ok.bsz I.ok.above⟩
theorem Inv.lt (I:Inv X pins σ H s):X.env.locals<s.heap.objs.size:=let ⟨_,hn,_⟩:=I.loc;hn.lt
theorem Inv.sz (I:Inv X pins σ H s):X.s₀.heap.objs.size≤s.heap.objs.size:=Nat.le_trans I.ok.above (Nat.le_of_lt I.lt)
theorem Inv.nofs (I:Inv X pins σ H s) {a:Addr} (h:s.heap.objs.size≤a):a∉X.fs:=fun hb=>by
  obtain ⟨_,o,ho,_⟩:=I.ok.funs.mem hb
  exact absurd (Nat.lt_of_lt_of_le (Heap.lt_size ho) (Nat.le_trans I.sz h)) (Nat.lt_irrefl _)
theorem Inv.cne (I:Inv X pins σ H s):∀ x c,X.env.cells.lookup x=some c→c≠X.env.locals:=fun x c e z=>by
  obtain ⟨v,o,ho,hd⟩:=I.cell x c e
  obtain ⟨m,⟨o',es,ep,ho',hd',_⟩,_⟩:=I.loc
  rw [z,ho'] at ho;cases ho;rw [hd'] at hd;cases hd
theorem Inv.funs (I:Inv X pins σ H s):s.heap.FunFrames X.base X.outer:=by
  have all:∀ (l:List Env),(∀ b∈frs l,b∈X.fs)→X.s₀.heap.FunFrames X.base l→s.heap.FunFrames X.base l:=by
    intro l
    induction l with
    | nil=>intro _ _;trivial
    | cons env r ih=>
      intro hs hl
      obtain ⟨hk,⟨L,o,hf,hn,ho,hd⟩,hr⟩:=hl
      have hL:L∈X.fs:=hs L (by unfold frs;rw [List.filterMap_cons,hf];exact List.mem_cons_self)
      obtain ⟨sl,e⟩:=I.base.slot L o ho (I.ok.frf L hL) hL fun z=>I.ok.exfs L z hL
      exact ⟨hk,⟨L,_,hf,hn,e,hd⟩,ih (fun b hb=>hs b (by unfold frs;rw [List.filterMap_cons,hf];exact List.mem_cons_of_mem _ hb)) hr⟩
  exact all X.outer (fun _ hb=>hb) I.ok.funs
theorem Inv.stack (I:Inv X pins σ H s):s.heap.FunFrames X.base X.stack:=by
  rcases I.ok.stk with e | ⟨e,hf⟩
  · rw [e];exact I.funs
  · rw [e]
    obtain ⟨m,hn,_⟩:=I.loc
    refine .cons (by rw [I.ok.kind];decide) hf hn ?_ I.funs
    exact Heap.get?_none_of_le (Nat.le_trans I.ok.bsz I.ok.above)
theorem Inv.stkSub (I:Inv X pins σ H s):∀ b∈frs X.stack,b∈X.env.locals::X.fs:=fun b hb=>by
  rcases I.ok.stk with e | ⟨e,hf⟩
  · rw [e] at hb;exact List.mem_cons_of_mem _ hb
  · rw [e] at hb
    unfold frs at hb
    rw [List.filterMap_cons,hf] at hb
    exact hb
theorem Inv.stkFree (I:Inv X pins σ H s):∀ b∈frs X.stack,H b=none:=fun b hb=>by
  rcases List.mem_cons.mp (I.stkSub b hb) with e | hb
  · rw [e];exact I.free
  · obtain ⟨_,o,ho,_⟩:=I.ok.funs.mem hb
    exact I.base.free b o ho (I.ok.frf b hb) fun z=>I.ok.exfs b z hb
theorem Inv.step {g':Array GenState} {t':Nat} {d':Drawn} {ch:List Addr} (I:Inv X pins σ H s)
    (hch:∀ b∈ch,(b∈X.ex∨X.s₀.heap.objs.size≤b)∧b≠X.env.locals∧(∀ x c,X.env.cells.lookup x=some c→c≠b)∧∀ p∈X.pn++pins,p.1≠b)
    (keep:∀ b o,b≠X.env.locals→b∉X.fs→b∉ch→s.heap.get? b=some o→H b=none→h'.get? b=some o)
    (slot:∀ b o,b≠X.env.locals→b∈X.fs→b∉ch→s.heap.get? b=some o→H b=none→∃ sl,h'.get? b=some { o with slots:=sl }) (free:∀ b o,b∉ch→s.heap.get? b=some o→H b=none→H' b=none)
    (there:∀ b o,b∉ch→s.heap.get? b=some o→∃ o',h'.get? b=some o')
    (tups:∀ b xs,H b=some (.tup xs)→H' b=some (.tup xs)) (frzs:∀ b o u,H b=some (.frz o u)→H' b=some (.frz o u)) (tbls:∀ b ps,H b=some (.tbl ps)→∃ more,H' b=some (.tbl (ps++more)))
    (ns:∀ m,s.heap.Ns X.env.locals m→h'.Ns X.env.locals m) (hok:HOk X.prog X.w H' h') (hg:AllBare g') :
    Inv X pins σ H' { s with heap:=h',gens:=g',drawn:=d',toks:=t' }:=by
  have neL:∀ b o,X.s₀.heap.get? b=some o→b≠X.env.locals:=fun b o e=>Nat.ne_of_lt (Nat.lt_of_lt_of_le (Heap.lt_size e) I.ok.above)
  have neC:∀ b o,X.s₀.heap.get? b=some o→b∉X.ex→b∉ch:=fun b o e hx hb=>by
    rcases (hch b hb).1 with z | z
    · exact hx z
    · exact absurd (Nat.lt_of_lt_of_le (Heap.lt_size e) z) (Nat.lt_irrefl _)
  have cellK:∀ x c,X.env.cells.lookup x=some c→∀ v,s.heap.IsCell c v→h'.IsCell c v:=fun x c e v ⟨o,ho,hd⟩=>by
    have nch:c∉ch:=fun z=>(hch c z).2.2.1 x c e rfl
    by_cases hc:c∈X.fs
    · obtain ⟨sl,q⟩:=slot c o (I.cne x c e) hc nch ho (I.freeC x c e)
      exact ⟨_,q,hd⟩
    · exact ⟨o,keep c o (I.cne x c e) hc nch ho (I.freeC x c e),hd⟩
  refine ⟨I.ok,I.os,hg,⟨fun b o e n hb hx=>?_,fun b o e n hb hx=>?_,fun b o e n hx=>?_,fun b o e hx=>?_,fun b xs e=>tups b xs (I.base.tups b xs e),fun b o xs e=>frzs b o xs (I.base.frzs b o xs e),fun b ps e=>?_⟩,?_,fun x c e=>?_,?_,fun x c e=>?_,fun p hp=>?_,hok,I.len⟩
  · exact keep b o (neL b o e) hb (neC b o e hx) (I.base.keep b o e n hb hx) (I.base.free b o e n hx)
  · obtain ⟨sl,e1⟩:=I.base.slot b o e n hb hx
    obtain ⟨sl',e2⟩:=slot b _ (neL b o e) hb (neC b o e hx) e1 (I.base.free b o e n hx)
    exact ⟨sl',e2⟩
  · obtain ⟨o',e1⟩:=I.base.there b o e hx
    exact free b o' (neC b o e hx) e1 (I.base.free b o e n hx)
  · obtain ⟨o',e1⟩:=I.base.there b o e hx
    exact there b o' (neC b o e hx) e1
  · obtain ⟨m1,e1⟩:=I.base.tbls b ps e
    obtain ⟨m2,e2⟩:=tbls b _ e1
    exact ⟨m1++m2,by rw [e2,Array.append_assoc]⟩
  · obtain ⟨m,hn,hl⟩:=I.loc
    refine ⟨m,ns m hn,fun i x v e1 e2 e3=>?_⟩
    obtain ⟨u,r,l⟩:=hl i x v e1 e2 e3
    refine ⟨u,r,?_⟩
    rcases l with l | ⟨k,c,e,z⟩
    · exact .inl l
    · exact .inr ⟨k,c,e,cellK x c e _ z⟩
  · obtain ⟨v,z⟩:=I.cell x c e
    exact ⟨v,cellK x c e v z⟩
  · obtain ⟨m,⟨o,_,_,ho,_⟩,_⟩:=I.loc
    exact free _ o (fun z=>(hch _ z).2.1 rfl) ho I.free
  · obtain ⟨v,o,ho,hd⟩:=I.cell x c e
    exact free c o (fun z=>(hch c z).2.2.1 x c e rfl) ho (I.freeC x c e)
  · obtain ⟨e,n,ne,nf,d⟩:=I.pin p hp
    have nch:p.1∉ch:=fun z=>(hch p.1 z).2.2.2 p hp rfl
    exact ⟨keep p.1 p.2 ne nf nch e n,free p.1 p.2 nch e n,ne,nf,d⟩
theorem Inv.un {t':Nat} (I:Inv X pins σ H s) (u:Un X.fs [] H H' s.heap h') (hok:HOk X.prog X.w H' h'):Inv X pins σ H' { s with heap:=h',toks:=t' }:=by
  obtain ⟨m,⟨o,es,ep,ho,r⟩,_⟩:=id I.loc
  obtain ⟨sl,hL⟩:=u.any ho I.free (by simp)
  exact I.step (g':=s.gens) (d':=s.drawn) (ch:=[]) (fun _ z=>nomatch z) (fun b o _ hb _ e n=>u.keep b o e n hb (by simp)) (fun b o _ hb _ e n=>u.slot b o e n hb (by simp)) (fun b o _ e n=>u.free b o e n (by simp)) (fun b o _ e=>u.there b o e (by simp)) u.tups u.frzs u.tbls (fun m' hm=>by
    obtain ⟨o',es',ep',ho',r'⟩:=hm
    rw [ho] at ho';cases ho'
    exact ⟨_,es',ep',hL,r'⟩) hok I.bare
theorem Inv.call {g':Array GenState} {t':Nat} {d':Drawn} {ch:List Addr} (I:Inv X pins σ H s) (u:Un (frs X.stack) ch H H' s.heap h') (hok:HOk X.prog X.w H' h') (hg:AllBare g')
    (hch:∀ b∈ch,(b∈X.ex∨X.s₀.heap.objs.size≤b)∧b≠X.env.locals∧(∀ x c,X.env.cells.lookup x=some c→c≠b)∧∀ p∈X.pn++pins,p.1≠b) :
    Inv X pins σ H' { s with heap:=h',gens:=g',drawn:=d',toks:=t' }:=by
  obtain ⟨m,⟨o,es,ep,ho,r⟩,_⟩:=id I.loc
  obtain ⟨sl,hL⟩:=u.any ho I.free fun z=>(hch _ z).2.1 rfl
  exact I.step (ch:=ch) hch (fun b o hL hb hc e n=>u.keep b o e n (fun z=>(List.mem_cons.mp (I.stkSub b z)).elim hL hb) hc) (fun b o _ _ hc e n=>u.any e n hc) (fun b o hc e n=>u.free b o e n hc) (fun b o hc e=>u.there b o e hc) u.tups u.frzs u.tbls (fun m' hm=>by
    obtain ⟨o',es',ep',ho',r'⟩:=hm
    rw [ho] at ho';cases ho'
    exact ⟨_,es',ep',hL,r'⟩) hok hg
theorem Inv.turned {t':Nat} {it:Addr} (I:Inv X pins σ H s) (k:∀ b o,b≠it→s.heap.get? b=some o→h'.get? b=some o) (hn:H it=none) (hL:it≠X.env.locals)
    (h1:it∈X.ex∨X.s₀.heap.objs.size≤it) (h2:∀ x c,X.env.cells.lookup x=some c→c≠it) (h3:∀ p∈X.pn++pins,p.1≠it):Inv X pins σ H { s with heap:=h',toks:=t' }:=by
  have nit:∀ b u,H b=some u→b≠it:=fun b u e z=>by rw [z,hn] at e;cases e
  refine I.step (g':=s.gens) (d':=s.drawn) (ch:=[it]) (fun b hb=>?_) (fun b o _ _ hc e _=>k b o (fun z=>hc (by simp [z])) e) (fun b o _ _ hc e _=>⟨o.slots,k b o (fun z=>hc (by simp [z])) e⟩) (fun _ _ _ _ n=>n)
    (fun b o hc e=>⟨o,k b o (fun z=>hc (by simp [z])) e⟩) (fun _ _ e=>e) (fun _ _ _ e=>e) (fun b ps e=>⟨#[],by rw [e];simp⟩) (fun m hm=>?_) (fun b u e=>?_) I.bare
  · have e:b=it:=by simpa using hb
    subst e
    exact ⟨h1,hL,h2,h3⟩
  · obtain ⟨o,es,ep,ho,r⟩:=hm
    exact ⟨o,es,ep,k _ o (Ne.symm hL) ho,r⟩
  · refine (I.hok b u e).stay (fun c v hc q=>k c v ?_ q) (fun _ q=>q) fun _ _ q=>q
    rcases hc with z | z
    · rw [z];exact nit b u e
    · exact nit c _ z
theorem Inv.tok (I:Inv X pins σ H s) (t:Nat):Inv X pins σ H { s with toks:=t }:=I.un (h':=s.heap) (t':=t) Un.refl I.hok
theorem Inv.kept {t':Nat} (I:Inv X pins σ H s) (k:∀ b u,s.heap.get? b=some u→h'.get? b=some u):Inv X pins σ H { s with heap:=h',toks:=t' }:=I.un (Un.kept k) (I.hok.kept k)
theorem Inv.laid {a:Addr} {o:HO} {t':Nat} (I:Inv X pins σ H s) (k:∀ b u,s.heap.get? b=some u→h'.get? b=some u) (hp:s.heap.objs.size≤a) (new:ObjOk X.prog X.w (upd H a o) h' a o) :
    Inv X pins σ (upd H a o) { s with heap:=h',toks:=t' }:=I.un (Un.laid k hp (I.hok.fresh hp)) (I.hok.laid k hp new)
theorem Inv.write {x e:Addr} {o:HO} {t':Nat} (I:Inv X pins σ H s) (mu:Mut (H x)) (he:e=x∨H e=some (.own x)) (k:∀ b u,b≠e→s.heap.get? b=some u→h'.get? b=some u) (heo:∃ u,h'.get? e=some u)
    (new:ObjOk X.prog X.w (upd H x o) h' x o):Inv X pins σ (upd H x o) { s with heap:=h',toks:=t' }:=I.un (Un.write mu he k heo) (I.hok.write mu he k heo new)
theorem Inv.pins_of {pins':List (Addr×Obj)} (I:Inv X pins σ H s) (h:∀ p∈pins',s.heap.get? p.1=some p.2∧H p.1=none∧p.1≠X.env.locals∧p.1∉X.fs∧∀ v,p.2.data≠.cell v):Inv X pins' σ H s:=
  ⟨I.ok,I.os,I.bare,I.base,I.loc,I.cell,I.free,I.freeC,fun p hp=>(List.mem_append.mp hp).elim (fun z=>I.pin p (List.mem_append_left _ z)) (h p),I.hok,I.len⟩
theorem nodup_ix {N:List Str} (hN:N.Nodup) {i j:Nat} {x:Str} (a:N[i]?=some x) (b:N[j]?=some x):i=j:=by
  obtain ⟨h1,e1⟩:=List.getElem?_eq_some_iff.mp a
  obtain ⟨h2,e2⟩:=List.getElem?_eq_some_iff.mp b
  exact (List.getElem_inj hN).mp (e1.trans e2.symm)
theorem store_ok2 {M:Model} {A:Around} {E:Value→Shared→Prop} {i:Nat} {x:Str} {v:V} {u:Value} {Q:Unit→Shared→Prop} (I:Inv X pins σ H s) (hN:X.N.Nodup) (hi:X.N[i]?=some x) (hx:Loc X.env.scope x) (r:RelV v u)
    (h:∀ s',Inv X pins (σ.set i (some v)) H s'→(∃ a,Heap.SameBut a s.heap s'.heap∧(a=X.env.locals∨X.env.cells.lookup x=some a))→Q () s') (hf:X.fn x=true∨X.env.scope.names.lookup x=some .local:=by first | exact .inl rfl | exact .inr rfl | assumption):wpAny M A (storeName X.env x u) Q E s:=by
  obtain ⟨m,hn,hl⟩:=id I.loc
  have hcls:(X.env.scope.kind==.class||(X.env.scope.kind==.module&&X.env.locals != X.env.globals))=false:=by rw [I.ok.kind];rfl
  have hiσ:i < σ.length:=by rw [I.len];exact (List.getElem?_eq_some_iff.mp hi).1
  have cne:=I.cne
  have tracked:∀ {a:Addr} {h':Heap},(∃ o,s.heap.get? a=some o∧H a=none)→Heap.SameBut a s.heap h'→HOk X.prog X.w H h':=fun {a h'} ha hs b ob e=>by
    obtain ⟨_,_,hfree⟩:=ha
    refine (I.hok b ob e).stay (fun c w' hc q=>(hs.2 c ?_).trans q) (fun _ q=>q) fun _ _ q=>q
    rintro rfl
    rcases hc with rfl | hc
    · rw [hfree] at e;cases e
    · rw [hfree] at hc;cases hc
  rcases hx with hk | hk
  · refine wpAny_storeName_local hk hn (fun h' hn' hs=>?_) hcls
    obtain ⟨oL,_,_,hoL,_⟩:=id hn
    refine h _ ⟨I.ok,I.os,I.bare,⟨fun b o e n hb hx=>?_,fun b o e n hb hx=>?_,I.base.free,fun b o e hx=>?_,I.base.tups,I.base.frzs,I.base.tbls⟩,⟨_,hn',fun j y v' e1 e2 e3=>?_⟩,fun y c e=>?_,I.free,I.freeC,fun p hp=>?_,tracked ⟨oL,hoL,I.free⟩ hs,by simpa using I.len⟩ ⟨_,hs,.inl rfl⟩
    · exact (hs.2 b (Nat.ne_of_lt (Nat.lt_of_lt_of_le (Heap.lt_size e) I.ok.above))).trans (I.base.keep b o e n hb hx)
    · obtain ⟨sl,e1⟩:=I.base.slot b o e n hb hx
      exact ⟨sl,(hs.2 b (Nat.ne_of_lt (Nat.lt_of_lt_of_le (Heap.lt_size e) I.ok.above))).trans e1⟩
    · obtain ⟨o',e1⟩:=I.base.there b o e hx
      exact ⟨o',(hs.2 b (Nat.ne_of_lt (Nat.lt_of_lt_of_le (Heap.lt_size e) I.ok.above))).trans e1⟩
    · by_cases hj:j=i
      · subst hj
        rw [hi] at e1;cases e1
        rw [List.getElem?_set_self hiσ] at e2
        cases e2
        exact ⟨u,r,.inl ⟨hk,by simp⟩⟩
      · rw [List.getElem?_set_ne (Ne.symm hj)] at e2
        obtain ⟨u',r',q⟩:=hl j y v' e1 e2 e3
        refine ⟨u',r',?_⟩
        rcases q with ⟨k,e⟩ | ⟨k,c,e,z⟩
        · refine .inl ⟨k,?_⟩
          have:y≠x:=fun e=>hj (nodup_ix hN e1 (e▸hi))
          simp [this,e]
        · exact .inr ⟨k,c,e,z.sameBut hs (cne y c e)⟩
    · obtain ⟨w',z⟩:=I.cell y c e
      exact ⟨w',z.sameBut hs (cne y c e)⟩
    · obtain ⟨e,n,ne,nf,d⟩:=I.pin p hp
      exact ⟨(hs.2 p.1 ne).trans e,n,ne,nf,d⟩
  · have hfn:X.fn x=true:=by
      rcases hf with z | z
      · exact z
      · rw [z] at hk;cases hk
    obtain ⟨c,hc⟩:=I.ok.has x (.inl hk)
    obtain ⟨w',z⟩:=I.cell x c hc
    refine wpAny_storeName_cell I.ok.kind hk hc z (fun h' hc' hs=>?_)
    obtain ⟨oc,hoc,hocd⟩:=id z
    refine h { s with heap:=h' } ⟨I.ok,I.os,I.bare,⟨fun b o e n hb hx=>?_,fun b o e n hb hx=>?_,I.base.free,fun b o e hx=>?_,I.base.tups,I.base.frzs,I.base.tbls⟩,⟨m,hn.sameBut hs (Ne.symm (cne x c hc)),fun j y v' e1 e2 e3=>?_⟩,fun y c' e=>?_,I.free,I.freeC,fun p hp=>?_,tracked ⟨oc,hoc,I.freeC x c hc⟩ hs,by simpa using I.len⟩ ⟨c,hs,.inr hc⟩
    · exact (hs.2 b (Nat.ne_of_lt (Nat.lt_of_lt_of_le (Heap.lt_size e) (I.ok.cab x c hfn hc)))).trans (I.base.keep b o e n hb hx)
    · obtain ⟨sl,e1⟩:=I.base.slot b o e n hb hx
      exact ⟨sl,(hs.2 b (Nat.ne_of_lt (Nat.lt_of_lt_of_le (Heap.lt_size e) (I.ok.cab x c hfn hc)))).trans e1⟩
    · obtain ⟨o',e1⟩:=I.base.there b o e hx
      exact ⟨o',(hs.2 b (Nat.ne_of_lt (Nat.lt_of_lt_of_le (Heap.lt_size e) (I.ok.cab x c hfn hc)))).trans e1⟩
    · by_cases hj:j=i
      · subst hj
        rw [hi] at e1;cases e1
        rw [List.getElem?_set_self hiσ] at e2
        cases e2
        exact ⟨u,r,.inr ⟨.inl hk,c,hc,hc'⟩⟩
      · rw [List.getElem?_set_ne (Ne.symm hj)] at e2
        obtain ⟨u',r',q⟩:=hl j y v' e1 e2 e3
        refine ⟨u',r',?_⟩
        rcases q with q | ⟨k,c',e,z'⟩
        · exact .inl q
        · refine .inr ⟨k,c',e,z'.sameBut hs ?_⟩
          rintro rfl
          exact hj (nodup_ix hN e1 (I.ok.inj _ _ _ e hc▸hi))
    · by_cases hcc:c'=c
      · subst hcc;exact ⟨_,hc'⟩
      · obtain ⟨w2,z2⟩:=I.cell y c' e
        exact ⟨w2,z2.sameBut hs hcc⟩
    · obtain ⟨e,n,ne,nf,d⟩:=I.pin p hp
      refine ⟨(hs.2 p.1 ?_).trans e,n,ne,nf,d⟩
      intro q
      rw [q,hoc] at e
      have q':oc=p.2:=Option.some.inj e
      exact d w' (by rw [← q'];exact hocd)
theorem store_ok {M:Model} {A:Around} {E:Value→Shared→Prop} {i:Nat} {x:Str} {v:V} {u:Value} {Q:Unit→Shared→Prop} (I:Inv X pins σ H s) (hN:X.N.Nodup) (hi:X.N[i]?=some x) (hx:Loc X.env.scope x) (r:RelV v u)
    (h:∀ s',Inv X pins (σ.set i (some v)) H s'→Q () s') (hf:X.fn x=true∨X.env.scope.names.lookup x=some .local:=by first | exact .inl rfl | exact .inr rfl | assumption):wpAny M A (storeName X.env x u) Q E s:=
  store_ok2 I hN hi hx r (fun s' I' _=>h s' I') hf
theorem Inv.call' {s':Shared} {ch:List Addr} (I:Inv X pins σ H s) (ho:s'.os=s.os) (u:Un (frs X.stack) ch H H' s.heap s'.heap) (hok:HOk X.prog X.w H' s'.heap) (hg:AllBare s'.gens)
    (hch:∀ b∈ch,(b∈X.ex∨X.s₀.heap.objs.size≤b)∧b≠X.env.locals∧(∀ x c,X.env.cells.lookup x=some c→c≠b)∧∀ p∈X.pn++pins,p.1≠b):Inv X pins σ H' s':=by
  obtain ⟨h',g',d',t',o'⟩:=s'
  have e:o'=s.os:=ho
  subst e
  exact I.call (g':=g') (t':=t') (d':=d') u hok hg hch
end
abbrev XK:=Value→Option Addr→Hp→Prop
abbrev St:=List (Option V)
abbrev VK:=V→Hp→Prop
abbrev TE:=St→Hp→VK→Prop
abbrev TT:=St→Hp→(Bool→Hp→Prop)→Prop
abbrev TA:=St→Hp→(List V→Hp→Prop)→Prop
structure Ends where
  nx:St→Hp→Prop
  rt:VK
  bk:St→Hp→Prop:=fun _ _=>False
  ct:St→Hp→Prop:=fun _ _=>False
abbrev TS:=Ends→St→Hp→Prop
def EP (X:Cx) (pins:List (Addr×Obj)) (σ:St) (Q:VK) (u:Value) (s':Shared):Prop:=∃ v H',Inv X pins σ H' s'∧RelV v u∧Q v H'
def TP (X:Cx) (pins:List (Addr×Obj)) (σ:St) (Q:Bool→Hp→Prop) (b:Bool) (s':Shared):Prop:=∃ H',Inv X pins σ H' s'∧Q b H'
def AP (X:Cx) (pins:List (Addr×Obj)) (σ:St) (Q:List V→Hp→Prop) (us:List Value) (s':Shared):Prop:=∃ vs H',Inv X pins σ H' s'∧Vals vs us∧Q vs H'
def SP (X:Cx) (pins:List (Addr×Obj)) (D:Ends) (f:Flow) (s':Shared):Prop:=
  match f with
  | .next=>∃ σ' H',Inv X pins σ' H' s'∧D.nx σ' H'
  | .brk=>∃ σ' H',Inv X pins σ' H' s'∧D.bk σ' H'
  | .cont=>∃ σ' H',Inv X pins σ' H' s'∧D.ct σ' H'
  | .ret u=>∃ v σ' H',Inv X pins σ' H' s'∧RelV v u∧D.rt v H'
def PE (X:Cx) (e:Expr) (t:TE):Prop:=
  ∀ (pins:List (Addr×Obj)) (s:Shared) (σ:St) (H:Hp) (Q:VK),Inv X pins σ H s→t σ H Q→wpAny (model X.prog X.w) X.A (eval e X.env) (EP X pins σ Q) X.xe s
def PT (X:Cx) (e:Expr) (t:TT):Prop:=
  ∀ (pins:List (Addr×Obj)) (s:Shared) (σ:St) (H:Hp) (Q:Bool→Hp→Prop),Inv X pins σ H s→t σ H Q→wpAny (model X.prog X.w) X.A (isTrue e X.env (eval e X.env)) (TP X pins σ Q) X.xe s
def PW (X:Cx) (e:Expr) (t:TT):Prop:=
  ∀ (whole:Sem Value) (pins:List (Addr×Obj)) (s:Shared) (σ:St) (H:Hp) (Q:Bool→Hp→Prop),Inv X pins σ H s→t σ H Q→wpAny (model X.prog X.w) X.A (isTrue e X.env whole) (TP X pins σ Q) X.xe s
theorem PW.pt {X:Cx} {e:Expr} {t:TT} (h:PW X e t):PT X e t:=h _
def PA (X:Cx) (es:List Expr) (t:TA):Prop:=
  ∀ (pos:Pos) (pins:List (Addr×Obj)) (s:Shared) (σ:St) (H:Hp) (Q:List V→Hp→Prop),Inv X pins σ H s→t σ H Q→wpAny (model X.prog X.w) X.A (spliced (backTo pos (starEach es X.env))) (AP X pins σ Q) X.xe s
def PS (X:Cx) (st:Stmt) (t:TS):Prop:=
  ∀ (pins:List (Addr×Obj)) (s:Shared) (σ:St) (H:Hp) (D:Ends),Inv X pins σ H s→t D σ H→wpAny (model X.prog X.w) X.A (exec st X.env) (SP X pins D) X.xe s
def PSs (X:Cx) (st:List Stmt) (t:TS):Prop:=
  ∀ (pins:List (Addr×Obj)) (s:Shared) (σ:St) (H:Hp) (D:Ends),Inv X pins σ H s→t D σ H→wpAny (model X.prog X.w) X.A (execs st X.env) (SP X pins D) X.xe s
theorem thn {α:Type} {t:Sem α} {Q Q':α→Shared→Prop} {M:Model} {A:Around} {E:Value→Shared→Prop} {s:Shared} (h:wpAny M A t Q E s) (hQ:∀ a s,Q a s→Q' a s):wpAny M A t Q' E s:=wpAny_mono h hQ fun _ _ x=>x
end L2
namespace L2
open PySem PySem.Spec PyProof.Rows
section
variable {X:Cx}
def tVar (i:Nat):TE:=fun σ H Q=>∃ v,σ[i]?=some (some v)∧Q v H
def tC (v:V):TE:=fun _ H Q=>Q v H
theorem pe_var {i:Nat} {x:Str} {pos:Pos} (hN:X.N[i]?=some x) (hv:Vis X.env.scope x) (hd:(x==("__debug__":Str))=false:=by decide) (hcd:(x==("__classdict__":Str))=false:=by decide):PE X (.Name x pos) (tVar i):=by
  intro pins s σ H Q I h
  obtain ⟨v,e,h⟩:=h
  obtain ⟨m,hn,hl⟩:=I.loc
  obtain ⟨u,r,l⟩:=hl i x v hN e hv
  have fin:EP X pins σ Q u s:=⟨v,H,I,r,h⟩
  rcases l with ⟨hk,hm⟩ | ⟨hk,c,hc,hcell⟩
  · exact wpAny_Name (wpAny_loadName_local I.ok.kind hk hn hm fin) hd
  · rcases hk with hk | hk
    · exact wpAny_Name (wpAny_loadName_cell I.ok.kind hk hc hcell fin) hd
    · exact wpAny_Name (wpAny_loadName_free I.ok.kind hk hc hcell fin hcd) hd
theorem pe_int {i j pos}:PE X (.Constant (.int i) j pos) (tC (.int i)):=fun _ _ _ H _ I h=>wpAny_Constant_int ⟨.int i,H,I.tok _,⟨_,rfl⟩,h⟩
theorem pe_bl {b j pos}:PE X (.Constant (.bool b) j pos) (tC (.bl b)):=fun _ _ _ H _ I h=>Constant_bool ⟨.bl b,H,I,rfl,h⟩
theorem pe_non {j pos}:PE X (.Constant .none j pos) (tC .non):=fun _ _ _ H _ I h=>Constant_none ⟨.non,H,I,rfl,h⟩
theorem pe_str {x j pos}:PE X (.Constant (.str x) j pos) (tC (.str x)):=fun _ _ _ H _ I h=>Calls.Constant_str ⟨.str x,H,I.tok _,⟨_,rfl⟩,h⟩
def Gl (X:Cx) (x:Str):Prop:=X.env.kindOf x=some .globalImplicit
theorem ld_glob {E:Value→Shared→Prop} {pins:List (Addr×Obj)} {s:Shared} {σ:St} {H:Hp} {x:Str} {u:Value} {pos:Pos} {Q:Value→Shared→Prop} (I:Inv X pins σ H s) (hg:Gl X x) (hm:X.mg x=some u) (h:Q u s)
    (hd:(x==("__debug__":Str))=false:=by decide):wpAny (model X.prog X.w) X.A (eval (.Name x pos) X.env) Q E s:=
  Calls.Name_function_global I.ok.kind hg (Calls.loadGlobal_global (by rw [I.ok.glob];exact I.mod.glob.keeps I.bk) hm h) hd
theorem ld_blt {E:Value→Shared→Prop} {pins:List (Addr×Obj)} {s:Shared} {σ:St} {H:Hp} {x:Str} {u:Value} {pos:Pos} {Q:Value→Shared→Prop} (I:Inv X pins σ H s) (hg:Gl X x) (hm:X.mg x=none) (hv:bootBuiltins x=some u) (h:Q u s)
    (hn:x≠"__name__":=by decide) (hd:(x==("__debug__":Str))=false:=by decide):wpAny (model X.prog X.w) X.A (eval (.Name x pos) X.env) Q E s:=by
  obtain ⟨mb,h1,h2⟩:=I.mod.blt
  exact Calls.Name_function_global I.ok.kind hg (Calls.loadGlobal_builtin (by rw [I.ok.glob];exact I.mod.glob.keeps I.bk) hm (by rw [I.ok.blt];exact h1.keeps I.bk) ((h2 x hn).trans hv) h) hd
theorem pe_glob {x:Str} {v:V} {u:Value} {pos:Pos} (hg:Gl X x) (hm:X.mg x=some u) (r:RelV v u) (hd:(x==("__debug__":Str))=false:=by decide):PE X (.Name x pos) (tC v):=
  fun _ _ _ H _ I h=>ld_glob I hg hm ⟨v,H,I,r,h⟩ hd
theorem pe_bltn {x:Str} {v:V} {u:Value} {pos:Pos} (hg:Gl X x) (hm:X.mg x=none) (hv:bootBuiltins x=some u) (r:RelV v u) (hn:x≠"__name__":=by decide) (hd:(x==("__debug__":Str))=false:=by decide):PE X (.Name x pos) (tC v):=
  fun _ _ _ H _ I h=>ld_blt I hg hm hv ⟨v,H,I,r,h⟩ hn hd
variable {a b:Expr} {ta tb:TE} {pos:Pos}
def tB (t:TE):TT:=fun σ H Q=>t σ H fun x H1=>∃ c,x=.bl c∧Q c H1
theorem pt_val {e:Expr} {t:TE} (h:PE X e t) (he:∀ whole,isTrue e X.env whole=(do let v ← whole;standAt e.pos;holding [v] (truthy v)):=by intro _;rfl):PT X e (tB t):=by
  intro pins s σ H Q I hw
  refine isTrue_plain (thn (h pins s σ H _ I hw) fun v s1 ⟨x,H1,I1,r1,q1⟩=>?_) (he _)
  obtain ⟨d,rfl,q⟩:=q1
  cases r1
  exact wpAny_truthy_bool ⟨H1,I1,q⟩
variable {tA tB':TT} {rest:List Expr}
def tAnd (t u:TT):TT:=fun σ H Q=>t σ H fun c H1=>if c=true then u σ H1 Q else Q false H1
def tOr (t u:TT):TT:=fun σ H Q=>t σ H fun c H1=>if c=true then Q true H1 else u σ H1 Q
def tNot (t:TT):TT:=fun σ H Q=>t σ H fun c H1=>Q (!c) H1
theorem pw_and1 (ha:PT X a tA):PW X (.BoolOp .And [a] pos) tA:=by
  intro wh pins s σ H Q I h
  refine isTrue_and (thn (ha pins s σ H Q I h) fun c s1 e=>?_)
  cases c with
  | true=>exact isTrue_and_nil e
  | false=>exact e
theorem pw_or1 (ha:PT X a tA):PW X (.BoolOp .Or [a] pos) tA:=by
  intro wh pins s σ H Q I h
  refine isTrue_or (thn (ha pins s σ H Q I h) fun c s1 e=>?_)
  cases c with
  | false=>exact isTrue_or_nil e
  | true=>exact e
theorem pw_and (ha:PT X a tA) (hb:PW X (.BoolOp .And (b::rest) pos) tB'):PW X (.BoolOp .And (a::b::rest) pos) (tAnd tA tB'):=by
  intro wh pins s σ H Q I h
  refine isTrue_and (thn (ha pins s σ H _ I h) fun c s1 ⟨H1,I1,q1⟩=>?_)
  cases c with
  | true=>exact hb wh pins s1 σ H1 Q I1 q1
  | false=>exact ⟨H1,I1,q1⟩
theorem pw_or (ha:PT X a tA) (hb:PW X (.BoolOp .Or (b::rest) pos) tB'):PW X (.BoolOp .Or (a::b::rest) pos) (tOr tA tB'):=by
  intro wh pins s σ H Q I h
  refine isTrue_or (thn (ha pins s σ H _ I h) fun c s1 ⟨H1,I1,q1⟩=>?_)
  cases c with
  | true=>exact ⟨H1,I1,q1⟩
  | false=>exact hb wh pins s1 σ H1 Q I1 q1
theorem pt_not (ha:PT X a tA):PT X (.UnaryOp .Not a pos) (tNot tA):=by
  intro pins s σ H Q I h
  exact isTrue_not (ha pins s σ H (fun c H1=>Q (!c) H1) I h)
def tAndV (ta tb:TE):TE:=fun σ H Q=>ta σ H fun x H1=>∃ c,x=.bl c∧if c=true then tb σ H1 Q else Q (.bl false) H1
def tOrV (ta tb:TE):TE:=fun σ H Q=>ta σ H fun x H1=>∃ c,x=.bl c∧if c=true then Q (.bl true) H1 else tb σ H1 Q
def tNotV (ta:TE):TE:=fun σ H Q=>ta σ H fun x H1=>∃ c,x=.bl c∧Q (.bl (!c)) H1
theorem pe_one {op} {t:TE} (h:PE X a t):PE X (.BoolOp op [a] pos) t:=fun pins s σ H Q I hw=>BoolOp_one (h pins s σ H Q I hw)
theorem pe_and (ha:PE X a ta) (hb:PE X (.BoolOp .And (b::rest) pos) tb):PE X (.BoolOp .And (a::b::rest) pos) (tAndV ta tb):=by
  intro pins s σ H Q I h
  refine BoolOp_and (thn (ha pins s σ H _ I h) fun v s1 ⟨x,H1,I1,r1,q1⟩=>?_)
  obtain ⟨c,rfl,q1⟩:=q1
  cases r1
  refine wpAny_truthy_bool ?_
  cases c with
  | true=>exact hb pins s1 σ H1 Q I1 q1
  | false=>exact ⟨.bl false,H1,I1,rfl,q1⟩
theorem pe_or (ha:PE X a ta) (hb:PE X (.BoolOp .Or (b::rest) pos) tb):PE X (.BoolOp .Or (a::b::rest) pos) (tOrV ta tb):=by
  intro pins s σ H Q I h
  refine BoolOp_or (thn (ha pins s σ H _ I h) fun v s1 ⟨x,H1,I1,r1,q1⟩=>?_)
  obtain ⟨c,rfl,q1⟩:=q1
  cases r1
  refine wpAny_truthy_bool ?_
  cases c with
  | false=>exact hb pins s1 σ H1 Q I1 q1
  | true=>exact ⟨.bl true,H1,I1,rfl,q1⟩
theorem pe_not (ha:PE X a ta):PE X (.UnaryOp .Not a pos) (tNotV ta):=by
  intro pins s σ H Q I h
  refine UnaryOp_ (thn (ha pins s σ H _ I h) fun v s1 ⟨x,H1,I1,r1,q1⟩=>?_)
  obtain ⟨c,rfl,q1⟩:=q1
  cases r1
  exact not_of (wpAny_truthy_bool ⟨.bl (!c),H1,I1,rfl,q1⟩)
def tIf (t:TT) (ta tb:TE):TE:=fun σ H Q=>t σ H fun c H1=>if c=true then ta σ H1 Q else tb σ H1 Q
theorem pe_ifExp {c:Expr} (hc:PT X c tA) (ha:PE X a ta) (hb:PE X b tb):PE X (.IfExp c a b pos) (tIf tA ta tb):=by
  intro pins s σ H Q I h
  refine wpAny_IfExp (thn (hc pins s σ H _ I h) fun d s1 ⟨H1,I1,q1⟩=>?_)
  cases d with
  | true=>exact ha pins s1 σ H1 Q I1 q1
  | false=>exact hb pins s1 σ H1 Q I1 q1
end
end L2
namespace L2
open PySem PySem.Spec PyProof.Rows
def SqL (K:PySem.W.Frag) (H:Hp) (a:Addr) (xs:List V):Prop:=
  Rd H a (.lst xs)∨
    ∃ (o:Obj) (its:Array Value) (n:Nat),K.lookup a=some o∧o.cls=.type "list"∧o.dict=none∧o.data=.seq its n∧its.size≤sizeLine∧Vals xs its.toList
def SqT (K:PySem.W.Frag) (H:Hp) (a:Addr) (xs:List V):Prop:=
  Rd H a (.tup xs)∨
    ∃ (o:Obj) (its:Array Value) (n:Nat),K.lookup a=some o∧o.cls=.type "tuple"∧o.data=.seq its n∧its.size≤sizeLine∧Vals xs its.toList
def absV:Value→Option V
  | .none=>some .non
  | .bool b=>some (.bl b)
  | .int i _=>some (.int i)
  | .str x _=>some (.str x)
  | .bytes b _=>some (.byt b)
  | .float b _=>some (.flt b)
  | .ref a=>some (.ref a)
  | .type n=>some (.ty n)
  | _=>none
theorem RelV.abs {x:V} {u:Value} (r:RelV x u):absV u=some x:=by
  cases x with
  | non=>cases r;rfl
  | bl _=>cases r;rfl
  | int _=>obtain ⟨t,rfl⟩:=r;rfl
  | str _=>obtain ⟨t,rfl⟩:=r;rfl
  | byt _=>obtain ⟨t,rfl⟩:=r;rfl
  | flt _=>obtain ⟨t,rfl⟩:=r;rfl
  | ref _=>cases r;rfl
  | ty _=>cases r;rfl
theorem RelV.inj {x y:V} {u:Value} (r:RelV x u) (q:RelV y u):x=y:=Option.some.inj (r.abs.symm.trans q.abs)
theorem Vals.inj:∀ {xs ys:List V} {us:List Value},Vals xs us→Vals ys us→xs=ys
  | _,_,_,.nil,.nil=>rfl
  | _,_,_,.cons r t,.cons r' t'=>by rw [r.inj r',Vals.inj t t']
section
variable {X:Cx} {pins:List (Addr×Obj)} {σ:St} {H:Hp} {s:Shared} {a:Addr} {xs ys:List V}
theorem SqL.of {K:PySem.W.Frag} (h:H a=some (.lst xs)):SqL K H a xs:=.inl (.inl h)
theorem SqT.of {K:PySem.W.Frag} (h:H a=some (.tup xs)):SqT K H a xs:=.inl (.inl h)
theorem Inv.list (I:Inv X pins σ H s) (h:SqL X.K H a xs):∃ its:List Value,Vals xs its∧PlainL s.heap a its.toArray∧xs.length≤sizeLine:=by
  rcases h with h | ⟨o,its,n,hk,hc,hd,hs,hz,r⟩
  · obtain ⟨z,its,n,r,e⟩:=h.ok I.hok
    exact ⟨its,r,⟨_,n,e,rfl,rfl,rfl⟩,z⟩
  · refine ⟨its.toList,r,⟨o,n,I.kIn a o hk,hc,hd,by simpa using hs⟩,?_⟩
    have e:=r.length
    simp only [Array.length_toList] at e
    omega
theorem Inv.tuple (I:Inv X pins σ H s) (h:SqT X.K H a xs):∃ its:List Value,Vals xs its∧IsTup s.heap a its.toArray∧xs.length≤sizeLine:=by
  rcases h with h | ⟨o,its,n,hk,hc,hs,hz,r⟩
  · obtain ⟨z,its,r,p⟩:=h.ok I.hok
    exact ⟨its,r,p,z⟩
  · refine ⟨its.toList,r,⟨o,I.kIn a o hk,hc,n,by simpa using hs⟩,?_⟩
    have e:=r.length
    simp only [Array.length_toList] at e
    omega
theorem Inv.list_inj (I:Inv X pins σ H s) (h:SqL X.K H a xs) (h':SqL X.K H a ys):xs=ys:=by
  obtain ⟨its,r,⟨o,n,e,_,_,d⟩,_⟩:=I.list h
  obtain ⟨its',r',⟨o',n',e',_,_,d'⟩,_⟩:=I.list h'
  rw [e] at e';cases e'
  rw [d] at d'
  injection d' with d1 _
  have:its=its':=by simpa using congrArg Array.toList d1
  subst this
  exact r.inj r'
theorem Inv.tuple_inj (I:Inv X pins σ H s) (h:SqT X.K H a xs) (h':SqT X.K H a ys):xs=ys:=by
  obtain ⟨its,r,⟨o,e,_,n,d⟩,_⟩:=I.tuple h
  obtain ⟨its',r',⟨o',e',_,n',d'⟩,_⟩:=I.tuple h'
  rw [e] at e';cases e'
  rw [d] at d'
  injection d' with d1 _
  have:its=its':=by simpa using congrArg Array.toList d1
  subst this
  exact r.inj r'
end
abbrev Cx.wish (X:Cx) (E:Value→Shared→Prop):Cx:={ X with xe:=E }
abbrev Cx.nox (X:Cx):Cx:=X.wish fun _ _=>False
theorem Cx.Ok.wish {X:Cx} (ok:X.Ok) (E:Value→Shared→Prop):(X.wish E).Ok:=
  ⟨ok.mod,ok.kind,ok.glob,ok.blt,ok.above,ok.inj,ok.has,ok.cab,ok.hd,ok.frames,ok.stk,ok.exf,ok.bs,ok.bsz,ok.noex,ok.exfs,ok.funs,ok.frf⟩
theorem Cx.Ok.unwish {X:Cx} {E:Value→Shared→Prop} (ok:(X.wish E).Ok):X.Ok:=
  ⟨ok.mod,ok.kind,ok.glob,ok.blt,ok.above,ok.inj,ok.has,ok.cab,ok.hd,ok.frames,ok.stk,ok.exf,ok.bs,ok.bsz,ok.noex,ok.exfs,ok.funs,ok.frf⟩
section
variable {X:Cx} {pins:List (Addr×Obj)} {σ:St} {H:Hp} {s:Shared} {E:Value→Shared→Prop}
theorem Inv.wish (I:Inv X pins σ H s) (E:Value→Shared→Prop):Inv (X.wish E) pins σ H s:=⟨I.ok.wish E,I.os,I.bare,I.base,I.loc,I.cell,I.free,I.freeC,I.pin,I.hok,I.len⟩
theorem Inv.unwish (I:Inv (X.wish E) pins σ H s):Inv X pins σ H s:=⟨I.ok.unwish,I.os,I.bare,I.base,I.loc,I.cell,I.free,I.freeC,I.pin,I.hok,I.len⟩
theorem SP.unwish {D:Ends} {f:Flow} {s':Shared} (h:SP (X.wish E) pins D f s'):SP X pins D f s':=by
  cases f with
  | next=>obtain ⟨σ',H',I,q⟩:=h;exact ⟨σ',H',I.unwish,q⟩
  | brk=>obtain ⟨σ',H',I,q⟩:=h;exact ⟨σ',H',I.unwish,q⟩
  | cont=>obtain ⟨σ',H',I,q⟩:=h;exact ⟨σ',H',I.unwish,q⟩
  | ret u=>obtain ⟨v,σ',H',I,r,q⟩:=h;exact ⟨v,σ',H',I.unwish,r,q⟩
theorem PE.nox {e:Expr} {t:TE} (h:PE X.nox e t):PE X e t:=fun pins s σ H Q I hw=>
  wpAny_mono (h pins s σ H Q (I.wish _) hw) (fun _ _ ⟨v,H',I',r,q⟩=>⟨v,H',I'.unwish,r,q⟩) fun _ _ z=>False.elim z
theorem PT.nox {e:Expr} {t:TT} (h:PT X.nox e t):PT X e t:=fun pins s σ H Q I hw=>
  wpAny_mono (h pins s σ H Q (I.wish _) hw) (fun _ _ ⟨H',I',q⟩=>⟨H',I'.unwish,q⟩) fun _ _ z=>False.elim z
theorem PSs.nox {st:List Stmt} {t:TS} (h:PSs X.nox st t):PSs X st t:=fun pins s σ H D I hw=>
  wpAny_mono (h pins s σ H D (I.wish _) hw) (fun _ _ q=>q.unwish) fun _ _ z=>False.elim z
end
section
variable {X:Cx} {st:Stmt} {rest:List Stmt} {t u:TS} {e:Expr} {te:TE} {pos:Pos}
def tNext:TS:=fun D σ H=>D.nx σ H
def tSeq (t u:TS):TS:=fun D σ H=>t { D with nx:=u D } σ H
theorem pss_nil:PSs X [] tNext:=fun _ _ σ H _ I h=>wpAny_execs_nil ⟨σ,H,I,h⟩
theorem pss_cons (h1:PS X st t) (h2:PSs X rest u):PSs X (st::rest) (tSeq t u):=by
  intro pins s σ H D I h
  refine wpAny_execs_cons (thn (h1 pins s σ H { D with nx:=u D } I h) fun f s1 q=>?_)
  cases f with
  | next=>
    obtain ⟨σ',H',I',q⟩:=q
    exact h2 pins s1 σ' H' D I' q
  | ret v=>exact q
  | brk=>exact q
  | cont=>exact q
theorem pss_one (h1:PS X st t):PSs X [st] t:=by
  intro pins s σ H D I h
  refine wpAny_execs_cons (thn (h1 pins s σ H D I h) fun f s1 q=>?_)
  cases f with
  | next=>exact wpAny_execs_nil q
  | ret v=>exact q
  | brk=>exact q
  | cont=>exact q
theorem Inv.quiet {pins:List (Addr×Obj)} {σ:St} {H:Hp} {s:Shared} (I:Inv X pins σ H s):interactive X.env=false:=by simp [interactive,I.ok.kind]
def tDrop (te:TE):TS:=fun D σ H=>te σ H fun _ H1=>D.nx σ H1
theorem ps_expr (he:PE X e te) (hs:swapsWith e none pos.line X.env=pure false:=by rfl):PS X (.Expr e pos) (tDrop te):=by
  intro pins s σ H D I h
  exact wpAny_Expr_any (thn (he pins s σ H _ I h) fun v s1 ⟨x,H1,I1,r1,q1⟩=>⟨σ,H1,I1,q1⟩) I.quiet hs
def tRet (te:TE):TS:=fun D σ H=>te σ H D.rt
theorem ps_ret (he:PE X e te):PS X (.Return (some e) pos) (tRet te):=by
  intro pins s σ H D I h
  exact wpAny_Return_some (thn (he pins s σ H _ I h) fun v s1 ⟨x,H1,I1,r1,q1⟩=>⟨x,σ,H1,I1,r1,q1⟩)
def tIfS (c:TT) (t u:TS):TS:=fun D σ H=>c σ H fun b H1=>if b=true then t D σ H1 else u D σ H1
theorem ps_if {c:Expr} {a b:List Stmt} {tc:TT} (hc:PT X c tc) (ha:PSs X a t) (hb:PSs X b u):PS X (.If c a b pos) (tIfS tc t u):=by
  intro pins s σ H D I h
  refine wpAny_If (thn (hc pins s σ H _ I h) fun d s1 ⟨H1,I1,q1⟩=>?_)
  cases d with
  | true=>exact ha pins s1 σ H1 D I1 q1
  | false=>exact hb pins s1 σ H1 D I1 q1
end
abbrev TG:=V→St→Hp→(St→Hp→Prop)→Prop
abbrev TGs:=List V→St→Hp→(St→Hp→Prop)→Prop
def PG (X:Cx) (target:Expr) (t:TG):Prop:=
  ∀ (pins:List (Addr×Obj)) (s:Shared) (σ:St) (H:Hp) (v:V) (u:Value) (Q:St→Hp→Prop),Inv X pins σ H s→RelV v u→t v σ H Q→
    wpAny (model X.prog X.w) X.A (assign target X.env u) (fun _ s'=>∃ σ' H',Inv X pins σ' H' s'∧Q σ' H') X.xe s
def PGs (X:Cx) (ts:List Expr) (t:TGs):Prop:=
  ∀ (pins:List (Addr×Obj)) (s:Shared) (σ:St) (H:Hp) (vs:List V) (us:List Value) (Q:St→Hp→Prop),Inv X pins σ H s→Vals vs us→t vs σ H Q→
    wpAny (model X.prog X.w) X.A (assignInOrder ((assignEach ts X.env).map (·.2)) us) (fun _ s'=>∃ σ' H',Inv X pins σ' H' s'∧Q σ' H') X.xe s
abbrev TIp:=V→V→Hp→VK→Prop
def PIp (X:Cx) (op:Operator) (t:TIp):Prop:=
  ∀ (pins:List (Addr×Obj)) (s:Shared) (σ:St) (H:Hp) (x y:V) (v u:Value) (Q:VK),Inv X pins σ H s→RelV x v→RelV y u→t x y H Q→
    wpAny (model X.prog X.w) X.A (inplaceOp op v u) (EP X pins σ Q) X.xe s
section
variable {X:Cx} {pos:Pos}
def gName (i:Nat):TG:=fun v σ H Q=>Q (σ.set i (some v)) H
theorem pg_name {i:Nat} {x:Str} (hN:X.N.Nodup) (hi:X.N[i]?=some x) (hx:Loc X.env.scope x) (hf:X.fn x=true∨X.env.scope.names.lookup x=some .local:=by first | exact .inl rfl | exact .inr rfl | assumption):PG X (.Name x pos) (gName i):=by
  intro pins s σ H v u Q I r h
  exact wpAny_assign_Name (store_ok I hN hi hx r (fun s' I'=>⟨_,H,I',h⟩) hf)
def gNil:TGs:=fun vs σ H Q=>vs=[]∧Q σ H
def gCons (t:TG) (u:TGs):TGs:=fun vs σ H Q=>∃ v r,vs=v::r∧t v σ H fun σ' H'=>u r σ' H' Q
theorem pgs_nil:PGs X [] gNil:=by
  intro pins s σ H vs us Q I r h
  obtain ⟨e,h⟩:=h
  subst e
  cases r
  exact assignInOrder_nil ⟨σ,H,I,h⟩
theorem pgs_cons {e:Expr} {es:List Expr} {t:TG} {u:TGs} (h1:PG X e t) (h2:PGs X es u)
    (hs:(assignEach (e::es) X.env).map (·.2)=assign e X.env::(assignEach es X.env).map (·.2):=by rfl):PGs X (e::es) (gCons t u):=by
  intro pins s σ H vs us Q I r h
  obtain ⟨v,vr,e1,h⟩:=h
  subst e1
  cases r with
  | cons r rr=>
    rw [hs]
    refine assignInOrder_cons (thn (h1 pins s σ H _ _ _ I r h) fun _ s1 ⟨σ1,H1,I1,q1⟩=>?_)
    exact h2 pins s1 σ1 H1 _ _ Q I1 rr q1
def gTup (K:PySem.W.Frag) (n:Nat) (t:TGs):TG:=fun v σ H Q=>∃ a xs,v=.ref a∧SqT K H a xs∧xs.length=n∧t xs σ H Q
theorem pg_tup {es:List Expr} {k:Nat} {t:TGs} {n:Nat} (hc:X.calm=true) (h:PGs X es t)
    (hn:(assignEach es X.env).length=n:=by rfl) (hst:(assignEach es X.env).findIdx? (·.1)=none:=by rfl):PG X (.Tuple es k pos) (gTup X.K n t):=by
  intro pins s σ H v u Q I r hw
  obtain ⟨a,xs,e1,hq,hl,hw⟩:=hw
  subst e1
  cases r
  obtain ⟨its,rv,ht,hz⟩:=I.tuple hq
  refine assign_Tuple_tuple (I.ok.hd hc) ht (by simp [hn,← hl,rv.length]) hst fun h' hx=>?_
  have I1:Inv X pins σ H { s with heap:=h' }:=I.kept (t':=s.toks) fun b o e=>hx b o (Nat.ne_of_lt (Heap.lt_size e)) e
  exact h pins _ σ H xs _ Q I1 (by simpa using rv) hw
def tAsg (te:TE) (g:TG):TS:=fun D σ H=>te σ H fun x H1=>g x σ H1 D.nx
theorem ps_asg {tg e:Expr} {te:TE} {g:TG} (he:PE X e te) (hg:PG X tg g) (hs:swapsWithSole [tg] e pos.line X.env=pure false:=by rfl) (hw:swappedStores [tg] e X.env=pure none:=by rfl)
    (h1:(assignEach [tg] X.env).map (·.2)=[assign tg X.env]:=by rfl):PS X (.Assign [tg] e pos) (tAsg te g):=by
  intro pins s σ H D I h
  refine wpAny_Assign_stores (thn (he pins s σ H _ I h) fun v s1 ⟨x,H1,I1,r1,q1⟩=>?_) hs hw
  rw [h1]
  exact thn (hg pins s1 σ H1 x v _ I1 r1 q1) fun _ s2 q=>q
theorem ps_set {i:Nat} {x:Str} {e:Expr} {te:TE} {pos':Pos} (hN:X.N.Nodup) (hi:X.N[i]?=some x) (hx:Loc X.env.scope x) (he:PE X e te) (hs:swapsWith e (some (.Name x pos')) pos.line X.env=pure false:=by rfl) (hf:X.fn x=true∨X.env.scope.names.lookup x=some .local:=by first | exact .inl rfl | exact .inr rfl | assumption) :
    PS X (.Assign [.Name x pos'] e pos) (tAsg te (gName i)):=by
  intro pins s σ H D I h
  refine wpAny_Assign_Name (thn (he pins s σ H _ I h) fun v s1 ⟨y,H1,I1,r1,q1⟩=>?_) hs
  exact store_ok I1 hN hi hx r1 (fun s2 I2=>⟨_,H1,I2,q1⟩) hf
def tAug (i:Nat) (te:TE) (ti:TIp):TS:=fun D σ H=>∃ x,σ[i]?=some (some x)∧te σ H fun y H1=>ti x y H1 fun z H2=>D.nx (σ.set i (some z)) H2
theorem ps_aug {i:Nat} {x:Str} {e:Expr} {te:TE} {op:Operator} {ti:TIp} {pos':Pos} (hN:X.N.Nodup) (hi:X.N[i]?=some x) (hx:Loc X.env.scope x) (he:PE X e te) (ho:PIp X op ti) (hf:X.fn x=true∨X.env.scope.names.lookup x=some .local:=by first | exact .inl rfl | exact .inr rfl | assumption) :
    PS X (.AugAssign (.Name x pos') op e pos) (tAug i te ti):=by
  intro pins s σ H D I h
  obtain ⟨v,e1,h⟩:=h
  obtain ⟨m,hn,hl⟩:=I.loc
  have vis:Vis X.env.scope x:=by rcases hx with k | k;exact .inl k;exact .inr (.inl k)
  obtain ⟨u,r,l⟩:=hl i x v hi e1 vis
  refine wpAny_AugAssign_Name ?_
  have go:wpAny (model X.prog X.w) X.A (eval e X.env) (fun w s₂=>wpAny (model X.prog X.w) X.A (inplaceOp op u w) (fun r s₃=>wpAny (model X.prog X.w) X.A (storeName X.env x r) (fun _=>SP X pins D .next) X.xe s₃) X.xe s₂) X.xe s:=by
    refine thn (he pins s σ H _ I h) fun w s1 ⟨y,H1,I1,r1,q1⟩=>?_
    refine thn (ho pins s1 σ H1 v y u w _ I1 r r1 q1) fun z s2 ⟨zv,H2,I2,r2,q2⟩=>?_
    exact store_ok I2 hN hi hx r2 (fun s3 I3=>⟨_,H2,I3,q2⟩) hf
  rcases l with ⟨hk,hm⟩ | ⟨hk,c,hc,hcell⟩
  · exact wpAny_loadName_local I.ok.kind hk hn hm go
  · rcases hk with hk | hk
    · exact wpAny_loadName_cell I.ok.kind hk hc hcell go
    · rcases hx with k | k
      · have:X.env.scope.names.lookup x=some .free:=hk
        rw [k] at this;cases this
      · have:X.env.scope.names.lookup x=some .free:=hk
        rw [k] at this;cases this
end
section
variable {X:Cx} {pos:Pos}
end
structure It where
  go:Nat→Hp→Prop
  yld:Nat→Hp→V→Hp→Prop
  stop:Nat→Hp→Prop
def FpOk (X:Cx) (pins:List (Addr×Obj)) (H:Hp) (b:Addr):Prop:=
  H b=none∧b≠X.env.locals∧b∉X.fs∧(b∈X.ex∨X.s₀.heap.objs.size≤b)∧(∀ x c,X.env.cells.lookup x=some c→c≠b)∧∀ p∈X.pn++pins,p.1≠b
theorem Inv.fpOk {X:Cx} {pins:List (Addr×Obj)} {σ:St} {H H':Hp} {s:Shared} {b:Addr} (I:Inv X pins σ H s) (hb:s.heap.objs.size≤b) (hn:H' b=none):FpOk X pins H' b:=by
  refine ⟨hn,Nat.ne_of_gt (Nat.lt_of_lt_of_le I.lt hb),I.nofs hb,.inr (Nat.le_trans I.sz hb),fun x c e z=>?_,fun p hp z=>?_⟩
  · obtain ⟨v,q⟩:=I.cell x c e
    exact absurd (Nat.lt_of_lt_of_le q.lt (by rw [z];exact hb)) (Nat.lt_irrefl _)
  · exact absurd (Nat.lt_of_lt_of_le (Heap.lt_size (I.pin p hp).1) (by rw [z];exact hb)) (Nat.lt_irrefl _)
structure Turn (P:Program) (w:World) (K:PySem.W.Frag) (tg:Expr) (J:It) (fp:List Addr) (it:Addr) (tn:Nat→Heap→Prop):Prop where
  mem:it∈fp
  obj:∀ i h,tn i h→∀ b∈fp,∃ o,h.get? b=some o∧∀ v,o.data≠.cell v
  keep:∀ i h h',tn i h→(∀ b∈fp,∀ o,h.get? b=some o→h'.get? b=some o)→tn i h'
  item:∀ (X:Cx),X.prog=P→X.w=w→X.K=K→X.calm=true→∀ (i:Nat) (pins:List (Addr×Obj)) (s:Shared) (σ:St) (H:Hp) (E:Value→Shared→Prop),Inv X pins σ H s→(∀ b∈fp,FpOk X pins H b)→tn i s.heap→J.go i H→
    wpAny (model P w) X.A (pyNext (.ref it)) (fun r s1=>∃ u,r=some u∧
      wpAny (model P w) X.A (letOwnedTupleGo tg (.ref it) u) (fun _ s2=>∃ x H',Inv X pins σ H' s2∧RelV x u∧J.yld i H x H'∧tn (i+1) s2.heap∧∀ b∈fp,H' b=none) E s1) E s
  done:∀ (X:Cx),X.prog=P→X.w=w→X.K=K→X.calm=true→∀ (i:Nat) (pins:List (Addr×Obj)) (s:Shared) (σ:St) (H:Hp) (E:Value→Shared→Prop),Inv X pins σ H s→(∀ b∈fp,FpOk X pins H b)→tn i s.heap→J.stop i H→
    wpAny (model P w) X.A (pyNext (.ref it)) (fun r s1=>r=none∧Inv X pins σ H s1) E s
  self:∀ (A:Around) (i:Nat) (s:Shared) (Q:Value→Shared→Prop) (E:Value→Shared→Prop),tn i s.heap→Q (.ref it) s→wpAny (model P w) A (pyIter (.ref it)) Q E s
abbrev TI:=St→Hp→(It→Hp→Prop)→Prop
def PIE (X:Cx) (pins:List (Addr×Obj)) (σ:St) (tg:Expr) (R:It→Hp→Prop) (itv:Value) (s2:Shared):Prop:=
  ∃ (it:Addr) (fp:List Addr) (tn:Nat→Heap→Prop) (J:It) (H':Hp),itv=.ref it∧Inv X pins σ H' s2∧Turn X.prog X.w X.K tg J fp it tn∧tn 0 s2.heap∧(∀ b∈fp,FpOk X pins H' b)∧R J H'
def PI (X:Cx) (tg iter:Expr) (wi:TI):Prop:=
  ∀ (pins:List (Addr×Obj)) (s:Shared) (σ:St) (H:Hp) (R:It→Hp→Prop),Inv X pins σ H s→wi σ H R→
    wpAny (model X.prog X.w) X.A (eval iter X.env) (fun v s1=>wpAny (model X.prog X.w) X.A (pyIter v) (PIE X pins σ tg R) X.xe s1) X.xe s
theorem go_of {M:Model} {A:Around} {E:Value→Shared→Prop} {s:Shared} {tg:Expr} {it:Addr} {u:Value} {o:Obj} {n:String} {vs:Array Value} {Q:Unit→Shared→Prop} (ho:s.heap.get? it=some o) (hc:o.cls=.type n) (hd:o.data=.fields vs)
    (hn:["enumerate","zip","dict_itemiterator","dict_reverseitemiterator","odict_iterator","itertools.zip_longest","itertools.pairwise"].contains n=false) (hQ:Q () s):wpAny M A (letOwnedTupleGo tg (.ref it) u) Q E s:=by
  unfold letOwnedTupleGo
  cases tg<;>first
    | exact wpAny_pure hQ
    | (cases u<;>first
        | exact wpAny_pure hQ
        | (refine wpAny_bind (wpAny_load ho ?_)
           rw [hc,hd]
           show wpAny M A (if (["enumerate","zip","dict_itemiterator","dict_reverseitemiterator","odict_iterator","itertools.zip_longest","itertools.pairwise"].contains n&&vs[0]?==some (rawInt _))=true then _ else _) Q E s
           rw [if_neg (by intro h;rw [hn,Bool.false_and] at h;cases h)]
           exact wpAny_pure hQ))
def Itl (K:PySem.W.Frag) (a:Addr):It:=
  ⟨fun i H=>∃ xs x,SqL K H a xs∧xs[i]?=some x,fun i H x H'=>H'=H∧∀ xs,SqL K H a xs→xs[i]?=some x,fun i H=>∃ xs,SqL K H a xs∧xs.length≤i⟩
def Itt (K:PySem.W.Frag) (a:Addr):It:=
  ⟨fun i H=>∃ xs x,SqT K H a xs∧xs[i]?=some x,fun i H x H'=>H'=H∧∀ xs,SqT K H a xs→xs[i]?=some x,fun i H=>∃ xs,SqT K H a xs∧xs.length≤i⟩
def Itr (lo:Int) (n:Nat):It:=⟨fun i _=>i<n,fun i H x H'=>H'=H∧x=.int (lo+i),fun i _=>n≤i⟩
theorem turn_list {P:Program} {w:World} {K:PySem.W.Frag} {tg:Expr} (a it:Addr):Turn P w K tg (Itl K a) [it] it (fun i h=>h.IsListIter it a i) where
  mem:=by simp
  obj:=fun i h st b hb=>by
    have e:b=it:=by simpa using hb
    subst e
    obtain ⟨o,e,c,d⟩:=st
    exact ⟨o,e,fun v z=>by rw [d] at z;cases z⟩
  keep:=fun i h h' st k=>st.at fun o e=>k it (by simp) o e
  item:=by
    intro X hP hw hK hc i pins s σ H E I hf st hg
    subst hP hw hK
    obtain ⟨xs,x,hq,hx⟩:=hg
    obtain ⟨its,rv,p,hz⟩:=I.list hq
    obtain ⟨u,hu,ru⟩:=rv.get hx
    obtain ⟨f0,f1,f2,f3,f4,f5⟩:=hf it (by simp)
    refine wpAny_pyNext_list_item st p.isList (x:=u) (by simpa using hu) fun h' st' sb=>?_
    have I1:Inv X pins σ H { s with heap:=h' }:=I.turned (t':=s.toks) (fun b o hb e=>(sb.2 b hb).trans e) f0 f1 f3 f4 f5
    obtain ⟨o,e,c,d⟩:=id st'
    exact ⟨u,rfl,go_of (s:={ s with heap:=h' }) e c d (by decide) ⟨x,H,I1,ru,⟨rfl,fun ys hy=>by rw [I.list_inj hy hq];exact hx⟩,st',fun b hb=>(hf b hb).1⟩⟩
  done:=by
    intro X hP hw hK hc i pins s σ H E I hf st hg
    subst hP hw hK
    obtain ⟨xs,hq,hx⟩:=hg
    obtain ⟨its,rv,p,hz⟩:=I.list hq
    obtain ⟨f0,f1,f2,f3,f4,f5⟩:=hf it (by simp)
    have hl:=rv.length
    exact wpAny_pyNext_list_end (I.ok.hd hc) st p.isList (by simp;omega) fun h' eb=>⟨rfl,I.turned (t':=s.toks) (fun b o hb e=>eb b o hb e) f0 f1 f3 f4 f5⟩
  self:=fun _ _ _ _ _ st h=>wpAny_pyIter_listiter st h
theorem turn_tuple {P:Program} {w:World} {K:PySem.W.Frag} {tg:Expr} (a it:Addr):Turn P w K tg (Itt K a) [it] it (fun i h=>h.IsTupleIter it a i) where
  mem:=by simp
  obj:=fun i h st b hb=>by
    have e:b=it:=by simpa using hb
    subst e
    obtain ⟨o,e,c,d⟩:=st
    exact ⟨o,e,fun v z=>by rw [d] at z;cases z⟩
  keep:=fun i h h' st k=>st.at fun o e=>k it (by simp) o e
  item:=by
    intro X hP hw hK hc i pins s σ H E I hf st hg
    subst hP hw hK
    obtain ⟨xs,x,hq,hx⟩:=hg
    obtain ⟨its,rv,p,hz⟩:=I.tuple hq
    obtain ⟨u,hu,ru⟩:=rv.get hx
    obtain ⟨f0,f1,f2,f3,f4,f5⟩:=hf it (by simp)
    refine wpAny_pyNext_tuple_item st (show s.heap.IsTuple a its.toArray from p) (x:=u) (by simpa using hu) fun h' st' sb=>?_
    have I1:Inv X pins σ H { s with heap:=h' }:=I.turned (t':=s.toks) (fun b o hb e=>(sb.2 b hb).trans e) f0 f1 f3 f4 f5
    obtain ⟨o,e,c,d⟩:=id st'
    exact ⟨u,rfl,go_of (s:={ s with heap:=h' }) e c d (by decide) ⟨x,H,I1,ru,⟨rfl,fun ys hy=>by rw [I.tuple_inj hy hq];exact hx⟩,st',fun b hb=>(hf b hb).1⟩⟩
  done:=by
    intro X hP hw hK hc i pins s σ H E I hf st hg
    subst hP hw hK
    obtain ⟨xs,hq,hx⟩:=hg
    obtain ⟨its,rv,p,hz⟩:=I.tuple hq
    obtain ⟨f0,f1,f2,f3,f4,f5⟩:=hf it (by simp)
    have hl:=rv.length
    exact wpAny_pyNext_tuple_end (I.ok.hd hc) st (show s.heap.IsTuple a its.toArray from p) (by simp;omega) fun h' eb=>⟨rfl,I.turned (t':=s.toks) (fun b o hb e=>eb b o hb e) f0 f1 f3 f4 f5⟩
  self:=fun _ _ _ _ _ st h=>wpAny_pyIter_tupleiter st h
theorem turn_range {P:Program} {w:World} {K:PySem.W.Frag} {tg:Expr} (it:Addr) (lo:Int) (n:Nat):Turn P w K tg (Itr lo n) [it] it (fun i h=>IsRangeIter h it (lo+(i:Nat)*1) ((n:Int)-(i:Nat)) 1) where
  mem:=by simp
  obj:=fun i h st b hb=>by
    have e:b=it:=by simpa using hb
    subst e
    exact ⟨_,st,fun v z=>by
      have z':Data.fields _=Data.cell v:=z
      cases z'⟩
  keep:=fun i h h' st k=>k it (by simp) _ st
  item:=by
    intro X hP hw hK hc i pins s σ H E I hf st hg
    subst hP hw hK
    obtain ⟨f0,f1,f2,f3,f4,f5⟩:=hf it (by simp)
    have W:=Walks.range (prog:=X.prog) (w:=X.w) (I.ok.hd hc) it lo 1 n
    refine W.item i s _ _ hg st fun v h' tk hv st' kk=>?_
    obtain ⟨t,rfl⟩:=hv
    have I1:Inv X pins σ H { s with heap:=h',toks:=tk }:=I.turned (fun b o hb e=>kk b o (by simpa using hb) e) f0 f1 f3 f4 f5
    refine ⟨_,rfl,go_of (s:={ s with heap:=h',toks:=tk }) (n:="range_iterator") st' rfl rfl (by decide) ⟨.int (lo+i),H,I1,⟨t,?_⟩,⟨rfl,rfl⟩,st',fun b hb=>(hf b hb).1⟩⟩
    rw [Int.mul_one]
  done:=by
    intro X hP hw hK hc i pins s σ H E I hf st hg
    subst hP hw hK
    obtain ⟨f0,f1,f2,f3,f4,f5⟩:=hf it (by simp)
    exact wpAny_pyNext_range_end (I.ok.hd hc) st (by have:n≤i:=hg;omega) fun h' eb=>⟨rfl,I.turned (t':=s.toks) (fun b o hb e=>eb b o hb e) f0 f1 f3 f4 f5⟩
  self:=fun _ _ _ _ _ st h=>wpAny_pyIter_rangeiter st h
end L2
namespace L2
open PySem PySem.Spec PyProof.Rows
section
variable {X:Cx} {tg:Expr}
def iList (K:PySem.W.Frag) (tl:TE):TI:=fun σ H R=>tl σ H fun x H1=>∃ a,x=.ref a∧(∃ xs,SqL K H1 a xs)∧R (Itl K a) H1
def iTup (K:PySem.W.Frag) (tl:TE):TI:=fun σ H R=>tl σ H fun x H1=>∃ a,x=.ref a∧(∃ xs,SqT K H1 a xs)∧R (Itt K a) H1
theorem pi_list {l:Expr} {tl:TE} (hl:PE X l tl):PI X tg l (iList X.K tl):=by
  intro pins s σ H R I h
  refine thn (hl pins s σ H _ I h) fun v s1 ⟨x,H1,I1,r1,q1⟩=>?_
  obtain ⟨a,e,⟨xs,hq⟩,q⟩:=q1
  subst e
  cases r1
  obtain ⟨its,rv,p,hz⟩:=I1.list hq
  refine wpAny_pyIter_list p.isList ?_
  refine ⟨s1.heap.objs.size,[s1.heap.objs.size],_,_,H1,rfl,I1.kept (t':=s1.toks) fun b o e=>Heap.get?_push_of_some _ e,turn_list a _,⟨_,Heap.get?_push_size _ rfl,rfl,rfl⟩,fun b hb=>?_,q⟩
  have e:b=s1.heap.objs.size:=by simpa using hb
  subst e
  exact I1.fpOk (Nat.le_refl _) (I1.hok.fresh (Nat.le_refl _))
theorem pi_tup {l:Expr} {tl:TE} (hl:PE X l tl):PI X tg l (iTup X.K tl):=by
  intro pins s σ H R I h
  refine thn (hl pins s σ H _ I h) fun v s1 ⟨x,H1,I1,r1,q1⟩=>?_
  obtain ⟨a,e,⟨xs,hq⟩,q⟩:=q1
  subst e
  cases r1
  obtain ⟨its,rv,p,hz⟩:=I1.tuple hq
  refine wpAny_pyIter_tuple (show s1.heap.IsTuple a its.toArray from p) ?_
  refine ⟨s1.heap.objs.size,[s1.heap.objs.size],_,_,H1,rfl,I1.kept (t':=s1.toks) fun b o e=>Heap.get?_push_of_some _ e,turn_tuple a _,⟨_,Heap.get?_push_size _ rfl,rfl,rfl⟩,fun b hb=>?_,q⟩
  have e:b=s1.heap.objs.size:=by simpa using hb
  subst e
  exact I1.fpOk (Nat.le_refl _) (I1.hok.fresh (Nat.le_refl _))
theorem range_it {pins:List (Addr×Obj)} {σ:St} {H:Hp} {s:Shared} {R:It→Hp→Prop} {E:Value→Shared→Prop} {lo hi:Int} {t u v:Tok} {tk:Nat} (I:Inv X pins σ H s) (h1:-(2 ^ 62)≤lo) (h2:lo<2 ^ 62) (h3:-(2 ^ 62)≤hi) (h4:hi<2 ^ 62)
    (q:R (Itr lo (hi-lo).toNat) H):wpAny (model X.prog X.w) X.A (pyIter (.ref s.heap.objs.size)) (PIE X pins σ tg R) E { s with heap:=s.heap.push { cls:=.type "range",data:=.fields #[.int lo t,.int hi u,.int 1 v] },toks:=tk }:=by
  refine wpAny_pyIter_range (IsRange.new ..) (small_one h1 h2 h3 h4) ?_
  have I1:Inv X pins σ H { s with heap:=s.heap.push { cls:=.type "range",data:=.fields #[.int lo t,.int hi u,.int 1 v] },toks:=tk }:=I.kept fun b o e=>Heap.get?_push_of_some _ e
  refine ⟨(s.heap.push { cls:=.type "range",data:=.fields #[.int lo t,.int hi u,.int 1 v] }).objs.size,[(s.heap.push { cls:=.type "range",data:=.fields #[.int lo t,.int hi u,.int 1 v] }).objs.size],_,_,H,rfl,
    I1.kept (t':=tk) fun b o e=>Heap.get?_push_of_some _ e,turn_range _ lo (hi-lo).toNat,?_,fun b hb=>?_,q⟩
  · have e1:lo+((0:Nat):Int)*1=lo:=by simp
    have e2:(((hi-lo).toNat:Nat):Int)-((0:Nat):Int)=Builtin.Range.rangeSize lo hi 1:=by rw [rangeSize_one];split<;>omega
    show IsRangeIter _ _ (lo+((0:Nat):Int)*1) ((((hi-lo).toNat:Nat):Int)-((0:Nat):Int)) 1
    rw [e1,e2]
    exact Heap.get?_push_size _ rfl
  · have e:b=(s.heap.push { cls:=.type "range",data:=.fields #[.int lo t,.int hi u,.int 1 v] }).objs.size:=by simpa using hb
    subst e
    exact I1.fpOk (Nat.le_refl _) (I1.hok.fresh (Nat.le_refl _))
def iRng1 (ta:TA):TI:=fun σ H R=>ta σ H fun vs H1=>∃ j:Int,vs=[.int j]∧-(2 ^ 62)≤j∧j<2 ^ 62∧R (Itr 0 j.toNat) H1
theorem pi_range1 {a:Expr} {ta:TA} {p pos:Pos} (hg:Gl X "range") (hm:X.mg "range"=none) (ha:PA X [a] ta) (hs:starEach [a] X.env=[(false,eval a X.env)]:=by rfl):PI X tg (.Call (.Name "range" p) [a] [] pos) (iRng1 ta):=by
  intro pins s σ H R I h
  refine Call_ (ld_blt I hg hm boot_range (PyProof.Rows.callWith_type1 (thn (ha pos pins s σ H _ I h) fun us s1 ⟨vs,H1,I1,r1,q1⟩=>?_) hs rfl))
  obtain ⟨j,e,q1,q2,q⟩:=q1
  subst e
  cases r1 with
  | cons r rr=>
    cases rr
    obtain ⟨t,rfl⟩:=r
    exact call_range_1 (range_it I1 (by omega) (by omega) q1 q2 (by simpa using q))
def tFor (wi:TI) (g:TG) (tb:TS):TS:=fun D σ H=>wi σ H fun J H1=>∃ W:Nat→Nat→St→Hp→Prop,(∃ m,W 0 m σ H1)∧∀ i m σ H,W i m σ H→
  (J.stop i H∧D.nx σ H)∨(J.go i H∧∃ N:St→Hp→Prop,(∀ σ' H',N σ' H'→∃ m',m'<m∧W (i+1) m' σ' H')∧∀ x H',J.yld i H x H'→g x σ H' fun σ2 H2=>tb { D with nx:=N,ct:=N,bk:=D.nx } σ2 H2)
def pinsAt (fp:List Addr) (h:Heap):List (Addr×Obj):=fp.filterMap fun b=>(h.get? b).map fun o=>(b,o)
theorem mem_pinsAt {fp:List Addr} {h:Heap} {b:Addr} {o:Obj} (hb:b∈fp) (e:h.get? b=some o):(b,o)∈pinsAt fp h:=List.mem_filterMap.mpr ⟨b,hb,by rw [e];rfl⟩
theorem of_pinsAt {fp:List Addr} {h:Heap} {p:Addr×Obj} (hp:p∈pinsAt fp h):p.1∈fp∧h.get? p.1=some p.2:=by
  obtain ⟨b,hb,e⟩:=List.mem_filterMap.mp hp
  cases q:h.get? b with
  | none=>rw [q] at e;cases e
  | some o=>
    rw [q] at e
    have e':(b,o)=p:=Option.some.inj e
    subst e'
    exact ⟨hb,q⟩
theorem Inv.pinned {pins:List (Addr×Obj)} {σ:St} {H:Hp} {s:Shared} {fp:List Addr} (I:Inv X pins σ H s) (hf:∀ b∈fp,FpOk X pins H b) (ho:∀ b∈fp,∃ o,s.heap.get? b=some o∧∀ v,o.data≠.cell v):Inv X (pins++pinsAt fp s.heap) σ H s:=
  I.pins_of fun p hp=>(List.mem_append.mp hp).elim (fun z=>I.pin p (List.mem_append_right _ z)) fun z=>by
    obtain ⟨hb,e⟩:=of_pinsAt z
    obtain ⟨f0,f1,f2,_⟩:=hf p.1 hb
    obtain ⟨o,e',d⟩:=ho p.1 hb
    rw [e] at e';cases e'
    exact ⟨e,f0,f1,f2,d⟩
theorem Inv.unpinned {pins pl:List (Addr×Obj)} {σ:St} {H:Hp} {s:Shared} (I:Inv X (pins++pl) σ H s):Inv X pins σ H s:=I.pins_of fun p hp=>I.pin p (List.mem_append_right _ (List.mem_append_left _ hp))
theorem ps_for {iter:Expr} {body:List Stmt} {wi:TI} {g:TG} {tb:TS} {pos:Pos} (hp:PassesOwn (model X.prog X.w) X.A X.env X.xe) (hc:X.calm=true) (hi:PI X tg iter wi) (hg:PG X tg g) (hb:PSs X body tb)
    (hs:∀ x,foldedSetIterable iter X.env x=pure x:=by intro _;rfl):PS X (.For tg iter body [] pos) (tFor wi g tb):=by
  intro pins s σ H D I h
  refine wpAny_For (thn (hi pins s σ H _ I h) fun v s1 h1=>thn h1 fun itv s2 h2=>?_) hs
  obtain ⟨it,fp,tn,J,H2,e,I2,T,st2,f2,W,⟨m0,w0⟩,turn⟩:=h2
  subst e
  have stat:∀ {H':Hp},(∀ b∈fp,H' b=none)→∀ b∈fp,FpOk X pins H' b:=fun hn b hb=>⟨hn b hb,(f2 b hb).2⟩
  refine codeAny_forLoop_any (fun n s'=>∃ i σ' H',Inv X pins σ' H' s'∧tn i s'.heap∧(∀ b∈fp,H' b=none)∧W i n σ' H') ?_ m0 ⟨0,σ,H2,I2,st2,fun b hb=>(f2 b hb).1,w0⟩
  rintro n s3 ⟨i,σ3,H3,I3,st3,fr3,w3⟩
  rcases turn i n σ3 H3 w3 with ⟨stop,qn⟩ | ⟨go,N,hN,step⟩
  · refine wpAny_passesOwn hp (thn (T.done X rfl rfl rfl hc i pins s3 σ3 H3 X.xe I3 (stat fr3) st3 stop) fun r s4 ⟨hr,I4⟩=>?_)
    subst hr
    exact wpAny_execs_nil ⟨σ3,H3,I4,qn⟩
  · refine wpAny_passesOwn hp (thn (T.item X rfl rfl rfl hc i pins s3 σ3 H3 X.xe I3 (stat fr3) st3 go) fun r s4 ⟨u,hr,h4⟩=>?_)
    subst hr
    refine wpAny_passesOwn hp (thn h4 fun _ s5 ⟨x,H5,I5,r5,y5,st5,fr5⟩=>?_)
    have I5':=I5.pinned (stat fr5) (T.obj _ _ st5)
    refine wpAny_passesOwn hp (thn (hg _ s5 σ3 H5 x u _ I5' r5 (step x H5 y5)) fun _ s6 ⟨σ6,H6,I6,q6⟩=>?_)
    refine wpAny_passesOwn hp (thn (hb _ s6 σ6 H6 _ I6 q6) fun f s7 q7=>?_)
    have again:∀ {σ7:St} {H7:Hp},Inv X (pins++pinsAt fp s5.heap) σ7 H7 s7→N σ7 H7→∃ m,m<n∧∃ i σ' H',Inv X pins σ' H' s7∧tn i s7.heap∧(∀ b∈fp,H' b=none)∧W i m σ' H':=fun {σ7 H7} I7 n7=>by
      obtain ⟨m',hm,w7⟩:=hN σ7 H7 n7
      refine ⟨m',hm,i+1,σ7,H7,I7.unpinned,T.keep _ _ _ st5 fun b hb o e=>(I7.pin (b,o) (List.mem_append_right _ (List.mem_append_right _ (mem_pinsAt hb e)))).1,fun b hb=>?_,w7⟩
      obtain ⟨o,e,d⟩:=T.obj _ _ st5 b hb
      exact (I7.pin (b,o) (List.mem_append_right _ (List.mem_append_right _ (mem_pinsAt hb e)))).2.1
    cases f with
    | next=>obtain ⟨σ7,H7,I7,n7⟩:=q7;exact again I7 n7
    | cont=>obtain ⟨σ7,H7,I7,n7⟩:=q7;exact again I7 n7
    | brk=>obtain ⟨σ7,H7,I7,q7⟩:=q7;exact ⟨σ7,H7,I7.unpinned,q7⟩
    | ret v=>obtain ⟨x7,σ7,H7,I7,r7,q7⟩:=q7;exact ⟨x7,σ7,H7,I7.unpinned,r7,q7⟩
end
end L2
namespace L2
open PySem PySem.Spec PyProof.Rows
abbrev R2:=V→V→Hp→VK→Prop
def OpR (X:Cx) (f:Value→Value→Sem Value) (r:R2):Prop:=
  ∀ (pins:List (Addr×Obj)) (s:Shared) (σ:St) (H:Hp) (x y:V) (v u:Value) (Q:VK),Inv X pins σ H s→RelV x v→RelV y u→r x y H Q→
    wpAny (model X.prog X.w) X.A (f v u) (EP X pins σ Q) X.xe s
def UnR (X:Cx) (f:Value→Sem Value) (r:V→Hp→VK→Prop):Prop:=
  ∀ (pins:List (Addr×Obj)) (s:Shared) (σ:St) (H:Hp) (x:V) (v:Value) (Q:VK),Inv X pins σ H s→RelV x v→r x H Q→
    wpAny (model X.prog X.w) X.A (f v) (EP X pins σ Q) X.xe s
def CallR (X:Cx) (f:Value) (r:List V→Hp→VK→Prop):Prop:=
  ∀ (pins:List (Addr×Obj)) (s:Shared) (σ:St) (H:Hp) (xs:List V) (us:List Value) (Q:VK),Inv X pins σ H s→Vals xs us→r xs H Q→
    wpAny (model X.prog X.w) X.A (call f us) (EP X pins σ Q) X.xe s
def TruR (X:Cx) (r:V→Hp→(Bool→Hp→Prop)→Prop):Prop:=
  ∀ (pins:List (Addr×Obj)) (s:Shared) (σ:St) (H:Hp) (x:V) (v:Value) (Q:Bool→Hp→Prop),Inv X pins σ H s→RelV x v→r x H Q→
    wpAny (model X.prog X.w) X.A (truthy v) (TP X pins σ Q) X.xe s
def tOp (r:R2) (ta tb:TE):TE:=fun σ H Q=>ta σ H fun x H1=>tb σ H1 fun y H2=>r x y H2 Q
def tUn (r:V→Hp→VK→Prop) (ta:TE):TE:=fun σ H Q=>ta σ H fun x H1=>r x H1 Q
def rI (C:Int→Int→Prop) (g:Int→Int→V):R2:=fun x y H Q=>∃ i j,x=.int i∧y=.int j∧C i j∧Q (g i j) H
def rI0 (g:Int→Int→V):R2:=fun x y H Q=>∃ i j,x=.int i∧y=.int j∧Q (g i j) H
def rU (g:Int→V):V→Hp→VK→Prop:=fun x H Q=>∃ i,x=.int i∧Q (g i) H
section
variable {X:Cx} {a b c:Expr} {ta tb tc:TE} {pos:Pos}
theorem binT (ha:PE X a ta) (hb:PE X b tb) {pins:List (Addr×Obj)} {s:Shared} {σ:St} {H:Hp} {R:V→V→Hp→Prop} (I:Inv X pins σ H s)
    (h:ta σ H fun x H1=>tb σ H1 fun y H2=>R x y H2) {Q:Value→Shared→Prop} {f:Value→Value→Sem Value}
    (hf:∀ v u s2 x y H2,Inv X pins σ H2 s2→RelV x v→RelV y u→R x y H2→wpAny (model X.prog X.w) X.A (f v u) Q X.xe s2) :
    wpAny (model X.prog X.w) X.A (eval a X.env) (fun v s₁=>wpAny (model X.prog X.w) X.A (eval b X.env) (fun u s₂=>wpAny (model X.prog X.w) X.A (f v u) Q X.xe s₂) X.xe s₁) X.xe s:=by
  refine thn (ha pins s σ H _ I h) fun v s1 ⟨x,H1,I1,r1,q1⟩=>?_
  refine thn (hb pins s1 σ H1 _ I1 q1) fun u s2 ⟨y,H2,I2,r2,q2⟩=>?_
  exact hf v u s2 x y H2 I2 r1 r2 q2
theorem pe_op {op:Operator} {r:R2} (ho:OpR X (binaryOp op) r) (ha:PE X a ta) (hb:PE X b tb):PE X (.BinOp a op b pos) (tOp r ta tb):=by
  intro pins s σ H Q I h
  exact wpAny_BinOp (binT ha hb I h fun v u s2 x y H2 I2 rx ry q=>ho pins s2 σ H2 x y v u Q I2 rx ry q)
theorem pe_un {op:UnaryOp} {r:V→Hp→VK→Prop} (ho:UnR X (unaryOp op) r) (ha:PE X a ta):PE X (.UnaryOp op a pos) (tUn r ta):=by
  intro pins s σ H Q I h
  exact UnaryOp_ (thn (ha pins s σ H _ I h) fun v s1 ⟨x,H1,I1,r1,q1⟩=>ho pins s1 σ H1 x v Q I1 r1 q1)
theorem opI {f:Value→Value→Sem Value} {C:Int→Int→Prop} {g:Int→Int→Int}
    (rule:∀ (i j:Int) (t u:Tok) (s:Shared) (Q:Value→Shared→Prop) (E:Value→Shared→Prop),C i j→Q (.int (g i j) s.toks) { s with toks:=s.toks+1 }→wpAny (model X.prog X.w) X.A (f (.int i t) (.int j u)) Q E s) :
    OpR X f (rI C fun i j=>.int (g i j)):=by
  intro pins s σ H x y v u Q I rx ry h
  obtain ⟨i,j,rfl,rfl,hc,q⟩:=h
  obtain ⟨t,rfl⟩:=rx
  obtain ⟨t',rfl⟩:=ry
  exact rule i j t t' s _ _ hc ⟨.int (g i j),H,I.tok _,⟨_,rfl⟩,q⟩
theorem opI0 {f:Value→Value→Sem Value} {g:Int→Int→Int}
    (rule:∀ (i j:Int) (t u:Tok) (s:Shared) (Q:Value→Shared→Prop) (E:Value→Shared→Prop),Q (.int (g i j) s.toks) { s with toks:=s.toks+1 }→wpAny (model X.prog X.w) X.A (f (.int i t) (.int j u)) Q E s) :
    OpR X f (rI0 fun i j=>.int (g i j)):=by
  intro pins s σ H x y v u Q I rx ry h
  obtain ⟨i,j,rfl,rfl,q⟩:=h
  obtain ⟨t,rfl⟩:=rx
  obtain ⟨t',rfl⟩:=ry
  exact rule i j t t' s _ _ ⟨.int (g i j),H,I.tok _,⟨_,rfl⟩,q⟩
theorem opB0 {f:Value→Value→Sem Value} {g:Int→Int→Bool}
    (rule:∀ (i j:Int) (t u:Tok) (s:Shared) (Q:Value→Shared→Prop) (E:Value→Shared→Prop),Q (.bool (g i j)) s→wpAny (model X.prog X.w) X.A (f (.int i t) (.int j u)) Q E s) :
    OpR X f (rI0 fun i j=>.bl (g i j)):=by
  intro pins s σ H x y v u Q I rx ry h
  obtain ⟨i,j,rfl,rfl,q⟩:=h
  obtain ⟨t,rfl⟩:=rx
  obtain ⟨t',rfl⟩:=ry
  exact rule i j t t' s _ _ ⟨.bl (g i j),H,I,rfl,q⟩
def CDiv (i j:Int):Prop:=0<j∧j<1073741824
theorem op_add:OpR X (binaryOp .Add) (rI0 fun i j=>.int (i+j)):=opI0 fun _ _ _ _ _ _ _ q=>add_int q
theorem op_sub:OpR X (binaryOp .Sub) (rI0 fun i j=>.int (i-j)):=opI0 fun _ _ _ _ _ _ _ q=>sub_int q
theorem op_fdiv:OpR X (binaryOp .FloorDiv) (rI CDiv fun i j=>.int (i/j)):=opI fun i j _ _ _ _ _ hc q=>by
  have h1:(0:Int)<j:=hc.1
  have h2:j<1073741824:=hc.2
  exact floordiv_int (by omega) (by rw [Int.fdiv_eq_ediv_of_nonneg i (by omega)];exact q) (.inl (PyProof.noPylong_small (by omega)))
theorem op_mod:OpR X (binaryOp .Mod) (rI (fun _ j=>0<j) fun i j=>.int (i%j)):=opI fun i j _ _ _ _ _ hc q=>by
  have h1:(0:Int)<j:=hc
  exact mod_int' (by omega) (by rw [Int.fmod_eq_emod_of_nonneg i (by omega)];exact q)
theorem unI {f:Value→Sem Value} {g:Int→Int}
    (rule:∀ (i:Int) (t:Tok) (s:Shared) (Q:Value→Shared→Prop) (E:Value→Shared→Prop),Q (.int (g i) s.toks) { s with toks:=s.toks+1 }→wpAny (model X.prog X.w) X.A (f (.int i t)) Q E s) :
    UnR X f (rU fun i=>.int (g i)):=by
  intro pins s σ H x v Q I rx h
  obtain ⟨i,rfl,q⟩:=h
  obtain ⟨t,rfl⟩:=rx
  exact rule i t s _ _ ⟨.int (g i),H,I.tok _,⟨_,rfl⟩,q⟩
theorem un_neg:UnR X (unaryOp .USub) (rU fun i=>.int (-i)):=unI fun _ _ _ _ _ q=>neg_int q
end
section
variable {X:Cx} {a b c:Expr} {ta tb tc:TE} {pos:Pos}
theorem op_lt:OpR X (compareOp .Lt) (rI0 fun i j=>.bl (decide (i<j))):=opB0 fun _ _ _ _ _ _ _ q=>lt_int q
theorem op_le:OpR X (compareOp .LtE) (rI0 fun i j=>.bl (decide (i≤j))):=opB0 fun _ _ _ _ _ _ _ q=>le_int q
theorem op_gt:OpR X (compareOp .Gt) (rI0 fun i j=>.bl (decide (j<i))):=opB0 fun _ _ _ _ _ _ _ q=>gt_int q
theorem nomark (b:Expr) {op:CmpOp} (h:op≠.In:=by decide) (h2:op≠.NotIn:=by decide):behindInMarks op b=false:=by
  have e1:(op==CmpOp.In)=false:=by cases op<;>first | rfl | exact absurd rfl h
  have e2:(op==CmpOp.NotIn)=false:=by cases op<;>first | rfl | exact absurd rfl h2
  cases b<;>simp [behindInMarks,e1,e2]
theorem pe_cmpR {op:CmpOp} {r:R2} (ho:OpR X (compareOp op) r) (ha:PE X a ta) (hb:PE X b tb) (hm:behindInMarks op b=false):PE X (.Compare a [op] [b] pos) (tOp r ta tb):=by
  intro pins s σ H Q I h
  exact wpAny_Compare1 (binT ha hb I h fun v u s2 x y H2 I2 rx ry q=>ho pins s2 σ H2 x y v u Q I2 rx ry q) hm
def tTest (t:TE):TT:=fun σ H Q=>t σ H fun x H'=>∃ k,x=.bl k∧Q k H'
theorem pt_cmpR {op:CmpOp} {r:R2} (ho:OpR X (compareOp op) r) (ha:PE X a ta) (hb:PE X b tb) (hm:behindInMarks op b=false):PT X (.Compare a [op] [b] pos) (tTest (tOp r ta tb)):=by
  intro pins s σ H Q I h
  refine wpAny_isTrue_Compare1 (thn (ha pins s σ H _ I h) fun v s1 ⟨x,H1,I1,r1,q1⟩=>thn (hb pins s1 σ H1 _ I1 q1) fun u s2 ⟨y,H2,I2,r2,q2⟩=>
    thn (ho pins s2 σ H2 x y v u _ I2 r1 r2 q2) fun c s3 ⟨z,H3,I3,r3,k,e,q3⟩=>?_) hm
  subst e
  cases r3
  exact wpAny_truthy_bool ⟨H3,I3,q3⟩
def tChain (r r':R2) (ta tb tc:TE):TE:=fun σ H Q=>ta σ H fun x H1=>tb σ H1 fun y H2=>r x y H2 fun z H3=>∃ k,z=.bl k∧
  (if k=true then tc σ H3 fun w' H4=>r' y w' H4 Q else Q (.bl false) H3)
theorem pe_chain {op op':CmpOp} {r r':R2} (ho:OpR X (compareOp op) r) (ho':OpR X (compareOp op') r') (ha:PE X a ta) (hb:PE X b tb) (hc:PE X c tc)
    (hm:lastMarks [op,op'] [b,c]=false:=by with_unfolding_all rfl):PE X (.Compare a [op,op'] [b,c] pos) (tChain r r' ta tb tc):=by
  intro pins s σ H Q I h
  refine Compare_chain (thn (ha pins s σ H _ I h) fun v s1 ⟨x,H1,I1,r1,q1⟩=>chain_link (thn (hb pins s1 σ H1 _ I1 q1) fun u s2 ⟨y,H2,I2,r2,q2⟩=>
    thn (ho pins s2 σ H2 x y v u _ I2 r1 r2 q2) fun d s3 ⟨z,H3,I3,r3,k,e,q3⟩=>?_)) hm
  subst e
  cases r3
  refine wpAny_truthy_bool ?_
  cases k with
  | false=>exact ite_ff ⟨.bl false,H3,I3,rfl,q3⟩
  | true=>exact ite_tt (chain_last (thn (hc pins s3 σ H3 _ I3 q3) fun w' s4 ⟨z',H4,I4,r4,q4⟩=>ho' pins s4 σ H4 y z' u w' Q I4 r2 r4 q4))
theorem pt_chain {op op':CmpOp} {r r':R2} (ho:OpR X (compareOp op) r) (ho':OpR X (compareOp op') r') (ha:PE X a ta) (hb:PE X b tb) (hc:PE X c tc)
    (hm:lastMarks [op,op'] [b,c]=false:=by with_unfolding_all rfl):PT X (.Compare a [op,op'] [b,c] pos) (tTest (tChain r r' ta tb tc)):=by
  intro pins s σ H Q I h
  refine isTrue_chain (thn (ha pins s σ H _ I h) fun v s1 ⟨x,H1,I1,r1,q1⟩=>test_link (thn (hb pins s1 σ H1 _ I1 q1) fun u s2 ⟨y,H2,I2,r2,q2⟩=>
    thn (ho pins s2 σ H2 x y v u _ I2 r1 r2 q2) fun d s3 ⟨z,H3,I3,r3,k,e,q3⟩=>?_)) hm
  subst e
  cases r3
  refine wpAny_truthy_bool ?_
  cases k with
  | false=>
    obtain ⟨k',e',q'⟩:=q3
    cases e'
    exact ite_ff ⟨H3,I3,q'⟩
  | true=>
    refine ite_tt (test_last (thn (hc pins s3 σ H3 _ I3 q3) fun w' s4 ⟨z',H4,I4,r4,q4⟩=>thn (ho' pins s4 σ H4 y z' u w' _ I4 r2 r4 q4) fun d' s5 ⟨z2,H5,I5,r5,k2,e2,q5⟩=>?_))
    subst e2
    cases r5
    exact wpAny_truthy_bool ⟨H5,I5,q5⟩
def TruV (K:PySem.W.Frag) (x:V) (H:Hp) (k:Bool):Prop:=
  match x with
  | .non=>k=false
  | .bl b=>k=b
  | .int i=>k=(i != 0)
  | .str y=>y.length≤sizeLine∧k=((y.length:Int) != 0)
  | .byt y=>y.size≤sizeLine∧k=((y.size:Int) != 0)
  | .ref p=>(∃ xs,SqL K H p xs∧k=!xs.isEmpty)∨(∃ xs,SqT K H p xs∧k=!xs.isEmpty)∨∃ kvs,H p=some (.dK kvs)∧k=!kvs.isEmpty
  | _=>False
theorem isEmpty_kv {κ:Type} {kvs:List (κ×V)} {vs:List (κ×Value)} (r:KV kvs vs):(!vs.isEmpty)=!kvs.isEmpty:=by
  cases r<;>rfl
theorem isEmpty_of {xs:List V} {its:List Value} (r:Vals xs its):(!its.toArray.isEmpty)=!xs.isEmpty:=by
  cases r<;>simp
theorem line63:(sizeLine:Nat)<2 ^ 63:=by rw [sizeLine_eq];decide
theorem tru_ok:TruR X (fun x H Q=>∃ k,TruV X.K x H k∧Q k H):=by
  intro pins s σ H x v Q I rx h
  obtain ⟨k,e,q⟩:=h
  have hl:=line63
  have hs:sizeLine=16777216:=sizeLine_eq
  cases x with
  | non=>
    cases rx
    have e':k=false:=e
    subst e'
    exact truthy_none ⟨H,I,q⟩
  | bl b=>
    cases rx
    have e':k=b:=e
    subst e'
    exact wpAny_truthy_bool ⟨H,I,q⟩
  | int i=>
    obtain ⟨t,rfl⟩:=rx
    have e':k=(i != 0):=e
    subst e'
    exact PySem.P.truthy_int ⟨H,I,q⟩
  | str y=>
    obtain ⟨t,rfl⟩:=rx
    obtain ⟨hy,e'⟩:y.length≤sizeLine∧k=((y.length:Int) != 0):=e
    subst e'
    exact PySem.P.truthy_str (by omega) ⟨H,I.tok _,q⟩
  | byt y=>
    obtain ⟨t,rfl⟩:=rx
    obtain ⟨hy,e'⟩:y.size≤sizeLine∧k=((y.size:Int) != 0):=e
    subst e'
    exact PySem.W.truthy_bytes (by omega) ⟨H,I.tok _,q⟩
  | ref p=>
    cases rx
    have e':(∃ xs,SqL X.K H p xs∧k=!xs.isEmpty)∨(∃ xs,SqT X.K H p xs∧k=!xs.isEmpty)∨∃ kvs,H p=some (.dK kvs)∧k=!kvs.isEmpty:=e
    rcases e' with ⟨xs,hx,e'⟩ | ⟨xs,hx,e'⟩ | ⟨kvs,hx,e'⟩
    · subst e'
      obtain ⟨its,r,pl,hz⟩:=I.list hx
      have hlen:=r.length
      exact wpAny_truthy_list pl.isList (by simp only [List.size_toArray];omega) ⟨H,I.tok _,by rw [isEmpty_of r];exact q⟩
    · subst e'
      obtain ⟨its,r,pl,hz⟩:=I.tuple hx
      have hlen:=r.length
      exact truthy_tuple pl (by simp only [List.size_toArray];omega) ⟨H,I.tok _,by rw [isEmpty_of r];exact q⟩
    · subst e'
      obtain ⟨hz,hS,vs,r,m⟩:kvs.length≤sizeLine∧(p==sysModules)=false∧∃ vs,KV kvs vs∧s.heap.DictOf (mixKind X.prog X.w) p vs:=I.hok p _ hx
      have hlen:kvs.length=vs.length:=Paired.length r
      exact wpAny_truthy_dict hS m (by omega) ⟨H,I.tok _,by rw [isEmpty_kv r];exact q⟩
  | _=>exact (show False from e).elim
theorem pt_truth (ha:PE X a ta) (he:∀ whole,isTrue a X.env whole=(do let v ← whole;standAt a.pos;holding [v] (truthy v))) :
    PT X a (fun σ H Q=>ta σ H fun x H'=>∃ k,TruV X.K x H' k∧Q k H'):=by
  intro pins s σ H Q I h
  exact isTrue_plain (thn (ha pins s σ H _ I h) fun v s1 ⟨x,H1,I1,r1,q1⟩=>tru_ok pins s1 σ H1 x v Q I1 r1 q1) (he _)
theorem vals1 {x:V} {us:List Value} (r:Vals [x] us):∃ u,us=[u]∧RelV x u:=by
  cases r with
  | cons r1 r2=>cases r2;exact ⟨_,rfl,r1⟩
theorem vals2 {x y:V} {us:List Value} (r:Vals [x,y] us):∃ u w',us=[u,w']∧RelV x u∧RelV y w':=by
  cases r with
  | cons r1 r2=>
    cases r2 with
    | cons r3 r4=>cases r4;exact ⟨_,_,rfl,r1,r3⟩
theorem call_max2 (hc:X.calm=true):CallR X (.builtin "max") (fun xs H Q=>∃ i j,xs=[.int i,.int j]∧Q (.int (if j>i then j else i)) H):=by
  intro pins s σ H xs us Q I r h
  obtain ⟨i,j,rfl,q⟩:=h
  obtain ⟨u,w',rfl,⟨t,rfl⟩,⟨t',rfl⟩⟩:=vals2 r
  refine max_two_ints (I.ok.hd hc) fun h' tk k=>⟨_,H,I.kept k,?_,q⟩
  by_cases hj:j>i
  · rw [if_pos hj,if_pos hj];exact ⟨_,rfl⟩
  · rw [if_neg hj,if_neg hj];exact ⟨_,rfl⟩
theorem call_min2 (hc:X.calm=true):CallR X (.builtin "min") (fun xs H Q=>∃ i j,xs=[.int i,.int j]∧Q (.int (if j<i then j else i)) H):=by
  intro pins s σ H xs us Q I r h
  obtain ⟨i,j,rfl,q⟩:=h
  obtain ⟨u,w',rfl,⟨t,rfl⟩,⟨t',rfl⟩⟩:=vals2 r
  refine min_two_ints (I.ok.hd hc) fun h' tk k=>⟨_,H,I.kept k,?_,q⟩
  by_cases hj:j<i
  · rw [if_pos hj,if_pos hj];exact ⟨_,rfl⟩
  · rw [if_neg hj,if_neg hj];exact ⟨_,rfl⟩
theorem call_int1:CallR X (.type "int") (fun xs H Q=>(∃ i,xs=[.int i]∧Q (.int i) H)∨∃ k,xs=[.bl k]∧Q (.int (if k then 1 else 0)) H):=by
  intro pins s σ H xs us Q I r h
  rcases h with ⟨i,rfl,q⟩ | ⟨k,rfl,q⟩
  · obtain ⟨u,rfl,t,rfl⟩:=vals1 r
    exact call_int_int ⟨.int i,H,I,⟨_,rfl⟩,q⟩
  · obtain ⟨u,rfl,r1⟩:=vals1 r
    cases r1
    exact call_int_bool ⟨.int (if k then 1 else 0),H,I.tok _,⟨_,rfl⟩,q⟩
end
end L2
namespace L2
open PySem PySem.Spec PyProof.Rows
structure ObjM (h:Heap) (x dx C:Addr) (mA:Str→Option Value):Prop where
  obj:h.get? x=some (PySem.W.instObj C dx)
  ns:h.Ns1 dx mA
  ne:dx≠x
section
variable {prog:Program} {w:World} {A:Around} {E:Value→Shared→Prop} {s:Shared} {K:PySem.W.Frag} {x dx C f:Addr} {mA:Str→Option Value} {name:Str} {v:Value}
end
section
variable {P:Program} {w:World} {H H':Hp} {h h':Heap} {a C dx:Addr} {fs fs':List (Str×V)}
end
structure Cls (K:PySem.W.Frag) (C:Addr):Prop where
  pg:PySem.W.plainGet K C Str.empty=true
  hd:PySem.W.hasDictIn K C=true
  po:PySem.W.plainOver K C=true
  sa:PySem.W.findIn K (.ref C) "__setattr__"=some (some (.builtin "object.__setattr__"))
structure Con (K:PySem.W.Frag) (C:Addr) (f:Str) (v:V) (u:Value):Prop where
  at_:PySem.W.findIn K (.ref C) f=some (some u)
  rel:RelV v u
  get:PySem.W.specialIn K u "__get__"=some none
  cp:PySem.W.copiedNames.contains f=false
structure Meth (K:PySem.W.Frag) (C:Addr) (m:Str) (f:Addr):Prop where
  at_:PySem.W.findIn K (.ref C) m=some (some (.ref f))
  fn:PySem.W.isFn K (.ref f)=true
  kp:PySem.W.keepIn K (.ref f)=true
section
variable {X:Cx} {pins:List (Addr×Obj)} {σ:St} {H:Hp} {s:Shared} {a C dx:Addr} {fs:List (Str×V)} {f:Str} {v:V} {A:Around} {E:Value→Shared→Prop}
end
section
variable {X:Cx} {o e value:Expr} {f:Str} {pos pos' tpos:Pos} {ta tv:TE}
end
section
variable {X:Cx} {pins:List (Addr×Obj)} {σ:St} {H:Hp} {s:Shared} {A:Around} {E:Value→Shared→Prop} {Q:Value→Shared→Prop} {c:Value} {b:Bool}
inductive TyOf (K:PySem.W.Frag) (H:Hp):V→Value→Prop where
  | non:TyOf K H .non (.type "NoneType")
  | bl (x:Bool):TyOf K H (.bl x) (.type "bool")
  | int (i:Int):TyOf K H (.int i) (.type "int")
  | str (x:Str):TyOf K H (.str x) (.type "str")
  | flt (x:UInt64):TyOf K H (.flt x) (.type "float")
  | lst {a:Addr} {xs:List V} (e:H a=some (.lst xs)):TyOf K H (.ref a) (.type "list")
  | frz {a:Addr} {o:Obj} {xs:List V} (e:H a=some (.frz o (.lst xs))):TyOf K H (.ref a) (.type "list")
  | tup {a:Addr} {xs:List V} (e:H a=some (.tup xs)):TyOf K H (.ref a) (.type "tuple")
  | dK {a:Addr} {kvs:List (Key×V)} (e:H a=some (.dK kvs)):TyOf K H (.ref a) (.type "dict")
  | dT {a:Addr} {kvs:List (List Key×V)} (e:H a=some (.dT kvs)):TyOf K H (.ref a) (.type "dict")
  | ins {a C dx:Addr} {fs:List (Str×V)} (e:H a=some (.ins C dx fs)) (cl:Cls K C) (ha:PySem.W.findIn K (.ref C) "__class__"=some (some (.builtin "object.__class__")))
      (hn:PySem.W.specialIn K (.builtin "object.__class__") "__get__"=some (some (.builtin "getset_descriptor.__get__"))) (htk:PySem.W.takesIn K (.builtin "object.__class__")=some true)
      (hm:PySem.W.mroIn K C (.type "object")=some true):TyOf K H (.ref a) (.ref C)
end
end L2
namespace L2
open PySem PySem.Spec PyProof.Rows
structure Room (k:Nat) (A:Around):Prop where
  hd:A.handled=none
  dp:A.depth+3*k+5<recursionLimit
  un:A.units+16*k+200<cLine
theorem Room.mono {j k:Nat} {A:Around} (r:Room k A) (h:j≤k):Room j A:=⟨r.hd,by have:=r.dp;omega,by have:=r.un;omega⟩
theorem Room.deeper {k:Nat} {A:Around} (r:Room (k+1) A) (env:Env):Room k (A.deeper env):=
  ⟨r.hd,by have:=r.dp;show A.depth+1+3*k+5<_;omega,by have:=r.un;show A.units+3+16*k+200<_;omega⟩
theorem make_depth {A:Around} {C:Addr} {us:List Value} {kw:List (Str×Value)}:(A.under (.builtin "type.__call__" ⟨.ref C::us,kw⟩)).depth=A.depth+1:=by
  first | rfl | simp [Around.under,Code.weight,Code.isCreation,Code.isGuard,Code.isCaller,Code.frames,Code.isFrame,guardIds]
theorem make_units {A:Around} {C:Addr} {us:List Value} {kw:List (Str×Value)}:(A.under (.builtin "type.__call__" ⟨.ref C::us,kw⟩)).units=A.units+1:=by
  first | rfl | simp [Around.under,Code.cUnits,Code.frames,Code.isFrame]
theorem Room.make {k:Nat} {A:Around} (r:Room (k+1) A) (C:Addr) (us:List Value) (kw:List (Str×Value)):Room k (A.under (.builtin "type.__call__" ⟨.ref C::us,kw⟩)):=
  ⟨r.hd,by have:=r.dp;rw [make_depth];omega,by have:=r.un;rw [make_units];omega⟩
theorem Room.depth {k:Nat} {A:Around} (r:Room k A):A.depth<recursionLimit:=by have:=r.dp;omega
theorem Room.units {k:Nat} {A:Around} (r:Room k A):A.units+64<cLine:=by have:=r.un;omega
def tNil:TA:=fun _ H Q=>Q [] H
def tCons (ta:TE) (tr:TA):TA:=fun σ H Q=>ta σ H fun x H1=>tr σ H1 fun xs H2=>Q (x::xs) H2
section
variable {X:Cx} {e:Expr} {es:List Expr} {te:TE} {t:TA} {pos:Pos}
theorem pa_nil:PA X [] tNil:=fun _ _ _ _ H Q I h=>Calls.spliced_nil ⟨[],H,I,.nil,h⟩
theorem pa_cons (ha:PE X e te) (hr:PA X es t) (hs:starEach (e::es) X.env=(false,eval e X.env)::starEach es X.env:=by rfl):PA X (e::es) (tCons te t):=by
  intro pos pins s σ H Q I h
  rw [hs]
  show wpAny _ _ (spliced ((false,eval e X.env)::backTo pos (starEach es X.env))) _ _ s
  refine Calls.spliced_cons (thn (ha pins s σ H _ I h) fun u s1 ⟨x,H1,I1,r1,q1⟩=>?_)
  exact thn (hr pos pins s1 σ H1 _ I1 q1) fun us s2 ⟨xs,H2,I2,r2,q2⟩=>⟨x::xs,H2,I2,.cons r1 r2,q2⟩
def tTup (t:TA):TE:=fun σ H Q=>t σ H fun xs H1=>xs.length≤sizeLine∧∀ p,H1 p=none→Q (.ref p) (upd H1 p (.tup xs))
def tLst (t:TA):TE:=fun σ H Q=>t σ H fun xs H1=>xs.length≤sizeLine∧∀ p,H1 p=none→Q (.ref p) (upd H1 p (.lst xs))
theorem pe_tup {x1} (h:PA X es t):PE X (.Tuple es x1 pos) (tTup t):=by
  intro pins s σ H Q I hq
  refine wpAny_Tuple_spliced (thn (h pos pins s σ H _ I hq) fun us s1 ⟨xs,H1,I1,r,z,q⟩=>⟨by rw [← r.length];exact z,?_⟩)
  have hf:H1 s1.heap.objs.size=none:=I1.hok.fresh (Nat.le_refl _)
  refine ⟨.ref s1.heap.objs.size,upd H1 s1.heap.objs.size (.tup xs),I1.laid (t':=s1.toks) (fun b u e=>Heap.get?_push_of_some _ e) (Nat.le_refl _) ?_,rfl,q _ hf⟩
  exact ⟨z,us,r,⟨_,Heap.get?_push_size _ rfl,rfl,_,rfl⟩⟩
theorem pe_lst (h:PA X es t):PE X (.List es pos) (tLst t):=by
  intro pins s σ H Q I hq
  refine wpAny_List_spliced (thn (h pos pins s σ H _ I hq) fun us s1 ⟨xs,H1,I1,r,z,q⟩=>⟨by rw [← r.length];exact z,?_⟩)
  have hf:H1 s1.heap.objs.size=none:=I1.hok.fresh (Nat.le_refl _)
  refine ⟨.ref s1.heap.objs.size,upd H1 s1.heap.objs.size (.lst xs),I1.laid (t':=s1.toks) (fun b u e=>Heap.get?_push_of_some _ e) (Nat.le_refl _) ?_,rfl,q _ hf⟩
  exact ⟨z,us,0,r,Heap.get?_push_size _ rfl⟩
end
abbrev Sp:=List V→Hp→VK→XK→Prop
abbrev CXT:=List Env→Hp→Shared→XK→Value→Shared→Prop
structure Env0 (P:Program) (w:World) (K:PySem.W.Frag) (mg:Str→Option Value) (base:Heap) (A:Around) (outer:List Env) (s:Shared) (H:Hp):Prop where
  frames:A.frames=some outer
  mod:Mod K mg base
  bs:∀ b o,base.get? b=some o→s.heap.get? b=some o∧H b=none
  bsz:base.objs.size≤s.heap.objs.size
  funs:s.heap.FunFrames base outer
  frf:∀ b∈frs outer,H b=none
  hok:HOk P w H s.heap
  bare:AllBare s.gens
def CE (outer:List Env) (P:Program) (w:World) (H:Hp) (s:Shared) (Q:VK) (u:Value) (s':Shared):Prop:=
  ∃ v H',s'.os=s.os∧AllBare s'.gens∧Un (frs outer) [] H H' s.heap s'.heap∧HOk P w H' s'.heap∧RelV v u∧Q v H'
def CR (CX:CXT) (outer:List Env) (P:Program) (w:World) (H:Hp) (s:Shared) (Q:VK) (E:XK) (r:Result) (s':Shared):Prop:=
  match r with
  | .ok (.ret u)=>CE outer P w H s Q u s'
  | .ok _=>False
  | .error e=>CX outer H s E e s'
structure FnOk (P:Program) (w:World) (K:PySem.W.Frag) (mg:Str→Option Value) (base:Heap) (CX:CXT) (k:Nat) (f:Addr) (fd:FuncData) (ps:List Str) (sp:Sp):Prop where
  len:∀ vs H Q E,sp vs H Q E→vs.length=ps.length
  run:∀ (A:Around) (outer:List Env) (s:Shared) (H:Hp) (args:Args) (us:List Value) (vs:List V) (Q:VK) (E:XK),Room k A→Env0 P w K mg base A outer s H→BindsTo s fd args (ps.zip us)→Vals vs us→sp vs H Q E→
    codeAny (model P w) A (.call (.ref f) args) (CR CX outer P w H s Q E) s
theorem FnOk.mono {P:Program} {w:World} {K:PySem.W.Frag} {mg:Str→Option Value} {base:Heap} {CX:CXT} {j k:Nat} {f:Addr} {fd:FuncData} {ps:List Str} {sp:Sp} (F:FnOk P w K mg base CX j f fd ps sp) (h:j≤k) :
    FnOk P w K mg base CX k f fd ps sp:=⟨F.len,fun A outer s H args us vs Q E hr=>F.run A outer s H args us vs Q E (hr.mono h)⟩
theorem Env0.make {P:Program} {w:World} {K:PySem.W.Frag} {mg:Str→Option Value} {base:Heap} {A:Around} {outer:List Env} {s:Shared} {H:Hp} (e:Env0 P w K mg base A outer s H) (C:Addr) (us:List Value) (kw:List (Str×Value)) :
    Env0 P w K mg base (A.under (.builtin "type.__call__" ⟨.ref C::us,kw⟩)) outer s H:=⟨by first | exact e.frames | (simpa [Around.under,Code.envs,Code.isFrame,pushEnvs] using e.frames),e.mod,e.bs,e.bsz,e.funs,e.frf,e.hok,e.bare⟩
section
variable {X:Cx} {pins:List (Addr×Obj)} {σ:St} {H:Hp} {s s':Shared}
theorem Inv.env0 (I:Inv X pins σ H s):Env0 X.prog X.w X.K X.mg X.base X.A X.stack s H:=
  ⟨I.ok.frames,I.ok.mod,I.bs,Nat.le_trans I.ok.bsz I.sz,I.stack,I.stkFree,I.hok,I.bare⟩
theorem Inv.after {Q:VK} {u:Value} (I:Inv X pins σ H s) (h:CE X.stack X.prog X.w H s Q u s'):EP X pins σ Q u s':=by
  obtain ⟨v,H',os,bare,un,hok,r,q⟩:=h
  obtain ⟨hh,g,d,t,os'⟩:=s'
  obtain rfl:os'=s.os:=os
  exact ⟨v,H',I.call (h':=hh) (g':=g) (d':=d) (t':=t) (ch:=[]) un hok bare (fun b z=>absurd z (by simp)),r,q⟩
end
def tCall (sp:Sp) (dvs:List V) (E:XK) (t:TA):TE:=fun σ H Q=>t σ H fun vs H1=>sp (vs++dvs) H1 Q E
def Binds (K:PySem.W.Frag) (fd:FuncData) (ps:List Str) (ds:List Value):Prop:=
  ∀ (s:Shared) (us:List Value),K.In s.heap→(us++ds).length=ps.length→BindsTo s fd ⟨us,[]⟩ (ps.zip (us++ds))
theorem Binds.all {K:PySem.W.Frag} {fd:FuncData} {ps:List Str} (h:∀ us:List Value,us.length=ps.length→bindArgs fd ⟨us,[]⟩=pure (ps.zip us)):Binds K fd ps []:=fun s us _ hl=>by
  rw [List.append_nil] at hl ⊢
  exact .of_eq (h us hl)
def Passes (CX:CXT) (X:Cx) (E:XK):Prop:=∀ (pins:List (Addr×Obj)) (σ:St) (H:Hp) (s:Shared) (e:Value) (s':Shared),Inv X pins σ H s→CX X.stack H s E e s'→X.xe e s'
section
variable {X:Cx} {CX:CXT} {k:Nat} {f C:Addr} {fd:FuncData} {ps:List Str} {sp:Sp} {dvs:List V} {ds:List Value} {E:XK} {x m:Str} {p pos apos:Pos} {e o:Expr} {es:List Expr} {ta:TE} {t:TA}
theorem run_fn {pins:List (Addr×Obj)} {σ:St} {H:Hp} {s:Shared} {Q:VK} {us:List Value} {vs:List V} (F:FnOk X.prog X.w X.K X.mg X.base CX k f fd ps sp) (hr:Room k X.A) (hb:Binds X.K fd ps ds) (hd:Vals dvs ds) (hx:Passes CX X E)
    (I:Inv X pins σ H s) (r:Vals vs us) (h:sp (vs++dvs) H Q E):wpAny (model X.prog X.w) X.A (call (.ref f) us) (EP X pins σ Q) X.xe s:=by
  have r2:Vals (vs++dvs) (us++ds):=r.append hd
  have hl:(us++ds).length=ps.length:=by rw [← r2.length];exact F.len _ _ _ _ h
  refine wpAny_call (codeAny_mono (F.run X.A X.stack s H ⟨us,[]⟩ (us++ds) (vs++dvs) Q E hr I.env0 (hb s us I.kIn hl) r2 h) fun r s' hq=>?_)
  cases r with
  | error e=>exact hx pins σ H s e s' I hq
  | ok fl=>
    cases fl with
    | ret u=>exact I.after hq
    | next=>exact False.elim hq
    | brk=>exact False.elim hq
    | cont=>exact False.elim hq
theorem pe_call (F:FnOk X.prog X.w X.K X.mg X.base CX k f fd ps sp) (hr:Room k X.A) (hg:Gl X x) (hm:X.mg x=some (.ref f)) (hk:PySem.W.keepIn X.K (.ref f)=true) (hb:Binds X.K fd ps ds) (hd:Vals dvs ds) (hx:Passes CX X E)
    (ha:PA X (e::es) t) (hdb:(x==("__debug__":Str))=false:=by decide) (he:starEach (e::es) X.env=(false,eval e X.env)::starEach es X.env:=by rfl) (hpl:(backTo pos (starEach es X.env)).any (·.1)=false:=by rfl) :
    PE X (.Call (.Name x p) (e::es) [] pos) (tCall sp dvs E t):=by
  intro pins s σ H Q I h
  refine wpAny_Call_Name_kw (ld_glob I hg hm ?_ hdb)
  refine PySem.W.callWith_K (h₀:=X.base) I.ok.mod.kin hk (thn (ha pos pins s σ H _ I h) fun us s1 ⟨vs,H1,I1,r,q⟩=>⟨I1.kIn,?_⟩) he hpl
  exact run_fn F hr hb hd hx I1 r q
structure Mk (K:PySem.W.Frag) (C f:Addr):Prop where
  makes:PySem.W.makesIn K C=true
  init:PySem.W.findIn K (.ref C) "__init__"=some (some (.ref f))
  fn:PySem.W.isFn K (.ref f)=true
  kp:PySem.W.keepIn K (.ref C)=true
end
section
variable {X:Cx} {CX:CXT} {k:Nat} {f C:Addr} {fd:FuncData} {ps ks:List Str} {sp:Sp} {E:XK} {x m:Str} {p pos apos kpos:Pos} {e o:Expr} {es:List Expr} {kws:List Keyword} {te ta:TE} {t tk:TA} {nm:Option Str}
structure KBinds (K:PySem.W.Frag) (fd:FuncData) (ps ks:List Str) (g:List Value→List Value→List Value) (gV:List V→List V→List V):Prop where
  to:∀ (s:Shared) (us ws:List Value),K.In s.heap→(g us ws).length=ps.length→BindsTo s fd ⟨us,ks.zip ws⟩ (ps.zip (g us ws))
  rel:∀ {vs:List V} {us:List Value} {zs:List V} {ws:List Value},Vals vs us→Vals zs ws→Vals (gV vs zs) (g us ws)
variable {g:List Value→List Value→List Value} {gV:List V→List V→List V}
end
structure FnScope (N P:List Str) (sc:Scope):Prop where
  kind:sc.kind=.function
  co:sc.isCoroutine=false
  gen:sc.isGenerator=false
  nd:N.Nodup
  pre:N.take P.length=P
  par:∀ x∈P,sc.names.lookup x=some .local∨sc.names.lookup x=some .cell
  nofree:∀ y∈sc.names,y.2≠.free
theorem bindL_out {kindOf:Str→Option NameKind} {x:Str}:∀ {binds:List (Str×Value)} {m:Str→Option Value},(∀ v,(x,v)∉binds)→bindL kindOf binds m x=m x
  | [],_,_=>rfl
  | (n,v)::r,m,h=>by
    unfold bindL
    rw [bindL_out fun w hw=>h w (List.mem_cons_of_mem _ hw)]
    split
    · have:x≠n:=by rintro rfl;exact h v List.mem_cons_self
      simp [this]
    · rfl
theorem bindC_out {kindOf:Str→Option NameKind} {x:Str}:∀ {binds:List (Str×Value)} {m:Str→Option Value},(∀ v,(x,v)∉binds)→bindC kindOf binds m x=m x
  | [],_,_=>rfl
  | (n,v)::r,m,h=>by
    unfold bindC
    rw [bindC_out fun w hw=>h w (List.mem_cons_of_mem _ hw)]
    split
    · rfl
    · have:x≠n:=by rintro rfl;exact h v List.mem_cons_self
      simp [this]
theorem bindL_get {kindOf:Str→Option NameKind} {x:Str} {v:Value}:∀ {P:List Str} {vs:List Value} {i:Nat} {m:Str→Option Value},P.Nodup→P[i]?=some x→vs[i]?=some v→kindOf x=some .local→
    bindL kindOf (P.zip vs) m x=some v
  | [],_,_,_,_,h,_,_=>by simp at h
  | _::_,[],_,_,_,_,h,_=>by simp at h
  | p::P,w::vs,0,m,nd,h1,h2,hk=>by
    simp at h1 h2;subst h1;subst h2
    show bindL kindOf ((p,w)::P.zip vs) m p=_
    unfold bindL
    rw [bindL_out fun v hv=>(List.nodup_cons.mp nd).1 (List.of_mem_zip hv).1,if_pos hk]
    simp
  | p::P,w::vs,i+1,m,nd,h1,h2,hk=>by
    show bindL kindOf ((p,w)::P.zip vs) m x=_
    unfold bindL
    exact bindL_get (i:=i) (List.nodup_cons.mp nd).2 (by simpa using h1) (by simpa using h2) hk
theorem bindC_get {kindOf:Str→Option NameKind} {x:Str} {v:Value}:∀ {P:List Str} {vs:List Value} {i:Nat} {m:Str→Option Value},P.Nodup→P[i]?=some x→vs[i]?=some v→kindOf x≠some .local→
    bindC kindOf (P.zip vs) m x=some v
  | [],_,_,_,_,h,_,_=>by simp at h
  | _::_,[],_,_,_,_,h,_=>by simp at h
  | p::P,w::vs,0,m,nd,h1,h2,hk=>by
    simp at h1 h2;subst h1;subst h2
    show bindC kindOf ((p,w)::P.zip vs) m p=_
    unfold bindC
    rw [bindC_out fun v hv=>(List.nodup_cons.mp nd).1 (List.of_mem_zip hv).1,if_neg hk]
    simp
  | p::P,w::vs,i+1,m,nd,h1,h2,hk=>by
    show bindC kindOf ((p,w)::P.zip vs) m x=_
    unfold bindC
    exact bindC_get (i:=i) (List.nodup_cons.mp nd).2 (by simpa using h1) (by simpa using h2) hk
def start (N:List Str) (vs:List V):St:=vs.map some++List.replicate (N.length-vs.length) none
def cxOf (CX:CXT) (P:Program) (w:World) (K:PySem.W.Frag) (mg:Str→Option Value) (base:Heap) (N:List Str) (qual:Str) (scope:Scope) (f:Addr) (cd:Value) (A:Around) (outer:List Env) (s:Shared) (H:Hp) (E:XK):Cx where
  prog:=P
  w:=w
  K:=K
  mg:=mg
  base:=base
  A:=A.deeper (envOfC qual scope s.heap.objs.size f cd)
  N:=N
  s₀:=s
  H₀:=H
  env:=envOfC qual scope s.heap.objs.size f cd
  outer:=outer
  stack:=envOfC qual scope s.heap.objs.size f cd::outer
  ex:=[]
  calm:=true
  fn:=fun _=>true
  pn:=[]
  xe:=fun e s'=>wpAny (model P w) (A.deeper (envOfC qual scope s.heap.objs.size f cd)) (leaving (envOfC qual scope s.heap.objs.size f cd) e) (fun _ s''=>CX outer H s E e s'') (fun e' s''=>CX outer H s E e' s'') s'
theorem cell_has {sc:Scope} {n:Nat} {x:Str} (h:sc.names.lookup x=some .cell):∃ c,(cellsFrom n sc.names []).lookup x=some c:=by
  have q:=PySem.W.cellsFrom_some sc.names n [] (.inl h)
  exact Option.isSome_iff_exists.mp q
theorem inv_start {CX:CXT} {P:Program} {w:World} {K:PySem.W.Frag} {mg:Str→Option Value} {base:Heap} {N ps:List Str} {qual:Str} {scope:Scope} {f:Addr} {cd:Value} {A:Around} {outer:List Env} {s s1:Shared} {H:Hp} {E:XK} {us:List Value} {vs:List V}
    (S:FnScope N ps scope) (hd:A.handled=none) (e0:Env0 P w K mg base A outer s H) (hl:vs.length=ps.length) (r:Vals vs us)
    (x:InCallC s s.heap.objs.size (bindL (envOfC qual scope s.heap.objs.size f cd).kindOf (ps.zip us) fun _=>none) (cellsFrom (s.heap.objs.size+1) scope.names []) (bindC (envOfC qual scope s.heap.objs.size f cd).kindOf (ps.zip us) fun _=>none) s1) :
    Inv (cxOf CX P w K mg base N qual scope f cd A outer s H E) [] (start N vs) H s1:=by
  have hpl:ps.length≤N.length:=by have:=congrArg List.length S.pre;rw [List.length_take] at this;omega
  obtain ⟨h1,tk,rfl,hk⟩:=x.done
  have noA:∀ b:Addr,b∉(cxOf CX P w K mg base N qual scope f cd A outer s H E).ex:=fun b z=>absurd (show b∈([]:List Addr) from z) (by simp)
  refine ⟨⟨e0.mod,S.kind,rfl,rfl,Nat.le_refl _,fun y z c h1 h2=>?_,fun y hy=>?_,fun y c _ h=>?_,fun _=>hd,Around.frames_deeper e0.frames,.inr ⟨rfl,rfl⟩,fun b z=>absurd z (noA b),e0.bs,e0.bsz,fun b _ _=>noA b,fun b z=>absurd z (noA b),e0.funs,e0.frf⟩,
    rfl,e0.bare,Un.kept hk,⟨_,x.toInCall.ns,fun i y v h1 h2 h3=>?_⟩,fun y c h=>⟨_,x.cell y c h⟩,e0.hok.fresh (Nat.le_refl _),fun y c h=>?_,fun p hp=>absurd (show p∈([]:List (Addr×Obj)) from hp) (by simp),e0.hok.kept hk,?_⟩
  · exact name_of_addr x.apart (PySem.mem_of_lookup h1) (PySem.mem_of_lookup h2)
  · have hy:scope.names.lookup y=some .cell∨scope.names.lookup y=some .free:=hy
    rcases hy with hy | hy
    · exact cell_has hy
    · exact absurd rfl (S.nofree _ (PySem.mem_of_lookup hy))
  · exact Nat.le_of_lt (x.above y c (PySem.mem_of_lookup h))
  · have hi:i<vs.length:=by
      unfold start at h2
      by_cases hi:i<vs.length
      · exact hi
      · rw [List.getElem?_append_right (by simpa using hi)] at h2
        rw [List.getElem?_replicate] at h2
        split at h2<;>cases h2
    have ha:vs[i]?=some v:=by
      unfold start at h2
      rw [List.getElem?_append_left (by simpa using hi),List.getElem?_map] at h2
      cases e:vs[i]? with
      | none=>rw [e] at h2;cases h2
      | some a=>rw [e] at h2;cases h2;rfl
    obtain ⟨u,hu,rv⟩:=r.get ha
    have hp:ps[i]?=some y:=by
      rw [← S.pre,List.getElem?_take_of_lt (by omega)];exact h1
    have ndP:ps.Nodup:=by rw [← S.pre];exact S.nd.sublist (List.take_sublist _ _)
    refine ⟨u,rv,?_⟩
    rcases S.par y (List.mem_of_getElem? hp) with k | k
    · exact .inl ⟨k,bindL_get ndP hp hu k⟩
    · obtain ⟨c,e⟩:=cell_has (n:=s.heap.objs.size+1) k
      refine .inr ⟨.inl k,c,e,?_⟩
      have q:=x.cell y c e
      rw [bindC_get ndP hp hu (by show scope.names.lookup y≠_;rw [k];decide)] at q
      exact q
  · exact e0.hok.fresh (Nat.le_of_lt (x.above y c (PySem.mem_of_lookup h)))
  · unfold start
    show _=N.length
    rw [List.length_append,List.length_map,List.length_replicate]
    omega
theorem fn_of {CX:CXT} {P:Program} {w:World} {K:PySem.W.Frag} {mg:Str→Option Value} {base:Heap} {k:Nat} {f:Addr} {name qual:Str} {params:Arguments} {body:List Stmt} {scope:Scope} {dV kV doc pm cdv ct oc:Value} {an od:Option Addr}
    {osl:Array (Option Value)} {N ps:List Str} {sp:Sp} (lk:K.lookup f=some ⟨oc,od,.func (PySem.W.fnOf name qual params body scope dV kV doc pm an cdv ct),osl⟩) (hcd:PySem.W.codeIn K cdv qual=true) (S:FnScope N ps scope)
    (len:∀ vs H Q E,sp vs H Q E→vs.length=ps.length)
    (hbody:∀ (A:Around) (outer:List Env) (s:Shared) (H:Hp) (vs:List V) (Q:VK) (E:XK),Room k (A.deeper (envOfC qual scope s.heap.objs.size f cdv))→sp vs H Q E→
      ∃ t,PSs (cxOf CX P w K mg base N qual scope f cdv A outer s H E) body t∧t { nx:=fun _ H'=>Q .non H',rt:=Q } (start N vs) H) :
    FnOk P w K mg base CX (k+1) f (PySem.W.fnOf name qual params body scope dV kV doc pm an cdv ct) ps sp:=by
  refine ⟨len,fun A outer s H args us vs Q E hr e0 hb r hsp=>?_⟩
  have hl:=len _ _ _ _ hsp
  have KX:K.In s.heap:=e0.mod.kin.keeps fun b o e=>(e0.bs b o e).1
  have lim:s.heap.NoLimit:=e0.mod.nolimit.keeps fun b o e=>(e0.bs b o e).1
  have hkind:∀ y∈ps.zip us,scope.names.lookup y.1=some .local∨(scope.names.lookup y.1=some .cell∧((cellsFrom (s.heap.objs.size+1) scope.names []).lookup y.1).isSome=true):=fun ⟨n,v⟩ hy=>by
    rcases S.par n (List.of_mem_zip hy).1 with q | q
    · exact .inl q
    · exact .inr ⟨q,PySem.W.cellsFrom_some _ _ _ (.inl q)⟩
  refine codeAny_call_function hr.depth (KX _ _ lk) rfl S.co S.gen rfl (PySem.W.codeRec_of KX hcd) (hb _ _ _ _ ?_)
  refine wpAny_newFunctionEnv_cells S.kind hkind fun env he s1 x=>?_
  subst he
  refine ⟨lim.keeps x.toInCall.keep,codeAny_func ?_⟩
  obtain ⟨t,ht,hq⟩:=hbody A outer s H vs Q E (hr.deeper _) hsp
  have I:Inv (cxOf CX P w K mg base N qual scope f cdv A outer s H E) [] (start N vs) H s1:=inv_start S hr.hd e0 hl r x
  refine wpAny_mono (ht [] s1 (start N vs) H _ I hq) (fun fl s' hs=>?_) fun e s' hs=>hs
  have fin:∀ {σ':St} {H':Hp} {v:V} {u:Value},Inv (cxOf CX P w K mg base N qual scope f cdv A outer s H E) [] σ' H' s'→RelV v u→Q v H'→CE outer P w H s Q u s':=
    fun {σ' H' v u} J rv q=>⟨v,H',J.os,J.bare,J.base,J.hok,rv,q⟩
  cases fl with
  | ret u=>
    obtain ⟨v,σ',H',J,rv,q⟩:=hs
    exact fin J rv q
  | next=>
    obtain ⟨σ',H',J,q⟩:=hs
    exact fin (v:=V.non) (u:=Value.none) J rfl q
  | brk=>
    obtain ⟨_,_,_,q⟩:=hs
    exact False.elim q
  | cont=>
    obtain ⟨_,_,_,q⟩:=hs
    exact False.elim q
end L2
namespace L2
open PySem PySem.Spec PyProof.Rows
section
variable {X:Cx} {x:Str} {p pos:Pos} {e:Expr} {es:List Expr} {t:TA} {id T:String} {r:List V→Hp→VK→Prop}
def tCB (r:List V→Hp→VK→Prop) (t:TA):TE:=fun σ H Q=>t σ H fun vs H1=>r vs H1 Q
theorem pe_callB (hc:CallR X (.builtin id) r) (hg:Gl X x) (hm:X.mg x=none) (hv:bootBuiltins x=some (.builtin id)) (ha:PA X (e::es) t) (hn:x≠"__name__":=by decide) (hdb:(x==("__debug__":Str))=false:=by decide)
    (he:starEach (e::es) X.env=(false,eval e X.env)::starEach es X.env:=by rfl) (hpl:(backTo pos (starEach es X.env)).any (·.1)=false:=by rfl):PE X (.Call (.Name x p) (e::es) [] pos) (tCB r t):=by
  intro pins s σ H Q I h
  refine wpAny_Call_Name_kw (ld_blt I hg hm hv ?_ hn hdb)
  exact PyProof.Rows.callWith_builtin1 (thn (ha pos pins s σ H _ I h) fun us s1 ⟨vs,H1,I1,r1,q1⟩=>hc pins s1 σ H1 vs us Q I1 r1 q1) he hpl
theorem pe_callTy (hc:CallR X (.type T) r) (hg:Gl X x) (hm:X.mg x=none) (hv:bootBuiltins x=some (.type T)) (ha:PA X (e::es) t) (hn:x≠"__name__":=by decide) (hdb:(x==("__debug__":Str))=false:=by decide)
    (he:starEach (e::es) X.env=(false,eval e X.env)::starEach es X.env:=by rfl) (hpl:(backTo pos (starEach es X.env)).any (·.1)=false:=by rfl):PE X (.Call (.Name x p) (e::es) [] pos) (tCB r t):=by
  intro pins s σ H Q I h
  refine wpAny_Call_Name_kw (ld_blt I hg hm hv ?_ hn hdb)
  exact PyProof.Rows.callWith_type1 (thn (ha pos pins s σ H _ I h) fun us s1 ⟨vs,H1,I1,r1,q1⟩=>hc pins s1 σ H1 vs us Q I1 r1 q1) he hpl
end
end L2
namespace HT
open PySem PyProof.Rows
theorem rcLt_int (A:Around) (s:Shared) (a:Int) (t:Tok) (c:Int) (u:Tok) (prog:Program) (w:World) (E:Value→Shared→Prop) (Q:Value→Shared→Prop) (h:Q (.bool (decide (a<c))) s) :
    wpAny (model prog w) A (richCompare .Lt (.int a t) (.int c u)) Q E s:=
  (PyProof.Rows.lt_int h:wpAny (model prog w) A (compareOp .Lt (.int a t) (.int c u)) Q E s)
section
open PySem.SeqAt
open PySem.AutoSeq1 (wpAny_loadPart')
open PySem.MeetsSeq PySem.MeetsSeq2 PySem.MeetsSeq3
end
section
variable {prog:Program} {w:World} {A:Around} {E:Value→Shared→Prop} {s:Shared}
theorem cat_tup {t b:Addr} {vs ws:List Value} {Q:Value→Shared→Prop} (ht:IsTup s.heap t vs.toArray) (hb:IsTup s.heap b ws.toArray) (hv:vs≠[])
    (h1:ws=[]→Q (.ref t) s) (h2:ws≠[]→Q (.ref s.heap.objs.size) { s with heap:=s.heap.push { cls:=.type "tuple",data:=.seq (vs++ws).toArray } })
    (hsz:vs.length+ws.length≤sizeLine):wpAny (model prog w) A (binaryOp .Add (.ref t) (.ref b)) Q E s:=by
  obtain ⟨⟨cls,dd,data,sl⟩,ho,hc,n,hd⟩:=id ht
  obtain ⟨⟨cls2,dd2,data2,sl2⟩,ho2,hc2,n2,hd2⟩:=id hb
  simp only at hc hd hc2 hd2
  subst hc hd hc2 hd2
  have e:vs.toArray++ws.toArray=(vs++ws).toArray:=by simp
  by_cases hw:ws=[]
  · exact concat_meets ⟨_,ho,rfl⟩ ⟨_,ho2,rfl⟩ noFill_tuple_add seq_tuple_add PySem.F.slot_tuple_add PySem.F.entry_tuple_add (PySem.F.args_tuple_add_2 _ _)
      (tuple_addW1 t b vs.toArray ws.toArray n n2 dd dd2 sl sl2 (by simpa using hv) (by simp [hw])) ⟨ho,ho2,h1 hw⟩
  · refine concat_meets ⟨_,ho,rfl⟩ ⟨_,ho2,rfl⟩ noFill_tuple_add seq_tuple_add PySem.F.slot_tuple_add PySem.F.entry_tuple_add (PySem.F.args_tuple_add_2 _ _)
      (tuple_addW2 t b vs.toArray ws.toArray n n2 dd dd2 sl sl2 (by simpa using hv) (by simpa using hw) (by rw [List.size_toArray,List.size_toArray];exact hsz)) ⟨ho,ho2,?_⟩
    rw [e]
    exact h2 hw
def sIx (n d:Nat):Option Int→Nat
  | none=>d
  | some v=>if v<0 then (v+(n:Int)).toNat else min v.toNat n
theorem sIx_none (n d:Nat):sIx n d none=d:=rfl
theorem sIx_nat (n d k:Nat):sIx n d (some (k:Int))=min k n:=by
  show (if (k:Int)<0 then ((k:Int)+(n:Int)).toNat else min (k:Int).toNat n)=min k n
  rw [if_neg (by omega),Int.toNat_natCast]
theorem sIx_le (n d:Nat) (hd:d≤n) (o:Option Int):sIx n d o≤n:=by
  cases o with
  | none=>exact hd
  | some v=>
    show (if v<0 then (v+(n:Int)).toNat else min v.toNat n)≤n
    by_cases hv:v<0
    · rw [if_pos hv];omega
    · rw [if_neg hv];exact Nat.min_le_right _ _
theorem clip_eq (v:Int) (n d:Nat):(if v<0 then max (v+(n:Int)) 0 else min v (n:Int))=((sIx n d (some v):Nat):Int):=by
  show (if v<0 then max (v+(n:Int)) 0 else min v (n:Int))=(((if v<0 then (v+(n:Int)).toNat else min v.toNat n):Nat):Int)
  by_cases hv:v<0
  · simp only [if_pos hv];omega
  · simp only [if_neg hv];omega
theorem adjust_gen (lo hi:Option Int) (n:Nat):Builtin.Slice.sliceAdjust lo hi 1 (n:Int)=(((sIx n 0 lo:Nat):Int),((sIx n n hi:Nat):Int)):=by
  have h1:¬ ((1:Int)<0):=by omega
  unfold Builtin.Slice.sliceAdjust
  simp only [h1,if_false]
  refine Prod.ext ?_ ?_
  · cases lo with
    | none=>rfl
    | some v=>exact clip_eq v n 0
  · cases hi with
    | none=>rfl
    | some v=>exact clip_eq v n n
theorem places_gen (i j:Nat):Builtin.Slice.slicePlaces (i:Int) (j:Int) 1=j-i:=by
  unfold Builtin.Slice.slicePlaces
  have h1:(1:Int)>0:=by omega
  simp only [h1,if_true,Int.ediv_one]
  split<;>omega
theorem slicePart_ {v:Value} {o:Option Int} {Q:Option Int→Shared→Prop} (p:IsPart v o) (h:Q o s):wpAny (model prog w) A (Builtin.Slice.slicePartIndex v) Q E s:=by
  cases p with
  | none=>exact slicePart_none h
  | int i t=>exact slicePart_int h
theorem sliceApplied_gen {sl:Addr} {vl vu:Value} {lo hi:Option Int} {n:Nat} {Q:Int×Int×Nat→Shared→Prop} (hs:s.heap.IsSliceOf sl vl vu .none) (pl:IsPart vl lo) (pu:IsPart vu hi)
    (h:Q (((sIx n 0 lo:Nat):Int),1,sIx n n hi-sIx n 0 lo) s):wpAny (model prog w) A (Builtin.Slice.sliceApplied (.ref sl) (pure (n:Int))) Q E s:=by
  obtain ⟨os,hos,hcs,hds⟩:=id hs
  unfold Builtin.Slice.sliceApplied Builtin.Slice.sliceFields
  refine wpAny_bind (wpAny_bind (wpAny_field hos hds (x:=vl) rfl (wpAny_bind (wpAny_field hos hds (x:=vu) rfl (wpAny_bind (wpAny_field hos hds (x:=.none) rfl (wpAny_pure ?_)))))))
  refine wpAny_bind (slicePart_none ?_)
  show wpAny _ _ (if ((1:Int)==0)=true then _ else _) _ _ s
  rw [if_neg (by decide)]
  refine wpAny_bind (slicePart_ pl (wpAny_bind (slicePart_ pu (wpAny_bind (wpAny_pure ?_)))))
  show wpAny _ _ (match Builtin.Slice.sliceAdjust lo hi 1 (n:Int) with | (lo,hi)=>pure (lo,(1:Int),Builtin.Slice.slicePlaces lo hi 1)) _ _ s
  rw [adjust_gen lo hi n]
  show wpAny _ _ (pure (((sIx n 0 lo:Nat):Int),(1:Int),Builtin.Slice.slicePlaces ((sIx n 0 lo:Nat):Int) ((sIx n n hi:Nat):Int) 1)) _ _ s
  rw [places_gen]
  exact wpAny_pure h
theorem pick_gen (xs:Array Value) (i k:Nat):((List.range k).filterMap fun (m:Nat)=>xs[((i:Int)+(m:Int)*1).toNat]?).toArray=((xs.toList.drop i).take k).toArray:=by
  have e:(fun (m:Nat)=>xs[((i:Int)+(m:Int)*1).toNat]?)=fun m=>xs[i+m]?:=by
    funext m
    have:((i:Int)+(m:Int)*1).toNat=i+m:=by omega
    rw [this]
  rw [e]
  have:=pick_run xs i k
  rw [List.filterMap_map] at this
  have e2:((fun x=>xs[x]?) ∘ fun x=>i+x)=fun m=>xs[i+m]?:=rfl
  rw [e2] at this
  rw [this]
theorem getItem_tuple_cut {t sl:Addr} {items:Array Value} {vl vu:Value} {lo hi:Option Int} {Q:Value→Shared→Prop} (ht:IsTup s.heap t items) (hs:s.heap.IsSliceOf sl vl vu .none) (pl:IsPart vl lo) (pu:IsPart vu hi)
    (hw:¬ (sIx items.size 0 lo=0∧sIx items.size items.size hi=items.size))
    (h:Q (.ref s.heap.objs.size) { s with heap:=s.heap.push { cls:=.type "tuple",data:=.seq ((items.toList.drop (sIx items.size 0 lo)).take (sIx items.size items.size hi-sIx items.size 0 lo)).toArray } })
    (hsz:items.size≤sizeLine):wpAny (model prog w) A (getItem (.ref t) (.ref sl)) Q E s:=by
  have htake:sizeOk (.seq ((items.toList.drop (sIx items.size 0 lo)).take (sIx items.size items.size hi-sIx items.size 0 lo)).toArray):=by
    show ((items.toList.drop (sIx items.size 0 lo)).take (sIx items.size items.size hi-sIx items.size 0 lo)).toArray.size≤sizeLine
    rw [List.size_toArray,List.length_take,List.length_drop,Array.length_toList]
    omega
  have hj:sIx items.size items.size hi≤items.size:=sIx_le _ _ (Nat.le_refl _) hi
  obtain ⟨os,hos,hcs,hds⟩:=id hs
  have hTs:s.TypeIs (.ref sl) "slice":=⟨os,hos,hcs⟩
  unfold getItem
  try with_reducible refine wpAny_holding ?_
  first | refine wpAny_bind (wpAny_pure ?_) | skip
  refine wpAny_bind (wpAny_sequenceKey ht.typeIs (by decide) ?_)
  refine wpAny_bind (wpAny_callSpecial?_slot (name:=Str.ofString "__getitem__") ht.typeIs PyProof.Rows.slot_tuple_getitem
    (wpAny_call_entry PyProof.Rows.slot_tuple_getitem ht.typeIs entry_tuple_getitem ?_ (args_tuple_getitem _ _)))
  show wpAny _ _ (Builtin.Tuple.tupleItemsOf (.ref t) >>= _) _ _ s
  refine wpAny_bind (tupleItemsOf_ ht ?_)
  refine wpAny_bind (wpAny_typeOf hTs ?_)
  rw [if_pos (by decide)]
  refine wpAny_bind (sliceApplied_gen hs pl pu ?_)
  have hno:¬ ((((sIx items.size 0 lo:Nat):Int)==0&&(1:Int)==1&&(sIx items.size items.size hi-sIx items.size 0 lo)==items.size)=true):=by
    intro q
    rw [Bool.and_eq_true,Bool.and_eq_true] at q
    have q1:((sIx items.size 0 lo:Nat):Int)=0:=eq_of_beq q.1.1
    have q2:sIx items.size items.size hi-sIx items.size 0 lo=items.size:=eq_of_beq q.2
    exact hw ⟨by omega,by omega⟩
  show wpAny _ _ (if (((sIx items.size 0 lo:Nat):Int)==0&&(1:Int)==1&&(sIx items.size items.size hi-sIx items.size 0 lo)==items.size)=true then _ else _) _ _ s
  rw [if_neg hno,pick_gen]
  first
    | exact wpAny_bind (m:=Builtin.Tuple.tupleExact _) (wpAny_newObj_type (wpAny_pure ⟨_,rfl,wpAny_pure h⟩) htake)
    | exact wpAny_bind (m:=Builtin.Tuple.tupleExact _) (wpAny_newObj_type (wpAny_bind (wpAny_pure (wpAny_pure ⟨_,rfl,wpAny_pure h⟩))) htake)
    | exact wpAny_bind (wpAny_bind (m:=Builtin.Tuple.tupleExact _) (wpAny_newObj_type (wpAny_pure (wpAny_pure ⟨_,rfl,wpAny_pure h⟩)) htake))
    | exact wpAny_bind (wpAny_bind (m:=Builtin.Tuple.tupleExact _) (wpAny_newObj_type (wpAny_pure ⟨_,rfl,wpAny_pure h⟩) htake))
end
end HT
namespace L2
open PySem PySem.Spec PyProof.Rows
abbrev TO:=St→Hp→(Option Int→Hp→Prop)→Prop
def PO (X:Cx) (e:Option Expr) (t:TO):Prop:=
  ∀ (pins:List (Addr×Obj)) (s:Shared) (σ:St) (H:Hp) (Q:Option Int→Hp→Prop),Inv X pins σ H s→t σ H Q→
    wpAny (model X.prog X.w) X.A (evalPart e X.env) (fun u s'=>∃ o H',Inv X pins σ H' s'∧IsPart u o∧Q o H') X.xe s
def tNoPart:TO:=fun _ H Q=>Q none H
def tPart (t:TE):TO:=fun σ H Q=>t σ H fun x H1=>∃ i,x=.int i∧Q (some i) H1
section
variable {X:Cx} {e:Expr} {te:TE} {lo hi:Option Expr} {tl th:TO} {pos p2:Pos}
theorem po_none:PO X none tNoPart:=by
  intro pins s σ H Q I h
  rw [evalPart_none]
  exact wpAny_pure ⟨none,H,I,.none,h⟩
theorem po_some (h:PE X e te):PO X (some e) (tPart te):=by
  intro pins s σ H Q I hw
  rw [evalPart_some]
  refine thn (h pins s σ H _ I hw) fun u s1 ⟨x,H1,I1,r1,q1⟩=>?_
  obtain ⟨i,rfl,q⟩:=q1
  obtain ⟨t,rfl⟩:=r1
  exact ⟨some i,H1,I1,.int i t,q⟩
def SlR (X:Cx) (r:V→Option Int→Option Int→Hp→VK→Prop):Prop:=
  ∀ (pins:List (Addr×Obj)) (s:Shared) (σ:St) (H:Hp) (x:V) (v vl vu:Value) (lo hi:Option Int) (sl:Addr) (Q:VK),Inv X pins σ H s→RelV x v→s.heap.IsSliceOf sl vl vu .none→IsPart vl lo→IsPart vu hi→r x lo hi H Q→
    ∃ T id,typeLookup (.type T) "__getitem__"=pure (some (.builtin id))∧s.TypeIs v T∧wpAny (model X.prog X.w) X.A (getItem v (.ref sl)) (EP X pins σ Q) X.xe s
theorem SlR.or {r r':V→Option Int→Option Int→Hp→VK→Prop} (h:SlR X r) (h':SlR X r'):SlR X (fun x lo hi H Q=>r x lo hi H Q∨r' x lo hi H Q):=by
  intro pins s σ H x v vl vu lo hi sl Q I rx hs pl pu q
  rcases q with q | q
  · exact h pins s σ H x v vl vu lo hi sl Q I rx hs pl pu q
  · exact h' pins s σ H x v vl vu lo hi sl Q I rx hs pl pu q
def tSl (r:V→Option Int→Option Int→Hp→VK→Prop) (te:TE) (tl th:TO):TE:=fun σ H Q=>te σ H fun x H1=>tl σ H1 fun l H2=>th σ H2 fun u H3=>r x l u H3 Q
theorem pe_slice {r:V→Option Int→Option Int→Hp→VK→Prop} (hr:SlR X r) (he:PE X e te) (hl:PO X lo tl) (hu:PO X hi th):PE X (.Subscript e (.Slice lo hi none p2) pos) (tSl r te tl th):=by
  intro pins s σ H Q I h
  refine Subscript_ (thn (he pins s σ H _ I h) fun v s1 ⟨x,H1,I1,r1,q1⟩=>?_)
  refine wpAny_Slice (thn (hl pins s1 σ H1 _ I1 q1) fun vl s2 ⟨l,H2,I2,pl,q2⟩=>thn (hu pins s2 σ H2 _ I2 q2) fun vu s3 ⟨u,H3,I3,pu,q3⟩=>?_)
  rw [evalPart_none]
  refine wpAny_pure ?_
  have I4:Inv X pins σ H3 { s3 with heap:=s3.heap.push { cls:=.type "slice",data:=.fields #[vl,vu,.none] } }:=I3.kept (t':=s3.toks) fun b ob q=>Heap.get?_push_of_some _ q
  obtain ⟨T,id,hT,ht,hg⟩:=hr pins { s3 with heap:=s3.heap.push { cls:=.type "slice",data:=.fields #[vl,vu,.none] } } σ H3 x v vl vu l u s3.heap.objs.size Q I4 r1 (Heap.IsSliceOf.new ..) pl pu q3
  show wpAny (model X.prog X.w) X.A (subscriptTail e (.Slice lo hi none p2) v (.ref s3.heap.objs.size)) (EP X pins σ Q) X.xe { s3 with heap:=s3.heap.push { cls:=.type "slice",data:=.fields #[vl,vu,.none] } }
  exact tail_any (ops:=[.ref s3.heap.objs.size,v]) ht hT hg (by with_unfolding_all rfl)
def cutV (xs:List V) (lo hi:Option Int):List V:=(xs.drop (HT.sIx xs.length 0 lo)).take (HT.sIx xs.length xs.length hi-HT.sIx xs.length 0 lo)
theorem cutV_length (xs:List V) (lo hi:Option Int):(cutV xs lo hi).length≤xs.length:=by
  unfold cutV
  rw [List.length_take,List.length_drop]
  omega
def rSlT (K:PySem.W.Frag):V→Option Int→Option Int→Hp→VK→Prop:=fun x lo hi H Q=>∃ a xs,x=.ref a∧SqT K H a xs∧
  ¬ (HT.sIx xs.length 0 lo=0∧HT.sIx xs.length xs.length hi=xs.length)∧∀ p,H p=none→Q (.ref p) (upd H p (.tup (cutV xs lo hi)))
theorem sl_tup:SlR X (rSlT X.K):=by
  intro pins s σ H x v vl vu lo hi sl Q I rx hs pl pu h
  obtain ⟨a,xs,rfl,hx,hw,q⟩:=h
  cases rx
  obtain ⟨its,r,ht,hz⟩:=I.tuple hx
  have hlen:its.toArray.size=xs.length:=by rw [List.size_toArray];exact r.length.symm
  refine ⟨"tuple",_,PyProof.Rows.slot_tuple_getitem.lookup,ht.typeIs,?_⟩
  refine HT.getItem_tuple_cut ht hs pl pu (by rw [hlen];exact hw) ?_ (by rw [hlen];exact hz)
  rw [hlen]
  refine ⟨.ref s.heap.objs.size,_,I.laid (t':=s.toks) (o:=.tup (cutV xs lo hi)) (fun b ob q=>Heap.get?_push_of_some _ q) (Nat.le_refl _) ?_,rfl,q _ (I.hok.fresh (Nat.le_refl _))⟩
  exact ⟨Nat.le_trans (cutV_length xs lo hi) hz,_,(r.drop (HT.sIx xs.length 0 lo)).take (HT.sIx xs.length xs.length hi-HT.sIx xs.length 0 lo),IsTup.new _ _⟩
def rCatT (K:PySem.W.Frag):R2:=fun x y H Q=>∃ a b xs ys,x=.ref a∧y=.ref b∧SqT K H a xs∧SqT K H b ys∧xs≠[]∧xs.length+ys.length≤sizeLine∧
  (ys=[]→Q (.ref a) H)∧(ys≠[]→∀ p,H p=none→Q (.ref p) (upd H p (.tup (xs++ys))))
theorem Vals.nil_iff {xs:List V} {us:List Value} (r:Vals xs us):us=[]↔xs=[]:=by
  cases r with
  | nil=>simp
  | cons _ _=>simp
theorem op_catT:OpR X (binaryOp .Add) (rCatT X.K):=by
  intro pins s σ H x y v u Q I rx ry h
  obtain ⟨a,b,xs,ys,rfl,rfl,ha,hb,hx,hz,q1,q2⟩:=h
  cases rx
  cases ry
  obtain ⟨its,r1,p1,_⟩:=I.tuple ha
  obtain ⟨its2,r2,p2,_⟩:=I.tuple hb
  refine HT.cat_tup p1 p2 (fun z=>hx (r1.nil_iff.mp z)) (fun z=>⟨.ref a,H,I,rfl,q1 (r2.nil_iff.mp z)⟩) (fun z=>?_) (by rw [← r1.length,← r2.length];exact hz)
  refine ⟨.ref s.heap.objs.size,_,I.laid (t':=s.toks) (o:=.tup (xs++ys)) (fun b ob q=>Heap.get?_push_of_some _ q) (Nat.le_refl _) ?_,rfl,q2 (fun w=>z (r2.nil_iff.mpr w)) _ (I.hok.fresh (Nat.le_refl _))⟩
  exact ⟨by rw [List.length_append];exact hz,_,r1.append r2,IsTup.new _ _⟩
end
end L2
namespace L2
open PySem PySem.Spec PyProof.Rows
def ixN (n:Nat) (i:Int):Option Nat:=if 0≤i then (if i<n then some i.toNat else none) else if -(n:Int)≤i then some (i+n).toNat else none
def atI {α:Type} (xs:List α) (i:Int):Option α:=(ixN xs.length i).bind fun j=>xs[j]?
theorem ixN_seq {n:Nat} {i:Int} {j:Nat} (h:ixN n i=some j):seqIndex? i n=some j∧j<n∧-(n:Int)≤i∧i<n:=by
  unfold ixN at h
  by_cases h0:0≤i
  · rw [if_pos h0] at h
    by_cases h1:i<n
    · rw [if_pos h1] at h
      have e:i.toNat=j:=Option.some.inj h
      exact ⟨by rw [seqIndex_of h0 h1,e],by omega,by omega,h1⟩
    · rw [if_neg h1] at h;cases h
  · rw [if_neg h0] at h
    by_cases h1:-(n:Int)≤i
    · rw [if_pos h1] at h
      have e:(i+n).toNat=j:=Option.some.inj h
      exact ⟨by rw [seqIndex_neg (by omega) h1,e],by omega,h1,by omega⟩
    · rw [if_neg h1] at h;cases h
theorem atI_get {α:Type} {xs:List α} {i:Int} {v:α} (h:atI xs i=some v):∃ j,seqIndex? i xs.length=some j∧xs[j]?=some v∧j<xs.length∧-(xs.length:Int)≤i∧i<xs.length:=by
  unfold atI at h
  cases e:ixN xs.length i with
  | none=>rw [e] at h;cases h
  | some j=>
    rw [e] at h
    obtain ⟨h1,h2,h3,h4⟩:=ixN_seq e
    exact ⟨j,h1,h,h2,h3,h4⟩
theorem atI_last {α:Type} (xs:List α) (v:α):atI (xs++[v]) (-1)=some v:=by
  have hl:(xs++[v]).length=xs.length+1:=by simp
  have e:ixN (xs++[v]).length (-1)=some xs.length:=by
    unfold ixN
    rw [hl,if_neg (by decide),if_pos (by omega)]
    congr 1
    omega
  unfold atI
  rw [e]
  show (xs++[v])[xs.length]?=some v
  simp
def PlainIx (b:Expr):Prop:=∀ o i,subscripted b false o i=operate [o,i] (getItem o i)
def IxR (X:Cx) (r:R2):Prop:=
  ∀ (value slice:Expr) (pins:List (Addr×Obj)) (s:Shared) (σ:St) (H:Hp) (x y:V) (v u:Value) (Q:VK),Inv X pins σ H s→RelV x v→RelV y u→r x y H Q→
    subscripted slice false v u=operate [v,u] (getItem v u)→wpAny (model X.prog X.w) X.A (subscriptTail value slice v u) (EP X pins σ Q) X.xe s
def MtR (X:Cx) (id:String) (r:V→List V→Hp→VK→Prop):Prop:=
  ∀ (pins:List (Addr×Obj)) (s:Shared) (σ:St) (H:Hp) (x:V) (xs:List V) (v:Value) (us:List Value) (Q:VK),Inv X pins σ H s→RelV x v→Vals xs us→r x xs H Q→
    wpAny (model X.prog X.w) X.A (call (.builtin id) (v::us)) (EP X pins σ Q) X.xe s
section
variable {X:Cx} {a b:Expr} {ta tb:TE} {pos:Pos}
theorem IxR.or {r r':R2} (h:IxR X r) (h':IxR X r'):IxR X (fun x y H Q=>r x y H Q∨r' x y H Q):=by
  intro value slice pins s σ H x y v u Q I rx ry q hs
  rcases q with q | q
  · exact h value slice pins s σ H x y v u Q I rx ry q hs
  · exact h' value slice pins s σ H x y v u Q I rx ry q hs
theorem pe_ix {r:R2} (hr:IxR X r) (ha:PE X a ta) (hb:PE X b tb) (hs:PlainIx b):PE X (.Subscript a b pos) (tOp r ta tb):=by
  intro pins s σ H Q I h
  exact Subscript_ (binT ha hb I h fun v u s2 x y H2 I2 rx ry q=>hr a b pins s2 σ H2 x y v u Q I2 rx ry q (hs _ _))
def rIxL (K:PySem.W.Frag):R2:=fun x y H Q=>∃ p xs i v,x=.ref p∧y=.int i∧SqL K H p xs∧atI xs i=some v∧Q v H
def rIxT (K:PySem.W.Frag):R2:=fun x y H Q=>∃ p xs i v,x=.ref p∧y=.int i∧SqT K H p xs∧atI xs i=some v∧Q v H
theorem ix_list:IxR X (rIxL X.K):=by
  intro value slice pins s σ H x y v u Q I rx ry h hs
  obtain ⟨p,xs,i,z,rfl,rfl,hq,he,q⟩:=h
  cases rx
  obtain ⟨t,rfl⟩:=ry
  obtain ⟨its,r,pl,hz⟩:=I.list hq
  obtain ⟨j,h1,h2,h3,h4,h5⟩:=atI_get he
  obtain ⟨w,ew,rw'⟩:=r.get h2
  have hl:=r.length
  have hn:=line63
  have fin:EP X pins σ Q w s:=⟨z,H,I,rw',q⟩
  by_cases h0:0≤i
  · have hj:i.toNat=j:=by
      rw [seqIndex_of h0 h5] at h1
      exact Option.some.inj h1
    exact item_listR pl.isList h0 (by omega) (by rw [hj];simpa using ew) fin hs
  · have hj:(i+(its.toArray.size:Int)).toNat=j:=by
      rw [seqIndex_neg (by omega) h4] at h1
      rw [List.size_toArray,← hl]
      exact Option.some.inj h1
    exact subscriptTail_builtinR (x:=w) pl.isList.typeIs slot_list_getitem.lookup
      (wpAny_getItem_list_neg (Q:=fun r s'=>r=w∧EP X pins σ Q r s') pl.isList (by omega) (by rw [List.size_toArray]<;>omega) (by omega) (by rw [hj];simpa using ew) ⟨rfl,fin⟩) hs
theorem ix_tup:IxR X (rIxT X.K):=by
  intro value slice pins s σ H x y v u Q I rx ry h hs
  obtain ⟨p,xs,i,z,rfl,rfl,hq,he,q⟩:=h
  cases rx
  obtain ⟨t,rfl⟩:=ry
  obtain ⟨its,r,pl,hz⟩:=I.tuple hq
  obtain ⟨j,h1,h2,h3,h4,h5⟩:=atI_get he
  obtain ⟨w,ew,rw'⟩:=r.get h2
  have hl:=r.length
  have hn:=line63
  have fin:EP X pins σ Q w s:=⟨z,H,I,rw',q⟩
  exact subscriptTail_builtinR (x:=w) pl.typeIs slot_tuple_getitem.lookup
    (getItem_tuple (j:=j) (Q:=fun r s'=>r=w∧EP X pins σ Q r s') pl (by omega) (by omega) (by rw [List.size_toArray,← hl];exact h1) (by simpa using ew) ⟨rfl,fin⟩) hs
theorem slice_bounds (lo hi:Option Int) (n:Nat):(sliceBounds lo hi none n).1=((HT.sIx n 0 lo:Nat):Int)∧(sliceBounds lo hi none n).2.1=((HT.sIx n n hi:Nat):Int)∧(sliceBounds lo hi none n).2.2=1:=by
  refine ⟨?_,?_,rfl⟩
  · cases lo with
    | none=>simp [sliceBounds,HT.sIx]
    | some i=>
      simp only [sliceBounds,HT.sIx,Option.getD_none,show (1:Int)>0 by decide,if_true]
      by_cases h:i<0
      · simp only [h,if_true]<;>omega
      · simp only [h,if_false]<;>omega
  · cases hi with
    | none=>simp [sliceBounds,HT.sIx]
    | some i=>
      simp only [sliceBounds,HT.sIx,Option.getD_none,show (1:Int)>0 by decide,if_true]
      by_cases h:i<0
      · simp only [h,if_true]<;>omega
      · simp only [h,if_false]<;>omega
theorem slicePick_cut (its:List Value) (lo hi:Option Int):slicePick its.toArray lo hi none=((its.drop (HT.sIx its.length 0 lo)).take (HT.sIx its.length its.length hi-HT.sIx its.length 0 lo)).toArray:=by
  obtain ⟨h1,h2,h3⟩:=slice_bounds lo hi its.toArray.size
  unfold slicePick
  rw [h1,h2,h3]
  simp only [sliceRange_one,pick_run,List.size_toArray]<;>rfl
def rSlL (K:PySem.W.Frag):V→Option Int→Option Int→Hp→VK→Prop:=fun x lo hi H Q=>∃ a xs,x=.ref a∧SqL K H a xs∧∀ p,H p=none→Q (.ref p) (upd H p (.lst (cutV xs lo hi)))
theorem sl_list:SlR X (rSlL X.K):=by
  intro pins s σ H x v vl vu lo hi sl Q I rx hs pl pu h
  obtain ⟨a,xs,rfl,hx,q⟩:=h
  cases rx
  obtain ⟨its,r,ht,hz⟩:=I.list hx
  have hlen:=r.length
  refine ⟨"list",_,slot_list_getitem.lookup,ht.isList.typeIs,?_⟩
  refine wpAny_getItem_list_slice ht.isList hs pl pu .none (by simp) ?_ (by rw [List.size_toArray]<;>omega)
  rw [slicePick_cut,← hlen]
  refine ⟨.ref s.heap.objs.size,_,I.laid (t':=s.toks) (o:=.lst (cutV xs lo hi)) (fun b ob q=>Heap.get?_push_of_some _ q) (Nat.le_refl _) ?_,rfl,q _ (I.hok.fresh (Nat.le_refl _))⟩
  exact ⟨Nat.le_trans (cutV_length xs lo hi) hz,_,0,(r.drop (HT.sIx xs.length 0 lo)).take (HT.sIx xs.length xs.length hi-HT.sIx xs.length 0 lo),Heap.get?_push_size _ rfl⟩
theorem call_len_seq:CallR X (.builtin "len") (fun xs H Q=>∃ p ys,xs=[.ref p]∧(SqL X.K H p ys∨SqT X.K H p ys)∧Q (.int ys.length) H):=by
  intro pins s σ H xs us Q I r h
  obtain ⟨p,ys,rfl,hq,q⟩:=h
  obtain ⟨u,rfl,rx⟩:=vals1 r
  cases rx
  have hn:=line63
  rcases hq with hq | hq
  · obtain ⟨its,r',pl,hz⟩:=I.list hq
    have hlen:=r'.length
    exact Calls.call_len_list pl.isList (by simp only [List.size_toArray]<;>omega) ⟨.int ys.length,H,I.tok _,⟨s.toks+1,by rw [List.size_toArray,hlen]⟩,q⟩
  · obtain ⟨its,r',pl,hz⟩:=I.tuple hq
    have hlen:=r'.length
    exact len_tuple pl (by simp only [List.size_toArray]<;>omega) ⟨.int ys.length,H,I.tok _,⟨s.toks+1,by rw [List.size_toArray,hlen]⟩,q⟩
theorem call_list_of:CallR X (.type "list") (fun xs H Q=>∃ p ys,xs=[.ref p]∧(SqL X.K H p ys∨SqT X.K H p ys)∧∀ l,H l=none→Q (.ref l) (upd H l (.lst ys))):=by
  intro pins s σ H xs us Q I r h
  obtain ⟨p,ys,rfl,hq,q⟩:=h
  obtain ⟨u,rfl,rx⟩:=vals1 r
  cases rx
  have fin:∀ (its:List Value),Vals ys its→ys.length≤sizeLine→∀ (h':Heap) (c':Nat),(∀ b o',s.heap.get? b=some o'→h'.get? b=some o')→
      h'.get? s.heap.objs.size=some { cls:=.type "list",dict:=none,data:=.seq its.toArray c',slots:=#[] }→EP X pins σ Q (.ref s.heap.objs.size) { s with heap:=h' }:=fun its r' hz h' c' kp e=>
    ⟨.ref s.heap.objs.size,_,I.laid (t':=s.toks) kp (Nat.le_refl _) (show ObjOk X.prog X.w _ h' _ (.lst ys) from ⟨hz,its,c',r',e⟩),rfl,q _ (I.hok.fresh (Nat.le_refl _))⟩
  rcases hq with hq | hq
  · obtain ⟨its,r',pl,hz⟩:=I.list hq
    have hlen:=r'.length
    obtain ⟨o,ho,hc,n,hd⟩:=pl.isList
    exact call_list_seq p (.inl rfl) ho hc hd (fun h' c' kp e=>fin its r' hz h' c' kp e) (by simp only [List.size_toArray]<;>omega)
  · obtain ⟨its,r',pl,hz⟩:=I.tuple hq
    have hlen:=r'.length
    obtain ⟨o,ho,hc,n,hd⟩:=pl
    exact call_list_seq p (.inr rfl) ho hc hd (fun h' c' kp e=>fin its r' hz h' c' kp e) (by simp only [List.size_toArray]<;>omega)
theorem call_tuple_of:CallR X (.type "tuple") (fun xs H Q=>∃ p ys,xs=[.ref p]∧((SqL X.K H p ys∧∀ l,H l=none→Q (.ref l) (upd H l (.tup ys)))∨(SqT X.K H p ys∧Q (.ref p) H))):=by
  intro pins s σ H xs us Q I r h
  obtain ⟨p,ys,rfl,h⟩:=h
  obtain ⟨u,rfl,rx⟩:=vals1 r
  cases rx
  rcases h with ⟨hq,q⟩ | ⟨hq,q⟩
  · obtain ⟨its,r',pl,hz⟩:=I.list hq
    have hlen:=r'.length
    refine call_tuple_list pl.isList (fun h' kp=>?_) (by simp only [List.size_toArray]<;>omega)
    have I1:Inv X pins σ H { s with heap:=h' }:=I.kept (t':=s.toks) kp
    have I2:Inv X pins σ (upd H h'.objs.size (.tup ys)) { s with heap:=h'.push { cls:=.type "tuple",data:=.seq its.toArray } }:=
      I1.laid (t':=s.toks) (fun b o e=>Heap.get?_push_of_some _ e) (Nat.le_refl _) (show ObjOk X.prog X.w _ _ _ (.tup ys) from ⟨hz,its,r',IsTup.new _ _⟩)
    exact ⟨.ref h'.objs.size,_,I2,rfl,q _ (I1.hok.fresh (Nat.le_refl _))⟩
  · obtain ⟨its,r',pl,hz⟩:=I.tuple hq
    exact call_tuple_same pl ⟨.ref p,H,I,rfl,q⟩
def tyV (K:PySem.W.Frag) (T:String) (x:V) (H:Hp):Prop:=match x with
  | .str _=>T="str"
  | .int _=>T="int"
  | .ref p=>(T="list"∧∃ xs,SqL K H p xs)∨(T="tuple"∧∃ o,K.lookup p=some o∧o.cls=.type "tuple"∧o.dict=none)∨
      (T="dict"∧((∃ kvs,H p=some (.dK kvs))∨∃ kvs,H p=some (.dT kvs)))∨(T="set"∧∃ S n,H p=some (.set S n))
  | _=>False
theorem tyV_is {pins:List (Addr×Obj)} {σ:St} {H:Hp} {s:Shared} {T:String} {x:V} {v:Value} (I:Inv X pins σ H s) (r:RelV x v) (ty:tyV X.K T x H) :
    s.TypeIs v T∧∀ a,v=.ref a→∃ ob,s.heap.get? a=some ob∧ob.dict=none:=by
  cases x with
  | str z=>
    obtain ⟨t,rfl⟩:=r
    cases (show T="str" from ty)
    exact ⟨typeIs_str s z t,fun _ e=>nomatch e⟩
  | int i=>
    obtain ⟨t,rfl⟩:=r
    cases (show T="int" from ty)
    exact ⟨typeIs_int s i t,fun _ e=>nomatch e⟩
  | ref p=>
    cases r
    rcases ty with ⟨rfl,xs,hq⟩ | ⟨rfl,o,hk,hc,hd⟩ | ⟨rfl,hk⟩ | ⟨rfl,S,n,hk⟩
    · obtain ⟨its,_,pl,_⟩:=I.list hq
      refine ⟨pl.isList.typeIs,fun a e=>?_⟩
      cases e
      obtain ⟨o,n,e,c,hd,_⟩:=pl
      exact ⟨o,e,hd⟩
    · refine ⟨⟨o,I.kIn p o hk,hc⟩,fun a e=>?_⟩
      cases e
      exact ⟨o,I.kIn _ o hk,hd⟩
    · have z:∃ o,s.heap.get? p=some o∧o.ExactDict:=by
        rcases hk with ⟨kvs,hk⟩ | ⟨kvs,hk⟩
        · obtain ⟨_,_,_,_,o,_,_,e,ex,_⟩:=I.hok p _ hk
          exact ⟨o,e,ex⟩
        · obtain ⟨_,_,_,_,o,_,_,e,ex,_⟩:=I.hok p _ hk
          exact ⟨o,e,ex⟩
      obtain ⟨o,e,ex⟩:=z
      refine ⟨⟨o,e,ex.1⟩,fun a e2=>?_⟩
      cases e2
      exact ⟨o,e,ex.2.1⟩
    · obtain ⟨o,_,_,_,e,ex,_⟩:=I.hok p _ hk
      refine ⟨⟨o,e,ex.1⟩,fun a e2=>?_⟩
      cases e2
      exact ⟨o,e,ex.2.1⟩
  | _=>exact False.elim ty
def tBM (K:PySem.W.Frag) (T:String) (r:V→List V→Hp→VK→Prop) (to:TE) (t:TA):TE:=fun σ H Q=>to σ H fun x H1=>tyV K T x H1∧t σ H1 fun xs H2=>r x xs H2 Q
variable {o e:Expr} {es:List Expr} {to:TE} {t:TA} {name:Str} {apos cpos:Pos} {T id:String} {r:V→List V→Hp→VK→Prop}
theorem pe_bm (pa:PlainAttrs T) (slot:Slot T name id) (hty:typeOf (.builtin id)=pure (.type "method_descriptor")) (hm:MtR X id r) (ho:PE X o to) (ha:PA X (e::es) t)
    (hbase:attributeBase o name X.env (eval o X.env)=eval o X.env:=by rfl)
    (hfew:((backTo cpos (starEach (e::es) X.env)).all (fun x=>!x.1)&&(backToKw cpos (keywordEach [] X.env)).all (fun x=>x.1.isSome)
      && decide ((e::es).length+([]:List Keyword).length+(if ([]:List Keyword).isEmpty then 0 else 1)<30))=true:=by rfl)
    (hline:(apos.endLine==cpos.line)=true:=by rfl) (hs:starEach (e::es) X.env=(false,eval e X.env)::starEach es X.env:=by rfl) (hplain:(backTo cpos (starEach es X.env)).any (·.1)=false:=by rfl) :
    PE X (.Call (.Attribute o name apos) (e::es) [] cpos) (tBM X.K T r to t):=by
  intro pins s σ H Q I h
  refine wpAny_Call_method_late hbase hfew hline rfl (thn (ho pins s σ H _ I h) fun v s1 ⟨x,H1,I1,r1,ty,q1⟩=>?_)
  obtain ⟨h1,h2⟩:=tyV_is I1 r1 ty
  refine ⟨T,id,pa,slot,hty,h1,h2,?_⟩
  have hA:=ha cpos pins s1 σ H1 _ I1 q1
  rw [hs] at hA ⊢
  refine Calls.callWith_builtin (by show (false||(backTo cpos (starEach es X.env)).any (·.1))=false;rw [hplain]<;>rfl) (Calls.evalArgs_plain ?_)
  exact thn hA fun us s2 ⟨vs,H2,I2,r2,q2⟩=>hm pins s2 σ H2 x vs v us Q I2 r1 r2 q2
/- xs.append(e),list.index on a module's tuple .. are MtR facts of 06m -/
end
end L2
namespace L2
open PySem PySem.Spec PyProof.Rows
def MtM (X:Cx) (id:String) (r:V→List V→Hp→VK→Prop):Prop:=
  ∀ (pins:List (Addr×Obj)) (s:Shared) (σ:St) (H:Hp) (x:V) (xs:List V) (v:Value) (us:List Value) (Q:VK),Inv X pins σ H s→RelV x v→Vals xs us→r x xs H Q→
    wpAny (model X.prog X.w) X.A (call (.builtin id) (v::us)) (EP X pins σ Q) X.xe s
theorem Vals.one:∀ {x:V} {us:List Value},Vals [x] us→∃ u,us=[u]∧RelV x u
  | _,_,.cons r .nil=>⟨_,rfl,r⟩
theorem Vals.two:∀ {x y:V} {us:List Value},Vals [x,y] us→∃ u v,us=[u,v]∧RelV x u∧RelV y v
  | _,_,_,.cons r (.cons q .nil)=>⟨_,_,rfl,r,q⟩
section
variable {X:Cx} {pins:List (Addr×Obj)} {σ:St} {H:Hp} {s:Shared} {l b:Addr} {xs ys zs:List V}
theorem Inv.lset {its its':List Value} {n:Nat} {f:Array Value→Array Value} {t':Nat} (I:Inv X pins σ H s) (hH:H l=some (.lst xs))
    (e:s.heap.get? l=some { cls:=.type "list",data:=.seq its.toArray n }) (hf:f its.toArray=its'.toArray) (hv:Vals ys its') (hz:ys.length≤sizeLine) :
    Inv X pins σ (upd H l (.lst ys)) { s with heap:=s.heap.update l (Obj.mapSeq f),toks:=t' }:=by
  have q:=PySem.IsL.update e f
  rw [hf] at q
  refine I.write (x:=l) (e:=l) (by rw [hH];exact trivial) (.inl rfl) (fun b' u hb hu=>(Heap.get?_update_other s.heap (Obj.mapSeq f) (Ne.symm hb)).trans hu) ⟨_,q⟩ ?_
  exact ⟨hz,its',_,hv,q⟩
theorem Inv.lnew {its:List Value} {t':Nat} (I:Inv X pins σ H s) (hv:Vals ys its) (hz:ys.length≤sizeLine) :
    Inv X pins σ (upd H s.heap.objs.size (.lst ys)) { s with heap:=s.heap.push { cls:=.type "list",data:=.seq its.toArray },toks:=t' }:=
  I.laid (fun _ _ q=>Heap.get?_push_of_some _ q) (Nat.le_refl _) ⟨hz,its,0,hv,Heap.get?_push_size _ rfl⟩
theorem Inv.fresh (I:Inv X pins σ H s):H s.heap.objs.size=none:=I.hok.fresh (Nat.le_refl _)
theorem Inv.lstM (I:Inv X pins σ H s) (hH:H l=some (.lst xs)):xs.length≤sizeLine∧∃ (its:List Value) (n:Nat),Vals xs its∧xs.length=its.length∧s.heap.get? l=some { cls:=.type "list",data:=.seq its.toArray n }:=by
  obtain ⟨z,its,n,r,e⟩:=I.hok l _ hH
  exact ⟨z,its,n,r,r.length,e⟩
theorem notLongL {n:Nat} (h:n≤sizeLine):Builtin.List.listTooLong n=false:=by
  unfold Builtin.List.listTooLong
  exact decide_eq_false (by omega)
end
section
variable {X:Cx}
def rAppend:V→List V→Hp→VK→Prop:=fun x vs H Q=>∃ l xs y,x=.ref l∧vs=[y]∧H l=some (.lst xs)∧xs.length<sizeLine∧Q .non (upd H l (.lst (xs++[y])))
theorem mt_append:MtM X "list.append" rAppend:=by
  intro pins s σ H x vs v us Q I rx rv h
  obtain ⟨l,xs,y,rfl,rfl,hH,hz,q⟩:=h
  cases rx
  obtain ⟨u,rfl,ru⟩:=rv.one
  obtain ⟨z,its,n,r,hl,e⟩:=I.lstM hH
  refine call_meets F.slot_list_append ⟨_,e,rfl⟩ F.entry_list_append (F.args_list_append_2 _ _) (PySem.list_append l its.toArray n u (by rw [List.size_toArray];omega)) ⟨e,?_⟩
  refine ⟨.non,_,I.lset (its':=its++[u]) hH e (by simp) (r.append (.cons ru .nil)) ?_,rfl,q⟩
  rw [List.length_append,List.length_singleton]
  omega
def rCat:R2:=fun x y H Q=>∃ l b xs zs,x=.ref l∧y=.ref b∧H l=some (.lst xs)∧H b=some (.lst zs)∧xs.length+zs.length≤sizeLine∧∀ p,H p=none→Q (.ref p) (upd H p (.lst (xs++zs)))
theorem op_cat:OpR X (binaryOp .Add) rCat:=by
  intro pins s σ H x y v u Q I rx ry h
  obtain ⟨l,b,xs,zs,rfl,rfl,hH,hB,hz,q⟩:=h
  cases rx
  cases ry
  obtain ⟨z,its,n,r,hl,e⟩:=I.lstM hH
  obtain ⟨z2,its2,n2,r2,hl2,e2⟩:=I.lstM hB
  refine PySem.P.add_list e e2 ?_ (by rw [List.size_toArray,List.size_toArray];omega)
  have ea:its.toArray++its2.toArray=(its++its2).toArray:=by simp
  rw [ea]
  exact ⟨.ref _,_,I.lnew (t':=s.toks) (r.append r2) (by rw [List.length_append];omega),rfl,q _ I.fresh⟩
end
section
variable {prog:Program} {w:World} {A:Around} {E:Value→Shared→Prop} {s:Shared}
end
section
variable {X:Cx}
end
end L2
namespace Att
open PySem PySem.W PySem.Calls PyProof.Rows
theorem ints_of_wellAll {P:Params} {h:Heap}:∀ (ns:List Int) (vs:List Value),WellAll P h vs (ns.map WData.int)→IntsAre vs ns:=by
  intro ns
  induction ns with
  | nil=>
    intro vs w
    rw [List.map_nil] at w
    cases w
    exact .nil
  | cons n ns ih=>
    intro vs w
    rw [List.map_cons] at w
    cases w with
    | cons a b=>
      cases a
      exact .cons _ _ (ih _ b)
theorem script_of {l:OpenLaw} {n:Nat} (hn:l.most=some n) {P:Params} {h:Heap} {args:List WData} {vals:List Value}
    (hpre:l.row.toRowW.claim.pre args=true) (hwl:WellAll P h vals args) :
    ∃ a vs ns,vals=[Value.ref a]∧args=[WData.list (ns.map WData.int)]∧h.get? a=some { cls:=.type "list",data:=.seq vs.toArray }∧IntsAre vs ns∧ns.length≤n:=by
  have hsh:WShape.hasAll [] args [.list .int]=true:=(pre_splitW hpre).1
  have hc:l.pre.holds [] { args:=args }=true:=(pre_splitW hpre).2
  obtain ⟨d,r,rfl,h1,h2⟩:=hasAllW_cons hsh
  obtain rfl:=hasAllW_nil h2
  obtain ⟨xs,rfl,h3⟩:=hasW_list h1
  obtain ⟨ns,rfl⟩:=items_int h3
  have hlen:ns.length≤n:=by
    unfold OpenLaw.pre at hc
    have h4:(WTm.not (.lt (.lit (.int (n:Int))) (.len (.arg 0)))).holds [] { args:=[.list (ns.map .int)] }=true:=by
      have h4:=(holds_andW hc).1
      rw [hn] at h4
      exact h4
    have h5:=condW_of h4 (w_not (w_lt w_lit (w_len_list (w_arg rfl))))
    rw [List.length_map] at h5
    refine Nat.le_of_not_lt fun q=>?_
    have q':(n:Int)<((ns.length:Nat):Int):=by omega
    first
      | (rw [decide_eq_true q'] at h5;exact absurd h5 (by decide))
      | (simp at h5;omega)
  cases hwl with
  | cons w1 w2=>
    cases w2
    cases w1 with
    | list ho hall=>exact ⟨_,_,ns,rfl,rfl,ho,ints_of_wellAll ns _ hall,hlen⟩
theorem post_true (l:OpenLaw) (args:List WData):l.row.toRowW.claim.post args (.bool true) args=true:=
  postW_of (r:=l.row.toRowW) (X:=(true==true))
    (show WShape.has [] (.bool true) .bool=true by first | rfl | decide | simp [WShape.has,WShape.arms,WShape.armsAll])
    (show (WTm.eq .res (.lit (.bool true))).value [] { args:=args,res:=some (.bool true),after:=args }=some (.bool (true==true)) from w_eq_bool (w_res rfl) w_lit) rfl
theorem attach_call {l:OpenLaw} {n:Nat} {q:Program} {loose:List Str} {XP:(Str→Option Value)→Heap→Prop} {YP:World→Heap→Prop} {d:DefRec}
    (hn:l.most=some n) (hdf:d.params.defaults=[])
    (call:∀ (w:World) (s₀ s₁:Shared) (mg mb:Str→Option Value) (fa:Addr) (o:Obj) (pm cd doc:Value) (a:Addr) (vs:List Value) (ns:List Int),
      Ground q loose [] XP w s₀ mg mb s₁.heap→YP w s₁.heap→
      s₁.heap.get? fa=some o→o.data=.func (docDef d.name d.params d.body d.scope pm cd doc)→s₁.heap.CodeRec cd d.name→mg d.name=some (.ref fa)→
      s₁.heap.get? a=some { cls:=.type "list",data:=.seq vs.toArray }→IntsAre vs ns→ns.length≤n→s₁.gens=#[]→
      codeAny (model l.prog w) callerA (.call (.ref fa) ⟨[.ref a],[]⟩) (fun r s'=>r=.ok (.ret (.bool true))∧OldK s₁.heap s'.heap∧s'.os=s₁.os∧AllBare s'.gens) s₁) :
    WalkO q loose XP YP l.row.toRowW d [] (fun f vs=>PySem.call f vs):=by
  intro w s₀ s₁ mg mb G Y fa o pm cd doc dV kV ho hd hcd hD hmg hg args vals as hpre hlay hrd hwl hlo
  obtain rfl:dV=.none:=Dflts.none hD hdf
  obtain rfl:kV=.none:=Dflts.noKw hD
  obtain ⟨a,vs,ns,rfl,rfl,hobj,hints,hlen⟩:=script_of hn hpre hwl
  refine enter_call (codeAny_mono (call w s₀ s₁ mg mb fa o pm cd doc a vs ns G Y ho (fd_plain hd) hcd hmg hobj hints hlen hg) fun r s' hq=>?_)
  obtain ⟨rfl,h2,h3,h4⟩:=hq
  exact ⟨.inl ⟨.bool true,.bool true,[],rfl,fun _=>rfl,.bool true,post_true l _,fun _=>⟨List.Pairwise.nil,fun _ hm=>(nomatch hm)⟩⟩,h2,h3,h4⟩
section
variable {prog:Program} {w:World} {A:Around} {E:Value→Shared→Prop} {s:Shared} {K:Frag}
end
end Att
namespace L2
open PySem PySem.Spec PyProof.Rows
theorem vals_ints:∀ {vs:List Value} {ns:List Int},IntsAre vs ns→Vals (ns.map V.int) vs
  | _,_,.nil=>.nil
  | _,_,.cons n t h=>.cons ⟨t,rfl⟩ (vals_ints h)
def Only (H:Hp):Prop:=∀ b,H b=none∨∃ o xs,H b=some (.frz o (.lst xs))
theorem law_call {P:Program} {w:World} {K:PySem.W.Frag} {mg mb:Str→Option Value} {CX:CXT} {k:Nat} {fa a:Addr} {fd:FuncData} {x:Str} {sp:Sp} {s₁:Shared} {vs:List Value} {ns:List Int}
    (KX:K.In s₁.heap) (hns:s₁.heap.Ns mainGlobals mg) (hb:s₁.heap.Ns builtinsNs mb) (hbb:∀ x:Str,x≠"__name__"→mb x=bootBuiltins x) (hlim:s₁.heap.NoLimit) (hg:s₁.gens=#[])
    (ha:s₁.heap.get? a=some { cls:=.type "list",data:=.seq vs.toArray }) (hi:IntsAre vs ns) (hl:ns.length≤sizeLine) (hr:Room k callerA)
    (F:∀ base:Heap,K.In base→base.Ns mainGlobals mg→FnOk P w K mg base CX k fa fd [x] sp) (hbind:∀ (s:Shared) (u:Value),BindsTo s fd ⟨[u],[]⟩ [(x,u)])
    (hsp:∀ H:Hp,Only H→SqL K H a (ns.map V.int)→sp [.ref a] H (fun v _=>v=.bl true) fun _ _ _=>False)
    (hCX:∀ H e s',CX [] H s₁ (fun _ _ _=>False) e s'→False) :
    codeAny (model P w) callerA (.call (.ref fa) ⟨[.ref a],[]⟩) (fun r s'=>r=.ok (.ret (.bool true))∧OldK s₁.heap s'.heap∧s'.os=s₁.os∧AllBare s'.gens) s₁:=by
  have rv:=vals_ints hi
  have lenV:=hi.length
  have core:∀ H:Hp,Only H→SqL K H a (ns.map V.int)→HOk P w H s₁.heap→(∀ b,H b≠none→b=a)→(H a≠none→K.lookup a=none)→
      codeAny (model P w) callerA (.call (.ref fa) ⟨[.ref a],[]⟩) (fun r s'=>r=.ok (.ret (.bool true))∧OldK s₁.heap s'.heap∧s'.os=s₁.os∧AllBare s'.gens) s₁:=by
    intro H hO hS hok hA hK
    have base_of:∀ {b:Addr} {o:Obj},s₁.heap.get? b=some o→H b=none→(hidT s₁.heap H).get? b=some o:=fun e n=>hidT_get e n
    have noA:∀ {b:Addr} {o:Obj} {es:Array DictEntry} {ep:Nat},s₁.heap.get? b=some o→o.data=.dict es ep→H b=none:=fun {b o es ep} e d=>by
      cases q:H b with
      | none=>rfl
      | some u=>
        have e':b=a:=hA b (by rw [q];simp)
        subst e'
        rw [ha] at e;cases e
        have d':Data.seq vs.toArray _=Data.dict es ep:=d
        cases d'
    have nsK:∀ {b:Addr} {m:Str→Option Value},s₁.heap.Ns b m→(hidT s₁.heap H).Ns b m:=fun {b m} ⟨o,es,ep,e,d,r⟩=>⟨o,es,ep,base_of e (noA e d),d,r⟩
    have hKb:K.In (hidT s₁.heap H):=fun b o e=>base_of (KX b o e) (by
      cases q:H b with
      | none=>rfl
      | some u=>
        have e':b=a:=hA b (by rw [q];simp)
        subst e'
        rw [hK (by rw [q];simp)] at e;cases e)
    have hM:Mod K mg (hidT s₁.heap H):=⟨hKb,nsK hns,⟨mb,nsK hb,hbb⟩,let ⟨mc,h1,h2⟩:=hlim;⟨mc,nsK h1,h2⟩⟩
    have e0:Env0 P w K mg (hidT s₁.heap H) callerA [] s₁ H:=⟨rfl,hM,fun b o e=>of_hidT e,Nat.le_of_eq (hidT_size _ _),trivial,fun b hb=>absurd (show b∈([]:List Addr) from hb) (by simp),hok,.of_eq hg⟩
    refine codeAny_mono ((F _ hKb (nsK hns)).run callerA [] s₁ H ⟨[.ref a],[]⟩ [.ref a] [.ref a] _ _ hr e0 (hbind s₁ (.ref a)) (.cons rfl .nil) (hsp H hO hS)) fun r s' h=>?_
    cases r with
    | error e=>exact (hCX H e s' h).elim
    | ok fl=>
      cases fl with
      | next=>exact False.elim h
      | brk=>exact False.elim h
      | cont=>exact False.elim h
      | ret u=>
        obtain ⟨v,H',os,bare,un,hok',r',q⟩:=h
        have q':v=.bl true:=q
        subst q'
        obtain rfl:u=Value.bool true:=r'
        refine ⟨rfl,OldK.of_keep fun b o e=>?_,os,bare⟩
        cases q:H b with
        | none=>exact un.keep b o e q (by intro z;exact absurd (show b∈([]:List Addr) from z) (by simp)) (by simp)
        | some u=>
          rcases hO b with z | ⟨ob,xs,z⟩
          · rw [q] at z;cases z
          · have z2:=un.frzs b ob _ z
            obtain ⟨e1,_⟩:=hok b _ z
            obtain ⟨e2,_⟩:=hok' b _ z2
            rw [e] at e1;cases e1
            exact e2
  cases hk:K.lookup a with
  | some o=>
    have e:=KX a o hk
    rw [ha] at e
    cases e
    refine core (fun _=>none) (fun _=>.inl rfl) (.inr ⟨_,vs.toArray,_,hk,rfl,rfl,rfl,by rw [List.size_toArray,lenV];exact hl,by simpa using rv⟩) (fun b u z=>by have z':(none:Option HO)=some u:=z;cases z') (fun b z=>absurd rfl z) fun z=>absurd rfl z
  | none=>
    refine core (fun b=>if b=a then some (.frz { cls:=.type "list",data:=.seq vs.toArray } (.lst (ns.map V.int))) else none) (fun b=>?_) (.inl (.inr ⟨{ cls:=.type "list",data:=.seq vs.toArray },if_pos rfl⟩)) (fun b u z=>?_) (fun b z=>?_) fun _=>hk
    · by_cases hb:b=a
      · exact .inr ⟨_,_,if_pos hb⟩
      · exact .inl (if_neg hb)
    · by_cases hb:b=a
      · have z':=(if_pos hb).symm.trans z
        cases z'
        subst hb
        exact ⟨ha,by rw [List.length_map];exact hl,vs,_,rv,ha⟩
      · have z':=(if_neg hb).symm.trans z
        cases z'
    · by_cases hb:b=a
      · exact hb
      · exact absurd (if_neg hb) z
end L2
namespace L2
open PySem PySem.Spec PyProof.Rows
theorem walk_of {l:PySem.W.OpenLaw} {n k:Nat} {q:Program} {loose:List Str} {XP:(Str→Option Value)→Heap→Prop} {YP:World→Heap→Prop} {d:DefRec} {K:Params→PySem.W.Frag} {CX:World→CXT} {sp:World→Sp} {x:Str}
    (hn:l.most=some n) (hn2:n≤sizeLine) (hdf:d.params.defaults=[]) (hr:Room k callerA)
    (hY:∀ (w:World) (h:Heap),YP w h→(K w.params).In h)
    (F:∀ (w:World) (mg:Str→Option Value) (fa:Addr) (h:Heap),(K w.params).In h→h.Ns mainGlobals mg→mg d.name=some (.ref fa)→
      ∃ fd:FuncData,(∀ (s:Shared) (u:Value),BindsTo s fd ⟨[u],[]⟩ [(x,u)])∧
        ∀ base:Heap,(K w.params).In base→base.Ns mainGlobals mg→FnOk l.prog w (K w.params) mg base (CX w) k fa fd [x] (sp w))
    (hsp:∀ (w:World) (H:Hp) (a:Addr) (ns:List Int),ns.length≤n→Only H→SqL (K w.params) H a (ns.map V.int)→sp w [.ref a] H (fun v _=>v=.bl true) fun _ _ _=>False)
    (hCX:∀ (w:World) (H:Hp) (s:Shared) (e:Value) (s':Shared),CX w [] H s (fun _ _ _=>False) e s'→False) :
    PySem.W.WalkO q loose XP YP l.row.toRowW d [] (fun f vs=>PySem.call f vs):=by
  refine Att.attach_call hn hdf fun w s₀ s₁ mg mb fa o pm cd doc a vs ns G Y ho hd hcd hmg hobj hints hlen hg=>?_
  have KX:=hY w _ Y
  obtain ⟨fd,hb,hF⟩:=F w mg fa _ KX G.T.g hmg
  exact law_call KX G.T.g G.T.b G.T.builtins G.T.nolimit hg hobj hints (Nat.le_trans hlen hn2) hr hF hb (fun H hO hS=>hsp w H a ns hlen hO hS) fun H e s'=>hCX w H s₁ e s'
end L2
/- THE LAST THEOREM (shape;LID,My.* are yours):
   My.Adr: a structure of the addresses that your layer names (classes,functions);My.Txt K t: a structure (Prop) of the equations over K;
   My.txt_mk:{K} {implicit addresses ..} (e1:nsIn K mainGlobals "law"=some (some (.ref f))) (e2:K.lookup f=some ⟨oc,od,.func (fnOf "law" "law" params body scope dV kV doc pm an cdv ct),sl⟩) (e3:codeIn K cdv "law"=true) ..:∃ t,My.Txt K t
(the tactic k_is has no namespace: write k_is) -/
namespace L2
open PySem PySem.Spec PyProof.Rows
def defArgs (s:Stmt):Arguments:=match s with
  | .FunctionDef _ a _ _ _ _ _ _ _ _=>a
  | _=>{ posonlyargs:=[],args:=[],vararg:=none,kwonlyargs:=[],kw_defaults:=[],kwarg:=none,defaults:=[] }
def defBody (s:Stmt):List Stmt:=match s with
  | .FunctionDef _ _ b _ _ _ _ _ _ _=>b
  | _=>[]
def defScope (s:Stmt):Scope:=match s with
  | .FunctionDef _ _ _ _ _ _ sc _ _ _=>sc
  | _=>{ kind:=.function,names:=[],isGenerator:=false,isCoroutine:=false }
abbrev CX0:CXT:=fun _ _ _ _ _ _=>False
abbrev E0:XK:=fun _ _ _=>False
theorem pass0 {X:Cx}:Passes CX0 X E0:=fun _ _ _ _ _ _ _ h=>h.elim
structure Fun (K:PySem.W.Frag) (x qual:Str) (st:Stmt) (f:Addr) (fd:FuncData):Prop where
  ex:∃ (oc:Value) (od:Option Addr) (kV doc pm:Value) (an:Option Addr) (cdv ct:Value) (osl:Array (Option Value)),
    fd=PySem.W.fnOf x qual (defArgs st) (defBody st) (defScope st) .none kV doc pm an cdv ct∧K.lookup f=some ⟨oc,od,.func fd,osl⟩∧PySem.W.codeIn K cdv qual=true
  kp:PySem.W.keepIn K (.ref f)=true
section
variable {P:Program} {w:World} {K:PySem.W.Frag} {mg:Str→Option Value} {base:Heap}
theorem Fun.ok {x qual:Str} {st:Stmt} {f:Addr} {fd:FuncData} {N ps:List Str} {k:Nat} {sp:Sp} (F:Fun K x qual st f fd) (S:FnScope N ps (defScope st)) (len:∀ vs H Q E,sp vs H Q E→vs.length=ps.length)
    (hbody:∀ (cdv:Value) (A:Around) (outer:List Env) (s:Shared) (H:Hp) (vs:List V) (Q:VK) (E:XK),Room k (A.deeper (envOfC qual (defScope st) s.heap.objs.size f cdv))→sp vs H Q E→
      ∃ t,PSs (cxOf CX0 P w K mg base N qual (defScope st) f cdv A outer s H E).nox (defBody st) t∧t { nx:=fun _ H'=>Q .non H',rt:=Q } (start N vs) H):FnOk P w K mg base CX0 (k+1) f fd ps sp:=by
  obtain ⟨oc,od,kV,doc,pm,an,cdv,ct,osl,rfl,lk,hcd⟩:=F.ex
  refine fn_of lk hcd S len fun A outer s H vs Q E hr hsp=>?_
  obtain ⟨t,h,q⟩:=hbody cdv A outer s H vs Q E hr hsp
  exact ⟨t,h.nox,q⟩
theorem Fun.binds {x qual:Str} {st:Stmt} {f:Addr} {fd:FuncData} {ps:List Str} (F:Fun K x qual st f fd)
    (h:∀ (kV doc pm:Value) (an:Option Addr) (cdv ct:Value) (us:List Value),us.length=ps.length→bindArgs (PySem.W.fnOf x qual (defArgs st) (defBody st) (defScope st) .none kV doc pm an cdv ct) ⟨us,[]⟩=pure (ps.zip us)):Binds K fd ps []:=by
  obtain ⟨oc,od,kV,doc,pm,an,cdv,ct,osl,rfl,lk,hcd⟩:=F.ex
  exact .all (h kV doc pm an cdv ct)
theorem fun_mk {x qual:Str} {st:Stmt} {f:Addr} {oc:Value} {od an:Option Addr} {osl:Array (Option Value)} {kV doc pm cdv ct:Value} (l:K.lookup f=some ⟨oc,od,.func (PySem.W.fnOf x qual (defArgs st) (defBody st) (defScope st) .none kV doc pm an cdv ct),osl⟩)
    (c:PySem.W.codeIn K cdv qual=true) (k:PySem.W.keepIn K (.ref f)=true):Fun K x qual st f (PySem.W.fnOf x qual (defArgs st) (defBody st) (defScope st) .none kV doc pm an cdv ct):=⟨⟨oc,od,kV,doc,pm,an,cdv,ct,osl,rfl,l,c⟩,k⟩
end
theorem hu_of {A:Around} {k:Nat} (hr:Room k A):A.units+1<cLine:=Nat.lt_of_le_of_lt (Nat.add_le_add_left (by decide:1≤64) _) hr.units
theorem small1000 {n:Nat} (h:n≤1000):n<sizeLine:=Nat.lt_of_le_of_lt h (by decide)
section
variable {X:Cx}
end
theorem iteF {A B:Prop} (h:B):if false=true then A else B:=by
  rw [if_neg Bool.false_ne_true]
  exact h
theorem iteT {A B:Prop} (h:A):if true=true then A else B:=by
  rw [if_pos rfl]
  exact h
def Same (H H':Hp):Prop:=∀ b o,H b=some o→H' b=some o
theorem Same.refl (H:Hp):Same H H:=fun _ _ h=>h
theorem Same.trans {H H1 H2:Hp} (a:Same H H1) (b:Same H1 H2):Same H H2:=fun c o h=>b c o (a c o h)
theorem Same.free {H H':Hp} (e:Same H H') {l:Addr} (h:H' l=Option.none):H l=Option.none:=by
  cases q:H l with
  | none=>rfl
  | some o=>
    rw [e l o q] at h
    cases h
theorem Same.seq {K:PySem.W.Frag} {H H':Hp} {a:Addr} {xs:List V} (e:Same H H') (h:SqL K H a xs):SqL K H' a xs:=by
  rcases h with (h | ⟨o,h⟩) | h
  · exact .inl (.inl (e _ _ h))
  · exact .inl (.inr ⟨o,e _ _ h⟩)
  · exact .inr h
end L2
namespace L2
open PySem PySem.Spec PyProof.Rows
section
variable {κ:Type} [DecidableEq κ]
end
theorem kV_is {P:Program} {w:World} {k:Key} {u:Value} (r:RelV (kV k) u):(mixKind P w).is k u=true:=by
  cases k with
  | inl i=>obtain ⟨t,e⟩:=(show ∃ t,u=Value.int i t from r);subst e;exact mixKind_int P w i t
  | inr x=>obtain ⟨t,e⟩:=(show ∃ t,u=Value.str x t from r);subst e;exact mixKind_str P w x t
theorem items_are {P:Program} {w:World}:∀ {ks:List Key} {us:List Value},Vals (ks.map kV) us→ItemsAre (mixKind P w) ks us
  | [],_,r=>by rw [List.map_nil] at r;cases r;exact .nil
  | k::ks,_,r=>by
    rw [List.map_cons] at r
    cases r with
    | cons h t=>exact .cons (kV_is h) (items_are t)
section
variable {P:Program} {w:World} {H:Hp} {h:Heap} {a:Addr}
end
section
variable {X:Cx} {pins:List (Addr×Obj)} {σ:St} {H:Hp} {s:Shared} {a:Addr} {y v:V} {u r:Value} {o:Option V} {A:Around} {E:Value→Shared→Prop}
theorem Inv.big (I:Inv X pins σ H s):sysModules<s.heap.objs.size:=by
  have h:mainGlobals<s.heap.objs.size:=(I.mod.glob.keeps I.bk).lt
  exact Nat.lt_trans (by decide) h
end
section
variable {X:Cx} {pins:List (Addr×Obj)} {σ:St} {H:Hp} {s:Shared} {a:Addr} {kvs:List (Key×V)} {k:Key} {u:Value} {A:Around} {E:Value→Shared→Prop}
end
section
variable {X:Cx} {o i e value:Expr} {pos pos' tpos:Pos} {td ty tv:TE}
end
section
variable {X:Cx} {pos:Pos}
end
structure M1 (X:Cx) (o:Expr) (m:Str) (apos:Pos) (e:Expr) (cpos:Pos):Prop where
  base:attributeBase o m X.env (eval o X.env)=eval o X.env
  few:((backTo cpos (starEach [e] X.env)).all (fun x=>!x.1)&&(backToKw cpos (keywordEach [] X.env)).all (fun x=>x.1.isSome)
    && decide (([e]:List Expr).length+([]:List Keyword).length+(if ([]:List Keyword).isEmpty then 0 else 1)<30))=true
  line:(apos.endLine==cpos.line)=true
  trees:backTo cpos (starEach [e] X.env)=[(false,eval e X.env)]
structure M2 (X:Cx) (o:Expr) (m:Str) (apos:Pos) (e f:Expr) (cpos:Pos):Prop where
  base:attributeBase o m X.env (eval o X.env)=eval o X.env
  few:((backTo cpos (starEach [e,f] X.env)).all (fun x=>!x.1)&&(backToKw cpos (keywordEach [] X.env)).all (fun x=>x.1.isSome)
    && decide (([e,f]:List Expr).length+([]:List Keyword).length+(if ([]:List Keyword).isEmpty then 0 else 1)<30))=true
  line:(apos.endLine==cpos.line)=true
  trees:backTo cpos (starEach [e,f] X.env)=[(false,eval e X.env),(false,eval f X.env)]
section
variable {X:Cx} {pins:List (Addr×Obj)} {σ:St} {H:Hp} {s:Shared} {a:Addr} {y d:V} {u r:Value} {o:Option V} {A:Around} {E:Value→Shared→Prop}
end
section
variable {X:Cx} {o e f:Expr} {apos cpos:Pos} {td ty tx:TE}
end
section
variable {X:Cx} {pins:List (Addr×Obj)} {σ:St} {H:Hp} {s:Shared} {a:Addr} {kvs:List (Key×V)} {A:Around} {E:Value→Shared→Prop}
end
section
variable {X:Cx} {pins:List (Addr×Obj)} {σ:St} {H:Hp} {s:Shared} {a:Addr} {y:V} {u:Value} {A:Around} {E:Value→Shared→Prop}
end
end L2
namespace St
open PySem L2
section
variable {prog:Program} {w:World} {A:Around} {E:Value→Shared→Prop} {s:Shared} {R:Result→Shared→Prop}
end
end St
namespace St
open PySem L2
section
variable {prog:Program} {w:World} {A:Around} {E:Value→Shared→Prop} {s:Shared} {R:Result→Shared→Prop}
section
variable {K:Type} [DecidableEq K] {knd:HeapKind prog w K}
end
end
end St
namespace Mi
open PySem PySem.Spec PyProof.Rows L2
inductive D where
  | non | bl (b:Bool) | int (i:Int) | str (x:Str) | tup (ds:List D) | lst (ds:List D) | dct (ks:List (Int×Int))
    | st (ps:List (Int×Int)) | ln (n:Nat)
  deriving Inhabited
def kk (p:Int×Int):List Key:=[.inl p.1,.inl p.2]
abbrev Fg:=PySem.W.Frag
def entI (x:(Int×Int)×Addr):Int×Value:=(reduceHash (Builtin.Tuple.tupleHashOf [hashInt x.1.1,hashInt x.1.2]),.ref x.2)
def SetP (a:Addr) (ps:List (Int×Int)) (bs:List Addr) (h:Heap):Prop:=
  ∃ o es ep t,h.get? a=some o∧o.ExactSet∧o.data=.set es ep t∧es.toList.Perm ((ps.zip bs).map entI)∧St.Ok t (es.toList.map (·.1))∧t.mask∈St.masks∧t.place.size*5<t.mask*3∧ps.Nodup
def entD (x:(Int×Int)×Addr):DictEntry:=⟨reduceHash (Builtin.Tuple.tupleHashOf [hashInt x.1.1,hashInt x.1.2]),.ref x.2,.bool true⟩
def DicP (a:Addr) (ps:List (Int×Int)) (bs:List Addr) (h:Heap):Prop:=
  ∃ o es ep,h.get? a=some o∧o.ExactDict∧o.data=.dict es ep∧es.toList=(ps.zip bs).map entD∧ps.Nodup∧(a==sysModules)=false∧ps.length≤16000000
def PrAt (K:Fg) (H:Hp) (ps:List (Int×Int)) (bs:List Addr):Prop:=bs.length=ps.length∧∀ (i:Nat) p b,ps[i]?=some p→bs[i]?=some b→SqT K H b [.int p.1,.int p.2]
def DcAt (K:Fg) (Z H:Hp) (a:Addr) (ks:List (Int×Int)):Prop:=∃ bs,H a=some (.ext (DicP a ks bs))∧PrAt K Z ks bs
def LenP (a:Addr) (n:Nat) (h:Heap):Prop:=∃ o es ep,h.get? a=some o∧o.ExactDict∧o.data=.dict es ep∧es.size=n∧(a==sysModules)=false
mutual
def Rep (K:Fg) (H:Hp):D→V→Prop
  | .non,v=>v=.non
  | .bl b,v=>v=.bl b
  | .int i,v=>v=.int i
  | .str x,v=>v=.str x∧PyData.strOk x=true
  | .tup ds,v=>∃ a vs,v=.ref a∧SqT K H a vs∧Reps K H ds vs
  | .lst ds,v=>∃ a vs,v=.ref a∧SqL K H a vs∧Reps K H ds vs
  | .dct ks,v=>∃ a,v=.ref a∧DcAt K H H a ks
  | .st ps,v=>∃ a bs,v=.ref a∧bs.length=ps.length∧H a=some (.ext (SetP a ps bs))∧∀ (i:Nat) p b,ps[i]?=some p→bs[i]?=some b→SqT K H b [.int p.1,.int p.2]
  | .ln n,v=>∃ a,v=.ref a∧H a=some (.ext (LenP a n))
def Reps (K:Fg) (H:Hp):List D→List V→Prop
  | [],vs=>vs=[]
  | d::ds,vs=>∃ v r,vs=v::r∧Rep K H d v∧Reps K H ds r
end
theorem sameT {K:Fg} {H H':Hp} {a:Addr} {xs:List V} (e:Same H H') (h:SqT K H a xs):SqT K H' a xs:=by
  rcases h with (h | ⟨o,h⟩) | h
  · exact .inl (.inl (e _ _ h))
  · exact .inl (.inr ⟨o,e _ _ h⟩)
  · exact .inr h
theorem PrAt.mono {K:Fg} {H H':Hp} (s:Same H H') {ps:List (Int×Int)} {bs:List Addr} (h:PrAt K H ps bs):PrAt K H' ps bs:=⟨h.1,fun i p b h1 h2=>sameT s (h.2 i p b h1 h2)⟩
theorem DcAt.mono {K:Fg} {Z Z' H H':Hp} (z:Same Z Z') (s:Same H H') {a:Addr} {ks:List (Int×Int)} (h:DcAt K Z H a ks):DcAt K Z' H' a ks:=let ⟨bs,e,r⟩:=h;⟨bs,s _ _ e,r.mono z⟩
mutual
theorem Rep.mono {K:Fg} {H H':Hp} (s:Same H H'):∀ (d:D) {v:V},Rep K H d v→Rep K H' d v
  | .non,_,h=>h
  | .bl _,_,h=>h
  | .int _,_,h=>h
  | .str _,_,h=>h
  | .tup ds,_,⟨a,vs,e,q,r⟩=>⟨a,vs,e,sameT s q,Reps.mono s ds r⟩
  | .lst ds,_,⟨a,vs,e,q,r⟩=>⟨a,vs,e,s.seq q,Reps.mono s ds r⟩
  | .dct ks,_,⟨a,e,q⟩=>⟨a,e,q.mono s s⟩
  | .st ps,_,⟨a,bs,e,l,q,r⟩=>⟨a,bs,e,l,s _ _ q,fun i p b h1 h2=>sameT s (r i p b h1 h2)⟩
  | .ln n,_,⟨a,e,q⟩=>⟨a,e,s _ _ q⟩
theorem Reps.mono {K:Fg} {H H':Hp} (s:Same H H'):∀ (ds:List D) {vs:List V},Reps K H ds vs→Reps K H' ds vs
  | [],_,h=>h
  | d::ds,_,⟨v,r,e,h,q⟩=>⟨v,r,e,Rep.mono s d h,Reps.mono s ds q⟩
end
theorem Reps.len {K:Fg} {H:Hp}:∀ {ds:List D} {vs:List V},Reps K H ds vs→ds.length=vs.length
  | [],_,h=>by cases (show _=[] from h);rfl
  | d::ds,_,⟨v,r,e,_,q⟩=>by subst e;simp [Reps.len q]
theorem Reps.get {K:Fg} {H:Hp}:∀ {ds:List D} {vs:List V} {i:Nat} {d:D},Reps K H ds vs→ds[i]?=some d→∃ v,vs[i]?=some v∧Rep K H d v
  | [],_,_,_,_,e=>by simp at e
  | d::ds,_,0,_,⟨v,r,e,h,q⟩,e2=>by subst e;simp at e2;subst e2;exact ⟨v,rfl,h⟩
  | d::ds,_,i+1,_,⟨v,r,e,h,q⟩,e2=>by subst e;simpa using Reps.get (i:=i) q (by simpa using e2)
theorem Reps.getV {K:Fg} {H:Hp} {ds:List D} {vs:List V} {i:Nat} {v:V} (h:Reps K H ds vs) (e:vs[i]?=some v):∃ d,ds[i]?=some d∧Rep K H d v:=by
  have hl:=h.len
  have hi:i<vs.length:=(List.getElem?_eq_some_iff.mp e).1
  have hd:ds[i]?=some (ds[i]'(by omega)):=by simp [hl,hi]
  obtain ⟨w,e2,r⟩:=h.get hd
  rw [e] at e2;cases e2
  exact ⟨_,hd,r⟩
theorem Reps.app {K:Fg} {H:Hp}:∀ {ds es:List D} {vs us:List V},Reps K H ds vs→Reps K H es us→Reps K H (ds++es) (vs++us)
  | [],_,_,_,h,q=>by cases (show _=[] from h);exact q
  | d::ds,_,_,_,⟨v,r,e,h,q⟩,q2=>by subst e;exact ⟨v,_,rfl,h,Reps.app q q2⟩
theorem Reps.one {K:Fg} {H:Hp} {d:D} {v:V} (h:Rep K H d v):Reps K H [d] [v]:=⟨v,[],rfl,h,rfl⟩
theorem Reps.drop {K:Fg} {H:Hp}:∀ {ds:List D} {vs:List V} (n:Nat),Reps K H ds vs→Reps K H (ds.drop n) (vs.drop n)
  | _,_,0,q=>q
  | [],_,_+1,q=>by cases (show _=[] from q);rfl
  | _::_,_,n+1,⟨w,r,e,z,q⟩=>by subst e;exact Reps.drop n q
theorem Reps.take {K:Fg} {H:Hp}:∀ {ds:List D} {vs:List V} (n:Nat),Reps K H ds vs→Reps K H (ds.take n) (vs.take n)
  | _,_,0,q=>rfl
  | [],_,_+1,q=>by cases (show _=[] from q);rfl
  | _::_,_,n+1,⟨w,r,e,z,q⟩=>by subst e;exact ⟨w,_,rfl,z,Reps.take n q⟩
theorem Reps.rev {K:Fg} {H:Hp}:∀ {ds:List D} {vs:List V},Reps K H ds vs→Reps K H ds.reverse vs.reverse
  | [],_,q=>by cases (show _=[] from q);rfl
  | _::_,_,⟨w,r,e,z,q⟩=>by subst e;simp only [List.reverse_cons];exact (Reps.rev q).app (Reps.one z)
theorem Reps.ints {K:Fg} {H:Hp}:∀ (ns:List Int),Reps K H (ns.map D.int) (ns.map V.int)
  | []=>rfl
  | n::ns=>⟨_,_,rfl,rfl,Reps.ints ns⟩
structure Ex (Z H Z' H':Hp):Prop where
  h:Same H H'
  z:Same Z Z'
  zh:Same Z' H'
  fr:∀ a,H a≠none→Z a=none→Z' a=none
theorem Ex.refl {Z H:Hp} (s:Same Z H):Ex Z H Z H:=⟨Same.refl _,Same.refl _,s,fun _ _ h=>h⟩
theorem smSome {H H':Hp} (s:Same H H') {a:Addr} (h:H a≠none):H' a≠none:=by
  cases e:H a with
  | none=>exact absurd e h
  | some o=>rw [s a o e];simp
theorem Ex.trans {Z H Z1 H1 Z2 H2:Hp} (x:Ex Z H Z1 H1) (y:Ex Z1 H1 Z2 H2):Ex Z H Z2 H2:=
  ⟨x.h.trans y.h,x.z.trans y.z,y.zh,fun a h e=>y.fr a (smSome x.h h) (x.fr a h e)⟩
theorem Ex.transB {B Z Z1 H1 Z2 H2:Hp} (x:Ex Z B Z1 H1) (y:Ex Z1 B Z2 H2):Ex Z B Z2 H2:=
  ⟨y.h,x.z.trans y.z,y.zh,fun a h e=>y.fr a h (x.fr a h e)⟩
theorem Ex.part {B H Z Z' H':Hp} (b:Same B H) (x:Ex Z H Z' H'):Ex Z B Z' H':=⟨b.trans x.h,x.z,x.zh,fun a h e=>x.fr a (smSome b h) e⟩
theorem smUpd {H:Hp} {p:Addr} {o:HO} (h:H p=none):Same H (upd H p o):=fun b u e=>by rw [upd_ne (ne_of_none e h)];exact e
theorem smUpd2 {Z H:Hp} {p:Addr} {o:HO} (s:Same Z H) (h:H p=none):Same (upd Z p o) (upd H p o):=fun b u e=>by
  by_cases hb:b=p
  · subst hb;rw [upd_same] at e ⊢;exact e
  · rw [upd_ne hb] at e ⊢;exact s b u e
theorem smUpdR {Z H:Hp} {p:Addr} {o:HO} (s:Same Z H) (h:Z p=none):Same Z (upd H p o):=fun b u e=>by
  rw [upd_ne (ne_of_none e h)];exact s b u e
theorem smUpdL {Z H:Hp} {p:Addr} {o:HO} (s:Same Z H) (h:H p=some o):Same (upd Z p o) H:=fun b u e=>by
  by_cases hb:b=p
  · subst hb;rw [upd_same] at e;cases e;exact h
  · rw [upd_ne hb] at e;exact s b u e
theorem Ex.new {Z H:Hp} {p:Addr} {o:HO} (s:Same Z H) (h:H p=none):Ex Z H (upd Z p o) (upd H p o):=
  ⟨smUpd h,smUpd (s.free h),smUpd2 s h,fun a ha e=>by rw [upd_ne (fun z=>ha (by rw [z];exact h))];exact e⟩
theorem Ex.newL {Z H:Hp} {p:Addr} {o:HO} (s:Same Z H) (h:H p=none):Ex Z H Z (upd H p o):=
  ⟨smUpd h,Same.refl _,smUpdR s (s.free h),fun _ _ e=>e⟩
inductive Gr where | pk | cl | nw | nd
def Gd (K:Fg) (Z' H H':Hp):Gr→D→V→Prop
  | .pk,d,v=>Rep K Z' d v∨(∃ a vs ds,v=.ref a∧d=.lst ds∧H' a=some (.lst vs)∧Reps K Z' ds vs)∨∃ a ks,v=.ref a∧d=.dct ks∧DcAt K Z' H' a ks
  | .cl,d,v=>Rep K Z' d v
  | .nw,d,v=>∃ a vs ds,v=.ref a∧d=.lst ds∧H a=none∧H' a=some (.lst vs)∧Z' a=none∧Reps K Z' ds vs
  | .nd,d,v=>∃ a ks,v=.ref a∧d=.dct ks∧H a=none∧DcAt K Z' H' a ks∧Z' a=none
section
variable {K:Fg} {Z Z' H H':Hp} {g:Gr} {d:D} {v:V}
theorem Gd.pk {H3:Hp} (h:Gd K Z' H H' g d v):Gd K Z' H3 H' .pk d v:=by
  cases g with
  | pk=>exact h
  | cl=>exact .inl h
  | nw=>obtain ⟨a,vs,ds,e1,e2,_,e3,_,r⟩:=h;exact .inr (.inl ⟨a,vs,ds,e1,e2,e3,r⟩)
  | nd=>obtain ⟨a,ks,e1,e2,_,e3,_⟩:=h;exact .inr (.inr ⟨a,ks,e1,e2,e3⟩)
theorem Gd.rep (s:Same Z' H') (h:Gd K Z' H H' g d v):Rep K H' d v:=by
  rcases (h.pk (H3:=H)) with h | ⟨a,vs,ds,rfl,rfl,e,r⟩ | ⟨a,ks,rfl,rfl,e⟩
  · exact Rep.mono s d h
  · exact ⟨a,vs,rfl,SqL.of e,Reps.mono s ds r⟩
  · exact ⟨a,rfl,e.mono s (Same.refl _)⟩
theorem Gd.lst {ds:List D} (s:Same Z' H') (h:Gd K Z' H H' g (.lst ds) v):∃ a vs,v=.ref a∧SqL K H' a vs∧Reps K Z' ds vs:=by
  rcases (h.pk (H3:=H)) with ⟨a,vs,e,q,r⟩ | ⟨a,vs,ds',rfl,e,e2,r⟩ | ⟨_,_,_,e,_⟩
  · exact ⟨a,vs,e,s.seq q,r⟩
  · cases e;exact ⟨a,vs,rfl,SqL.of e2,r⟩
  · cases e
theorem Gd.dct {ks:List (Int×Int)} (s:Same Z' H') (h:Gd K Z' H H' g (.dct ks) v):∃ a,v=.ref a∧DcAt K Z' H' a ks:=by
  rcases (h.pk (H3:=H)) with ⟨a,e,q⟩ | ⟨_,_,_,_,e,_⟩ | ⟨a,ks,rfl,e,q⟩
  · exact ⟨a,e,q.mono (Same.refl _) s⟩
  · cases e
  · cases e;exact ⟨a,rfl,q⟩
theorem Gd.tup {ds:List D} (s:Same Z' H') (h:Gd K Z' H H' g (.tup ds) v):∃ a vs,v=.ref a∧SqT K H' a vs∧Reps K Z' ds vs:=by
  rcases (h.pk (H3:=H)) with ⟨a,vs,e,q,r⟩ | ⟨a,vs,ds',rfl,e,e2,r⟩ | ⟨_,_,_,e,_⟩
  · exact ⟨a,vs,e,sameT s q,r⟩
  · cases e
  · cases e
theorem Gd.int {i:Int} (h:Gd K Z' H H' g (.int i) v):v=.int i:=by
  rcases (h.pk (H3:=H)) with h | ⟨_,_,_,_,e,_⟩ | ⟨_,_,_,e,_⟩
  · exact h
  · cases e
  · cases e
theorem Gd.bl {b:Bool} (h:Gd K Z' H H' g (.bl b) v):v=.bl b:=by
  rcases (h.pk (H3:=H)) with h | ⟨_,_,_,_,e,_⟩ | ⟨_,_,_,e,_⟩
  · exact h
  · cases e
  · cases e
theorem Gd.later {Z2 H2 H3:Hp} (x:Ex Z' H' Z2 H2) (h:Gd K Z' H H' g d v):Gd K Z2 H3 H2 .pk d v:=by
  rcases (h.pk (H3:=H)) with h | ⟨a,vs,ds,e1,e2,e3,r⟩ | ⟨a,ks,e1,e2,e3⟩
  · exact .inl (Rep.mono x.z d h)
  · exact .inr (.inl ⟨a,vs,ds,e1,e2,x.h _ _ e3,Reps.mono x.z ds r⟩)
  · exact .inr (.inr ⟨a,ks,e1,e2,e3.mono x.z x.h⟩)
end
inductive Own where
  | L (ds:List D) | T (ks:List (Int×Int))
def OwnOk (K:Fg) (Z:Hp) (a:Addr):Own→HO→Prop
  | .L ds,o=>∃ vs,o=.lst vs∧Reps K Z ds vs
  | .T ks,o=>∃ bs,o=.ext (DicP a ks bs)∧PrAt K Z ks bs
def Own.d:Own→D
  | .L ds=>.lst ds
  | .T ks=>.dct ks
theorem OwnOk.l {K:Fg} {Z:Hp} {a:Addr} {ds:List D} {vs:List V} (h:Reps K Z ds vs):OwnOk K Z a (.L ds) (.lst vs):=⟨vs,rfl,h⟩
theorem OwnOk.mono {K:Fg} {Z Z':Hp} (s:Same Z Z') {a:Addr} {w:Own} {o:HO} (h:OwnOk K Z a w o):OwnOk K Z' a w o:=by
  cases w with
  | L ds=>obtain ⟨vs,e,r⟩:=h;exact ⟨vs,e,Reps.mono s ds r⟩
  | T ks=>obtain ⟨bs,e,r⟩:=h;exact ⟨bs,e,r.mono s⟩
theorem OwnOk.rep {K:Fg} {Z:Hp} {w:Own} {o:HO} {a:Addr} (h:OwnOk K Z a w o) (e:Z a=some o):Rep K Z w.d (.ref a):=by
  cases w with
  | L ds=>obtain ⟨vs,rfl,r⟩:=h;exact ⟨a,vs,rfl,SqL.of e,r⟩
  | T ks=>obtain ⟨bs,rfl,r⟩:=h;exact ⟨a,rfl,bs,e,r⟩
inductive Slot where
  | un | F (d:D) | O (w:Own)
def SlotOk (K:Fg) (Z H:Hp):Slot→Option V→Prop
  | .un,_=>True
  | .F d,x=>∃ v,x=some v∧Rep K Z d v
  | .O w,x=>∃ a o,x=some (.ref a)∧H a=some o∧Z a=none∧OwnOk K Z a w o
abbrev En:=List Slot
structure Rl (K:Fg) (B Z H:Hp) (env:En) (σ:L2.St):Prop where
  bh:Same B H
  zh:Same Z H
  len:env.length=σ.length
  sl:∀ (i:Nat) s,env[i]?=some s→∃ x,σ[i]?=some x∧SlotOk K Z H s x
  ob:∀ (i:Nat) ds a,env[i]?=some (.O ds)→σ[i]?=some (some (.ref a))→B a=none
  ap:∀ (i j:Nat) ds es a,i≠j→env[i]?=some (.O ds)→env[j]?=some (.O es)→σ[i]?=some (some (.ref a))→σ[j]?≠some (some (.ref a))
section
variable {K:Fg} {B Z H Z' H':Hp} {env:En} {σ:L2.St}
theorem SlotOk.ext {s:Slot} {x:Option V} (e:Ex Z H Z' H') (h:SlotOk K Z H s x):SlotOk K Z' H' s x:=by
  cases s with
  | un=>trivial
  | F d=>obtain ⟨v,e1,r⟩:=h;exact ⟨v,e1,Rep.mono e.z d r⟩
  | O w=>obtain ⟨a,o,e1,e2,e3,r⟩:=h;exact ⟨a,o,e1,e.h _ _ e2,e.fr a (by rw [e2];simp) e3,r.mono e.z⟩
theorem Rl.ext (R:Rl K B Z H env σ) (e:Ex Z H Z' H'):Rl K B Z' H' env σ:=
  ⟨R.bh.trans e.h,e.zh,R.len,fun i s h=>let ⟨x,h1,h2⟩:=R.sl i s h;⟨x,h1,h2.ext e⟩,R.ob,R.ap⟩
theorem Rl.setF {d:D} {v:V} (R:Rl K B Z H env σ) (i:Nat) (r:Rep K Z d v):Rl K B Z H (env.set i (.F d)) (σ.set i (some v)):=by
  refine ⟨R.bh,R.zh,by simp [R.len],fun j s h=>?_,fun j ds a h h2=>?_,fun j k ds es a hne h1 h2 h3 h4=>?_⟩
  · by_cases hj:i=j
    · subst hj
      by_cases hl:i<env.length
      · rw [List.getElem?_set_self hl] at h;cases h
        exact ⟨some v,List.getElem?_set_self (by rw [← R.len];exact hl),v,rfl,r⟩
      · rw [List.getElem?_eq_none (by simpa using Nat.le_of_not_lt hl)] at h;cases h
    · rw [List.getElem?_set_ne hj] at h ⊢;exact R.sl j s h
  · by_cases hj:i=j
    · subst hj
      by_cases hl:i<env.length
      · rw [List.getElem?_set_self hl] at h;cases h
      · rw [List.getElem?_eq_none (by simpa using Nat.le_of_not_lt hl)] at h;cases h
    · rw [List.getElem?_set_ne hj] at h h2;exact R.ob j ds a h h2
  · have nij:∀ {j:Nat} {ds:Own},(env.set i (.F d))[j]?=some (.O ds)→i≠j:=fun {j ds} h z=>by
      subst z
      by_cases hl:i<env.length
      · rw [List.getElem?_set_self hl] at h;cases h
      · rw [List.getElem?_eq_none (by simpa using Nat.le_of_not_lt hl)] at h;cases h
    have n1:=nij h1
    have n2:=nij h2
    rw [List.getElem?_set_ne n1] at h1 h3
    rw [List.getElem?_set_ne n2] at h2 h4
    exact R.ap j k ds es a hne h1 h2 h3 h4
theorem Rl.setO {ds:Own} {a:Addr} {vs:HO} (R:Rl K B Z H env σ) (i:Nat) (hb:B a=none) (hz:Z a=none) (hh:H a=some vs) (r:OwnOk K Z a ds vs)
    (hn:∀ (j:Nat) es,j≠i→env[j]?=some (.O es)→σ[j]?≠some (some (.ref a))):Rl K B Z H (env.set i (.O ds)) (σ.set i (some (.ref a))):=by
  have atI:∀ {s:Slot},(env.set i (.O ds))[i]?=some s→s=.O ds∧(σ.set i (some (V.ref a)))[i]?=some (some (.ref a)):=fun {s} h=>by
    by_cases hl:i<env.length
    · rw [List.getElem?_set_self hl] at h;cases h
      exact ⟨rfl,List.getElem?_set_self (by rw [← R.len];exact hl)⟩
    · rw [List.getElem?_eq_none (by simpa using Nat.le_of_not_lt hl)] at h;cases h
  refine ⟨R.bh,R.zh,by simp [R.len],fun j s h=>?_,fun j es b h h2=>?_,fun j k es fs b hne h1 h2 h3 h4=>?_⟩
  · by_cases hj:i=j
    · subst hj
      obtain ⟨e1,e2⟩:=atI h
      subst e1
      exact ⟨_,e2,a,vs,rfl,hh,hz,r⟩
    · rw [List.getElem?_set_ne hj] at h ⊢;exact R.sl j s h
  · by_cases hj:i=j
    · subst hj
      obtain ⟨_,e2⟩:=atI h
      rw [e2] at h2;cases h2;exact hb
    · rw [List.getElem?_set_ne hj] at h h2;exact R.ob j es b h h2
  · by_cases hj:i=j
    · subst hj
      obtain ⟨_,e2⟩:=atI h1
      rw [e2] at h3;cases h3
      rw [List.getElem?_set_ne hne] at h2 h4
      exact hn k fs (Ne.symm hne) h2 h4
    · by_cases hk:i=k
      · subst hk
        obtain ⟨_,e2⟩:=atI h2
        rw [e2] at h4;cases h4
        rw [List.getElem?_set_ne hj] at h1 h3
        exact hn j es (Ne.symm hj) h1 h3
      · rw [List.getElem?_set_ne hj] at h1 h3
        rw [List.getElem?_set_ne hk] at h2 h4
        exact R.ap j k es fs b hne h1 h2 h3 h4
theorem Rl.wr {ds es:Own} {a:Addr} {vs:HO} (R:Rl K B Z H env σ) {i:Nat} (hi:env[i]?=some (.O ds)) (ha:σ[i]?=some (some (.ref a))) (r:OwnOk K Z a es vs) :
    Rl K B Z (upd H a vs) (env.set i (.O es)) σ∧Ex Z B Z (upd H a vs):=by
  have hb:=R.ob i ds a hi ha
  obtain ⟨x,e1,b,us,e2,e3,hz,_⟩:=R.sl i _ hi
  rw [ha] at e1;cases e1;cases e2
  have hl:i<env.length:=(List.getElem?_eq_some_iff.mp hi).1
  have sb:Same B (upd H a vs):=smUpdR R.bh hb
  have sz:Same Z (upd H a vs):=smUpdR R.zh hz
  refine ⟨⟨sb,sz,by simp [R.len],fun j s h=>?_,fun j fs b h h2=>?_,fun j k fs gs b hne h1 h2 h3 h4=>?_⟩,⟨sb,Same.refl _,sz,fun _ _ e=>e⟩⟩
  · by_cases hj:i=j
    · subst hj
      rw [List.getElem?_set_self hl] at h;cases h
      exact ⟨_,ha,a,vs,rfl,upd_same,hz,r⟩
    · rw [List.getElem?_set_ne hj] at h
      obtain ⟨x,e1,q⟩:=R.sl j s h
      refine ⟨x,e1,?_⟩
      cases s with
      | un=>trivial
      | F d=>exact q
      | O fs=>
        obtain ⟨b,us',e4,e5,e6,q⟩:=q
        refine ⟨b,us',e4,?_,e6,q⟩
        rw [upd_ne (fun z=>?_)]
        · exact e5
        · subst z;subst e4
          exact R.ap i j ds fs b hj hi h ha e1
  · by_cases hj:i=j
    · subst hj;rw [ha] at h2;cases h2;exact hb
    · rw [List.getElem?_set_ne hj] at h;exact R.ob j fs b h h2
  · have old:∀ {j:Nat} {fs:Own},(env.set i (.O es))[j]?=some (.O fs)→∃ fs',env[j]?=some (.O fs'):=fun {j fs} h=>by
      by_cases hj:i=j
      · subst hj;exact ⟨ds,hi⟩
      · rw [List.getElem?_set_ne hj] at h;exact ⟨fs,h⟩
    obtain ⟨fs',h1'⟩:=old h1
    obtain ⟨gs',h2'⟩:=old h2
    exact R.ap j k fs' gs' b hne h1' h2' h3 h4
theorem Rl.frz {ds:Own} (R:Rl K B Z H env σ) {i:Nat} (hi:env[i]?=some (.O ds)):∃ Z',Rl K B Z' H (env.set i (.F ds.d)) σ∧Ex Z B Z' H:=by
  obtain ⟨x,e1,a,vs,e2,e3,hz,r⟩:=R.sl i _ hi
  subst e2
  have hb:=R.ob i ds a hi e1
  have hl:i<env.length:=(List.getElem?_eq_some_iff.mp hi).1
  have s1:Same Z (upd Z a vs):=smUpd hz
  have s2:Same (upd Z a vs) H:=smUpdL R.zh e3
  refine ⟨upd Z a vs,⟨R.bh,s2,by simp [R.len],fun j s h=>?_,fun j fs b h h2=>?_,fun j k fs gs b hne h1 h2 h3 h4=>?_⟩,⟨R.bh,s1,s2,fun b hbn e=>?_⟩⟩
  · by_cases hj:i=j
    · subst hj
      rw [List.getElem?_set_self hl] at h;cases h
      exact ⟨_,e1,_,rfl,(r.mono s1).rep upd_same⟩
    · rw [List.getElem?_set_ne hj] at h
      obtain ⟨y,e4,q⟩:=R.sl j s h
      refine ⟨y,e4,?_⟩
      cases s with
      | un=>trivial
      | F d=>obtain ⟨v,e5,q⟩:=q;exact ⟨v,e5,Rep.mono s1 d q⟩
      | O fs=>
        obtain ⟨b,us',e5,e6,e7,q⟩:=q
        refine ⟨b,us',e5,e6,?_,q.mono s1⟩
        rw [upd_ne (fun z=>?_)]
        · exact e7
        · subst z;subst e5
          exact R.ap i j ds fs b hj hi h e1 e4
  · by_cases hj:i=j
    · subst hj;rw [List.getElem?_set_self hl] at h;cases h
    · rw [List.getElem?_set_ne hj] at h;exact R.ob j fs b h h2
  · have nij:∀ {j:Nat} {es:Own},(env.set i (.F ds.d))[j]?=some (.O es)→i≠j:=fun {j es} h z=>by
      subst z;rw [List.getElem?_set_self hl] at h;cases h
    have n1:=nij h1
    have n2:=nij h2
    rw [List.getElem?_set_ne n1] at h1
    rw [List.getElem?_set_ne n2] at h2
    exact R.ap j k fs gs b hne h1 h2 h3 h4
  · rw [upd_ne (fun z=>hbn (by rw [z];exact hb))];exact e
end
end Mi
namespace Mi
open PySem PySem.Spec PyProof.Rows L2
abbrev Fe:=En→Option D
abbrev Fb:=En→Option Bool
abbrev Fes:=En→Option (List D)
def T (K:Fg) (g:Gr) (f:Fe):TE:=fun σ H Q=>∃ env B Z d,Rl K B Z H env σ∧f env=some d∧∀ v Z' H',Ex Z H Z' H'→Gd K Z' H H' g d v→Q v H'
def TB (K:Fg) (f:Fb):TT:=fun σ H Q=>∃ env B Z b,Rl K B Z H env σ∧f env=some b∧∀ Z' H',Ex Z H Z' H'→Q b H'
def TL (K:Fg) (f:Fes):TA:=fun σ H Q=>∃ env B Z ds,Rl K B Z H env σ∧f env=some ds∧∀ vs Z' H',Ex Z H Z' H'→Reps K Z' ds vs→Q vs H'
def PD (X:Cx) (g:Gr) (e:Expr) (f:Fe):Prop:=PE X e (T X.K g f)
def PB (X:Cx) (e:Expr) (f:Fb):Prop:=PT X e (TB X.K f)
def PBW (X:Cx) (e:Expr) (f:Fb):Prop:=PW X e (TB X.K f)
structure PL (X:Cx) (es:List Expr) (f:Fes):Prop where
  p:PA X es (TL X.K f)
  l:∀ env ds,f env=some ds→ds.length=es.length
section
variable {X:Cx}
theorem PE.imp {e:Expr} {t t':TE} (h:PE X e t) (i:∀ σ H Q,t' σ H Q→t σ H Q):PE X e t':=fun pins s σ H Q I q=>h pins s σ H Q I (i σ H Q q)
theorem PT.imp {e:Expr} {t t':TT} (h:PT X e t) (i:∀ σ H Q,t' σ H Q→t σ H Q):PT X e t':=fun pins s σ H Q I q=>h pins s σ H Q I (i σ H Q q)
theorem PW.imp {e:Expr} {t t':TT} (h:PW X e t) (i:∀ σ H Q,t' σ H Q→t σ H Q):PW X e t':=fun wh pins s σ H Q I q=>h wh pins s σ H Q I (i σ H Q q)
theorem PA.imp {e:List Expr} {t t':TA} (h:PA X e t) (i:∀ σ H Q,t' σ H Q→t σ H Q):PA X e t':=fun pos pins s σ H Q I q=>h pos pins s σ H Q I (i σ H Q q)
def fC (d:D):Fe:=fun _=>some d
theorem fin0 {K:Fg} {g:D} {v:V} {σ:L2.St} {H:Hp} {Q:VK} (h:T K .cl (fC g) σ H Q) (r:∀ Z,Rep K Z g v):Q v H:=by
  obtain ⟨env,B,Z,d,R,e,k⟩:=h
  cases e
  exact k v Z H (Ex.refl R.zh) (r Z)
theorem m_int {i j pos}:PD X .cl (.Constant (.int i) j pos) (fC (.int i)):=PE.imp pe_int fun _ _ _ h=>fin0 h fun _=>rfl
theorem m_bl {b j pos}:PD X .cl (.Constant (.bool b) j pos) (fC (.bl b)):=PE.imp pe_bl fun _ _ _ h=>fin0 h fun _=>rfl
theorem m_non {j pos}:PD X .cl (.Constant .none j pos) (fC .non):=PE.imp pe_non fun _ _ _ h=>fin0 h fun _=>rfl
theorem m_str {x j pos} (hk:PyData.strOk x=true:=by decide +kernel):PD X .cl (.Constant (.str x) j pos) (fC (.str x)):=PE.imp pe_str fun _ _ _ h=>fin0 h fun _=>⟨rfl,hk⟩
theorem m_glob {x:Str} {v:V} {u:Value} {d:D} {pos:Pos} (hm:X.mg x=some u) (rv:RelV v u) (r:∀ Z,Rep X.K Z d v) (hg:Gl X x:=by rfl) (hd:(x==("__debug__":Str))=false:=by decide) :
    PD X .cl (.Name x pos) (fC d):=PE.imp (pe_glob hg hm rv hd) fun _ _ _ h=>fin0 h r
def getF (env:En) (i:Nat):Option D:=match env[i]? with | some (.F d)=>some d | _=>none
def getP (env:En) (i:Nat):Option D:=match env[i]? with | some (.F d)=>some d | some (.O w)=>some w.d | _=>none
theorem m_var (i:Nat) {x:Str} {pos:Pos} (hN:X.N[i]?=some x:=by rfl) (hv:Vis X.env.scope x:=by first | exact Or.inl rfl | exact Or.inr (Or.inl rfl) | exact Or.inr (Or.inr rfl)) (hd:(x==("__debug__":Str))=false:=by decide)
    (hcd:(x==("__classdict__":Str))=false:=by decide):PD X .cl (.Name x pos) (fun env=>getF env i):=PE.imp (pe_var hN hv hd hcd) fun σ H Q h=>by
  obtain ⟨env,B,Z,d,R,e,k⟩:=h
  dsimp only [getF] at e
  split at e
  · rename_i d' h1
    cases e
    obtain ⟨x,h2,v,h3,r⟩:=R.sl i _ h1
    subst h3
    exact ⟨v,h2,k v Z H (Ex.refl R.zh) r⟩
  · cases e
theorem m_pv (i:Nat) {x:Str} {pos:Pos} (hN:X.N[i]?=some x:=by rfl) (hv:Vis X.env.scope x:=by first | exact Or.inl rfl | exact Or.inr (Or.inl rfl) | exact Or.inr (Or.inr rfl)) (hd:(x==("__debug__":Str))=false:=by decide)
    (hcd:(x==("__classdict__":Str))=false:=by decide):PD X .pk (.Name x pos) (fun env=>getP env i):=PE.imp (pe_var hN hv hd hcd) fun σ H Q h=>by
  obtain ⟨env,B,Z,d,R,e,k⟩:=h
  dsimp only [getP] at e
  split at e
  · rename_i d' h1
    cases e
    obtain ⟨x,h2,v,h3,r⟩:=R.sl i _ h1
    subst h3
    exact ⟨v,h2,k v Z H (Ex.refl R.zh) (.inl r)⟩
  · rename_i ds h1
    cases e
    obtain ⟨x,h2,a,vs,h3,h4,h5,r⟩:=R.sl i _ h1
    subst h3
    refine ⟨_,h2,k _ Z H (Ex.refl R.zh) ?_⟩
    cases ds with
    | L ds=>obtain ⟨us,rfl,r⟩:=r;exact .inr (.inl ⟨a,us,ds,rfl,rfl,h4,r⟩)
    | T ks=>obtain ⟨bs,rfl,r⟩:=r;exact .inr (.inr ⟨a,ks,rfl,rfl,bs,h4,r⟩)
  · cases e
theorem m_cl {e:Expr} {f:Fe} (h:PD X .nw e f):PD X .cl e f:=PE.imp h fun σ H Q ⟨env,B,Z,d,R,e,k⟩=>by
  refine ⟨env,B,Z,d,R,e,fun v Z' H' x g=>?_⟩
  obtain ⟨a,vs,ds,rfl,rfl,h1,h2,h3,r⟩:=g
  have s1:Same Z' (upd Z' a (.lst vs)):=smUpd h3
  exact k _ (upd Z' a (.lst vs)) H' ⟨x.h,x.z.trans s1,smUpdL x.zh h2,fun b hb e=>by rw [upd_ne (fun z=>hb (by rw [z];exact h1))];exact x.fr b hb e⟩ ⟨a,vs,rfl,SqL.of upd_same,Reps.mono s1 ds r⟩
theorem m_cld {e:Expr} {f:Fe} (h:PD X .nd e f):PD X .cl e f:=PE.imp h fun σ H Q ⟨env,B,Z,d,R,e,k⟩=>by
  refine ⟨env,B,Z,d,R,e,fun v Z' H' x g=>?_⟩
  obtain ⟨a,ks,rfl,rfl,h1,⟨bs,h2,hp⟩,h3⟩:=g
  have s1:Same Z' (upd Z' a (.ext (DicP a ks bs))):=smUpd h3
  exact k _ (upd Z' a (.ext (DicP a ks bs))) H' ⟨x.h,x.z.trans s1,smUpdL x.zh h2,fun b hb e=>by rw [upd_ne (fun z=>hb (by rw [z];exact h1))];exact x.fr b hb e⟩ ⟨a,rfl,bs,upd_same,hp.mono s1⟩
def fNil:Fes:=fun _=>some []
def fCons (f:Fe) (fs:Fes):Fes:=fun env=>(f env).bind fun d=>(fs env).bind fun ds=>some (d::ds)
theorem l_nil:PL X [] fNil:=⟨PA.imp pa_nil fun σ H Q ⟨env,B,Z,ds,R,e,k⟩=>by cases e;exact k [] Z H (Ex.refl R.zh) rfl,fun env ds e=>by cases e;rfl⟩
theorem fCons_some {f:Fe} {fs:Fes} {env:En} {ds:List D} (h:fCons f fs env=some ds):∃ d r,f env=some d∧fs env=some r∧ds=d::r:=by
  unfold fCons at h
  obtain ⟨d,h1,h2⟩:=Option.bind_eq_some_iff.mp h
  obtain ⟨r,h3,h4⟩:=Option.bind_eq_some_iff.mp h2
  cases h4
  exact ⟨d,r,h1,h3,rfl⟩
theorem l_cons {e:Expr} {es:List Expr} {f:Fe} {fs:Fes} (h:PD X .cl e f) (hs:PL X es fs) (hst:starEach (e::es) X.env=(false,eval e X.env)::starEach es X.env:=by rfl):PL X (e::es) (fCons f fs):=by
  refine ⟨PA.imp (pa_cons h hs.p hst) fun σ H Q ⟨env,B,Z,ds,R,e,k⟩=>?_,fun env ds e=>?_⟩
  · obtain ⟨d,r,h1,h2,rfl⟩:=fCons_some e
    refine ⟨env,B,Z,d,R,h1,fun v Z1 H1 x1 g1=>⟨env,B,Z1,r,R.ext x1,h2,fun vs Z2 H2 x2 g2=>?_⟩⟩
    exact k (v::vs) Z2 H2 (x1.trans x2) ⟨v,vs,rfl,Rep.mono x2.z d g1,g2⟩
  · obtain ⟨d,r,h1,h2,rfl⟩:=fCons_some e
    simp [hs.l env r h2]
def fTup (fs:Fes):Fe:=fun env=>(fs env).bind fun ds=>some (.tup ds)
def fLst (fs:Fes):Fe:=fun env=>(fs env).bind fun ds=>some (.lst ds)
theorem m_tup {es:List Expr} {fs:Fes} {x1 pos} (h:PL X es fs) (hl:es.length≤1000:=by decide):PD X .cl (.Tuple es x1 pos) (fTup fs):=PE.imp (pe_tup h.p) fun σ H Q ⟨env,B,Z,d,R,e,k⟩=>by
  obtain ⟨ds,h1,h2⟩:=Option.bind_eq_some_iff.mp e
  cases h2
  refine ⟨env,B,Z,ds,R,h1,fun vs Z1 H1 x1 r=>⟨?_,fun p hp=>?_⟩⟩
  · rw [← r.len,h.l env ds h1];exact Nat.le_of_lt (small1000 hl)
  · have s1:Same Z1 (upd Z1 p (.tup vs)):=smUpd (x1.zh.free hp)
    exact k _ (upd Z1 p (.tup vs)) _ (x1.trans (Ex.new x1.zh hp)) ⟨p,vs,rfl,SqT.of upd_same,Reps.mono s1 ds r⟩
theorem m_lst {es:List Expr} {fs:Fes} {pos} (h:PL X es fs) (hl:es.length≤1000:=by decide):PD X .nw (.List es pos) (fLst fs):=PE.imp (pe_lst h.p) fun σ H Q ⟨env,B,Z,d,R,e,k⟩=>by
  obtain ⟨ds,h1,h2⟩:=Option.bind_eq_some_iff.mp e
  cases h2
  refine ⟨env,B,Z,ds,R,h1,fun vs Z1 H1 x1 r=>⟨?_,fun p hp=>?_⟩⟩
  · rw [← r.len,h.l env ds h1];exact Nat.le_of_lt (small1000 hl)
  · exact k _ Z1 _ (x1.trans (Ex.newL x1.zh hp)) ⟨p,vs,ds,rfl,rfl,x1.h.free hp,upd_same,x1.zh.free hp,r⟩
theorem ifS {α:Type} {c:Prop} [Decidable c] {a d:α} (h:(if c then some a else none)=some d):c∧a=d:=by
  by_cases hc:c
  · rw [if_pos hc] at h;exact ⟨hc,Option.some.inj h⟩
  · rw [if_neg hc] at h;cases h
theorem ifN {α:Type} {c:Prop} [Decidable c] {a d:α} (h:(if c then none else some a)=some d):¬ c∧a=d:=by
  by_cases hc:c
  · rw [if_pos hc] at h;cases h
  · rw [if_neg hc] at h;exact ⟨hc,Option.some.inj h⟩
def op2 (b:D→D→Option D) (fa fb:Fe):Fe:=fun env=>(fa env).bind fun x=>(fb env).bind fun y=>b x y
theorem op2_some {b:D→D→Option D} {fa fb:Fe} {env:En} {d:D} (h:op2 b fa fb env=some d):∃ x y,fa env=some x∧fb env=some y∧b x y=some d:=by
  unfold op2 at h
  obtain ⟨x,h1,h2⟩:=Option.bind_eq_some_iff.mp h
  obtain ⟨y,h3,h4⟩:=Option.bind_eq_some_iff.mp h2
  exact ⟨x,y,h1,h3,h4⟩
theorem Gd.frm {K:Fg} {Z' H0 H H':Hp} {g:Gr} {d:D} {v:V} (s:Same H0 H) (h:Gd K Z' H H' g d v):Gd K Z' H0 H' g d v:=by
  cases g with
  | pk=>exact h
  | cl=>exact h
  | nw=>obtain ⟨a,vs,ds,e1,e2,e3,e4⟩:=h;exact ⟨a,vs,ds,e1,e2,s.free e3,e4⟩
  | nd=>obtain ⟨a,ks,e1,e2,e3,e4⟩:=h;exact ⟨a,ks,e1,e2,s.free e3,e4⟩
def Does (K:Fg) (g:Gr) (b:D→D→Option D) (r:R2):Prop:=
  ∀ {Z H:Hp} {x y:V} {dx dy d:D} {Q:VK},Same Z H→Gd K Z H H .pk dx x→Gd K Z H H .pk dy y→b dx dy=some d→(∀ v Z' H',Ex Z H Z' H'→Gd K Z' H H' g d v→Q v H')→r x y H Q
theorem op_pass {K:Fg} {g ga gb:Gr} {b:D→D→Option D} {r:R2} (hb:Does K g b r) {fa fb:Fe} {σ:L2.St} {H:Hp} {Q:VK} (h:T K g (op2 b fa fb) σ H Q):tOp r (T K ga fa) (T K gb fb) σ H Q:=by
  obtain ⟨env,B,Z,d,R,e,k⟩:=h
  obtain ⟨dx,dy,h1,h2,h3⟩:=op2_some e
  refine ⟨env,B,Z,dx,R,h1,fun v Z1 H1 x1 g1=>⟨env,B,Z1,dy,R.ext x1,h2,fun u Z2 H2 x2 g2=>?_⟩⟩
  refine hb x2.zh (g1.later x2) (show Gd K Z2 H2 H2 .pk dy u from g2.pk) h3 fun w Z3 H3 x3 g3=>?_
  exact k w Z3 H3 ((x1.trans x2).trans x3) (Gd.frm (x1.h.trans x2.h) g3)
theorem m_op {op:Operator} {r:R2} {g ga gb:Gr} {b:D→D→Option D} {l rr:Expr} {fa fb:Fe} {pos:Pos} (ho:OpR X (binaryOp op) r) (hd:Does X.K g b r) (ha:PD X ga l fa) (hb:PD X gb rr fb) :
    PD X g (.BinOp l op rr pos) (op2 b fa fb):=PE.imp (pe_op ho ha hb) fun _ _ _ h=>op_pass hd h
theorem m_cmp {op:CmpOp} {r:R2} {g ga gb:Gr} {b:D→D→Option D} {l rr:Expr} {fa fb:Fe} {pos:Pos} (ho:OpR X (compareOp op) r) (hd:Does X.K g b r) (ha:PD X ga l fa) (hb:PD X gb rr fb) (hm:behindInMarks op rr=false:=by rfl) :
    PD X g (.Compare l [op] [rr] pos) (op2 b fa fb):=PE.imp (pe_cmpR ho ha hb hm) fun _ _ _ h=>op_pass hd h
def asB:D→Option Bool
  | .bl b=>some b
  | _=>none
def fB (f:Fe):Fb:=fun env=>(f env).bind asB
theorem asB_some {d:D} {b:Bool} (h:asB d=some b):d=.bl b:=by
  cases d<;>cases h;rfl
theorem tb_of {K:Fg} {g:Gr} {f:Fe} {σ:L2.St} {H:Hp} {Q:Bool→Hp→Prop} (h:TB K (fB f) σ H Q):T K g f σ H (fun x H'=>∃ k,x=.bl k∧Q k H'):=by
  obtain ⟨env,B,Z,b,R,e,k⟩:=h
  obtain ⟨d,h1,h2⟩:=Option.bind_eq_some_iff.mp e
  cases asB_some h2
  exact ⟨env,B,Z,_,R,h1,fun v Z' H' x g=>⟨b,g.bl,k Z' H' x⟩⟩
theorem b_cmp {op:CmpOp} {r:R2} {ga gb:Gr} {b:D→D→Option D} {l rr:Expr} {fa fb:Fe} {pos:Pos} (ho:OpR X (compareOp op) r) (hd:Does X.K .cl b r) (ha:PD X ga l fa) (hb:PD X gb rr fb) (hm:behindInMarks op rr=false:=by rfl) :
    PB X (.Compare l [op] [rr] pos) (fB (op2 b fa fb)):=PT.imp (pt_cmpR ho ha hb hm) fun _ _ _ h=>op_pass hd (tb_of h)
theorem b_val {e:Expr} {g:Gr} {f:Fe} (h:PD X g e f) (he:∀ whole,isTrue e X.env whole=(do let v ← whole;standAt e.pos;holding [v] (truthy v)):=by intro _;rfl):PB X e (fB f):=
  PT.imp (pt_val h he) fun _ _ _ h=>tb_of h
def iF (g:Int→Int→D):D→D→Option D
  | .int i,.int j=>some (g i j)
  | _,_=>none
theorem does_I0 {K:Fg} {g:Int→Int→V} {g':Int→Int→D} (hg:∀ Z i j,Rep K Z (g' i j) (g i j)):Does K .cl (iF g') (rI0 g):=fun {Z H x y dx dy d Q} s h1 h2 e k=>by
  cases dx<;>cases dy<;>cases e
  exact ⟨_,_,h1.int,h2.int,k _ Z H (Ex.refl s) (hg _ _ _)⟩
def iFC (c:Int→Int→Bool) (g:Int→Int→D):D→D→Option D
  | .int i,.int j=>if c i j then some (g i j) else none
  | _,_=>none
theorem does_I {K:Fg} {C:Int→Int→Prop} {c:Int→Int→Bool} {g:Int→Int→V} {g':Int→Int→D} (hc:∀ i j,c i j=true→C i j) (hg:∀ Z i j,Rep K Z (g' i j) (g i j)):Does K .cl (iFC c g') (rI C g):=fun {Z H x y dx dy d Q} s h1 h2 e k=>by
  cases dx<;>cases dy<;>try cases e
  rename_i i j
  have e':(if c i j=true then some (g' i j) else none)=some d:=e
  by_cases hcc:c i j=true
  · rw [if_pos hcc] at e'
    cases e'
    exact ⟨_,_,h1.int,h2.int,hc _ _ hcc,k _ Z H (Ex.refl s) (hg _ _ _)⟩
  · rw [if_neg hcc] at e'
    cases e'
abbrev addI:=iF fun i j=>.int (i+j)
abbrev subI:=iF fun i j=>.int (i-j)
abbrev ltI:=iF fun i j=>.bl (decide (i<j))
abbrev leI:=iF fun i j=>.bl (decide (i≤j))
abbrev gtI:=iF fun i j=>.bl (decide (j<i))
def big (i:Int):Bool:=decide (i.natAbs<2 ^ 4096)
abbrev mulI:=iFC (fun i j=>(big i&&big j)) fun i j=>.int (i*j)
abbrev fdivI:=iFC (fun _ j=>decide (0<j∧j<1073741824)) fun i j=>.int (i/j)
abbrev modI:=iFC (fun _ j=>decide (0<j)) fun i j=>.int (i%j)
abbrev powI:=iFC (fun i j=>big i&&decide (0≤j∧j≤1000)) fun i j=>.int (i ^ j.toNat)
theorem d_add {K:Fg}:Does K .cl addI (rI0 fun i j=>.int (i+j)):=does_I0 (by intro _ _ _;rfl)
theorem d_sub {K:Fg}:Does K .cl subI (rI0 fun i j=>.int (i-j)):=does_I0 (by intro _ _ _;rfl)
theorem d_lt {K:Fg}:Does K .cl ltI (rI0 fun i j=>.bl (decide (i<j))):=does_I0 (by intro _ _ _;rfl)
theorem d_le {K:Fg}:Does K .cl leI (rI0 fun i j=>.bl (decide (i≤j))):=does_I0 (by intro _ _ _;rfl)
theorem d_gt {K:Fg}:Does K .cl gtI (rI0 fun i j=>.bl (decide (j<i))):=does_I0 (by intro _ _ _;rfl)
theorem d_fdiv {K:Fg}:Does K .cl fdivI (rI CDiv fun i j=>.int (i/j)):=does_I (fun i j h=>of_decide_eq_true h) (by intro _ _ _;rfl)
theorem d_mod {K:Fg}:Does K .cl modI (rI (fun _ j=>0<j) fun i j=>.int (i%j)):=does_I (fun i j h=>of_decide_eq_true h) (by intro _ _ _;rfl)
theorem bits_big {i:Int} (h:big i=true):Builtin.Int.intBits i≤4096:=by
  have h':i.natAbs<2 ^ 4096:=of_decide_eq_true h
  unfold Builtin.Int.intBits
  split
  · omega
  · rename_i hz
    have hn:i.natAbs≠0:=by simpa using hz
    have:=(Nat.log2_lt hn).mpr h'
    omega
def CMulB (i j:Int):Prop:=big i=true∧big j=true
theorem op_mulB:OpR X (binaryOp .Mult) (rI CMulB fun i j=>.int (i*j)):=opI fun _ _ _ _ _ _ _ hc q=>mul_int q (.of_bits (Nat.le_trans (bits_big hc.1) (by decide)) (Nat.le_trans (bits_big hc.2) (by decide)))
theorem d_mul {K:Fg}:Does K .cl mulI (rI CMulB fun i j=>.int (i*j)):=does_I (fun i j h=>by
  simp only [Bool.and_eq_true] at h
  exact h) (by intro _ _ _;rfl)
def CPowB (i j:Int):Prop:=big i=true∧0≤j∧j≤1000
theorem op_powB:OpR X (binaryOp .Pow) (rI CPowB fun i j=>.int (i ^ j.toNat)):=opI fun i j _ _ _ _ _ hc q=>pow_int hc.2.1 (by
  have h1:(Builtin.Int.intBits i:Int)≤4096:=by have:=bits_big hc.1;omega
  have h2:(Builtin.Int.intBits i:Int)*j≤4096*1000:=Int.mul_le_mul h1 hc.2.2 hc.2.1 (by decide)
  exact Int.le_trans h2 (by decide)) q
theorem d_pow {K:Fg}:Does K .cl powI (rI CPowB fun i j=>.int (i ^ j.toNat)):=does_I (fun i j h=>by
  simp only [Bool.and_eq_true,decide_eq_true_eq] at h
  exact ⟨h.1,h.2.1,h.2.2⟩) (by intro _ _ _;rfl)
variable {l r c:Expr} {fa fb fc:Fe} {ga gb gc:Gr} {pos:Pos}
theorem m_add (ha:PD X ga l fa) (hb:PD X gb r fb):PD X .cl (.BinOp l .Add r pos) (op2 addI fa fb):=m_op op_add d_add ha hb
theorem m_sub (ha:PD X ga l fa) (hb:PD X gb r fb):PD X .cl (.BinOp l .Sub r pos) (op2 subI fa fb):=m_op op_sub d_sub ha hb
theorem m_mul (ha:PD X ga l fa) (hb:PD X gb r fb):PD X .cl (.BinOp l .Mult r pos) (op2 mulI fa fb):=m_op op_mulB d_mul ha hb
theorem m_fdiv (ha:PD X ga l fa) (hb:PD X gb r fb):PD X .cl (.BinOp l .FloorDiv r pos) (op2 fdivI fa fb):=m_op op_fdiv d_fdiv ha hb
theorem m_mod (ha:PD X ga l fa) (hb:PD X gb r fb):PD X .cl (.BinOp l .Mod r pos) (op2 modI fa fb):=m_op op_mod d_mod ha hb
theorem m_pow (ha:PD X ga l fa) (hb:PD X gb r fb):PD X .cl (.BinOp l .Pow r pos) (op2 powI fa fb):=m_op op_powB d_pow ha hb
theorem m_le (ha:PD X ga l fa) (hb:PD X gb r fb):PD X .cl (.Compare l [.LtE] [r] pos) (op2 leI fa fb):=m_cmp op_le d_le ha hb (nomark _)
theorem m_gt (ha:PD X ga l fa) (hb:PD X gb r fb):PD X .cl (.Compare l [.Gt] [r] pos) (op2 gtI fa fb):=m_cmp op_gt d_gt ha hb (nomark _)
theorem b_lt (ha:PD X ga l fa) (hb:PD X gb r fb):PB X (.Compare l [.Lt] [r] pos) (fB (op2 ltI fa fb)):=b_cmp op_lt d_lt ha hb (nomark _)
theorem b_le (ha:PD X ga l fa) (hb:PD X gb r fb):PB X (.Compare l [.LtE] [r] pos) (fB (op2 leI fa fb)):=b_cmp op_le d_le ha hb (nomark _)
theorem b_gt (ha:PD X ga l fa) (hb:PD X gb r fb):PB X (.Compare l [.Gt] [r] pos) (fB (op2 gtI fa fb)):=b_cmp op_gt d_gt ha hb (nomark _)
def un1 (g:D→Option D) (f:Fe):Fe:=fun env=>(f env).bind g
def negI:D→Option D
  | .int i=>some (.int (-i))
  | _=>none
theorem m_neg (ha:PD X ga l fa):PD X .cl (.UnaryOp .USub l pos) (un1 negI fa):=PE.imp (pe_un un_neg ha) fun σ H Q ⟨env,B,Z,d,R,e,k⟩=>by
  obtain ⟨x,h1,h2⟩:=Option.bind_eq_some_iff.mp e
  refine ⟨env,B,Z,x,R,h1,fun v Z1 H1 x1 g1=>?_⟩
  cases x<;>cases h2
  exact ⟨_,g1.int,k _ Z1 H1 x1 rfl⟩
def andF (f g:Fe):Fe:=fun env=>(f env).bind fun x=>match x with | .bl true=>g env | .bl false=>some (.bl false) | _=>none
def orF (f g:Fe):Fe:=fun env=>(f env).bind fun x=>match x with | .bl true=>some (.bl true) | .bl false=>g env | _=>none
def notD:D→Option D
  | .bl b=>some (.bl !b)
  | _=>none
variable {rest:List Expr} {fr:Fe} {gr:Gr}
theorem m_one {op} (ha:PD X ga l fa):PD X ga (.BoolOp op [l] pos) fa:=pe_one ha
theorem m_and (ha:PD X ga l fa) (hb:PD X .cl (.BoolOp .And (r::rest) pos) fr):PD X .cl (.BoolOp .And (l::r::rest) pos) (andF fa fr):=PE.imp (pe_and ha hb) fun σ H Q ⟨env,B,Z,d,R,e,k⟩=>by
  obtain ⟨x,h1,h2⟩:=Option.bind_eq_some_iff.mp e
  refine ⟨env,B,Z,x,R,h1,fun v Z1 H1 x1 g1=>?_⟩
  cases x with
  | bl b=>
    refine ⟨b,g1.bl,?_⟩
    cases b with
    | true=>exact iteT ⟨env,B,Z1,d,R.ext x1,h2,fun u Z2 H2 x2 g2=>k u Z2 H2 (x1.trans x2) g2⟩
    | false=>cases h2;exact iteF (k _ Z1 H1 x1 rfl)
  | _=>cases h2
theorem m_or (ha:PD X ga l fa) (hb:PD X .cl (.BoolOp .Or (r::rest) pos) fr):PD X .cl (.BoolOp .Or (l::r::rest) pos) (orF fa fr):=PE.imp (pe_or ha hb) fun σ H Q ⟨env,B,Z,d,R,e,k⟩=>by
  obtain ⟨x,h1,h2⟩:=Option.bind_eq_some_iff.mp e
  refine ⟨env,B,Z,x,R,h1,fun v Z1 H1 x1 g1=>?_⟩
  cases x with
  | bl b=>
    refine ⟨b,g1.bl,?_⟩
    cases b with
    | false=>exact iteF ⟨env,B,Z1,d,R.ext x1,h2,fun u Z2 H2 x2 g2=>k u Z2 H2 (x1.trans x2) g2⟩
    | true=>cases h2;exact iteT (k _ Z1 H1 x1 rfl)
  | _=>cases h2
theorem m_not (ha:PD X ga l fa):PD X .cl (.UnaryOp .Not l pos) (un1 notD fa):=PE.imp (pe_not ha) fun σ H Q ⟨env,B,Z,d,R,e,k⟩=>by
  obtain ⟨x,h1,h2⟩:=Option.bind_eq_some_iff.mp e
  refine ⟨env,B,Z,x,R,h1,fun v Z1 H1 x1 g1=>?_⟩
  cases x<;>cases h2
  exact ⟨_,g1.bl,k _ Z1 H1 x1 rfl⟩
def andB (f g:Fb):Fb:=fun env=>(f env).bind fun x=>if x=true then g env else some false
def orB (f g:Fb):Fb:=fun env=>(f env).bind fun x=>if x=true then some true else g env
def notB (f:Fb):Fb:=fun env=>(f env).bind fun x=>some !x
variable {ta tb:Fb}
theorem w_and1 (ha:PB X l ta):PBW X (.BoolOp .And [l] pos) ta:=pw_and1 ha
theorem w_or1 (ha:PB X l ta):PBW X (.BoolOp .Or [l] pos) ta:=pw_or1 ha
theorem w_and (ha:PB X l ta) (hb:PBW X (.BoolOp .And (r::rest) pos) tb):PBW X (.BoolOp .And (l::r::rest) pos) (andB ta tb):=PW.imp (pw_and ha hb) fun σ H Q ⟨env,B,Z,d,R,e,k⟩=>by
  obtain ⟨x,h1,h2⟩:=Option.bind_eq_some_iff.mp e
  refine ⟨env,B,Z,x,R,h1,fun Z1 H1 x1=>?_⟩
  cases x with
  | true=>rw [if_pos rfl] at h2;exact iteT ⟨env,B,Z1,d,R.ext x1,h2,fun Z2 H2 x2=>k Z2 H2 (x1.trans x2)⟩
  | false=>rw [if_neg (by simp)] at h2;cases h2;exact iteF (k Z1 H1 x1)
theorem w_or (ha:PB X l ta) (hb:PBW X (.BoolOp .Or (r::rest) pos) tb):PBW X (.BoolOp .Or (l::r::rest) pos) (orB ta tb):=PW.imp (pw_or ha hb) fun σ H Q ⟨env,B,Z,d,R,e,k⟩=>by
  obtain ⟨x,h1,h2⟩:=Option.bind_eq_some_iff.mp e
  refine ⟨env,B,Z,x,R,h1,fun Z1 H1 x1=>?_⟩
  cases x with
  | false=>rw [if_neg (by simp)] at h2;exact iteF ⟨env,B,Z1,d,R.ext x1,h2,fun Z2 H2 x2=>k Z2 H2 (x1.trans x2)⟩
  | true=>rw [if_pos rfl] at h2;cases h2;exact iteT (k Z1 H1 x1)
theorem b_w (h:PBW X l ta):PB X l ta:=PW.pt h
theorem b_not (ha:PB X l ta):PB X (.UnaryOp .Not l pos) (notB ta):=PT.imp (pt_not ha) fun σ H Q ⟨env,B,Z,d,R,e,k⟩=>by
  obtain ⟨x,h1,h2⟩:=Option.bind_eq_some_iff.mp e
  cases h2
  exact ⟨env,B,Z,x,R,h1,fun Z1 H1 x1=>k Z1 H1 x1⟩
def iteFn (t:Fb) (f g:Fe):Fe:=fun env=>(t env).bind fun b=>if b=true then f env else g env
theorem m_ite {g:Gr} {t:Expr} (ht:PB X t ta) (ha:PD X g l fa) (hb:PD X g r fb):PD X g (.IfExp t l r pos) (iteFn ta fa fb):=PE.imp (pe_ifExp ht ha hb) fun σ H Q ⟨env,B,Z,d,R,e,k⟩=>by
  obtain ⟨x,h1,h2⟩:=Option.bind_eq_some_iff.mp e
  refine ⟨env,B,Z,x,R,h1,fun Z1 H1 x1=>?_⟩
  cases x with
  | true=>rw [if_pos rfl] at h2;exact iteT ⟨env,B,Z1,d,R.ext x1,h2,fun v Z2 H2 x2 g2=>k v Z2 H2 (x1.trans x2) (g2.frm x1.h)⟩
  | false=>rw [if_neg (by simp)] at h2;exact iteF ⟨env,B,Z1,d,R.ext x1,h2,fun v Z2 H2 x2 g2=>k v Z2 H2 (x1.trans x2) (g2.frm x1.h)⟩
def chF (b b':D→D→Option D) (fa fb fc:Fe):Fe:=fun env=>(fa env).bind fun x=>(fb env).bind fun y=>(b x y).bind fun z=>match z with
  | .bl true=>(fc env).bind fun w=>b' y w
  | .bl false=>some (.bl false)
  | _=>none
theorem ch_pass {K:Fg} {b b':D→D→Option D} {r r':R2} (hb:Does K .cl b r) (hb':Does K .cl b' r') {σ:L2.St} {H:Hp} {Q:VK} (h:T K .cl (chF b b' fa fb fc) σ H Q):tChain r r' (T K ga fa) (T K gb fb) (T K gc fc) σ H Q:=by
  obtain ⟨env,B,Z,d,R,e,k⟩:=h
  obtain ⟨dx,h1,e⟩:=Option.bind_eq_some_iff.mp e
  obtain ⟨dy,h2,e⟩:=Option.bind_eq_some_iff.mp e
  obtain ⟨dz,h3,e⟩:=Option.bind_eq_some_iff.mp e
  refine ⟨env,B,Z,dx,R,h1,fun v Z1 H1 x1 g1=>⟨env,B,Z1,dy,R.ext x1,h2,fun u Z2 H2 x2 g2=>?_⟩⟩
  refine hb x2.zh (g1.later x2) (show Gd K Z2 H2 H2 .pk dy u from g2.pk) h3 fun z Z3 H3 x3 g3=>?_
  cases dz with
  | bl t=>
    refine ⟨t,g3.bl,?_⟩
    cases t with
    | false=>cases e;exact iteF (k _ Z3 H3 ((x1.trans x2).trans x3) rfl)
    | true=>
      obtain ⟨dw,h4,h5⟩:=Option.bind_eq_some_iff.mp e
      refine iteT ⟨env,B,Z3,dw,((R.ext x1).ext x2).ext x3,h4,fun w Z4 H4 x4 g4=>?_⟩
      refine hb' x4.zh (show Gd K Z4 H4 H4 .pk dy u from Gd.later x4 (Gd.later (H3:=H3) x3 g2)) (show Gd K Z4 H4 H4 .pk dw w from g4.pk) h5 fun q Z5 H5 x5 g5=>?_
      exact k q Z5 H5 (((x1.trans x2).trans x3).trans (x4.trans x5)) g5
  | _=>cases e
theorem m_chain {op op':CmpOp} {b b':D→D→Option D} {r1 r2:R2} (ho:OpR X (compareOp op) r1) (ho':OpR X (compareOp op') r2) (hd:Does X.K .cl b r1) (hd':Does X.K .cl b' r2) (ha:PD X ga l fa) (hb:PD X gb r fb) (hc:PD X gc c fc)
    (hm:lastMarks [op,op'] [r,c]=false:=by with_unfolding_all rfl):PD X .cl (.Compare l [op,op'] [r,c] pos) (chF b b' fa fb fc):=PE.imp (pe_chain ho ho' ha hb hc hm) fun _ _ _ h=>ch_pass hd hd' h
theorem b_chain {op op':CmpOp} {b b':D→D→Option D} {r1 r2:R2} (ho:OpR X (compareOp op) r1) (ho':OpR X (compareOp op') r2) (hd:Does X.K .cl b r1) (hd':Does X.K .cl b' r2) (ha:PD X ga l fa) (hb:PD X gb r fb) (hc:PD X gc c fc)
    (hm:lastMarks [op,op'] [r,c]=false:=by with_unfolding_all rfl):PB X (.Compare l [op,op'] [r,c] pos) (fB (chF b b' fa fb fc)):=PT.imp (pt_chain ho ho' ha hb hc hm) fun _ _ _ h=>ch_pass hd hd' (tb_of h)
end
end Mi
namespace Mi
open PySem PySem.Spec PyProof.Rows L2
section
variable {X:Cx} {l r c:Expr} {fa fb fc:Fe} {ga gb gc:Gr} {pos p:Pos}
def idxD:D→D→Option D
  | .lst ds,.int i=>atI ds i
  | .tup ds,.int i=>atI ds i
  | _,_=>none
theorem Reps.atI {K:Fg} {H:Hp} {ds:List D} {vs:List V} {i:Int} {d:D} (h:Reps K H ds vs) (e:L2.atI ds i=some d):∃ v,L2.atI vs i=some v∧Rep K H d v:=by
  unfold L2.atI at e ⊢
  rw [← h.len]
  obtain ⟨j,h1,h2⟩:=Option.bind_eq_some_iff.mp e
  obtain ⟨v,h3,h4⟩:=h.get h2
  exact ⟨v,by rw [h1];exact h3,h4⟩
theorem d_idx {K:Fg}:Does K .cl idxD (fun x y H Q=>rIxL K x y H Q∨rIxT K x y H Q):=fun {Z H x y dx dy d Q} s h1 h2 e k=>by
  cases dx<;>cases dy<;>try cases e
  · rename_i ds i
    obtain ⟨a,vs,rfl,hq,rr⟩:=h1.tup s
    obtain ⟨v,e1,e2⟩:=rr.atI e
    exact .inr ⟨a,vs,i,v,rfl,h2.int,hq,e1,k v Z H (Ex.refl s) e2⟩
  · rename_i ds i
    obtain ⟨a,vs,rfl,hq,rr⟩:=h1.lst s
    obtain ⟨v,e1,e2⟩:=rr.atI e
    exact .inl ⟨a,vs,i,v,rfl,h2.int,hq,e1,k v Z H (Ex.refl s) e2⟩
theorem m_idx (ha:PD X ga l fa) (hb:PD X gb r fb) (hs:PlainIx r:=by intro _ _;rfl):PD X .cl (.Subscript l r pos) (op2 idxD fa fb):=PE.imp (pe_ix (ix_list.or ix_tup) ha hb hs) fun _ _ _ h=>op_pass d_idx h
abbrev Fo:=En→Option (Option Int)
def TOp (K:Fg) (f:Fo):TO:=fun σ H Q=>∃ env B Z o,Rl K B Z H env σ∧f env=some o∧∀ Z' H',Ex Z H Z' H'→Q o H'
def PDo (X:Cx) (e:Option Expr) (f:Fo):Prop:=PO X e (TOp X.K f)
theorem PO.imp {e:Option Expr} {t t':TO} (h:PO X e t) (i:∀ σ H Q,t' σ H Q→t σ H Q):PO X e t':=fun pins s σ H Q I q=>h pins s σ H Q I (i σ H Q q)
def oNone:Fo:=fun _=>some none
def oSome (f:Fe):Fo:=fun env=>(f env).bind fun d=>match d with | .int i=>some (some i) | _=>none
theorem o_none:PDo X none oNone:=PO.imp po_none fun σ H Q ⟨env,B,Z,o,R,e,k⟩=>by cases e;exact k Z H (Ex.refl R.zh)
theorem o_some (h:PD X ga l fa):PDo X (some l) (oSome fa):=PO.imp (po_some h) fun σ H Q ⟨env,B,Z,o,R,e,k⟩=>by
  obtain ⟨d,h1,h2⟩:=Option.bind_eq_some_iff.mp e
  refine ⟨env,B,Z,d,R,h1,fun v Z' H' x g=>?_⟩
  cases d<;>cases h2
  exact ⟨_,g.int,k Z' H' x⟩
def cutD (ds:List D) (lo hi:Option Int):List D:=(ds.drop (HT.sIx ds.length 0 lo)).take (HT.sIx ds.length ds.length hi-HT.sIx ds.length 0 lo)
theorem Reps.cut {K:Fg} {H:Hp} {ds:List D} {vs:List V} (h:Reps K H ds vs) (lo hi:Option Int):Reps K H (cutD ds lo hi) (cutV vs lo hi):=by
  unfold cutD cutV
  rw [← h.len]
  exact (h.drop _).take _
def slF (b:D→Option Int→Option Int→Option D) (f:Fe) (lo hi:Fo):Fe:=fun env=>(f env).bind fun x=>(lo env).bind fun i=>(hi env).bind fun j=>b x i j
def cutLst:D→Option Int→Option Int→Option D
  | .lst ds,lo,hi=>some (.lst (cutD ds lo hi))
  | _,_,_=>none
variable {lo hi:Option Expr} {fl fh:Fo} {p2:Pos}
theorem m_slL (ha:PD X ga l fa) (hl:PDo X lo fl) (hh:PDo X hi fh):PD X .nw (.Subscript l (.Slice lo hi none p2) pos) (slF cutLst fa fl fh):=PE.imp (pe_slice sl_list ha hl hh) fun σ H Q ⟨env,B,Z,d,R,e,k⟩=>by
  obtain ⟨x,h1,e⟩:=Option.bind_eq_some_iff.mp e
  obtain ⟨i,h2,e⟩:=Option.bind_eq_some_iff.mp e
  obtain ⟨j,h3,e⟩:=Option.bind_eq_some_iff.mp e
  cases x<;>cases e
  rename_i ds
  refine ⟨env,B,Z,_,R,h1,fun v Z1 H1 x1 g1=>⟨env,B,Z1,i,R.ext x1,h2,fun Z2 H2 x2=>⟨env,B,Z2,j,(R.ext x1).ext x2,h3,fun Z3 H3 x3=>?_⟩⟩⟩
  obtain ⟨a,vs,rfl,hq,rr⟩:=Gd.lst x3.zh (Gd.later (H3:=H3) x3 (Gd.later (H3:=H3) x2 g1))
  refine ⟨a,vs,rfl,hq,fun q hp=>?_⟩
  have x0:=(x1.trans x2).trans x3
  exact k _ Z3 _ (x0.trans (Ex.newL x3.zh hp)) ⟨q,_,_,rfl,rfl,x0.h.free hp,upd_same,x3.zh.free hp,rr.cut i j⟩
def cutTup:D→Option Int→Option Int→Option D
  | .tup ds,lo,hi=>if HT.sIx ds.length 0 lo=0∧HT.sIx ds.length ds.length hi=ds.length then none else some (.tup (cutD ds lo hi))
  | _,_,_=>none
theorem m_slT (ha:PD X ga l fa) (hl:PDo X lo fl) (hh:PDo X hi fh):PD X .cl (.Subscript l (.Slice lo hi none p2) pos) (slF cutTup fa fl fh):=PE.imp (pe_slice sl_tup ha hl hh) fun σ H Q ⟨env,B,Z,d,R,e,k⟩=>by
  obtain ⟨x,h1,e⟩:=Option.bind_eq_some_iff.mp e
  obtain ⟨i,h2,e⟩:=Option.bind_eq_some_iff.mp e
  obtain ⟨j,h3,e⟩:=Option.bind_eq_some_iff.mp e
  cases x<;>try cases e
  rename_i ds
  obtain ⟨hn,rfl⟩:=ifN e
  · refine ⟨env,B,Z,_,R,h1,fun v Z1 H1 x1 g1=>⟨env,B,Z1,i,R.ext x1,h2,fun Z2 H2 x2=>⟨env,B,Z2,j,(R.ext x1).ext x2,h3,fun Z3 H3 x3=>?_⟩⟩⟩
    obtain ⟨a,vs,rfl,hq,rr⟩:=Gd.tup x3.zh (Gd.later (H3:=H3) x3 (Gd.later (H3:=H3) x2 g1))
    refine ⟨a,vs,rfl,hq,by rw [← rr.len];exact hn,fun q hp=>?_⟩
    have x0:=(x1.trans x2).trans x3
    have s1:Same Z3 (upd Z3 q (.tup (cutV vs i j))):=smUpd (x3.zh.free hp)
    exact k _ _ _ (x0.trans (Ex.new x3.zh hp)) ⟨q,_,rfl,SqT.of upd_same,Reps.mono s1 _ (rr.cut i j)⟩
def addL:D→D→Option D
  | .lst xs,.lst ys=>if xs.length+ys.length≤16000000 then some (.lst (xs++ys)) else none
  | _,_=>none
theorem size16 {n:Nat} (h:n≤16000000):n≤sizeLine:=by rw [sizeLine_eq];omega
theorem d_addL {K:Fg}:Does K .nw addL (fun x y H Q=>∃ l b xs zs,x=.ref l∧y=.ref b∧SqL K H l xs∧SqL K H b zs∧xs.length+zs.length≤sizeLine∧∀ p,H p=none→Q (.ref p) (upd H p (.lst (xs++zs)))):=fun {Z H x y dx dy d Q} s h1 h2 e k=>by
  cases dx<;>cases dy<;>try cases e
  rename_i xs ys
  obtain ⟨hl,rfl⟩:=ifS e
  · obtain ⟨a,vs,rfl,q1,r1⟩:=h1.lst s
    obtain ⟨b,us,rfl,q2,r2⟩:=h2.lst s
    refine ⟨a,b,vs,us,rfl,rfl,q1,q2,by rw [← r1.len,← r2.len];exact size16 hl,fun p hp=>?_⟩
    exact k _ Z _ (Ex.newL s hp) ⟨p,_,_,rfl,rfl,hp,upd_same,s.free hp,r1.app r2⟩
def Does1 (K:Fg) (g:Gr) (b:D→Option D) (r:List V→Hp→VK→Prop):Prop:=
  ∀ {Z H:Hp} {x:V} {dx d:D} {Q:VK},Same Z H→Gd K Z H H .pk dx x→b dx=some d→(∀ v Z' H',Ex Z H Z' H'→Gd K Z' H H' g d v→Q v H')→r [x] H Q
theorem call1_pass {K:Fg} {g:Gr} {b:D→Option D} {rr:List V→Hp→VK→Prop} (hb:Does1 K g b rr) {σ:L2.St} {H:Hp} {Q:VK} (h:T K g (un1 b fa) σ H Q):tCB rr (tCons (T K ga fa) tNil) σ H Q:=by
  obtain ⟨env,B,Z,d,R,e,k⟩:=h
  obtain ⟨x,h1,h2⟩:=Option.bind_eq_some_iff.mp e
  refine ⟨env,B,Z,x,R,h1,fun v Z1 H1 x1 g1=>?_⟩
  exact hb x1.zh (show Gd K Z1 H1 H1 .pk x v from g1.pk) h2 fun w Z2 H2 x2 g2=>k w Z2 H2 (x1.trans x2) (g2.frm x1.h)
variable {x:Str} {id TT:String} {g:Gr} {b:D→Option D} {rr:List V→Hp→VK→Prop}
theorem m_bi1 (hc:CallR X (.builtin id) rr) (hd:Does1 X.K g b rr) (hv:bootBuiltins x=some (.builtin id)) (hm:X.mg x=none) (ha:PD X ga l fa) (hn:x≠"__name__":=by decide) (hdb:(x==("__debug__":Str))=false:=by decide) (hg:Gl X x:=by rfl)
    (he:starEach [l] X.env=[(false,eval l X.env)]:=by rfl):PD X g (.Call (.Name x p) [l] [] pos) (un1 b fa):=PE.imp (pe_callB hc hg hm hv (pa_cons ha pa_nil he) hn hdb he rfl) fun _ _ _ h=>call1_pass hd h
theorem m_ty1 (hc:CallR X (.type TT) rr) (hd:Does1 X.K g b rr) (hv:bootBuiltins x=some (.type TT)) (hm:X.mg x=none) (ha:PD X ga l fa) (hn:x≠"__name__":=by decide) (hdb:(x==("__debug__":Str))=false:=by decide) (hg:Gl X x:=by rfl)
    (he:starEach [l] X.env=[(false,eval l X.env)]:=by rfl):PD X g (.Call (.Name x p) [l] [] pos) (un1 b fa):=PE.imp (pe_callTy hc hg hm hv (pa_cons ha pa_nil he) hn hdb he rfl) fun _ _ _ h=>call1_pass hd h
def lenD:D→Option D
  | .lst ds=>some (.int ds.length)
  | .tup ds=>some (.int ds.length)
  | _=>none
theorem d_len {K:Fg}:Does1 K .cl lenD (fun xs H Q=>∃ p ys,xs=[.ref p]∧(SqL K H p ys∨SqT K H p ys)∧Q (.int ys.length) H):=fun {Z H x dx d Q} s h e k=>by
  cases dx<;>cases e
  · obtain ⟨a,vs,rfl,q,r⟩:=h.tup s
    exact ⟨a,vs,rfl,.inr q,k _ Z H (Ex.refl s) (by rw [r.len];rfl)⟩
  · obtain ⟨a,vs,rfl,q,r⟩:=h.lst s
    exact ⟨a,vs,rfl,.inl q,k _ Z H (Ex.refl s) (by rw [r.len];rfl)⟩
theorem m_len (hm:X.mg "len"=none) (ha:PD X ga l fa) (hg:Gl X "len":=by rfl) (he:starEach [l] X.env=[(false,eval l X.env)]:=by rfl):PD X .cl (.Call (.Name "len" p) [l] [] pos) (un1 lenD fa):=
  m_bi1 call_len_seq d_len PySem.boot_len hm ha (by decide) (by decide) hg he
def listD:D→Option D
  | .lst ds=>some (.lst ds)
  | .tup ds=>some (.lst ds)
  | _=>none
theorem d_list {K:Fg}:Does1 K .nw listD (fun xs H Q=>∃ p ys,xs=[.ref p]∧(SqL K H p ys∨SqT K H p ys)∧∀ l,H l=none→Q (.ref l) (upd H l (.lst ys))):=fun {Z H x dx d Q} s h e k=>by
  cases dx<;>cases e
  · obtain ⟨a,vs,rfl,q,r⟩:=h.tup s
    exact ⟨a,vs,rfl,.inr q,fun p hp=>k _ Z _ (Ex.newL s hp) ⟨p,_,_,rfl,rfl,hp,upd_same,s.free hp,r⟩⟩
  · obtain ⟨a,vs,rfl,q,r⟩:=h.lst s
    exact ⟨a,vs,rfl,.inl q,fun p hp=>k _ Z _ (Ex.newL s hp) ⟨p,_,_,rfl,rfl,hp,upd_same,s.free hp,r⟩⟩
theorem m_list (hm:X.mg "list"=none) (ha:PD X ga l fa) (hg:Gl X "list":=by rfl) (he:starEach [l] X.env=[(false,eval l X.env)]:=by rfl):PD X .nw (.Call (.Name "list" p) [l] [] pos) (un1 listD fa):=
  m_ty1 call_list_of d_list PyProof.Rows.boot_list hm ha (by decide) (by decide) hg he
def tupleD:D→Option D
  | .lst ds=>some (.tup ds)
  | .tup ds=>some (.tup ds)
  | _=>none
theorem d_tuple {K:Fg}:Does1 K .cl tupleD (fun xs H Q=>∃ p ys,xs=[.ref p]∧((SqL K H p ys∧∀ l,H l=none→Q (.ref l) (upd H l (.tup ys)))∨(SqT K H p ys∧Q (.ref p) H))):=fun {Z H x dx d Q} s h e k=>by
  cases dx<;>cases e
  · rename_i ds
    rcases h with h | ⟨_,_,_,_,e,_⟩ | ⟨_,_,_,e,_⟩
    · obtain ⟨a,vs,rfl,q,r⟩:=id h
      exact ⟨a,vs,rfl,.inr ⟨sameT s q,k _ Z H (Ex.refl s) h⟩⟩
    · cases e
    · cases e
  · obtain ⟨a,vs,rfl,q,r⟩:=h.lst s
    refine ⟨a,vs,rfl,.inl ⟨q,fun p hp=>?_⟩⟩
    have s1:Same Z (upd Z p (.tup vs)):=smUpd (s.free hp)
    exact k _ _ _ (Ex.new s hp) ⟨p,_,rfl,SqT.of upd_same,Reps.mono s1 _ r⟩
theorem m_tuple (hm:X.mg "tuple"=none) (ha:PD X ga l fa) (hg:Gl X "tuple":=by rfl) (he:starEach [l] X.env=[(false,eval l X.env)]:=by rfl):PD X .cl (.Call (.Name "tuple" p) [l] [] pos) (un1 tupleD fa):=
  m_ty1 call_tuple_of d_tuple PyProof.Rows.boot_tuple hm ha (by decide) (by decide) hg he
def intD:D→Option D
  | .int i=>some (.int i)
  | .bl b=>some (.int (if b then 1 else 0))
  | _=>none
theorem d_int {K:Fg}:Does1 K .cl intD (fun xs H Q=>(∃ i,xs=[.int i]∧Q (.int i) H)∨∃ k,xs=[.bl k]∧Q (.int (if k then 1 else 0)) H):=fun {Z H x dx d Q} s h e k=>by
  cases dx<;>cases e
  · cases h.bl;exact .inr ⟨_,rfl,k _ Z H (Ex.refl s) rfl⟩
  · cases h.int;exact .inl ⟨_,rfl,k _ Z H (Ex.refl s) rfl⟩
theorem m_intc (hm:X.mg "int"=none) (ha:PD X ga l fa) (hg:Gl X "int":=by rfl) (he:starEach [l] X.env=[(false,eval l X.env)]:=by rfl):PD X .cl (.Call (.Name "int" p) [l] [] pos) (un1 intD fa):=
  m_ty1 call_int1 d_int PyProof.Rows.boot_int hm ha (by decide) (by decide) hg he
def Does2 (K:Fg) (g:Gr) (b:D→D→Option D) (r:List V→Hp→VK→Prop):Prop:=Does K g b (fun x y H Q=>r [x,y] H Q)
theorem call2_pass {K:Fg} {g:Gr} {b:D→D→Option D} {rr:List V→Hp→VK→Prop} (hb:Does2 K g b rr) {σ:L2.St} {H:Hp} {Q:VK} (h:T K g (op2 b fa fb) σ H Q):tCB rr (tCons (T K ga fa) (tCons (T K gb fb) tNil)) σ H Q:=op_pass (r:=fun x y H Q=>rr [x,y] H Q) hb h
variable {b2:D→D→Option D}
theorem m_bi2 (hc:CallR X (.builtin id) rr) (hd:Does2 X.K g b2 rr) (hv:bootBuiltins x=some (.builtin id)) (hm:X.mg x=none) (ha:PD X ga l fa) (hb:PD X gb r fb) (hn:x≠"__name__":=by decide) (hdb:(x==("__debug__":Str))=false:=by decide) (hg:Gl X x:=by rfl)
    (he:starEach [l,r] X.env=(false,eval l X.env)::starEach [r] X.env:=by rfl) (he2:starEach [r] X.env=[(false,eval r X.env)]:=by rfl) (hpl:(backTo pos (starEach [r] X.env)).any (·.1)=false:=by rfl):PD X g (.Call (.Name x p) [l,r] [] pos) (op2 b2 fa fb):=
  PE.imp (pe_callB hc hg hm hv (pa_cons ha (pa_cons hb pa_nil he2) he) hn hdb he hpl) fun _ _ _ h=>call2_pass hd h
abbrev maxI:=iF fun i j=>.int (if j>i then j else i)
abbrev minI:=iF fun i j=>.int (if j<i then j else i)
theorem d_max {K:Fg}:Does2 K .cl maxI (fun xs H Q=>∃ i j,xs=[.int i,.int j]∧Q (.int (if j>i then j else i)) H):=fun {Z H x y dx dy d Q} s h1 h2 e k=>by
  cases dx<;>cases dy<;>cases e
  cases h1.int;cases h2.int
  exact ⟨_,_,rfl,k _ Z H (Ex.refl s) rfl⟩
theorem d_min {K:Fg}:Does2 K .cl minI (fun xs H Q=>∃ i j,xs=[.int i,.int j]∧Q (.int (if j<i then j else i)) H):=fun {Z H x y dx dy d Q} s h1 h2 e k=>by
  cases dx<;>cases dy<;>cases e
  cases h1.int;cases h2.int
  exact ⟨_,_,rfl,k _ Z H (Ex.refl s) rfl⟩
theorem m_max (hm:X.mg "max"=none) (hcalm:X.calm=true) (ha:PD X ga l fa) (hb:PD X gb r fb) (hg:Gl X "max":=by rfl) (he:starEach [l,r] X.env=(false,eval l X.env)::starEach [r] X.env:=by rfl) (he2:starEach [r] X.env=[(false,eval r X.env)]:=by rfl) (hpl:(backTo pos (starEach [r] X.env)).any (·.1)=false:=by rfl) :
    PD X .cl (.Call (.Name "max" p) [l,r] [] pos) (op2 maxI fa fb):=m_bi2 (call_max2 hcalm) d_max PyProof.Rows.boot_max hm ha hb (by decide) (by decide) hg he he2 hpl
theorem m_min (hm:X.mg "min"=none) (hcalm:X.calm=true) (ha:PD X ga l fa) (hb:PD X gb r fb) (hg:Gl X "min":=by rfl) (he:starEach [l,r] X.env=(false,eval l X.env)::starEach [r] X.env:=by rfl) (he2:starEach [r] X.env=[(false,eval r X.env)]:=by rfl) (hpl:(backTo pos (starEach [r] X.env)).any (·.1)=false:=by rfl) :
    PD X .cl (.Call (.Name "min" p) [l,r] [] pos) (op2 minI fa fb):=m_bi2 (call_min2 hcalm) d_min PyProof.Rows.boot_min hm ha hb (by decide) (by decide) hg he he2 hpl
def spD (K:Fg) (n:Nat) (g:Gr) (m:List D→Option D):Sp:=fun vs H Q _=>∃ Z ds d,ds.length=n∧Same Z H∧Reps K Z ds vs∧m ds=some d∧∀ v Z' H',Ex Z H Z' H'→Gd K Z' H H' g d v→Q v H'
structure Cal (P:Program) (w:World) (K:Fg) (mg:Str→Option Value) (base:Heap) (k:Nat) (x:Str) (n:Nat) (g:Gr) (m:List D→Option D):Prop where
  ex:∃ f fd ps,ps.length=n∧FnOk P w K mg base CX0 k f fd ps (spD K n g m)∧mg x=some (.ref f)∧PySem.W.keepIn K (.ref f)=true∧Binds K fd ps []
variable {m:List D→Option D} {k n:Nat} {es:List Expr} {fs:Fes}
theorem m_call (C:Cal X.prog X.w X.K X.mg X.base k x n g m) (hr:Room k X.A) (hl:PL X (l::es) fs) (hn:(l::es).length=n:=by rfl) (hg:Gl X x:=by rfl) (hdb:(x==("__debug__":Str))=false:=by decide)
    (he:starEach (l::es) X.env=(false,eval l X.env)::starEach es X.env:=by rfl) (hpl:(backTo pos (starEach es X.env)).any (·.1)=false:=by rfl):PD X g (.Call (.Name x p) (l::es) [] pos) (fun env=>(fs env).bind m):=by
  obtain ⟨f,fd,ps,hps,F,hm,hk,hb⟩:=C.ex
  refine PE.imp (pe_call F hr hg hm hk hb .nil pass0 hl.p hdb he hpl) fun σ H Q ⟨env,B,Z,d,R,e,kk⟩=>?_
  obtain ⟨ds,h1,h2⟩:=Option.bind_eq_some_iff.mp e
  refine ⟨env,B,Z,ds,R,h1,fun vs Z1 H1 x1 r=>?_⟩
  show spD X.K n g m (vs++[]) H1 Q E0
  rw [List.append_nil]
  exact ⟨Z1,ds,d,by rw [hl.l env ds h1];exact hn,x1.zh,r,h2,fun v Z' H' x2 g2=>kk v Z' H' (x1.trans x2) (g2.frm x1.h)⟩
end
end Mi
namespace Mi
open PySem PySem.Spec PyProof.Rows L2
inductive Out where
  | nx (env:En) | rt (d:D) | bk (env:En) | ct (env:En)
abbrev Fs:=En→Option Out
def EndOk (K:Fg) (rg:Gr) (B Z:Hp) (E:Ends):Out→Prop
  | .nx env'=>∀ σ' Z' H',Ex Z B Z' H'→Rl K B Z' H' env' σ'→E.nx σ' H'
  | .bk env'=>∀ σ' Z' H',Ex Z B Z' H'→Rl K B Z' H' env' σ'→E.bk σ' H'
  | .ct env'=>∀ σ' Z' H',Ex Z B Z' H'→Rl K B Z' H' env' σ'→E.ct σ' H'
  | .rt d=>∀ v Z' H',Ex Z B Z' H'→Gd K Z' B H' rg d v→E.rt v H'
def TSt (K:Fg) (rg:Gr) (f:Fs):TS:=fun E σ H=>∃ env B Z o,Rl K B Z H env σ∧f env=some o∧EndOk K rg B Z E o
def SD (X:Cx) (rg:Gr) (st:Stmt) (f:Fs):Prop:=PS X st (TSt X.K rg f)
def SsD (X:Cx) (rg:Gr) (st:List Stmt) (f:Fs):Prop:=PSs X st (TSt X.K rg f)
section
variable {X:Cx} {rg:Gr} {st:Stmt} {sts:List Stmt} {f g:Fs} {pos:Pos}
theorem PS.imp {t t':TS} (h:PS X st t) (i:∀ E σ H,t' E σ H→t E σ H):PS X st t':=fun pins s σ H E I q=>h pins s σ H E I (i E σ H q)
theorem PSs.imp {t t':TS} (h:PSs X sts t) (i:∀ E σ H,t' E σ H→t E σ H):PSs X sts t':=fun pins s σ H E I q=>h pins s σ H E I (i E σ H q)
theorem EndOk.later {K:Fg} {B Z Z1 H1:Hp} {E:Ends} {o:Out} (x:Ex Z B Z1 H1) (h:EndOk K rg B Z E o):EndOk K rg B Z1 E o:=by
  cases o with
  | nx e=>exact fun σ' Z' H' y=>h σ' Z' H' (x.transB y)
  | bk e=>exact fun σ' Z' H' y=>h σ' Z' H' (x.transB y)
  | ct e=>exact fun σ' Z' H' y=>h σ' Z' H' (x.transB y)
  | rt e=>exact fun v Z' H' y=>h v Z' H' (x.transB y)
def nxF:Fs:=fun env=>some (.nx env)
def seqF (f g:Fs):Fs:=fun env=>(f env).bind fun o=>match o with | .nx e=>g e | o=>some o
theorem s_nil:SsD X rg [] nxF:=PSs.imp pss_nil fun E σ H ⟨env,B,Z,o,R,e,k⟩=>by cases e;exact k σ Z H ⟨R.bh,Same.refl _,R.zh,fun _ _ h=>h⟩ R
theorem s_cons (h1:SD X rg st f) (h2:SsD X rg sts g):SsD X rg (st::sts) (seqF f g):=PSs.imp (pss_cons h1 h2) fun E σ H ⟨env,B,Z,o,R,e,k⟩=>by
  obtain ⟨o1,e1,e2⟩:=Option.bind_eq_some_iff.mp e
  refine ⟨env,B,Z,o1,R,e1,?_⟩
  cases o1 with
  | nx env1=>exact fun σ' Z' H' x R'=>⟨env1,B,Z',o,R',e2,k.later x⟩
  | rt d=>cases e2;exact k
  | bk d=>cases e2;exact k
  | ct d=>cases e2;exact k
theorem s_one (h1:SD X rg st f):SsD X rg [st] f:=pss_one h1
def frzF (i:Nat):Fs:=fun env=>match env[i]? with
  | some (.O w)=>some (.nx (env.set i (.F w.d)))
  | some (.F d)=>some (.nx env)
  | _=>none
theorem s_frz (i:Nat) (h:SsD X rg sts g):SsD X rg sts (seqF (frzF i) g):=PSs.imp h fun E σ H ⟨env,B,Z,o,R,e,k⟩=>by
  obtain ⟨o1,e1,e2⟩:=Option.bind_eq_some_iff.mp e
  unfold frzF at e1
  split at e1
  · rename_i ds hi
    cases e1
    obtain ⟨Z',R',x⟩:=R.frz hi
    exact ⟨_,B,Z',o,R',e2,k.later x⟩
  · cases e1;exact ⟨env,B,Z,o,R,e2,k⟩
  · cases e1
def retF (f:Fe):Fs:=fun env=>(f env).bind fun d=>some (.rt d)
theorem s_ret {e:Expr} {f:Fe} (h:PD X rg e f):SD X rg (.Return (some e) pos) (retF f):=PS.imp (ps_ret h) fun E σ H ⟨env,B,Z,o,R,e,k⟩=>by
  obtain ⟨d,e1,e2⟩:=Option.bind_eq_some_iff.mp e
  cases e2
  exact ⟨env,B,Z,d,R,e1,fun v Z' H' x g=>k v Z' H' (x.part R.bh) (g.frm R.bh)⟩
def retO (i:Nat):Fs:=fun env=>match env[i]? with
  | some (.O (.L ds))=>some (.rt (.lst ds))
  | _=>none
theorem s_retO (i:Nat) {x:Str} {p:Pos} (hN:X.N[i]?=some x:=by rfl) (hv:Vis X.env.scope x:=by first | exact Or.inl rfl | exact Or.inr (Or.inl rfl) | exact Or.inr (Or.inr rfl)) (hd:(x==("__debug__":Str))=false:=by decide)
    (hcd:(x==("__classdict__":Str))=false:=by decide):SD X .nw (.Return (some (.Name x p)) pos) (retO i):=PS.imp (ps_ret (pe_var hN hv hd hcd)) fun E σ H ⟨env,B,Z,o,R,e,k⟩=>by
  unfold retO at e
  split at e
  · rename_i ds hi
    cases e
    obtain ⟨y,e1,a,o,e2,e3,e4,vs,rfl,r⟩:=R.sl i _ hi
    subst e2
    exact ⟨_,e1,k _ Z H ⟨R.bh,Same.refl _,R.zh,fun _ _ h=>h⟩ ⟨a,vs,ds,rfl,rfl,R.ob i _ a hi e1,e3,e4,r⟩⟩
  · cases e
def retQ (i:Nat):Fs:=fun env=>match env[i]? with
  | some (.O (.T ks))=>some (.rt (.dct ks))
  | _=>none
theorem s_retQ (i:Nat) {x:Str} {p:Pos} (hN:X.N[i]?=some x:=by rfl) (hv:Vis X.env.scope x:=by first | exact Or.inl rfl | exact Or.inr (Or.inl rfl) | exact Or.inr (Or.inr rfl)) (hd:(x==("__debug__":Str))=false:=by decide)
    (hcd:(x==("__classdict__":Str))=false:=by decide):SD X .nd (.Return (some (.Name x p)) pos) (retQ i):=PS.imp (ps_ret (pe_var hN hv hd hcd)) fun E σ H ⟨env,B,Z,o,R,e,k⟩=>by
  unfold retQ at e
  split at e
  · rename_i ks hi
    cases e
    obtain ⟨y,e1,a,o,e2,e3,e4,r⟩:=R.sl i _ hi
    obtain ⟨bs,rfl,r⟩:=r
    subst e2
    exact ⟨_,e1,k _ Z H ⟨R.bh,Same.refl _,R.zh,fun _ _ h=>h⟩ ⟨a,ks,rfl,rfl,R.ob i _ a hi e1,⟨bs,e3,r⟩,e4⟩⟩
  · cases e
def ifF (t:Fb) (f g:Fs):Fs:=fun env=>(t env).bind fun b=>if b=true then f env else g env
theorem s_if {c:Expr} {a b:List Stmt} {t:Fb} (hc:PB X c t) (ha:SsD X rg a f) (hb:SsD X rg b g):SD X rg (.If c a b pos) (ifF t f g):=PS.imp (ps_if hc ha hb) fun E σ H ⟨env,B,Z,o,R,e,k⟩=>by
  obtain ⟨x,e1,e2⟩:=Option.bind_eq_some_iff.mp e
  refine ⟨env,B,Z,x,R,e1,fun Z1 H1 x1=>?_⟩
  cases x with
  | true=>rw [if_pos rfl] at e2;exact iteT ⟨env,B,Z1,o,R.ext x1,e2,k.later (x1.part R.bh)⟩
  | false=>rw [if_neg (by simp)] at e2;exact iteF ⟨env,B,Z1,o,R.ext x1,e2,k.later (x1.part R.bh)⟩
def setF (i:Nat) (f:Fe):Fs:=fun env=>(f env).bind fun d=>some (.nx (env.set i (.F d)))
def setO (i:Nat) (f:Fe):Fs:=fun env=>(f env).bind fun d=>match d with | .lst ds=>some (.nx (env.set i (.O (.L ds)))) | _=>none
theorem set_pass {f:Fe} {i:Nat} {E:Ends} {σ:L2.St} {H:Hp} (h:TSt X.K rg (setF i f) E σ H):tAsg (T X.K .cl f) (gName i) E σ H:=by
  obtain ⟨env,B,Z,o,R,e,k⟩:=h
  obtain ⟨d,e1,e2⟩:=Option.bind_eq_some_iff.mp e
  cases e2
  exact ⟨env,B,Z,d,R,e1,fun v Z' H' x g=>k _ Z' H' (x.part R.bh) ((R.ext x).setF i g)⟩
theorem setO_pass {f:Fe} {i:Nat} {E:Ends} {σ:L2.St} {H:Hp} (h:TSt X.K rg (setO i f) E σ H):tAsg (T X.K .nw f) (gName i) E σ H:=by
  obtain ⟨env,B,Z,o,R,e,k⟩:=h
  obtain ⟨d,e1,e2⟩:=Option.bind_eq_some_iff.mp e
  cases d<;>cases e2
  rename_i ds
  refine ⟨env,B,Z,_,R,e1,fun v Z' H' x g=>?_⟩
  obtain ⟨a,vs,ds',rfl,e3,h1,h2,h3,r⟩:=g
  cases e3
  refine k _ Z' H' (x.part R.bh) ((R.ext x).setO i (R.bh.free h1) h3 h2 ⟨vs,rfl,r⟩ fun j es hj hje hja=>?_)
  obtain ⟨y,e4,b,us,e5,e6,_⟩:=R.sl j _ hje
  rw [hja] at e4;cases e4;cases e5
  rw [h1] at e6;cases e6
section
variable {x:Str} {e:Expr} {fe:Fe} {pos':Pos}
theorem s_set (i:Nat) (he:PD X .cl e fe) (hN:X.N.Nodup) (hi:X.N[i]?=some x:=by rfl) (hx:Loc X.env.scope x:=by first | exact Or.inl rfl | exact Or.inr rfl) (hs:swapsWith e (some (.Name x pos')) pos.line X.env=pure false:=by rfl)
    (hf:X.fn x=true∨X.env.scope.names.lookup x=some .local:=by first | exact .inl rfl | exact .inr rfl | assumption):SD X rg (.Assign [.Name x pos'] e pos) (setF i fe):=PS.imp (ps_set hN hi hx he hs hf) fun E σ H h=>set_pass h
theorem s_setO (i:Nat) (he:PD X .nw e fe) (hN:X.N.Nodup) (hi:X.N[i]?=some x:=by rfl) (hx:Loc X.env.scope x:=by first | exact Or.inl rfl | exact Or.inr rfl) (hs:swapsWith e (some (.Name x pos')) pos.line X.env=pure false:=by rfl)
    (hf:X.fn x=true∨X.env.scope.names.lookup x=some .local:=by first | exact .inl rfl | exact .inr rfl | assumption):SD X rg (.Assign [.Name x pos'] e pos) (setO i fe):=PS.imp (ps_set hN hi hx he hs hf) fun E σ H h=>setO_pass h
end
def appF (i:Nat) (f:Fe):Fs:=fun env=>match env[i]? with
  | some (.O (.L ds))=>(f env).bind fun d=>if ds.length<16000000 then some (.nx (env.set i (.O (.L (ds++[d]))))) else none
  | _=>none
theorem s_app (i:Nat) {x:Str} {e:Expr} {fe:Fe} {px apos cpos:Pos} (he:PD X .cl e fe) (hN:X.N[i]?=some x:=by rfl) (hv:Vis X.env.scope x:=by first | exact Or.inl rfl | exact Or.inr (Or.inl rfl) | exact Or.inr (Or.inr rfl))
    (hd:(x==("__debug__":Str))=false:=by decide) (hcd:(x==("__classdict__":Str))=false:=by decide) (hst:starEach [e] X.env=[(false,eval e X.env)]:=by rfl)
    (hbase:attributeBase (.Name x px) "append" X.env (eval (.Name x px) X.env)=eval (.Name x px) X.env:=by rfl)
    (hfew:((backTo cpos (starEach [e] X.env)).all (fun x=>!x.1)&&(backToKw cpos (keywordEach [] X.env)).all (fun x=>x.1.isSome)
      && decide (([e]:List Expr).length+([]:List Keyword).length+(if ([]:List Keyword).isEmpty then 0 else 1)<30))=true:=by rfl)
    (hline:(apos.endLine==cpos.line)=true:=by rfl)
    (hs:swapsWith (.Call (.Attribute (.Name x px) "append" apos) [e] [] cpos) none pos.line X.env=pure false:=by rfl) :
    SD X rg (.Expr (.Call (.Attribute (.Name x px) "append" apos) [e] [] cpos) pos) (appF i fe):=by
  refine PS.imp (ps_expr (pe_bm PySem.F.plainAttrs_list PySem.F.slot_list_append PySem.F.type_list_append mt_append (pe_var hN hv hd hcd) (pa_cons he pa_nil hst) hbase hfew hline hst rfl) hs) fun E σ H ⟨env,B,Z,o,R,e,k⟩=>?_
  unfold appF at e
  split at e
  · rename_i ds hi
    obtain ⟨d,e1,e2⟩:=Option.bind_eq_some_iff.mp e
    obtain ⟨hl,rfl⟩:=ifS e2
    · obtain ⟨y,e3,a,o,e4,e5,e6,vs,rfl,r⟩:=R.sl i _ hi
      subst e4
      refine ⟨_,e3,.inl ⟨rfl,vs,SqL.of e5⟩,env,B,Z,d,R,e1,fun v Z1 H1 x1 g1=>?_⟩
      have R1:=R.ext x1
      have r1:=Reps.mono x1.z ds r
      have ha:=x1.h _ _ e5
      refine ⟨a,vs,v,rfl,rfl,ha,by rw [← r.len,sizeLine_eq];omega,?_⟩
      obtain ⟨R2,x2⟩:=R1.wr hi e3 (OwnOk.l (r1.app (Reps.one g1)))
      exact k σ Z1 _ ((x1.part R.bh).transB x2) R2
  · cases e
end
end Mi
namespace Mi
open PySem PySem.Spec PyProof.Rows L2
abbrev Ft:=D→En→Option En
def TGt (K:Fg) (t:Ft):TG:=fun v σ H Q=>∃ env B Z d env',Rl K B Z H env σ∧Rep K Z d v∧t d env=some env'∧∀ σ',Rl K B Z H env' σ'→Q σ' H
def GD (X:Cx) (tg:Expr) (t:Ft):Prop:=PG X tg (TGt X.K t)
section
variable {X:Cx} {rg:Gr}
theorem PG.imp {e:Expr} {t t':TG} (h:PG X e t) (i:∀ v σ H Q,t' v σ H Q→t v σ H Q):PG X e t':=fun pins s σ H v u Q I r q=>h pins s σ H v u Q I r (i v σ H Q q)
def tgN (i:Nat):Ft:=fun d env=>some (env.set i (.F d))
theorem g_name (i:Nat) {x:Str} {pos:Pos} (hN:X.N.Nodup) (hi:X.N[i]?=some x:=by rfl) (hx:Loc X.env.scope x:=by first | exact Or.inl rfl | exact Or.inr rfl)
    (hf:X.fn x=true∨X.env.scope.names.lookup x=some .local:=by first | exact .inl rfl | exact .inr rfl | assumption):GD X (.Name x pos) (tgN i):=PG.imp (pg_name hN hi hx hf) fun v σ H Q ⟨env,B,Z,d,env',R,r,e,k⟩=>by
  cases e
  exact k _ (R.setF i r)
def setAll:List Nat→List D→En→Option En
  | [],[],env=>some env
  | i::is,d::ds,env=>setAll is ds (env.set i (.F d))
  | _,_,_=>none
def TGs1 (K:Fg) (is:List Nat):TGs:=fun vs σ H Q=>∃ env B Z ds env',Rl K B Z H env σ∧Reps K Z ds vs∧setAll is ds env=some env'∧∀ σ',Rl K B Z H env' σ'→Q σ' H
def GsD (X:Cx) (tgs:List Expr) (is:List Nat):Prop:=PGs X tgs (TGs1 X.K is)
theorem PGs.imp {e:List Expr} {t t':TGs} (h:PGs X e t) (i:∀ v σ H Q,t' v σ H Q→t v σ H Q):PGs X e t':=fun pins s σ H v u Q I r q=>h pins s σ H v u Q I r (i v σ H Q q)
theorem gs_nil:GsD X [] []:=PGs.imp pgs_nil fun v σ H Q ⟨env,B,Z,ds,env',R,r,e,k⟩=>by
  cases ds with
  | nil=>cases e;exact ⟨r,k _ R⟩
  | cons d ds=>cases e
theorem gs_cons (i:Nat) {x:Str} {pos:Pos} {tgs:List Expr} {is:List Nat} (hN:X.N.Nodup) (h:GsD X tgs is) (hi:X.N[i]?=some x:=by rfl) (hx:Loc X.env.scope x:=by first | exact Or.inl rfl | exact Or.inr rfl)
    (hf:X.fn x=true∨X.env.scope.names.lookup x=some .local:=by first | exact .inl rfl | exact .inr rfl | assumption)
    (hs:(assignEach (.Name x pos::tgs) X.env).map (·.2)=assign (.Name x pos) X.env::(assignEach tgs X.env).map (·.2):=by rfl):GsD X (.Name x pos::tgs) (i::is):=PGs.imp (pgs_cons (pg_name hN hi hx hf) h hs) fun v σ H Q ⟨env,B,Z,ds,env',R,r,e,k⟩=>by
  cases ds with
  | nil=>cases e
  | cons d ds=>
    obtain ⟨w,rr,e1,r1,r2⟩:=r
    exact ⟨w,rr,e1,env.set i (.F d),B,Z,ds,env',R.setF i r1,r2,e,k⟩
def tgT (is:List Nat):Ft:=fun d env=>match d with
  | .tup ds=>setAll is ds env
  | _=>none
theorem setAll_len:∀ {is:List Nat} {ds:List D} {env env':En},setAll is ds env=some env'→ds.length=is.length
  | [],[],_,_,_=>rfl
  | i::is,d::ds,_,_,h=>by simp [setAll_len (is:=is) (ds:=ds) h]
  | [],_::_,_,_,h=>by cases h
  | _::_,[],_,_,h=>by cases h
theorem g_tup {es:List Expr} {is:List Nat} {k:Nat} {pos:Pos} (hc:X.calm=true) (h:GsD X es is) (hn:(assignEach es X.env).length=is.length:=by rfl) (hst:(assignEach es X.env).findIdx? (·.1)=none:=by rfl):GD X (.Tuple es k pos) (tgT is):=
  PG.imp (pg_tup hc h hn hst) fun v σ H Q ⟨env,B,Z,d,env',R,r,e,k⟩=>by
    cases d<;>try cases e
    rename_i ds
    obtain ⟨a,vs,e1,hq,rr⟩:=r
    exact ⟨a,vs,e1,sameT R.zh hq,by rw [← rr.len];exact setAll_len e,env,B,Z,ds,env',R,rr,e,k⟩
def loopF (t:Ft) (body:Fs):List D→Fs
  | [],env=>some (.nx env)
  | d::ds,env=>(t d env).bind fun e1=>(body e1).bind fun o=>match o with
    | .nx e2=>loopF t body ds e2
    | .ct e2=>loopF t body ds e2
    | .bk e2=>some (.nx e2)
    | .rt d=>some (.rt d)
abbrev Fi:=En→Option (List D)
def Walk (K:Fg) (Z1:Hp) (ds:List D) (J:It):Prop:=∀ (Z' H':Hp),Same Z1 Z'→Same Z' H'→∀ i,
  (i<ds.length→J.go i H'∧∀ x H'',J.yld i H' x H''→∃ Z'' d,Ex Z' H' Z'' H''∧ds[i]?=some d∧Rep K Z'' d x)∧(ds.length≤i→J.stop i H')
def TIt (K:Fg) (f:Fi):TI:=fun σ H R=>∃ env B Z ds,Rl K B Z H env σ∧f env=some ds∧∀ J Z1 H1,Ex Z H Z1 H1→Walk K Z1 ds J→R J H1
def ID (X:Cx) (tg iter:Expr) (f:Fi):Prop:=PI X tg iter (TIt X.K f)
theorem PI.imp {tg e:Expr} {t t':TI} (h:PI X tg e t) (i:∀ σ H R,t' σ H R→t σ H R):PI X tg e t':=fun pins s σ H R I q=>h pins s σ H R I (i σ H R q)
def itL (f:Fe):Fi:=fun env=>(f env).bind fun d=>match d with | .lst ds=>some ds | _=>none
def itT (f:Fe):Fi:=fun env=>(f env).bind fun d=>match d with | .tup ds=>some ds | _=>none
theorem walk_list {K:Fg} {Z1:Hp} {a:Addr} {vs:List V} {ds:List D} (q:SqL K Z1 a vs) (rr:Reps K Z1 ds vs):Walk K Z1 ds (Itl K a):=fun Z' H' s1 s2 i=>by
  have q':=(s1.trans s2).seq q
  refine ⟨fun hi=>⟨⟨vs,vs[i]'(by rw [← rr.len];exact hi),q',by simp [← rr.len,hi]⟩,fun x H'' y=>?_⟩,fun hi=>⟨vs,q',by rw [← rr.len];exact hi⟩⟩
  obtain ⟨e,y⟩:=y
  obtain ⟨d,h1,h2⟩:=rr.getV (y vs q')
  subst e
  exact ⟨Z',d,Ex.refl s2,h1,Rep.mono s1 d h2⟩
theorem walk_tup {K:Fg} {Z1:Hp} {a:Addr} {vs:List V} {ds:List D} (q:SqT K Z1 a vs) (rr:Reps K Z1 ds vs):Walk K Z1 ds (Itt K a):=fun Z' H' s1 s2 i=>by
  have q':=sameT (s1.trans s2) q
  refine ⟨fun hi=>⟨⟨vs,vs[i]'(by rw [← rr.len];exact hi),q',by simp [← rr.len,hi]⟩,fun x H'' y=>?_⟩,fun hi=>⟨vs,q',by rw [← rr.len];exact hi⟩⟩
  obtain ⟨e,y⟩:=y
  obtain ⟨d,h1,h2⟩:=rr.getV (y vs q')
  subst e
  exact ⟨Z',d,Ex.refl s2,h1,Rep.mono s1 d h2⟩
theorem i_list {tg l:Expr} {f:Fe} (h:PD X .cl l f):ID X tg l (itL f):=PI.imp (pi_list h) fun σ H R ⟨env,B,Z,ds,Rr,e,k⟩=>by
  obtain ⟨d,e1,e2⟩:=Option.bind_eq_some_iff.mp e
  cases d<;>cases e2
  refine ⟨env,B,Z,_,Rr,e1,fun v Z1 H1 x1 g1=>?_⟩
  obtain ⟨a,vs,e,q,r⟩:=g1
  exact ⟨a,e,⟨vs,x1.zh.seq q⟩,k _ Z1 H1 x1 (walk_list q r)⟩
theorem i_tup {tg l:Expr} {f:Fe} (h:PD X .cl l f):ID X tg l (itT f):=PI.imp (pi_tup h) fun σ H R ⟨env,B,Z,ds,Rr,e,k⟩=>by
  obtain ⟨d,e1,e2⟩:=Option.bind_eq_some_iff.mp e
  cases d<;>cases e2
  refine ⟨env,B,Z,_,Rr,e1,fun v Z1 H1 x1 g1=>?_⟩
  obtain ⟨a,vs,e,q,r⟩:=g1
  exact ⟨a,e,⟨vs,sameT x1.zh q⟩,k _ Z1 H1 x1 (walk_tup q r)⟩
def rangeL (lo:Int) (n:Nat):List D:=(List.range n).map fun i=>.int (lo+(i:Nat))
theorem walk_rng {K:Fg} {Z1:Hp} (lo:Int) (n:Nat):Walk K Z1 (rangeL lo n) (Itr lo n):=fun Z' H' s1 s2 i=>by
  have hl:(rangeL lo n).length=n:=by simp [rangeL]
  rw [hl]
  refine ⟨fun hi=>⟨hi,fun x H'' y=>?_⟩,fun h=>h⟩
  obtain ⟨e,y⟩:=y
  subst e
  subst y
  exact ⟨Z',.int (lo+i),Ex.refl s2,by simp [rangeL,hi],rfl⟩
def rngOk (j:Int):Bool:=decide (-4000000000000000000<j∧j<4000000000000000000)
def itR1 (f:Fe):Fi:=fun env=>(f env).bind fun d=>match d with
  | .int j=>if rngOk j then some (rangeL 0 j.toNat) else none
  | _=>none
theorem i_range1 {tg l:Expr} {f:Fe} {ga:Gr} {p pos:Pos} (hm:X.mg "range"=none) (h:PD X ga l f) (hg:Gl X "range":=by rfl) (hs:starEach [l] X.env=[(false,eval l X.env)]:=by rfl):ID X tg (.Call (.Name "range" p) [l] [] pos) (itR1 f):=
  PI.imp (pi_range1 hg hm (pa_cons h pa_nil hs) hs) fun σ H R ⟨env,B,Z,ds,Rr,e,k⟩=>by
    obtain ⟨d,e1,e2⟩:=Option.bind_eq_some_iff.mp e
    cases d<;>try cases e2
    rename_i j
    obtain ⟨hj,rfl⟩:=ifS e2
    · have hj':=of_decide_eq_true hj
      refine ⟨env,B,Z,_,Rr,e1,fun v Z1 H1 x1 g1=>⟨j,by rw [g1.int],by omega,by omega,k _ Z1 H1 x1 (walk_rng 0 j.toNat)⟩⟩
def forF (fi:Fi) (t:Ft) (body:Fs):Fs:=fun env=>(fi env).bind fun ds=>loopF t body ds env
theorem s_for {tg iter:Expr} {body:List Stmt} {fi:Fi} {t:Ft} {fb:Fs} {pos:Pos} (hp:PassesOwn (model X.prog X.w) X.A X.env X.xe) (hc:X.calm=true) (hi:ID X tg iter fi) (hg:GD X tg t) (hb:SsD X rg body fb)
    (hs:∀ x,foldedSetIterable iter X.env x=pure x:=by intro _;rfl):SD X rg (.For tg iter body [] pos) (forF fi t fb):=PS.imp (ps_for hp hc hi hg hb hs) fun E σ H ⟨env,B,Z,o,R,e,k⟩=>by
  obtain ⟨ds,e1,e2⟩:=Option.bind_eq_some_iff.mp e
  refine ⟨env,B,Z,ds,R,e1,fun J Z1 H1 x1 wk=>?_⟩
  let In:Nat→L2.St→Hp→Prop:=fun i σ H=>∃ env' Z',Ex Z B Z' H∧Same Z1 Z'∧Rl X.K B Z' H env' σ∧loopF t fb (ds.drop i) env'=some o
  refine ⟨fun i m σ H=>m=ds.length-i∧i≤ds.length∧In i σ H,⟨ds.length,by simp,Nat.zero_le _,env,Z1,x1.part R.bh,Same.refl _,R.ext x1,by simpa using e2⟩,?_⟩
  rintro i m σ2 H2 ⟨rfl,hi,env',Z',x2,s2,R2,e3⟩
  obtain ⟨w1,w2⟩:=wk Z' H2 s2 R2.zh i
  by_cases hlt:i<ds.length
  · obtain ⟨go,yl⟩:=w1 hlt
    refine .inr ⟨go,In (i+1),fun σ' H' n=>⟨ds.length-(i+1),by omega,rfl,hlt,n⟩,fun x H3 y=>?_⟩
    obtain ⟨Z3,d,x3,hd,r3⟩:=yl x H3 y
    have hdr:ds.drop i=d::ds.drop (i+1):=by
      obtain ⟨h1,h2⟩:=List.getElem?_eq_some_iff.mp hd
      rw [List.drop_eq_getElem_cons h1,h2]
    rw [hdr] at e3
    unfold loopF at e3
    obtain ⟨en1,e4,e5⟩:=Option.bind_eq_some_iff.mp e3
    obtain ⟨o1,e6,e7⟩:=Option.bind_eq_some_iff.mp e5
    have R3:=R2.ext x3
    have x4:=x2.transB (x3.part R2.bh)
    refine ⟨env',B,Z3,d,en1,R3,r3,e4,fun σ4 R4=>⟨en1,B,Z3,o1,R4,e6,?_⟩⟩
    cases o1 with
    | nx en2=>exact fun σ5 Z5 H5 x5 R5=>⟨en2,Z5,x4.transB x5,(s2.trans x3.z).trans x5.z,R5,e7⟩
    | ct en2=>exact fun σ5 Z5 H5 x5 R5=>⟨en2,Z5,x4.transB x5,(s2.trans x3.z).trans x5.z,R5,e7⟩
    | bk en2=>cases e7;exact fun σ5 Z5 H5 x5 R5=>k σ5 Z5 H5 (x4.transB x5) R5
    | rt d=>cases e7;exact fun v Z5 H5 x5 g5=>k v Z5 H5 (x4.transB x5) g5
  · refine .inl ⟨w2 (by omega),?_⟩
    rw [List.drop_eq_nil_of_le (by omega)] at e3
    cases e3
    exact k σ2 Z' H2 x2 R2
def unF (is:List Nat) (f:Fe):Fs:=fun env=>(f env).bind fun d=>(tgT is d env).bind fun e=>some (.nx e)
theorem s_un {e:Expr} {es:List Expr} {is:List Nat} {fe:Fe} {k:Nat} {pos p2:Pos} (hc:X.calm=true) (he:PD X .cl e fe) (h:GsD X es is) (hn:(assignEach es X.env).length=is.length:=by rfl) (hst:(assignEach es X.env).findIdx? (·.1)=none:=by rfl)
    (hs:swapsWithSole [.Tuple es k p2] e pos.line X.env=pure false:=by rfl) (hw:swappedStores [.Tuple es k p2] e X.env=pure none:=by rfl) (h1:(assignEach [.Tuple es k p2] X.env).map (·.2)=[assign (.Tuple es k p2) X.env]:=by rfl) :
    SD X rg (.Assign [.Tuple es k p2] e pos) (unF is fe):=PS.imp (ps_asg he (g_tup hc h hn hst) hs hw h1) fun E σ H ⟨env,B,Z,o,R,e,k⟩=>by
  obtain ⟨d,e1,e⟩:=Option.bind_eq_some_iff.mp e
  obtain ⟨en,e2,e⟩:=Option.bind_eq_some_iff.mp e
  cases e
  refine ⟨env,B,Z,d,R,e1,fun v Z1 H1 x1 g1=>⟨env,B,Z1,d,en,R.ext x1,g1,e2,fun σ' R'=>k σ' Z1 H1 (x1.part R.bh) R'⟩⟩
def startE (n:Nat) (ds:List D):En:=ds.map .F++List.replicate (n-ds.length) .un
def runF (f:Fs) (n:Nat) (ds:List D):Option D:=(f (startE n ds)).bind fun o=>match o with | .rt d=>some d | _=>none
theorem Rl.start {K:Fg} {Z H:Hp} {N:List Str} {ds:List D} {vs:List V} (s:Same Z H) (r:Reps K Z ds vs):Rl K H Z H (startE N.length ds) (start N vs):=by
  have hl:=r.len
  have noO:∀ (i:Nat) (es:Own),(startE N.length ds)[i]?≠some (.O es):=fun i es h=>by
    unfold startE at h
    by_cases hi:i<ds.length
    · rw [List.getElem?_append_left (by simpa using hi),List.getElem?_map] at h
      cases q:ds[i]? with
      | none=>rw [q] at h;cases h
      | some d=>rw [q] at h;cases h
    · rw [List.getElem?_append_right (by simpa using hi),List.getElem?_replicate] at h
      split at h<;>cases h
  refine ⟨Same.refl _,s,by simp [startE,L2.start,hl],fun i sl h=>?_,fun i es a h=>absurd h (noO i es),fun i j es _ a _ h=>absurd h (noO i es)⟩
  unfold startE at h
  unfold L2.start
  by_cases hi:i<ds.length
  · rw [List.getElem?_append_left (by simpa using hi),List.getElem?_map] at h
    cases q:ds[i]? with
    | none=>rw [q] at h;cases h
    | some d=>
      rw [q] at h;cases h
      obtain ⟨v,h1,h2⟩:=r.get q
      exact ⟨some v,by rw [List.getElem?_append_left (by simpa [← hl] using hi),List.getElem?_map,h1];rfl,v,rfl,h2⟩
  · rw [List.getElem?_append_right (by simpa using hi),List.getElem?_replicate] at h
    split at h
    · rename_i hk
      cases h
      refine ⟨none,?_,trivial⟩
      rw [List.getElem?_append_right (by simpa [← hl] using hi),List.getElem?_replicate,if_pos (by simpa [hl] using hk)]
    · cases h
end
section
variable {P:Program} {w:World} {K:Fg} {mg:Str→Option Value} {base:Heap}
theorem okD {x qual:Str} {st:Stmt} {f:Addr} {fd:FuncData} {N ps:List Str} {k:Nat} {g:Gr} {m:List D→Option D} {fb:Fs} (F:Fun K x qual st f fd) (S:FnScope N ps (defScope st))
    (hb:∀ (cdv:Value) (A:Around) (outer:List Env) (s:Shared) (H:Hp) (E:XK),Room k (A.deeper (envOfC qual (defScope st) s.heap.objs.size f cdv))→SsD (cxOf CX0 P w K mg base N qual (defScope st) f cdv A outer s H E).nox g (defBody st) fb)
    (hm:∀ ds d,ds.length=ps.length→m ds=some d→runF fb N.length ds=some d):FnOk P w K mg base CX0 (k+1) f fd ps (spD K ps.length g m):=by
  refine F.ok S (fun vs H Q E ⟨Z,ds,d,hl,_,r,_⟩=>by rw [← r.len];exact hl) fun cdv A outer s H vs Q E hr ⟨Z,ds,d,hl,s1,r,e,kk⟩=>?_
  refine ⟨_,hb cdv A outer s H E hr,?_⟩
  obtain ⟨o,e1,e2⟩:=Option.bind_eq_some_iff.mp (hm ds d hl e)
  refine ⟨_,H,Z,o,Rl.start s1 r,e1,?_⟩
  cases o with
  | rt d'=>cases e2;exact kk
  | nx _=>cases e2
  | bk _=>cases e2
  | ct _=>cases e2
end
end Mi
namespace Mi
open PySem PySem.Spec PyProof.Rows L2
mutual
def toPy:D→PyData
  | .non=>.none
  | .bl b=>.bool b
  | .int i=>.int i
  | .str x=>.str x
  | .tup ds=>.tuple (toPys ds)
  | .lst ds=>.list (toPys ds)
  | .dct _=>.none
  | .st _=>.none
  | .ln _=>.none
def toPys:List D→List PyData
  | []=>[]
  | d::ds=>toPy d::toPys ds
end
mutual
def pl:D→Bool
  | .tup ds=>pls ds
  | .lst ds=>pls ds
  | .dct _=>false
  | .st _=>false
  | .ln _=>false
  | _=>true
def pls:List D→Bool
  | []=>true
  | d::ds=>pl d&&pls ds
end
mutual
def eqD:D→D→Bool
  | .non,.non=>true
  | .bl a,.bl b=>a==b
  | .bl a,.int j=>(if a then 1 else 0)==j
  | .int i,.bl b=>i==(if b then 1 else 0)
  | .int i,.int j=>i==j
  | .str x,.str y=>x==y
  | .tup xs,.tup ys=>eqDs xs ys
  | .lst xs,.lst ys=>eqDs xs ys
  | _,_=>false
def eqDs:List D→List D→Bool
  | [],[]=>true
  | x::xs,y::ys=>eqD x y&&eqDs xs ys
  | _,_=>false
end
mutual
theorem eqv_eqD:∀ (d e:D),pl d=true→pl e=true→PyData.eqv (toPy d) (toPy e)=eqD d e
  | .non,e,_,h=>by cases e<;>first | (simp [pl] at h;done) | simp [toPy,PyData.eqv,eqD]
  | .bl b,e,_,h=>by cases e<;>first | (simp [pl] at h;done) | simp [toPy,PyData.eqv,eqD]
  | .int i,e,_,h=>by cases e<;>first | (simp [pl] at h;done) | simp [toPy,PyData.eqv,eqD]
  | .str x,e,_,h=>by cases e<;>first | (simp [pl] at h;done) | simp [toPy,PyData.eqv,eqD]
  | .tup ds,e,h1,h=>by
    unfold pl at h1
    cases e
    case tup es=>unfold pl at h;simp [toPy,PyData.eqv,eqD,eqv_eqDs ds es h1 h]
    case lst es=>unfold pl at h;simp [toPy,PyData.eqv,eqD,eqv_eqDs ds es h1 h]
    all_goals first | (simp [pl] at h;done) | simp [toPy,PyData.eqv,eqD]
  | .lst ds,e,h1,h=>by
    unfold pl at h1
    cases e
    case tup es=>unfold pl at h;simp [toPy,PyData.eqv,eqD,eqv_eqDs ds es h1 h]
    case lst es=>unfold pl at h;simp [toPy,PyData.eqv,eqD,eqv_eqDs ds es h1 h]
    all_goals first | (simp [pl] at h;done) | simp [toPy,PyData.eqv,eqD]
theorem eqv_eqDs:∀ (ds es:List D),pls ds=true→pls es=true→PyData.eqvAll (toPys ds) (toPys es)=eqDs ds es
  | [],es,_,_=>by cases es<;>simp [toPys,PyData.eqvAll,eqDs]
  | d::ds,es,h1,h2=>by
    unfold pls at h1
    rw [Bool.and_eq_true] at h1
    cases es with
    | nil=>simp [toPys,PyData.eqvAll,eqDs]
    | cons e es=>
      unfold pls at h2
      rw [Bool.and_eq_true] at h2
      simp [toPys,PyData.eqvAll,eqDs,eqv_eqD d e h1.1 h2.1,eqv_eqDs ds es h1.2 h2.2]
end
mutual
def dep:D→Nat
  | .tup ds=>deps ds+1
  | .lst ds=>deps ds+1
  | _=>0
def deps:List D→Nat
  | []=>0
  | d::ds=>max (dep d) (deps ds)
end
mutual
theorem depth_dep:∀ (d:D),(toPy d).depth=dep d
  | .non=>by simp [toPy,PyData.depth,dep]
  | .bl b=>by simp [toPy,PyData.depth,dep]
  | .int i=>by simp [toPy,PyData.depth,dep]
  | .str x=>by simp [toPy,PyData.depth,dep]
  | .tup ds=>by simp [toPy,PyData.depth,dep,depth_deps ds]
  | .lst ds=>by simp [toPy,PyData.depth,dep,depth_deps ds]
  | .dct ks=>by simp [toPy,PyData.depth,dep]
  | .st ks=>by simp [toPy,PyData.depth,dep]
  | .ln ks=>by simp [toPy,PyData.depth,dep]
theorem depth_deps:∀ (ds:List D),PyData.depthAll (toPys ds)=deps ds
  | []=>by simp [toPys,PyData.depthAll,deps]
  | d::ds=>by simp [toPys,PyData.depthAll,deps,depth_dep d,depth_deps ds]
end
section
variable {X:Cx} {pins:List (Addr×Obj)} {σ:L2.St} {H:Hp} {s:Shared}
mutual
theorem reads_of (I:Inv X pins σ H s):∀ (d:D) {x:V} {v:Value},pl d=true→Rep X.K H d x→RelV x v→∃ as,Reads s.heap v (toPy d) as
  | .non,_,_,_,h,r=>by cases (show _=V.non from h);cases r;exact ⟨_,.none⟩
  | .bl b,_,_,_,h,r=>by cases (show _=V.bl b from h);cases r;exact ⟨_,.bool b⟩
  | .int i,_,_,_,h,r=>by cases (show _=V.int i from h);obtain ⟨t,rfl⟩:=r;exact ⟨_,.int i t⟩
  | .str y,_,_,_,h,r=>by obtain ⟨h,_⟩:=h;subst h;obtain ⟨t,rfl⟩:=r;exact ⟨_,.str y t⟩
  | .tup ds,_,_,hp,h,r=>by
    unfold pl at hp
    obtain ⟨a,vs,e,q,rr⟩:=h
    subst e
    cases r
    obtain ⟨its,rv,⟨o,ho,hc,n,hd⟩,_⟩:=I.tuple q
    obtain ⟨as,ra⟩:=reads_all I ds hp rr rv
    exact ⟨as,.tuple ho hc hd (by simpa [toPy] using ra)⟩
  | .lst ds,_,_,hp,h,r=>by
    unfold pl at hp
    obtain ⟨a,vs,e,q,rr⟩:=h
    subst e
    cases r
    obtain ⟨its,rv,pl,_⟩:=I.list q
    obtain ⟨o,ho,hc,n,hd⟩:=pl.isList
    obtain ⟨as,ra⟩:=reads_all I ds hp rr rv
    exact ⟨_,.list ho hc hd (by simpa [toPy] using ra)⟩
  | .dct ks,_,_,hp,_,_=>by unfold pl at hp;cases hp
  | .st ks,_,_,hp,_,_=>by unfold pl at hp;cases hp
  | .ln ks,_,_,hp,_,_=>by unfold pl at hp;cases hp
theorem reads_all (I:Inv X pins σ H s):∀ (ds:List D) {vs:List V} {us:List Value},pls ds=true→Reps X.K H ds vs→Vals vs us→∃ as,ReadsAll s.heap us (toPys ds) as
  | [],_,_,_,h,r=>by cases (show _=[] from h);cases r;exact ⟨_,by simpa [toPys] using ReadsAll.nil⟩
  | d::ds,_,_,hp,h,r=>by
    unfold pls at hp
    rw [Bool.and_eq_true] at hp
    obtain ⟨v,vr,e,h1,h2⟩:=h
    subst e
    cases r with
    | cons r1 r2=>
      obtain ⟨as,q1⟩:=reads_of I d hp.1 h1 r1
      obtain ⟨bs,q2⟩:=reads_all I ds hp.2 h2 r2
      exact ⟨_,by simpa [toPys] using ReadsAll.cons q1 q2⟩
end
mutual
theorem can_of:∀ (d:D) {x:V},Rep X.K H d x→(toPy d).canLay0=true
  | .non,_,_=>by simp [toPy,PyData.canLay0]
  | .bl b,_,_=>by simp [toPy,PyData.canLay0]
  | .int i,_,_=>by simp [toPy,PyData.canLay0]
  | .str y,_,h=>by simp [toPy,PyData.canLay0,h.2]
  | .tup ds,_,⟨a,vs,e,q,rr⟩=>by simp [toPy,PyData.canLay0,can_all ds rr]
  | .lst ds,_,⟨a,vs,e,q,rr⟩=>by simp [toPy,PyData.canLay0,can_all ds rr]
  | .dct ks,_,_=>by simp [toPy,PyData.canLay0]
  | .st ks,_,_=>by simp [toPy,PyData.canLay0]
  | .ln ks,_,_=>by simp [toPy,PyData.canLay0]
theorem can_all:∀ (ds:List D) {vs:List V},Reps X.K H ds vs→PyData.canLayAll0 (toPys ds)=true
  | [],_,_=>by simp [toPys,PyData.canLayAll0]
  | d::ds,_,⟨v,vr,e,h1,h2⟩=>by simp [toPys,PyData.canLayAll0,can_of d h1,can_all ds h2]
end
def depOk (d e:D):Bool:=(pl d&&pl e)&&(decide (dep d≤60)||decide (dep e≤60))
def rEqD (K:Fg) (neg:Bool):R2:=fun x y H Q=>∃ dx dy,Rep K H dx x∧Rep K H dy y∧depOk dx dy=true∧Q (.bl (if neg then !eqD dx dy else eqD dx dy)) H
theorem room60 {u a b:Nat} (h:u+64<cLine) (h2:a≤60∨b≤60):u+min a b<cLine:=by omega
theorem depOk_or {d e:D} (h:depOk d e=true):dep d≤60∨dep e≤60:=by unfold depOk at h;rw [Bool.and_eq_true] at h;simpa using h.2
theorem depOk_pl {d e:D} (h:depOk d e=true):pl d=true∧pl e=true:=by unfold depOk at h;rw [Bool.and_eq_true,Bool.and_eq_true] at h;exact h.1
theorem op_eqD (hu:X.A.units+64<cLine):OpR X (compareOp .Eq) (rEqD X.K false):=by
  intro pins s σ H x y v u Q I rx ry h
  obtain ⟨dx,dy,h1,h2,hd,q⟩:=h
  obtain ⟨p1,p2⟩:=depOk_pl hd
  obtain ⟨as,r1⟩:=reads_of I dx p1 h1 rx
  obtain ⟨bs,r2⟩:=reads_of I dy p2 h2 ry
  refine SeqAt.compareEq_reads r1 r2 (can_of dx h1) (can_of dy h2) (by rw [depth_dep,depth_dep];exact room60 hu (depOk_or hd)) ?_
  rw [eqv_eqD _ _ p1 p2]
  exact ⟨.bl _,H,I,rfl,q⟩
theorem op_neD (hu:X.A.units+64<cLine):OpR X (compareOp .NotEq) (rEqD X.K true):=by
  intro pins s σ H x y v u Q I rx ry h
  obtain ⟨dx,dy,h1,h2,hd,q⟩:=h
  obtain ⟨p1,p2⟩:=depOk_pl hd
  obtain ⟨as,r1⟩:=reads_of I dx p1 h1 rx
  obtain ⟨bs,r2⟩:=reads_of I dy p2 h2 ry
  refine SeqAt.compareNe_reads r1 r2 (can_of dx h1) (can_of dy h2) (by rw [depth_dep,depth_dep];exact room60 hu (depOk_or hd)) ?_
  rw [eqv_eqD _ _ p1 p2]
  exact ⟨.bl _,H,I,rfl,q⟩
def eqF:D→D→Option D:=fun a b=>if depOk a b=true then some (.bl (eqD a b)) else none
def neF:D→D→Option D:=fun a b=>if depOk a b=true then some (.bl !eqD a b) else none
theorem d_eq {K:Fg}:Does K .cl eqF (rEqD K false):=fun {Z H x y dx dy d Q} s h1 h2 e k=>by
  obtain ⟨hd,rfl⟩:=ifS e
  exact ⟨dx,dy,h1.rep s,h2.rep s,hd,k _ Z H (Ex.refl s) rfl⟩
theorem d_ne {K:Fg}:Does K .cl neF (rEqD K true):=fun {Z H x y dx dy d Q} s h1 h2 e k=>by
  obtain ⟨hd,rfl⟩:=ifS e
  exact ⟨dx,dy,h1.rep s,h2.rep s,hd,k _ Z H (Ex.refl s) rfl⟩
variable {l r c:Expr} {fa fb fc:Fe} {ga gb gc:Gr} {pos p p2:Pos} {k:Nat}
theorem m_eq (hr:Room k X.A) (ha:PD X ga l fa) (hb:PD X gb r fb):PD X .cl (.Compare l [.Eq] [r] pos) (op2 eqF fa fb):=m_cmp (op_eqD hr.units) d_eq ha hb (nomark _)
theorem m_ne (hr:Room k X.A) (ha:PD X ga l fa) (hb:PD X gb r fb):PD X .cl (.Compare l [.NotEq] [r] pos) (op2 neF fa fb):=m_cmp (op_neD hr.units) d_ne ha hb (nomark _)
theorem b_eq (hr:Room k X.A) (ha:PD X ga l fa) (hb:PD X gb r fb):PB X (.Compare l [.Eq] [r] pos) (fB (op2 eqF fa fb)):=b_cmp (op_eqD hr.units) d_eq ha hb (nomark _)
theorem b_ne (hr:Room k X.A) (ha:PD X ga l fa) (hb:PD X gb r fb):PB X (.Compare l [.NotEq] [r] pos) (fB (op2 neF fa fb)):=b_cmp (op_neD hr.units) d_ne ha hb (nomark _)
def inD (d:D) (es:List D):Bool:=es.any fun e=>eqD e d
def inF (neg:Bool):D→D→Option D
  | d,.lst es=>if dep d≤60∧(pl d&&pls es)=true then some (.bl (if neg then !inD d es else inD d es)) else none
  | d,.tup es=>if dep d≤60∧(pl d&&pls es)=true then some (.bl (if neg then !inD d es else inD d es)) else none
  | _,_=>none
def rInD (K:Fg) (neg:Bool):R2:=fun x y H Q=>∃ dx es p ys,Rep K H dx x∧y=.ref p∧(SqL K H p ys∨SqT K H p ys)∧Reps K H es ys∧(dep dx≤60∧(pl dx&&pls es)=true)∧Q (.bl (if neg then !inD dx es else inD dx es)) H
noncomputable def eqVal (h:Heap) (d:PyData) (y:Value):Bool:=@decide (∃ e as,Reads h y e as∧e.canLay0=true∧PyData.eqv e d=true) (Classical.propDecidable _)
theorem eqVal_of {h:Heap} {d e:PyData} {y:Value} {as:List Addr} (r:Reads h y e as) (c:e.canLay0=true):eqVal h d y=PyData.eqv e d:=by
  unfold eqVal
  cases q:PyData.eqv e d with
  | true=>exact @decide_eq_true _ (Classical.propDecidable _) ⟨e,as,r,c,q⟩
  | false=>
    refine @decide_eq_false _ (Classical.propDecidable _) fun ⟨e',as',r',c',q'⟩=>?_
    rw [SeqAt.Reads.unique e' e y as' as c' r' r] at q'
    rw [q] at q';cases q'
theorem any_eqVal (I:Inv X pins σ H s) (dx:D) (hx:pl dx=true):∀ {es:List D} {ys:List V} {us:List Value},pls es=true→Reps X.K H es ys→Vals ys us→us.any (eqVal s.heap (toPy dx))=inD dx es
  | [],_,_,_,h,r=>by cases (show _=[] from h);cases r;rfl
  | e::es,_,_,hp,h,r=>by
    unfold pls at hp
    rw [Bool.and_eq_true] at hp
    obtain ⟨v,vr,z,h1,h2⟩:=h
    subst z
    cases r with
    | cons r1 r2=>
      obtain ⟨as,q⟩:=reads_of I e hp.1 h1 r1
      have ih:=any_eqVal I dx hx hp.2 h2 r2
      unfold inD at ih ⊢
      rw [List.any_cons,List.any_cons,ih,eqVal_of q (can_of e h1),eqv_eqD _ _ hp.1 hx]
theorem all_eqAt (I:Inv X pins σ H s) {A:Around} {dx:D} {x:V} {v:Value} (hx:Rep X.K H dx x) (rx:RelV x v) (hu:A.units+64<cLine) (hd:dep dx≤60) (hpx:pl dx=true):∀ {es:List D} {ys:List V} {us:List Value},pls es=true→Reps X.K H es ys→Vals ys us→
    ∀ u∈us,SeqAt.EqAt A s u v (eqVal s.heap (toPy dx) u)
  | [],_,_,_,h,r,u,hm=>by cases (show _=[] from h);cases r;cases hm
  | e::es,_,_,hp,h,r,u,hm=>by
    unfold pls at hp
    rw [Bool.and_eq_true] at hp
    obtain ⟨w,vr,z,h1,h2⟩:=h
    subst z
    cases r with
    | cons r1 r2=>
      rcases List.mem_cons.mp hm with rfl | hm
      · obtain ⟨as,q⟩:=reads_of I e hp.1 h1 r1
        obtain ⟨bs,q2⟩:=reads_of I dx hpx hx rx
        rw [eqVal_of q (can_of e h1)]
        exact SeqAt.eqAt_reads _ _ A s _ _ as bs q q2 (can_of e h1) (can_of dx hx) (by rw [depth_dep,depth_dep];exact room60 hu (.inr hd))
      · exact all_eqAt I hx rx hu hd hpx hp.2 h2 r2 u hm
theorem op_inD (hu:X.A.units+66<cLine) (neg:Bool):OpR X (compareOp (if neg then .NotIn else .In)) (rInD X.K neg):=by
  intro pins s σ H x y v u Q I rx ry h
  obtain ⟨dx,es,p,ys,h1,rfl,h2,rr,⟨hd,hpp⟩,q⟩:=h
  rw [Bool.and_eq_true] at hpp
  obtain ⟨hpx,hpe⟩:=hpp
  cases ry
  have hu':X.A.in1.units+64<cLine:=by show X.A.units+1+64<cLine;omega
  rcases h2 with h2 | h2
  · obtain ⟨its,r',pl,hz⟩:=I.list h2
    have ha:=any_eqVal I dx hpx hpe rr r'
    have hall:∀ y,y∈its.toArray→SeqAt.EqAt X.A.in1 s y v (eqVal s.heap (toPy dx) y):=fun y hy=>all_eqAt I h1 rx hu' hd hpx hpe rr r' y (by simpa using hy)
    have fin:EP X pins σ Q (.bool (if neg then !its.toArray.any (eqVal s.heap (toPy dx)) else its.toArray.any (eqVal s.heap (toPy dx)))) s:=⟨_,H,I,(by rw [List.any_toArray,ha]<;>rfl),q⟩
    cases neg with
    | false=>exact SeqAt.in_listAt _ pl.isList hall fin
    | true=>exact SeqAt.notIn_listAt _ pl.isList hall fin
  · obtain ⟨its,r',pl,hz⟩:=I.tuple h2
    have ha:=any_eqVal I dx hpx hpe rr r'
    have hall:∀ y,y∈its.toArray→SeqAt.EqAt X.A.in1 s y v (eqVal s.heap (toPy dx) y):=fun y hy=>all_eqAt I h1 rx hu' hd hpx hpe rr r' y (by simpa using hy)
    have fin:EP X pins σ Q (.bool (if neg then !its.toArray.any (eqVal s.heap (toPy dx)) else its.toArray.any (eqVal s.heap (toPy dx)))) s:=⟨_,H,I,(by rw [List.any_toArray,ha]<;>rfl),q⟩
    cases neg with
    | false=>exact SeqAt.in_tupleAt _ (show s.heap.IsTuple p its.toArray from pl) hall fin
    | true=>exact SeqAt.notIn_tupleAt _ (show s.heap.IsTuple p its.toArray from pl) hall fin
theorem d_in {K:Fg} {neg:Bool}:Does K .cl (inF neg) (rInD K neg):=fun {Z H x y dx dy d Q} s h1 h2 e k=>by
  cases dy<;>try cases e
  · obtain ⟨hd,rfl⟩:=ifS e
    obtain ⟨a,vs,rfl,q,r⟩:=h2.tup s
    exact ⟨dx,_,a,vs,h1.rep s,rfl,.inr q,Reps.mono s _ r,hd,k _ Z H (Ex.refl s) rfl⟩
  · obtain ⟨hd,rfl⟩:=ifS e
    obtain ⟨a,vs,rfl,q,r⟩:=h2.lst s
    exact ⟨dx,_,a,vs,h1.rep s,rfl,.inl q,Reps.mono s _ r,hd,k _ Z H (Ex.refl s) rfl⟩
theorem units66 {A:Around} (r:Room k A):A.units+66<cLine:=by have:=r.un;omega
theorem b_nin (hr:Room k X.A) (ha:PD X ga l fa) (hb:PD X gb r fb) (hm:behindInMarks .NotIn r=false:=by rfl):PB X (.Compare l [.NotIn] [r] pos) (fB (op2 (inF true) fa fb)):=b_cmp (op_inD (units66 hr) true) d_in ha hb hm
inductive Ty where | int | bool | str | tuple | list
def Ty.nm:Ty→String
  | .int=>"int" | .bool=>"bool" | .str=>"str" | .tuple=>"tuple" | .list=>"list"
def isK:Ty→D→Bool
  | .int,.int _=>true
  | .int,.bl _=>true
  | .bool,.bl _=>true
  | .str,.str _=>true
  | .tuple,.tup _=>true
  | .list,.lst _=>true
  | _,_=>false
def tyD:D→String
  | .non=>"NoneType" | .bl _=>"bool" | .int _=>"int" | .str _=>"str" | .tup _=>"tuple" | .lst _=>"list" | .dct _=>"dict" | .st _=>"set" | .ln _=>"dict"
theorem kit_isK {K:Fg} (T:Ty) (d:D):PySem.W.kitOne K (.type (tyD d)) (.type T.nm)=some (isK T d):=by
  cases T<;>cases d<;>rfl
theorem call_isi (T:Ty):CallR X (.builtin "isinstance") (fun xs H Q=>∃ x d,xs=[x,.ty T.nm]∧Rep X.K H d x∧Q (.bl (isK T d)) H):=by
  intro pins s σ H xs us Q I r h
  obtain ⟨x,d,rfl,hd,q⟩:=h
  obtain ⟨u,w,rfl,rx,rt⟩:=r.two
  cases (show w=Value.type T.nm from rt)
  have e:=kit_isK (K:=X.K) T d
  have fin:∀ tk,EP X pins σ Q (.bool (isK T d)) { s with toks:=tk }:=fun tk=>⟨.bl _,H,I.tok tk,rfl,q⟩
  cases d with
  | non=>cases (show x=V.non from hd);cases (show u=Value.none from rx);exact PySem.W.kia_one PySem.W.kitx_none I.kIn True.intro e (fun z=>nomatch z) fin
  | bl b=>cases (show x=V.bl b from hd);cases (show u=Value.bool b from rx);exact PySem.W.kia_one PySem.W.kitx_bool I.kIn True.intro e (fun z=>nomatch z) fin
  | int i=>cases (show x=V.int i from hd);obtain ⟨t,z⟩:=(show ∃ t,u=Value.int i t from rx);cases z;exact PySem.W.kia_one PySem.W.kitx_int I.kIn True.intro e (fun z=>nomatch z) fin
  | str y=>obtain ⟨hd,_⟩:=hd;subst hd;obtain ⟨t,z⟩:=(show ∃ t,u=Value.str y t from rx);cases z;exact PySem.W.kia_one PySem.W.kitx_str I.kIn True.intro e (fun z=>nomatch z) fin
  | tup ds=>
    obtain ⟨a,vs,e1,hq,rr⟩:=hd
    subst e1
    cases (show u=Value.ref a from rx)
    obtain ⟨its,_,⟨o,h1,h2,_⟩,_⟩:=I.tuple hq
    exact PySem.W.kia_one PySem.W.kitx_tuple I.kIn ⟨o,h1,h2⟩ e (fun z=>nomatch z) fin
  | lst ds=>
    obtain ⟨a,vs,e1,hq,rr⟩:=hd
    subst e1
    cases (show u=Value.ref a from rx)
    obtain ⟨its,_,pl,_⟩:=I.list hq
    obtain ⟨o,h1,h2,_⟩:=pl.isList
    exact PySem.W.kia_one PySem.W.kitx_list I.kIn ⟨o,h1,h2⟩ e (fun z=>nomatch z) fin
  | dct ks=>
    obtain ⟨a,e1,hq⟩:=hd
    subst e1
    cases (show u=Value.ref a from rx)
    obtain ⟨bs,hq,_⟩:=hq
    obtain ⟨⟨o,es,ep,h1,h2,_⟩,_⟩:=(show ObjOk X.prog X.w H s.heap a (.ext (DicP a ks bs)) from I.hok a _ hq)
    exact PySem.W.kia_one PySem.W.kitx_dict I.kIn ⟨o,h1,h2.1⟩ e (fun z=>nomatch z) fin
  | st ps=>
    obtain ⟨a,bs,e1,_,hq,_⟩:=hd
    subst e1
    cases (show u=Value.ref a from rx)
    obtain ⟨⟨o,es,ep,t,h1,h2,_⟩,_⟩:=(show ObjOk X.prog X.w H s.heap a (.ext (SetP a ps bs)) from I.hok a _ hq)
    exact PySem.W.kia_one PySem.W.kitx_set I.kIn ⟨o,h1,h2.1⟩ e (fun z=>nomatch z) fin
  | ln n=>
    obtain ⟨a,e1,hq⟩:=hd
    subst e1
    cases (show u=Value.ref a from rx)
    obtain ⟨⟨o,es,ep,h1,h2,_⟩,_⟩:=(show ObjOk X.prog X.w H s.heap a (.ext (LenP a n)) from I.hok a _ hq)
    exact PySem.W.kia_one PySem.W.kitx_dict I.kIn ⟨o,h1,h2.1⟩ e (fun z=>nomatch z) fin
def isiF (T:Ty):D→Option D:=fun d=>some (.bl (isK T d))
theorem boot_ty (T:Ty):bootBuiltins (Str.ofString T.nm)=some (.type T.nm):=by
  cases T
  · exact PyProof.Rows.boot_int
  · exact PyProof.Rows.boot_bool
  · exact PyProof.Rows.boot_str
  · exact PyProof.Rows.boot_tuple
  · exact PyProof.Rows.boot_list
theorem m_isi (T:Ty) (hm:X.mg "isinstance"=none) (hm2:X.mg (Str.ofString T.nm)=none) (ha:PD X ga l fa) (hg:Gl X "isinstance":=by rfl) (hg2:Gl X (Str.ofString T.nm):=by rfl)
    (hn:(Str.ofString T.nm)≠"__name__":=by decide) (hdb:((Str.ofString T.nm)==("__debug__":Str))=false:=by decide)
    (he:starEach [l,.Name (Str.ofString T.nm) p2] X.env=(false,eval l X.env)::starEach [.Name (Str.ofString T.nm) p2] X.env:=by rfl) :
    PD X .cl (.Call (.Name "isinstance" p) [l,.Name (Str.ofString T.nm) p2] [] pos) (un1 (isiF T) fa):=by
  refine PE.imp (pe_callB (call_isi T) hg hm PyProof.Rows.boot_isinstance (pa_cons ha (pa_cons (pe_bltn hg2 hm2 (boot_ty T) (show RelV (.ty T.nm) (.type T.nm) from rfl) hn hdb) pa_nil rfl) he) (by decide) (by decide) he rfl) fun σ H Q ⟨env,B,Z,d,R,e,k⟩=>?_
  obtain ⟨x,h1,h2⟩:=Option.bind_eq_some_iff.mp e
  cases h2
  exact ⟨env,B,Z,x,R,h1,fun v Z1 H1 x1 g1=>⟨v,x,rfl,g1.rep x1.zh,k _ Z1 H1 x1 rfl⟩⟩
end
end Mi
namespace Mi
open PySem PySem.Spec PyProof.Rows L2
section
variable {elt:Expr} {gens:List Comprehension} {scope:Scope} {pos:Pos} {d:Nat} {tg iter:Expr} {ifs:List Expr} {it acc:Value} {env:Env}
theorem turn_last (h:gens[d]?=some ⟨tg,iter,ifs,0⟩) (h2:gens[d+1]?=none):compTurn (.ListComp elt gens scope pos) d it acc env=(do
    standAt iter.pos
    match ← pyNext it with
    | none=>pure (.done .next)
    | some v=>
      letOwnedTupleGo tg it v
      assign tg env v
      let ok ← forIn ifs true fun c r=>if r=true then do let ok ← isTrue c env (eval c env);pure (ForInStep.yield ok) else pure (ForInStep.yield r)
      if ok then (do let _ ← call (.builtin "list.append") [acc,← eval elt env])
      again (.compLoop (.ListComp elt gens scope pos) d it acc env)):=by
  unfold compTurn
  simp only [h,h2]
  rfl
theorem turn_more {tg' iter':Expr} {ifs':List Expr} (h:gens[d]?=some ⟨tg,iter,ifs,0⟩) (h2:gens[d+1]?=some ⟨tg',iter',ifs',0⟩):compTurn (.ListComp elt gens scope pos) d it acc env=(do
    standAt iter.pos
    match ← pyNext it with
    | none=>pure (.done .next)
    | some v=>
      letOwnedTupleGo tg it v
      assign tg env v
      let ok ← forIn ifs true fun c r=>if r=true then do let ok ← isTrue c env (eval c env);pure (ForInStep.yield ok) else pure (ForInStep.yield r)
      if ok=true then (do
        let x ← eval iter' env
        standAt iter'.pos
        let x ← foldedSetIterable iter' env x
        let i' ← holding [x] (pyIter x)
        let _ ← runOwn (.compStart (.ListComp elt gens scope pos) (d+1) i' acc env) env
        again (.compLoop (.ListComp elt gens scope pos) d it acc env))
      else again (.compLoop (.ListComp elt gens scope pos) d it acc env)):=by
  unfold compTurn
  simp only [h,h2]
  rfl
end
def clOf (lk:Str→Option Addr):List (Str×NameKind)→List (Str×Addr)→Option (List (Str×Addr))
  | [],acc=>some acc
  | (n,k)::r,acc=>if (k==.free)=true then (lk n).bind fun c=>clOf lk r ((n,c)::acc) else clOf lk r acc
theorem clOf_loop {env:Env}:∀ (names:List (Str×NameKind)) (acc cl:List (Str×Addr)),clOf (fun x=>env.cells.lookup x) names acc=some cl→
    (forIn names acc fun (x:Str×NameKind) (r:List (Str×Addr))=>(do if x.2==.free then (do let c ← cellOf env x.1;pure (ForInStep.yield ((x.1,c)::r))) else pure (ForInStep.yield r)):Sem (List (Str×Addr)))=pure cl
  | [],acc,cl,h=>by cases h;rfl
  | (n,k)::r,acc,cl,h=>by
    rw [List.forIn_cons]
    unfold clOf at h
    by_cases hk:(k==NameKind.free)=true
    · rw [if_pos hk] at h
      obtain ⟨c,h1,h2⟩:=Option.bind_eq_some_iff.mp h
      have h1':cellOf env n=pure c:=by unfold cellOf;rw [show env.cells.lookup n=some c from h1]
      simp only [hk,if_true,h1',pure_bind]
      exact clOf_loop r _ cl h2
    · rw [if_neg hk] at h
      simp only [hk,if_false,pure_bind]
      exact clOf_loop r _ cl h
theorem closure_of {scope:Scope} {env:Env} {cl:List (Str×Addr)} (h:clOf (fun x=>env.cells.lookup x) scope.names []=some cl):closureFor scope env=pure cl:=by
  have:=clOf_loop scope.names [] cl h
  unfold closureFor
  simp only
  rw [this]
  rfl
theorem clOf_mem {lk:Str→Option Addr}:∀ {names:List (Str×NameKind)} {acc cl:List (Str×Addr)},clOf lk names acc=some cl→(∀ p∈acc,lk p.1=some p.2)→∀ p∈cl,lk p.1=some p.2
  | [],acc,cl,h,ha=>by cases h;exact ha
  | (n,k)::r,acc,cl,h,ha=>by
    unfold clOf at h
    split at h
    · obtain ⟨c,h1,h2⟩:=Option.bind_eq_some_iff.mp h
      exact clOf_mem h2 fun p hp=>by
        rcases List.mem_cons.mp hp with rfl | hp
        · exact h1
        · exact ha p hp
    · exact clOf_mem h ha
theorem clOf_has {lk:Str→Option Addr}:∀ {names:List (Str×NameKind)} {acc cl:List (Str×Addr)},clOf lk names acc=some cl→∀ x,((x,NameKind.free)∈names∨∃ c,(x,c)∈acc)→∃ c,(x,c)∈cl
  | [],acc,cl,h,x,hx=>by
    cases h
    rcases hx with hx | hx
    · cases hx
    · exact hx
  | (n,k)::r,acc,cl,h,x,hx=>by
    unfold clOf at h
    split at h
    · rename_i hk
      obtain ⟨c,h1,h2⟩:=Option.bind_eq_some_iff.mp h
      refine clOf_has h2 x ?_
      rcases hx with hx | ⟨c',hx⟩
      · rcases List.mem_cons.mp hx with e | hx
        · cases e;exact .inr ⟨c,List.mem_cons_self⟩
        · exact .inl hx
      · exact .inr ⟨c',List.mem_cons_of_mem _ hx⟩
    · rename_i hk
      refine clOf_has h x ?_
      rcases hx with hx | hx
      · rcases List.mem_cons.mp hx with e | hx
        · cases e;exact absurd rfl hk
        · exact .inl hx
      · exact .inr hx
theorem lookup_of_mem {x:Str} {c:Addr}:∀ {cl:List (Str×Addr)},(x,c)∈cl→∃ c',cl.lookup x=some c'
  | [],h=>by cases h
  | (y,b)::r,h=>by
    by_cases e:(x==y)=true
    · exact ⟨b,by simp [List.lookup_cons,e]⟩
    · rcases List.mem_cons.mp h with z | z
      · cases z;exact absurd (beq_self_eq_true x) e
      · obtain ⟨c',h'⟩:=lookup_of_mem z
        exact ⟨c',by simp [List.lookup_cons,e,h']⟩
theorem relabel_kinds {scope:Scope} {env:Env}:∀ {names:List (Str×NameKind)} {x:Str} {k:NameKind},
    (names.map fun (n,k)=>if (k==NameKind.free&&env.scope.kind==.function&&env.kindOf n==some .cell) then (n,NameKind.cell) else (n,k)).lookup x=some k→k=.cell∨k=.free→(x,NameKind.free)∈names∨(x,NameKind.cell)∈names
  | [],x,k,h,_=>by simp at h
  | (n,q)::r,x,k,h,hk=>by
    simp only [List.map_cons] at h
    by_cases hc:(q==NameKind.free&&env.scope.kind==.function&&env.kindOf n==some .cell)=true
    · rw [if_pos hc] at h
      simp only [List.lookup_cons] at h
      cases e:x==n with
      | true=>
        have e':=eq_of_beq e
        subst e'
        simp only [Bool.and_eq_true,beq_iff_eq] at hc
        exact .inl (by rw [hc.1.1];exact List.mem_cons_self)
      | false=>
        rw [e] at h
        rcases relabel_kinds (scope:=scope) h hk with z | z
        · exact .inl (List.mem_cons_of_mem _ z)
        · exact .inr (List.mem_cons_of_mem _ z)
    · rw [if_neg hc] at h
      simp only [List.lookup_cons] at h
      cases e:x==n with
      | true=>
        rw [e] at h
        have e':=eq_of_beq e
        subst e'
        cases h
        rcases hk with rfl | rfl
        · exact .inr List.mem_cons_self
        · exact .inl List.mem_cons_self
      | false=>
        rw [e] at h
        rcases relabel_kinds (scope:=scope) h hk with z | z
        · exact .inl (List.mem_cons_of_mem _ z)
        · exact .inr (List.mem_cons_of_mem _ z)
end Mi
namespace Mi
open PySem PySem.Spec PyProof.Rows L2
def compCx (X:Cx) (scope:Scope) (cl:List (Str×Addr)) (Nc:List Str) (C:Addr) (s:Shared) (H:Hp) (ex:List Addr) (pn:List (Addr×Obj)):Cx:=
  { X with N:=Nc,s₀:=s,H₀:=H,env:=compEnvC scope cl C X.env,outer:=X.stack,stack:=X.stack,ex:=ex,fn:=fun _=>false,pn:=pn,xe:=fun _ _=>False }
def capS (n:Nat) (caps:List Nat) (σ:L2.St):L2.St:=List.replicate n none++caps.map fun j=>(σ[j]?).getD none
def capE (n:Nat) (caps:List Nat) (env:En):En:=List.replicate n .un++caps.map fun j=>match env[j]? with | some (.F d)=>.F d | _=>.un
def capOk (X:Cx) (scope:Scope) (caps:List Nat):Bool:=caps.all fun j=>match X.N[j]? with
  | some x=>(X.env.scope.names.lookup x==some .cell||X.env.scope.names.lookup x==some .free)&&scope.names.lookup x==some .free
  | none=>false
theorem relabel_free {env:Env}:∀ {names:List (Str×NameKind)} {x:Str},names.lookup x=some .free→
    (names.map fun (n,k)=>if (k==NameKind.free&&env.scope.kind==.function&&env.kindOf n==some .cell) then (n,NameKind.cell) else (n,k)).lookup x=some .free∨
    (names.map fun (n,k)=>if (k==NameKind.free&&env.scope.kind==.function&&env.kindOf n==some .cell) then (n,NameKind.cell) else (n,k)).lookup x=some .cell
  | [],x,h=>by simp at h
  | (n,q)::r,x,h=>by
    simp only [List.map_cons]
    simp only [List.lookup_cons] at h
    cases e:x==n with
    | true=>
      rw [e] at h
      cases h
      by_cases hc:(NameKind.free==NameKind.free&&env.scope.kind==.function&&env.kindOf n==some .cell)=true
      · rw [if_pos hc];simp [List.lookup_cons,e]
      · rw [if_neg hc];simp [List.lookup_cons,e]
    | false=>
      rw [e] at h
      by_cases hc:(q==NameKind.free&&env.scope.kind==.function&&env.kindOf n==some .cell)=true
      · rw [if_pos hc];simp only [List.lookup_cons,e];exact relabel_free h
      · rw [if_neg hc];simp only [List.lookup_cons,e];exact relabel_free h
section
variable {X:Cx} {pins:List (Addr×Obj)} {σ:L2.St} {H:Hp} {s:Shared} {scope:Scope} {cl:List (Str×Addr)} {Nc own:List Str} {caps:List Nat} {fp:List Addr}
theorem frs_stack (I:Inv X pins σ H s) {b:Addr} (h1:b≠X.env.locals) (h2:b∉X.fs):b∉frs X.stack:=fun hb=>(List.mem_cons.mp (I.stkSub b hb)).elim h1 h2
theorem comp_inv {h1:Heap} {tk:Nat} {m:Str→Option Value} (I:Inv X pins σ H s) (hcl:clOf (fun x=>X.env.cells.lookup x) scope.names []=some cl) (hkind:scope.kind=.function) (hnc:∀ y∈scope.names,y.2≠.cell)
    (hfp:∀ b∈fp,FpOk X pins H b) (hfl:∀ b∈fp,b<s.heap.objs.size) (hN:Nc.map some=own.map some++caps.map (fun j=>X.N[j]?)) (hcap:capOk X scope caps=true)
    (hns:h1.Ns s.heap.objs.size m) (hk:∀ b o,s.heap.get? b=some o→h1.get? b=some o) :
    Inv (compCx X scope cl Nc s.heap.objs.size s H fp (X.pn++pins)) [] (capS own.length caps σ) H { s with heap:=h1,toks:=tk }:=by
  have mem:=clOf_mem hcl (fun p hp=>by cases hp)
  have low:∀ x c,cl.lookup x=some c→X.env.cells.lookup x=some c:=fun x c h=>mem (x,c) (PySem.mem_of_lookup h)
  have cellAt:∀ x c,cl.lookup x=some c→c<s.heap.objs.size:=fun x c h=>by
    obtain ⟨v,q⟩:=I.cell x c (low x c h)
    exact q.lt
  refine ⟨⟨I.ok.mod,hkind,I.ok.glob,I.ok.blt,Nat.le_refl _,fun x y c h1 h2=>I.ok.inj x y c (low x c h1) (low y c h2),fun x hx=>?_,fun x c hf _=>absurd (show false=true from hf) Bool.false_ne_true,I.ok.hd,I.ok.frames,.inl rfl,fun b hb=>⟨Nat.ne_of_lt (hfl b hb),fun x c h=>(hfp b hb).2.2.2.2.1 x c (low x c h)⟩,
      I.bs,Nat.le_trans I.ok.bsz I.sz,fun b o e hb=>?_,fun b hb hf=>frs_stack I (hfp b hb).2.1 (hfp b hb).2.2.1 hf,I.stack,I.stkFree⟩,
    rfl,I.bare,Un.kept hk,⟨m,hns,fun i x v e1 e2 e3=>?_⟩,fun x c h=>?_,I.hok.fresh (Nat.le_refl _),fun x c h=>I.freeC x c (low x c h),fun p hp=>?_,I.hok.kept hk,?_⟩
  · have hx':(relabel scope X.env).names.lookup x=some .cell∨(relabel scope X.env).names.lookup x=some .free:=hx
    have hmem:(x,NameKind.free)∈scope.names:=by
      rcases hx' with h | h
      · rcases relabel_kinds (scope:=scope) h (.inl rfl) with z | z
        · exact z
        · exact absurd rfl (hnc _ z)
      · rcases relabel_kinds (scope:=scope) h (.inr rfl) with z | z
        · exact z
        · exact absurd rfl (hnc _ z)
    obtain ⟨c,hc⟩:=clOf_has hcl x (.inl hmem)
    exact lookup_of_mem hc
  · rcases (hfp b hb).2.2.2.1 with z | z
    · exact I.ok.noex b o e z
    · exact absurd (Nat.lt_of_lt_of_le (Heap.lt_size e) (Nat.le_trans I.ok.bsz z)) (Nat.lt_irrefl _)
  · have hno:own.length≤i:=by
      by_cases hi:i<own.length
      · unfold capS at e2
        rw [List.getElem?_append_left (by simpa using hi),List.getElem?_replicate,if_pos hi] at e2
        cases e2
      · omega
    unfold capS at e2
    rw [List.getElem?_append_right (by simpa using hno),List.getElem?_map] at e2
    simp only [List.length_replicate] at e2
    cases hj:caps[i-own.length]? with
    | none=>rw [hj] at e2;cases e2
    | some j=>
      rw [hj] at e2
      have e2':(σ[j]?).getD none=some v:=Option.some.inj e2
      have hσ:σ[j]?=some (some v):=by
        cases q:σ[j]? with
        | none=>rw [q] at e2';cases e2'
        | some o=>rw [q] at e2';exact congrArg some e2'
      have hx:X.N[j]?=some x:=by
        have h1:(Nc.map some)[i]?=some (some x):=by rw [List.getElem?_map,show Nc[i]?=some x from e1];rfl
        rw [hN,List.getElem?_append_right (by simpa using hno),List.getElem?_map] at h1
        simp only [List.length_map] at h1
        rw [hj] at h1
        exact Option.some.inj h1
      have hc1:=List.all_eq_true.mp hcap j (List.mem_of_getElem? hj)
      rw [hx] at hc1
      simp only [Bool.and_eq_true,Bool.or_eq_true,beq_iff_eq] at hc1
      obtain ⟨hc1,hc2⟩:=hc1
      obtain ⟨m0,hn0,hl0⟩:=I.loc
      obtain ⟨u,ru,lk⟩:=hl0 j x v hx hσ (.inr hc1)
      refine ⟨u,ru,.inr ?_⟩
      have lk2:∃ c,X.env.cells.lookup x=some c∧s.heap.IsCell c (some u):=by
        rcases lk with ⟨h1,_⟩ | ⟨_,c,h1,h2⟩
        · have h1':X.env.scope.names.lookup x=some .local:=h1
          rcases hc1 with z | z<;>· rw [h1'] at z;cases z
        · exact ⟨c,h1,h2⟩
      obtain ⟨c,h1c,h2c⟩:=lk2
      obtain ⟨c',hc'⟩:=clOf_has hcl x (.inl (PySem.mem_of_lookup hc2))
      obtain ⟨c'',hc''⟩:=lookup_of_mem hc'
      have e4:=low x c'' hc''
      rw [h1c] at e4;cases e4
      refine ⟨?_,c,hc'',?_⟩
      · rcases relabel_free (env:=X.env) hc2 with z | z
        · exact .inr z
        · exact .inl z
      · obtain ⟨o,ho,hd⟩:=h2c
        exact ⟨o,hk c o ho,hd⟩
  · obtain ⟨v,o,ho,hd⟩:=I.cell x c (low x c h)
    exact ⟨v,o,hk c o ho,hd⟩
  · have hp':p∈X.pn++pins:=by simpa [compCx] using hp
    obtain ⟨h1,h2,h3,h4,h5⟩:=I.pin p hp'
    exact ⟨hk _ _ h1,h2,Nat.ne_of_lt (Heap.lt_size h1),frs_stack I h3 h4,h5⟩
  · have:=congrArg List.length hN
    simp only [List.length_map,List.length_append] at this
    simp only [capS,List.length_append,List.length_replicate,List.length_map]
    exact this.symm
end
end Mi
namespace Mi
open PySem PySem.Spec PyProof.Rows L2
def unAll (is:List Nat) (env:En):Bool:=is.all fun i=>match env[i]? with | some .un=>true | _=>false
def goF (t:Ft) (c:Fb) (k:En→Option (List D)) (env:En):List D→Option (List D)
  | []=>some []
  | d::ds=>(t d env).bind fun e1=>(c e1).bind fun b=>(if b=true then k e1 else some []).bind fun xs=>(goF t c k env ds).bind fun ys=>some (xs++ys)
structure TgOk (is:List Nat) (t:Ft):Prop where
  len:∀ {d:D} {env env':En},t d env=some env'→env'.length=env.length
  oth:∀ {d:D} {env env':En},t d env=some env'→∀ (j:Nat),j∉is→env'[j]?=env[j]?
  noO:∀ {d:D} {env env':En},t d env=some env'→∀ (j:Nat) (ds:Own),env'[j]?=some (.O ds)→env[j]?=some (.O ds)
theorem set_noO {env:En} {i:Nat} {d:D} {j:Nat} {ds:Own} (h:(env.set i (.F d))[j]?=some (.O ds)):env[j]?=some (.O ds):=by
  by_cases e:i=j
  · subst e
    by_cases hl:i<env.length
    · rw [List.getElem?_set_self hl] at h;cases h
    · rw [List.getElem?_eq_none (by simpa using Nat.le_of_not_lt hl)] at h;cases h
  · rw [List.getElem?_set_ne e] at h;exact h
theorem tgN_ok (i:Nat):TgOk [i] (tgN i):=⟨fun h=>by cases h;simp,fun h j hj=>by cases h;exact List.getElem?_set_ne (fun z=>hj (by simp [z])),fun h j ds hj=>by cases h;exact set_noO hj⟩
theorem setAll_ok:∀ {is:List Nat} {ds:List D} {env env':En},setAll is ds env=some env'→env'.length=env.length∧(∀ (j:Nat),j∉is→env'[j]?=env[j]?)∧∀ (j:Nat) (es:Own),env'[j]?=some (.O es)→env[j]?=some (.O es)
  | [],[],env,env',h=>by cases h;exact ⟨rfl,fun _ _=>rfl,fun _ _ h=>h⟩
  | i::is,d::ds,env,env',h=>by
    obtain ⟨h1,h2,h3⟩:=setAll_ok (is:=is) (ds:=ds) h
    refine ⟨by simpa using h1,fun j hj=>?_,fun j es hj=>set_noO (h3 j es hj)⟩
    rw [h2 j fun z=>hj (List.mem_cons_of_mem _ z)]
    exact List.getElem?_set_ne fun z=>hj (by simp [z])
  | [],_::_,_,_,h=>by cases h
  | _::_,[],_,_,h=>by cases h
theorem tgT_inv {is:List Nat} {d:D} {env env':En} (h:tgT is d env=some env'):∃ ds,setAll is ds env=some env':=by
  cases d with
  | tup ds=>exact ⟨ds,h⟩
  | _=>cases h
theorem tgT_ok (is:List Nat):TgOk is (tgT is):=
  ⟨fun h=>let ⟨_,q⟩:=tgT_inv h;(setAll_ok q).1,fun h=>let ⟨_,q⟩:=tgT_inv h;(setAll_ok q).2.1,fun h=>let ⟨_,q⟩:=tgT_inv h;(setAll_ok q).2.2⟩
theorem Rl.forget {K:Fg} {B Z H:Hp} {e1 env:En} {σ:L2.St} {is:List Nat} (R:Rl K B Z H e1 σ) (hl:e1.length=env.length) (ho:∀ (j:Nat),j∉is→e1[j]?=env[j]?) (hu:unAll is env=true):Rl K B Z H env σ:=by
  have key:∀ (j:Nat) s,env[j]?=some s→s=.un∨e1[j]?=some s:=fun j s h=>by
    by_cases hj:j∈is
    · have:=List.all_eq_true.mp hu j hj
      rw [h] at this
      cases s with
      | un=>exact .inl rfl
      | F d=>cases this
      | O ds=>cases this
    · exact .inr ((ho j hj).trans h)
  have keyO:∀ (j:Nat) ds,env[j]?=some (.O ds)→e1[j]?=some (.O ds):=fun j ds h=>by
    rcases key j _ h with z | z
    · cases z
    · exact z
  refine ⟨R.bh,R.zh,hl.symm.trans R.len,fun j s h=>?_,fun j ds a h=>R.ob j ds a (keyO j ds h),fun i j ds es a hne h1 h2=>R.ap i j ds es a hne (keyO i ds h1) (keyO j es h2)⟩
  rcases key j s h with rfl | z
  · have hj:j < σ.length:=by rw [← R.len,hl];exact (List.getElem?_eq_some_iff.mp h).1
    exact ⟨σ[j],by simp [hj],trivial⟩
  · exact R.sl j s z
theorem Rl.other {K:Fg} {B Z H:Hp} {env:En} {σ:L2.St} {a:Addr} {o:HO} (R:Rl K B Z H env σ) (hb:B a=none) (hz:Z a=none) (nO:∀ (i:Nat) ds,env[i]?≠some (.O ds)):Rl K B Z (upd H a o) env σ:=
  ⟨smUpdR R.bh hb,smUpdR R.zh hz,R.len,fun j s h=>by
    obtain ⟨x,e,q⟩:=R.sl j s h
    refine ⟨x,e,?_⟩
    cases s with
    | un=>trivial
    | F d=>exact q
    | O ds=>exact absurd h (nO j ds),R.ob,R.ap⟩
structure AcIn (X:Cx) (pins:List (Addr×Obj)) (a:Addr) (B Z H:Hp) (env:En) (σ:L2.St) (pre:List D) (s:Shared):Prop where
  I:Inv X pins σ H s
  R:Rl X.K B Z H env σ
  nO:∀ (i:Nat) ds,env[i]?≠some (.O ds)
  hb:B a=none
  hz:Z a=none
  ac:∃ vs,H a=some (.lst vs)∧Reps X.K Z pre vs
abbrev BdT:=(Shared→Prop)→(Value→Shared→Prop)→Shared→Prop
def Act (X:Cx) (a:Addr) (Bd:BdT) (k:En→Option (List D)):Prop:=∀ (pins:List (Addr×Obj)) (s:Shared) (σ:L2.St) (H B Z:Hp) (env:En) (pre xs:List D) (P:Shared→Prop) (E:Value→Shared→Prop),
  AcIn X pins a B Z H env σ pre s→k env=some xs→pre.length+xs.length≤16000000→(∀ s' σ' H' Z',AcIn X pins a B Z' H' env σ' (pre++xs) s'→Ex Z B Z' H'→P s')→Bd P E s
section
variable {X:Cx} {a:Addr} {elt:Expr} {fe:Fe}
def emitF (f:Fe):En→Option (List D):=fun env=>(f env).bind fun d=>some [d]
def bdEmit (X:Cx) (a:Addr) (elt:Expr):BdT:=fun P E s=>wpAny (model X.prog X.w) X.A (do let _ ← call (.builtin "list.append") [.ref a,← eval elt X.env]:Sem Unit) (fun _ s'=>P s') E s
theorem act_emit (hx:∀ e s,¬ X.xe e s) (h:PD X .cl elt fe):Act X a (bdEmit X a elt) (emitF fe):=by
  intro pins s σ H B Z env pre xs P E A e hl hP
  obtain ⟨d,e1,e2⟩:=Option.bind_eq_some_iff.mp e
  cases e2
  obtain ⟨vs,hv,rr⟩:=A.ac
  refine wpAny_bind (wpAny_mono (h pins s σ H _ A.I ⟨env,B,Z,d,A.R,e1,fun v Z1 H1 x1 g1=>(show ∃ Z1,Ex Z H Z1 H1∧Rep X.K Z1 d v from ⟨Z1,x1,g1⟩)⟩) (fun u s1 ⟨v,H1,I1,r1,Z1,x1,g1⟩=>?_) fun e s z=>(hx e s z).elim)
  have hne:H a≠none:=by rw [hv];simp
  refine wpAny_bind (wpAny_mono (mt_append pins s1 σ H1 (.ref a) [v] (.ref a) [u] (fun y H2=>H2=upd H1 a (.lst (vs++[v]))) I1 rfl (.cons r1 .nil) ⟨a,vs,v,rfl,rfl,x1.h _ _ hv,by rw [← rr.len,sizeLine_eq];simp at hl;omega,rfl⟩) (fun w s2 ⟨y,H2,I2,r2,q⟩=>?_) fun e s z=>(hx e s z).elim)
  subst q
  have hz1:=x1.fr a hne A.hz
  have R1:=A.R.ext x1
  refine wpAny_pure (hP s2 σ _ Z1 ⟨I2,R1.other A.hb hz1 A.nO,A.nO,A.hb,hz1,vs++[v],upd_same,(Reps.mono x1.z pre rr).app (Reps.one g1)⟩ ?_)
  exact ⟨smUpdR R1.bh A.hb,x1.z,smUpdR R1.zh hz1,fun b hb e=>x1.fr b (smSome A.R.bh hb) e⟩
def TsD (X:Cx) (ifs:List Expr) (c:Fb):Prop:=∀ (pins:List (Addr×Obj)) (s:Shared) (σ:L2.St) (H:Hp) (Q:Bool→Hp→Prop) (E:Value→Shared→Prop),Inv X pins σ H s→TB X.K c σ H Q→
  wpAny (model X.prog X.w) X.A (forIn ifs true fun c r=>if r=true then do let ok ← isTrue c X.env (eval c X.env);pure (ForInStep.yield ok) else pure (ForInStep.yield r)) (TP X pins σ Q) E s
theorem ts_nil:TsD X [] (fun _=>some true):=fun pins s σ H Q E I ⟨env,B,Z,b,R,e,k⟩=>by
  cases e
  exact wpAny_tests_nil ⟨H,I,k Z H (Ex.refl R.zh)⟩
theorem ts_one {c:Expr} {f:Fb} (hx:∀ e s,¬ X.xe e s) (h:PB X c f):TsD X [c] f:=fun pins s σ H Q E I q=>
  wpAny_tests_one (wpAny_mono (h pins s σ H Q I q) (fun _ _ z=>z) fun e s z=>(hx e s z).elim)
theorem comp_loop {el:Expr} {gens:List Comprehension} {sc:Scope} {ps:Pos} {dd:Nat} {acc:Value} {tg:Expr} {ifs:List Expr} {is:List Nat} {t:Ft} {c:Fb} {k:En→Option (List D)} {Bd:BdT} {J:It} {fp:List Addr} {it:Addr} {tn:Nat→Heap→Prop}
    (hx:∀ e s,¬ X.xe e s) (hcalm:X.calm=true) (T:Turn X.prog X.w X.K tg J fp it tn) (hg:GD X tg t) (ht:TgOk is t) (hts:TsD X ifs c) (hact:Act X a Bd k)
    (htw:∀ (s:Shared) (Q:Fin→Shared→Prop) (E:Value→Shared→Prop),
      wpAny (model X.prog X.w) X.A (pyNext (.ref it)) (fun r s1=>match r with
        | none=>Q (.done .next) s1
        | some v=>wpAny (model X.prog X.w) X.A (letOwnedTupleGo tg (.ref it) v) (fun _ s2=>wpAny (model X.prog X.w) X.A (assign tg X.env v) (fun _ s3=>
            wpAny (model X.prog X.w) X.A (forIn ifs true fun c r=>if r=true then do let ok ← isTrue c X.env (eval c X.env);pure (ForInStep.yield ok) else pure (ForInStep.yield r)) (fun ok s4=>
              if ok=true then Bd (fun s5=>Q (.again (.compLoop (.ListComp el gens sc ps) dd (.ref it) acc X.env)) s5) E s4 else Q (.again (.compLoop (.ListComp el gens sc ps) dd (.ref it) acc X.env)) s4) E s3) E s2) E s1) E s→
      wpAny (model X.prog X.w) X.A (compTurn (.ListComp el gens sc ps) dd (.ref it) acc X.env) Q E s)
    {pins:List (Addr×Obj)} {s:Shared} {σ:L2.St} {H B Z:Hp} {env:En} {pre xs ds:List D} {R:Result→Shared→Prop} (A:AcIn X pins a B Z H env σ pre s) (hfp:∀ b∈fp,FpOk X pins H b) (htn:tn 0 s.heap) (hw:Walk X.K Z ds J) (hu:unAll is env=true)
    (hgo:goF t c k env ds=some xs) (hl:pre.length+xs.length≤16000000) (hR:∀ s' σ' H' Z',AcIn X pins a B Z' H' env σ' (pre++xs) s'→Ex Z B Z' H'→(∀ b∈fp,H' b=none)→R (.ok .next) s') :
    codeAny (model X.prog X.w) X.A (.compLoop (.ListComp el gens sc ps) dd (.ref it) acc X.env) R s:=by
  have stat:∀ {H':Hp},(∀ b∈fp,H' b=none)→∀ b∈fp,FpOk X pins H' b:=fun hn b hb=>⟨hn b hb,(hfp b hb).2⟩
  refine codeAny_loop rfl (fun n s'=>∃ i σ' H' Z' pre' rest,AcIn X pins a B Z' H' env σ' pre' s'∧tn i s'.heap∧(∀ b∈fp,H' b=none)∧n=ds.length-i∧i≤ds.length∧Ex Z B Z' H'∧goF t c k env (ds.drop i)=some rest∧pre'++rest=pre++xs)
    (fun n s1 hI=>?_) ds.length ⟨0,σ,H,Z,pre,xs,A,htn,fun b hb=>(hfp b hb).1,by simp,Nat.zero_le _,⟨A.R.bh,Same.refl _,A.R.zh,fun _ _ h=>h⟩,by simpa using hgo,rfl⟩
  obtain ⟨i,σ1,H1,Z1,pre1,rest,A1,tn1,fr1,rfl,hi,x1,go1,hpre⟩:=hI
  show wpAny (model X.prog X.w) X.A ((compTurn (.ListComp el gens sc ps) dd (.ref it) acc X.env).onRaise (fun x=>do noteFrame x X.env;theTreesLotGoes x)) _ _ s1
  refine wpAny_noted (htw s1 _ _ ?_)
  obtain ⟨w1,w2⟩:=hw Z1 H1 x1.z A1.R.zh i
  by_cases hlt:i<ds.length
  · obtain ⟨go,yl⟩:=w1 hlt
    refine thn (T.item X rfl rfl rfl hcalm i pins s1 σ1 H1 _ A1.I (stat fr1) tn1 go) fun r s2 ⟨u,hr,h2⟩=>?_
    subst hr
    refine thn h2 fun _ s3 ⟨x,H3,I3,r3,y3,tn3,fr3⟩=>?_
    obtain ⟨Z3,d,x3,hd,rep3⟩:=yl x H3 y3
    have hdr:ds.drop i=d::ds.drop (i+1):=by
      obtain ⟨h1,h2⟩:=List.getElem?_eq_some_iff.mp hd
      rw [List.drop_eq_getElem_cons h1,h2]
    rw [hdr] at go1
    unfold goF at go1
    obtain ⟨e1,g1,go1⟩:=Option.bind_eq_some_iff.mp go1
    obtain ⟨b,g2,go1⟩:=Option.bind_eq_some_iff.mp go1
    obtain ⟨ys,g3,go1⟩:=Option.bind_eq_some_iff.mp go1
    obtain ⟨zs,g4,go1⟩:=Option.bind_eq_some_iff.mp go1
    cases go1
    have I3':=I3.pinned (stat fr3) (T.obj _ _ tn3)
    obtain ⟨vs,hv,rr⟩:=A1.ac
    have hne:H1 a≠none:=by rw [hv];simp
    have hz3:=x3.fr a hne A1.hz
    have R3:=A1.R.ext x3
    refine wpAny_mono (hg _ s3 σ1 H3 x u (fun σ4 H4=>H4=H3∧Rl X.K B Z3 H3 e1 σ4) I3' r3 ⟨env,B,Z3,d,e1,R3,rep3,g1,fun σ4 R4=>⟨rfl,R4⟩⟩) (fun _ s4 ⟨σ4,H4,I4,h4,R4⟩=>?_) fun e s z=>(hx e s z).elim
    subst h4
    have nextI:∀ (s7:Shared) (σ7:L2.St) (H7 Z7:Hp) (pre7:List D),AcIn X (pins++pinsAt fp s3.heap) a B Z7 H7 e1 σ7 pre7 s7→Ex Z B Z7 H7→pre7++zs=pre++xs→
        ∃ m,m<ds.length-i∧∃ i σ' H' Z' pre' rest,AcIn X pins a B Z' H' env σ' pre' s7∧tn i s7.heap∧(∀ b∈fp,H' b=none)∧m=ds.length-i∧i≤ds.length∧Ex Z B Z' H'∧goF t c k env (ds.drop i)=some rest∧pre'++rest=pre++xs:=by
      intro s7 σ7 H7 Z7 pre7 A7 x7 h7
      have pin7:∀ b∈fp,∀ o,s3.heap.get? b=some o→s7.heap.get? b=some o∧H7 b=none:=fun b hb o e=>
        let q:=A7.I.pin (b,o) (List.mem_append_right _ (List.mem_append_right _ (mem_pinsAt hb e)))
        ⟨q.1,q.2.1⟩
      refine ⟨ds.length-(i+1),by omega,i+1,σ7,H7,Z7,pre7,zs,⟨A7.I.unpinned,A7.R.forget (ht.len g1) (ht.oth g1) hu,A1.nO,A7.hb,A7.hz,A7.ac⟩,T.keep _ _ _ tn3 fun b hb o e=>(pin7 b hb o e).1,fun b hb=>?_,rfl,hlt,x7,g4,h7⟩
      obtain ⟨o,e,_⟩:=T.obj _ _ tn3 b hb
      exact (pin7 b hb o e).2
    refine thn (hts _ s4 σ4 H4 (fun b' H5=>b'=b∧∃ Z5,Ex Z3 H4 Z5 H5) _ I4 ⟨e1,B,Z3,b,R4,g2,fun Z5 H5 x5=>⟨rfl,Z5,x5⟩⟩) fun ok s5 ⟨H5,I5,hok,Z5,x5⟩=>?_
    subst hok
    have hne4:H4 a≠none:=smSome x3.h hne
    have hz5:=x5.fr a hne4 hz3
    have x35:=x3.trans x5
    have A5:AcIn X (pins++pinsAt fp s3.heap) a B Z5 H5 e1 σ4 pre1 s5:=⟨I5,R4.ext x5,fun j es h=>A1.nO j es (ht.noO g1 j es h),A1.hb,hz5,vs,x35.h _ _ hv,Reps.mono x35.z pre1 rr⟩
    have xB:Ex Z B Z5 H5:=x1.transB (x35.part A1.R.bh)
    cases ok with
    | false=>
      rw [if_neg (by simp)] at g3
      cases g3
      rw [if_neg (by simp)]
      exact ⟨rfl,nextI s5 σ4 H5 Z5 pre1 A5 xB (by simpa using hpre)⟩
    | true=>
      rw [if_pos rfl] at g3
      rw [if_pos rfl]
      have hlen:=congrArg List.length hpre
      simp only [List.length_append] at hlen
      exact hact _ s5 σ4 H5 B Z5 e1 pre1 ys _ _ A5 g3 (by omega) fun s7 σ7 H7 Z7 A7 x7=>⟨rfl,nextI s7 σ7 H7 Z7 (pre1++ys) A7 (xB.transB x7) (by rw [List.append_assoc];exact hpre)⟩
  · have hii:i=ds.length:=by omega
    subst hii
    rw [List.drop_eq_nil_of_le (by omega)] at go1
    cases go1
    rw [List.append_nil] at hpre
    refine thn (T.done X rfl rfl rfl hcalm _ pins s1 σ1 H1 _ A1.I (stat fr1) tn1 (w2 (Nat.le_refl _))) fun r s2 ⟨hr,I2⟩=>?_
    subst hr
    exact hR s2 σ1 H1 Z1 ⟨I2,A1.R,A1.nO,A1.hb,A1.hz,by rw [← hpre];exact A1.ac⟩ x1 fr1
end
end Mi
namespace Mi
open PySem PySem.Spec PyProof.Rows L2
section
variable {P:Program} {w:World} {A:Around} {elt:Expr} {gens:List Comprehension} {scope:Scope} {pos:Pos} {d:Nat} {tg iter:Expr} {ifs:List Expr} {it acc:Value} {env:Env} {R:Result→Shared→Prop} {s:Shared}
theorem start_list (h:gens[d]?=some ⟨tg,iter,ifs,0⟩) (h0:codeAny (model P w) A (.compLoop (.ListComp elt gens scope pos) d it acc env) R s)
    (h1:wpAny (model P w) A (pyIter it) (fun it' s'=>codeAny (model P w) A (.compLoop (.ListComp elt gens scope pos) d it' acc env) R s') (notedBy (model P w) A env fun x s'=>R (.error x) s') s) :
    codeAny (model P w) A (.compStart (.ListComp elt gens scope pos) d it acc env) R s:=by
  refine codeAny_of_tree (show wpAny (model P w) A ((compStart (.ListComp elt gens scope pos) d it acc env).onRaise (fun x=>do noteFrame x env;standAt theWindowsPlace)) _ _ s from wpAny_notedAt ?_)
  have hc:(clausesOf (.ListComp elt gens scope pos))[d]?=some ⟨tg,iter,ifs,0⟩:=h
  unfold compStart
  rw [hc]
  show wpAny (model P w) A (ask >>= _) _ _ s
  refine wpAny_bind (wpAny_askSetting (wpAny_ite ?_))<;>skip
  split
  · first
      | exact wpAny_bind (wpAny_pure (wpAny_pure ⟨rfl,h0⟩))
      | exact wpAny_pure ⟨rfl,h0⟩
  · refine wpAny_bind (wpAny_rule ?_)
    first
      | exact wpAny_bind (wpAny_standAt (wpAny_bind (wpAny_mono h1 (fun it' s' q=>wpAny_pure ⟨rfl,q⟩) fun _ _ x=>x)))
      | (show wpAny (model P w) A (standAt iter.pos >>= _) _ _ s
         exact wpAny_bind (wpAny_standAt (wpAny_bind (wpAny_mono h1 (fun it' s' q=>wpAny_pure ⟨rfl,q⟩) fun _ _ x=>x))))
end
section
variable {X:Cx} {a:Addr} {elt:Expr} {gens:List Comprehension} {scope:Scope} {pos:Pos} {d:Nat} {tg iter tg' iter':Expr} {ifs ifs':List Expr} {it:Addr}
theorem tw_last (h:gens[d]?=some ⟨tg,iter,ifs,0⟩) (h2:gens[d+1]?=none) (s:Shared) (Q:Fin→Shared→Prop) (E:Value→Shared→Prop)
    (hw:wpAny (model X.prog X.w) X.A (pyNext (.ref it)) (fun r s1=>match r with
        | none=>Q (.done .next) s1
        | some v=>wpAny (model X.prog X.w) X.A (letOwnedTupleGo tg (.ref it) v) (fun _ s2=>wpAny (model X.prog X.w) X.A (assign tg X.env v) (fun _ s3=>
            wpAny (model X.prog X.w) X.A (forIn ifs true fun c r=>if r=true then do let ok ← isTrue c X.env (eval c X.env);pure (ForInStep.yield ok) else pure (ForInStep.yield r)) (fun ok s4=>
              if ok=true then bdEmit X a elt (fun s5=>Q (.again (.compLoop (.ListComp elt gens scope pos) d (.ref it) (.ref a) X.env)) s5) E s4 else Q (.again (.compLoop (.ListComp elt gens scope pos) d (.ref it) (.ref a) X.env)) s4) E s3) E s2) E s1) E s) :
    wpAny (model X.prog X.w) X.A (compTurn (.ListComp elt gens scope pos) d (.ref it) (.ref a) X.env) Q E s:=by
  rw [turn_last h h2]
  refine wpAny_bind (wpAny_standAt (wpAny_bind (thn hw fun r s1 q1=>?_)))
  cases r with
  | none=>exact wpAny_pure q1
  | some v=>
    refine wpAny_bind (thn q1 fun _ s2 q2=>wpAny_bind (thn q2 fun _ s3 q3=>wpAny_bind (thn q3 fun ok s4 q4=>?_)))
    cases ok with
    | false=>exact wpAny_pure (show Q (.again (.compLoop (.ListComp elt gens scope pos) d (.ref it) (.ref a) X.env)) s4 from by rw [if_neg (by simp)] at q4;exact q4)
    | true=>
      rw [if_pos rfl] at q4
      exact wpAny_bind (thn q4 fun _ s5 q5=>wpAny_pure q5)
def bdMore (X:Cx) (a:Addr) (elt:Expr) (gens:List Comprehension) (scope:Scope) (pos:Pos) (d:Nat) (iter':Expr):BdT:=fun P E s=>
  wpAny (model X.prog X.w) X.A (eval iter' X.env) (fun x s5=>wpAny (model X.prog X.w) X.A (pyIter x) (fun i' s6=>
    codeAny (model X.prog X.w) X.A (.compStart (.ListComp elt gens scope pos) (d+1) i' (.ref a) X.env) (fun r s7=>match r with | .ok _=>P s7 | .error e=>cameBackBy (model X.prog X.w) X.A X.env E e s7) s6) E s5) E s
theorem tw_more (h:gens[d]?=some ⟨tg,iter,ifs,0⟩) (h2:gens[d+1]?=some ⟨tg',iter',ifs',0⟩) (hs:∀ x,foldedSetIterable iter' X.env x=pure x) (s:Shared) (Q:Fin→Shared→Prop) (E:Value→Shared→Prop)
    (hw:wpAny (model X.prog X.w) X.A (pyNext (.ref it)) (fun r s1=>match r with
        | none=>Q (.done .next) s1
        | some v=>wpAny (model X.prog X.w) X.A (letOwnedTupleGo tg (.ref it) v) (fun _ s2=>wpAny (model X.prog X.w) X.A (assign tg X.env v) (fun _ s3=>
            wpAny (model X.prog X.w) X.A (forIn ifs true fun c r=>if r=true then do let ok ← isTrue c X.env (eval c X.env);pure (ForInStep.yield ok) else pure (ForInStep.yield r)) (fun ok s4=>
              if ok=true then bdMore X a elt gens scope pos d iter' (fun s5=>Q (.again (.compLoop (.ListComp elt gens scope pos) d (.ref it) (.ref a) X.env)) s5) E s4 else Q (.again (.compLoop (.ListComp elt gens scope pos) d (.ref it) (.ref a) X.env)) s4) E s3) E s2) E s1) E s) :
    wpAny (model X.prog X.w) X.A (compTurn (.ListComp elt gens scope pos) d (.ref it) (.ref a) X.env) Q E s:=by
  rw [turn_more h h2]
  refine wpAny_bind (wpAny_standAt (wpAny_bind (thn hw fun r s1 q1=>?_)))
  cases r with
  | none=>exact wpAny_pure q1
  | some v=>
    refine wpAny_bind (thn q1 fun _ s2 q2=>wpAny_bind (thn q2 fun _ s3 q3=>wpAny_bind (thn q3 fun ok s4 q4=>?_)))
    cases ok with
    | false=>exact wpAny_pure (show Q (.again (.compLoop (.ListComp elt gens scope pos) d (.ref it) (.ref a) X.env)) s4 from by rw [if_neg (by simp)] at q4;exact q4)
    | true=>
      rw [if_pos rfl] at q4
      refine wpAny_bind (thn q4 fun x s5 q5=>wpAny_bind (wpAny_standAt (wpAny_bind (wpAny_of_eq (hs x) (wpAny_bind (wpAny_holding (thn q5 fun i' s6 q6=>?_)))))))
      refine wpAny_bind (wpAny_runOwn (codeAny_mono q6 fun r s7 q7=>?_))
      cases r with
      | ok f=>exact wpAny_pure q7
      | error e=>exact q7
def moreF (fi:Fi) (is:List Nat) (t:Ft) (c:Fb) (k:En→Option (List D)):En→Option (List D):=fun env=>(fi env).bind fun ds=>if unAll is env=true then goF t c k env ds else none
theorem act_more {fi:Fi} {is:List Nat} {t:Ft} {c:Fb} {k:En→Option (List D)} {Bd:BdT} (hx:∀ e s,¬ X.xe e s) (hcalm:X.calm=true) (h2:gens[d+1]?=some ⟨tg',iter',ifs',0⟩)
    (hi:ID X tg' iter' fi) (hg:GD X tg' t) (ht:TgOk is t) (hts:TsD X ifs' c) (hact:Act X a Bd k)
    (htw:∀ (it:Addr) (s:Shared) (Q:Fin→Shared→Prop) (E:Value→Shared→Prop),
      wpAny (model X.prog X.w) X.A (pyNext (.ref it)) (fun r s1=>match r with
        | none=>Q (.done .next) s1
        | some v=>wpAny (model X.prog X.w) X.A (letOwnedTupleGo tg' (.ref it) v) (fun _ s2=>wpAny (model X.prog X.w) X.A (assign tg' X.env v) (fun _ s3=>
            wpAny (model X.prog X.w) X.A (forIn ifs' true fun c r=>if r=true then do let ok ← isTrue c X.env (eval c X.env);pure (ForInStep.yield ok) else pure (ForInStep.yield r)) (fun ok s4=>
              if ok=true then Bd (fun s5=>Q (.again (.compLoop (.ListComp elt gens scope pos) (d+1) (.ref it) (.ref a) X.env)) s5) E s4 else Q (.again (.compLoop (.ListComp elt gens scope pos) (d+1) (.ref it) (.ref a) X.env)) s4) E s3) E s2) E s1) E s→
      wpAny (model X.prog X.w) X.A (compTurn (.ListComp elt gens scope pos) (d+1) (.ref it) (.ref a) X.env) Q E s) :
    Act X a (bdMore X a elt gens scope pos d iter') (moreF fi is t c k):=by
  intro pins s σ H B Z env pre xs P E Ac e hl hP
  obtain ⟨ds,e1,e2⟩:=Option.bind_eq_some_iff.mp e
  have hu:unAll is env=true:=by
    by_cases hu:unAll is env=true
    · exact hu
    · rw [if_neg hu] at e2;cases e2
  rw [if_pos hu] at e2
  refine wpAny_mono (hi pins s σ H (fun J H1=>∃ Z1,Ex Z H Z1 H1∧Walk X.K Z1 ds J) Ac.I ⟨env,B,Z,ds,Ac.R,e1,fun J Z1 H1 x1 wk=>⟨Z1,x1,wk⟩⟩) (fun x s5 q5=>?_) fun e s z=>(hx e s z).elim
  refine wpAny_mono q5 (fun i' s6 ⟨it,fp,tn,J,H6,hit,I6,T,tn6,fp6,Z6,x6,wk⟩=>?_) fun e s z=>(hx e s z).elim
  subst hit
  obtain ⟨vs,hv,rr⟩:=Ac.ac
  have hne:H a≠none:=by rw [hv];simp
  have A6:AcIn X pins a B Z6 H6 env σ pre s6:=⟨I6,Ac.R.ext x6,Ac.nO,Ac.hb,x6.fr a hne Ac.hz,vs,x6.h _ _ hv,Reps.mono x6.z pre rr⟩
  have go:=comp_loop (a:=a) hx hcalm T hg ht hts hact (htw it) A6 fp6 tn6 wk hu e2 hl
    (R:=fun r s7=>match r with | .ok _=>P s7 | .error e=>cameBackBy (model X.prog X.w) X.A X.env E e s7)
    fun s' σ' H' Z' A' x' _=>hP s' σ' H' Z' A' ((x6.part Ac.R.bh).transB x')
  exact start_list h2 go (T.self _ 0 _ _ _ tn6 go)
end
end Mi
namespace Mi
open PySem PySem.Spec PyProof.Rows L2
structure Blk (X:Cx) (a:Addr) (elt:Expr) (gens:List Comprehension) (scope:Scope) (pos:Pos) (d:Nat) (tg:Expr) (ifs:List Expr) (t:Ft) (c:Fb) (k:En→Option (List D)):Prop where
  g:GD X tg t
  ts:TsD X ifs c
  ex:∃ Bd,Act X a Bd k∧∀ (it:Addr) (s:Shared) (Q:Fin→Shared→Prop) (E:Value→Shared→Prop),
      wpAny (model X.prog X.w) X.A (pyNext (.ref it)) (fun r s1=>match r with
        | none=>Q (.done .next) s1
        | some v=>wpAny (model X.prog X.w) X.A (letOwnedTupleGo tg (.ref it) v) (fun _ s2=>wpAny (model X.prog X.w) X.A (assign tg X.env v) (fun _ s3=>
            wpAny (model X.prog X.w) X.A (forIn ifs true fun c r=>if r=true then do let ok ← isTrue c X.env (eval c X.env);pure (ForInStep.yield ok) else pure (ForInStep.yield r)) (fun ok s4=>
              if ok=true then Bd (fun s5=>Q (.again (.compLoop (.ListComp elt gens scope pos) d (.ref it) (.ref a) X.env)) s5) E s4 else Q (.again (.compLoop (.ListComp elt gens scope pos) d (.ref it) (.ref a) X.env)) s4) E s3) E s2) E s1) E s→
      wpAny (model X.prog X.w) X.A (compTurn (.ListComp elt gens scope pos) d (.ref it) (.ref a) X.env) Q E s
section
variable {X:Cx} {a:Addr} {elt:Expr} {gens:List Comprehension} {scope:Scope} {pos:Pos} {d:Nat} {tg iter tg' iter':Expr} {ifs ifs':List Expr} {t t':Ft} {c c':Fb} {k:En→Option (List D)} {fe:Fe} {fi:Fi} {is:List Nat}
theorem blk_last (hx:∀ e s,¬ X.xe e s) (hg:GD X tg t) (hts:TsD X ifs c) (he:PD X .cl elt fe) (h:gens[d]?=some ⟨tg,iter,ifs,0⟩:=by rfl) (h2:gens[d+1]?=none:=by rfl):Blk X a elt gens scope pos d tg ifs t c (emitF fe):=
  ⟨hg,hts,_,act_emit hx he,fun it s Q E hw=>tw_last h h2 s Q E hw⟩
theorem blk_more (hx:∀ e s,¬ X.xe e s) (hcalm:X.calm=true) (hg:GD X tg t) (hts:TsD X ifs c) (hi:ID X tg' iter' fi) (ht:TgOk is t') (b:Blk X a elt gens scope pos (d+1) tg' ifs' t' c' k)
    (h:gens[d]?=some ⟨tg,iter,ifs,0⟩:=by rfl) (h2:gens[d+1]?=some ⟨tg',iter',ifs',0⟩:=by rfl) (hs:∀ x,foldedSetIterable iter' X.env x=pure x:=by intro _;rfl):Blk X a elt gens scope pos d tg ifs t c (moreF fi is t' c' k):=by
  obtain ⟨Bd,hact,htw⟩:=b.ex
  exact ⟨hg,hts,_,act_more hx hcalm h2 hi b.g ht b.ts hact htw,fun it s Q E hw=>tw_more h h2 hs s Q E hw⟩
end
def compF (fi:Fi) (is:List Nat) (t:Ft) (c:Fb) (k:En→Option (List D)) (n:Nat) (caps:List Nat):Fe:=fun env=>(fi env).bind fun ds=>if unAll is (capE n caps env)=true then (goF t c k (capE n caps env) ds).bind fun xs=>if xs.length≤16000000 then some (.lst xs) else none else none
theorem compF_some {fi:Fi} {is:List Nat} {t:Ft} {c:Fb} {k:En→Option (List D)} {n:Nat} {caps:List Nat} {env:En} {d:D} (h:compF fi is t c k n caps env=some d) :
    ∃ ds xs,fi env=some ds∧unAll is (capE n caps env)=true∧goF t c k (capE n caps env) ds=some xs∧xs.length≤16000000∧d=.lst xs:=by
  obtain ⟨ds,e1,e2⟩:=Option.bind_eq_some_iff.mp h
  by_cases hu:unAll is (capE n caps env)=true
  · rw [if_pos hu] at e2
    obtain ⟨xs,e3,e4⟩:=Option.bind_eq_some_iff.mp e2
    obtain ⟨e5,e6⟩:=ifS e4
    exact ⟨ds,xs,e1,hu,e3,e5,e6.symm⟩
  · rw [if_neg hu] at e2;cases e2
theorem capE_noO (n:Nat) (caps:List Nat) (env:En):∀ (i:Nat) ds,(capE n caps env)[i]?≠some (.O ds):=fun i ds h=>by
  unfold capE at h
  by_cases hi:i<n
  · rw [List.getElem?_append_left (by simpa using hi),List.getElem?_replicate,if_pos hi] at h;cases h
  · rw [List.getElem?_append_right (by simpa using hi),List.getElem?_map] at h
    cases q:caps[i-(List.replicate n Slot.un).length]? with
    | none=>rw [q] at h;cases h
    | some j=>
      rw [q] at h
      simp only [Option.map_some,Option.some.injEq] at h
      split at h<;>cases h
theorem Rl.cap {K:Fg} {B Z H H':Hp} {env:En} {σ:L2.St} (R:Rl K B Z H env σ) (n:Nat) (caps:List Nat) (s1:Same H H') (s2:Same Z H'):Rl K H Z H' (capE n caps env) (capS n caps σ):=by
  refine ⟨s1,s2,by simp [capE,capS],fun i s h=>?_,fun i ds a h=>absurd h (capE_noO n caps env i ds),fun i j ds es a _ h=>absurd h (capE_noO n caps env i ds)⟩
  unfold capE at h
  unfold capS
  by_cases hi:i<n
  · rw [List.getElem?_append_left (by simpa using hi),List.getElem?_replicate,if_pos hi] at h ⊢
    cases h
    exact ⟨none,rfl,trivial⟩
  · rw [List.getElem?_append_right (by simpa using hi),List.getElem?_map] at h ⊢
    simp only [List.length_replicate] at h ⊢
    cases q:caps[i-n]? with
    | none=>rw [q] at h;cases h
    | some j=>
      rw [q] at h
      simp only [Option.map_some,Option.some.injEq] at h ⊢
      refine ⟨_,rfl,?_⟩
      split at h
      · rename_i dd hj
        subst h
        obtain ⟨x,h1,v,h2,r⟩:=R.sl j _ hj
        rw [h1,h2]
        exact ⟨v,rfl,r⟩
      · subst h;trivial
section
variable {X:Cx} {elt:Expr} {rest:List Comprehension} {scope:Scope} {pos:Pos} {tg iter:Expr} {ifs:List Expr} {t:Ft} {c:Fb} {k:En→Option (List D)} {fi:Fi} {is caps:List Nat} {cl:List (Str×Addr)} {Nc own:List Str}
theorem comp_core (ht:TgOk is t) (hcalm:X.calm=true) (hcl:clOf (fun x=>X.env.cells.lookup x) scope.names []=some cl) (hkind:scope.kind=.function) (hnc:∀ y∈scope.names,y.2≠.cell)
    (hN:Nc.map some=own.map some++caps.map (fun j=>X.N[j]?)) (hcap:capOk X scope caps=true)
    (hb:∀ C s H ex pn a,Blk (compCx X scope cl Nc C s H ex pn) a elt (⟨tg,iter,ifs,0⟩::rest) scope pos 0 tg ifs t c k)
    {pins:List (Addr×Obj)} {σ:L2.St} {s2:Shared} {H2 B Z2:Hp} {env:En} {ds xs:List D} {E:Value→Shared→Prop} {RR:Value→Addr→Result→Shared→Prop} {it:Addr} {fp:List Addr} {tn:Nat→Heap→Prop} {J:It}
    (I2:Inv X pins σ H2 s2) (R2:Rl X.K B Z2 H2 env σ) (T:Turn X.prog X.w X.K tg J fp it tn) (tn2:tn 0 s2.heap) (fp2:∀ b∈fp,FpOk X pins H2 b) (wk:Walk X.K Z2 ds J) (hu:unAll is (capE own.length caps env)=true)
    (hgo:goF t c k (capE own.length caps env) ds=some xs) (hl:xs.length≤16000000)
    (hRR:∀ a C H' Z' s' vs m,Inv X pins σ H' s'→s'.heap.Ns C m→FpOk X pins H' C→Ex Z2 H2 Z' H'→H2 a=none→H' a=some (.lst vs)→Z' a=none→Reps X.K Z' xs vs→RR (.ref a) C (.ok .next) s') :
    wpAny (model X.prog X.w) X.A (newList []) (fun acc s₃=>wpAny (model X.prog X.w) X.A (newFunctionEnv scope X.env.globals cl [] X.env.qual none .none (some X.env)) (fun cenv s₄=>
      codeAny (model X.prog X.w) X.A (.compStart (.ListComp elt (⟨tg,iter,ifs,0⟩::rest) scope pos) 0 (.ref it) acc { cenv with scope:=relabel scope X.env }) (RR acc cenv.locals) s₄) E s₃) E s2:=by
  refine wpAny_newObj_type ?_ (by size_fits)
  have hf:H2 s2.heap.objs.size=none:=I2.hok.fresh (Nat.le_refl _)
  have I3:Inv X pins σ (upd H2 s2.heap.objs.size (.lst [])) { s2 with heap:=s2.heap.push { cls:=.type "list",dict:=none,data:=.seq ([]:List Value).toArray } }:=
    I2.laid (t':=s2.toks) (fun b u e=>Heap.get?_push_of_some _ e) (Nat.le_refl _) (show ObjOk X.prog X.w _ _ _ (.lst []) from ⟨by simp,[],0,.nil,Heap.get?_push_size _ rfl⟩)
  generalize hs3:({ s2 with heap:=s2.heap.push { cls:=.type "list",dict:=none,data:=.seq ([]:List Value).toArray } }:Shared)=s3 at I3 ⊢
  have k23:∀ b o,s2.heap.get? b=some o→s3.heap.get? b=some o:=fun b o e=>by rw [← hs3];exact Heap.get?_push_of_some _ e
  have sz3:s3.heap.objs.size=s2.heap.objs.size+1:=by rw [← hs3];exact Heap.size_push _ _
  have hfl:∀ b∈fp,b<s2.heap.objs.size:=fun b hb=>let ⟨o,e,_⟩:=T.obj _ _ tn2 b hb;Heap.lt_size e
  have fp3:∀ b∈fp,FpOk X pins (upd H2 s2.heap.objs.size (.lst [])) b:=fun b hb=>⟨by rw [upd_ne (Nat.ne_of_lt (hfl b hb))];exact (fp2 b hb).1,(fp2 b hb).2⟩
  refine wpAny_newFunctionEnv hnc (by intro y hy;simp at hy) (fun h1 hns hsb=>?_) hkind
  have k34:∀ b o,s3.heap.get? b=some o→h1.get? b=some o:=fun b o e=>hsb.extBut b o (Nat.ne_of_lt (Heap.lt_size e)) (Heap.get?_push_of_some _ e)
  have I4:=comp_inv (tk:=s3.toks+([]:List (Str×Value)).length) I3 hcl hkind hnc fp3 (fun b hb=>by rw [sz3];exact Nat.lt_succ_of_lt (hfl b hb)) hN hcap hns k34
  generalize hXc:compCx X scope cl Nc s3.heap.objs.size s3 (upd H2 s2.heap.objs.size (.lst [])) fp (X.pn++pins)=Xc at I4
  have bb:Blk Xc s2.heap.objs.size elt (⟨tg,iter,ifs,0⟩::rest) scope pos 0 tg ifs t c k:=by rw [← hXc];exact hb _ _ _ _ _ _
  obtain ⟨Bd,hact,htw⟩:=bb.ex
  have eP:Xc.prog=X.prog:=by rw [← hXc];rfl
  have eW:Xc.w=X.w:=by rw [← hXc];rfl
  have eK:Xc.K=X.K:=by rw [← hXc];rfl
  have eA:Xc.A=X.A:=by rw [← hXc];rfl
  have eE:Xc.env=compEnvC scope cl s3.heap.objs.size X.env:=by rw [← hXc];rfl
  have hx:∀ e s,¬ Xc.xe e s:=fun e s z=>by rw [← hXc] at z;exact z
  have hcc:Xc.calm=true:=by rw [← hXc];exact hcalm
  have T':Turn Xc.prog Xc.w Xc.K tg J fp it tn:=by rw [eP,eW,eK];exact T
  have A4:AcIn Xc [] s2.heap.objs.size H2 Z2 (upd H2 s2.heap.objs.size (.lst [])) (capE own.length caps env) (capS own.length caps σ) [] { s3 with heap:=h1,toks:=s3.toks+([]:List (Str×Value)).length }:=
    ⟨I4,by rw [eK];exact R2.cap _ _ (smUpd hf) (smUpdR R2.zh (R2.zh.free hf)),capE_noO _ _ _,hf,R2.zh.free hf,[],upd_same,rfl⟩
  have fp4:∀ b∈fp,FpOk Xc [] (upd H2 s2.heap.objs.size (.lst [])) b:=fun b hb=>by
    obtain ⟨f1,f2,f3,f4,f5,f6⟩:=fp3 b hb
    have mem:=clOf_mem hcl (fun p hp=>by cases hp)
    rw [← hXc]
    refine ⟨f1,?_,frs_stack I3 f2 f3,.inl hb,fun x c h=>f5 x c (mem (x,c) (PySem.mem_of_lookup h)),fun p hp=>f6 p (by simpa [compCx] using hp)⟩
    show b≠s3.heap.objs.size
    rw [sz3]
    exact Nat.ne_of_lt (Nat.lt_succ_of_lt (hfl b hb))
  have tn4:tn 0 ({ s3 with heap:=h1,toks:=s3.toks+([]:List (Str×Value)).length }:Shared).heap:=T.keep _ _ _ tn2 fun b _ o e=>k34 b o (k23 b o e)
  have go:=comp_loop (a:=s2.heap.objs.size) hx hcc T' bb.g ht bb.ts hact (htw it) A4 fp4 tn4 (by rw [eK];exact wk) hu hgo (by simpa using hl) (R:=RR (.ref s2.heap.objs.size) s3.heap.objs.size) fun s' σ' H' Z' A' x' fr'=>by
    obtain ⟨vs,hv,rr⟩:=A'.ac
    have base:=A'.I.base
    obtain ⟨mC,nsC,_⟩:=A'.I.loc
    have hok:=A'.I.hok
    have hos:=A'.I.os
    have free:=A'.I.free
    rw [eE] at nsC free
    rw [eP,eW] at hok
    rw [eK] at rr
    have u1:Un (frs X.stack) fp H2 (upd H2 s2.heap.objs.size (.lst [])) s2.heap s3.heap:=Un.laid k23 (Nat.le_refl _) hf
    have u2:Un (frs X.stack) fp (upd H2 s2.heap.objs.size (.lst [])) H' s3.heap s'.heap:=by rw [← hXc] at base;exact base
    have hos':s'.os=s2.os:=by rw [← hXc] at hos;exact hos.trans (by rw [← hs3];rfl)
    have I':Inv X pins σ H' s':=I2.call' hos' (u1.trans u2) hok A'.I.bare fun b hb=>⟨(fp2 b hb).2.2.2.1,(fp2 b hb).2.1,(fp2 b hb).2.2.2.2.1,(fp2 b hb).2.2.2.2.2⟩
    exact hRR s2.heap.objs.size s3.heap.objs.size H' Z' s' vs mC I' nsC (I3.fpOk (Nat.le_refl _) free) x' hf hv A'.hz (by simpa using rr)
  rw [eP,eW,eA,eE] at go
  exact start_list rfl go (T.self _ 0 _ _ _ tn4 go)
theorem m_comp (ht:TgOk is t) (hcalm:X.calm=true) (hi:ID X tg iter fi) (hcl:clOf (fun x=>X.env.cells.lookup x) scope.names []=some cl) (hN:Nc.map some=own.map some++caps.map (fun j=>X.N[j]?))
    (hb:∀ C s H ex pn a,Blk (compCx X scope cl Nc C s H ex pn) a elt (⟨tg,iter,ifs,0⟩::rest) scope pos 0 tg ifs t c k)
    (hcap:capOk X scope caps=true:=by rfl) (hkind:scope.kind=.function:=by rfl) (hnc:∀ y∈scope.names,y.2≠.cell:=by decide +kernel) (hnm:∀ x∈scope.names,x.2=.local→scope.names.lookup x.1=some .local:=by decide +kernel)
    (hs:∀ x,foldedSetIterable iter X.env x=pure x:=by intro _;rfl) :
    PD X .nw (.ListComp elt (⟨tg,iter,ifs,0⟩::rest) scope pos) (compF fi is t c k own.length caps):=by
  intro pins s σ H Q I hT
  obtain ⟨env,B,Z,d,R,e,kk⟩:=hT
  obtain ⟨ds,xs,e1,hu,hgo,hl,rfl⟩:=compF_some e
  rw [eval_ListComp]
  refine wpAny_comprehension_free (use:=none) rfl hs (closure_of hcl) hkind hnm ?_
  refine thn (hi pins s σ H (fun J H1=>∃ Z1,Ex Z H Z1 H1∧Walk X.K Z1 ds J) I ⟨env,B,Z,ds,R,e1,fun J Z1 H1 x1 wk=>⟨Z1,x1,wk⟩⟩) fun x s1 q1=>thn q1 fun itv s2 ⟨it,fp,tn,J,H2,hit,I2,T,tn2,fp2,Z2,x2,wk⟩=>?_
  subst hit
  refine comp_core ht hcalm hcl hkind hnc hN hcap hb I2 (R.ext x2) T tn2 fp2 wk hu hgo hl (RR:=fun acc C=>compPost (model X.prog X.w) X.A X.xe none (EP X pins σ Q) acc C) fun a C H' Z' s' vs m I' ns fpC x' hf hv hz rr=>?_
  refine ⟨m,ns,fun h' hs'=>?_⟩
  obtain ⟨f1,f2,f3,f4,f5,f6⟩:=fpC
  refine ⟨.ref a,H',I'.turned (t':=s'.toks) (it:=C) (fun b o hb e=>hs'.extBut b o hb e) f1 f2.symm.symm f4 f5 f6,rfl,kk _ Z' H' (x2.trans x') ⟨a,vs,xs,rfl,rfl,x2.h.free hf,hv,hz,rr⟩⟩
end
end Mi
namespace Mi
open PySem PySem.Spec PyProof.Rows L2
section
variable {P:Program} {w:World} {A:Around} {E:Value→Shared→Prop}
theorem drawL {it l:Addr} {items:Array Value} (hne:l≠it):∀ (n i:Nat) (s:Shared) (Q:List Value→Shared→Prop),s.heap.IsListIter it l i→s.heap.IsList l items→i+n≤items.size→
    (∀ h',h'.IsListIter it l (i+n)→Heap.SameBut it s.heap h'→Q ((items.toList.drop i).take n) { s with heap:=h' })→wpAny (model P w) A (draw (.ref it) n) Q E s:=by
  intro n
  induction n with
  | zero=>intro i s Q hit hl hle hQ;exact wpAny_pure (show Q [] s from by simpa using hQ s.heap (by simpa using hit) (Heap.SameBut.refl ..))
  | succ n ih=>
    intro i s Q hit hl hle hQ
    have hlt:i<items.size:=by omega
    refine (show wpAny (model P w) A (pyNext (.ref it) >>= _) Q E s from wpAny_bind (wpAny_pyNext_list_item hit hl (x:=items[i]) (by simp [hlt]) fun h1 hit1 hs1=>?_))
    refine wpAny_bind (wpAny_holding (ih (i+1) _ _ hit1 (hl.extBut hs1.extBut hne) (by omega) fun h2 hit2 hs2=>wpAny_pure ?_))
    have q:=hQ h2 (by rw [show i+(n+1)=i+1+n by omega];exact hit2) (hs1.trans hs2)
    have hd:items.toList.drop i=items[i]::items.toList.drop (i+1):=by simp [List.drop_eq_getElem_cons,hlt]
    rw [hd,List.take_succ_cons] at q
    exact q
theorem unpackL {l:Addr} {items:Array Value} {s:Shared} {Q:List Value→Shared→Prop} (hh:A.handled=none) (hl:s.heap.IsList l items) (hQ:∀ h',Heap.ExtBut s.heap.objs.size s.heap h'→Q items.toList { s with heap:=h' }) :
    wpAny (model P w) A (unpackItems (.ref l) items.size none) Q E s:=by
  have hlt:l≠s.heap.objs.size:=by obtain ⟨o,ho,_⟩:=hl;exact Nat.ne_of_lt (Heap.lt_size ho)
  unfold unpackItems
  refine wpAny_bind (m:=notIterableAtAll (.ref l)) ?_
  · unfold notIterableAtAll
    refine wpAny_bind (wpAny_specialOf hl.typeIs PySem.slot_list_iter.lookup (wpAny_pure ?_))
    simp only [Bool.false_eq_true,if_false]
    have hl1:(s.heap.push { cls:=.type "list_iterator",data:=.fields #[.ref l,rawInt 0] }).IsList l items:=by obtain ⟨o,ho,r⟩:=hl;exact ⟨o,Heap.get?_push_of_some _ ho,r⟩
    refine wpAny_bind (wpAny_holding (wpAny_pyIter_list hl (wpAny_bind (wpAny_holding (drawL hlt items.size 0 _ _ ⟨_,Heap.get?_push_size _ rfl,rfl,rfl⟩ hl1 (by omega) fun h1 hit1 hs1=>?_)))))
    have hall:((items.toList.drop 0).take items.size)=items.toList:=by rw [List.drop_zero];exact List.take_of_length_le (by simp)
    rw [hall,if_neg (by simp)]
    refine wpAny_bind (wpAny_holding (wpAny_pyNext_list_end hh hit1 (hl1.extBut hs1.extBut hlt) (by simp) fun h2 he2=>?_))
    simp only [Option.isSome_none,Bool.false_eq_true,if_false]
    exact wpAny_pure (hQ h2 fun b o hb e=>he2 b o hb (hs1.extBut b o hb (Heap.get?_push_of_some _ e)))
end
section
variable {X:Cx} {rg:Gr}
def gLst (K:PySem.W.Frag) (n:Nat) (t:TGs):TG:=fun v σ H Q=>∃ a xs,v=.ref a∧SqL K H a xs∧xs.length=n∧t xs σ H Q
theorem pg_lst {es:List Expr} {k:Nat} {t:TGs} {n:Nat} {pos:Pos} (hc:X.calm=true) (h:PGs X es t) (hn:(assignEach es X.env).length=n:=by rfl) (hst:(assignEach es X.env).findIdx? (·.1)=none:=by rfl):PG X (.Tuple es k pos) (gLst X.K n t):=by
  intro pins s σ H v u Q I r hw
  obtain ⟨a,xs,e1,hq,hl,hw⟩:=hw
  subst e1
  cases r
  obtain ⟨its,rv,pl,hz⟩:=I.list hq
  have hlen:=rv.length
  rw [PyProof.Rows.assign_Tuple]
  refine wpAny_bind (wpAny_standAt ?_)
  unfold unpack
  rw [hst,hn,show n=its.toArray.size by rw [List.size_toArray];omega]
  refine wpAny_bind (wpAny_holding (unpackL (I.ok.hd hc) pl.isList fun h' hx=>?_))
  have I1:Inv X pins σ H { s with heap:=h' }:=I.kept (t':=s.toks) fun b o e=>hx b o (Nat.ne_of_lt (Heap.lt_size e)) e
  exact h pins _ σ H xs _ Q I1 (by simpa using rv) hw
def tgL (is:List Nat):Ft:=fun d env=>match d with
  | .lst ds=>setAll is ds env
  | _=>none
theorem g_lst {es:List Expr} {is:List Nat} {k:Nat} {pos:Pos} (hc:X.calm=true) (h:GsD X es is) (hn:(assignEach es X.env).length=is.length:=by rfl) (hst:(assignEach es X.env).findIdx? (·.1)=none:=by rfl):GD X (.Tuple es k pos) (tgL is):=
  PG.imp (pg_lst hc h hn hst) fun v σ H Q ⟨env,B,Z,d,env',R,r,e,k⟩=>by
    cases d<;>try cases e
    rename_i ds
    obtain ⟨a,vs,e1,hq,rr⟩:=r
    exact ⟨a,vs,e1,R.zh.seq hq,by rw [← rr.len];exact setAll_len e,env,B,Z,ds,env',R,rr,e,k⟩
def unL (is:List Nat) (f:Fe):Fs:=fun env=>(f env).bind fun d=>(tgL is d env).bind fun e=>some (.nx e)
theorem s_unL {e:Expr} {es:List Expr} {is:List Nat} {fe:Fe} {k:Nat} {pos p2:Pos} (hc:X.calm=true) (he:PD X .cl e fe) (h:GsD X es is) (hn:(assignEach es X.env).length=is.length:=by rfl) (hst:(assignEach es X.env).findIdx? (·.1)=none:=by rfl)
    (hs:swapsWithSole [.Tuple es k p2] e pos.line X.env=pure false:=by rfl) (hw:swappedStores [.Tuple es k p2] e X.env=pure none:=by rfl) (h1:(assignEach [.Tuple es k p2] X.env).map (·.2)=[assign (.Tuple es k p2) X.env]:=by rfl) :
    SD X rg (.Assign [.Tuple es k p2] e pos) (unL is fe):=PS.imp (ps_asg he (g_lst hc h hn hst) hs hw h1) fun E σ H ⟨env,B,Z,o,R,e,k⟩=>by
  obtain ⟨d,e1,e⟩:=Option.bind_eq_some_iff.mp e
  obtain ⟨en,e2,e⟩:=Option.bind_eq_some_iff.mp e
  cases e
  refine ⟨env,B,Z,d,R,e1,fun v Z1 H1 x1 g1=>⟨env,B,Z1,d,en,R.ext x1,g1,e2,fun σ' R'=>k σ' Z1 H1 (x1.part R.bh) R'⟩⟩
variable {l r:Expr} {fa fb:Fe} {ga gb:Gr} {pos p:Pos}
theorem op_addL:OpR X (binaryOp .Add) (fun x y H Q=>∃ l b xs zs,x=.ref l∧y=.ref b∧SqL X.K H l xs∧SqL X.K H b zs∧xs.length+zs.length≤sizeLine∧∀ p,H p=none→Q (.ref p) (upd H p (.lst (xs++zs)))):=by
  intro pins s σ H x y v u Q I rx ry h
  obtain ⟨l,b,xs,zs,rfl,rfl,hH,hB,hz,q⟩:=h
  cases rx
  cases ry
  obtain ⟨its,r,⟨o,n,e,c1,c2,c3⟩,_⟩:=I.list hH
  obtain ⟨its2,r2,⟨o2,n2,e2,d1,d2,d3⟩,_⟩:=I.list hB
  obtain ⟨cls,dd,dt,sl⟩:=o
  obtain ⟨cls2,dd2,dt2,sl2⟩:=o2
  simp only at c1 c2 c3 d1 d2 d3
  subst c1 c2 c3 d1 d2 d3
  have h1:=r.length
  have h2:=r2.length
  have hsz:its.toArray.size+its2.toArray.size≤sizeLine:=by simp only [List.size_toArray];omega
  refine concat_meets ⟨_,e,rfl⟩ ⟨_,e2,rfl⟩ noFill_list_add seq_list_add PySem.F.slot_list_add PySem.F.entry_list_add (PySem.F.args_list_add_2 _ _) (list_addW l b its.toArray its2.toArray n n2 none none sl sl2 hsz) ⟨e,e2,?_⟩
  rw [show its.toArray++its2.toArray=(its++its2).toArray by simp]
  exact ⟨.ref _,_,I.lnew (t':=s.toks) (r.append r2) (by rw [List.length_append];omega),rfl,q _ I.fresh⟩
theorem m_addL (ha:PD X ga l fa) (hb:PD X gb r fb):PD X .nw (.BinOp l .Add r pos) (op2 addL fa fb):=m_op op_addL d_addL ha hb
end
section
variable {X:Cx} {rg:Gr} {elt:Expr} {rest:List Comprehension} {scope:Scope} {pos spos py:Pos} {tg iter:Expr} {ifs:List Expr} {t:Ft} {c:Fb} {k:En→Option (List D)} {fi:Fi} {is caps:List Nat} {cl:List (Str×Addr)} {Nc own:List Str} {y:Str}
structure CompD (X:Cx) (e:Expr) (f:Fe):Prop where
  ex:∀ (y:Str) (py spos:Pos) (i:Nat),swapsWith e (some (.Name y py)) spos.line X.env=pure true→X.N.Nodup→X.N[i]?=some y→Loc X.env.scope y→(X.fn y=true∨X.env.scope.names.lookup y=some .local)→
    ∀ (pins:List (Addr×Obj)) (s:Shared) (σ:L2.St) (H:Hp) (E:Ends),Inv X pins σ H s→(∃ env B Z d,Rl X.K B Z H env σ∧f env=some d∧∀ v Z' H',Ex Z H Z' H'→Gd X.K Z' H H' .nw d v→E.nx (σ.set i (some v)) H')→
      wpAny (model X.prog X.w) X.A (exec (.Assign [.Name y py] e spos) X.env) (SP X pins E) X.xe s
theorem c_comp (ht:TgOk is t) (hcalm:X.calm=true) (hi:ID X tg iter fi) (hcl:clOf (fun x=>X.env.cells.lookup x) scope.names []=some cl) (hN:Nc.map some=own.map some++caps.map (fun j=>X.N[j]?))
    (hb:∀ C s H ex pn a,Blk (compCx X scope cl Nc C s H ex pn) a elt (⟨tg,iter,ifs,0⟩::rest) scope pos 0 tg ifs t c k)
    (hcap:capOk X scope caps=true:=by rfl) (hkind:scope.kind=.function:=by rfl) (hnc:∀ y∈scope.names,y.2≠.cell:=by decide +kernel) (hnm:∀ x∈scope.names,x.2=.local→scope.names.lookup x.1=some .local:=by decide +kernel)
    (hs:∀ x,foldedSetIterable iter X.env x=pure x:=by intro _;rfl) :
    CompD X (.ListComp elt (⟨tg,iter,ifs,0⟩::rest) scope pos) (compF fi is t c k own.length caps):=by
  refine ⟨fun y py spos j hsw hNd hj hy hf pins s σ H E I hT=>?_⟩
  obtain ⟨env,B,Z,d,R,e,kk⟩:=hT
  obtain ⟨ds,xs,e1,hu,hgo,hl,rfl⟩:=compF_some e
  rw [exec_Assign_Name_used _ _ _ _ hsw]
  refine wpAny_bind (wpAny_standAt (wpAny_bind ?_))
  refine (show wpAny (model X.prog X.w) X.A (comprehension (.ListComp elt (⟨tg,iter,ifs,0⟩::rest) scope pos) scope X.env (firstIterPos (⟨tg,iter,ifs,0⟩::rest) pos) (newList []) false (eval iter X.env) (some (assign (.Name y py) X.env)) >>= fun _=>pure ()) _ _ s from ?_)
  refine wpAny_bind (thn (wpAny_comprehension_free (use:=some (assign (.Name y py) X.env)) (Q:=fun _ s'=>SP X pins E .next s') rfl hs (closure_of hcl) hkind hnm ?_) fun _ s' hq=>wpAny_pure (wpAny_pure hq))
  refine thn (hi pins s σ H (fun J H1=>∃ Z1,Ex Z H Z1 H1∧Walk X.K Z1 ds J) I ⟨env,B,Z,ds,R,e1,fun J Z1 H1 x1 wk=>⟨Z1,x1,wk⟩⟩) fun x s1 q1=>thn q1 fun itv s2 ⟨it,fp,tn,J,H2,hit,I2,T,tn2,fp2,Z2,x2,wk⟩=>?_
  subst hit
  refine comp_core ht hcalm hcl hkind hnc hN hcap hb I2 (R.ext x2) T tn2 fp2 wk hu hgo hl (RR:=fun acc C=>compPost (model X.prog X.w) X.A X.xe (some (assign (.Name y py) X.env)) (fun _ s'=>SP X pins E .next s') acc C) fun a C H' Z' s' vs m I' ns fpC x' hf' hv hz rr=>?_
  refine (show wpAny (model X.prog X.w) X.A (assign (.Name y py) X.env (.ref a)) _ _ s' from wpAny_assign_Name (store_ok2 I' hNd hj hy (show RelV (.ref a) (.ref a) from rfl) (fun s2' I2' ⟨b,hsb,hbb⟩=>?_) hf))
  obtain ⟨f1,f2,f3,f4,f5,f6⟩:=fpC
  have hCb:C≠b:=fun z=>by
    rcases hbb with z2 | z2
    · exact f2 (z.trans z2)
    · exact f5 y b z2 z.symm
  refine ⟨m,ns.sameBut hsb hCb,fun h' hs'=>?_⟩
  exact ⟨_,H',I2'.turned (t':=s2'.toks) (it:=C) (fun b o hb e=>hs'.extBut b o hb e) f1 f2 f4 f5 f6,kk _ Z' H' (x2.trans x') ⟨a,vs,xs,rfl,rfl,x2.h.free hf',hv,hz,rr⟩⟩
variable {e:Expr} {fe:Fe}
theorem s_setC (i:Nat) (h:CompD X e fe) (hN:X.N.Nodup) (hi:X.N[i]?=some y:=by rfl) (hx:Loc X.env.scope y:=by first | exact Or.inl rfl | exact Or.inr rfl) (hsw:swapsWith e (some (.Name y py)) spos.line X.env=pure true:=by rfl)
    (hf:X.fn y=true∨X.env.scope.names.lookup y=some .local:=by first | exact .inl rfl | exact .inr rfl | assumption):SD X rg (.Assign [.Name y py] e spos) (setF i fe):=fun pins s σ H E I hw=>by
  obtain ⟨env,B,Z,o,R,e0,kk⟩:=hw
  obtain ⟨d,e1,e2⟩:=Option.bind_eq_some_iff.mp e0
  cases e2
  refine h.ex y py spos i hsw hN hi hx hf pins s σ H E I ⟨env,B,Z,d,R,e1,fun v Z' H' x g=>?_⟩
  obtain ⟨a,vs,ds,rfl,rfl,h1,h2,h3,r⟩:=g
  have s1:Same Z' (upd Z' a (.lst vs)):=smUpd h3
  have x2:Ex Z H (upd Z' a (.lst vs)) H':=⟨x.h,x.z.trans s1,smUpdL x.zh h2,fun b hb e=>by rw [upd_ne (fun z=>hb (by rw [z];exact h1))];exact x.fr b hb e⟩
  exact kk _ _ H' (x2.part R.bh) ((R.ext x2).setF i ⟨a,vs,rfl,SqL.of upd_same,Reps.mono s1 ds r⟩)
end
end Mi
namespace Mi
open PySem PySem.Spec PyProof.Rows L2
section
variable {X:Cx} {rg:Gr}
end
end Mi
namespace Mi
open PySem L2
theorem big_of {i:Int} (n:Nat) (h:i.natAbs≤n) (hn:n<2 ^ 4096:=by decide +kernel):big i=true:=decide_eq_true (Nat.lt_of_le_of_lt h hn)
theorem big_in {i:Int} (h1:-1000000000≤i) (h2:i≤1000000000):big i=true:=big_of 1000000000 (by omega)
theorem mul_in {i j:Int} (h1:-1000000000≤i) (h2:i≤1000000000) (h3:-1000000000≤j) (h4:j≤1000000000):mulI (.int i) (.int j)=some (.int (i*j)):=by
  show (if (big i&&big j)=true then _ else _)=_
  rw [big_in h1 h2,big_in h3 h4];rfl
theorem mod_in {i j:Int} (h:0<j):modI (.int i) (.int j)=some (.int (i%j)):=by
  show (if decide (0<j)=true then _ else _)=_
  rw [decide_eq_true h];rfl
theorem fdiv_in {i j:Int} (h:0<j) (h2:j<1073741824):fdivI (.int i) (.int j)=some (.int (i/j)):=by
  show (if decide (0<j∧j<1073741824)=true then _ else _)=_
  rw [decide_eq_true (And.intro h h2)];rfl
theorem pow_in {i j:Int} (h:big i=true) (h2:0≤j) (h3:j≤1000):powI (.int i) (.int j)=some (.int (i ^ j.toNat)):=by
  show (if (big i&&decide (0≤j∧j≤1000))=true then _ else _)=_
  rw [h,decide_eq_true (And.intro h2 h3)];rfl
theorem mul_big {i j:Int} (h:big i=true) (h2:big j=true):mulI (.int i) (.int j)=some (.int (i*j)):=by
  show (if (big i&&big j)=true then _ else _)=_
  rw [h,h2];rfl
theorem add_v (i j:Int):addI (.int i) (.int j)=some (.int (i+j)):=rfl
theorem sub_v (i j:Int):subI (.int i) (.int j)=some (.int (i-j)):=rfl
theorem lt_v (i j:Int):ltI (.int i) (.int j)=some (.bl (decide (i<j))):=rfl
theorem le_v (i j:Int):leI (.int i) (.int j)=some (.bl (decide (i≤j))):=rfl
theorem gt_v (i j:Int):gtI (.int i) (.int j)=some (.bl (decide (j<i))):=rfl
theorem eq_v (i j:Int):eqF (.int i) (.int j)=some (.bl (i==j)):=rfl
theorem ne_v (i j:Int):neF (.int i) (.int j)=some (.bl !(i==j)):=rfl
theorem op2_v {b:D→D→Option D} {f g:Fe} {env:En} {x y:D} (h1:f env=some x) (h2:g env=some y):op2 b f g env=b x y:=by
  unfold op2;rw [h1,h2];rfl
theorem un1_v {b:D→Option D} {f:Fe} {env:En} {x:D} (h1:f env=some x):un1 b f env=b x:=by
  unfold un1;rw [h1];rfl
theorem abs_pow {x:Int} (n k:Nat) (h1:x.natAbs≤n):(x ^ k).natAbs≤n ^ k:=by
  rw [Int.natAbs_pow];exact Nat.pow_le_pow_left h1 k
theorem abs_add {x y:Int} (n m:Nat) (h1:x.natAbs≤n) (h2:y.natAbs≤m):(x+y).natAbs≤n+m:=by omega
theorem loop_all {t:Ft} {body:Fs} (I:En→Prop):∀ (ds:List D) (env:En),I env→(∀ d∈ds,∀ e,I e→∃ e1,(t d e).bind body=some (.nx e1)∧I e1)→∃ e2,loopF t body ds env=some (.nx e2)∧I e2
  | [],env,h,_=>⟨env,rfl,h⟩
  | d::ds,env,h,hb=>by
    obtain ⟨e1,h1,h2⟩:=hb d List.mem_cons_self env h
    obtain ⟨e2,h3,h4⟩:=loop_all I ds e1 h2 fun d' hd=>hb d' (List.mem_cons_of_mem _ hd)
    refine ⟨e2,?_,h4⟩
    obtain ⟨e0,h5,h6⟩:=Option.bind_eq_some_iff.mp h1
    show (t d env).bind (fun e1=>(body e1).bind _)=_
    rw [h5]
    show (body e0).bind _=_
    rw [h6]
    exact h3
theorem loop_at {t:Ft} {body:Fs} (I:Nat→En→Prop):∀ (ds:List D) (n:Nat) (env:En),I n env→(∀ i d e,ds[i]?=some d→I (n+i) e→∃ e1,(t d e).bind body=some (.nx e1)∧I (n+i+1) e1)→∃ e2,loopF t body ds env=some (.nx e2)∧I (n+ds.length) e2
  | [],n,env,h,_=>⟨env,rfl,h⟩
  | d::ds,n,env,h,hb=>by
    obtain ⟨e1,h1,h2⟩:=hb 0 d env rfl h
    obtain ⟨e2,h3,h4⟩:=loop_at I ds (n+1) e1 h2 fun i d' e hd he=>by
      have:=hb (i+1) d' e (by simpa using hd) (by rw [show n+(i+1)=n+1+i by omega];exact he)
      rw [show n+1+i+1=n+(i+1)+1 by omega]
      exact this
    refine ⟨e2,?_,by rw [show n+(d::ds).length=n+1+ds.length by simp;omega];exact h4⟩
    obtain ⟨e0,h5,h6⟩:=Option.bind_eq_some_iff.mp h1
    show (t d env).bind (fun e1=>(body e1).bind _)=_
    rw [h5]
    show (body e0).bind _=_
    rw [h6]
    exact h3
theorem atI_nat {α:Type} {xs:List α} {k:Nat} {x:α} (h:xs[k]?=some x):L2.atI xs (k:Int)=some x:=by
  have hk:=(List.getElem?_eq_some_iff.mp h).1
  unfold L2.atI L2.ixN
  rw [if_pos (by omega),if_pos (by omega)]
  simpa using h
theorem rng_get {n i:Nat} {d:D} (h:(rangeL 0 n)[i]?=some d):d=.int i∧i<n:=by
  unfold rangeL at h
  rw [List.getElem?_map] at h
  cases e:(List.range n)[i]? with
  | none=>rw [e] at h;cases h
  | some j=>
    rw [e] at h
    have hi:=(List.getElem?_eq_some_iff.mp e).1
    rw [List.length_range] at hi
    rw [List.getElem?_range hi] at e
    cases e
    cases h
    exact ⟨by simp,hi⟩
end Mi
namespace Mi
theorem getF_F (d:D) (env:En):getF (.F d::env) 0=some d:=rfl
theorem getF_S (s:Slot) (env:En) (i:Nat):getF (s::env) (i+1)=getF env i:=rfl
theorem app_v {env:En} {i:Nat} {f:Fe} {ds:List D} {d:D} (h:env[i]?=some (.O (.L ds))) (hf:f env=some d) (hl:ds.length<16000000):appF i f env=some (.nx (env.set i (.O (.L (ds++[d]))))):=by
  unfold appF;rw [h];show (f env).bind _=_;rw [hf];show (if ds.length<16000000 then _ else _)=_;rw [if_pos hl]
theorem seq_v {f g:Fs} {env e:En} (h:f env=some (.nx e)):seqF f g env=g e:=by unfold seqF;rw [h];rfl
theorem set_v {i:Nat} {f:Fe} {env:En} {d:D} (h:f env=some d):setF i f env=some (.nx (env.set i (.F d))):=by unfold setF;rw [h];rfl
theorem ret_v {f:Fe} {env:En} {d:D} (h:f env=some d):retF f env=some (.rt d):=by unfold retF;rw [h];rfl
theorem ifT_v {t:Fb} {f g:Fs} {env:En} (h:t env=some true):ifF t f g env=f env:=by unfold ifF;rw [h];rfl
theorem ifE_v {t:Fb} {f g:Fs} {env:En} (h:t env=some false):ifF t f g env=g env:=by unfold ifF;rw [h];rfl
theorem for_v {fi:Fi} {t:Ft} {b:Fs} {env:En} {ds:List D} (h:fi env=some ds):forF fi t b env=loopF t b ds env:=by unfold forF;rw [h];rfl
theorem fB_v {f:Fe} {env:En} {b:Bool} (h:f env=some (.bl b)):fB f env=some b:=by unfold fB;rw [h];rfl
theorem orT_v {f g:Fb} {env:En} (h:f env=some true):orB f g env=some true:=by unfold orB;rw [h];rfl
theorem orF_v {f g:Fb} {env:En} (h:f env=some false):orB f g env=g env:=by unfold orB;rw [h];rfl
theorem not_v {f:Fb} {env:En} {b:Bool} (h:f env=some b):notB f env=some !b:=by unfold notB;rw [h];rfl
theorem call_v {fs:Fes} {m:List D→Option D} {env:En} {ds:List D} (h:fs env=some ds):(fs env).bind m=m ds:=by rw [h];rfl
theorem cons_v {f:Fe} {fs:Fes} {env:En} {d:D} {ds:List D} (h:f env=some d) (h2:fs env=some ds):fCons f fs env=some (d::ds):=by unfold fCons;rw [h,h2];rfl
theorem nil_v {env:En}:fNil env=some []:=rfl
theorem dt {p:Prop} [Decidable p] (h:p):some (D.bl (decide p))=some (.bl true):=by rw [decide_eq_true h]
theorem df {p:Prop} [Decidable p] (h:¬ p):some (D.bl (decide p))=some (.bl false):=by rw [decide_eq_false h]
theorem run_v {f:Fs} {n:Nat} {ds:List D} {d:D} (h:f (startE n ds)=some (.rt d)):runF f n ds=some d:=by unfold runF;rw [h];rfl
end Mi
namespace Mi
theorem itR1_v {f:Fe} {env:En} {n:Nat} (h:f env=some (.int (n:Int))) (h2:n≤1000000000):itR1 f env=some (rangeL 0 n):=by
  have hr:rngOk (n:Int)=true:=by
    simp only [rngOk,decide_eq_true_eq]
    omega
  unfold itR1
  rw [h,Option.bind_some]
  dsimp only
  rw [if_pos hr,Int.toNat_natCast]
theorem len_v {f:Fe} {env:En} {ds:List D} (h:f env=some (.lst ds)):un1 lenD f env=some (.int (ds.length:Int)):=by unfold un1;rw [h];rfl
theorem lenT_v {f:Fe} {env:En} {ds:List D} (h:f env=some (.tup ds)):un1 lenD f env=some (.int (ds.length:Int)):=by unfold un1;rw [h];rfl
theorem idx_v {f g:Fe} {env:En} {ds:List D} {i:Int} {d:D} (h:f env=some (.lst ds)) (h2:g env=some (.int i)) (h3:L2.atI ds i=some d):op2 idxD f g env=some d:=(op2_v h h2).trans h3
theorem idxT_v {f g:Fe} {env:En} {ds:List D} {i:Int} {d:D} (h:f env=some (.tup ds)) (h2:g env=some (.int i)) (h3:L2.atI ds i=some d):op2 idxD f g env=some d:=(op2_v h h2).trans h3
end Mi
namespace Mi
theorem unL_v {is:List Nat} {f:Fe} {env e:En} {ds:List D} (h:f env=some (.lst ds)) (h2:setAll is ds env=some e):unL is f env=some (.nx e):=by
  unfold unL;rw [h];show (setAll is ds env).bind _=_;rw [h2];rfl
theorem unF_v {is:List Nat} {f:Fe} {env e:En} {ds:List D} (h:f env=some (.tup ds)) (h2:setAll is ds env=some e):unF is f env=some (.nx e):=by
  unfold unF;rw [h];show (setAll is ds env).bind _=_;rw [h2];rfl
theorem itL_v {f:Fe} {env:En} {ds:List D} (h:f env=some (.lst ds)):itL f env=some ds:=by unfold itL;rw [h];rfl
theorem itT_v {f:Fe} {env:En} {ds:List D} (h:f env=some (.tup ds)):itT f env=some ds:=by unfold itT;rw [h];rfl
end Mi
namespace Mi
theorem seqR_v {f g:Fs} {env:En} {d:D} (h:f env=some (.rt d)):seqF f g env=some (.rt d):=by unfold seqF;rw [h];rfl
end Mi
namespace Mi
theorem ltT_v {i j:Int} (h:i<j):ltI (.int i) (.int j)=some (.bl true):=(lt_v i j).trans (dt h)
theorem ltE_v {i j:Int} (h:¬ i<j):ltI (.int i) (.int j)=some (.bl false):=(lt_v i j).trans (df h)
theorem leT_v {i j:Int} (h:i≤j):leI (.int i) (.int j)=some (.bl true):=(le_v i j).trans (dt h)
theorem leE_v {i j:Int} (h:¬ i≤j):leI (.int i) (.int j)=some (.bl false):=(le_v i j).trans (df h)
theorem cutD_head (ns:List D) (k:Nat):cutD ns none (some (k:Int))=ns.take k:=by
  unfold cutD
  rw [HT.sIx_none,HT.sIx_nat,List.drop_zero,Nat.sub_zero]
  by_cases h:ns.length≤k
  · rw [Nat.min_eq_right h,List.take_length,List.take_of_length_le h]
  · rw [Nat.min_eq_left (by omega)]
end Mi
namespace Mi
open PySem PySem.Spec PyProof.Rows L2
def unBl:List D→Option (List Bool)
  | []=>some []
  | .bl b::r=>(unBl r).bind fun bs=>some (b::bs)
  | _=>none
theorem unBl_eq:∀ {ds:List D} {bs:List Bool},unBl ds=some bs→ds=bs.map .bl
  | [],bs,h=>by cases h;rfl
  | d::r,bs,h=>by
    cases d<;>try cases h
    rename_i b
    obtain ⟨cs,h1,h2⟩:=Option.bind_eq_some_iff.mp h
    cases h2
    rw [unBl_eq h1];rfl
def allD:D→Option D
  | .lst ds=>(unBl ds).bind fun bs=>some (.bl (bs.all id))
  | _=>none
theorem Reps.bls {K:Fg} {H:Hp}:∀ {bs:List Bool} {vs:List V},Reps K H (bs.map .bl) vs→vs=bs.map .bl
  | [],vs,h=>h
  | b::bs,vs,⟨v,r,e,h1,h2⟩=>by subst e;cases (show v=V.bl b from h1);rw [Reps.bls h2];rfl
theorem Vals.bls:∀ {bs:List Bool} {us:List Value},Vals (bs.map V.bl) us→us=bs.map .bool
  | [],us,h=>by cases h;rfl
  | b::bs,us,h=>by
    cases h with
    | cons p q=>cases (show _=Value.bool b from p);rw [Vals.bls q];rfl
theorem rng_all (bs:List Bool):(List.range bs.length).all (fun i=>bs.getD i false)=bs.all id:=by
  rw [Bool.eq_iff_iff]
  simp only [List.all_eq_true,List.mem_range,id_eq]
  constructor
  · intro h b hb
    obtain ⟨i,hi,rfl⟩:=List.getElem_of_mem hb
    simpa [List.getD,hi] using h i hi
  · intro h i hi
    simpa [List.getD,hi] using h _ (List.getElem_mem hi)
section
variable {X:Cx} {l r:Expr} {fa fb:Fe} {ga gb:Gr} {pos p p2 p3 p4:Pos}
theorem walk_bls {A:Around} {pins:List (Addr×Obj)} {σ:L2.St} {H:Hp} {s:Shared} {a:Addr} {bs:List Bool} {E:Value→Shared→Prop} {Q:Value→Shared→Prop} {g:List Bool→Bool} {r2:List Nat→(Nat→Bool)→Bool}
    (hh:A.handled=none) (I:Inv X pins σ H s) (hq:SqL X.K H a (bs.map V.bl)) (hg:∀ n,n=bs.length→r2 (List.range n) (fun i=>bs.getD i false)=g bs) (q:∀ s',Inv X pins σ H s'→Q (.bool (g bs)) s') :
    wpAny (model X.prog X.w) A.in1 (pyIter (.ref a)) (fun it s₂=>∃ I fp wr n P St tr,it=.ref I∧Walks X.prog X.w A.in1 I fp wr n P St∧St 0 s₂.heap∧TruthOf X.prog X.w A.in1 P tr∧
      ∀ h' tk,(∀ b o,b∉wr→s₂.heap.get? b=some o→h'.get? b=some o)→Q (.bool (r2 (List.range n) tr)) { s₂ with heap:=h',toks:=tk }) E s:=by
  obtain ⟨its,rv,pl,hz⟩:=I.list hq
  cases Vals.bls rv
  have hlt:a<s.heap.objs.size:=by obtain ⟨o,ho,_⟩:=pl.isList;exact Heap.lt_size ho
  refine wpAny_pyIter_list pl.isList ?_
  refine ⟨s.heap.objs.size,_,_,_,_,_,fun i=>bs.getD i false,rfl,Walks.list (A:=A.in1) (show A.in1.handled=none from hh) s.heap.objs.size a (Nat.ne_of_lt hlt) (bs.map Value.bool).toArray,⟨⟨_,Heap.get?_push_size _ rfl,rfl,rfl⟩,pl.isList.push _⟩,fun i v s1 Q1 E1 hv hQ=>?_,fun h' tk hk=>?_⟩
  · have hv':(bs.map Value.bool)[i]?=some v:=by simpa using hv
    rw [List.getElem?_map] at hv'
    cases e:bs[i]? with
    | none=>rw [e] at hv';cases hv'
    | some b=>
      rw [e] at hv'
      cases hv'
      have hb:bs.getD i false=b:=by simp [List.getD,e]
      have hQ:Q1 (bs.getD i false) s1:=hQ
      rw [hb] at hQ
      exact wpAny_truthy_bool hQ
  · rw [hg _ (by simp)]
    refine q _ (I.kept fun b o e=>hk b o (fun hb=>?_) (Heap.get?_push_of_some _ e))
    have:b=s.heap.objs.size:=by simpa using hb
    exact Nat.ne_of_lt (Heap.lt_size e) this
theorem call_allL (hc:X.calm=true):CallR X (.builtin "all") (fun xs H Q=>∃ (a:Addr) (bs:List Bool),xs=[.ref a]∧SqL X.K H a (bs.map V.bl)∧Q (.bl (bs.all id)) H):=by
  intro pins s σ H xs us Q I rs h
  obtain ⟨a,bs,rfl,hq,q⟩:=h
  obtain ⟨u,rfl,rx⟩:=vals1 rs
  cases rx
  exact call_all_walk (walk_bls (g:=fun bs=>bs.all id) (r2:=fun l f=>l.all f) (I.ok.hd hc) I hq (fun n e=>by subst e;exact rng_all bs) fun s' I'=>⟨.bl _,H,I',rfl,q⟩)
theorem d_all {K:Fg}:Does1 K .cl allD (fun xs H Q=>∃ (a:Addr) (bs:List Bool),xs=[.ref a]∧SqL K H a (bs.map V.bl)∧Q (.bl (bs.all id)) H):=fun {Z H x dx d Q} s h e k=>by
  cases dx<;>try cases e
  obtain ⟨bs,h1,h2⟩:=Option.bind_eq_some_iff.mp e
  cases h2
  cases unBl_eq h1
  obtain ⟨a,vs,rfl,q,rr⟩:=h.lst s
  cases Reps.bls rr
  exact ⟨a,bs,rfl,q,k _ Z H (Ex.refl s) rfl⟩
theorem boot_all':bootBuiltins "all"=some (.builtin "all"):=by decide +kernel
theorem m_all (hm:X.mg "all"=none) (hcalm:X.calm=true) (ha:PD X ga l fa) (hg:Gl X "all":=by rfl) (he:starEach [l] X.env=[(false,eval l X.env)]:=by rfl):PD X .cl (.Call (.Name "all" p) [l] [] pos) (un1 allD fa):=
  m_bi1 (call_allL hcalm) d_all boot_all' hm ha (by decide) (by decide) hg he
theorem fm_some {α β:Type} {f:α→Option β} {g:α→β}:∀ (l:List α),(∀ x∈l,f x=some (g x))→l.filterMap f=l.map g
  | [],_=>rfl
  | a::l,h=>by
    rw [List.filterMap_cons,h a List.mem_cons_self,List.map_cons]
    exact congrArg _ (fm_some l fun x hx=>h x (List.mem_cons_of_mem _ hx))
theorem pick_rev (its:List Value):slicePick its.toArray none none (some (-1))=its.reverse.toArray:=by
  unfold slicePick sliceBounds sliceRange
  simp only [Option.getD_some,List.size_toArray,show ¬ ((-1:Int)>0) by decide,if_false]
  congr 1
  have hc:(if (its.length:Int)-1 > -1 then ((its.length:Int)-1 - -1 - -1-1)/(- -1) else 0).toNat=its.length:=by
    split
    · rw [show (- -1:Int)=1 by decide,Int.ediv_one];omega
    · omega
  rw [hc]
  apply List.ext_getElem?
  intro i
  rw [List.filterMap_map]
  have key:(List.range its.length).filterMap ((fun x=>its.toArray[x]?) ∘ fun (k:Nat)=>((its.length:Int)-1+-1*(k:Int)).toNat)=(List.range its.length).map fun k=>its.getD (its.length-1-k) .none:=by
    refine fm_some _ fun k hk=>?_
    have hk':k<its.length:=by simpa using hk
    simp only [Function.comp]
    rw [show ((its.length:Int)-1+-1*(k:Int)).toNat=its.length-1-k by omega]
    simp [List.getD,show its.length-1-k<its.length by omega]
  rw [key,List.getElem?_map]
  by_cases hi:i<its.length
  · rw [List.getElem?_range hi,List.getElem?_reverse hi]
    simp [List.getD,show its.length-1-i<its.length by omega]
  · rw [List.getElem?_eq_none (by simpa using hi),List.getElem?_eq_none (by simpa using hi)];rfl
def revL:D→Option D
  | .lst ds=>some (.lst ds.reverse)
  | _=>none
theorem Vals.rev:∀ {xs:List V} {us:List Value},Vals xs us→Vals xs.reverse us.reverse
  | [],us,h=>by cases h;exact .nil
  | x::xs,us,h=>by
    cases h with
    | cons p q=>rw [List.reverse_cons,List.reverse_cons];exact (Vals.rev q).append (.cons p .nil)
def tRev (K:Fg) (te:TE):TE:=fun σ H Q=>te σ H fun x H1=>∃ a xs,x=.ref a∧SqL K H1 a xs∧∀ q,H1 q=none→Q (.ref q) (upd H1 q (.lst xs.reverse))
theorem pe_rev {e:Expr} {te:TE} {i j:Int} {k:Nat} (he:PE X e te):PE X (.Subscript e (.Slice none none (some (.UnaryOp .USub (.Constant (.int 1) k p3) p4)) p2) pos) (tRev X.K te):=by
  intro pins s σ H Q I h
  refine Subscript_ (thn (he pins s σ H _ I h) fun v s1 ⟨x,H1,I1,r1,q1⟩=>?_)
  obtain ⟨a,xs,e1,hx,q⟩:=q1
  subst e1
  cases r1
  refine wpAny_Slice ?_
  rw [evalPart_none]
  refine wpAny_pure (wpAny_pure ?_)
  refine thn (po_some (X:=X) (pe_un un_neg pe_int) pins s1 σ H1 (fun o H2=>o=some (-1)∧H2=H1) I1 ⟨_,rfl,_,rfl,rfl,rfl⟩) fun vst s2 ⟨o,H2,I2,ps,e2,e3⟩=>?_
  subst e2
  subst e3
  have I4:Inv X pins σ H2 { s2 with heap:=s2.heap.push { cls:=.type "slice",data:=.fields #[.none,.none,vst] } }:=I2.kept (t':=s2.toks) fun b ob z=>Heap.get?_push_of_some _ z
  obtain ⟨its,rv,ht,hz⟩:=I4.list hx
  have hlen:=rv.length
  show wpAny (model X.prog X.w) X.A (subscriptTail e (.Slice none none (some (.UnaryOp .USub (.Constant (.int 1) k p3) p4)) p2) (.ref a) (.ref s2.heap.objs.size)) (EP X pins σ Q) X.xe { s2 with heap:=s2.heap.push { cls:=.type "slice",data:=.fields #[.none,.none,vst] } }
  refine tail_any (ops:=[.ref a,.ref s2.heap.objs.size]) ht.isList.typeIs slot_list_getitem.lookup ?_ (by with_unfolding_all rfl)
  refine wpAny_getItem_list_slice ht.isList (Heap.IsSliceOf.new ..) .none .none ps (by simp) ?_ (by rw [List.size_toArray]<;>omega)
  rw [pick_rev]
  exact ⟨.ref _,_,I4.laid (t':=s2.toks) (o:=.lst xs.reverse) (fun b ob z=>Heap.get?_push_of_some _ z) (Nat.le_refl _) ⟨by rw [List.length_reverse];exact hz,_,0,Vals.rev rv,Heap.get?_push_size _ rfl⟩,rfl,q _ (I4.hok.fresh (Nat.le_refl _))⟩
theorem m_rev {k:Nat} (ha:PD X ga l fa):PD X .nw (.Subscript l (.Slice none none (some (.UnaryOp .USub (.Constant (.int 1) k p3) p4)) p2) pos) (un1 revL fa):=PE.imp (pe_rev (i:=0) (j:=0) ha) fun σ H Q ⟨env,B,Z,d,R,e,kk⟩=>by
  obtain ⟨x,h1,h2⟩:=Option.bind_eq_some_iff.mp e
  cases x<;>try cases h2
  rename_i ds
  refine ⟨env,B,Z,_,R,h1,fun v Z1 H1 x1 g1=>?_⟩
  obtain ⟨a,vs,rfl,q,rr⟩:=(show Gd X.K Z1 H1 H1 .pk (.lst ds) v from g1.pk).lst x1.zh
  exact ⟨a,vs,rfl,q,fun p hp=>kk _ Z1 _ (x1.trans (Ex.newL x1.zh hp)) ⟨p,_,_,rfl,rfl,x1.h.free hp,upd_same,x1.zh.free hp,Reps.rev rr⟩⟩
end
end Mi
namespace Mi
open PySem PySem.Spec PyProof.Rows L2
def insI (x:Int):List Int→List Int
  | []=>[x]
  | y::r=>if x≤y then x::y::r else y::insI x r
def srtI:List Int→List Int
  | []=>[]
  | x::r=>insI x (srtI r)
theorem insI_perm (x:Int):∀ l,(insI x l).Perm (x::l)
  | []=>.refl _
  | y::r=>by
    unfold insI
    split
    · exact .refl _
    · exact ((insI_perm x r).cons y).trans (List.Perm.swap x y r)
theorem srtI_perm:∀ l,(srtI l).Perm l
  | []=>.refl _
  | x::r=>(insI_perm x _).trans ((srtI_perm r).cons x)
theorem insI_up (x:Int):∀ {l:List Int},l.Pairwise (·≤·)→(insI x l).Pairwise (·≤·)
  | [],_=>by simp [insI]
  | y::r,h=>by
    obtain ⟨h1,h2⟩:=List.pairwise_cons.mp h
    unfold insI
    split
    · rename_i hx
      exact List.pairwise_cons.mpr ⟨fun z hz=>by
        rcases List.mem_cons.mp hz with rfl | hz
        · exact hx
        · exact Int.le_trans hx (h1 z hz),h⟩
    · rename_i hx
      refine List.pairwise_cons.mpr ⟨fun z hz=>?_,insI_up x h2⟩
      rcases List.mem_cons.mp ((insI_perm x r).mem_iff.mp hz) with rfl | hz
      · omega
      · exact h1 z hz
theorem srtI_up:∀ l,(srtI l).Pairwise (·≤·)
  | []=>.nil
  | x::r=>insI_up x (srtI_up r)
theorem up_unique:∀ {l m:List Int},l.Perm m→l.Pairwise (·≤·)→m.Pairwise (·≤·)→l=m
  | [],m,p,_,_=>(List.Perm.nil_eq p)
  | x::l,[],p,_,_=>absurd p.symm (by intro h;exact absurd (List.Perm.nil_eq h) (by simp))
  | x::l,y::m,p,h1,h2=>by
    obtain ⟨a1,a2⟩:=List.pairwise_cons.mp h1
    obtain ⟨b1,b2⟩:=List.pairwise_cons.mp h2
    have e:x=y:=by
      have hx:x∈y::m:=p.mem_iff.mp List.mem_cons_self
      have hy:y∈x::l:=p.mem_iff.mpr List.mem_cons_self
      rcases List.mem_cons.mp hx with e | hx
      · exact e
      · rcases List.mem_cons.mp hy with e | hy
        · exact e.symm
        · have:=b1 x hx;have:=a1 y hy;omega
    subst e
    rw [up_unique ((List.perm_cons x).mp p) a2 b2]
theorem srtI_eq {l m:List Int} (p:m.Perm l) (h:m.Pairwise (·≤·)):m=srtI l:=up_unique (p.trans (srtI_perm l).symm) h (srtI_up l)
theorem srtI_len (l:List Int):(srtI l).length=l.length:=(srtI_perm l).length_eq
section
variable {prog:Program} {w:World} {A:Around} {E:Value→Shared→Prop} {s:Shared}
theorem collectS {a:Addr} {o:Obj} {n:Nat} {vs:List Value} {Q:List Value→Shared→Prop} (ho:s.heap.get? a=some o) (hc:o.cls=.type "list"∨o.cls=.type "tuple") (hd:o.data=.seq vs.toArray n)
    (q:Q vs { s with heap:=(s.heap.push (seqObj "list" #[] 0)).update s.heap.objs.size (Obj.mapSeq (·++vs.toArray)) }) (hz:vs.length≤sizeLine):wpAny (model prog w) A (collect (.ref a)) Q E s:=by
  unfold collect
  refine wpAny_bind (wpAny_runValue (codeAny_builtin PyProof.Rows.entry_proto_collect' (show wpAny _ _ (newList [] >>= fun z=>again (.builtin "list.__iadd__" ⟨[z,.ref a],[]⟩)) _ _ s from
    wpAny_bind (wpAny_newList (wpAny_pure ⟨Code.quiet_builtin _ (by decide +kernel),codeAny_builtin PyProof.Rows.entry_list_iadd' ?_⟩)))))
  have e1:(s.heap.push (seqObj "list" #[] 0)).get? a=some o:=Heap.get?_push_of_some _ ho
  have e2:(s.heap.push (seqObj "list" #[] 0)).get? s.heap.objs.size=some (seqObj "list" #[] 0):=Heap.get?_push_size _ rfl
  obtain ⟨T,hT,ht⟩:∃ T:String,o.cls=.type T∧(Value.type T==Value.type "list"||Value.type T==Value.type "tuple")=true:=by
    rcases hc with h | h
    · exact ⟨"list",h,rfl⟩
    · exact ⟨"tuple",h,rfl⟩
  show wpAny _ _ (Builtin.List.listExtendWith (.ref s.heap.objs.size) (.ref a) (.ref s.heap.objs.size)) _ _ { s with heap:=s.heap.push (seqObj "list" #[] 0) }
  unfold Builtin.List.listExtendWith
  refine wpAny_bind (wpAny_typeOf (T:=T) ⟨o,e1,hT⟩ ?_)
  rw [if_pos (by rw [Bool.or_assoc,ht,Bool.or_true])]
  refine wpAny_bind (listItems_at e1 hd (wpAny_bind (listItems_at (xs:=#[]) (n:=0) e2 rfl ?_)))
  rw [if_neg (by simp)]
  refine wpAny_bind (listUpdate_at (xs:=#[]) (n:=0) e2 rfl (wpAny_pure ?_) (Nat.zero_le _) (by simp only [Array.size_append,List.size_toArray,List.length_nil];omega))
  show wpAny (model prog w) A (load s.heap.objs.size >>= fun o=>match o.data with | .seq xs _=>pure xs.toList | _=>unsupported "internal:collect") Q E { s with heap:=(s.heap.push (seqObj "list" #[] 0)).update s.heap.objs.size (Obj.mapSeq (·++vs.toArray)) }
  refine wpAny_bind (wpAny_load (get?_update_seq e2 _) ?_)
  show wpAny _ _ (pure ((#[]:Array Value)++vs.toArray).toList) Q E _
  rw [show ((#[]:Array Value)++vs.toArray).toList=vs by simp]
  exact wpAny_pure q
theorem sortedS {a:Addr} {o:Obj} {n:Nat} {vs:List Value} {ns:List Int} {Q:Value→Shared→Prop} (ho:s.heap.get? a=some o) (hc:o.cls=.type "list"∨o.cls=.type "tuple") (hd:o.data=.seq vs.toArray n) (hI:IntsAre vs ns) (hz:vs.length<64)
    (q:∀ (out:Array Value) (ns':List Int),IntsAre out.toList ns'→ns'.Perm ns→ns'.Pairwise (·≤·)→Q (.ref (s.heap.objs.size+1)) { s with heap:=sortedAll s.heap vs out }):wpAny (model prog w) A (call (.builtin "sorted") [.ref a]) Q E s:=by
  refine Calls.call_function_entry PyProof.Rows.kind_sorted plain_sorted entry_sorted (args_sorted1 _) ?_
  unfold Builtin.«sorted»
  refine wpAny_bind (m:=checkCount "sorted" 1 1 _) (wpAny_pure (wpAny_bind (collectS ho hc hd (wpAny_bind (wpAny_newList ?_)) (by have:=sizeLine_eq;omega))))
  have z1:((s.heap.push (seqObj "list" #[] 0)).update s.heap.objs.size (Obj.mapSeq (·++vs.toArray))).objs.size=s.heap.objs.size+1:=by rw [Heap.size_update,size_push']
  have z2:(((s.heap.push (seqObj "list" #[] 0)).update s.heap.objs.size (Obj.mapSeq (·++vs.toArray))).push (seqObj "list" vs.toArray 0)).get? (s.heap.objs.size+1)=some (seqObj "list" vs.toArray 0):=by
    rw [← z1];exact Heap.get?_push_size _ rfl
  show wpAny _ _ _ _ _ { s with heap:=((s.heap.push (seqObj "list" #[] 0)).update s.heap.objs.size (Obj.mapSeq (·++vs.toArray))).push (seqObj "list" vs.toArray 0) }
  rw [z1]
  exact wpAny_bind (wpAny_holding (wpAny_call_entry slot_list_sort ⟨_,z2,rfl⟩ entry_list_sort (list_sort_tree z2 hI hz fun out ns' a1 a2 a3=>⟨_,rfl,wpAny_pure ⟨_,rfl,q out ns' a1 a2 a3⟩⟩) (args_list_sort _)))
end
def unInt:List D→Option (List Int)
  | []=>some []
  | .int i::r=>(unInt r).bind fun bs=>some (i::bs)
  | _=>none
theorem unInt_eq:∀ {ds:List D} {bs:List Int},unInt ds=some bs→ds=bs.map .int
  | [],bs,h=>by cases h;rfl
  | d::r,bs,h=>by
    cases d<;>try cases h
    obtain ⟨cs,h1,h2⟩:=Option.bind_eq_some_iff.mp h
    cases h2
    rw [unInt_eq h1];rfl
theorem unInt_map:∀ (ns:List Int),unInt (ns.map .int)=some ns
  | []=>rfl
  | n::ns=>by show (unInt (ns.map .int)).bind _=_;rw [unInt_map ns];rfl
theorem Reps.intsV {K:Fg} {H:Hp}:∀ {bs:List Int} {vs:List V},Reps K H (bs.map .int) vs→vs=bs.map .int
  | [],vs,h=>h
  | b::bs,vs,⟨v,r,e,h1,h2⟩=>by subst e;cases (show v=V.int b from h1);rw [Reps.intsV h2];rfl
theorem Vals.ints:∀ {bs:List Int} {us:List Value},Vals (bs.map V.int) us→IntsAre us bs
  | [],us,h=>by cases h;exact .nil
  | b::bs,us,h=>by
    cases h with
    | cons p q=>obtain ⟨t,rfl⟩:=(show ∃ t,_=Value.int b t from p);exact .cons b t (Vals.ints q)
theorem Vals.ofInts:∀ {bs:List Int} {us:List Value},IntsAre us bs→Vals (bs.map V.int) us
  | [],us,h=>by cases h;exact .nil
  | b::bs,us,h=>by
    cases h with
    | cons n t q=>exact .cons ⟨t,rfl⟩ (Vals.ofInts q)
def sortI:D→Option D
  | .lst ds=>(unInt ds).bind fun ns=>if ns.length<64 then some (.lst ((srtI ns).map .int)) else none
  | .tup ds=>(unInt ds).bind fun ns=>if ns.length<64 then some (.lst ((srtI ns).map .int)) else none
  | _=>none
section
variable {X:Cx} {l r:Expr} {fa fb:Fe} {ga gb:Gr} {pos p:Pos}
theorem call_sortedI:CallR X (.builtin "sorted") (fun xs H Q=>∃ (a:Addr) (ns:List Int),xs=[.ref a]∧(SqL X.K H a (ns.map V.int)∨SqT X.K H a (ns.map V.int))∧ns.length<64∧∀ q,H q=none→Q (.ref q) (upd H q (.lst ((srtI ns).map V.int)))):=by
  intro pins s σ H xs us Q I rs h
  obtain ⟨a,ns,rfl,hq,hl,q⟩:=h
  obtain ⟨u,rfl,rx⟩:=vals1 rs
  cases rx
  have fin:∀ (its:List Value) (out:Array Value) (ns':List Int),IntsAre out.toList ns'→ns'.Perm ns→ns'.Pairwise (·≤·)→EP X pins σ Q (.ref (s.heap.objs.size+1)) { s with heap:=sortedAll s.heap its out }:=fun its out ns' a1 a2 a3=>by
    cases srtI_eq a2 a3
    obtain ⟨e,he⟩:=sortedAll_at s.heap its out
    refine ⟨.ref _,_,I.laid (t':=s.toks) (o:=.lst ((srtI ns).map V.int)) (fun b o z=>sortedAll_old z) (Nat.le_succ _) ⟨?_,out.toList,e,Vals.ofInts a1,by simpa using he⟩,rfl,q _ (I.hok.fresh (Nat.le_succ _))⟩
    have:=sizeLine_eq
    rw [List.length_map,srtI_len];omega
  rcases hq with hq | hq
  · obtain ⟨its,rv,pl,hz⟩:=I.list hq
    have hlen:=rv.length
    obtain ⟨o,ho,hc,n,hd⟩:=pl.isList
    exact sortedS ho (.inl hc) hd (Vals.ints rv) (by rw [← hlen,List.length_map];exact hl) (fin its)
  · obtain ⟨its,rv,pl,hz⟩:=I.tuple hq
    have hlen:=rv.length
    obtain ⟨o,ho,hc,n,hd⟩:=pl
    exact sortedS ho (.inr hc) hd (Vals.ints rv) (by rw [← hlen,List.length_map];exact hl) (fin its)
theorem d_sorted {K:Fg}:Does1 K .nw sortI (fun xs H Q=>∃ (a:Addr) (ns:List Int),xs=[.ref a]∧(SqL K H a (ns.map V.int)∨SqT K H a (ns.map V.int))∧ns.length<64∧∀ q,H q=none→Q (.ref q) (upd H q (.lst ((srtI ns).map V.int)))):=fun {Z H x dx d Q} s h e k=>by
  cases dx<;>try cases e
  · obtain ⟨ns,h1,h2⟩:=Option.bind_eq_some_iff.mp e
    obtain ⟨hl,rfl⟩:=ifS h2
    cases unInt_eq h1
    obtain ⟨a,vs,rfl,q,rr⟩:=h.tup s
    cases Reps.intsV rr
    exact ⟨a,ns,rfl,.inr q,hl,fun p hp=>k _ Z _ (Ex.newL s hp) ⟨p,_,_,rfl,rfl,hp,upd_same,s.free hp,Reps.ints _⟩⟩
  · obtain ⟨ns,h1,h2⟩:=Option.bind_eq_some_iff.mp e
    obtain ⟨hl,rfl⟩:=ifS h2
    cases unInt_eq h1
    obtain ⟨a,vs,rfl,q,rr⟩:=h.lst s
    cases Reps.intsV rr
    exact ⟨a,ns,rfl,.inl q,hl,fun p hp=>k _ Z _ (Ex.newL s hp) ⟨p,_,_,rfl,rfl,hp,upd_same,s.free hp,Reps.ints _⟩⟩
theorem m_sorted (hm:X.mg "sorted"=none) (ha:PD X ga l fa) (hg:Gl X "sorted":=by rfl) (he:starEach [l] X.env=[(false,eval l X.env)]:=by rfl):PD X .nw (.Call (.Name "sorted" p) [l] [] pos) (un1 sortI fa):=
  m_bi1 call_sortedI d_sorted PyProof.Rows.boot_sorted hm ha (by decide) (by decide) hg he
end
end Mi
namespace Mi
open PySem PySem.Spec PyProof.Rows L2
structure Src (prog:Program) (w:World) (i l:Addr) (it:Nat→Heap→Prop) (at_:List Value→Heap→Prop):Prop where
  nxt:∀ {A:Around} {E:Value→Shared→Prop} {s:Shared} {k:Nat} {xs:List Value} {x:Value} {Q:Value→Shared→Prop},it k s.heap→at_ xs s.heap→xs[k]?=some x→(∀ h',it (k+1) h'→Heap.SameBut i s.heap h'→Q x { s with heap:=h' })→
    wpAny (model prog w) A (Builtin.SmallTypes.nextOf (.ref i)) Q E s
  fin:∀ {A:Around} {E:Value→Shared→Prop} {s:Shared} {k:Nat} {xs:List Value} {Q:Value→Shared→Prop},A.handled=none→it k s.heap→at_ xs s.heap→xs[k]?=none→
    (∀ h' e,Heap.ExtBut i s.heap h'→(∃ o,h'.get? e=some o∧o.cls=.type "StopIteration")→E (.ref e) { s with heap:=h' })→wpAny (model prog w) A (Builtin.SmallTypes.nextOf (.ref i)) Q E s
  itx:∀ {k:Nat} {h h':Heap},it k h→(∀ o,h.get? i=some o→h'.get? i=some o)→it k h'
  atx:∀ {xs:List Value} {h h':Heap},at_ xs h→(∀ o,h.get? l=some o→h'.get? l=some o)→at_ xs h'
  obj:∀ {k:Nat} {h:Heap},it k h→∃ o,h.get? i=some o∧∀ v,o.data≠.cell v
  lt:∀ {xs:List Value} {h:Heap},at_ xs h→∃ o,h.get? l=some o
section
variable {prog:Program} {w:World}
theorem nextT_item {A:Around} {E:Value→Shared→Prop} {s:Shared} {i t:Addr} {k:Nat} {items:Array Value} {x:Value} {Q:Value→Shared→Prop} (hit:s.heap.IsTupleIter i t k) (ht:s.heap.IsTuple t items) (hx:items[k]?=some x)
    (hQ:∀ h',h'.IsTupleIter i t (k+1)→Heap.SameBut i s.heap h'→Q x { s with heap:=h' }):wpAny (model prog w) A (Builtin.SmallTypes.nextOf (.ref i)) Q E s:=by
  obtain ⟨o,ho,hc,hd⟩:=id hit
  obtain ⟨ol,hol,_,nl,hdl⟩:=ht
  unfold Builtin.SmallTypes.nextOf
  refine wpAny_bind (wpAny_callSpecial?_slot (name:=Str.ofString "__next__") hit.typeIs F.slot_tuple_iterator_next (wpAny_call_entry F.slot_tuple_iterator_next hit.typeIs F.entry_tuple_iterator_next ?_ (F.args_tuple_iterator_next_1 _)))
  show wpAny _ _ (field (.ref i) 0 >>= _) _ _ s
  refine wpAny_bind (wpAny_field ho hd (x:=.ref t) rfl (show wpAny _ _ (if (Value.ref t==Value.none)=true then _ else _) _ _ s from ?_))
  rw [if_neg (show ¬ ((Value.ref t==Value.none)=true) from Bool.false_ne_true)]
  refine (show wpAny _ _ (field (.ref i) 1 >>= _) _ _ s from wpAny_bind (wpAny_field ho hd (x:=.int k 0) rfl (show wpAny _ _ (seqItems? (.ref t) >>= _) _ _ s from wpAny_bind (wpAny_seqItems hol hdl ?_))))
  simp only [Int.toNat_natCast,hx]
  refine wpAny_bind (wpAny_setField ho hd (by simp) (wpAny_pure ⟨x,rfl,wpAny_pure (hQ _ ?_ (Heap.SameBut.update ..))⟩))
  exact ⟨_,Heap.get?_update_self _ ho (Obj.isFreed_of_fields (Obj.data_mapFields hd _)),(Obj.cls_mapFields ..).trans hc,by rw [Obj.data_mapFields hd];simp [rawInt]⟩
theorem nextT_end {A:Around} {E:Value→Shared→Prop} {s:Shared} {i t:Addr} {k:Nat} {items:Array Value} {Q:Value→Shared→Prop} (hh:A.handled=none) (hit:s.heap.IsTupleIter i t k) (ht:s.heap.IsTuple t items) (hx:items[k]?=none)
    (hE:∀ h' e,Heap.ExtBut i s.heap h'→(∃ o,h'.get? e=some o∧o.cls=.type "StopIteration")→E (.ref e) { s with heap:=h' }):wpAny (model prog w) A (Builtin.SmallTypes.nextOf (.ref i)) Q E s:=by
  obtain ⟨o,ho,hc,hd⟩:=id hit
  obtain ⟨ol,hol,_,nl,hdl⟩:=ht
  unfold Builtin.SmallTypes.nextOf
  refine wpAny_bind (wpAny_callSpecial?_slot (name:=Str.ofString "__next__") hit.typeIs F.slot_tuple_iterator_next (wpAny_call_entry F.slot_tuple_iterator_next hit.typeIs F.entry_tuple_iterator_next ?_ (F.args_tuple_iterator_next_1 _)))
  show wpAny _ _ (field (.ref i) 0 >>= _) _ _ s
  refine wpAny_bind (wpAny_field ho hd (x:=.ref t) rfl (show wpAny _ _ (if (Value.ref t==Value.none)=true then _ else _) _ _ s from ?_))
  rw [if_neg (show ¬ ((Value.ref t==Value.none)=true) from Bool.false_ne_true)]
  refine (show wpAny _ _ (field (.ref i) 1 >>= _) _ _ s from wpAny_bind (wpAny_field ho hd (x:=.int k 0) rfl (show wpAny _ _ (seqItems? (.ref t) >>= _) _ _ s from wpAny_bind (wpAny_seqItems hol hdl ?_))))
  simp only [Int.toNat_natCast,hx]
  refine wpAny_bind (wpAny_rule (wpAny_bind (wpAny_setField ho hd (by simp) ?_)))
  refine (show wpAny _ _ (newExc (.type "StopIteration") [] >>= _) _ _ _ from wpAny_bind ?_)
  simp only [newExc,newTuple]
  refine wpAny_bind (wpAny_newObj_type (wpAny_bind (m:=firstArgMember _ _) (wpAny_of_eq (a:=Value.none) (by first | rfl | (simp only [firstArgMember];rfl)) ?_)) (by size_fits))
  refine wpAny_newObj_type ?_ (by size_fits)
  simp only [raiseNew]
  refine wpAny_bind (wpAny_handled ?_)
  first | rw [show A.in1.handled=none from hh] | rw [hh]
  exact wpAny_bind (wpAny_pure (wpAny_throw (hE _ _ (((Heap.SameBut.update ..).extBut.push _).push _) ⟨_,Heap.get?_push_size _ rfl,rfl⟩)))
theorem srcT (i l:Addr):Src prog w i l (fun k h=>h.IsTupleIter i l k) (fun xs h=>h.IsTuple l xs.toArray) where
  nxt:=fun h1 h2 h3 h4=>nextT_item h1 h2 (by simpa using h3) h4
  fin:=fun hh h1 h2 h3 h4=>nextT_end hh h1 h2 (by simpa using h3) h4
  itx:=fun h1 h2=>h1.at h2
  atx:=fun ⟨o,h1,h2⟩ h3=>⟨o,h3 o h1,h2⟩
  obj:=fun ⟨o,e,c,d⟩=>⟨o,e,fun v z=>by rw [d] at z;cases z⟩
  lt:=fun ⟨o,h1,_⟩=>⟨o,h1⟩
theorem srcL (i l:Addr):Src prog w i l (fun k h=>h.IsListIter i l k) (fun xs h=>h.IsList l xs.toArray) where
  nxt:=fun h1 h2 h3 h4=>wpAny_nextOf_list_item h1 h2 (by simpa using h3) h4
  fin:=fun hh h1 h2 h3 h4=>wpAny_nextOf_list_end hh h1 h2 (by simpa using h3) h4
  itx:=fun h1 h2=>h1.at h2
  atx:=fun h1 h2=>h1.at h2
  obj:=fun ⟨o,e,c,d⟩=>⟨o,e,fun v z=>by rw [d] at z;cases z⟩
  lt:=fun ⟨o,h1,_⟩=>⟨o,h1⟩
variable {A:Around} {E:Value→Shared→Prop} {s:Shared} {z TI TO i1 i2 l1 l2:Addr} {k1 k2:Nat} {xs ys:List Value} {x y a b:Value} {it1 it2:Nat→Heap→Prop} {at1 at2:List Value→Heap→Prop}
theorem exb {c e:Addr} {h h':Heap} (hs:Heap.ExtBut e h h') (n:c≠e):∀ o,h.get? c=some o→h'.get? c=some o:=fun o q=>hs c o n q
end
section
variable {X:Cx} {pins:List (Addr×Obj)} {σ:L2.St} {H:Hp} {s:Shared} {h':Heap}
theorem turnedL {t':Nat} {ch:List Addr} (I:L2.Inv X pins σ H s) (hf:∀ b∈ch,FpOk X pins H b) (k:∀ b o,b∉ch→s.heap.get? b=some o→h'.get? b=some o):L2.Inv X pins σ H { s with heap:=h',toks:=t' }:=by
  have nit:∀ b u,H b=some u→b∉ch:=fun b u e z=>by rw [(hf b z).1] at e;cases e
  refine I.step (g':=s.gens) (d':=s.drawn) (ch:=ch) (fun b hb=>?_) (fun b o _ _ hc e _=>k b o hc e) (fun b o _ _ hc e _=>⟨o.slots,k b o hc e⟩) (fun _ _ _ _ n=>n)
    (fun b o hc e=>⟨o,k b o hc e⟩) (fun _ _ e=>e) (fun _ _ _ e=>e) (fun b ps e=>⟨#[],by rw [e];simp⟩) (fun m hm=>?_) (fun b u e=>?_) I.bare
  · obtain ⟨f0,f1,f2,f3,f4,f5⟩:=hf b hb
    exact ⟨f3,f1,f4,f5⟩
  · obtain ⟨o,es,ep,ho,r⟩:=hm
    exact ⟨o,es,ep,k _ o (fun z=>(hf _ z).2.1 rfl) ho,r⟩
  · refine (I.hok b u e).stay (fun c v hc q=>k c v ?_ q) (fun _ q=>q) fun _ _ q=>q
    rcases hc with z | z
    · rw [z];exact nit b u e
    · exact nit c _ z
end
structure Kin (K:Fg) (l:Addr) (S:Hp→List V→Prop) (at_:List Value→Heap→Prop):Prop where
  get:∀ {X:Cx} {pins:List (Addr×Obj)} {σ:L2.St} {H:Hp} {s:Shared} {xs:List V},X.K=K→L2.Inv X pins σ H s→S H xs→∃ its,Vals xs its∧at_ its s.heap
  inj:∀ {X:Cx} {pins:List (Addr×Obj)} {σ:L2.St} {H:Hp} {s:Shared} {xs ys:List V},X.K=K→L2.Inv X pins σ H s→S H xs→S H ys→xs=ys
theorem kinT {K:Fg} (l:Addr):Kin K l (fun H xs=>SqT K H l xs) (fun xs h=>h.IsTuple l xs.toArray):=
  ⟨fun e I h=>by subst e;obtain ⟨its,rv,p,hz⟩:=I.tuple h;exact ⟨its,rv,p⟩,fun e I h1 h2=>by subst e;exact I.tuple_inj h1 h2⟩
theorem kinL {K:Fg} (l:Addr):Kin K l (fun H xs=>SqL K H l xs) (fun xs h=>h.IsList l xs.toArray):=
  ⟨fun e I h=>by subst e;obtain ⟨its,rv,p,hz⟩:=I.list h;exact ⟨its,rv,p.isList⟩,fun e I h1 h2=>by subst e;exact I.list_inj h1 h2⟩
end Mi
namespace Mi
open PySem PySem.Spec PyProof.Rows L2
abbrev zq1 (c:String) (h:Heap) (l:Addr):Heap:=h.push { cls:=.type c,data:=.fields #[.ref l,.int 0 0] }
section
variable {X:Cx} {es:List Expr} {kk:Nat} {tp:Pos}
end
end Mi
namespace Mi
open PySem L2
theorem and_v {f g:Fe} {env:En} {p q:Bool} (h1:f env=some (.bl p)) (h2:p=true→g env=some (.bl q)):andF f g env=some (.bl (p&&q)):=by
  unfold andF;rw [h1]
  cases p with
  | true=>exact h2 rfl
  | false=>rfl
theorem or_v {f g:Fe} {env:En} {p q:Bool} (h1:f env=some (.bl p)) (h2:p=false→g env=some (.bl q)):orF f g env=some (.bl (p||q)):=by
  unfold orF;rw [h1]
  cases p with
  | false=>exact h2 rfl
  | true=>rfl
theorem andB_v {f g:Fb} {env:En} {p q:Bool} (h1:f env=some p) (h2:p=true→g env=some q):andB f g env=some (p&&q):=by
  unfold andB;rw [h1]
  cases p with
  | true=>exact h2 rfl
  | false=>rfl
theorem orB_v {f g:Fb} {env:En} {p q:Bool} (h1:f env=some p) (h2:p=false→g env=some q):orB f g env=some (p||q):=by
  unfold orB;rw [h1]
  cases p with
  | false=>exact h2 rfl
  | true=>rfl
theorem ch_v {b b':D→D→Option D} {fa fb fc:Fe} {env:En} {x y w:D} {p q:Bool} (hx:fa env=some x) (hy:fb env=some y) (hw:fc env=some w) (h1:b x y=some (.bl p)) (h2:b' y w=some (.bl q)):chF b b' fa fb fc env=some (.bl (p&&q)):=by
  unfold chF;rw [hx];show (fb env).bind _=_;rw [hy];show (b x y).bind _=_;rw [h1]
  cases p with
  | true=>show (fc env).bind _=_;rw [hw];exact h2
  | false=>rfl
theorem comp_v {fi:Fi} {is:List Nat} {t:Ft} {c:Fb} {k:En→Option (List D)} {n:Nat} {caps:List Nat} {env:En} {ds xs:List D} (h1:fi env=some ds) (h2:unAll is (capE n caps env)=true) (h3:goF t c k (capE n caps env) ds=some xs) (hl:xs.length≤16000000):compF fi is t c k n caps env=some (.lst xs):=by
  unfold compF;rw [h1];show (if unAll is (capE n caps env)=true then _ else _)=_;rw [if_pos h2,h3];show (if xs.length≤16000000 then _ else _)=_;rw [if_pos hl]
theorem go_map {t:Ft} {c:Fb} {k:En→Option (List D)} {env:En} (p:D→Bool) (g:D→D):∀ (ds:List D),(∀ d∈ds,∃ e1,t d env=some e1∧c e1=some (p d)∧(p d=true→k e1=some [g d]))→goF t c k env ds=some ((ds.filter p).map g)
  | [],_=>rfl
  | d::ds,h=>by
    obtain ⟨e1,h1,h2,h3⟩:=h d List.mem_cons_self
    have ih:=go_map p g ds fun x hx=>h x (List.mem_cons_of_mem _ hx)
    unfold goF
    rw [h1];show (c e1).bind _=_;rw [h2]
    cases hp:p d with
    | true=>
      show (if true=true then k e1 else some []).bind _=_
      rw [if_pos rfl,h3 hp];show (goF t c k env ds).bind _=_;rw [ih,List.filter_cons,if_pos hp];rfl
    | false=>
      simp only [Option.bind_some,Bool.false_eq_true,if_false,ih,List.nil_append,List.filter_cons,hp]
theorem go_all {t:Ft} {c:Fb} {k:En→Option (List D)} {env:En} {P:D→Prop}:∀ (ds:List D),(∀ d∈ds,∃ e1 x,t d env=some e1∧c e1=some true∧k e1=some [x]∧P x)→∃ xs,goF t c k env ds=some xs∧xs.length=ds.length∧∀ x∈xs,P x
  | [],_=>⟨[],rfl,rfl,fun _ h=>by cases h⟩
  | d::ds,h=>by
    obtain ⟨e1,x,h1,h2,h3,h4⟩:=h d List.mem_cons_self
    obtain ⟨xs,i1,i2,i3⟩:=go_all ds fun y hy=>h y (List.mem_cons_of_mem _ hy)
    refine ⟨x::xs,?_,by simp [i2],fun y hy=>?_⟩
    · unfold goF
      rw [h1];show (c e1).bind _=_;rw [h2]
      show (if true=true then k e1 else some []).bind _=_
      rw [if_pos rfl,h3];show (goF t c k env ds).bind _=_;rw [i1];rfl
    · rcases List.mem_cons.mp hy with rfl | hy
      · exact h4
      · exact i3 y hy
theorem emit_v {f:Fe} {env:En} {d:D} (h:f env=some d):emitF f env=some [d]:=by unfold emitF;rw [h];rfl
theorem loop_acc {t:Ft} {body:Fs} (I:List D→En→Prop) (g:D→List D) (B M:Nat):∀ (ds:List D) (acc:List D) (env:En),I acc env→acc.length+B*ds.length≤M→(∀ d∈ds,(g d).length≤B∧∀ acc e,I acc e→acc.length+B≤M→∃ e1,(t d e).bind body=some (.nx e1)∧I (acc++g d) e1)→
    ∃ e2,loopF t body ds env=some (.nx e2)∧I (acc++ds.flatMap g) e2
  | [],acc,env,h,_,_=>⟨env,rfl,by simpa using h⟩
  | d::ds,acc,env,h,hl,hb=>by
    obtain ⟨b1,b2⟩:=hb d List.mem_cons_self
    rw [List.length_cons,Nat.mul_succ] at hl
    obtain ⟨e1,h1,h2⟩:=b2 acc env h (by omega)
    obtain ⟨e2,h3,h4⟩:=loop_acc I g B M ds (acc++g d) e1 h2 (by rw [List.length_append];omega) fun d' hd=>hb d' (List.mem_cons_of_mem _ hd)
    refine ⟨e2,?_,by rw [List.flatMap_cons,← List.append_assoc];exact h4⟩
    obtain ⟨e0,h5,h6⟩:=Option.bind_eq_some_iff.mp h1
    show (t d env).bind (fun e1=>(body e1).bind _)=_
    rw [h5]
    show (body e0).bind _=_
    rw [h6]
    exact h3
theorem len_flat {g:D→List D} {B:Nat}:∀ (ds:List D),(∀ d∈ds,(g d).length≤B)→(ds.flatMap g).length≤B*ds.length
  | [],_=>by simp
  | d::ds,h=>by
    rw [List.flatMap_cons,List.length_append,List.length_cons,Nat.mul_succ]
    have:=h d List.mem_cons_self
    have:=len_flat ds fun x hx=>h x (List.mem_cons_of_mem _ hx)
    omega
theorem mem_rng {n:Nat} {d:D}:d∈rangeL 0 n↔∃ i:Nat,i<n∧d=.int i:=by
  unfold rangeL
  simp only [List.mem_map,List.mem_range]
  constructor
  · rintro ⟨i,h,rfl⟩;exact ⟨i,h,by simp⟩
  · rintro ⟨i,h,rfl⟩;exact ⟨i,h,by simp⟩
theorem rng_len (n:Nat):(rangeL 0 n).length=n:=by simp [rangeL]
theorem deps_le {n:Nat}:∀ {ds:List D},(∀ d∈ds,dep d≤n)→deps ds≤n
  | [],_=>by unfold deps;omega
  | d::ds,h=>by
    unfold deps
    have:=h d List.mem_cons_self
    have:=deps_le fun x hx=>h x (List.mem_cons_of_mem _ hx)
    omega
theorem dep_tup {n:Nat} {ds:List D} (h:∀ d∈ds,dep d≤n):dep (.tup ds)≤n+1:=by unfold dep;have:=deps_le h;omega
theorem dep_lst {n:Nat} {ds:List D} (h:∀ d∈ds,dep d≤n):dep (.lst ds)≤n+1:=by unfold dep;have:=deps_le h;omega
theorem dep_int (i:Int):dep (.int i)=0:=by unfold dep;rfl
theorem dep_str (x:Str):dep (.str x)=0:=by unfold dep;rfl
theorem ninT_v {f g:Fe} {env:En} {d:D} {es:List D} {b:Bool} (h1:f env=some d) (h2:g env=some (.tup es)) (h3:dep d≤60) (hb:inD d es=b) (h4:(pl d&&pls es)=true:=by rfl):op2 (inF true) f g env=some (.bl !b):=by
  rw [op2_v h1 h2];show (if dep d≤60∧(pl d&&pls es)=true then _ else _)=_;rw [if_pos ⟨h3,h4⟩,← hb];rfl
theorem eq_d {f g:Fe} {env:En} {d e:D} {b:Bool} (h1:f env=some d) (h2:g env=some e) (h3:depOk d e=true) (hb:eqD d e=b):op2 eqF f g env=some (.bl b):=by
  rw [op2_v h1 h2];unfold eqF;rw [if_pos h3,hb]
theorem ne_d {f g:Fe} {env:En} {d e:D} {b:Bool} (h1:f env=some d) (h2:g env=some e) (h3:depOk d e=true) (hb:eqD d e=b):op2 neF f g env=some (.bl !b):=by
  rw [op2_v h1 h2];unfold neF;rw [if_pos h3,hb]
theorem ok_l {d e:D} (h:dep d≤60) (h2:(pl d&&pl e)=true):depOk d e=true:=by unfold depOk;rw [h2,decide_eq_true h];rfl
theorem ok_r {d e:D} (h:dep e≤60) (h2:(pl d&&pl e)=true):depOk d e=true:=by unfold depOk;rw [h2,decide_eq_true h,Bool.or_true];rfl
theorem eqD_nil (xs:List D):eqD (.lst xs) (.lst [])=xs.isEmpty:=by
  cases xs<;>(unfold eqD;rfl)
theorem tup_v {fs:Fes} {env:En} {ds:List D} (h:fs env=some ds):fTup fs env=some (.tup ds):=by unfold fTup;rw [h];rfl
theorem lst_v {fs:Fes} {env:En} {ds:List D} (h:fs env=some ds):fLst fs env=some (.lst ds):=by unfold fLst;rw [h];rfl
theorem ite_v {t:Fb} {f g:Fe} {env:En} {b:Bool} {d:D} (h:t env=some b) (h1:b=true→f env=some d) (h2:b=false→g env=some d):iteFn t f g env=some d:=by
  unfold iteFn;rw [h]
  cases b with
  | true=>exact h1 rfl
  | false=>exact h2 rfl
theorem atI_in {α:Type} {xs:List α} {i:Int} (h0:0≤i) (h1:i<xs.length):∃ x,L2.atI xs i=some x∧x∈xs:=by
  obtain ⟨n,rfl⟩:=Int.eq_ofNat_of_zero_le h0
  have hn:n<xs.length:=by omega
  exact ⟨xs[n],atI_nat (List.getElem?_eq_getElem hn),List.getElem_mem hn⟩
theorem cutL_v {f:Fe} {env:En} {ds:List D} (k:Nat) (h:f env=some (.lst ds)):slF cutLst f oNone (oSome (fC (.int (k:Int)))) env=some (.lst (ds.take k)):=by
  unfold slF;rw [h];show some (D.lst (cutD ds none (some (k:Int))))=_;rw [cutD_head]
theorem cutD_from (ns:List D) (k:Nat):cutD ns (some (k:Int)) none=ns.drop k:=by
  unfold cutD
  rw [HT.sIx_none,HT.sIx_nat]
  by_cases h:k≤ns.length
  · rw [Nat.min_eq_left h,List.take_of_length_le (by rw [List.length_drop];omega)]
  · rw [Nat.min_eq_right (by omega),List.drop_length,List.drop_of_length_le (by omega)];simp
theorem fromL_v {f:Fe} {env:En} {ds:List D} (k:Nat) (h:f env=some (.lst ds)):slF cutLst f (oSome (fC (.int (k:Int)))) oNone env=some (.lst (ds.drop k)):=by
  unfold slF;rw [h];show some (D.lst (cutD ds (some (k:Int)) none))=_;rw [cutD_from]
theorem tupleL_v {f:Fe} {env:En} {ds:List D} (h:f env=some (.lst ds)):un1 tupleD f env=some (.tup ds):=by unfold un1;rw [h];rfl
theorem listL_v {f:Fe} {env:En} {ds:List D} (h:f env=some (.lst ds)):un1 listD f env=some (.lst ds):=by unfold un1;rw [h];rfl
theorem listT_v {f:Fe} {env:En} {ds:List D} (h:f env=some (.tup ds)):un1 listD f env=some (.lst ds):=by unfold un1;rw [h];rfl
theorem addL_v {f g:Fe} {env:En} {xs ys:List D} (h:f env=some (.lst xs)) (h2:g env=some (.lst ys)) (hl:xs.length+ys.length≤16000000):op2 addL f g env=some (.lst (xs++ys)):=by
  rw [op2_v h h2];show (if xs.length+ys.length≤16000000 then _ else _)=_;rw [if_pos hl]
theorem unBl_map:∀ (bs:List Bool),unBl (bs.map .bl)=some bs
  | []=>rfl
  | b::bs=>by show (unBl (bs.map .bl)).bind _=_;rw [unBl_map bs];rfl
theorem all_v {f:Fe} {env:En} {bs:List Bool} (h:f env=some (.lst (bs.map .bl))):un1 allD f env=some (.bl (bs.all id)):=by
  rw [un1_v h];show (unBl (bs.map .bl)).bind _=_;rw [unBl_map];rfl
theorem setO_v {i:Nat} {f:Fe} {env:En} {ds:List D} (h:f env=some (.lst ds)):setO i f env=some (.nx (env.set i (.O (.L ds)))):=by unfold setO;rw [h];rfl
end Mi
namespace Mi
theorem and_f {f g:Fe} {env:En} (h1:f env=some (.bl false)):andF f g env=some (.bl false):=by unfold andF;rw [h1];rfl
theorem and_t {f g:Fe} {env:En} (h1:f env=some (.bl true)):andF f g env=g env:=by unfold andF;rw [h1];rfl
end Mi
namespace Mi
theorem tg_v {t:Ft} {d:D} {e e0:En} {b:Fs} {o:Out} (h:t d e=some e0) (h2:b e0=some o):(t d e).bind b=some o:=by rw [h];exact h2
end Mi
namespace Mi
theorem go_map1 {t:Ft} {k:En→Option (List D)} {env:En} (g:D→D) (ds:List D) (h:∀ d∈ds,∃ e1,t d env=some e1∧k e1=some [g d]):goF t (fun _=>some true) k env ds=some (ds.map g):=by
  have:=go_map (t:=t) (c:=fun _=>some true) (k:=k) (env:=env) (fun _=>true) g ds fun d hd=>by
    obtain ⟨e1,h1,h2⟩:=h d hd
    exact ⟨e1,h1,rfl,fun _=>h2⟩
  rwa [List.filter_eq_self.mpr (fun _ _=>rfl)] at this
end Mi
namespace Mi
end Mi
namespace Mi
open PySem PySem.Spec PyProof.Rows L2
def putP (ks:List (Int×Int)) (p:Int×Int):List (Int×Int):=if p∈ks then ks else ks++[p]
theorem kk_inj {p q:Int×Int} (h:kk p=kk q):p=q:=by
  obtain ⟨a,b⟩:=p
  obtain ⟨c,d⟩:=q
  unfold kk at h
  simp at h
  exact Prod.ext h.1 h.2
theorem putP_len (ks:List (Int×Int)) (p:Int×Int):(putP ks p).length≤ks.length+1:=by
  unfold putP;split<;>simp
theorem zip_fst {α β:Type}:∀ {xs:List α} {ys:List β},xs.length=ys.length→(xs.zip ys).map (·.1)=xs
  | [],[],_=>rfl
  | [],_::_,h=>by simp at h
  | _::_,[],h=>by simp at h
  | x::xs,y::ys,h=>by rw [List.zip_cons_cons,List.map_cons,zip_fst (by simpa using h)]
theorem nodup_map {α β:Type} {f:α→β} (hf:∀ x y,f x=f y→x=y) {l:List α}:(l.map f).Nodup↔l.Nodup:=by
  unfold List.Nodup
  rw [List.pairwise_map]
  exact ⟨fun h=>h.imp fun hne e=>hne (by rw [e]),fun h=>h.imp fun hne e=>hne (hf _ _ e)⟩
def kd (x:(Int×Int)×Addr):List Key×Addr×Value:=(kk x.1,x.2,.bool true)
theorem kd_fst {ps:List (Int×Int)} {bs:List Addr} (hl:bs.length=ps.length):((ps.zip bs).map kd).map (·.1)=ps.map kk:=by
  rw [List.map_map,show ((fun x:List Key×Addr×Value=>x.1) ∘ kd)=kk ∘ (fun x:(Int×Int)×Addr=>x.1) from rfl,← List.map_map,zip_fst hl.symm]
theorem PrAt.zip {K:Fg} {H:Hp} {ps:List (Int×Int)} {bs:List Addr} (h:PrAt K H ps bs):∀ x∈ps.zip bs,SqT K H x.2 [.int x.1.1,.int x.1.2]:=fun x hx=>by
  obtain ⟨i,hi⟩:=List.mem_iff_getElem?.mp hx
  obtain ⟨h1,h2⟩:=List.getElem?_zip_eq_some.mp hi
  exact h.2 i _ _ h1 h2
section
variable {P:Program} {w:World} {a:Addr} {ps:List (Int×Int)} {bs:List Addr} {h:Heap}
theorem dicP_to (hl:bs.length=ps.length) (d:DicP a ps bs h) (his:∀ x∈ps.zip bs,(tupleKind (mixKind P w)).is h (kk x.1) x.2):h.DictOfH (tupleKind (mixKind P w)) a ((ps.zip bs).map kd):=by
  obtain ⟨o,es,ep,h1,h2,h3,h4,h5,h6,h7⟩:=d
  refine ⟨o,es,ep,h1,h2,h3,by rw [h4,List.map_map];rfl,fun x hx=>?_,?_⟩
  · obtain ⟨y,hy,rfl⟩:=List.mem_map.mp hx
    exact his y hy
  · rw [kd_fst hl];exact (nodup_map fun x y=>kk_inj).mpr h5
theorem dicP_of (hl:bs.length=ps.length) (d:h.DictOfH (tupleKind (mixKind P w)) a ((ps.zip bs).map kd)) (hs:(a==sysModules)=false) (hz:ps.length≤16000000):DicP a ps bs h:=by
  obtain ⟨o,es,ep,h1,h2,h3,h4,h5,h6⟩:=d
  refine ⟨o,es,ep,h1,h2,h3,by rw [h4,List.map_map];rfl,?_,hs,hz⟩
  rw [kd_fst hl] at h6
  exact (nodup_map fun x y=>kk_inj).mp h6
theorem dicP_stays (a:Addr) (ps:List (Int×Int)) (bs:List Addr):∀ h1 h2:Heap,DicP a ps bs h1→(∀ o,h1.get? a=some o→h2.get? a=some o)→DicP a ps bs h2:=fun h1 h2 ⟨o,es,ep,e,r⟩ k=>⟨o,es,ep,k o e,r⟩
theorem at_kd (p:Int×Int):∀ {l:List ((Int×Int)×Addr)},(atKey (l.map kd) (kk p)).isSome=decide (p∈l.map (·.1))
  | []=>by simp [atKey]
  | x::l=>by
    have ih:=at_kd p (l:=l)
    unfold atKey at ih ⊢
    rw [List.map_cons,List.find?_cons]
    by_cases e:x.1=p
    · subst e
      rw [show decide ((kd x).1=kk x.1)=true by simp [kd]]
      simp
    · rw [show decide ((kd x).1=kk p)=false from decide_eq_false fun z=>e (kk_inj z)]
      rw [Option.isSome_map] at ih ⊢
      simp only
      rw [ih]
      have:¬ p=x.1:=fun z=>e z.symm
      simp [this]
def putB (ps:List (Int×Int)) (bs:List Addr) (p:Int×Int) (b:Addr):List Addr:=if p∈ps then bs else bs++[b]
theorem stored_kd (hl:bs.length=ps.length) (p:Int×Int) (b:Addr):storedH ((ps.zip bs).map kd) (kk p) b (.bool true)=((putP ps p).zip (putB ps bs p b)).map kd:=by
  unfold storedH putP putB
  rw [at_kd,zip_fst hl.symm]
  by_cases h:p∈ps
  · rw [if_pos h,if_pos h,decide_eq_true h,if_pos rfl]
    rw [List.map_map]
    refine List.map_congr_left fun x _=>?_
    simp only [Function.comp,putAt]
    split<;>rfl
  · rw [if_neg h,if_neg h,decide_eq_false h,if_neg (by simp)]
    rw [List.zip_append hl.symm,List.map_append];rfl
theorem putB_len (hl:bs.length=ps.length) (p:Int×Int) (b:Addr):(putB ps bs p b).length=(putP ps p).length:=by
  unfold putB putP;split<;>simp [hl]
theorem PrAt.put {K:Fg} {H:Hp} (r:PrAt K H ps bs) {p:Int×Int} {b:Addr} (q:SqT K H b [.int p.1,.int p.2]):PrAt K H (putP ps p) (putB ps bs p b):=by
  refine ⟨putB_len r.1 p b,fun i p' b' h1 h2=>?_⟩
  unfold putP at h1
  unfold putB at h2
  split at h1
  · rw [if_pos ‹_›] at h2;exact r.2 i p' b' h1 h2
  · rw [if_neg ‹_›] at h2
    by_cases hi:i<ps.length
    · rw [List.getElem?_append_left hi] at h1
      rw [List.getElem?_append_left (by rw [r.1];exact hi)] at h2
      exact r.2 i p' b' h1 h2
    · rw [List.getElem?_append_right (by omega)] at h1
      rw [List.getElem?_append_right (by rw [r.1];omega)] at h2
      have hz:i-ps.length=0:=by
        have:=(List.getElem?_eq_some_iff.mp h1).1
        simp at this;omega
      rw [hz] at h1
      rw [r.1,hz] at h2
      cases h1;cases h2
      exact q
end
section
variable {X:Cx} {rg:Gr} {l r:Expr} {fa fb:Fe} {ga gb:Gr} {pos p:Pos} {k:Nat}
theorem key_sq {pins σ H s} (I:Inv X pins σ H s) {b:Addr} {m n:Int} (hq:SqT X.K H b [.int m,.int n]):(tupleKind (mixKind X.prog X.w)).is s.heap (kk (m,n)) b:=by
  obtain ⟨its,rv,⟨o,h1,h2,n',h3⟩,_⟩:=I.tuple hq
  exact ⟨o,its.toArray,n',h1,h2,h3,by simpa using items_are (ks:=kk (m,n)) rv⟩
theorem dic_in {pins σ H s} (I:Inv X pins σ H s) {c:Addr} {ks:List (Int×Int)} {bs:List Addr} (hc:H c=some (.ext (DicP c ks bs))) (hp:PrAt X.K H ks bs):s.heap.DictOfH (tupleKind (mixKind X.prog X.w)) c ((ks.zip bs).map kd)∧(c==sysModules)=false∧ks.length≤16000000:=by
  have hS:DicP c ks bs s.heap:=(show ObjOk X.prog X.w H s.heap c (.ext (DicP c ks bs)) from I.hok c _ hc).1
  refine ⟨dicP_to hp.1 hS fun x hx=>key_sq I (hp.zip x hx),?_⟩
  obtain ⟨_,_,_,_,_,_,_,_,h6,h7⟩:=hS
  exact ⟨h6,h7⟩
theorem m_dnew:PD X .nd (.Dict [] [] pos) (fC (.dct [])):=fun pins s σ H Q I hT=>by
  obtain ⟨env,B,Z,d,R,e,k⟩:=hT
  cases e
  have hf:=I.hok.fresh (Nat.le_refl s.heap.objs.size)
  have hd:DicP s.heap.objs.size [] [] (s.heap.push { cls:=.type "dict",data:=.dict #[] }):=⟨_,#[],0,Heap.get?_push_size _ rfl,⟨rfl,rfl,rfl⟩,rfl,rfl,List.nodup_nil,by have:=I.big;simpa using (Nat.ne_of_gt this),by simp⟩
  exact wpAny_Dict_empty ⟨.ref s.heap.objs.size,_,I.laid (a:=s.heap.objs.size) (o:=.ext (DicP s.heap.objs.size [] [])) (t':=s.toks) (fun _ _ q=>Heap.get?_push_of_some _ q) (Nat.le_refl _) ⟨hd,⟨_,Heap.get?_push_size _ rfl⟩,dicP_stays _ _ _⟩,rfl,
    k _ Z _ (Ex.newL R.zh hf) ⟨s.heap.objs.size,[],rfl,rfl,hf,⟨[],upd_same,rfl,fun i p b h=>by simp at h⟩,R.zh.free hf⟩⟩
def setQ (i:Nat) (f:Fe):Fs:=fun env=>(f env).bind fun d=>match d with | .dct ks=>some (.nx (env.set i (.O (.T ks)))) | _=>none
theorem setQ_pass {f:Fe} {i:Nat} {E:Ends} {σ:L2.St} {H:Hp} (h:TSt X.K rg (setQ i f) E σ H):tAsg (T X.K .nd f) (gName i) E σ H:=by
  obtain ⟨env,B,Z,o,R,e,k⟩:=h
  obtain ⟨d,e1,e2⟩:=Option.bind_eq_some_iff.mp e
  cases d<;>cases e2
  rename_i ks
  refine ⟨env,B,Z,_,R,e1,fun v Z' H' x g=>?_⟩
  obtain ⟨a,ks',rfl,e3,h1,⟨bs,h2,hp⟩,h3⟩:=g
  cases e3
  refine k _ Z' H' (x.part R.bh) ((R.ext x).setO i (R.bh.free h1) h3 h2 (show OwnOk X.K Z' a (.T ks) _ from ⟨bs,rfl,hp⟩) fun j es hj hje hja=>?_)
  obtain ⟨y,e4,b,us,e5,e6,_⟩:=R.sl j _ hje
  rw [hja] at e4;cases e4;cases e5
  rw [h1] at e6;cases e6
theorem s_setQ (i:Nat) {x:Str} {e:Expr} {fe:Fe} {pos':Pos} (he:PD X .nd e fe) (hN:X.N.Nodup) (hi:X.N[i]?=some x:=by rfl) (hx:Loc X.env.scope x:=by first | exact Or.inl rfl | exact Or.inr rfl) (hs:swapsWith e (some (.Name x pos')) pos.line X.env=pure false:=by rfl)
    (hf:X.fn x=true∨X.env.scope.names.lookup x=some .local:=by first | exact .inl rfl | exact .inr rfl | assumption):SD X rg (.Assign [.Name x pos'] e pos) (setQ i fe):=PS.imp (ps_set hN hi hx he hs hf) fun E σ H h=>setQ_pass h
def sPutE (K:Fg) (td ty tv:TE):TS:=fun D σ H=>tv σ H fun v H1=>td σ H1 fun x H2=>ty σ H2 fun y H3=>∃ (a b:Addr) (ks:List (Int×Int)) (bs:List Addr) (m n:Int),v=.bl true∧x=.ref a∧y=.ref b∧H3 a=some (.ext (DicP a ks bs))∧PrAt K H3 ks bs∧SqT K H3 b [.int m,.int n]∧ks.length<16000000∧
  D.nx σ (upd H3 a (.ext (DicP a (putP ks (m,n)) (putB ks bs (m,n) b))))
theorem ps_putE {o i value:Expr} {td ty tv:TE} {pos':Pos} (hu:X.A.units+1<cLine) (ho:PE X o td) (hi:PE X i ty) (hv:PE X value tv) (hs:swapsWith value (some (.Subscript o i pos')) pos.line X.env=pure false) :
    PS X (.Assign [.Subscript o i pos'] value pos) (sPutE X.K td ty tv):=by
  intro pins s σ H D I h
  refine wpAny_Assign_Subscript (thn (hv pins s σ H _ I h) fun r s1 ⟨v,H1,I1,rv,q1⟩=>thn (ho pins s1 σ H1 _ I1 q1) fun u s2 ⟨x,H2,I2,rx,q2⟩=>thn (hi pins s2 σ H2 _ I2 q2) fun iv s3 ⟨y,H3,I3,ry,a,b,ks,bs,m,n,ev,ex,ey,hc,hp,hq,hl,q3⟩=>?_) hs
  subst ev ex ey
  cases (show u=Value.ref a from rx)
  cases (show iv=Value.ref b from ry)
  cases (show r=Value.bool true from rv)
  obtain ⟨dd,hsm,hz⟩:=dic_in I3 hc hp
  refine wpAny_setItem_heap (hsz:=by rw [List.length_map,List.length_zip,hp.1,Nat.min_self,sizeLine_eq];omega) (tupleKind_room_in1 hu) (key_sq I3 hq) dd fun h' dd' hs'=>?_
  rw [stored_kd hp.1] at dd'
  have hnew:=dicP_of (putB_len hp.1 (m,n) b) dd' hsm (by have:=putP_len ks (m,n);omega)
  have he:∃ u,h'.get? a=some u:=by obtain ⟨o,_,_,e,_⟩:=hnew;exact ⟨o,e⟩
  exact ⟨σ,_,I3.write (x:=a) (e:=a) (o:=.ext (DicP a (putP ks (m,n)) (putB ks bs (m,n) b))) (by rw [hc];exact True.intro) (.inl rfl) (fun b u hb z=>(hs'.2 b hb).trans z) he ⟨hnew,he,dicP_stays _ _ _⟩,q3⟩
def putV (i:Nat) (fk:Fe):Fs:=fun env=>(fk env).bind fun d=>match env[i]?,d with
  | some (.O (.T ks)),.tup [.int a,.int b]=>if ks.length<16000000 then some (.nx (env.set i (.O (.T (putP ks (a,b)))))) else none
  | _,_=>none
theorem s_putV (i:Nat) {x:Str} {key:Expr} {fk:Fe} {px p2 p3:Pos} {k2:Nat} (hr:Room k X.A) (hk:PD X .cl key fk) (hN:X.N[i]?=some x:=by rfl) (hv:Vis X.env.scope x:=by first | exact Or.inl rfl | exact Or.inr (Or.inl rfl) | exact Or.inr (Or.inr rfl))
    (hd:(x==("__debug__":Str))=false:=by decide) (hcd:(x==("__classdict__":Str))=false:=by decide)
    (hs:swapsWith (.Constant (.bool true) k2 p3) (some (.Subscript (.Name x px) key p2)) pos.line X.env=pure false:=by rfl) :
    SD X rg (.Assign [.Subscript (.Name x px) key p2] (.Constant (.bool true) k2 p3) pos) (putV i fk):=by
  refine PS.imp (ps_putE (hu_of hr) (pe_var hN hv hd hcd) hk pe_bl hs) fun E σ H ⟨env,B,Z,o,R,e,kq⟩=>?_
  obtain ⟨d,e1,e⟩:=Option.bind_eq_some_iff.mp e
  split at e
  · rename_i ks m n hi
    obtain ⟨hlen,rfl⟩:=ifS e
    obtain ⟨y,e3,c,o,e4,e5,e6,bs,rfl,hp⟩:=R.sl i _ hi
    subst e4
    refine ⟨_,e3,env,B,Z,_,R,e1,fun v Z1 H1 x1 g1=>?_⟩
    obtain ⟨b,vs,rfl,q,rr⟩:=g1
    cases Reps.intsV (bs:=[m,n]) rr
    have R1:=R.ext x1
    refine ⟨c,b,ks,bs,m,n,rfl,rfl,rfl,x1.h _ _ e5,(hp.mono x1.z).mono x1.zh,sameT x1.zh q,hlen,?_⟩
    obtain ⟨R3,x3⟩:=R1.wr (es:=.T (putP ks (m,n))) hi e3 (show OwnOk X.K _ c (.T (putP ks (m,n))) _ from ⟨_,rfl,(hp.mono x1.z).put q⟩)
    exact kq σ _ _ ((x1.part R.bh).transB x3) R3
  · cases e
def putQ (i:Nat) (fs:Fes):Fs:=fun env=>(fs env).bind fun ds=>match env[i]?,ds with
  | some (.O (.T ks)),[.int a,.int b]=>if ks.length<16000000 then some (.nx (env.set i (.O (.T (putP ks (a,b)))))) else none
  | _,_=>none
theorem putQ_V (i:Nat) (fs:Fes):putQ i fs=putV i (fTup fs):=by
  funext env
  unfold putQ putV fTup
  cases fs env with
  | none=>rfl
  | some ds=>
    show (match env[i]?,ds with | some (.O (.T ks)),[.int a,.int b]=>_ | _,_=>_)=(match env[i]?,D.tup ds with | some (.O (.T ks)),.tup [.int a,.int b]=>_ | _,_=>_)
    split
    · rename_i h;rw [h]
    · rename_i h
      split
      · rename_i ks a b h1 h2
        cases h2
        exact absurd rfl (h ks a b h1)
      · rfl
theorem s_put (i:Nat) {x:Str} {a b:Expr} {fs:Fes} {px p2 p3:Pos} {k1 k2:Nat} (hr:Room k X.A) (hl:PL X [a,b] fs) (hN:X.N[i]?=some x:=by rfl) (hv:Vis X.env.scope x:=by first | exact Or.inl rfl | exact Or.inr (Or.inl rfl) | exact Or.inr (Or.inr rfl))
    (hd:(x==("__debug__":Str))=false:=by decide) (hcd:(x==("__classdict__":Str))=false:=by decide)
    (hs:swapsWith (.Constant (.bool true) k2 p3) (some (.Subscript (.Name x px) (.Tuple [a,b] k1 p) p2)) pos.line X.env=pure false:=by rfl) :
    SD X rg (.Assign [.Subscript (.Name x px) (.Tuple [a,b] k1 p) p2] (.Constant (.bool true) k2 p3) pos) (putQ i fs):=by
  rw [putQ_V]
  exact s_putV i hr (m_tup hl (by simp)) hN hv hd hcd hs
def inQ (neg:Bool):D→D→Option D
  | .tup [.int a,.int b],.dct ks=>some (.bl (if neg then !decide ((a,b)∈ks) else decide ((a,b)∈ks)))
  | _,_=>none
def rInQ (K:Fg) (neg:Bool):R2:=fun x y H Q=>∃ (b c:Addr) (ks:List (Int×Int)) (bs:List Addr) (m n:Int),x=.ref b∧SqT K H b [.int m,.int n]∧y=.ref c∧H c=some (.ext (DicP c ks bs))∧PrAt K H ks bs∧Q (.bl (if neg then !decide ((m,n)∈ks) else decide ((m,n)∈ks))) H
theorem op_inQ (hu:X.A.units+1<cLine) (neg:Bool):OpR X (compareOp (if neg then .NotIn else .In)) (rInQ X.K neg):=by
  intro pins s σ H x y v u Q I rx ry h
  obtain ⟨b,c,ks,bs,m,n,rfl,hq,rfl,hc,hp,q⟩:=h
  cases rx
  cases ry
  obtain ⟨dd,hsm,hz⟩:=dic_in I hc hp
  have hv:(atKey ((ks.zip bs).map kd) (kk (m,n))).isSome=decide ((m,n)∈ks):=by rw [at_kd,zip_fst hp.1.symm]
  cases neg with
  | false=>
    refine wpAny_in_heap (tupleKind_room_in1 hu) (key_sq I hq) hsm dd ?_
    rw [hv]
    exact ⟨.bl _,H,I.tok _,rfl,q⟩
  | true=>
    refine wpAny_notIn_heap (tupleKind_room_in1 hu) (key_sq I hq) hsm dd ?_
    rw [hv]
    exact ⟨.bl _,H,I.tok _,rfl,q⟩
theorem d_inQ {K:Fg} {neg:Bool}:Does K .cl (inQ neg) (rInQ K neg):=fun {Z H x y dx dy d Q} s h1 h2 e kq=>by
  unfold inQ at e
  split at e
  · rename_i m n ks
    cases e
    obtain ⟨b,vs,rfl,q,rr⟩:=h1.tup s
    cases Reps.intsV (bs:=[m,n]) rr
    obtain ⟨c,rfl,bs,qc,hp⟩:=h2.dct s
    exact ⟨b,c,ks,bs,m,n,rfl,q,rfl,qc,hp.mono s,kq _ Z H (Ex.refl s) rfl⟩
  · cases e
theorem b_inQ (hr:Room k X.A) (ha:PD X ga l fa) (hb:PD X gb r fb) (hm:behindInMarks .In r=false:=by rfl):PB X (.Compare l [.In] [r] pos) (fB (op2 (inQ false) fa fb)):=b_cmp (op_inQ (hu_of hr) false) d_inQ ha hb hm
end
end Mi
namespace Mi
open PySem PySem.Spec PyProof.Rows L2
section
variable {X:Cx} {rg:Gr} {pos:Pos}
def extF (i:Nat) (f:Fe):Fs:=fun env=>match env[i]? with
  | some (.O (.L ds))=>(f env).bind fun d=>match d with
    | .lst es=>if ds.length+es.length≤16000000 then some (.nx (env.set i (.O (.L (ds++es))))) else none
    | _=>none
  | _=>none
end
end Mi
namespace Mi
open PySem PySem.Spec PyProof.Rows L2
section
variable {X:Cx} {rg:Gr} {l r:Expr} {fa fb:Fe} {ga gb:Gr} {pos p p3:Pos}
end
section
variable {X:Cx} {tg:Expr}
end
end Mi
namespace Mi
open PySem PySem.Spec PyProof.Rows L2
section
variable {prog:Program} {w:World} {A:Around} {E:Value→Shared→Prop} {s:Shared} {e i l:Addr} {k:Nat} {xs:List Value} {x old:Value} {it:Nat→Heap→Prop} {at_:List Value→Heap→Prop}
theorem enS_item {Q:Value→Shared→Prop} (S:Src prog w i l it at_) (he:IsEnum s.heap e i k old) (hit:it k s.heap) (hat:at_ xs s.heap) (hx:xs[k]?=some x) (hne:e≠i)
    (hQ:∀ (g h':Heap),IsEnumOut h' e i ((k:Int)+1) x s.heap.objs.size→it (k+1) h'→g.objs.size=s.heap.objs.size→(∀ b o,b≠e→b≠i→s.heap.get? b=some o→g.get? b=some o)→
      (∀ b o,b≠e→(g.push { cls:=.type "tuple",data:=.seq #[.int k s.toks,x] }).get? b=some o→h'.get? b=some o)→Q (.ref s.heap.objs.size) { s with heap:=h',toks:=s.toks+1 }) :
    wpAny (model prog w) A (Builtin.«enumerate.__next__» ⟨[.ref e],[]⟩) (fun f s'=>∃ v,f=.done (.ret v)∧Q v s') E s:=by
  obtain ⟨hp,gn,d,tk,os⟩:=s
  refine (show wpAny _ _ (field (.ref e) 2 >>= _) _ _ _ from wpAny_bind (wpAny_field he rfl (x:=.ref i) rfl (wpAny_bind (S.nxt hit hat hx fun g1 it1 s1=>?_))))
  replace s1:Heap.SameBut i hp g1:=s1
  have he1:IsEnum g1 e i k old:=(s1.2 e hne).trans he
  refine (show wpAny _ _ (field (.ref e) 3 >>= _) _ _ ⟨g1,gn,d,tk,os⟩ from wpAny_bind (wpAny_field he1 rfl (x:=rawInt k) rfl ?_))
  refine (show wpAny _ _ (field (.ref e) 4 >>= _) _ _ ⟨g1,gn,d,tk,os⟩ from wpAny_bind (wpAny_field he1 rfl (x:=.none) rfl ?_))
  refine (show wpAny _ _ (mkInt k >>= _) _ _ ⟨g1,gn,d,tk,os⟩ from wpAny_bind (wpAny_mkInt ?_))
  refine (show wpAny _ _ (setField (.ref e) 3 (rawInt ((k:Int)+1)) >>= _) _ _ ⟨g1,gn,d,tk+1,os⟩ from wpAny_bind (wpAny_setField_rec he1 (by simp) fun g2 he2 s2=>?_))
  replace s2:Heap.SameBut e g1 g2:=s2
  replace he2:IsEnum g2 e i ((k:Int)+1) old:=he2
  refine (show wpAny _ _ (setField (.ref e) 4 .none >>= _) _ _ ⟨g2,gn,d,tk+1,os⟩ from wpAny_bind (wpAny_setField_rec he2 (by simp) fun g3 he3 s3=>?_))
  replace s3:Heap.SameBut e g2 g3:=s3
  replace he3:IsEnum g3 e i ((k:Int)+1) old:=he3
  refine (show wpAny _ _ (newTuple [.int k tk,x] >>= _) _ _ ⟨g3,gn,d,tk+1,os⟩ from wpAny_bind (wpAny_newTuple ?_))
  have he4:IsEnum (g3.push { cls:=.type "tuple",data:=.seq #[.int k tk,x] }) e i ((k:Int)+1) old:=Heap.get?_push_of_some _ he3
  have hit3:it (k+1) g3:=S.itx (S.itx it1 (exb s2.extBut (Ne.symm hne))) (exb s3.extBut (Ne.symm hne))
  have hit4:it (k+1) (g3.push { cls:=.type "tuple",data:=.seq #[.int k tk,x] }):=S.itx hit3 fun o q=>Heap.get?_push_of_some _ q
  have hsz:g3.objs.size=hp.objs.size:=by rw [s3.1,s2.1,s1.1]
  have hk3:∀ b o,b≠e→b≠i→hp.get? b=some o→g3.get? b=some o:=fun b o b1 b2 q=>s3.extBut b o b1 (s2.extBut b o b1 (s1.extBut b o b2 q))
  generalize hh:g3.push { cls:=.type "tuple",data:=.seq #[.int k tk,x] }=g4 at he4 hit4
  refine (show wpAny _ _ (Builtin.SmallTypes.ownedTupleIsFree (.ref e) >>= _) _ _ ⟨g4,gn,d,tk+1,os⟩ from ?_)
  rw [hsz]
  refine wpAny_bind ?_
  unfold Builtin.SmallTypes.ownedTupleIsFree
  refine wpAny_bind (wpAny_field he4 rfl (x:=.none) rfl (wpAny_pure ?_))
  simp only [if_true]
  refine wpAny_bind (wpAny_rule (wpAny_bind (wpAny_field he4 rfl (x:=old) rfl (wpAny_bind (wpAny_setField_rec he4 (by simp) fun g5 he5 s5=>?_)))))
  replace s5:Heap.SameBut e g4 g5:=s5
  replace he5:IsEnum g5 e i ((k:Int)+1) x:=he5
  refine (show wpAny _ _ (Builtin.SmallTypes.ownedTupleHandOut (.ref e) (.ref hp.objs.size) >>= _) _ _ ⟨g5,gn,d,tk+1,os⟩ from wpAny_bind ?_)
  unfold Builtin.SmallTypes.ownedTupleHandOut
  refine wpAny_bind (wpAny_setField_rec he5 (by simp) fun g6 he6 s6=>?_)
  replace s6:Heap.SameBut e g5 g6:=s6
  replace he6:IsEnumOut g6 e i ((k:Int)+1) x hp.objs.size:=he6
  refine wpAny_setField_rec he6 (by simp) fun g7 he7 s7=>?_
  replace s7:Heap.SameBut e g6 g7:=s7
  replace he7:IsEnumOut g7 e i ((k:Int)+1) x hp.objs.size:=he7
  refine wpAny_bind (wpAny_letGo (wpAny_pure ⟨_,rfl,hQ g3 g7 he7 (S.itx (S.itx (S.itx hit4 (exb s5.extBut (Ne.symm hne))) (exb s6.extBut (Ne.symm hne))) (exb s7.extBut (Ne.symm hne))) hsz hk3 fun b o b1 q=>?_⟩))
  rw [hh] at q
  exact s7.extBut b o b1 (s6.extBut b o b1 (s5.extBut b o b1 q))
theorem enS_next {Q:Option Value→Shared→Prop} (S:Src prog w i l it at_) (he:IsEnum s.heap e i k old) (hit:it k s.heap) (hat:at_ xs s.heap) (hx:xs[k]?=some x) (hne:e≠i)
    (hQ:∀ (g h':Heap),IsEnumOut h' e i ((k:Int)+1) x s.heap.objs.size→it (k+1) h'→g.objs.size=s.heap.objs.size→(∀ b o,b≠e→b≠i→s.heap.get? b=some o→g.get? b=some o)→
      (∀ b o,b≠e→(g.push { cls:=.type "tuple",data:=.seq #[.int k s.toks,x] }).get? b=some o→h'.get? b=some o)→Q (some (.ref s.heap.objs.size)) { s with heap:=h',toks:=s.toks+1 }):wpAny (model prog w) A (pyNext (.ref e)) Q E s:=by
  have hT:s.TypeIs (.ref e) "enumerate":=⟨_,he,rfl⟩
  unfold pyNext
  exact wpAny_bind (wpAny_attempt (wpAny_callSpecial?_slot (name:=Str.ofString "__next__") hT F.slot_enumerate_next (wpAny_call_entry F.slot_enumerate_next hT F.entry_enumerate_next (enS_item S he hit hat hx hne fun g h' b1 b2 b3 b4 b5=>wpAny_pure (hQ g h' b1 b2 b3 b4 b5)) (F.args_enumerate_next_1 _))))
theorem enS_done {Q:Option Value→Shared→Prop} (hh:A.handled=none) (S:Src prog w i l it at_) (he:IsEnum s.heap e i k old) (hit:it k s.heap) (hat:at_ xs s.heap) (hx:xs[k]?=none)
    (hQ:∀ h',Heap.ExtBut i s.heap h'→Q none { s with heap:=h' }):wpAny (model prog w) A (pyNext (.ref e)) Q E s:=by
  have hT:s.TypeIs (.ref e) "enumerate":=⟨_,he,rfl⟩
  unfold pyNext
  refine wpAny_bind (wpAny_attempt (wpAny_callSpecial?_slot (name:=Str.ofString "__next__") hT F.slot_enumerate_next (wpAny_call_entry F.slot_enumerate_next hT F.entry_enumerate_next ?_ (F.args_enumerate_next_1 _))))
  refine (show wpAny _ _ (field (.ref e) 2 >>= _) _ _ _ from wpAny_bind (wpAny_field he rfl (x:=.ref i) rfl (wpAny_bind (S.fin hh hit hat hx fun h' y he' hy=>?_))))
  obtain ⟨o,ho,hc⟩:=hy
  exact wpAny_bind (wpAny_isInstance (T:="StopIteration") (b:=true) ⟨o,ho,hc⟩ isSubtype_stop (wpAny_pure (hQ _ he')))
theorem enS_go {es:List Expr} {x1:Nat} {pos:Pos} {n:Int} {T:Addr} {Q:Unit→Shared→Prop} (he:IsEnumOut s.heap e i n x T) (hQ:∀ h',IsEnum h' e i n x→Heap.SameBut e s.heap h'→Q () { s with heap:=h' }) :
    wpAny (model prog w) A (letOwnedTupleGo (.Tuple es x1 pos) (.ref e) (.ref T)) Q E s:=by
  unfold letOwnedTupleGo
  refine wpAny_bind (wpAny_load he ?_)
  show wpAny _ _ (if (["enumerate","zip","dict_itemiterator","dict_reverseitemiterator","odict_iterator","itertools.zip_longest","itertools.pairwise"].contains "enumerate"&&(#[rawInt T,.bool false,.ref i,rawInt n,.none,x]:Array Value)[0]?==some (rawInt T))=true then _ else _) Q E s
  rw [if_pos (by simp)]
  exact wpAny_bind (wpAny_rule (show wpAny _ _ (setField (.ref e) 0 .none) Q E s from wpAny_setField_rec he (by simp) fun h' he' hs'=>hQ h' he' hs'))
end
def Ite (S:Hp→List V→Prop):It:=
  ⟨fun i H=>∃ xs x,S H xs∧xs[i]?=some x,
   fun i H v H'=>∃ (q:Addr),H q=none∧v=.ref q∧∀ xs x,S H xs→xs[i]?=some x→H'=upd H q (.tup [.int (i:Nat),x]),
   fun i H=>∃ xs,S H xs∧xs.length≤i⟩
theorem turn_enum {P:Program} {w:World} {K:Fg} {es:List Expr} {k:Nat} {pos:Pos} {e i l:Addr} {it:Nat→Heap→Prop} {at_:List Value→Heap→Prop} {S:Hp→List V→Prop} (W:Src P w i l it at_) (K1:Kin K l S at_) (hne:e≠i) :
    Turn P w K (.Tuple es k pos) (Ite S) [e,i] e (fun n h=>(∃ old,IsEnum h e i (n:Nat) old)∧it n h) where
  mem:=by simp
  obj:=fun n h ⟨⟨old,he⟩,h1⟩ c hc=>by
    simp only [List.mem_cons,List.not_mem_nil,or_false] at hc
    rcases hc with rfl | rfl
    · exact ⟨_,he,fun v q=>by cases q⟩
    · exact W.obj h1
  keep:=fun n h h' ⟨⟨old,he⟩,h1⟩ kk=>⟨⟨old,kk e (by simp) _ he⟩,W.itx h1 fun o q=>kk i (by simp) o q⟩
  item:=by
    intro X hP hw hK hc n pins s σ H E I hf st hg
    subst hP hw
    obtain ⟨⟨old,he⟩,h1⟩:=st
    obtain ⟨xs,x,q1,hx⟩:=hg
    obtain ⟨us,r1,m1⟩:=K1.get hK I q1
    obtain ⟨u,hu,ru⟩:=r1.get hx
    refine enS_next W he h1 m1 hu hne fun g g' b1 b2 b3 b4 b5=>?_
    have hT:H s.heap.objs.size=none:=I.hok.fresh (Nat.le_refl _)
    have ne:∀ c∈[e,i],c<s.heap.objs.size:=fun c hc=>by
      simp only [List.mem_cons,List.not_mem_nil,or_false] at hc
      rcases hc with rfl | rfl
      · exact Heap.lt_size he
      · obtain ⟨o,ho,_⟩:=W.obj h1;exact Heap.lt_size ho
    have I1:L2.Inv X pins σ H { s with heap:=g,toks:=s.toks+1 }:=turnedL (t':=s.toks+1) (ch:=[e,i]) I hf fun c o hc q=>b4 c o (fun z=>hc (by simp [z])) (fun z=>hc (by simp [z])) q
    have I2:L2.Inv X pins σ (upd H g.objs.size (.tup [.int n,x])) { s with heap:=g.push { cls:=.type "tuple",data:=.seq #[.int n s.toks,u] },toks:=s.toks+1 }:=
      I1.laid (t':=s.toks+1) (fun c o q=>Heap.get?_push_of_some _ q) (Nat.le_refl _) (show ObjOk X.prog X.w _ _ _ (.tup [.int n,x]) from ⟨by have:=sizeLine_eq;simp;omega,[.int n s.toks,u],.cons ⟨_,rfl⟩ (.cons ru .nil),IsTup.new _ _⟩)
    rw [b3] at I2
    have fz:∀ c∈[e,i],FpOk X pins (upd H s.heap.objs.size (.tup [.int n,x])) c:=fun c hc=>⟨by rw [upd_ne (Nat.ne_of_lt (ne c hc))];exact (hf c hc).1,(hf c hc).2⟩
    have I3:L2.Inv X pins σ (upd H s.heap.objs.size (.tup [.int n,x])) { s with heap:=g',toks:=s.toks+1 }:=turnedL (s:={ s with heap:=g.push { cls:=.type "tuple",data:=.seq #[.int n s.toks,u] },toks:=s.toks+1 }) (h':=g') (t':=s.toks+1) (ch:=[e]) I2 (fun c hc=>fz c (by simp at hc;simp [hc])) fun c o hc q=>b5 c o (fun z=>hc (by simp [z])) q
    refine ⟨_,rfl,enS_go b1 fun g2 he2 s2=>?_⟩
    have I4:L2.Inv X pins σ (upd H s.heap.objs.size (.tup [.int n,x])) { s with heap:=g2,toks:=s.toks+1 }:=turnedL (s:={ s with heap:=g',toks:=s.toks+1 }) (h':=g2) (t':=s.toks+1) (ch:=[e]) I3 (fun c hc=>fz c (by simp at hc;simp [hc])) fun c o hc q=>s2.extBut c o (fun z=>hc (by simp [z])) q
    refine ⟨.ref s.heap.objs.size,_,I4,rfl,⟨s.heap.objs.size,hT,rfl,fun xs' x' p1 hx'=>?_⟩,⟨⟨u,he2⟩,W.itx b2 (exb s2.extBut (Ne.symm hne))⟩,fun c hc=>(fz c hc).1⟩
    cases K1.inj hK I q1 p1
    rw [hx] at hx';cases hx'
    rfl
  done:=by
    intro X hP hw hK hc n pins s σ H E I hf st hg
    subst hP hw
    obtain ⟨⟨old,he⟩,h1⟩:=st
    obtain ⟨xs,q1,hl⟩:=hg
    obtain ⟨us,r1,m1⟩:=K1.get hK I q1
    have e1:=r1.length
    refine enS_done (I.ok.hd hc) W he h1 m1 (List.getElem?_eq_none (by omega)) fun g' kk=>⟨rfl,?_⟩
    exact turnedL (t':=s.toks) (ch:=[i]) I (fun c hc=>hf c (by simp at hc;simp [hc])) fun c o hc q=>kk c o (fun z=>hc (by simp [z])) q
  self:=fun _ n _ _ _ ⟨⟨_,he⟩,_⟩ h=>wpAny_pyIter_enum he h
end Mi
namespace Mi
open PySem PySem.Spec PyProof.Rows L2
abbrev zw2 (c:String) (h:Heap) (l:Addr):Heap:=(zq1 c h l).push { cls:=.type "enumerate",data:=.fields #[.none,.bool false,.ref h.objs.size,rawInt 0,.none,.none] }
theorem enum_newT (l:Addr) (items:Array Value) (n:Nat) (dct:Option Addr) (sl:Array (Option Value)):Meets (Builtin.«enumerate.__new__» ⟨[.type "enumerate",.ref l],[]⟩) (fun _ R s=>s.heap.get? l=some { cls:=.type "tuple",dict:=dct,data:=.seq items n,slots:=sl }∧
      R (.ok (.ret (.ref (zq1 "tuple_iterator" s.heap l).objs.size))) { s with heap:=zw2 "tuple_iterator" s.heap l }):=
  .of_wp fun prog w A R s h=>by
    obtain ⟨hp,g,d,tk,os⟩:=s
    obtain ⟨hl,h⟩:=h
    have hsub:=sub_enumerate
    have hL:Heap.IsTuple (Shared.heap ⟨hp,g,d,tk,os⟩) l items:=⟨_,hl,rfl,n,rfl⟩
    wp_walk using AutoSeq1.wpAny_loadPart' hl
    refine wpAny_stack_any fun st=>wpAny_pure ?_
    split
    · rename_i c _ _ _ _ _
      cases (c==Value.type "enumerate")
      · wp_walk using AutoSeq1.wpAny_loadPart' hl,wpAny_pyIter_tuple hL
        exact ⟨_,rfl,h⟩
      · wp_walk using AutoSeq1.wpAny_loadPart' hl,wpAny_pyIter_tuple hL
        exact ⟨_,rfl,h⟩
    · wp_walk using AutoSeq1.wpAny_loadPart' hl,wpAny_pyIter_tuple hL
      exact ⟨_,rfl,h⟩
theorem call_enumT {prog:Program} {w:World} {A:Around} {E:Value→Shared→Prop} {s:Shared} {l:Addr} {items:Array Value} {Q:Value→Shared→Prop} (hL:s.heap.IsTuple l items)
    (h:∀ h',IsEnum h' (s.heap.objs.size+1) s.heap.objs.size 0 .none→h'.IsTupleIter s.heap.objs.size l 0→(∀ b o,s.heap.get? b=some o→h'.get? b=some o)→Q (.ref (s.heap.objs.size+1)) { s with heap:=h' }) :
    wpAny (model prog w) A (call (.type "enumerate") [.ref l]) Q E s:=by
  obtain ⟨⟨c,dct,dt,sl⟩,hl,hc,n,hd⟩:=hL
  replace hc:c=.type "tuple":=hc
  replace hd:dt=.seq items n:=hd
  subst hc hd
  refine callType_new F.called_enumerate (by decide) (F.typeCall_enumerate_1 _) (F.newCall_enumerate_1 _) (fun obj=>F.args_object_init_2 obj _) F.entry_enumerate_new (enum_newT l items n dct sl) ⟨hl,?_⟩
  have hz:(zq1 "tuple_iterator" s.heap l).objs.size=s.heap.objs.size+1:=Heap.size_push ..
  show _∧_
  rw [hz]
  have he:IsEnum (zw2 "tuple_iterator" s.heap l) (s.heap.objs.size+1) s.heap.objs.size 0 .none:=by
    have:=Heap.get?_push_size (zq1 "tuple_iterator" s.heap l) (o:={ cls:=.type "enumerate",data:=.fields #[.none,.bool false,.ref s.heap.objs.size,rawInt 0,.none,.none] }) rfl
    rw [hz] at this;exact this
  exact ⟨⟨_,he,rfl⟩,h _ he ⟨_,Heap.get?_push_of_some _ (Heap.get?_push_size _ rfl),rfl,rfl⟩ fun b o x=>Heap.get?_push_of_some _ (Heap.get?_push_of_some _ x)⟩
section
variable {X:Cx} {es:List Expr} {kk:Nat} {tp:Pos}
theorem boot_enum':bootBuiltins "enumerate"=some (.type "enumerate"):=by decide +kernel
def iEnum (K:Fg) (ta:TA):TI:=fun σ H R=>ta σ H fun vs H1=>∃ (l:Addr) (xs:List V),vs=[.ref l]∧((SqT K H1 l xs∧R (Ite (fun H xs=>SqT K H l xs)) H1)∨(SqL K H1 l xs∧R (Ite (fun H xs=>SqL K H l xs)) H1))
theorem pi_enum {a:Expr} {ta:TA} {p pos:Pos} (hg:Gl X "enumerate") (hm:X.mg "enumerate"=none) (ha:PA X [a] ta) (hs:starEach [a] X.env=[(false,eval a X.env)]:=by rfl):PI X (.Tuple es kk tp) (.Call (.Name "enumerate" p) [a] [] pos) (iEnum X.K ta):=by
  intro pins s σ H R I h
  refine Call_ (ld_blt I hg hm boot_enum' (PyProof.Rows.callWith_type1 (thn (ha pos pins s σ H _ I h) fun us s1 ⟨vs,H1,I1,r1,q1⟩=>?_) hs rfl))
  obtain ⟨l,xs,e,q⟩:=q1
  subst e
  obtain ⟨u,rfl,ru⟩:=vals1 r1
  cases ru
  have fp:∀ b∈[s1.heap.objs.size+1,s1.heap.objs.size],FpOk X pins H1 b:=fun b hb=>by
    have hb':s1.heap.objs.size≤b:=by
      simp only [List.mem_cons,List.not_mem_nil,or_false] at hb
      rcases hb with rfl | rfl
      · exact Nat.le_succ _
      · exact Nat.le_refl _
    exact I1.fpOk hb' (I1.hok.fresh hb')
  rcases q with ⟨m,q⟩ | ⟨m,q⟩
  · obtain ⟨us,_,p1,_⟩:=I1.tuple m
    refine call_enumT (show s1.heap.IsTuple l us.toArray from p1) fun h' he hi old=>wpAny_pyIter_enum he ?_
    exact ⟨s1.heap.objs.size+1,_,_,_,H1,rfl,I1.kept (t':=s1.toks) old,turn_enum (srcT _ _) (kinT l) (Nat.succ_ne_self _),⟨⟨_,he⟩,hi⟩,fp,q⟩
  · obtain ⟨us,_,p1,_⟩:=I1.list m
    refine call_enumerate_list p1.isList fun h' he hi _ old=>wpAny_pyIter_enum he ?_
    exact ⟨s1.heap.objs.size+1,_,_,_,H1,rfl,I1.kept (t':=s1.toks) old,turn_enum (srcL _ _) (kinL l) (Nat.succ_ne_self _),⟨⟨_,he⟩,hi⟩,fp,q⟩
def numb:Nat→List D→List D
  | _,[]=>[]
  | n,d::ds=>.tup [.int (n:Int),d]::numb (n+1) ds
theorem numb_len:∀ (n:Nat) (ds:List D),(numb n ds).length=ds.length
  | _,[]=>rfl
  | n,d::ds=>by simp [numb,numb_len (n+1) ds]
theorem numb_get:∀ {n:Nat} {ds:List D} {i:Nat} {d:D},ds[i]?=some d→(numb n ds)[i]?=some (.tup [.int ((n+i:Nat):Int),d])
  | n,[],i,d,h=>by simp at h
  | n,x::ds,0,d,h=>by cases h;rfl
  | n,x::ds,i+1,d,h=>by
    show (numb (n+1) ds)[i]?=_
    rw [numb_get (n:=n+1) (d:=d) (by simpa using h),show n+1+i=n+(i+1) by omega]
theorem walk_enum {K:Fg} {Z1:Hp} {S:Hp→List V→Prop} {vs:List V} {xs:List D} (m1:∀ {H H'},Same H H'→S H vs→S H' vs) (q1:S Z1 vs) (r1:Reps K Z1 xs vs):Walk K Z1 (numb 0 xs) (Ite S):=fun Z' H' s1 s2 i=>by
  have l1:=r1.len
  have w1:=m1 (s1.trans s2) q1
  rw [numb_len]
  refine ⟨fun hi=>?_,fun hi=>⟨vs,w1,by omega⟩⟩
  have h1:i<vs.length:=by omega
  refine ⟨⟨vs,vs[i],w1,List.getElem?_eq_getElem h1⟩,fun x H'' ⟨q,hq,e,hy⟩=>?_⟩
  subst e
  have e2:=hy vs _ w1 (List.getElem?_eq_getElem h1)
  subst e2
  obtain ⟨d1,e1,p1⟩:=r1.getV (List.getElem?_eq_getElem h1)
  have s3:Same Z' (upd Z' q (.tup [.int (i:Nat),vs[i]])):=smUpd (s2.free hq)
  exact ⟨_,_,Ex.new s2 hq,numb_get e1,q,_,rfl,SqT.of upd_same,Reps.mono s3 _ ⟨_,_,rfl,by rw [Nat.zero_add];rfl,_,_,rfl,Rep.mono s1 _ p1,rfl⟩⟩
def itE (f:Fe):Fi:=fun env=>(f env).bind fun d=>match d with
  | .tup xs=>some (numb 0 xs)
  | .lst xs=>some (numb 0 xs)
  | _=>none
theorem i_enum {l:Expr} {f:Fe} {p pos:Pos} (hm:X.mg "enumerate"=none) (h:PD X .cl l f) (hg:Gl X "enumerate":=by rfl) (hs:starEach [l] X.env=[(false,eval l X.env)]:=by rfl):ID X (.Tuple es kk tp) (.Call (.Name "enumerate" p) [l] [] pos) (itE f):=
  PI.imp (pi_enum hg hm (pa_cons h pa_nil hs) hs) fun σ H R ⟨env,B,Z,ds,Rr,e,k⟩=>by
    obtain ⟨d,e1,e2⟩:=Option.bind_eq_some_iff.mp e
    cases d<;>cases e2
    · refine ⟨env,B,Z,_,Rr,e1,fun v Z1 H1 x1 g1=>?_⟩
      obtain ⟨l1,vs,rfl,w1,r1⟩:=g1
      exact ⟨l1,vs,rfl,.inl ⟨sameT x1.zh w1,k _ Z1 H1 x1 (walk_enum (fun s q=>sameT s q) w1 r1)⟩⟩
    · refine ⟨env,B,Z,_,Rr,e1,fun v Z1 H1 x1 g1=>?_⟩
      obtain ⟨l1,vs,rfl,w1,r1⟩:=g1
      exact ⟨l1,vs,rfl,.inr ⟨x1.zh.seq w1,k _ Z1 H1 x1 (walk_enum (fun s q=>s.seq q) w1 r1)⟩⟩
end
end Mi
namespace Mi
open PySem PySem.Spec PyProof.Rows L2
section
variable {X:Cx} {l r:Expr} {fa fb:Fe} {ga gb:Gr} {pos p:Pos} {k:Nat}
def rCat0 (K:Fg):R2:=fun x y H Q=>∃ a b xs ys,x=.ref a∧y=.ref b∧SqT K H a xs∧SqT K H b ys∧xs.length+ys.length≤sizeLine∧(xs=[]→Q (.ref b) H)∧(xs≠[]→ys=[]→Q (.ref a) H)∧(xs≠[]→ys≠[]→∀ p,H p=none→Q (.ref p) (upd H p (.tup (xs++ys))))
theorem op_cat0:OpR X (binaryOp .Add) (rCat0 X.K):=by
  intro pins s σ H x y v u Q I rx ry h
  obtain ⟨a,b,xs,ys,rfl,rfl,ha,hb,hz,q0,q1,q2⟩:=h
  by_cases hx:xs=[]
  · cases rx
    cases ry
    obtain ⟨its,r1,p1,_⟩:=I.tuple ha
    obtain ⟨its2,r2,p2,_⟩:=I.tuple hb
    obtain ⟨⟨cls,dd,data,sl⟩,ho,hc,n,hd⟩:=id p1
    obtain ⟨⟨cls2,dd2,data2,sl2⟩,ho2,hc2,n2,hd2⟩:=id p2
    simp only at hc hd hc2 hd2
    subst hc hd hc2 hd2
    have hi:its=[]:=r1.nil_iff.mpr hx
    exact concat_meets ⟨_,ho,rfl⟩ ⟨_,ho2,rfl⟩ noFill_tuple_add seq_tuple_add PySem.F.slot_tuple_add PySem.F.entry_tuple_add (PySem.F.args_tuple_add_2 _ _) (tuple_addW0 a b its.toArray its2.toArray n n2 dd dd2 sl sl2 (by simp [hi])) ⟨ho,ho2,⟨.ref b,H,I,rfl,q0 hx⟩⟩
  · exact op_catT pins s σ H _ _ v u Q I rx ry ⟨a,b,xs,ys,rfl,rfl,ha,hb,hx,hz,q1 hx,q2 hx⟩
def addT:D→D→Option D
  | .tup xs,.tup ys=>if xs.length+ys.length≤16000000 then some (.tup (xs++ys)) else none
  | _,_=>none
theorem Reps.nil_iff {K:Fg} {H:Hp} {ds:List D} {vs:List V} (h:Reps K H ds vs):vs=[]↔ds=[]:=by
  have:=h.len
  cases ds<;>cases vs<;>simp at this ⊢
theorem d_addT {K:Fg}:Does K .cl addT (rCat0 K):=fun {Z H x y dx dy d Q} s h1 h2 e kq=>by
  cases dx<;>cases dy<;>try cases e
  rename_i xs ys
  obtain ⟨hl,rfl⟩:=ifS e
  rcases h1 with h1 | ⟨_,_,_,_,e1,_⟩ | ⟨_,_,_,e1,_⟩
  · rcases h2 with h2 | ⟨_,_,_,_,e1,_⟩ | ⟨_,_,_,e1,_⟩
    · obtain ⟨a,vs,rfl,q1,r1⟩:=id h1
      obtain ⟨b,us,rfl,q2,r2⟩:=id h2
      refine ⟨a,b,vs,us,rfl,rfl,sameT s q1,sameT s q2,by rw [← r1.len,← r2.len,sizeLine_eq];omega,fun z=>?_,fun z1 z=>?_,fun z1 z2 p hp=>?_⟩
      · have hx:=r1.nil_iff.mp z
        subst hx
        exact kq _ Z H (Ex.refl s) h2
      · have hy:=r2.nil_iff.mp z
        subst hy
        rw [List.append_nil] at kq
        exact kq _ Z H (Ex.refl s) h1
      · have s1:Same Z (upd Z p (.tup (vs++us))):=smUpd (s.free hp)
        exact kq _ _ _ (Ex.new s hp) ⟨p,_,rfl,SqT.of upd_same,Reps.mono s1 _ (r1.app r2)⟩
    · cases e1
    · cases e1
  · cases e1
  · cases e1
theorem m_addT (ha:PD X ga l fa) (hb:PD X gb r fb):PD X .cl (.BinOp l .Add r pos) (op2 addT fa fb):=m_op op_cat0 d_addT ha hb
end
def ltK:Key→Key→Option Bool
  | .inl a,.inl b=>some (decide (a<b))
  | .inr a,.inr b=>some (decide (a.cps.toList<b.cps.toList))
  | _,_=>none
def lexK:List Key→List Key→Option Bool
  | [],[]=>some false
  | [],_::_=>some true
  | _::_,[]=>some false
  | x::xs,y::ys=>if x=y then lexK xs ys else ltK x y
inductive KsAre:List Value→List Key→Prop
  | nil:KsAre [] []
  | int (n:Int) (t:Tok) {vs ks}:KsAre vs ks→KsAre (.int n t::vs) (.inl n::ks)
  | str (x:Str) (t:Tok) {vs ks}:KsAre vs ks→KsAre (.str x t::vs) (.inr x::ks)
theorem KsAre.length:∀ {vs:List Value} {ks:List Key},KsAre vs ks→vs.length=ks.length
  | _,_,.nil=>rfl
  | _,_,.int _ _ h=>by simp [KsAre.length h]
  | _,_,.str _ _ h=>by simp [KsAre.length h]
theorem KsAre.of:∀ {ks:List Key} {us:List Value},Vals (ks.map kV) us→KsAre us ks
  | [],_,r=>by rw [List.map_nil] at r;cases r;exact .nil
  | .inl n::ks,_,r=>by
    rw [List.map_cons] at r
    cases r with
    | cons h t=>obtain ⟨tk,rfl⟩:=(show ∃ t,_=Value.int n t from h);exact .int n tk (KsAre.of t)
  | .inr x::ks,_,r=>by
    rw [List.map_cons] at r
    cases r with
    | cons h t=>obtain ⟨tk,rfl⟩:=(show ∃ t,_=Value.str x t from h);exact .str x tk (KsAre.of t)
theorem rcLt_str (A:Around) (s:Shared) (a:Str) (t:Tok) (c:Str) (u:Tok) (prog:Program) (w:World) (E:Value→Shared→Prop) (Q:Value→Shared→Prop) (h:Q (.bool (decide (a.cps.toList<c.cps.toList))) s) :
    wpAny (model prog w) A (richCompare .Lt (.str a t) (.str c u)) Q E s:=
  (PyProof.Rows.lt_str h:wpAny (model prog w) A (compareOp .Lt (.str a t) (.str c u)) Q E s)
section
open PySem.SeqAt
open PySem.AutoSeq1 (wpAny_loadPart')
open PySem.MeetsSeq PySem.MeetsSeq2 PySem.MeetsSeq3
theorem keyPair {y x:Value} {vs ws:List Value} {ns ms:List Key} (hv:KsAre (y::vs) ns) (hw:KsAre (x::ws) ms):∃ a c ns' ms',ns=a::ns'∧ms=c::ms'∧KsAre vs ns'∧KsAre ws ms'∧
    ∀ (A:Around) (s:Shared) (q:Bool),(if a=c then lexK ns' ms' else ltK a c)=some q→∃ e,SeqAt.EqAt A s y x e∧(e=true↔a=c)∧(e=false→∀ (prog:Program) (w:World) (E:Value→Shared→Prop) (Q:Value→Shared→Prop),Q (.bool q) s→wpAny (model prog w) A (richCompare .Lt y x) Q E s):=by
  cases hv with
  | int n t hv'=>
    cases hw with
    | int m u hw'=>
      refine ⟨_,_,_,_,rfl,rfl,hv',hw',fun A s q hq=>⟨(n==m),SeqAt.EqAt.int_int n t m u,by simp,fun he=>?_⟩⟩
      have hne:n≠m:=by simpa using he
      rw [if_neg (fun z=>hne (Sum.inl.inj z))] at hq
      cases hq
      exact fun prog w E Q h=>HT.rcLt_int A s n t m u prog w E Q h
    | str y u hw'=>
      refine ⟨_,_,_,_,rfl,rfl,hv',hw',fun A s q hq=>?_⟩
      rw [if_neg (fun z=>nomatch z)] at hq
      cases hq
  | str a t hv'=>
    cases hw with
    | int m u hw'=>
      refine ⟨_,_,_,_,rfl,rfl,hv',hw',fun A s q hq=>?_⟩
      rw [if_neg (fun z=>nomatch z)] at hq
      cases hq
    | str b u hw'=>
      refine ⟨_,_,_,_,rfl,rfl,hv',hw',fun A s q hq=>⟨(a==b),SeqAt.EqAt.str_str a t b u,by simp,fun he=>?_⟩⟩
      have hne:a≠b:=by simpa using he
      rw [if_neg (fun z=>hne (Sum.inr.inj z))] at hq
      cases hq
      exact fun prog w E Q h=>rcLt_str A s a t b u prog w E Q h
theorem tuple_lt_keys (l b:Addr) (items items2:Array Value) (n n2:Nat) (dd dd2:Option Addr) (sl sl2:Array (Option Value)) (ns ms:List Key) (q:Bool) (hi:KsAre items.toList ns) (hj:KsAre items2.toList ms) (hq:lexK ns ms=some q) :
    Meets (Builtin.«tuple.__lt__» ⟨[.ref l,.ref b],[]⟩)
      (fun _ R s=>s.heap.get? l=some { cls:=.type "tuple",dict:=dd,data:=.seq items n,slots:=sl }∧s.heap.get? b=some { cls:=.type "tuple",dict:=dd2,data:=.seq items2 n2,slots:=sl2 }∧R (.ok (.ret (.bool q))) s):=
  .of_wp fun prog w A R s h=>by
    obtain ⟨hp,g,d,tk,os⟩:=s
    obtain ⟨hl,hb,h⟩:=h
    have f2:=AutoSeq1.sub_tuple_tuple
    have z1:items.size=ns.length:=by rw [← hi.length];simp
    have z2:items2.size=ms.length:=by rw [← hj.length];simp
    wp_walk using wpAny_loadPart' hl,wpAny_loadPart' hb,wpAny_forIn_list _ (fun rest b s'=>b.1=none∧s'=⟨hp,g,d,tk,os⟩∧∃ (vs ws:List Value) (ns' ms':List Key),rest=vs.zip ws∧
      KsAre vs ns'∧KsAre ws ms'∧ns'.length+items2.size=ms'.length+items.size∧lexK ns' ms'=some q) _
    case turn=>
      rintro ⟨y,x⟩ rest b s' ⟨hb',rfl,vs,ws,ns',ms',hz,hvi,hwi,hlen,hR⟩
      cases vs with
      | nil=>rw [List.zip_nil_left] at hz;cases hz
      | cons v vs=>
        cases ws with
        | nil=>rw [List.zip_nil_right] at hz;cases hz
        | cons w' ws=>
          rw [List.zip_cons_cons] at hz
          injection hz with hyx hrest
          injection hyx with hy hx
          subst hy hx
          obtain ⟨a,c,ns1,ms1,rfl,rfl,hv1,hw1,ask⟩:=keyPair hvi hwi
          have hR':(if a=c then lexK ns1 ms1 else ltK a c)=some q:=hR
          obtain ⟨e,he,hiff,hlt⟩:=ask A.in1 ⟨hp,g,d,tk,os⟩ q hR'
          simp only [List.length_cons] at hlen
          refine wpAny_bind (he prog w _ _ ?_)
          cases e with
          | true=>
            rw [if_pos (hiff.mp rfl)] at hR'
            wp_walk
            exact ⟨rfl,rfl,_,_,_,_,hrest,hv1,hw1,by omega,hR'⟩
          | false=>
            have hri:=hlt rfl prog w
            wp_walk using hri
            exact ⟨_,rfl,by simpa using h⟩
    case fin=>
      rintro ⟨b1,b2⟩ s' ⟨hb',rfl,vs,ws,ns',ms',hz,hvi,hwi,hlen,hR⟩
      simp only at hb'
      subst hb'
      have l1:=hvi.length
      have l2:=hwi.length
      have hv:q=decide (items.size<items2.size):=by
        cases ns' with
        | nil=>
          cases ms' with
          | nil=>
            simp only [List.length_nil] at hlen
            cases hR
            exact (decide_eq_false (by omega)).symm
          | cons c ms1=>
            simp only [List.length_nil,List.length_cons] at hlen
            cases hR
            exact (decide_eq_true (by omega)).symm
        | cons a ns1=>
          cases ms' with
          | nil=>
            simp only [List.length_nil,List.length_cons] at hlen
            cases hR
            exact (decide_eq_false (by omega)).symm
          | cons c ms1=>
            cases vs with
            | nil=>simp at l1
            | cons v vs=>
              cases ws with
              | nil=>simp at l2
              | cons w' ws=>rw [List.zip_cons_cons] at hz;cases hz
      rw [hv] at h
      wp_walk
      exact ⟨_,rfl,by simpa [Builtin.Tuple.tupleCompareSizes] using h⟩
    case h=>
      exact ⟨rfl,rfl,items.toList,items2.toList,ns,ms,rfl,hi,hj,by omega,hq⟩
end
section
variable {X:Cx} {l r:Expr} {fa fb:Fe} {ga gb:Gr} {pos p:Pos} {k:Nat}
def rLtK (K:Fg):R2:=fun x y H Q=>∃ a b ns ms q,x=.ref a∧y=.ref b∧SqT K H a (ns.map kV)∧SqT K H b (ms.map kV)∧lexK ns ms=some q∧Q (.bl q) H
theorem op_ltK (hu:X.A.units<cLine):OpR X (compareOp .Lt) (rLtK X.K):=by
  intro pins s σ H x y v u Q I rx ry h
  obtain ⟨a,b,ns,ms,c,rfl,rfl,ha,hb,hc,q⟩:=h
  cases rx
  cases ry
  obtain ⟨its,r1,p1,_⟩:=I.tuple ha
  obtain ⟨its2,r2,p2,_⟩:=I.tuple hb
  obtain ⟨⟨cls,dd,data,sl⟩,ho,hcl,n,hd⟩:=id p1
  obtain ⟨⟨cls2,dd2,data2,sl2⟩,ho2,hc2,n2,hd2⟩:=id p2
  simp only at hcl hd hc2 hd2
  subst hcl hd hc2 hd2
  exact richCompare_meets_room (op:=.Lt) ⟨_,ho,rfl⟩ ⟨_,ho2,rfl⟩ PySem.F.slot_tuple_lt PySem.F.entry_tuple_lt (PySem.F.args_tuple_lt_2 _ _) (tuple_lt_keys a b its.toArray its2.toArray n n2 dd dd2 sl sl2 ns ms c (by simpa using KsAre.of r1) (by simpa using KsAre.of r2) hc)
    ⟨ho,ho2,show Value.bool c≠Value.notImplemented∧EP X pins σ Q (.bool c) s from ⟨(fun z=>nomatch z),⟨.bl c,H,I,rfl,q⟩⟩⟩ hu
def unKey:List D→Option (List Key)
  | []=>some []
  | .int i::r=>(unKey r).bind fun ks=>some (.inl i::ks)
  | .str x::r=>(unKey r).bind fun ks=>some (.inr x::ks)
  | _=>none
theorem unKey_rep {K:Fg} {H:Hp}:∀ {ds:List D} {ks:List Key} {vs:List V},unKey ds=some ks→Reps K H ds vs→vs=ks.map kV
  | [],ks,vs,h,r=>by cases h;exact r
  | d::ds,ks,vs,h,r=>by
    obtain ⟨v,rr,e,h1,h2⟩:=r
    subst e
    cases d<;>try cases h
    · obtain ⟨ks',e1,e2⟩:=Option.bind_eq_some_iff.mp h
      cases e2
      cases (show v=_ from h1)
      rw [unKey_rep e1 h2];rfl
    · obtain ⟨ks',e1,e2⟩:=Option.bind_eq_some_iff.mp h
      cases e2
      cases (show v=_ from h1.1)
      rw [unKey_rep e1 h2];rfl
def ltT:D→D→Option D
  | .tup xs,.tup ys=>(unKey xs).bind fun ns=>(unKey ys).bind fun ms=>(lexK ns ms).bind fun q=>some (.bl q)
  | _,_=>none
theorem d_ltT {K:Fg}:Does K .cl ltT (rLtK K):=fun {Z H x y dx dy d Q} s h1 h2 e kq=>by
  cases dx<;>cases dy<;>try cases e
  obtain ⟨ns,e1,e⟩:=Option.bind_eq_some_iff.mp e
  obtain ⟨ms,e2,e⟩:=Option.bind_eq_some_iff.mp e
  obtain ⟨q,e3,e⟩:=Option.bind_eq_some_iff.mp e
  cases e
  obtain ⟨a,vs,rfl,q1,r1⟩:=h1.tup s
  obtain ⟨b,us,rfl,q2,r2⟩:=h2.tup s
  cases unKey_rep e1 r1
  cases unKey_rep e2 r2
  exact ⟨a,b,ns,ms,q,rfl,rfl,q1,q2,e3,kq _ Z H (Ex.refl s) rfl⟩
theorem m_ltT (hr:Room k X.A) (ha:PD X ga l fa) (hb:PD X gb r fb):PD X .cl (.Compare l [.Lt] [r] pos) (op2 ltT fa fb):=m_cmp (op_ltK (by have:=hr.un;omega)) d_ltT ha hb (nomark _)
end
end Mi
namespace Mi
open PySem PySem.Spec PyProof.Rows L2
section
variable {prog:Program} {w:World} {A:Around} {E:Value→Shared→Prop} {s:Shared} {z TI TO i1 i2 l1 l2 T:Addr} {k1 k2:Nat} {xs ys:List Value} {x y:Value} {it1 it2:Nat→Heap→Prop} {at1 at2:List Value→Heap→Prop} {oT:Obj} {bz:Bool}
end
end Mi
namespace Mi
open PySem PySem.Spec PyProof.Rows L2
section
variable {prog:Program} {w:World} {A:Around} {E:Value→Shared→Prop} {s:Shared} {z TI TO i1 i2 l1 l2:Addr} {xs ys:List Value}
end
end Mi
namespace Mi
open PySem PySem.Spec PyProof.Rows L2
section
variable {X:Cx} {l r:Expr} {fa fb:Fe} {pos pos2 p p2:Pos}
end
end Mi
namespace Mi
open PySem PySem.Spec PyProof.Rows L2
section
variable {X:Cx}
theorem call_max3 (hc:X.calm=true):CallR X (.builtin "max") (fun xs H Q=>∃ i j k,xs=[.int i,.int j,.int k]∧Q (.int (if j>i then (if k>j then k else j) else (if k>i then k else i))) H):=by
  intro pins s σ H xs us Q I r h
  obtain ⟨i,j,k,rfl,q⟩:=h
  cases r with
  | cons h1 r=>
    cases r with
    | cons h2 r=>
      cases r with
      | cons h3 r=>
        cases r
        obtain ⟨t1,rfl⟩:=(show ∃ t,_=Value.int i t from h1)
        obtain ⟨t2,rfl⟩:=(show ∃ t,_=Value.int j t from h2)
        obtain ⟨t3,rfl⟩:=(show ∃ t,_=Value.int k t from h3)
        refine max_three_ints (I.ok.hd hc) fun h' tk kk=>⟨_,H,I.kept kk,?_,q⟩
        by_cases hj:j>i
        · rw [if_pos hj,if_pos hj]
          by_cases hk:k>j
          · rw [if_pos hk,if_pos hk];exact ⟨_,rfl⟩
          · rw [if_neg hk,if_neg hk];exact ⟨_,rfl⟩
        · rw [if_neg hj,if_neg hj]
          by_cases hk:k>i
          · rw [if_pos hk,if_pos hk];exact ⟨_,rfl⟩
          · rw [if_neg hk,if_neg hk];exact ⟨_,rfl⟩
def op3 (b:D→D→D→Option D) (fa fb fc:Fe):Fe:=fun env=>(fa env).bind fun x=>(fb env).bind fun y=>(fc env).bind fun z=>b x y z
def max3I:D→D→D→Option D
  | .int i,.int j,.int k=>some (.int (if j>i then (if k>j then k else j) else (if k>i then k else i)))
  | _,_,_=>none
variable {l r q:Expr} {fa fb fc:Fe} {ga gb gc:Gr} {pos p:Pos}
theorem m_max3 (hm:X.mg "max"=none) (hcalm:X.calm=true) (ha:PD X ga l fa) (hb:PD X gb r fb) (hc:PD X gc q fc) (hg:Gl X "max":=by rfl)
    (he:starEach [l,r,q] X.env=(false,eval l X.env)::starEach [r,q] X.env:=by rfl) (he2:starEach [r,q] X.env=(false,eval r X.env)::starEach [q] X.env:=by rfl) (he3:starEach [q] X.env=[(false,eval q X.env)]:=by rfl) (hpl:(backTo pos (starEach [r,q] X.env)).any (·.1)=false:=by rfl) :
    PD X .cl (.Call (.Name "max" p) [l,r,q] [] pos) (op3 max3I fa fb fc):=
  PE.imp (pe_callB (call_max3 hcalm) hg hm PyProof.Rows.boot_max (pa_cons ha (pa_cons hb (pa_cons hc pa_nil he3) he2) he) (by decide) (by decide) he hpl) fun σ H Q ⟨env,B,Z,d,R,e,k⟩=>by
    obtain ⟨x,h1,e⟩:=Option.bind_eq_some_iff.mp e
    obtain ⟨y,h2,e⟩:=Option.bind_eq_some_iff.mp e
    obtain ⟨z,h3,e⟩:=Option.bind_eq_some_iff.mp e
    cases x<;>try cases e
    cases y<;>try cases e
    cases z<;>try cases e
    refine ⟨env,B,Z,_,R,h1,fun v Z1 H1 x1 g1=>⟨env,B,Z1,_,R.ext x1,h2,fun u Z2 H2 x2 g2=>⟨env,B,Z2,_,(R.ext x1).ext x2,h3,fun w Z3 H3 x3 g3=>?_⟩⟩⟩
    cases g1.int;cases g2.int;cases g3.int
    exact ⟨_,_,_,rfl,k _ Z3 H3 ((x1.trans x2).trans x3) rfl⟩
end
section
variable {prog:Program} {w:World} {A:Around} {E:Value→Shared→Prop} {s:Shared}
end
end Mi
namespace Mi
open PySem PySem.Spec PyProof.Rows L2
section
variable {prog:Program} {w:World} {A:Around} {E:Value→Shared→Prop} {s:Shared}
end
section
variable {X:Cx} {l r:Expr} {fa fb:Fe} {ga gb:Gr} {pos p:Pos}
end
end Mi
namespace Mi
open PySem L2
mutual
theorem eqD_refl:∀ (d:D),pl d=true→eqD d d=true
  | .non,_=>by simp [eqD]
  | .bl b,_=>by simp [eqD]
  | .int i,_=>by simp [eqD]
  | .str x,_=>by simp [eqD]
  | .tup ds,h=>by unfold eqD;exact eqDs_refl ds (by unfold pl at h;exact h)
  | .lst ds,h=>by unfold eqD;exact eqDs_refl ds (by unfold pl at h;exact h)
  | .dct _,h=>by unfold pl at h;cases h
  | .st _,h=>by unfold pl at h;cases h
  | .ln _,h=>by unfold pl at h;cases h
theorem eqDs_refl:∀ (ds:List D),pls ds=true→eqDs ds ds=true
  | [],_=>by simp [eqDs]
  | d::ds,h=>by
    unfold pls at h
    rw [Bool.and_eq_true] at h
    unfold eqDs
    rw [eqD_refl d h.1,eqDs_refl ds h.2];rfl
end
theorem plsOf:∀ (xs:List D),(∀ x∈xs,pl x=true)→pls xs=true
  | [],_=>by simp [pls]
  | x::xs,h=>by
    unfold pls
    rw [h x List.mem_cons_self,plsOf xs fun y hy=>h y (List.mem_cons_of_mem _ hy)];rfl
theorem eqDsMap {α:Type} [DecidableEq α] {f:α→D} (hf:∀ x y,eqD (f x) (f y)=decide (x=y)):∀ (xs ys:List α),eqDs (xs.map f) (ys.map f)=decide (xs=ys)
  | [],[]=>by simp [eqDs]
  | [],y::ys=>by simp [eqDs]
  | x::xs,[]=>by simp [eqDs]
  | x::xs,y::ys=>by
    rw [List.map_cons,List.map_cons];unfold eqDs
    rw [hf,eqDsMap hf xs ys]
    by_cases h1:x=y<;>by_cases h2:xs=ys<;>simp [h1,h2]
end Mi
namespace Mi
open PySem PySem.Spec PyProof.Rows L2
def ddP (ps:List (Int×Int)):List (Int×Int):=ps.foldl putP []
section
variable {X:Cx} {l r:Expr} {fa fb:Fe} {ga gb:Gr} {pos p:Pos} {k:Nat}
def unPr:List D→Option (List (Int×Int))
  | []=>some []
  | .tup [.int a,.int b]::r=>(unPr r).bind fun ps=>some ((a,b)::ps)
  | _=>none
end
end Mi
namespace Mi
open PySem PySem.Spec PyProof.Rows L2
section
variable {prog:Program} {w:World} {A:Around} {E:Value→Shared→Prop} {s:Shared}
end
section
variable {X:Cx} {l r:Expr} {fa fb:Fe} {ga gb:Gr} {pos p:Pos} {k:Nat}
end
end Mi
namespace St
open PySem L2
section
variable {prog:Program} {w:World} {A:Around} {E:Value→Shared→Prop} {s:Shared}
end
end St
namespace Mi
open PySem PySem.Spec PyProof.Rows L2
section
variable {elt:Expr} {gens:List Comprehension} {scope:Scope} {pos:Pos} {d:Nat} {tg iter:Expr} {ifs:List Expr} {it acc:Value} {env:Env}
end
structure AcS (X:Cx) (pins:List (Addr×Obj)) (a:Addr) (B Z H:Hp) (env:En) (σ:L2.St) (pre:List D) (s:Shared):Prop where
  I:Inv X pins σ H s
  R:Rl X.K B Z H env σ
  nO:∀ (i:Nat) ds,env[i]?≠some (.O ds)
  hb:B a=none
  hz:Z a=none
  ac:∃ (ps:List (Int×Int)) (xs:List ((Int×Int)×Addr)),unPr pre=some ps∧xs.map (·.1)=ddP ps∧H a=some (.ext (SetP a (xs.map (·.1)) (xs.map (·.2))))∧∀ x∈xs,SqT X.K Z x.2 [.int x.1.1,.int x.1.2]
def ActS (X:Cx) (a:Addr) (Bd:BdT) (k:En→Option (List D)):Prop:=∀ (pins:List (Addr×Obj)) (s:Shared) (σ:L2.St) (H B Z:Hp) (env:En) (pre xs:List D) (P:Shared→Prop) (E:Value→Shared→Prop),
  AcS X pins a B Z H env σ pre s→k env=some xs→pre.length+xs.length≤4900→(∀ s' σ' H' Z',AcS X pins a B Z' H' env σ' (pre++xs) s'→Ex Z B Z' H'→P s')→Bd P E s
section
variable {X:Cx} {a:Addr} {elt:Expr} {fe:Fe}
end
section
variable {P:Program} {w:World} {A:Around} {elt:Expr} {gens:List Comprehension} {scope:Scope} {pos:Pos} {d:Nat} {tg iter:Expr} {ifs:List Expr} {it acc:Value} {env:Env} {R:Result→Shared→Prop} {s:Shared}
end
section
variable {X:Cx} {a:Addr} {elt:Expr} {gens:List Comprehension} {scope:Scope} {pos:Pos} {d:Nat} {tg iter tg' iter':Expr} {ifs ifs':List Expr} {it:Addr}
end
structure BlkS (X:Cx) (a:Addr) (elt:Expr) (gens:List Comprehension) (scope:Scope) (pos:Pos) (d:Nat) (tg:Expr) (ifs:List Expr) (t:Ft) (c:Fb) (k:En→Option (List D)):Prop where
  g:GD X tg t
  ts:TsD X ifs c
  ex:∃ Bd,ActS X a Bd k∧∀ (it:Addr) (s:Shared) (Q:Fin→Shared→Prop) (E:Value→Shared→Prop),
      wpAny (model X.prog X.w) X.A (pyNext (.ref it)) (fun r s1=>match r with
        | none=>Q (.done .next) s1
        | some v=>wpAny (model X.prog X.w) X.A (letOwnedTupleGo tg (.ref it) v) (fun _ s2=>wpAny (model X.prog X.w) X.A (assign tg X.env v) (fun _ s3=>
            wpAny (model X.prog X.w) X.A (forIn ifs true fun c r=>if r=true then do let ok ← isTrue c X.env (eval c X.env);pure (ForInStep.yield ok) else pure (ForInStep.yield r)) (fun ok s4=>
              if ok=true then Bd (fun s5=>Q (.again (.compLoop (.SetComp elt gens scope pos) d (.ref it) (.ref a) X.env)) s5) E s4 else Q (.again (.compLoop (.SetComp elt gens scope pos) d (.ref it) (.ref a) X.env)) s4) E s3) E s2) E s1) E s→
      wpAny (model X.prog X.w) X.A (compTurn (.SetComp elt gens scope pos) d (.ref it) (.ref a) X.env) Q E s
section
variable {X:Cx} {a:Addr} {elt:Expr} {gens:List Comprehension} {scope:Scope} {pos:Pos} {d:Nat} {tg iter:Expr} {ifs:List Expr} {t:Ft} {c:Fb} {fe:Fe}
end
section
variable {X:Cx} {elt:Expr} {rest:List Comprehension} {scope:Scope} {pos:Pos} {tg iter:Expr} {ifs:List Expr} {t:Ft} {c:Fb} {k:En→Option (List D)} {fi:Fi} {is caps:List Nat} {cl:List (Str×Addr)} {Nc own:List Str}
end
end Mi
namespace St
open PySem L2
section
variable {prog:Program} {w:World} {K:Type} [DecidableEq K] (knd:KeyKind prog w K)
inductive Nest (h:Heap):List (List K)→List Value→Prop
  | nil:Nest h [] []
  | cons {k:List K} {b:Addr} {ks:List (List K)} {vs:List Value}:(tupleKind knd).is h k b→Nest h ks vs→Nest h (k::ks) (.ref b::vs)
variable {knd}
variable {A:Around} {E:Value→Shared→Prop} {s:Shared}
end
end St
namespace St
open PySem L2
section
variable {prog:Program} {w:World} {K:Type} [DecidableEq K] {knd:KeyKind prog w K} {A:Around} {E:Value→Shared→Prop} {s:Shared}
end
end St
namespace Mi
open PySem PySem.Spec PyProof.Rows L2
section
variable {K:Type} [DecidableEq K]
end
end Mi
namespace Mi
open PySem PySem.Spec PyProof.Rows L2
section
variable {X:Cx} {rg:Gr} {l r:Expr} {fa fb:Fe} {ga gb:Gr} {pos p:Pos} {k:Nat}
end
end Mi
namespace Mi
open PySem PySem.Spec PyProof.Rows L2
section
variable {X:Cx} {rg:Gr} {l r:Expr} {fa fb:Fe} {ga gb:Gr} {pos p:Pos} {k:Nat}
end
end Mi
namespace Mi
open PySem PySem.Spec PyProof.Rows L2
section
variable {X:Cx} {rg:Gr} {pos:Pos}
end
end Mi
namespace Mi
open PySem PySem.Spec PyProof.Rows L2
section
variable {X:Cx} {i:Expr} {fi:Fe} {pos p0 p1 p2 p3 p4:Pos} {k j1 j2 j3 j4:Nat}
end
end Mi
namespace Mi
open PySem PySem.Spec PyProof.Rows L2
def leK:Key→Key→Option Bool
  | .inl a,.inl b=>some (decide (a≤b))
  | .inr a,.inr b=>some (!decide (b.cps.toList<a.cps.toList))
  | _,_=>none
def lexL:List Key→List Key→Option Bool
  | [],[]=>some true
  | [],_::_=>some true
  | _::_,[]=>some false
  | x::xs,y::ys=>if x=y then lexL xs ys else leK x y
theorem rcLe_str (A:Around) (s:Shared) (a:Str) (t:Tok) (c:Str) (u:Tok) (prog:Program) (w:World) (E:Value→Shared→Prop) (Q:Value→Shared→Prop) (h:Q (.bool (!decide (c.cps.toList<a.cps.toList))) s) :
    wpAny (model prog w) A (richCompare .LtE (.str a t) (.str c u)) Q E s:=
  (PySem.P.le_str h:wpAny (model prog w) A (compareOp .LtE (.str a t) (.str c u)) Q E s)
section
open PySem.SeqAt
open PySem.AutoSeq1 (wpAny_loadPart')
open PySem.MeetsSeq PySem.MeetsSeq2 PySem.MeetsSeq3
theorem keyPairL {y x:Value} {vs ws:List Value} {ns ms:List Key} (hv:KsAre (y::vs) ns) (hw:KsAre (x::ws) ms):∃ a c ns' ms',ns=a::ns'∧ms=c::ms'∧KsAre vs ns'∧KsAre ws ms'∧
    ∀ (A:Around) (s:Shared) (q:Bool),(if a=c then lexL ns' ms' else leK a c)=some q→∃ e,SeqAt.EqAt A s y x e∧(e=true↔a=c)∧(e=false→∀ (prog:Program) (w:World) (E:Value→Shared→Prop) (Q:Value→Shared→Prop),Q (.bool q) s→wpAny (model prog w) A (richCompare .LtE y x) Q E s):=by
  cases hv with
  | int n t hv'=>
    cases hw with
    | int m u hw'=>
      refine ⟨_,_,_,_,rfl,rfl,hv',hw',fun A s q hq=>⟨(n==m),SeqAt.EqAt.int_int n t m u,by simp,fun he=>?_⟩⟩
      have hne:n≠m:=by simpa using he
      rw [if_neg (fun z=>hne (Sum.inl.inj z))] at hq
      cases hq
      exact fun prog w E Q h=>(PyProof.Rows.le_int h:wpAny (model prog w) A (compareOp .LtE (.int n t) (.int m u)) Q E s)
    | str y u hw'=>
      refine ⟨_,_,_,_,rfl,rfl,hv',hw',fun A s q hq=>?_⟩
      rw [if_neg (fun z=>nomatch z)] at hq
      cases hq
  | str a t hv'=>
    cases hw with
    | int m u hw'=>
      refine ⟨_,_,_,_,rfl,rfl,hv',hw',fun A s q hq=>?_⟩
      rw [if_neg (fun z=>nomatch z)] at hq
      cases hq
    | str b u hw'=>
      refine ⟨_,_,_,_,rfl,rfl,hv',hw',fun A s q hq=>⟨(a==b),SeqAt.EqAt.str_str a t b u,by simp,fun he=>?_⟩⟩
      have hne:a≠b:=by simpa using he
      rw [if_neg (fun z=>hne (Sum.inr.inj z))] at hq
      cases hq
      exact fun prog w E Q h=>rcLe_str A s a t b u prog w E Q h
theorem tuple_le_keys (l b:Addr) (items items2:Array Value) (n n2:Nat) (dd dd2:Option Addr) (sl sl2:Array (Option Value)) (ns ms:List Key) (q:Bool) (hi:KsAre items.toList ns) (hj:KsAre items2.toList ms) (hq:lexL ns ms=some q) :
    Meets (Builtin.«tuple.__le__» ⟨[.ref l,.ref b],[]⟩)
      (fun _ R s=>s.heap.get? l=some { cls:=.type "tuple",dict:=dd,data:=.seq items n,slots:=sl }∧s.heap.get? b=some { cls:=.type "tuple",dict:=dd2,data:=.seq items2 n2,slots:=sl2 }∧R (.ok (.ret (.bool q))) s):=
  .of_wp fun prog w A R s h=>by
    obtain ⟨hp,g,d,tk,os⟩:=s
    obtain ⟨hl,hb,h⟩:=h
    have f2:=AutoSeq1.sub_tuple_tuple
    have z1:items.size=ns.length:=by rw [← hi.length];simp
    have z2:items2.size=ms.length:=by rw [← hj.length];simp
    wp_walk using wpAny_loadPart' hl,wpAny_loadPart' hb,wpAny_forIn_list _ (fun rest b s'=>b.1=none∧s'=⟨hp,g,d,tk,os⟩∧∃ (vs ws:List Value) (ns' ms':List Key),rest=vs.zip ws∧
      KsAre vs ns'∧KsAre ws ms'∧ns'.length+items2.size=ms'.length+items.size∧lexL ns' ms'=some q) _
    case turn=>
      rintro ⟨y,x⟩ rest b s' ⟨hb',rfl,vs,ws,ns',ms',hz,hvi,hwi,hlen,hR⟩
      cases vs with
      | nil=>rw [List.zip_nil_left] at hz;cases hz
      | cons v vs=>
        cases ws with
        | nil=>rw [List.zip_nil_right] at hz;cases hz
        | cons w' ws=>
          rw [List.zip_cons_cons] at hz
          injection hz with hyx hrest
          injection hyx with hy hx
          subst hy hx
          obtain ⟨a,c,ns1,ms1,rfl,rfl,hv1,hw1,ask⟩:=keyPairL hvi hwi
          have hR':(if a=c then lexL ns1 ms1 else leK a c)=some q:=hR
          obtain ⟨e,he,hiff,hlt⟩:=ask A.in1 ⟨hp,g,d,tk,os⟩ q hR'
          simp only [List.length_cons] at hlen
          refine wpAny_bind (he prog w _ _ ?_)
          cases e with
          | true=>
            rw [if_pos (hiff.mp rfl)] at hR'
            wp_walk
            exact ⟨rfl,rfl,_,_,_,_,hrest,hv1,hw1,by omega,hR'⟩
          | false=>
            have hri:=hlt rfl prog w
            wp_walk using hri
            exact ⟨_,rfl,by simpa using h⟩
    case fin=>
      rintro ⟨b1,b2⟩ s' ⟨hb',rfl,vs,ws,ns',ms',hz,hvi,hwi,hlen,hR⟩
      simp only at hb'
      subst hb'
      have l1:=hvi.length
      have l2:=hwi.length
      have hv:q=decide (items.size≤items2.size):=by
        cases ns' with
        | nil=>
          cases ms' with
          | nil=>
            simp only [List.length_nil] at hlen
            cases hR
            exact (decide_eq_true (by omega)).symm
          | cons c ms1=>
            simp only [List.length_nil,List.length_cons] at hlen
            cases hR
            exact (decide_eq_true (by omega)).symm
        | cons a ns1=>
          cases ms' with
          | nil=>
            simp only [List.length_nil,List.length_cons] at hlen
            cases hR
            exact (decide_eq_false (by omega)).symm
          | cons c ms1=>
            cases vs with
            | nil=>simp at l1
            | cons v vs=>
              cases ws with
              | nil=>simp at l2
              | cons w' ws=>rw [List.zip_cons_cons] at hz;cases hz
      rw [hv] at h
      wp_walk
      exact ⟨_,rfl,by simpa [Builtin.Tuple.tupleCompareSizes] using h⟩
    case h=>
      exact ⟨rfl,rfl,items.toList,items2.toList,ns,ms,rfl,hi,hj,by omega,hq⟩
end
section
variable {X:Cx} {l r:Expr} {fa fb:Fe} {ga gb:Gr} {pos p:Pos} {k:Nat}
def rLeK (K:Fg):R2:=fun x y H Q=>∃ a b ns ms q,x=.ref a∧y=.ref b∧SqT K H a (ns.map kV)∧SqT K H b (ms.map kV)∧lexL ns ms=some q∧Q (.bl q) H
theorem op_leK (hu:X.A.units<cLine):OpR X (compareOp .LtE) (rLeK X.K):=by
  intro pins s σ H x y v u Q I rx ry h
  obtain ⟨a,b,ns,ms,c,rfl,rfl,ha,hb,hc,q⟩:=h
  cases rx
  cases ry
  obtain ⟨its,r1,p1,_⟩:=I.tuple ha
  obtain ⟨its2,r2,p2,_⟩:=I.tuple hb
  obtain ⟨⟨cls,dd,data,sl⟩,ho,hcl,n,hd⟩:=id p1
  obtain ⟨⟨cls2,dd2,data2,sl2⟩,ho2,hc2,n2,hd2⟩:=id p2
  simp only at hcl hd hc2 hd2
  subst hcl hd hc2 hd2
  exact richCompare_meets_room (op:=.LtE) ⟨_,ho,rfl⟩ ⟨_,ho2,rfl⟩ PySem.F.slot_tuple_le PySem.F.entry_tuple_le (PySem.F.args_tuple_le_2 _ _) (tuple_le_keys a b its.toArray its2.toArray n n2 dd dd2 sl sl2 ns ms c (by simpa using KsAre.of r1) (by simpa using KsAre.of r2) hc)
    ⟨ho,ho2,show Value.bool c≠Value.notImplemented∧EP X pins σ Q (.bool c) s from ⟨(fun z=>nomatch z),⟨.bl c,H,I,rfl,q⟩⟩⟩ hu
def leT:D→D→Option D
  | .tup xs,.tup ys=>(unKey xs).bind fun ns=>(unKey ys).bind fun ms=>(lexL ns ms).bind fun q=>some (.bl q)
  | _,_=>none
theorem d_leT {K:Fg}:Does K .cl leT (rLeK K):=fun {Z H x y dx dy d Q} s h1 h2 e kq=>by
  cases dx<;>cases dy<;>try cases e
  obtain ⟨ns,e1,e⟩:=Option.bind_eq_some_iff.mp e
  obtain ⟨ms,e2,e⟩:=Option.bind_eq_some_iff.mp e
  obtain ⟨q,e3,e⟩:=Option.bind_eq_some_iff.mp e
  cases e
  obtain ⟨a,vs,rfl,q1,r1⟩:=h1.tup s
  obtain ⟨b,us,rfl,q2,r2⟩:=h2.tup s
  cases unKey_rep e1 r1
  cases unKey_rep e2 r2
  exact ⟨a,b,ns,ms,q,rfl,rfl,q1,q2,e3,kq _ Z H (Ex.refl s) rfl⟩
theorem b_leT (hr:Room k X.A) (ha:PD X ga l fa) (hb:PD X gb r fb):PB X (.Compare l [.LtE] [r] pos) (fB (op2 leT fa fb)):=b_cmp (op_leK (by have:=hr.un;omega)) d_leT ha hb (nomark _)
end
end Mi
namespace Mi
open PySem PySem.Spec PyProof.Rows L2
section
variable {X:Cx} {rg:Gr} {pos:Pos}
end
end Mi
namespace Mi
open PySem
end Mi
namespace Xc
open PySem PySem.Spec PyProof.Rows L2
def Rec (s0h h:Heap) (H:Hp) (e C dx:Addr):Prop:=∃ oe vs,h.get? e=some oe∧oe.cls=.ref C∧oe.dict=some dx∧oe.data=.fields vs∧1<vs.size∧
  (vs[1]?=some .none∨∃ T oT ts,vs[1]?=some (.ref T)∧T≠e∧s0h.objs.size≤T∧H T=none∧h.get? T=some oT∧oT.data=.fields ts∧ts[3]?=some .none)
section
variable {M:Model} {A:Around} {E:Value→Shared→Prop} {s:Shared}
theorem newEntryS {base:Heap} {env:Env} {outer:List Env} {L e:Addr} {oe:Obj} {vs:Array Value} {head:Value} {hadNext:Bool} {Q:Unit→Shared→Prop}
    (hfr:A.frames=some (env::outer)) (hl:s.heap.FunFrames base (env::outer)) (hf:env.frame=some L)
    (he:s.heap.get? e=some oe) (hd:oe.data=.fields vs) (hsz:1<vs.size)
    (h:∀ h',(∀ b o,b∉frs (env::outer)→b≠e→s.heap.get? b=some o→h'.get? b=some o)→(∀ b o,b∈frs (env::outer)→s.heap.get? b=some o→∃ sl,h'.get? b=some { o with slots:=sl })→
      (∃ T oT ts,s.heap.objs.size≤T∧T≠e∧h'.get? e=some (oe.mapFields (·.setIfInBounds 1 (.ref T)))∧h'.get? T=some oT∧oT.data=.fields ts∧ts[3]?=some .none)→Q () { s with heap:=h' }) :
    wpAny M A (do let a ← frameOf env;let pl ← entryPlaceOf L hadNext;let b ← EntryCells.newEntry head a .none (rawInt L) .none pl;setField (.ref e) 1 b) (fun _ s'=>wpAny M A (setFlight (.ref e) none) Q E s') E s:=by
  have hene:e∉(env::outer).filterMap (·.frame):=fun hm=>by
    obtain ⟨_,o,ho,hnf⟩:=hl.mem hm
    rw [he] at ho;injection ho with ho;subst ho;exact hnf vs hd
  refine wpAny_bind (wpAny_frameOf_fun hfr hl hf fun h₁ hs₁=>?_)
  refine wpAny_bind (wpAny_entryPlaceOf fun pl hpl=>?_)
  unfold EntryCells.newEntry newFields
  refine wpAny_bind (wpAny_newObj_type ?_ (hpl.sizeOk5 _ _ _ _ _))
  have he₁:h₁.get? e=some oe:=(hs₁.2.1 e hene).trans he
  have he₂:=Heap.get?_push_of_some (h:=h₁) { cls:=.type "traceback",dict:=none,data:=.fields ([head,.ref L,.none,rawInt L,.none]++(if pl.isEmpty then List.replicate 6 Value.none else pl)).toArray } he₁
  refine wpAny_setField he₂ hd hsz ?_
  have hTe:h₁.objs.size≠e:=Nat.ne_of_gt (Heap.lt_size he₁)
  have hd₃:=Obj.data_mapFields hd (·.setIfInBounds 1 (Value.ref h₁.objs.size))
  have he₃:=Heap.get?_update_self (Obj.mapFields (·.setIfInBounds 1 (Value.ref h₁.objs.size))) he₂ (Obj.isFreed_of_fields hd₃)
  have hT₃:=(Heap.get?_update_other (h₁.push { cls:=.type "traceback",dict:=none,data:=.fields ([head,.ref L,.none,rawInt L,.none]++(if pl.isEmpty then List.replicate 6 Value.none else pl)).toArray })
    (Obj.mapFields (·.setIfInBounds 1 (Value.ref h₁.objs.size))) (Ne.symm hTe)).trans (Heap.get?_push_size h₁ rfl)
  unfold setFlight
  refine wpAny_bind (wpAny_field he₃ hd₃ (x:=.ref h₁.objs.size) (by simp [hsz]) ?_)
  rw [if_pos (show (Value.ref h₁.objs.size != Value.none)=true from by simp)]
  refine wpAny_setField hT₃ rfl (by simp only [List.size_toArray,List.length_append,List.length_cons,List.length_nil]<;>omega) (h _ ?_ ?_ ?_)
  · intro b o hbf hbe hb
    have hb₁:h₁.get? b=some o:=(hs₁.2.1 b hbf).trans hb
    have hbT:h₁.objs.size≠b:=Nat.ne_of_gt (Heap.lt_size hb₁)
    rw [Heap.get?_update_other _ _ hbT,Heap.get?_update_other _ _ (Ne.symm hbe)]
    exact Heap.get?_push_of_some _ hb₁
  · intro b o hbf hb
    obtain ⟨sl,hs⟩:=hs₁.2.2 b o hb
    have hbe:b≠e:=fun q=>hene (q▸hbf)
    have hbT:h₁.objs.size≠b:=Nat.ne_of_gt (Heap.lt_size hs)
    refine ⟨sl,?_⟩
    rw [Heap.get?_update_other _ _ hbT,Heap.get?_update_other _ _ (Ne.symm hbe)]
    exact Heap.get?_push_of_some _ hs
  · refine ⟨h₁.objs.size,_,_,(by rw [hs₁.1];exact Nat.le_refl _),hTe,?_,Heap.get?_update_self _ hT₃ (Obj.isFreed_of_fields (Obj.data_mapFields rfl _)),Obj.data_mapFields rfl _,?_⟩
    · rw [Heap.get?_update_other _ _ hTe];exact he₃
    · first | (simp;done) | (rcases hpl with rfl | ⟨_,_,_,_,_,_,_,rfl⟩<;>simp)
theorem noteS {base:Heap} {env:Env} {outer:List Env} {L e C dx:Addr} {s0h:Heap} {H:Hp} {Q:Unit→Shared→Prop}
    (hfr:A.frames=some (env::outer)) (hl:s.heap.FunFrames base (env::outer)) (hf:env.frame=some L) (hx:Rec s0h s.heap H e C dx) (h0:s0h.objs.size≤s.heap.objs.size) (hH:∀ b,s.heap.objs.size≤b→H b=none)
    (h:∀ h' (T':Option Addr),(∀ T,T'=some T→s0h.objs.size≤T∧H T=none∧∃ oT ts,s.heap.get? T=some oT∧oT.data=.fields ts)→(∀ b o,b∉frs (env::outer)→b≠e→T'≠some b→s.heap.get? b=some o→h'.get? b=some o)→(∀ b o,b∈frs (env::outer)→s.heap.get? b=some o→∃ sl,h'.get? b=some { o with slots:=sl })→
      Rec s0h h' H e C dx→(∀ T,T'=some T→∃ o,h'.get? T=some o)→Q () { s with heap:=h' }):wpAny M A (noteFrame (.ref e) env) (fun _ s'=>wpAny M A (setFlight (.ref e) none) Q E s') E s:=by
  obtain ⟨oe,vs,he,hc,hdx,hd,hsz,hv⟩:=hx
  have fin:∀ h',(∃ T oT ts,s.heap.objs.size≤T∧T≠e∧h'.get? e=some (oe.mapFields (·.setIfInBounds 1 (.ref T)))∧h'.get? T=some oT∧oT.data=.fields ts∧ts[3]?=some .none)→Rec s0h h' H e C dx:=fun h' ⟨T,oT,ts,t1,t2,t3,t4,t5,t6⟩=>by
    refine ⟨_,_,t3,(Obj.cls_mapFields _ _).trans hc,?_,Obj.data_mapFields hd _,by simpa using hsz,.inr ⟨T,oT,ts,by simp [hsz],t2,Nat.le_trans h0 t1,hH T t1,t4,t5,t6⟩⟩
    obtain ⟨c,d,dt,sl⟩:=oe
    have hd':dt=.fields vs:=hd
    subst hd'
    exact hdx
  unfold noteFrame
  simp only [hf]
  rcases hv with h1 | ⟨T,oT,ts,h1,hTe,hT0,hTH,hT,hdT,h3⟩
  · refine wpAny_bind (wpAny_field he hd h1 ?_)
    rw [if_neg (by decide)]
    exact newEntryS hfr hl hf he hd hsz fun h' k1 k2 k3=>h h' none (fun T z=>by cases z) (fun b o b1 b2 _ b4=>k1 b o b1 b2 b4) k2 (fin h' k3) (fun T z=>by cases z)
  · refine wpAny_bind (wpAny_field he hd h1 ?_)
    rw [if_pos (show (Value.ref T != Value.none)=true from by simp)]
    refine wpAny_bind (wpAny_field hT hdT h3 ?_)
    rw [if_neg (show ¬ ((Value.none==rawInt L)=true) from by simp [rawInt])]
    refine wpAny_bind (wpAny_setField hT hdT (Array.getElem?_eq_some_iff.mp h3).1 ?_)
    have other:∀ b,b≠T→(s.heap.update T (Obj.mapFields (·.setIfInBounds 3 Value.none))).get? b=s.heap.get? b:=fun b hb=>Heap.get?_update_other _ _ (Ne.symm hb)
    have noRecord:∀ b o,s.heap.get? b=some o→(∀ vs,o.data≠.fields vs)→b≠T:=fun b o hb hnf q=>by
      rw [q,hT] at hb;injection hb with hb;subst hb;exact hnf ts hdT
    have hTn:T∉frs (env::outer):=fun hm=>by
      obtain ⟨_,o,ho,hnf⟩:=hl.mem (show T∈(env::outer).filterMap (·.frame) from hm)
      exact noRecord T o ho hnf rfl
    refine newEntryS hfr (hl.of_keeps fun b o hb hnf=>⟨o,(other b (noRecord b o hb hnf)).trans hb,rfl⟩) hf ((other e (Ne.symm hTe)).trans he) hd hsz fun h' k1 k2 k3=>h h' (some T) (fun T' z=>by cases z;exact ⟨hT0,hTH,_,_,hT,hdT⟩) (fun b o b1 b2 b3 b4=>k1 b o b1 b2 ((other b (fun z=>b3 (by rw [z]))).trans b4)) (fun b o b1 b2=>?_) (fin h' (by
        obtain ⟨T2,oT2,ts2,a1,a2⟩:=k3
        exact ⟨T2,oT2,ts2,by rw [Heap.size_after_update] at a1;exact a1,a2⟩)) (fun T' z=>?_)
    · obtain ⟨_,o',ho',hnf⟩:=hl.mem (show b∈(env::outer).filterMap (·.frame) from b1)
      rw [b2] at ho';injection ho' with ho';subst ho'
      exact k2 b o b1 ((other b (noRecord b o b2 hnf)).trans b2)
    · cases z
      exact ⟨_,k1 T _ hTn hTe (Heap.get?_update_self _ hT (Obj.isFreed_of_fields (Obj.data_mapFields hdT _)))⟩
theorem leavingS {base:Heap} {env:Env} {outer:List Env} {L e C dx:Addr} {s0h:Heap} {H:Hp} {Q:Unit→Shared→Prop}
    (hfr:A.frames=some (env::outer)) (hl:s.heap.FunFrames base (env::outer)) (hf:env.frame=some L) (hx:Rec s0h s.heap H e C dx) (h0:s0h.objs.size≤s.heap.objs.size) (hH:∀ b,s.heap.objs.size≤b→H b=none)
    (h:∀ h' (T':Option Addr),(∀ T,T'=some T→s0h.objs.size≤T∧H T=none)→(∀ b o,b∉frs (env::outer)→b≠e→T'≠some b→s.heap.get? b=some o→h'.get? b=some o)→(∀ b o,b∈frs (env::outer)→s.heap.get? b=some o→∃ sl,h'.get? b=some { o with slots:=sl })→
      Rec s0h h' H e C dx→Q () { s with heap:=h' }):wpAny M A (leaving env (.ref e)) Q E s:=by
  unfold leaving
  exact wpAny_bind (noteS hfr hl hf hx h0 hH fun h' T' a b c d _=>h h' T' (fun T z=>⟨(a T z).1,(a T z).2.1⟩) b c d)
end
end Xc
namespace Xc
open PySem
open Sem (wp)
open PySem.W (Looks)
abbrev bmV:List Value:=[.type "ValueError",.type "Exception",.type "BaseException",.type "object"]
abbrev clsO (nm q:Str) (C N:Addr) (bs bm:List Value) (sn:List Str) (sub:List Value) (ab:Bool) (col:Option Bool) (dd:Option Addr) (k0 k1 k2 k3 k5:Option Value):Obj:=excClassObj nm q C N bs bm true sn sub ab col dd k0 k1 k2 k3 k5 "ValueError.__new__"
structure Tl (bm:List Value):Prop where
  v:bm.contains (.type "ValueError")=true
  b:bm.contains (.type "BaseException")=true
  o:bm.contains (.type "object")=true
  a:bm.contains (.type "AttributeError")=false
  n:bm.contains (.type "NameError")=false
section
variable {M:Model} {A:Around} {E:Value→Shared→Prop} {h:Heap} {g:Array GenState} {d:Drawn} {t:Nat} {os:OsState}
variable {nm q:Str} {C N:Addr} {bs bm:List Value} {sn:List Str} {sub:List Value} {ab:Bool} {col:Option Bool} {dd:Option Addr} {k0 k1 k2 k3 k5:Option Value}
theorem check_new (Z:Tl bm) {rest:List Value} {Q:Unit→Shared→Prop} (hC:h.get? C=some (clsO nm q C N bs bm sn sub ab col dd k0 k1 k2 k3 k5)) (hq:Q () ⟨h,g,d,t,os⟩) :
    wpAny M A (checkBuiltinCall "ValueError.__new__" ⟨.ref C::rest,[]⟩) Q E ⟨h,g,d,t,os⟩:=by
  have Fn:=PySem.F.excBase_ValueError
  have hcont:(Value.ref C::bm).contains (.type "ValueError")=true:=by rw [List.contains_cons,Z.v,Bool.or_true]
  have hstar:=Fn.noStar
  simp only [checkBuiltinCall,Fn.newKind,Fn.newSplit,Fn.newRow]
  repeat (first | refine wpAny_loadPart_at hC ?_ | (refine wpAny_isSubtype_exc hC ?_;rw [hcont]) | refine wpAny_staticBase_exc hC ?_ | refine wpAny_madeBy_exc hC ?_ | simp only [bne_self_eq_false,Bool.false_eq_true,if_false] | wp_step)
  exact hq
end
section
variable {prog:Program} {w:World} {A:Around} {R:Result→Shared→Prop} {E:Value→Shared→Prop} {h:Heap} {g:Array GenState} {d:Drawn} {t:Nat} {os:OsState}
variable {nm q:Str} {C N:Addr} {bs bm:List Value} {sn:List Str} {sub:List Value} {ab:Bool} {col:Option Bool} {dd:Option Addr} {k0 k1 k2 k3 k5:Option Value}
theorem exc_new (Z:Tl bm) {rest:List Value} (hC:h.get? C=some (clsO nm q C N bs bm sn sub ab col dd k0 k1 k2 k3 k5))
    (hq:R (.ok (.ret (.ref (h.objs.size+1)))) ⟨(h.push { cls:=.type "tuple",data:=.seq rest.toArray }).push
      { cls:=.ref C,data:=.fields #[.ref h.objs.size,.none,.none,.none,.bool false,.none] },g,d,t,os⟩) (hrest:rest.length≤sizeLine) :
    codeAny (model prog w) A (.builtin "ValueError.__new__" ⟨.ref C::rest,[]⟩) R ⟨h,g,d,t,os⟩:=by
  have Fn:=PySem.F.excBase_ValueError
  have hends:=Fn.ends
  have hcB:(Value.ref C::bm).contains (.type "ValueError")=true:=by rw [List.contains_cons,Z.v,Bool.or_true]
  have hcA:(Value.ref C::bm).contains (.type "AttributeError")=false:=by rw [List.contains_cons,Z.a];rfl
  have hcN:(Value.ref C::bm).contains (.type "NameError")=false:=by rw [List.contains_cons,Z.n];rfl
  refine codeAny_builtinAt Fn.entry ?_
  unfold Builtin.«BaseException.__new__»
  refine wpAt_bind ?_
  show wpAt _ _ _ (stack >>= _) _ _ _
  refine wpAt_bind (wpAt_stack fun p below=>wpAt_of_wpAny ?_)
  wp_walk
  refine wpAt_of_wpAny ?_
  rw [Fn.owner]
  repeat (first | with_reducible refine wpAny_madeHere_exc Fn.canon hC ?_ | with_reducible refine wpAny_loadPart_at hC ?_ | (with_reducible refine wpAny_isSubtype_exc hC ?_;first | rw [hcB] | rw [hcA] | rw [hcN]) | wp_step)
  show R _ _
  rw [Heap.size_push]
  exact hq
theorem type_call_init (Z:Tl bm) {rest:List Value} {fI:Addr} {oI:Obj} {Q:Fin→Shared→Prop}
    (hC:h.get? C=some (clsO nm q C N bs bm sn sub ab col dd k0 k1 k2 k3 k5)) (hi:Looks (model prog w) h (typeLookup (.ref C) "__init__") (some (.ref fI)))
    (hfI:h.get? fI=some oI) (hfc:oI.cls=.type "function")
    (hq:∀ h' e,Heap.MadeExcOf h h' e (.ref C) rest→h.objs.size≤e→
      wpAny (model prog w) A (call (.ref fI) (.ref e::rest)) (fun r s'=>r=.none∧Q (.done (.ret (.ref e))) s') E ⟨h',g,d,t,os⟩) (hrest:rest.length≤sizeLine) :
    wpAny (model prog w) A (Builtin.«type.__call__» ⟨.ref C::rest,[]⟩) Q E ⟨h,g,d,t,os⟩:=by
  have F:=PySem.F.excBase_ValueError
  repeat (first | with_reducible refine wpAny_loadPart_at hC ?_ | with_reducible refine wpAny_madeBy_exc hC ?_ | wp_step)
  refine codeAny_call_builtin_code (Code.quiet_builtin _ F.quiet) (check_new Z hC ?_)
  refine exc_new Z hC ?_ hrest
  show wpAny _ _ _ _ _ _
  have kp:∀ b o,h.get? b=some o→((h.push { cls:=.type "tuple",data:=.seq rest.toArray }).push { cls:=.ref C,data:=.fields #[.ref h.objs.size,.none,.none,.none,.bool false,.none] }).get? b=some o:=
    fun b o e=>Heap.get?_push_of_some _ (Heap.get?_push_of_some _ e)
  have hC₁:=kp _ _ hC
  have hfI₁:=kp _ _ hfI
  have hget:((h.push { cls:=.type "tuple",data:=.seq rest.toArray }).push
      { cls:=.ref C,data:=.fields #[.ref h.objs.size,.none,.none,.none,.bool false,.none] }).get? (h.objs.size+1)=some
      { cls:=.ref C,data:=.fields #[.ref h.objs.size,.none,.none,.none,.bool false,.none] }:=by heap_get
  have hcC:(Value.ref C::bm).contains (.ref C)=true:=by simp
  have hi₁:=hi.keeps kp
  unfold isInstance
  repeat (first | with_reducible refine wpAny_loadPart_at hget ?_ | (with_reducible refine wpAny_isSubtype_exc hC₁ ?_;rw [hcC]) | wp_step)
  show wpAny _ _ (typeLookup (.ref C) _) _ _ _
  refine hi₁.at ?_
  refine wpAny_holding (wpAny_bind ?_)
  unfold bindSpecial
  refine wpAny_bind (wpAny_typeOf (T:="function") ⟨_,hfI₁,hfc⟩ ?_)
  rw [if_pos (by decide)]
  refine wpAny_pure (wpAny_bind (wpAny_mono (hq _ (h.objs.size+1) ⟨kp,Heap.get?_none_of_le (Nat.le_succ _),h.objs.size,hget,Heap.get?_none_of_le (Nat.le_refl _),?_⟩ (Nat.le_succ _)) (fun r s' hr=>?_) fun _ _ x=>x))
  · exact Heap.get?_push_of_some _ (Heap.get?_push_at rfl rfl)
  · obtain ⟨rfl,hQ⟩:=hr
    wp_walk
    exact hQ
theorem exc_call (Z:Tl bm) {rest:List Value} {fI:Addr} {oI:Obj} {Q:Value→Shared→Prop}
    (hC:h.get? C=some (clsO nm q C N bs bm sn sub ab col dd k0 k1 k2 k3 k5)) (hi:Looks (model prog w) h (typeLookup (.ref C) "__init__") (some (.ref fI)))
    (hfI:h.get? fI=some oI) (hfc:oI.cls=.type "function")
    (hq:∀ h' e,Heap.MadeExcOf h h' e (.ref C) rest→h.objs.size≤e→
      wpAny (model prog w) (A.under (.builtin "type.__call__" ⟨.ref C::rest,[]⟩)) (call (.ref fI) (.ref e::rest)) (fun r s'=>r=.none∧Q (.ref e) s') E ⟨h',g,d,t,os⟩) (hrest:rest.length≤sizeLine) :
    wpAny (model prog w) A (call (.ref C) rest) Q E ⟨h,g,d,t,os⟩:=by
  have f1:=tc_lookup
  have f2:=tc_bind (.ref C)
  have hT:(⟨h,g,d,t,os⟩:Shared).TypeIs (.ref C) "type":=⟨_,hC,rfl⟩
  refine wpAny_call (codeAny_of_tree ?_)
  show wpAny _ _ (callAny (.ref C) _) _ _ _
  repeat (any_goals (first | assumption | with_reducible refine wpAny_loadPart_at hC ?_ | wp_step))
  refine ⟨rfl,?_⟩
  refine codeAny_call_builtin_at (Code.quiet_builtin _ (by decide +kernel)) entry_typeCall (wpAny_check_type_call_sub hC (type_call_init Z (hrest:=hrest) hC hi hfI hfc fun h' e hm hz=>?_))
  exact hq h' e hm hz
theorem exc_init (Z:Tl bm) {e:Addr} {oe:Obj} {vs:Array Value} {rest:List Value} {Q:Value→Shared→Prop} (hC:h.get? C=some (clsO nm q C N bs bm sn sub ab col dd k0 k1 k2 k3 k5)) (he:h.get? e=some oe) (hcls:oe.cls=.ref C) (hd:oe.data=.fields vs) {t0:Addr} (hz:vs[0]?=some (.ref t0)) (hrest:rest.length≤sizeLine)
    (hq:∀ h' tp,(∀ b o,b≠e→h.get? b=some o→h'.get? b=some o)→h'.get? e=some (oe.mapFields (·.setIfInBounds 0 (.ref tp)))→Q .none ⟨h',g,d,t,os⟩) :
    wpAny (model prog w) A (call (.builtin "ValueError.__init__") (.ref e::rest)) Q E ⟨h,g,d,t,os⟩:=by
  have F:=PySem.F.excBase_ValueError
  have hcB:(Value.ref C::bm).contains (.type "ValueError")=true:=by rw [List.contains_cons,Z.v,Bool.or_true]
  have hshort:=F.noStar
  refine wpAny_call (codeAny_call_builtin F.init.plain F.initEntry ?_)
  simp only [checkBuiltinCall,F.initKind,F.initSplit,F.initRow]
  repeat (first | (with_reducible refine wpAny_loadPart_at he ?_;rw [hcls]) | with_reducible refine wpAny_loadPart_at hC ?_ | (with_reducible refine wpAny_isSubtype_exc hC ?_;rw [hcB]) | wp_step)
  refine wpAny_onRaise ?_
  rw [show ∀ (a b:String) (n:Nat),Bind.check ⟨.positional,"*","ValueError",.self,[⟨"args",.varPos,false⟩]⟩ a b n (List.map (fun x=>x.fst) ({ pos:=Value.ref e::rest }:Args).kw)=pure () from
    fun a b n=>check_star_args _ _ _ _ _ _]
  refine wpAny_pure ?_
  wp_walk
  rw [hd]
  refine wpAny_pure ?_
  rw [hz]
  refine wpAny_pure ?_
  have he₁:=Heap.get?_push_of_some { cls:=.type "tuple",data:=.seq rest.toArray } he
  refine wpAny_bind (wpAny_setField he₁ hd (Array.getElem?_eq_some_iff.mp hz).1 ?_)
  refine wpAny_letGo ?_
  refine wpAny_pure (hq _ h.objs.size (fun b o hb ho=>?_) ?_)
  · rw [Heap.get?_update_other _ _ (Ne.symm hb)]
    exact Heap.get?_push_of_some _ ho
  · exact Heap.get?_update_self _ he₁ (Obj.isFreed_of_fields (Obj.data_mapFields hd _))
end
end Xc
namespace Xc
open PySem
open Sem (wp)
open Builtin Builtin.ObjectAttr
open PySem.W (Looks)
section
variable {prog:Program} {w:World} {A:Around} {E:Value→Shared→Prop} {h:Heap} {g:Array GenState} {d:Drawn} {t:Nat} {os:OsState}
variable {nm q:Str} {C N x:Addr} {bs bm:List Value} {sn:List Str} {sub:List Value} {ab:Bool} {col:Option Bool} {dd:Option Addr} {k0 k1 k2 k3 k5:Option Value} {name:Str} {v:Value}
theorem check_sa {M:Model} {o:Obj} {nameV:Value} {Q:Unit→Shared→Prop} (Z:Tl bm)
    (hC:h.get? C=some (clsO nm q C N bs bm sn sub ab col dd k0 k1 k2 k3 k5)) (hx:h.get? x=some o) (hc:o.cls=.ref C) (hq:Q () ⟨h,g,d,t,os⟩) :
    wpAny M A (checkBuiltinCall "object.__setattr__" ⟨[.ref x,nameV,v],[]⟩) Q E ⟨h,g,d,t,os⟩:=by
  have SF:=PySem.F.store_object
  have hcB:(Value.ref C::bm).contains (.type "object")=true:=by rw [List.contains_cons,Z.o,Bool.or_true]
  have ha:=SF.args (.ref x) nameV v
  simp only [checkBuiltinCall,SF.kind,SF.split]
  refine wpAny_bind ?_
  · unfold isInstance
    repeat (first | (with_reducible refine wpAny_loadPart_at hx ?_;rw [hc]) | (with_reducible refine wpAny_isSubtype_exc hC ?_;rw [hcB]) | wp_step)
    exact hq
theorem store_entry {o:Obj} {tk:Tok} {Q:Fin→Shared→Prop}
    (hC:h.get? C=some (clsO nm q C N bs bm sn sub ab col dd k0 k1 k2 k3 k5)) (hpass:refuseLoop (.ref x) "__setattr__" bm=pure ()) (hcell:Looks (model prog w) h (typeLookup (.ref C) name) none)
    (hx:h.get? x=some o) (hc:o.cls=.ref C) (hnc:∀ c,o.data≠.cls c) (hdn:o.dict=none)
    (hq:∀ h' tk',(∀ b ob,b≠x→h.get? b=some ob→h'.get? b=some ob)→h'.get? x=some { o with dict:=some h.objs.size }→h'.Ns1 h.objs.size (fun y=>if y=name then some v else none)→Q (.done (.ret .none)) ⟨h',g,d,tk',os⟩) :
    wpAny (model prog w) A (Builtin.«object.__setattr__» ⟨[.ref x,.str name tk,v],[]⟩) Q E ⟨h,g,d,t,os⟩:=by
  unfold Builtin.«object.__setattr__»
  repeat (first | rw [refuse_eq] | (rw [refuseLoop_ref,hpass]) | (with_reducible refine wpAny_loadPart_at hx ?_;rw [hc]) | with_reducible refine wpAny_mroOf_exc hC ?_ | with_reducible refine hcell.at ?_ | wp_step)
  rw [hdn,if_neg (by simp [typeHasDict])]
  split
  · rename_i hcd
    cases hcd
  split
  · rename_i c hcd
    exact absurd hcd (hnc c)
  · have hx₁:(h.push { cls:=.type "dict",data:=.dict #[] }).get? x=some o:=Heap.get?_push_of_some _ hx
    have hxs:x≠h.objs.size:=Nat.ne_of_lt (Heap.lt_size hx)
    refine wpAny_bind (wpAny_alloc' ?_)
    refine wpAny_bind (wpAny_update' hx₁ ?_)
    refine wpAny_pure ?_
    have hgd:((h.push { cls:=.type "dict",data:=.dict #[] }).update x fun o=>{ cls:=o.cls,dict:=some h.objs.size,data:=o.data,slots:=o.slots }).get? h.objs.size
        = some { cls:=.type "dict",data:=.dict #[] }:=
      (Heap.get?_update_ne _ _ _ _ hxs.symm).trans (Heap.get?_push_at rfl rfl)
    have hnd:((h.push { cls:=.type "dict",data:=.dict #[] }).update x fun o=>{ cls:=o.cls,dict:=some h.objs.size,data:=o.data,slots:=o.slots }).Ns h.objs.size (fun _=>none):=
      ⟨_,#[],_,hgd,rfl,fun e he=>absurd he (by simp),fun _=>rfl⟩
    show wpAny _ _ (storeInDict h.objs.size (.str name tk) name v) _ _ _
    unfold storeInDict newKeyGuard
    refine wpAny_bind (wpAny_pure (wpAny_bind (wpAny_nsSet1 (Heap.Ns1.of_empty hnd) fun h' hn' hs=>?_)))
    obtain ⟨oD,esD,epD,hoD,hdD,hcD⟩:=hn'.count (Within.cons name v Within.nil)
    refine wpAny_bind (wpAny_lookBehind hoD (by rw [hdD];exact pastItsLine_dict (Nat.le_trans hcD (by rw [List.length_cons,List.length_nil,sizeLine_eq];omega))) ?_)
    wp_walk
    refine hq h' _ (fun b ob hbx hb=>?_) ?_ hn'
    · exact (hs.2 b (Nat.ne_of_lt (Heap.lt_size hb))).trans ((Heap.get?_update_ne _ _ _ _ hbx).trans (Heap.get?_push_of_some _ hb))
    · refine (hs.2 x hxs).trans (Heap.get?_update_self _ hx₁ ?_)
      have hfr:=(Heap.get?_some_iff.mp hx).2
      obtain ⟨oc,od,odt,osl⟩:=o
      cases odt<;>first | rfl | exact hfr
theorem store_attr {o:Obj} {Q:Unit→Shared→Prop} (Z:Tl bm)
    (hC:h.get? C=some (clsO nm q C N bs bm sn sub ab col dd k0 k1 k2 k3 k5)) (hpass:refuseLoop (.ref x) "__setattr__" bm=pure ()) (hset:Looks (model prog w) h (typeLookup (.ref C) "__setattr__") (some (.builtin "object.__setattr__"))) (hcell:Looks (model prog w) h (typeLookup (.ref C) name) none)
    (hx:h.get? x=some o) (hc:o.cls=.ref C) (hnc:∀ c,o.data≠.cls c) (hdn:o.dict=none)
    (hq:∀ h' tk',(∀ b ob,b≠x→h.get? b=some ob→h'.get? b=some ob)→h'.get? x=some { o with dict:=some h.objs.size }→h'.Ns1 h.objs.size (fun y=>if y=name then some v else none)→Q () ⟨h',g,d,tk',os⟩) :
    wpAny (model prog w) A (setAttr (.ref x) name v) Q E ⟨h,g,d,t,os⟩:=by
  have SF:=PySem.F.store_object
  have f3:=SF.slot.bind (.ref x)
  unfold setAttr callSpecial? specialOf
  repeat (any_goals (first | assumption | (with_reducible refine wpAny_loadPart_at hx ?_;rw [hc]) | with_reducible refine hset.at ?_ | wp_step))
  refine codeAny_call_builtin SF.slot.plain SF.entry (check_sa Z hC hx hc (store_entry hC hpass hcell hx hc hnc hdn fun h' tk' k1 k2 k3=>?_))
  repeat (any_goals (first | assumption | wp_step))
  exact hq h' tk' k1 k2 k3
end
end Xc
namespace Xc
open PySem PySem.Spec PyProof.Rows L2
def Raw (e C:Addr):Heap→Prop:=fun h=>∃ vs t0,h.get? e=some { cls:=.ref C,data:=.fields vs }∧vs.size=6∧vs[0]?=some (.ref t0)∧vs[1]?=some .none
def Full (e C dx:Addr):Heap→Prop:=fun h=>∃ vs,h.get? e=some { cls:=.ref C,dict:=some dx,data:=.fields vs }∧vs.size=6∧vs[1]?=some .none
theorem raw_stays {e C:Addr}:∀ h1 h2:Heap,Raw e C h1→(∀ o,h1.get? e=some o→h2.get? e=some o)→Raw e C h2:=fun h1 h2 ⟨vs,t0,a,b⟩ k=>⟨vs,t0,k _ a,b⟩
theorem full_stays {e C dx:Addr}:∀ h1 h2:Heap,Full e C dx h1→(∀ o,h1.get? e=some o→h2.get? e=some o)→Full e C dx h2:=fun h1 h2 ⟨vs,a,b⟩ k=>⟨vs,k _ a,b⟩
structure EC (K:PySem.W.Frag) (C HE fI:Addr):Prop where
  lk:∃ nm q N bs sn sub ab col dd k0 k1 k2 k3 k5,K.lookup C=some (clsO nm q C N bs (.ref HE::bmV) sn sub ab col dd k0 k1 k2 k3 k5)
  ini:PySem.W.findIn K (.ref C) "__init__"=some (some (.ref fI))
  fn:∃ o,K.lookup fI=some o∧o.cls=.type "function"
  sa:PySem.W.findIn K (.ref C) "__setattr__"=some (some (.builtin "object.__setattr__"))
  ce:PySem.W.findIn K (.ref C) "cell"=some none
  kp:PySem.W.keepIn K (.ref C)=true
theorem tl_c {HE:Addr} (x:String):(Value.ref HE::bmV).contains (.type x)=bmV.contains (.type x):=by rw [List.contains_cons];rfl
theorem tl_v {HE:Addr}:Tl (.ref HE::bmV):=⟨(tl_c _).trans (by decide),(tl_c _).trans (by decide),(tl_c _).trans (by decide),(tl_c _).trans (by decide),(tl_c _).trans (by decide)⟩
theorem upd_id {H:Hp} {a:Addr} {o:HO} (h:H a=some o):upd H a o=H:=by
  funext b;unfold upd;split
  · rename_i e;rw [e,h]
  · rfl
section
variable {X:Cx} {pos apos p:Pos} {e:Expr} {es:List Expr} {ta:TA}
def tVinit (K:PySem.W.Frag) (ta:TA):TE:=fun σ H Q=>ta σ H fun vs H1=>∃ e wd C HE fI,vs=[.ref e,wd]∧H1 e=some (.ext (Raw e C))∧EC K C HE fI∧Q .non H1
theorem vt:typeOf (.type "ValueError")=pure (.type "type"):=by kernel_rfl
theorem vs_:Manifest.isStub "ValueError"=false:=by decide +kernel
theorem vfind (K:PySem.W.Frag):PySem.W.findCls K (.type "ValueError") (.type "type") "__init__"=some (.val (.builtin "ValueError.__init__")):=by
  kernel_rfl
theorem pe_vinit {pl:Sem Bool} (hm:X.mg "ValueError"=none) (ha:PA X (e::es) ta) (hg:Gl X "ValueError":=by rfl)
    (he:starEach (e::es) X.env=(false,eval e X.env)::starEach es X.env:=by rfl) (hpl:(backTo pos (starEach es X.env)).any (·.1)=false:=by rfl)
    (ht:eval (.Call (.Attribute (.Name "ValueError" p) "__init__" apos) (e::es) [] pos) X.env=(do
      let ov ← eval (.Name "ValueError" p) X.env
      standAt apos.atName
      let (f,first) ← holding [ov] (getMethod ov "__init__" pl)
      callWith pos f first (backTo pos (starEach (e::es) X.env)) (backToKw pos (keywordEach [] X.env))):=by rfl) :
    PE X (.Call (.Attribute (.Name "ValueError" p) "__init__" apos) (e::es) [] pos) (tVinit X.K ta):=by
  intro pins s σ H Q I h
  refine PySem.W.methodCall_KW (pl:=pl) (ld_blt I hg hm (u:=.type "ValueError") (by decide +kernel) ?_) ht
  obtain ⟨m,F⟩:=I.fr
  refine PySem.W.method_type F I.ok.mod.kin vt vs_ (vfind X.K) (by decide +kernel) ?_
  refine PyProof.Rows.callWith_builtin1 (thn (ha pos pins _ σ H _ (I.tok _) h) fun us s1 ⟨vs,H1,I1,r1,ex,wd,C,HE,fI,ev,hx,ec,q1⟩=>?_) he hpl
  subst ev
  obtain ⟨u0,us',rfl,r0,r1⟩:∃ u0 us',us=u0::us'∧RelV (.ref ex) u0∧Vals [wd] us':=by cases r1 with | cons a b=>exact ⟨_,_,rfl,a,b⟩
  obtain rfl:u0=Value.ref ex:=r0
  obtain ⟨vsE,t0,g1,g2,g3,g4⟩:=(show ObjOk X.prog X.w H1 s1.heap ex (.ext (Raw ex C)) from I1.hok ex _ hx).1
  obtain ⟨nm,q,N,bs,sn,sub,ab,col,dd,k0,k1,k2,k3,k5,lk⟩:=ec.lk
  obtain ⟨hh,g,d,tk,os⟩:=s1
  refine exc_init (tl_v (HE:=HE)) (I1.kIn _ _ lk) g1 rfl rfl g3 (by have:=r1.length;simp at this;rw [this,sizeLine_eq];omega) fun h' tp hk he'=>?_
  refine ⟨.non,H1,?_,rfl,q1⟩
  have nw:Raw ex C h':=⟨_,tp,he',by simpa using g2,by simp [g2],by simp [g4]⟩
  have:=I1.write (x:=ex) (e:=ex) (o:=.ext (Raw ex C)) (h':=h') (t':=tk) (by rw [hx];exact True.intro) (.inl rfl) (fun b u hb z=>hk b u hb z) ⟨_,he'⟩ ⟨nw,⟨_,he'⟩,raw_stays⟩
  rwa [upd_id hx] at this
end
end Xc
namespace Xc
open PySem PySem.Spec PyProof.Rows L2
section
variable {X:Cx} {pos pos' apos p:Pos} {e o value:Expr} {es:List Expr} {ta tv:TE}
def sCell (K:PySem.W.Frag) (ta tv:TE):TS:=fun D σ H=>tv σ H fun y H1=>ta σ H1 fun x H2=>∃ e C HE fI,x=.ref e∧H2 e=some (.ext (Raw e C))∧EC K C HE fI∧
  ∀ dx,H2 dx=none→dx≠e→D.nx σ (upd (upd H2 e (.ext (Full e C dx))) dx (.xd [("cell",y)]))
theorem cell_un {H:Hp} {fs:List Addr} {h h':Heap} {e C dx:Addr} {y:V} (hx:H e=some (.ext (Raw e C))) (hd:h.get? dx=none) (hH:H dx=none) (hk:∀ b u,b≠e→h.get? b=some u→h'.get? b=some u) (he:∃ u,h'.get? e=some u) :
    Un fs [] H (upd (upd H e (.ext (Full e C dx))) dx (.xd [("cell",y)])) h h' where
  keep:=fun b o q n _ _=>hk b o (fun z=>by rw [z,hx] at n;cases n) q
  slot:=fun b o q n _ _=>⟨o.slots,hk b o (fun z=>by rw [z,hx] at n;cases n) q⟩
  free:=fun b o q n _=>by
    rw [upd_ne (fun z=>by rw [z,hd] at q;cases q),upd_ne (fun z=>by rw [z,hx] at n;cases n)];exact n
  there:=fun b o q _=>by
    by_cases z:b=e
    · rw [z];exact he
    · exact ⟨o,hk b o z q⟩
  tups:=fun b xs q=>by rw [upd_ne (fun z=>by rw [z,hH] at q;cases q),upd_ne (fun z=>by rw [z,hx] at q;cases q)];exact q
  frzs:=fun b o u q=>by rw [upd_ne (fun z=>by rw [z,hH] at q;cases q),upd_ne (fun z=>by rw [z,hx] at q;cases q)];exact q
  tbls:=fun b ps q=>⟨#[],by rw [upd_ne (fun z=>by rw [z,hH] at q;cases q),upd_ne (fun z=>by rw [z,hx] at q;cases q),Array.append_empty];exact q⟩
theorem ps_cell (ha:PE X o ta) (hv:PE X value tv) (hs:swapsWith value (some (.Attribute o "cell" pos')) pos.line X.env=pure false):PS X (.Assign [.Attribute o "cell" pos'] value pos) (sCell X.K ta tv):=by
  intro pins s σ H D I h
  refine plainObj_wpAny_Assign_Attribute (thn (hv pins s σ H _ I h) fun u s1 ⟨y,H1,I1,ry,q⟩=>thn (ha pins s1 σ H1 _ I1 q) fun ov s2 ⟨x,H2,I2,rx,ex,C,HE,fI,ee,hx,ec,q2⟩=>?_) hs
  subst ee
  obtain rfl:ov=Value.ref ex:=rx
  obtain ⟨vsE,t0,g1,g2,g3,g4⟩:=(show ObjOk X.prog X.w H2 s2.heap ex (.ext (Raw ex C)) from I2.hok ex _ hx).1
  obtain ⟨nm,q',N,bs,sn,sub,ab,col,dd,k0,k1,k2,k3,k5,lk⟩:=ec.lk
  have kin:=I2.kIn
  obtain ⟨hh,g,d,tk,os⟩:=s2
  have hnone:H2 hh.objs.size=none:=I2.hok.fresh (Nat.le_refl _)
  have hne:hh.objs.size≠ex:=fun z=>by have:=Heap.lt_size g1;rw [← z] at this;exact absurd this (Nat.lt_irrefl _)
  refine store_attr (tl_v (HE:=HE)) (kin _ _ lk) (by rw [refuseLoop_ref];exact PySem.F.store_ValueError.passes _) (PySem.W.looks_findIn kin ec.sa) (PySem.W.looks_findIn kin ec.ce) g1 rfl (fun c z=>by cases z) rfl fun h' tk' hk he hn=>?_
  refine ⟨σ,_,I2.un (h':=h') (t':=tk') (cell_un (C:=C) (y:=y) hx (Heap.get?_none_of_le (Nat.le_refl _)) hnone hk ⟨_,he⟩) ?_,q2 _ hnone hne⟩
  intro a oa hoa
  by_cases z1:a=hh.objs.size
  · subst z1
    rw [upd_same] at hoa
    cases hoa
    refine ⟨_,hn,fun f=>?_⟩
    by_cases zf:f="cell"
    · subst zf
      rw [if_pos rfl]
      exact ry
    · rw [if_neg zf]
      have:List.lookup f [(Str.ofString "cell",y)]=none:=by
        rw [List.lookup_cons]
        have:(f==Str.ofString "cell")=false:=by simpa using zf
        rw [this];rfl
      rw [this];exact True.intro
  · rw [upd_ne z1] at hoa
    by_cases z2:a=ex
    · subst z2
      rw [upd_same] at hoa
      cases hoa
      exact ⟨⟨vsE,he,g2,g4⟩,⟨_,he⟩,full_stays⟩
    · rw [upd_ne z2] at hoa
      refine (I2.hok a oa hoa).stay (fun b u hb hu=>hk b u (fun z=>?_) hu) (fun b hb=>?_) fun b xs hb=>?_
      · rcases hb with hb | hb
        · exact z2 (hb▸z)
        · rw [z,hx] at hb;cases hb
      · rw [upd_ne (fun z=>by rw [z,hnone] at hb;cases hb),upd_ne (fun z=>by rw [z,hx] at hb;cases hb)];exact hb
      · rw [upd_ne (fun z=>by rw [z,hnone] at hb;cases hb),upd_ne (fun z=>by rw [z,hx] at hb;cases hb)];exact hb
theorem forget {pins:List (Addr×Obj)} {σ:L2.St} {H:Hp} {s:Shared} {e:Addr} {φ:Heap→Prop} (I:Inv X pins σ H s) (hx:H e=some (.ext φ)) (hn:X.s₀.heap.get? e=none):Inv X pins σ (fun b=>if b=e then none else H b) s:=by
  have ne:∀ {b:Addr} {o:HO},H b=some o→o≠.ext φ→b≠e:=fun {b o} h1 h2 z=>by rw [z,hx] at h1;exact h2 (Option.some.inj h1).symm
  have kp:∀ {b:Addr},b≠e→(fun b=>if b=e then none else H b) b=H b:=fun {b} z=>if_neg z
  have nn:∀ {b:Addr},H b=none→(fun b=>if b=e then none else H b) b=none:=fun {b} z=>by
    show (if b=e then none else H b)=none
    split
    · rfl
    · exact z
  refine ⟨I.ok,I.os,I.bare,⟨I.base.keep,I.base.slot,fun b o q n hxx=>nn (I.base.free b o q n hxx),I.base.there,fun b xs q=>?_,fun b o u q=>?_,fun b ps q=>?_⟩,I.loc,I.cell,nn I.free,fun x c hc=>nn (I.freeC x c hc),fun p hp=>?_,fun a oa ha=>?_,I.len⟩
  · have:=I.base.tups b xs q;exact (kp (ne this (by intro z;cases z))).trans this
  · have:=I.base.frzs b o u q;exact (kp (ne this (by intro z;cases z))).trans this
  · obtain ⟨more,h2⟩:=I.base.tbls b ps q;exact ⟨more,(kp (ne h2 (by intro z;cases z))).trans h2⟩
  · obtain ⟨a1,a2,a3⟩:=I.pin p hp;exact ⟨a1,nn a2,a3⟩
  · have hae:a≠e:=fun z=>by
      have:(if a=e then none else H a)=some oa:=ha
      rw [if_pos z] at this;cases this
    have ha':H a=some oa:=(kp hae).symm.trans ha
    exact (I.hok a oa ha').stay (fun b u _ hu=>hu) (fun b hb=>(kp (ne hb (by intro z;cases z))).trans hb) fun b xs hb=>(kp (ne hb (by intro z;cases z))).trans hb
end
end Xc
namespace Xc
open PySem PySem.Spec
section
variable {M:Model} {A:Around} {E:Value→Shared→Prop} {env:Env}
variable {nm q:Str} {C N:Addr} {bs bm:List Value} {sn:List Str} {sub:List Value} {ab:Bool} {col:Option Bool} {dd:Option Addr} {k0 k1 k2 k3 k5:Option Value}
theorem raise_made {s:Shared} {x:Sem Value} {Q:Flow→Shared→Prop} (Z:Tl bm) (hh:A.handled=none)
    (h:wpAny M A x (fun v s₁=>∃ e dx vs,v=.ref e∧s₁.heap.get? C=some (clsO nm q C N bs bm sn sub ab col dd k0 k1 k2 k3 k5)∧
      s₁.heap.get? e=some { cls:=.ref C,dict:=dx,data:=.fields vs }∧vs[1]?=some .none∧E (.ref e) s₁) E s) :
    wpAny M A (raiseStmt env (some x) none) Q E s:=by
  have hcB:(Value.ref C::bm).contains (.type "BaseException")=true:=by rw [List.contains_cons,Z.b,Bool.or_true]
  unfold raiseStmt
  refine wpAny_bind (wpAny_mono h (fun v s₁ h₁=>?_) fun _ _ x=>x)
  obtain ⟨e,dx,vs,rfl,hC,he,hv,hE⟩:=h₁
  obtain ⟨hp,g,d,tk,os⟩:=s₁
  repeat (first | with_reducible refine wpAny_loadPart_at he ?_ | with_reducible refine wpAny_loadPart_at hC ?_ | (with_reducible refine wpAny_isSubtype_exc hC ?_;rw [hcB]) | (with_reducible refine wpAny_field he rfl hv ?_) | wp_step)
  exact wpAny_raiseNew_none hh hE
end
end Xc
namespace Xc
open PySem PySem.Spec PyProof.Rows L2
def spI (K:PySem.W.Frag) (HE fI:Addr):Sp:=fun vs H Q _=>∃ e C wd cv,vs=[.ref e,wd,cv]∧EC K C HE fI∧H e=some (.ext (Raw e C))∧∀ dx,H dx=none→dx≠e→Q .non (upd (upd H e (.ext (Full e C dx))) dx (.xd [("cell",cv)]))
def clsB:Stmt→List Stmt
  | .ClassDef _ _ _ b _ _ _ _ _ _ _=>b
  | _=>[]
section
variable {X:Cx} {k:Nat} {pos cpos p:Pos} {c:Str} {a:Expr} {es:List Expr} {ta:TA} {dvs:List V} {ds:List Value} {fd:FuncData} {HE C fI:Addr}
def Wants (X:Cx) (σ:L2.St) (C:Addr) (R:Addr→Hp→Prop):Prop:=∀ (pins:List (Addr×Obj)) (H:Hp) (s:Shared) (e dx:Addr),Inv X pins σ H s→X.s₀.heap.objs.size≤e→H e=none→Rec X.s₀.heap s.heap H e C dx→R dx H→X.xe (.ref e) s
def tRaise (X:Cx) (C:Addr) (dvs:List V) (ta:TA):TS:=fun _ σ H=>ta σ H fun vs H1=>∃ wd cv,vs++dvs=[wd,cv]∧Wants X σ C fun dx H2=>H1 dx=none∧H2=upd H1 dx (.xd [("cell",cv)])
theorem new_e {pins:List (Addr×Obj)} {σ:L2.St} {H:Hp} {s:Shared} (I:Inv X pins σ H s) {e:Addr} (h:s.heap.objs.size≤e):X.s₀.heap.get? e=none:=Heap.get?_none_of_le (Nat.le_trans I.sz h)
theorem ps_raise (ec:EC X.K C HE fI) (F:FnOk X.prog X.w X.K X.mg X.base CX0 k fI fd [Str.ofString "self",Str.ofString "words",Str.ofString "cell"] (spI X.K HE fI)) (hr:Room (k+1) X.A) (hg:Gl X c) (hm:X.mg c=some (.ref C)) (hb:Binds X.K fd [Str.ofString "self",Str.ofString "words",Str.ofString "cell"] ds) (hd:Vals dvs ds)
    (ha:PA X (a::es) ta) (hdb:(c==("__debug__":Str))=false:=by decide) (he:starEach (a::es) X.env=(false,eval a X.env)::starEach es X.env:=by rfl) (hpl:(backTo cpos (starEach es X.env)).any (·.1)=false:=by rfl) :
    PS X (.Raise (some (.Call (.Name c p) (a::es) [] cpos)) none pos) (tRaise X C dvs ta):=by
  intro pins s σ H D I h
  obtain ⟨nm,q,N,bs,sn,sub,ab,col,dd,k0,k1,k2,k3,k5,lk⟩:=ec.lk
  obtain ⟨oI,lkI,fc⟩:=ec.fn
  rw [arm_exec_Raise]
  refine wpAny_bind (wpAny_standAt (raise_made (C:=C) (nm:=nm) (q:=q) (N:=N) (bs:=bs) (bm:=.ref HE::bmV) (sn:=sn) (sub:=sub) (ab:=ab) (col:=col) (dd:=dd) (k0:=k0) (k1:=k1) (k2:=k2) (k3:=k3) (k5:=k5) tl_v hr.hd ?_))
  refine wpAny_bind (wpAny_mono (Q:=fun v s₁=>∃ e dx vs,v=.ref e∧s₁.heap.get? C=some (clsO nm q C N bs (.ref HE::bmV) sn sub ab col dd k0 k1 k2 k3 k5)∧s₁.heap.get? e=some { cls:=.ref C,dict:=dx,data:=.fields vs }∧vs[1]?=some .none∧X.xe (.ref e) s₁) ?_ (fun v s₁ hv=>wpAny_bind (wpAny_standAt (wpAny_pure hv))) fun _ _ x=>x)
  refine wpAny_Call_Name_kw (ld_glob I hg hm ?_ hdb)
  refine PySem.W.callWith_K (h₀:=X.base) I.ok.mod.kin ec.kp (thn (ha cpos pins s σ H _ I h) fun us s1 ⟨vs,H1,I1,r,wd,cv,ev,W⟩=>⟨I1.kIn,?_⟩) he hpl
  have kin:=I1.kIn
  have e0:=I1.env0
  have hl0:vs.length≤2:=by have:=congrArg List.length ev;simp at this;omega
  have hus:us.length≤sizeLine:=by rw [← r.length,sizeLine_eq];omega
  obtain ⟨hh,g,d,tk,os⟩:=s1
  refine exc_call (tl_v (HE:=HE)) (kin _ _ lk) (PySem.W.looks_findIn kin ec.ini) (kin _ _ lkI) fc (fun h' e hm' hz=>?_) hus
  obtain ⟨t0,hte,_,_⟩:=hm'.there
  have hHe:H1 e=none:=I1.hok.fresh hz
  have hne:=new_e I1 hz
  have I2:Inv X pins σ (upd H1 e (.ext (Raw e C))) ⟨h',g,d,tk,os⟩:=I1.laid (a:=e) (o:=.ext (Raw e C)) (t':=tk) hm'.keeps hz ⟨⟨_,t0,hte,rfl,rfl,rfl⟩,⟨_,hte⟩,raw_stays⟩
  have r2:Vals (V.ref e::(vs++dvs)) (Value.ref e::(us++ds)):=.cons rfl (r.append hd)
  have hsp:spI X.K HE fI (.ref e::(vs++dvs)) (upd H1 e (.ext (Raw e C))) (fun v H2=>v=.non∧∃ dx,H1 dx=none∧dx≠e∧H2=upd (upd (upd H1 e (.ext (Raw e C))) e (.ext (Full e C dx))) dx (.xd [("cell",cv)])) E0:=by
    refine ⟨e,C,wd,cv,by rw [ev],ec,upd_same,fun dx h1 h2=>⟨rfl,dx,?_,h2,rfl⟩⟩
    rwa [upd_ne h2] at h1
  have hl:(Value.ref e::us++ds).length=[Str.ofString "self",Str.ofString "words",Str.ofString "cell"].length:=by
    have e1:=r2.length
    rw [F.len _ _ _ _ hsp] at e1
    exact e1.symm
  refine wpAny_call (codeAny_mono (F.run _ X.stack _ _ ⟨Value.ref e::us,[]⟩ (Value.ref e::(us++ds)) _ _ E0 (hr.make C us []) (I2.env0.make C us []) (hb _ (Value.ref e::us) I2.kIn hl) r2 hsp) fun r s' hq'=>?_)
  cases r with
  | error x=>exact False.elim hq'
  | ok fl=>
    cases fl with
    | ret u=>
      obtain ⟨v,H',I3,rv,ev',dx,d1,d2,rfl⟩:=I2.after hq'
      subst ev'
      have hF:Full e C dx s'.heap:=(show ObjOk X.prog X.w _ s'.heap e (.ext (Full e C dx)) from I3.hok e _ (by rw [upd_ne d2.symm,upd_same])).1
      obtain ⟨vs',f1,f2,f3⟩:=hF
      have I4:=forget I3 (e:=e) (φ:=Full e C dx) (by rw [upd_ne d2.symm,upd_same]) hne
      have hH:(fun b=>if b=e then none else upd (upd (upd H1 e (.ext (Raw e C))) e (.ext (Full e C dx))) dx (.xd [("cell",cv)]) b)=upd H1 dx (.xd [("cell",cv)]):=by
        funext b
        by_cases z:b=e
        · subst z;rw [if_pos rfl,upd_ne d2.symm,hHe]
        · rw [if_neg z]
          by_cases z2:b=dx
          · subst z2;rw [upd_same,upd_same]
          · rw [upd_ne z2,upd_ne z2,upd_ne z,upd_ne z]
      rw [hH] at I4
      refine ⟨rv,e,some dx,vs',rfl,I3.kIn _ _ lk,f1,f3,W pins _ s' e dx I4 (Nat.le_trans I1.sz hz) (by rw [upd_ne d2.symm,hHe]) ⟨_,vs',f1,rfl,rfl,rfl,by omega,.inl f3⟩ ⟨d1,rfl⟩⟩
    | next=>exact False.elim hq'
    | brk=>exact False.elim hq'
    | cont=>exact False.elim hq'
end
end Xc
namespace Xc
open PySem PySem.Spec PyProof.Rows L2
def CXM (P:Program) (w:World):CXT:=fun outer H s E ev s'=>∃ e C dx,ev=.ref e∧s.heap.objs.size≤e∧CE outer P w H s (fun _ H'=>H' e=none∧Rec s.heap s'.heap H' e C dx∧E (.ref C) (some dx) H') .none s'
theorem Rec.mono {s0 s1 h:Heap} {H:Hp} {e C dx:Addr} (r:Rec s0 h H e C dx) (k:s1.objs.size≤s0.objs.size):Rec s1 h H e C dx:=by
  obtain ⟨oe,vs,a,b,c,d,e',f⟩:=r
  refine ⟨oe,vs,a,b,c,d,e',f.imp id ?_⟩
  rintro ⟨T,oT,ts,t1,t2,t3,t4⟩
  exact ⟨T,oT,ts,t1,t2,Nat.le_trans k t3,t4⟩
section
variable {X:Cx} {pins:List (Addr×Obj)} {σ:L2.St} {H:Hp} {s:Shared}
theorem run_fnX {k:Nat} {f:Addr} {fd:FuncData} {ps:List Str} {sp:Sp} {dvs:List V} {ds:List Value} {E:XK} {Q:VK} {us:List Value} {vs:List V} (F:FnOk X.prog X.w X.K X.mg X.base (CXM X.prog X.w) k f fd ps sp) (hr:Room k X.A) (hb:Binds X.K fd ps ds) (hd:Vals dvs ds)
    (I:Inv X pins σ H s) (r:Vals vs us) (h:sp (vs++dvs) H Q E) (hx:∀ C,Wants X σ C fun dx H'=>E (.ref C) (some dx) H'):wpAny (model X.prog X.w) X.A (call (.ref f) us) (EP X pins σ Q) X.xe s:=by
  have r2:Vals (vs++dvs) (us++ds):=r.append hd
  have hl:(us++ds).length=ps.length:=by rw [← r2.length];exact F.len _ _ _ _ h
  refine wpAny_call (codeAny_mono (F.run X.A X.stack s H ⟨us,[]⟩ (us++ds) (vs++dvs) Q E hr I.env0 (hb s us I.kIn hl) r2 h) fun r s' hq=>?_)
  cases r with
  | error e=>
    obtain ⟨e,C,dx,rfl,hn,hc⟩:=(show CXM X.prog X.w X.stack H s E _ s' from hq)
    obtain ⟨v,H',I',_,h1,h2,h3⟩:=I.after hc
    exact hx C pins H' s' e dx I' (Nat.le_trans I.sz hn) h1 (h2.mono I.sz) h3
  | ok fl=>
    cases fl with
    | ret u=>exact I.after hq
    | next=>exact False.elim hq
    | brk=>exact False.elim hq
    | cont=>exact False.elim hq
end
theorem un_leave {fs:List Addr} {H0 H:Hp} {h0 h h':Heap} {e L:Addr} {T':Option Addr} (u:Un fs [] H0 H h0 h) (he':h0.objs.size≤e) (hL':h0.objs.size≤L) (hT':∀ T,T'=some T→h0.objs.size≤T)
    (k1:∀ b o,b∉L::fs→b≠e→T'≠some b→h.get? b=some o→h'.get? b=some o) (k2:∀ b o,b∈L::fs→h.get? b=some o→∃ sl,h'.get? b=some { o with slots:=sl }):Un fs [] H0 H h0 h':=by
  have he:=Heap.get?_none_of_le he'
  have hL:=Heap.get?_none_of_le hL'
  have hT:∀ T,T'=some T→h0.get? T=none:=fun T z=>Heap.get?_none_of_le (hT' T z)
  have ne:∀ {b:Addr} {o:Obj},h0.get? b=some o→b≠L∧b≠e∧T'≠some b:=fun {b o} q=>⟨fun z=>(by rw [z,hL] at q;cases q),fun z=>(by rw [z,he] at q;cases q),fun z=>(by rw [hT b z] at q;cases q)⟩
  refine ⟨fun b o q n hf hx=>?_,fun b o q n hf hx=>?_,u.free,fun b o q hx=>?_,u.tups,u.frzs,u.tbls⟩
  · obtain ⟨a1,a2,a3⟩:=ne q
    exact k1 b o (fun z=>by rcases List.mem_cons.mp z with z | z;(· exact a1 z);exact hf z) a2 a3 (u.keep b o q n hf hx)
  · obtain ⟨sl,e1⟩:=u.slot b o q n hf hx
    obtain ⟨sl',e2⟩:=k2 b _ (List.mem_cons_of_mem _ hf) e1
    exact ⟨sl',e2⟩
  · obtain ⟨o',e1⟩:=u.there b o q hx
    obtain ⟨a1,a2,a3⟩:=ne q
    by_cases z:b∈L::fs
    · obtain ⟨sl,e2⟩:=k2 b o' z e1;exact ⟨_,e2⟩
    · exact ⟨o',k1 b o' z a2 a3 e1⟩
theorem hok_leave {P:Program} {w:World} {H:Hp} {h h':Heap} (hok:HOk P w H h) (k:∀ b o,(∃ u,H b=some u)→h.get? b=some o→h'.get? b=some o):HOk P w H h':=fun a oa ha=>
  (hok a oa ha).stay (fun b u hb hu=>k b u (by rcases hb with hb | hb;(· exact ⟨_,hb▸ha⟩);exact ⟨_,hb⟩) hu) (fun _ z=>z) fun _ _ z=>z
theorem leave_wants {P:Program} {w:World} {K:PySem.W.Frag} {mg:Str→Option Value} {base:Heap} {N:List Str} {qual:Str} {scope:Scope} {f:Addr} {cd:Value} {A:Around} {outer:List Env} {s:Shared} {H:Hp} {E:XK} (σ:L2.St) (C:Addr) :
    Wants (cxOf (CXM P w) P w K mg base N qual scope f cd A outer s H E) σ C fun dx H'=>E (.ref C) (some dx) H':=by
  intro pins H1 s1 e dx I hn h1 hr hE
  have hstk:s1.heap.FunFrames base (envOfC qual scope s.heap.objs.size f cd::outer):=I.stack
  have hfr:(A.deeper (envOfC qual scope s.heap.objs.size f cd)).frames=some (envOfC qual scope s.heap.objs.size f cd::outer):=I.ok.frames
  show wpAny (model P w) (A.deeper (envOfC qual scope s.heap.objs.size f cd)) (leaving (envOfC qual scope s.heap.objs.size f cd) (.ref e)) _ _ s1
  refine leavingS (s0h:=s.heap) (H:=H1) hfr hstk (L:=s.heap.objs.size) rfl hr I.sz (fun b hb=>I.hok.fresh hb) fun h' T' hT k1 k2 hr'=>?_
  have hstf:∀ b∈frs (envOfC qual scope s.heap.objs.size f cd::outer),H1 b=none:=I.stkFree
  refine ⟨e,C,dx,rfl,hn,.non,H1,I.os,I.bare,un_leave (L:=s.heap.objs.size) (T':=T') (e:=e) I.base hn (Nat.le_refl _) (fun T z=>(hT T z).1) k1 k2,hok_leave I.hok fun b o ⟨u,hu⟩ hb=>k1 b o (fun z=>by rw [hstf b z] at hu;cases hu) (fun z=>by rw [z,h1] at hu;cases hu) (fun z=>by rw [(hT b z).2] at hu;cases hu) hb,rfl,h1,hr',hE⟩
end Xc
namespace Xc
open PySem
open Sem (wp)
open PySem.W (Looks Frag InstAt)
section
variable {prog:Program} {w:World} {A:Around} {E:Value→Shared→Prop} {h:Heap} {g:Array GenState} {d:Drawn} {t:Nat} {os:OsState} {a:Addr} {o:Obj}
  {nm q:Str} {C N:Addr} {bs bm:List Value} {sn:List Str} {sub:List Value} {ab:Bool} {col:Option Bool} {dd:Option Addr} {k0 k1 k2 k3 k5:Option Value} {K:Frag} {od:Obj}
structure EA (K:Frag) (C:Addr):Prop where
  ga:PySem.W.findIn K (.ref C) "__getattribute__"=some (some (.builtin "BaseException.__getattribute__"))
  gt:PySem.W.findIn K (.ref C) "__getattr__"=some none
  cl:PySem.W.findIn K (.ref C) "__class__"=some (some (.builtin "object.__class__"))
  mo:PySem.W.mroIn K C (.type "object")=some true
theorem check_ga {M:Model} {nameV:Value} {Q:Unit→Shared→Prop} (Z:Tl bm) (hC:h.get? C=some (clsO nm q C N bs bm sn sub ab col dd k0 k1 k2 k3 k5))
    (hx:h.get? a=some o) (hc:o.cls=.ref C) (hq:Q () ⟨h,g,d,t,os⟩):wpAny M A (checkBuiltinCall "BaseException.__getattribute__" ⟨[.ref a,nameV],[]⟩) Q E ⟨h,g,d,t,os⟩:=by
  have hk:builtinKind "BaseException.__getattribute__"=some .slot:=by decide +kernel
  have hsplit:splitId "BaseException.__getattribute__"=some ("BaseException","__getattribute__"):=by decide +kernel
  have hcB:(Value.ref C::bm).contains (.type "BaseException")=true:=by rw [List.contains_cons,Z.b,Bool.or_true]
  have ha:=F.args_bexc_ga (.ref a) nameV
  simp only [checkBuiltinCall,hk,hsplit]
  refine wpAny_bind ?_
  · unfold isInstance
    repeat (first | (with_reducible refine wpAny_loadPart_at hx ?_;rw [hc]) | (with_reducible refine wpAny_isSubtype_exc hC ?_;rw [hcB]) | wp_step)
    exact hq
theorem class_entry {tk:Tok} {Q:Fin→Shared→Prop} (X:K.In h) (ea:EA K C) (I:InstAt h a o C (some od)) (hq:Q (.done (.ret (.ref C))) ⟨h,g,d,t,os⟩) :
    wpAny (model prog w) A (Builtin.«object.__getattribute__» ⟨[.ref a,.str "__class__" tk],[]⟩) Q E ⟨h,g,d,t,os⟩:=by
  have hT5:(⟨h,g,d,t,os⟩:Shared).TypeIs (.builtin "object.__class__") "getset_descriptor":=F.typeOf_object_class
  have f5:=F.typeOf_object_class
  have f6:=F.slot_gs_get.lookup
  have f7:=F.slot_gs_set.lookup
  have hx:=I.at_
  have hc:=I.cls
  have L:=PySem.W.looks_findIn (M:=model prog w) X ea.cl
  repeat (any_goals (first | assumption | (with_reducible refine wpAny_loadPart_at hx ?_;rw [hc]) | with_reducible refine L.at ?_ | wp_step))
  exact PySem.W.class_get (s:=⟨h,g,d,t,os⟩) X I ea.mo (wpAny_pure hq)
theorem class_attr {Q:Option Value→Shared→Prop} (Z:Tl bm) (hC:h.get? C=some (clsO nm q C N bs bm sn sub ab col dd k0 k1 k2 k3 k5)) (X:K.In h) (ea:EA K C) (I:InstAt h a o C (some od)) (hq:Q (some (.ref C)) ⟨h,g,d,t+1,os⟩) :
    wpAny (model prog w) A (getAttr? (.ref a) "__class__") Q E ⟨h,g,d,t,os⟩:=by
  have FB:=PySem.F.excAttr_ValueError
  have f3:=FB.ga.bind (.ref a)
  have hx:=I.at_
  have hc:=I.cls
  have hx2:(Value.builtin "BaseException.__getattribute__"==Value.builtin "object.__getattribute__")=false:=by decide +kernel
  have hx1:(onTheHeap (Value.ref C)&&Value.builtin "BaseException.__getattribute__"==Value.builtin "object.__getattribute__")=false:=by rw [hx2];rfl
  have L1:=PySem.W.looks_findIn (M:=model prog w) X ea.ga
  have L2:=PySem.W.looks_findIn (M:=model prog w) X ea.gt
  unfold getAttr? getAttrBy?
  repeat (any_goals (first | assumption | (with_reducible refine wpAny_loadPart_at hx ?_;rw [hc]) | with_reducible refine L1.at ?_ | with_reducible refine L2.at ?_ | with_reducible refine wpAny_attempt ?_ | wp_step))
  refine codeAny_call_builtin FB.ga.plain F.entry_bexc_ga (check_ga Z hC hx hc (class_entry X ea I ?_))
  repeat (any_goals (first | assumption | wp_step))
end
end Xc
namespace Xc
open PySem PySem.Spec PyProof.Rows L2
open PySem.W (Looks Frag KitX)
section
variable {K:Frag} {x C:Addr}
theorem kitx_exc {nm q:Str} {N:Addr} {bs bm:List Value} {sn:List Str} {sub:List Value} {ab:Bool} {col:Option Bool} {dd:Option Addr} {k0 k1 k2 k3 k5:Option Value} (Z:Tl bm) (lk:K.lookup C=some (clsO nm q C N bs bm sn sub ab col dd k0 k1 k2 k3 k5)) (ea:EA K C) :
    KitX K (.ref x) (.ref C) (fun h=>∃ ox od,PySem.W.InstAt h x ox C (some od)) where
  ty:=fun _ _ _ ⟨_,_,I⟩=>I.type
  it:=fun _ _ X _=>by
    intro A' Q' E' s' k q
    unfold isType loadHead
    exact wpAny_bind (wpAny_loadPart (k _ _ (X _ _ lk)) (wpAny_pure q))
  ne:=fun h tp dd its n sl X htp=>by
    refine Bool.eq_false_iff.mpr fun q=>?_
    have e:C=tp:=Value.ref.inj (beq_iff_eq.mp q)
    subst e
    have z:=congrArg (fun o:Option Obj=>o.map (·.data)) ((X _ _ lk).symm.trans htp)
    cases z
  ca:=fun {prog w A E Q s} X ⟨ox,od,I⟩ k=>by
    obtain ⟨hh,g,d,t,os⟩:=s
    exact class_attr Z (X _ _ lk) X ea I k
end
def Held (e C dx:Addr):Heap→Prop:=fun h=>∃ oe,h.get? e=some oe∧oe.cls=.ref C∧oe.dict=some dx∧PySem.W.notCls oe=true
theorem held_stays {e C dx:Addr}:∀ h1 h2:Heap,Held e C dx h1→(∀ o,h1.get? e=some o→h2.get? e=some o)→Held e C dx h2:=fun h1 h2 ⟨oe,a,b⟩ k=>⟨oe,k _ a,b⟩
def ExAt (H:Hp) (v:V) (C:Addr):Prop:=∃ e dx fs,v=.ref e∧H e=some (.ext (Held e C dx))∧H dx=some (.xd fs)
section
variable {X:Cx} {pos p p2 p3:Pos} {l:Expr} {ta:TE} {D:Addr}
theorem call_isX:CallR X (.builtin "isinstance") (fun xs H Q=>∃ x cv u C b,xs=[x,cv]∧RelV cv u∧(∀ u',RelV cv u'→u'=u)∧ExAt H x C∧(∃ nm q N bs bm sn sub ab col dd k0 k1 k2 k3 k5,Tl bm∧X.K.lookup C=some (clsO nm q C N bs bm sn sub ab col dd k0 k1 k2 k3 k5))∧EA X.K C∧PySem.W.kitOne X.K (.ref C) u=some b∧Q (.bl b) H):=by
  intro pins s σ H xs us Q I r h
  obtain ⟨x,cv,u,C,b,rfl,_,hu,⟨e,dx,fs,rfl,h1,h2⟩,⟨nm,q,N,bs,bm,sn,sub,ab,col,dd,k0,k1,k2,k3,k5,Z,lk⟩,ea,hk,hq⟩:=h
  obtain ⟨u1,u2,rfl,rx,rt⟩:=r.two
  cases hu _ rt
  cases (show u1=Value.ref e from rx)
  obtain ⟨oe,a1,a2,a3,a4⟩:=(show ObjOk X.prog X.w H s.heap e (.ext (Held e C dx)) from I.hok e _ h1).1
  obtain ⟨mA,⟨oD,es,ep,o1,o2⟩,_⟩:=(show ObjOk X.prog X.w H s.heap dx (.xd fs) from I.hok dx _ h2)
  refine PySem.W.kia_one (kitx_exc Z lk ea) I.kIn ⟨oe,oD,a1,a2,a4,by rw [a3];exact o1⟩ hk (fun z=>nomatch z) fun tk=>⟨.bl b,H,I.tok tk,rfl,hq⟩
def OwnX (K:PySem.W.Frag) (C:Addr):Prop:=(∃ nm q N bs bm sn sub ab col dd k0 k1 k2 k3 k5,Tl bm∧K.lookup C=some (clsO nm q C N bs bm sn sub ab col dd k0 k1 k2 k3 k5))∧EA K C
def tIsX (K:PySem.W.Frag) (i:Nat) (u:Value):TE:=fun σ H Q=>∃ x C b,σ[i]?=some (some x)∧ExAt H x C∧OwnX K C∧PySem.W.kitOne K (.ref C) u=some b∧Q (.bl b) H
theorem pe_isX {c x:Str} {i:Nat} (hz:X.mg "isinstance"=none) (hm:X.mg c=some (.ref D)) (hN:X.N[i]?=some x:=by rfl) (hv:Vis X.env.scope x:=by first | exact Or.inl rfl | exact Or.inr (Or.inl rfl)) (hg:Gl X "isinstance":=by rfl) (hg2:Gl X c:=by rfl) (hdb:(c==("__debug__":Str))=false:=by decide) (hd1:(x==("__debug__":Str))=false:=by decide) (hd2:(x==("__classdict__":Str))=false:=by decide)
    (he:starEach [.Name x p3,.Name c p2] X.env=(false,eval (.Name x p3) X.env)::starEach [.Name c p2] X.env:=by rfl):PE X (.Call (.Name "isinstance" p) [.Name x p3,.Name c p2] [] pos) (tIsX X.K i (.ref D)):=fun pins s σ H Q I ⟨v,C,b,h1,h2,⟨h3,h4⟩,h5,h6⟩=>
  pe_callB call_isX hg hz PyProof.Rows.boot_isinstance (pa_cons (pe_var hN hv hd1 hd2) (pa_cons (pe_glob hg2 hm (v:=.ref D) rfl hdb) pa_nil rfl) he) (by decide) (by decide) he rfl pins s σ H Q I ⟨v,h1,v,.ref D,.ref D,C,b,rfl,rfl,fun _ z=>z,h2,h3,h4,h5,h6⟩
theorem pe_isV {x:Str} {i:Nat} (hz:X.mg "isinstance"=none) (hm:X.mg "ValueError"=none) (hN:X.N[i]?=some x:=by rfl) (hv:Vis X.env.scope x:=by first | exact Or.inl rfl | exact Or.inr (Or.inl rfl)) (hg:Gl X "isinstance":=by rfl) (hg2:Gl X "ValueError":=by rfl) (hd1:(x==("__debug__":Str))=false:=by decide) (hd2:(x==("__classdict__":Str))=false:=by decide)
    (he:starEach [.Name x p3,.Name "ValueError" p2] X.env=(false,eval (.Name x p3) X.env)::starEach [.Name "ValueError" p2] X.env:=by rfl):PE X (.Call (.Name "isinstance" p) [.Name x p3,.Name "ValueError" p2] [] pos) (tIsX X.K i (.type "ValueError")):=fun pins s σ H Q I ⟨v,C,b,h1,h2,⟨h3,h4⟩,h5,h6⟩=>
  pe_callB call_isX hg hz PyProof.Rows.boot_isinstance (pa_cons (pe_var hN hv hd1 hd2) (pa_cons (fun pins s σ H Q I h=>ld_blt I hg2 hm (u:=.type "ValueError") (by decide +kernel) ⟨.ty "ValueError",H,I,rfl,h⟩:PE X (.Name "ValueError" p2) (tC (.ty "ValueError"))) pa_nil rfl) he) (by decide) (by decide) he rfl pins s σ H Q I ⟨v,h1,v,.ty "ValueError",.type "ValueError",C,b,rfl,rfl,fun _ z=>z,h2,h3,h4,h5,h6⟩
end
end Xc
namespace Xc
open PySem PySem.Spec PyProof.Rows L2
theorem atA {X:Cx} {pins:List (Addr×Obj)} {σ:L2.St} {H:Hp} {s:Shared} (I:Inv X pins σ H s) (A':Around) (E':Value→Shared→Prop) (hf:A'.frames=X.A.frames):Inv { X with A:=A',calm:=false,xe:=E' } pins σ H s:=
  ⟨⟨I.ok.mod,I.ok.kind,I.ok.glob,I.ok.blt,I.ok.above,I.ok.inj,I.ok.has,I.ok.cab,fun z=>(by cases z),hf.trans I.ok.frames,I.ok.stk,I.ok.exf,I.ok.bs,I.ok.bsz,I.ok.noex,I.ok.exfs,I.ok.funs,I.ok.frf⟩,I.os,I.bare,I.base,I.loc,I.cell,I.free,I.freeC,I.pin,I.hok,I.len⟩
theorem ofA {X:Cx} {pins:List (Addr×Obj)} {σ:L2.St} {H:Hp} {s:Shared} {A':Around} {E':Value→Shared→Prop} (ok:X.Ok) (I:Inv { X with A:=A',calm:=false,xe:=E' } pins σ H s):Inv X pins σ H s:=
  ⟨ok,I.os,I.bare,I.base,I.loc,I.cell,I.free,I.freeC,I.pin,I.hok,I.len⟩
structure RoomH (k:Nat) (A:Around):Prop where
  dp:A.depth+3*k+5<recursionLimit
  un:A.units+16*k+200<cLine
abbrev cxH (P:Program) (w:World) (K:PySem.W.Frag) (mg:Str→Option Value) (base:Heap) (N:List Str) (qual:Str) (scope:Scope) (f:Addr) (cd:Value) (A:Around) (outer:List Env) (s:Shared) (H:Hp):Cx:=
  { cxOf CX0 P w K mg base N qual scope f cd { A with handled:=none } outer s H E0 with A:=A.deeper (envOfC qual scope s.heap.objs.size f cd),calm:=false,xe:=fun e s'=>wpAny (model P w) (A.deeper (envOfC qual scope s.heap.objs.size f cd)) (leaving (envOfC qual scope s.heap.objs.size f cd) e) (fun _ s''=>False) (fun e' s''=>False) s' }
structure FnH (P:Program) (w:World) (K:PySem.W.Frag) (mg:Str→Option Value) (base:Heap) (k:Nat) (f:Addr) (fd:FuncData) (ps:List Str) (sp:Sp):Prop where
  len:∀ vs H Q E,sp vs H Q E→vs.length=ps.length
  run:∀ (A:Around) (outer:List Env) (s:Shared) (H:Hp) (args:Args) (us:List Value) (vs:List V) (Q:VK),RoomH k A→Env0 P w K mg base A outer s H→BindsTo s fd args (ps.zip us)→Vals vs us→sp vs H Q E0→
    codeAny (model P w) A (.call (.ref f) args) (CR CX0 outer P w H s Q E0) s
theorem fn_ofH {P:Program} {w:World} {K:PySem.W.Frag} {mg:Str→Option Value} {base:Heap} {k:Nat} {f:Addr} {name qual:Str} {params:Arguments} {body:List Stmt} {scope:Scope} {dV kV doc pm cdv ct oc:Value} {an od:Option Addr}
    {osl:Array (Option Value)} {N ps:List Str} {sp:Sp} (lk:K.lookup f=some ⟨oc,od,.func (PySem.W.fnOf name qual params body scope dV kV doc pm an cdv ct),osl⟩) (hcd:PySem.W.codeIn K cdv qual=true) (S:FnScope N ps scope)
    (len:∀ vs H Q E,sp vs H Q E→vs.length=ps.length)
    (hbody:∀ (A:Around) (outer:List Env) (s:Shared) (H:Hp) (vs:List V) (Q:VK),sp vs H Q E0→
      ∃ t,PSs (cxH P w K mg base N qual scope f cdv A outer s H) body t∧t { nx:=fun _ H'=>Q .non H',rt:=Q } (start N vs) H) :
    FnH P w K mg base (k+1) f (PySem.W.fnOf name qual params body scope dV kV doc pm an cdv ct) ps sp:=by
  refine ⟨len,fun A outer s H args us vs Q hr e0 hb r hsp=>?_⟩
  have hl:=len _ _ _ _ hsp
  have KX:K.In s.heap:=e0.mod.kin.keeps fun b o e=>(e0.bs b o e).1
  have lim:s.heap.NoLimit:=e0.mod.nolimit.keeps fun b o e=>(e0.bs b o e).1
  have hkind:∀ y∈ps.zip us,scope.names.lookup y.1=some .local∨(scope.names.lookup y.1=some .cell∧((cellsFrom (s.heap.objs.size+1) scope.names []).lookup y.1).isSome=true):=fun ⟨n,v⟩ hy=>by
    rcases S.par n (List.of_mem_zip hy).1 with q | q
    · exact .inl q
    · exact .inr ⟨q,PySem.W.cellsFrom_some _ _ _ (.inl q)⟩
  refine codeAny_call_function (by have:=hr.dp;omega) (KX _ _ lk) rfl S.co S.gen rfl (PySem.W.codeRec_of KX hcd) (hb _ _ _ _ ?_)
  refine wpAny_newFunctionEnv_cells S.kind hkind fun env he s1 x=>?_
  subst he
  refine ⟨lim.keeps x.toInCall.keep,codeAny_func ?_⟩
  obtain ⟨t,ht,hq⟩:=hbody A outer s H vs Q hsp
  have e1:Env0 P w K mg base { A with handled:=none } outer s H:=⟨e0.frames,e0.mod,e0.bs,e0.bsz,e0.funs,e0.frf,e0.hok,e0.bare⟩
  have I0:Inv (cxOf CX0 P w K mg base N qual scope f cdv { A with handled:=none } outer s H E0) [] (start N vs) H s1:=inv_start S rfl e1 hl r x
  have I:Inv (cxH P w K mg base N qual scope f cdv A outer s H) [] (start N vs) H s1:=atA I0 _ _ rfl
  refine wpAny_mono (ht [] s1 (start N vs) H _ I hq) (fun fl s' hs=>?_) fun e s' hs=>hs
  have fin:∀ {σ':L2.St} {H':Hp} {v:V} {u:Value},Inv (cxH P w K mg base N qual scope f cdv A outer s H) [] σ' H' s'→RelV v u→Q v H'→CE outer P w H s Q u s':=
    fun {σ' H' v u} J rv q=>⟨v,H',J.os,J.bare,J.base,J.hok,rv,q⟩
  cases fl with
  | ret u=>
    obtain ⟨v,σ',H',J,rv,q⟩:=hs
    exact fin J rv q
  | next=>
    obtain ⟨σ',H',J,q⟩:=hs
    exact fin (v:=V.non) (u:=Value.none) J rfl q
  | brk=>
    obtain ⟨_,_,_,q⟩:=hs
    exact False.elim q
  | cont=>
    obtain ⟨_,_,_,q⟩:=hs
    exact False.elim q
theorem pe_callH {X:Cx} {k:Nat} {f:Addr} {fd:FuncData} {ps:List Str} {sp:Sp} {x:Str} {p pos:Pos} {e:Expr} {es:List Expr} {t:TA} (F:FnH X.prog X.w X.K X.mg X.base k f fd ps sp) (hr:RoomH k X.A) (hg:Gl X x) (hm:X.mg x=some (.ref f)) (hk:PySem.W.keepIn X.K (.ref f)=true) (hb:Binds X.K fd ps [])
    (ha:PA X (e::es) t) (hdb:(x==("__debug__":Str))=false:=by decide) (he:starEach (e::es) X.env=(false,eval e X.env)::starEach es X.env:=by rfl) (hpl:(backTo pos (starEach es X.env)).any (·.1)=false:=by rfl) :
    PE X (.Call (.Name x p) (e::es) [] pos) (tCall sp [] E0 t):=by
  intro pins s σ H Q I h
  refine wpAny_Call_Name_kw (ld_glob I hg hm ?_ hdb)
  refine PySem.W.callWith_K (h₀:=X.base) I.ok.mod.kin hk (thn (ha pos pins s σ H _ I h) fun us s1 ⟨vs,H1,I1,r,q⟩=>⟨I1.kIn,?_⟩) he hpl
  replace q:sp vs H1 Q E0:=by have q':sp (vs++[]) H1 Q E0:=q;rwa [List.append_nil] at q'
  have hl:us.length=ps.length:=by rw [← r.length];exact F.len _ _ _ _ q
  refine wpAny_call (codeAny_mono (F.run X.A X.stack s1 H1 ⟨us,[]⟩ us vs Q hr I1.env0 (by have:=hb s1 us I1.kIn (by rw [List.append_nil];exact hl);rwa [List.append_nil] at this) r q) fun r s' hq=>?_)
  cases r with
  | error e=>exact False.elim hq
  | ok fl=>
    cases fl with
    | ret u=>exact I1.after hq
    | next=>exact False.elim hq
    | brk=>exact False.elim hq
    | cont=>exact False.elim hq
end Xc
namespace Xc
open PySem PySem.Spec PyProof.Rows L2
structure TopX (X:Cx):Prop where
  pn:X.pn=[]
  stk:X.stack=X.env::X.outer
  fr:X.env.frame=some X.env.locals
section
variable {X:Cx} {σ:L2.St} {H:Hp} {s:Shared} {e C dx:Addr}
theorem fields_apart (I:Inv X [] σ H s) {o:Obj} {vs:Array Value} (ho:s.heap.get? e=some o) (hd:o.data=.fields vs):e≠X.env.locals∧∀ x c,X.env.cells.lookup x=some c→c≠e:=by
  constructor
  · intro z
    obtain ⟨m,⟨ol,es,ep,h1,h2,_⟩,_⟩:=I.loc
    rw [z,h1] at ho
    cases ho
    rw [h2] at hd;cases hd
  · intro x c hc z
    obtain ⟨v,hv⟩:=I.cell x c hc
    obtain ⟨oc,h1,h2⟩:=hv
    rw [z] at h1
    rw [h1] at ho
    cases ho
    rw [hd] at h2;cases h2
theorem Rec.apart (I:Inv X [] σ H s) (r:Rec X.s₀.heap s.heap H e C dx):e≠X.env.locals∧∀ x c,X.env.cells.lookup x=some c→c≠e:=by
  obtain ⟨oe,vs,he,_,_,hd,_⟩:=r
  exact fields_apart I he hd
theorem note_inv {M:Model} {E:Value→Shared→Prop} {Q:Unit→Shared→Prop} {A:Around} (T:TopX X) (hfr:A.frames=some X.stack) (I:Inv X [] σ H s) (hn:X.s₀.heap.objs.size≤e) (he:H e=none) (r:Rec X.s₀.heap s.heap H e C dx)
    (h:∀ s3,Inv X [] σ H s3→Rec X.s₀.heap s3.heap H e C dx→Q () s3):wpAny M A (noteFrame (.ref e) X.env) (fun _ s'=>wpAny M A (setFlight (.ref e) none) Q E s') E s:=by
  have hstk:=I.stack
  have hstf:=I.stkFree
  have hap:=r.apart I
  rw [T.stk] at hfr hstk hstf
  refine noteS (s0h:=X.s₀.heap) (H:=H) hfr hstk (L:=X.env.locals) T.fr r I.sz (fun b hb=>I.hok.fresh hb) fun h' T' hT k1 k2 hr' hT2=>h _ ?_ hr'
  refine I.call (ch:=e::T'.toList) (H':=H) (h':=h') ?_ (hok_leave I.hok fun b o ⟨u,hu⟩ hb=>k1 b o (fun z=>by rw [hstf b z] at hu;cases hu) (fun z=>by rw [z,he] at hu;cases hu) (fun z=>by rw [(hT b z).2.1] at hu;cases hu) hb) I.bare fun b hb=>?_
  · rw [T.stk]
    refine ⟨fun b o q n hf hx=>?_,fun b o q n hf hx=>k2 b o hf q,fun b o q n hx=>n,fun b o q hx=>?_,fun _ _ z=>z,fun _ _ _ z=>z,fun b ps z=>⟨#[],by rw [Array.append_empty];exact z⟩⟩
    · exact k1 b o hf (fun z=>hx (by simp [z])) (fun z=>hx (by simp [z])) q
    · by_cases hf:b∈frs (X.env::X.outer)
      · obtain ⟨sl,z⟩:=k2 b o hf q;exact ⟨_,z⟩
      · exact ⟨o,k1 b o hf (fun z=>hx (by simp [z])) (fun z=>hx (by simp [z])) q⟩
  · rcases List.mem_cons.mp hb with rfl | hb
    · exact ⟨.inr hn,hap.1,hap.2,fun p hp=>by rw [T.pn] at hp;cases hp⟩
    · obtain ⟨a1,a2,oT,ts,a3,a4⟩:=hT b (by simpa using hb)
      have hap:=fields_apart I a3 a4
      exact ⟨.inr a1,hap.1,hap.2,fun p hp=>by rw [T.pn] at hp;cases hp⟩
theorem flight_inv {M:Model} {E:Value→Shared→Prop} {Q:Unit→Shared→Prop} {A:Around} (T:TopX X) (I:Inv X [] σ H s) (hn:X.s₀.heap.objs.size≤e) (he:H e=none) (r:Rec X.s₀.heap s.heap H e C dx)
    (h:∀ s3,Inv X [] σ H s3→Rec X.s₀.heap s3.heap H e C dx→Q () s3):wpAny M A (setFlight (.ref e) none) Q E s:=by
  obtain ⟨oe,vs,a1,a2,a3,a4,a5,a6⟩:=id r
  rcases a6 with h1 | ⟨T',oT,ts,h1,hTe,hT0,hTH,hT,hdT,h3⟩
  · unfold setFlight
    refine wpAny_bind (wpAny_field a1 a4 h1 ?_)
    rw [if_neg (by decide)]
    exact wpAny_pure (h s I r)
  · have hz:3<ts.size:=(Array.getElem?_eq_some_iff.mp h3).1
    have hap:=fields_apart I hT hdT
    refine wpAny_setFlight_none a1 a4 h1 hT hdT hz (h _ (I.turned (t':=s.toks) (it:=T') (fun b o hb ho=>(Heap.get?_update_other _ _ (Ne.symm hb)).trans ho) hTH hap.1 (.inr hT0) hap.2 (fun p hp=>by rw [T.pn] at hp;cases hp)) ?_)
    refine ⟨oe,vs,(Heap.get?_update_other _ _ hTe).trans a1,a2,a3,a4,a5,.inr ⟨T',_,_,h1,hTe,hT0,hTH,Heap.get?_update_self _ hT (Obj.isFreed_of_fields (Obj.data_mapFields hdT _)),Obj.data_mapFields hdT _,by simp [hz]⟩⟩
theorem adopt {φ:Heap→Prop} (T:TopX X) (I:Inv X [] σ H s) (hn:X.s₀.heap.objs.size≤e) (he:H e=none) (hap:e≠X.env.locals∧∀ x c,X.env.cells.lookup x=some c→c≠e) (ho:∃ o,s.heap.get? e=some o) (hp:φ s.heap) (hs:∀ h1 h2:Heap,φ h1→(∀ o,h1.get? e=some o→h2.get? e=some o)→φ h2):Inv X [] σ (upd H e (.ext φ)) s:=by
  have hz:=Heap.get?_none_of_le hn
  have kp:∀ {b:Addr} {o:HO},H b=some o→upd H e (.ext φ) b=some o:=fun {b o} z=>by rw [upd_ne (fun y=>by rw [y,he] at z;cases z)];exact z
  refine ⟨I.ok,I.os,I.bare,⟨I.base.keep,I.base.slot,fun b o q n hx=>?_,I.base.there,fun b xs q=>kp (I.base.tups b xs q),fun b o u q=>kp (I.base.frzs b o u q),fun b ps q=>?_⟩,I.loc,I.cell,?_,fun x c hc=>?_,fun p hp=>?_,fun a oa ha=>?_,I.len⟩
  · rw [upd_ne (fun y=>by rw [y,hz] at q;cases q)];exact I.base.free b o q n hx
  · obtain ⟨more,h2⟩:=I.base.tbls b ps q;exact ⟨more,kp h2⟩
  · rw [upd_ne (Ne.symm hap.1)];exact I.free
  · rw [upd_ne (hap.2 x c hc)];exact I.freeC x c hc
  · rw [T.pn] at hp;cases hp
  · by_cases z:a=e
    · subst z
      rw [upd_same] at ha;cases ha
      exact ⟨hp,ho,hs⟩
    · rw [upd_ne z] at ha
      exact (I.hok a oa ha).stay (fun b u _ hu=>hu) (fun b hb=>kp hb) fun b xs hb=>kp hb
end
end Xc
namespace Xc
open PySem PySem.Spec PyProof.Rows L2
section
variable {X:Cx} {σ:L2.St} {H:Hp} {s:Shared} {e C dx:Addr}
theorem unbind_ok {M:Model} {A:Around} {E:Value→Shared→Prop} {Q:Unit→Shared→Prop} {i:Nat} {n:Str} {pos:Pos} (T:TopX X) (I:Inv X [] σ H s) (hN:X.N.Nodup) (hi:X.N[i]?=some n) (hl:X.env.scope.names.lookup n=some .local)
    (h:∀ s',Inv X [] (σ.set i none) H s'→Q () s'):wpAny M A (do bindName X.env n .none;unbindBehindTheSuite X.env n pos) Q E s:=by
  refine wpAny_bind (wpAny_bindName (store_ok I hN hi (.inl hl) (v:=.non) rfl (fun s1 I1=>?_) (.inr hl)))
  have hcls:(X.env.scope.kind==.class||(X.env.scope.kind==.module&&X.env.locals != X.env.globals))=false:=by rw [I1.ok.kind];rfl
  obtain ⟨m,hn,hlo⟩:=id I1.loc
  have hiσ:i < σ.length:=by rw [I.len];exact (List.getElem?_eq_some_iff.mp hi).1
  have hk:X.env.kindOf n=some .local:=hl
  obtain ⟨u,hu,hlk⟩:=hlo i n .non hi (by rw [List.getElem?_set_self hiσ]) (.inl hl)
  have hmn:m n=some u:=by
    rcases hlk with ⟨_,z⟩ | ⟨z,_⟩
    · exact z
    · rw [hk] at z;rcases z with z | z<;>cases z
  unfold unbindBehindTheSuite
  refine wpAny_onRaise (wpAny_unbindName_local hk hn hmn hcls fun h' u' hn' hs=>h _ ?_)
  have ne:∀ {b:Addr},b≠X.env.locals→h'.get? b=s1.heap.get? b:=fun {b} z=>hs.2 b z
  have oldne:∀ {b:Addr} {o:Obj},X.s₀.heap.get? b=some o→b≠X.env.locals:=fun {b o} q z=>by
    have h1:=Heap.lt_size q
    have h2:=I.ok.above
    rw [z] at h1;exact absurd h1 (Nat.not_lt.mpr h2)
  refine ⟨I1.ok,I1.os,I1.bare,⟨fun b o q n' hf hx=>(ne (oldne q)).trans (I1.base.keep b o q n' hf hx),fun b o q n' hf hx=>?_,I1.base.free,fun b o q hx=>?_,I1.base.tups,I1.base.frzs,I1.base.tbls⟩,⟨_,hn',fun j x v e1 e2 e3=>?_⟩,fun x c hc=>?_,I1.free,I1.freeC,fun p hp=>?_,hok_leave I1.hok fun b o ⟨w',hw⟩ hb=>(ne (fun z=>by rw [z,I1.free] at hw;cases hw)).trans hb,by rw [List.length_set];exact I.len⟩
  · obtain ⟨sl,z⟩:=I1.base.slot b o q n' hf hx;exact ⟨sl,(ne (oldne q)).trans z⟩
  · obtain ⟨o',z⟩:=I1.base.there b o q hx;exact ⟨o',(ne (oldne q)).trans z⟩
  · have hji:j≠i:=fun z=>by subst z;rw [List.getElem?_set_self hiσ] at e2;cases e2
    rw [List.getElem?_set_ne (Ne.symm hji)] at e2
    obtain ⟨u2,r2,l2⟩:=hlo j x v e1 (by rw [List.getElem?_set_ne (Ne.symm hji)];exact e2) e3
    refine ⟨u2,r2,?_⟩
    rcases l2 with ⟨z1,z2⟩ | ⟨z1,c,z2,oc,z3,z4⟩
    · refine .inl ⟨z1,?_⟩
      show (if x=n then u' else m x)=some u2
      rw [if_neg]
      · exact z2
      · intro z
        subst z
        have a1:=List.getElem?_eq_some_iff.mp e1
        have a2:=List.getElem?_eq_some_iff.mp hi
        rcases Nat.lt_or_gt_of_ne hji with y | y
        · exact List.pairwise_iff_getElem.mp hN j i a1.1 a2.1 y (a1.2.trans a2.2.symm)
        · exact List.pairwise_iff_getElem.mp hN i j a2.1 a1.1 y (a2.2.trans a1.2.symm)
    · exact .inr ⟨z1,c,z2,oc,(ne (I1.cne x c z2)).trans z3,z4⟩
  · obtain ⟨v,oc,z1,z2⟩:=I1.cell x c hc
    exact ⟨v,oc,(ne (I1.cne x c hc)).trans z1,z2⟩
  · rw [T.pn] at hp;cases hp
end
theorem tl_b:Tl bmV:=⟨by decide,by decide,by decide,by decide,by decide⟩
section
open Sem (wp)
variable {M:Model} {A:Around} {E:Value→Shared→Prop}
variable {nm q nm2 q2:Str} {C N HE N2:Addr} {bs bm bs2 bm2:List Value} {sn sn2:List Str} {sub sub2:List Value} {ab ab2:Bool} {col col2:Option Bool} {dd dd2:Option Addr} {k0 k1 k2 k3 k5 j0 j1 j2 j3 j5:Option Value}
theorem matches_sub {h:Heap} {g:Array GenState} {d:Drawn} {t:Nat} {os:OsState} {e:Addr} {oe:Obj} {Q:Bool→Shared→Prop} (Z:Tl bm2)
    (hC:h.get? C=some (clsO nm q C N bs bm sn sub ab col dd k0 k1 k2 k3 k5)) (hE:h.get? HE=some (clsO nm2 q2 HE N2 bs2 bm2 sn2 sub2 ab2 col2 dd2 j0 j1 j2 j3 j5)) (he:h.get? e=some oe) (hcls:oe.cls=.ref C) (hb:(Value.ref C::bm).contains (.ref HE)=true)
    (hq:Q true ⟨h,g,d,t,os⟩):wpAny M A (excMatches (.ref e) (.ref HE)) Q E ⟨h,g,d,t,os⟩:=by
  have hcB:(Value.ref HE::bm2).contains (.type "BaseException")=true:=by rw [List.contains_cons,Z.b,Bool.or_true]
  have f:=tc_notTuple
  unfold excMatches
  repeat (first | (with_reducible refine wpAny_loadPart_at he ?_;rw [hcls]) | with_reducible refine wpAny_loadPart_at hE ?_ | (with_reducible refine wpAny_isSubtype_exc hE ?_;rw [hcB]) | (with_reducible refine wpAny_isSubtype_exc hC ?_;rw [hb]) | wp_step)
  exact hq
end
section
variable {X:Cx}
abbrev XH (X:Cx) (e:Addr):Cx:={ X with A:=X.A.mark (some (.ref e)),calm:=false,xe:=fun _ _=>False }
def Caught (K:PySem.W.Frag) (C HE:Addr):Prop:=∃ nm q N bs bm sn sub ab col dd k0 k1 k2 k3 k5,(Value.ref C::bm).contains (.ref HE)=true∧K.lookup C=some (clsO nm q C N bs bm sn sub ab col dd k0 k1 k2 k3 k5)
def Hands (X:Cx) (HE:Addr) (i:Nat) (ts:TS) (D:Ends) (xe:Value→Shared→Prop):Prop:=∀ (σ:L2.St) (H:Hp) (s:Shared) (pins:List (Addr×Obj)) (e C dx:Addr),Inv X pins σ H s→X.s₀.heap.objs.size≤e→H e=none→Rec X.s₀.heap s.heap H e C dx→Caught X.K C HE→
  ts { nx:=fun σ' H'=>D.nx (σ'.set i none) H',rt:=D.rt,bk:=fun σ' H'=>D.bk (σ'.set i none) H',ct:=fun σ' H'=>D.ct (σ'.set i none) H' } (σ.set i (some (.ref e))) (upd H e (.ext (Held e C dx)))→xe (.ref e) s
def tTry (X:Cx) (HE:Addr) (i:Nat) (tb:(Value→Shared→Prop)→TS) (ts:TS):TS:=fun D σ H=>∀ xe,Hands X HE i ts D xe→tb xe D σ H
def PS0 (X:Cx) (st:Stmt) (t:TS):Prop:=∀ (s:Shared) (σ:L2.St) (H:Hp) (D:Ends),Inv X [] σ H s→t D σ H→wpAny (model X.prog X.w) X.A (exec st X.env) (SP X [] D) X.xe s
def PSs0 (X:Cx) (st:List Stmt) (t:TS):Prop:=∀ (s:Shared) (σ:L2.St) (H:Hp) (D:Ends),Inv X [] σ H s→t D σ H→wpAny (model X.prog X.w) X.A (execs st X.env) (SP X [] D) X.xe s
theorem ps_try {HE:Addr} {i:Nat} {n:Str} {body suite:List Stmt} {b₀:Stmt} {p hp pos:Pos} {tb:(Value→Shared→Prop)→TS} {ts:TS} {nm q:Str} {N:Addr} {bs:List Value} {sn:List Str} {sub:List Value} {ab:Bool} {col:Option Bool} {dd:Option Addr} {k0 k1 k2 k3 k5:Option Value}
    (T:TopX X) (hN:X.N.Nodup) (hi:X.N[i]?=some n) (hl:X.env.scope.names.lookup n=some .local) (hg:Gl X "HideError") (hm:X.mg "HideError"=some (.ref HE)) (lk:X.K.lookup HE=some (clsO nm q HE N bs bmV sn sub ab col dd k0 k1 k2 k3 k5))
    (hbody:∀ xe,PSs (X.wish xe) body (tb xe)) (hsuite:∀ e,PSs (XH X e) (b₀::suite) ts) :
    PS0 X (.Try body [.ExceptHandler (some (.Name "HideError" p)) (some n) (b₀::suite) hp] [] [] pos) (tTry X HE i tb ts):=by
  intro s σ H D I h
  refine wpAny_Try_except ?_
  refine wpAny_mono (hbody (fun e s₁=>wpAny (model X.prog X.w) X.A (noteFrame e X.env) (fun _ s₂=>wpAny (model X.prog X.w) X.A (setFlight e none) (fun _ s₃=>wpAny (model X.prog X.w) X.A (handleBy e X.env [.ExceptHandler (some (.Name "HideError" p)) (some n) (b₀::suite) hp]) (SP X [] D) X.xe s₃) X.xe s₂) X.xe s₁) [] s σ H D (I.wish _) (h _ ?_)) (fun f s₁ hf=>?_) fun _ _ z=>z
  · intro σ1 H1 s1 pins e C dx I1' hn he r hcg hts
    have I1:Inv X [] σ1 H1 s1:=I1'.pins_of fun p z=>by cases z
    refine note_inv T I1.ok.frames I1 hn he r fun s3 I3 r3=>?_
    refine wpAny_handleBy_cons (codeAny_handlers_test ?_) (by intro z;cases z)
    have IH:Inv (XH X e) [] σ1 H1 s3:=atA I3 _ _ rfl
    refine ld_glob IH hg hm ?_
    obtain ⟨nmC,qC,NC,bsC,bmC,snC,subC,abC,colC,ddC,c0,c1,c2,c3,c5,hct,lkC⟩:=hcg
    obtain ⟨oe,vs,a1,a2,a3,a4,a5,a6⟩:=id r3
    have kin:=I3.kIn
    obtain ⟨hh,g,d,tk,os⟩:=s3
    refine matches_sub (tl_b) (kin _ _ lkC) (kin _ _ lk) a1 a2 hct ?_
    simp only [if_true]
    refine codeAny_handlers_suite_as (flight_inv T I3 hn he r3 fun s4 I4 r4=>?_)
    have hap:=r4.apart I4
    obtain ⟨oe4,vs4,b1,b2,b3,b4,b5,b6⟩:=id r4
    have I5:Inv X [] σ1 (upd H1 e (.ext (Held e C dx))) s4:=adopt T I4 hn he hap ⟨_,b1⟩ ⟨oe4,b1,b2,b3,by unfold PySem.W.notCls;rw [b4]⟩ held_stays
    refine store_ok I5 hN hi (.inl hl) (v:=.ref e) rfl (fun s6 I6=>?_) (.inr hl)
    refine wpAny_mono (hsuite e [] s6 _ _ _ (atA I6 _ _ rfl) hts) (fun f s7 hf=>?_) fun _ _ z=>False.elim z
    cases f with
    | next=>
      obtain ⟨σ',H',I',q'⟩:=hf
      exact unbind_ok T (ofA I.ok I') hN hi hl fun s8 I8=>⟨_,H',I8,q'⟩
    | brk=>
      obtain ⟨σ',H',I',q'⟩:=hf
      exact unbind_ok T (ofA I.ok I') hN hi hl fun s8 I8=>⟨_,H',I8,q'⟩
    | cont=>
      obtain ⟨σ',H',I',q'⟩:=hf
      exact unbind_ok T (ofA I.ok I') hN hi hl fun s8 I8=>⟨_,H',I8,q'⟩
    | ret u=>
      obtain ⟨v,σ',H',I',rv,q'⟩:=hf
      exact unbind_ok T (ofA I.ok I') hN hi hl fun s8 I8=>⟨v,_,H',I8,rv,q'⟩
  · cases f with
    | next=>exact wpAny_execs_nil hf.unwish
    | ret v=>exact hf.unwish
    | brk=>exact hf.unwish
    | cont=>exact hf.unwish
end
end Xc
namespace Mi
open PySem PySem.Spec PyProof.Rows L2 Xc
abbrev Rs:=Except (Str×D) D
abbrev FeX:=En→Option Rs
abbrev FlX:=En→Option (Except (Str×D) (List D))
inductive OutX where
  | nx (env:En) | rt (d:D) | bk (env:En) | ct (env:En) | ex (c:Str) (d:D) (env:En)
abbrev FsX:=En→Option OutX
def XEnd (X:Cx) (B Z:Hp) (env:En) (c:Str) (d:D):Prop:=∀ (σ:L2.St) (Z' H':Hp) (C dx:Addr) (u:V),Ex Z B Z' H'→Rl X.K B Z' H' env σ→X.mg c=some (.ref C)→H' dx=some (.xd [("cell",u)])→Rep X.K Z' d u→
  ∀ (pins:List (Addr×Obj)) (s:Shared) (e:Addr),Inv X pins σ H' s→X.s₀.heap.objs.size≤e→H' e=none→Rec X.s₀.heap s.heap H' e C dx→X.xe (.ref e) s
def EndX (X:Cx) (rg:Gr) (B Z:Hp) (E:Ends):OutX→Prop
  | .nx env'=>∀ σ' Z' H',Ex Z B Z' H'→Rl X.K B Z' H' env' σ'→E.nx σ' H'
  | .bk env'=>∀ σ' Z' H',Ex Z B Z' H'→Rl X.K B Z' H' env' σ'→E.bk σ' H'
  | .ct env'=>∀ σ' Z' H',Ex Z B Z' H'→Rl X.K B Z' H' env' σ'→E.ct σ' H'
  | .rt d=>∀ v Z' H',Ex Z B Z' H'→Gd X.K Z' B H' rg d v→E.rt v H'
  | .ex c d env'=>XEnd X B Z env' c d
def TSx (X:Cx) (rg:Gr) (f:FsX):TS:=fun E σ H=>∃ env B Z o,Rl X.K B Z H env σ∧f env=some o∧EndX X rg B Z E o
def SX (X:Cx) (rg:Gr) (st:Stmt) (f:FsX):Prop:=PS X st (TSx X rg f)
def SsX (X:Cx) (rg:Gr) (sts:List Stmt) (f:FsX):Prop:=PSs X sts (TSx X rg f)
def SX0 (X:Cx) (rg:Gr) (st:Stmt) (f:FsX):Prop:=PS0 X st (TSx X rg f)
def SsX0 (X:Cx) (rg:Gr) (sts:List Stmt) (f:FsX):Prop:=PSs0 X sts (TSx X rg f)
def TXe (X:Cx) (g:Gr) (f:FeX):TE:=fun σ H Q=>∃ env B Z r,Rl X.K B Z H env σ∧f env=some r∧match r with
  | .ok d=>∀ v Z' H',Ex Z H Z' H'→Gd X.K Z' H H' g d v→Q v H'
  | .error (c,d)=>XEnd X B Z env c d
def PX (X:Cx) (g:Gr) (e:Expr) (f:FeX):Prop:=PE X e (TXe X g f)
def TXl (X:Cx) (f:FlX):TA:=fun σ H Q=>∃ env B Z r,Rl X.K B Z H env σ∧f env=some r∧match r with
  | .ok ds=>∀ vs Z' H',Ex Z H Z' H'→Reps X.K Z' ds vs→Q vs H'
  | .error (c,d)=>XEnd X B Z env c d
structure PLX (X:Cx) (es:List Expr) (f:FlX):Prop where
  p:PA X es (TXl X f)
  l:∀ env ds,f env=some (.ok ds)→ds.length=es.length
section
variable {X:Cx} {rg g:Gr} {st:Stmt} {sts:List Stmt} {pos p:Pos} {e l:Expr} {es:List Expr} {x:Str}
theorem XEnd.later {B Z Z1 H1:Hp} {env:En} {c:Str} {d:D} (x:Ex Z B Z1 H1) (h:XEnd X B Z env c d):XEnd X B Z1 env c d:=fun σ Z' H' C dx u y=>h σ Z' H' C dx u (x.transB y)
theorem EndX.later {B Z Z1 H1:Hp} {E:Ends} {o:OutX} (x:Ex Z B Z1 H1) (h:EndX X rg B Z E o):EndX X rg B Z1 E o:=by
  cases o with
  | nx e=>exact fun σ' Z' H' y=>h σ' Z' H' (x.transB y)
  | bk e=>exact fun σ' Z' H' y=>h σ' Z' H' (x.transB y)
  | ct e=>exact fun σ' Z' H' y=>h σ' Z' H' (x.transB y)
  | rt e=>exact fun v Z' H' y=>h v Z' H' (x.transB y)
  | ex c d env=>exact XEnd.later x h
def Out.up:Out→OutX
  | .nx e=>.nx e
  | .rt d=>.rt d
  | .bk e=>.bk e
  | .ct e=>.ct e
def upF (f:Fs):FsX:=fun env=>(f env).map Out.up
theorem EndX.of {B Z:Hp} {E:Ends} {o:Out} (h:EndX X rg B Z E o.up):EndOk X.K rg B Z E o:=by cases o<;>exact h
theorem tsx_of {f:Fs} {E:Ends} {σ:L2.St} {H:Hp} (h:TSx X rg (upF f) E σ H):TSt X.K rg f E σ H:=by
  obtain ⟨env,B,Z,o,R,e,k⟩:=h
  obtain ⟨o',e1,rfl⟩:=Option.map_eq_some_iff.mp e
  exact ⟨env,B,Z,o',R,e1,k.of⟩
theorem PS.nox' {t:TS} (h:PS X.nox st t):PS X st t:=fun pins s σ H D I hw=>
  wpAny_mono (h pins s σ H D (I.wish _) hw) (fun _ _ q=>q.unwish) fun _ _ z=>False.elim z
theorem x_of {f:Fs} (h:SD X.nox rg st f):SX X rg st (upF f):=fun pins s σ H E I q=>PS.nox' h pins s σ H E I (tsx_of (X:=X) q)
theorem xs_of {f:Fs} (h:SsD X.nox rg sts f):SsX X rg sts (upF f):=fun pins s σ H E I q=>L2.PSs.nox h pins s σ H E I (tsx_of (X:=X) q)
theorem x_top {f:FsX} (h:SX X rg st f):SX0 X rg st f:=fun s σ H E I q=>h [] s σ H E I q
def seqX (f g:FsX):FsX:=fun env=>(f env).bind fun o=>match o with | .nx e=>g e | o=>some o
theorem seqX_in {f g:FsX} {E:Ends} {σ:L2.St} {H:Hp} (h:TSx X rg (seqX f g) E σ H):TSx X rg f { E with nx:=TSx X rg g E } σ H:=by
  obtain ⟨env,B,Z,o,R,e,k⟩:=h
  obtain ⟨o1,e1,e2⟩:=Option.bind_eq_some_iff.mp e
  refine ⟨env,B,Z,o1,R,e1,?_⟩
  cases o1 with
  | nx env1=>exact fun σ' Z' H' x R'=>⟨env1,B,Z',o,R',e2,k.later x⟩
  | rt d=>cases e2;exact k
  | bk d=>cases e2;exact k
  | ct d=>cases e2;exact k
  | ex c d env=>cases e2;exact k
theorem x_cons {f g:FsX} (h1:SX X rg st f) (h2:SsX X rg sts g):SsX X rg (st::sts) (seqX f g):=fun pins s σ H E I q=>pss_cons h1 h2 pins s σ H E I (seqX_in q)
theorem x_one {f:FsX} (h1:SX X rg st f):SsX X rg [st] f:=pss_one h1
theorem x0_one {f:FsX} (h1:SX0 X rg st f):SsX0 X rg [st] f:=by
  intro s σ H D I h
  refine wpAny_execs_cons (thn (h1 s σ H D I h) fun f s1 q=>?_)
  cases f with
  | next=>exact wpAny_execs_nil q
  | ret v=>exact q
  | brk=>exact q
  | cont=>exact q
theorem x0_cons {f g:FsX} (h1:SX0 X rg st f) (h2:SsX0 X rg sts g):SsX0 X rg (st::sts) (seqX f g):=by
  intro s σ H D I h
  refine wpAny_execs_cons (thn (h1 s σ H { D with nx:=TSx X rg g D } I (seqX_in h)) fun f s1 q=>?_)
  cases f with
  | next=>
    obtain ⟨σ',H',I',q⟩:=q
    exact h2 s1 σ' H' D I' q
  | ret v=>exact q
  | brk=>exact q
  | cont=>exact q
def ifX (t:Fb) (f g:FsX):FsX:=fun env=>(t env).bind fun b=>if b=true then f env else g env
theorem x_if {c:Expr} {a b:List Stmt} {t:Fb} {f g:FsX} (hc:PB X.nox c t) (ha:SsX X rg a f) (hb:SsX X rg b g):SX X rg (.If c a b pos) (ifX t f g):=fun pins s σ H E I ⟨env,B,Z,o,R,e,k⟩=>by
  refine ps_if (L2.PT.nox hc) ha hb pins s σ H E I ?_
  obtain ⟨x,e1,e2⟩:=Option.bind_eq_some_iff.mp e
  refine ⟨env,B,Z,x,R,e1,fun Z1 H1 x1=>?_⟩
  cases x with
  | true=>rw [if_pos rfl] at e2;exact iteT ⟨env,B,Z1,o,R.ext x1,e2,k.later (x1.part R.bh)⟩
  | false=>rw [if_neg (by simp)] at e2;exact iteF ⟨env,B,Z1,o,R.ext x1,e2,k.later (x1.part R.bh)⟩
end
end Mi
namespace Mi
open PySem PySem.Spec PyProof.Rows L2 Xc
section
variable {X:Cx} {rg g:Gr} {st:Stmt} {sts:List Stmt} {pos p cpos:Pos} {e l a:Expr} {es:List Expr} {x c:Str} {k:Nat}
def raiseX (c:Str) (fs:Fes):FsX:=fun env=>(fs env).bind fun ds=>match ds with
  | [_]=>some (.ex c .non env)
  | [_,d]=>some (.ex c d env)
  | _=>none
structure XC (P:Program) (w:World) (K:Fg) (mg:Str→Option Value) (base:Heap) (k:Nat) (c:Str):Prop where
  ex:∃ C HE fI fd,mg c=some (.ref C)∧EC K C HE fI∧FnOk P w K mg base CX0 k fI fd [Str.ofString "self",Str.ofString "words",Str.ofString "cell"] (spI K HE fI)∧Binds K fd [Str.ofString "self",Str.ofString "words",Str.ofString "cell"] [.none]∧Binds K fd [Str.ofString "self",Str.ofString "words",Str.ofString "cell"] []
theorem raise_end {B Z H Z1 H1:Hp} {env:En} {σ:L2.St} {d:D} {cv:V} {C:Addr} (hm:X.mg c=some (.ref C)) (R:Rl X.K B Z H env σ) (k:XEnd X B Z env c d) (x1:Ex Z H Z1 H1) (r:Rep X.K Z1 d cv):Wants X σ C fun dx H2=>H1 dx=none∧H2=upd H1 dx (.xd [("cell",cv)]):=by
  rintro pins H2 s e dx I hn he hr ⟨hdx,rfl⟩
  have x2:Ex Z1 H1 Z1 (upd H1 dx (.xd [("cell",cv)])):=Ex.newL x1.zh hdx
  exact k σ Z1 _ C dx cv ((x1.trans x2).part R.bh) ((R.ext x1).ext x2) hm upd_same r pins s e I hn he hr
theorem x_raise1 {fs:Fes} (T:XC X.prog X.w X.K X.mg X.base k c) (hr:Room (k+1) X.A) (hl:PL X [a] fs) (hg:Gl X c:=by rfl) (hdb:(c==("__debug__":Str))=false:=by decide) (he:starEach [a] X.env=(false,eval a X.env)::starEach [] X.env:=by rfl) :
    SX X rg (.Raise (some (.Call (.Name c p) [a] [] cpos)) none pos) (raiseX c fs):=fun pins s σ H E I ⟨env,B,Z,o,R,e,kk⟩=>by
  obtain ⟨C,HE,fI,fd,hm,ec,F,hb1,hb2⟩:=T.ex
  refine ps_raise ec F hr hg hm hb1 (dvs:=[.non]) (.cons rfl .nil) hl.p hdb he rfl pins s σ H E I ?_
  obtain ⟨ds,e1,e2⟩:=Option.bind_eq_some_iff.mp e
  have hlen:=hl.l env ds e1
  match ds,hlen,e2 with
  | [d0],_,e2=>
    cases e2
    refine ⟨env,B,Z,[d0],R,e1,fun vs Z1 H1 x1 r=>?_⟩
    obtain ⟨v,r',rfl,_,hr'⟩:=r
    cases (show r'=[] from hr')
    exact ⟨v,.non,rfl,raise_end hm R kk x1 rfl⟩
def spX (mg:Str→Option Value) (K:Fg) (n:Nat) (g:Gr) (m:List D→Option Rs):Sp:=fun vs H Q E=>∃ Z ds r,ds.length=n∧Same Z H∧Reps K Z ds vs∧m ds=some r∧match r with
  | .ok d=>∀ v Z' H',Ex Z H Z' H'→Gd K Z' H H' g d v→Q v H'
  | .error (c,d)=>∀ C dx u Z' H',mg c=some (.ref C)→Ex Z H Z' H'→H' dx=some (.xd [("cell",u)])→Rep K Z' d u→E (.ref C) (some dx) H'
structure CalX (P:Program) (w:World) (K:Fg) (mg:Str→Option Value) (base:Heap) (k:Nat) (x:Str) (n:Nat) (g:Gr) (m:List D→Option Rs):Prop where
  ex:∃ f fd ps,ps.length=n∧FnOk P w K mg base (CXM P w) k f fd ps (spX mg K n g m)∧mg x=some (.ref f)∧PySem.W.keepIn K (.ref f)=true∧Binds K fd ps []
def okL (f:Fes):FlX:=fun env=>(f env).map .ok
theorem PA.nox' {t:TA} (h:PA X.nox es t):PA X es t:=fun pos pins s σ H Q I hw=>
  wpAny_mono (h pos pins s σ H Q (I.wish _) hw) (fun _ _ ⟨v,H',I',r,q⟩=>⟨v,H',I'.unwish,r,q⟩) fun _ _ z=>False.elim z
theorem pl_of {f:Fes} (h:PL X.nox es f):PLX X es (okL f):=⟨fun pos pins s σ H Q I ⟨env,B,Z,r,R,e1,k⟩=>by
  obtain ⟨d,e2,rfl⟩:=Option.map_eq_some_iff.mp e1
  exact PA.nox' h.p pos pins s σ H Q I ⟨env,B,Z,d,R,e2,k⟩,fun env ds e1=>by
  obtain ⟨d,e2,e3⟩:=Option.map_eq_some_iff.mp e1
  cases e3
  exact h.l env ds e2⟩
def callX (fs:FlX) (m:List D→Option Rs):FeX:=fun env=>(fs env).bind fun r=>match r with
  | .ok ds=>m ds
  | .error z=>some (.error z)
theorem px_call {m:List D→Option Rs} {n:Nat} {fs:FlX} (C:CalX X.prog X.w X.K X.mg X.base k x n g m) (hr:Room k X.A) (hl:PLX X (l::es) fs) (hn:(l::es).length=n:=by rfl) (hg:Gl X x:=by rfl) (hdb:(x==("__debug__":Str))=false:=by decide)
    (he:starEach (l::es) X.env=(false,eval l X.env)::starEach es X.env:=by rfl) (hpl:(backTo pos (starEach es X.env)).any (·.1)=false:=by rfl):PX X g (.Call (.Name x p) (l::es) [] pos) (callX fs m):=by
  intro pins s σ H Q I ⟨env,B,Z,r,R,e1,kk⟩
  obtain ⟨f,fd,ps,hps,F,hm,hk,hb⟩:=C.ex
  obtain ⟨rl,e2,e3⟩:=Option.bind_eq_some_iff.mp e1
  refine wpAny_Call_Name_kw (ld_glob I hg hm ?_ hdb)
  cases rl with
  | error z=>
    cases e3
    refine PySem.W.callWith_K (h₀:=X.base) I.ok.mod.kin hk (thn (hl.p pos pins s σ H (fun _ _=>False) I ⟨env,B,Z,.error z,R,e2,kk⟩) fun us s1 ⟨vs,H1,I1,r,q⟩=>False.elim q) he hpl
  | ok ds=>
    refine PySem.W.callWith_K (h₀:=X.base) I.ok.mod.kin hk (thn (hl.p pos pins s σ H (fun vs H1=>∃ Z1,Ex Z H Z1 H1∧Reps X.K Z1 ds vs) I ⟨env,B,Z,.ok ds,R,e2,fun vs Z1 H1 x1 r1=>⟨Z1,x1,r1⟩⟩) fun us s1 ⟨vs,H1,I1,rv,Z1,x1,r1⟩=>⟨I1.kIn,?_⟩) he hpl
    cases r with
    | ok d=>
      refine run_fnX (E:=E0) (dvs:=[]) (ds:=[]) F hr hb .nil I1 rv ?_ (fun C pins H' s' e dx _ _ _ _ z=>False.elim z)
      rw [List.append_nil]
      exact ⟨Z1,ds,.ok d,by rw [hl.l env ds e2];exact hn,x1.zh,r1,e3,fun v Z' H' x2 g2=>kk v Z' H' (x1.trans x2) (g2.frm x1.h)⟩
    | error z=>
      obtain ⟨c,d⟩:=z
      refine run_fnX (E:=fun Cv dxo H'=>∃ C dx u Z',Cv=.ref C∧dxo=some dx∧X.mg c=some (.ref C)∧Ex Z1 H1 Z' H'∧H' dx=some (.xd [("cell",u)])∧Rep X.K Z' d u) (dvs:=[]) (ds:=[]) F hr hb .nil I1 rv ?_ ?_
      · rw [List.append_nil]
        exact ⟨Z1,ds,.error (c,d),by rw [hl.l env ds e2];exact hn,x1.zh,r1,e3,fun C dx u Z' H' h1 h2 h3 h4=>⟨C,dx,u,Z',rfl,rfl,h1,h2,h3,h4⟩⟩
      · rintro C pins' H' s' e dx I' hn' he' hr' ⟨C',dx',u,Z',hC,hdx,h1,h2,h3,h4⟩
        cases hC;cases hdx
        exact kk σ Z' H' C dx u ((x1.trans h2).part R.bh) ((R.ext x1).ext h2) h1 h3 h4 pins' s' e I' hn' he' hr'
def setX (i:Nat) (f:FeX):FsX:=fun env=>(f env).bind fun r=>match r with
  | .ok d=>some (.nx (env.set i (.F d)))
  | .error (c,d)=>some (.ex c d env)
def retX (f:FeX):FsX:=fun env=>(f env).bind fun r=>match r with
  | .ok d=>some (.rt d)
  | .error (c,d)=>some (.ex c d env)
theorem x_set (i:Nat) {f:FeX} {pos':Pos} (he:PX X .cl e f) (hN:X.N.Nodup) (hi:X.N[i]?=some x:=by rfl) (hx:Loc X.env.scope x:=by first | exact Or.inl rfl | exact Or.inr rfl) (hs:swapsWith e (some (.Name x pos')) pos.line X.env=pure false:=by rfl)
    (hf:X.fn x=true∨X.env.scope.names.lookup x=some .local:=by first | exact .inl rfl | exact .inr rfl | assumption):SX X rg (.Assign [.Name x pos'] e pos) (setX i f):=fun pins s σ H E I ⟨env,B,Z,o,R,e1,k⟩=>by
  refine ps_set hN hi hx he hs hf pins s σ H E I ?_
  obtain ⟨r,e2,e3⟩:=Option.bind_eq_some_iff.mp e1
  cases r with
  | ok d=>cases e3;exact ⟨env,B,Z,.ok d,R,e2,fun v Z' H' x r=>k _ Z' H' (x.part R.bh) ((R.ext x).setF i r)⟩
  | error z=>obtain ⟨c,d⟩:=z;cases e3;exact ⟨env,B,Z,.error (c,d),R,e2,k⟩
theorem x_ret {f:FeX} (he:PX X rg e f):SX X rg (.Return (some e) pos) (retX f):=fun pins s σ H E I ⟨env,B,Z,o,R,e1,k⟩=>by
  refine ps_ret he pins s σ H E I ?_
  obtain ⟨r,e2,e3⟩:=Option.bind_eq_some_iff.mp e1
  cases r with
  | ok d=>cases e3;exact ⟨env,B,Z,.ok d,R,e2,fun v Z' H' x gd=>k v Z' H' (x.part R.bh) (gd.frm R.bh)⟩
  | error z=>obtain ⟨c,d⟩:=z;cases e3;exact ⟨env,B,Z,.error (c,d),R,e2,k⟩
end
end Mi
namespace Mi
open PySem PySem.Spec PyProof.Rows L2 Xc
def runX (f:FsX) (n:Nat) (ds:List D):Option Rs:=(f (startE n ds)).bind fun o=>match o with
  | .rt d=>some (.ok d)
  | .nx _=>some (.ok .non)
  | .ex c d _=>some (.error (c,d))
  | _=>none
section
variable {P:Program} {w:World} {K:Fg} {mg:Str→Option Value} {base:Heap}
theorem okX {x qual:Str} {st:Stmt} {f:Addr} {fd:FuncData} {N ps:List Str} {k:Nat} {m:List D→Option Rs} {fb:FsX} (F:Fun K x qual st f fd) (S:FnScope N ps (defScope st))
    (hb:∀ (cdv:Value) (A:Around) (outer:List Env) (s:Shared) (H:Hp) (E:XK),Room k (A.deeper (envOfC qual (defScope st) s.heap.objs.size f cdv))→SsX (cxOf (CXM P w) P w K mg base N qual (defScope st) f cdv A outer s H E) .cl (defBody st) fb)
    (hm:∀ ds r,ds.length=ps.length→m ds=some r→runX fb N.length ds=some r):FnOk P w K mg base (CXM P w) (k+1) f fd ps (spX mg K ps.length .cl m):=by
  obtain ⟨oc,od,kV,doc,pm,an,cdv,ct,osl,rfl,lk,hcd⟩:=F.ex
  refine fn_of lk hcd S (fun vs H Q E ⟨Z,ds,d,hl,_,r,_⟩=>by rw [← r.len];exact hl) fun A outer s H vs Q E hr ⟨Z,ds,rs,hl,s1,r,e,kk⟩=>?_
  refine ⟨_,hb cdv A outer s H E hr,?_⟩
  obtain ⟨o,e1,e2⟩:=Option.bind_eq_some_iff.mp (hm ds rs hl e)
  refine ⟨_,H,Z,o,Rl.start s1 r,e1,?_⟩
  cases o with
  | rt d'=>cases e2;exact kk
  | nx _=>cases e2;exact fun σ' Z' H' x R=>kk .non Z' H' x rfl
  | bk _=>cases e2
  | ct _=>cases e2
  | ex c d env=>
    cases e2
    exact fun σ Z' H' C dx u x R hmg hxd hu pins s' e I hn he hr'=>leave_wants σ C pins H' s' e dx I hn he hr' (kk C dx u Z' H' hmg x hxd hu)
theorem fn_of0 {CX:CXT} {k:Nat} {f:Addr} {name qual:Str} {params:Arguments} {body:List Stmt} {scope:Scope} {dV kV doc pm cdv ct oc:Value} {an od:Option Addr}
    {osl:Array (Option Value)} {N ps:List Str} {sp:Sp} (lk:K.lookup f=some ⟨oc,od,.func (PySem.W.fnOf name qual params body scope dV kV doc pm an cdv ct),osl⟩) (hcd:PySem.W.codeIn K cdv qual=true) (S:FnScope N ps scope)
    (len:∀ vs H Q E,sp vs H Q E→vs.length=ps.length)
    (hbody:∀ (A:Around) (outer:List Env) (s:Shared) (H:Hp) (vs:List V) (Q:VK) (E:XK),Room k (A.deeper (envOfC qual scope s.heap.objs.size f cdv))→sp vs H Q E→
      ∃ t,PSs0 (cxOf CX P w K mg base N qual scope f cdv A outer s H E) body t∧t { nx:=fun _ H'=>Q .non H',rt:=Q } (start N vs) H) :
    FnOk P w K mg base CX (k+1) f (PySem.W.fnOf name qual params body scope dV kV doc pm an cdv ct) ps sp:=by
  refine ⟨len,fun A outer s H args us vs Q E hr e0 hb r hsp=>?_⟩
  have hl:=len _ _ _ _ hsp
  have KX:K.In s.heap:=e0.mod.kin.keeps fun b o e=>(e0.bs b o e).1
  have lim:s.heap.NoLimit:=e0.mod.nolimit.keeps fun b o e=>(e0.bs b o e).1
  have hkind:∀ y∈ps.zip us,scope.names.lookup y.1=some .local∨(scope.names.lookup y.1=some .cell∧((cellsFrom (s.heap.objs.size+1) scope.names []).lookup y.1).isSome=true):=fun ⟨n,v⟩ hy=>by
    rcases S.par n (List.of_mem_zip hy).1 with q | q
    · exact .inl q
    · exact .inr ⟨q,PySem.W.cellsFrom_some _ _ _ (.inl q)⟩
  refine codeAny_call_function hr.depth (KX _ _ lk) rfl S.co S.gen rfl (PySem.W.codeRec_of KX hcd) (hb _ _ _ _ ?_)
  refine wpAny_newFunctionEnv_cells S.kind hkind fun env he s1 x=>?_
  subst he
  refine ⟨lim.keeps x.toInCall.keep,codeAny_func ?_⟩
  obtain ⟨t,ht,hq⟩:=hbody A outer s H vs Q E (hr.deeper _) hsp
  have I:Inv (cxOf CX P w K mg base N qual scope f cdv A outer s H E) [] (start N vs) H s1:=inv_start S hr.hd e0 hl r x
  refine wpAny_mono (ht s1 (start N vs) H _ I hq) (fun fl s' hs=>?_) fun e s' hs=>hs
  have fin:∀ {σ':L2.St} {H':Hp} {v:V} {u:Value},Inv (cxOf CX P w K mg base N qual scope f cdv A outer s H E) [] σ' H' s'→RelV v u→Q v H'→CE outer P w H s Q u s':=
    fun {σ' H' v u} J rv q=>⟨v,H',J.os,J.bare,J.base,J.hok,rv,q⟩
  cases fl with
  | ret u=>
    obtain ⟨v,σ',H',J,rv,q⟩:=hs
    exact fin J rv q
  | next=>
    obtain ⟨σ',H',J,q⟩:=hs
    exact fin (v:=V.non) (u:=Value.none) J rfl q
  | brk=>
    obtain ⟨_,_,_,q⟩:=hs
    exact False.elim q
  | cont=>
    obtain ⟨_,_,_,q⟩:=hs
    exact False.elim q
def runX0 (f:FsX) (n:Nat) (ds:List D):Option D:=(f (startE n ds)).bind fun o=>match o with
  | .rt d=>some d
  | _=>none
theorem okX0 {x qual:Str} {st:Stmt} {f:Addr} {fd:FuncData} {N ps:List Str} {k:Nat} {g:Gr} {m:List D→Option D} {fb:FsX} (F:Fun K x qual st f fd) (S:FnScope N ps (defScope st))
    (hb:∀ (cdv:Value) (A:Around) (outer:List Env) (s:Shared) (H:Hp) (E:XK),Room k (A.deeper (envOfC qual (defScope st) s.heap.objs.size f cdv))→SsX0 (cxOf CX0 P w K mg base N qual (defScope st) f cdv A outer s H E) g (defBody st) fb)
    (hm:∀ ds d,ds.length=ps.length→m ds=some d→runX0 fb N.length ds=some d):FnOk P w K mg base CX0 (k+1) f fd ps (spD K ps.length g m):=by
  obtain ⟨oc,od,kV,doc,pm,an,cdv,ct,osl,rfl,lk,hcd⟩:=F.ex
  refine fn_of0 lk hcd S (fun vs H Q E ⟨Z,ds,d,hl,_,r,_⟩=>by rw [← r.len];exact hl) fun A outer s H vs Q E hr ⟨Z,ds,d,hl,s1,r,e,kk⟩=>?_
  refine ⟨_,hb cdv A outer s H E hr,?_⟩
  obtain ⟨o,e1,e2⟩:=Option.bind_eq_some_iff.mp (hm ds d hl e)
  refine ⟨_,H,Z,o,Rl.start s1 r,e1,?_⟩
  cases o with
  | rt d'=>cases e2;exact kk
  | nx _=>cases e2
  | bk _=>cases e2
  | ct _=>cases e2
  | ex c d env=>cases e2
end
def xNames:List Str:=[Str.ofString "NoHiding",Str.ofString "NoNumber",Str.ofString "TooMany",Str.ofString "NoCell",Str.ofString "NoShot",Str.ofString "NothingLeft",Str.ofString "NoCounts",Str.ofString "Over",Str.ofString "NoText",Str.ofString "NoRow"]
def flagsB (c:Str):List Bool:=xNames.map (fun n=>n==c)++[true]
end Mi
namespace Mi
open PySem PySem.Spec PyProof.Rows L2 Xc
structure ClF (K:Fg) (mg:Str→Option Value) (HE:Addr) (c:Str) (C:Addr):Prop where
  own:OwnX K C
  cg:Caught K C HE
  fl:∀ n∈xNames,∀ D,mg n=some (.ref D)→PySem.W.kitOne K (.ref C) (.ref D)=some (n==c)
  va:PySem.W.kitOne K (.ref C) (.type "ValueError")=some true
def spF (K:Fg) (mg:Str→Option Value) (HE:Addr):Sp:=fun vs H Q _=>∃ v C c,vs=[v]∧ExAt H v C∧ClF K mg HE c C∧∀ a H',Same H H'→H a=none→H' a=some (.lst ((flagsB c).map V.bl))→Q (.ref a) H'
theorem exat_mono {H H':Hp} (s:Same H H') {v:V} {C:Addr} (h:ExAt H v C):ExAt H' v C:=by
  obtain ⟨e,dx,fs,a,b,c⟩:=h
  exact ⟨e,dx,fs,a,s _ _ b,s _ _ c⟩
theorem flags_read {K:Fg} {mg:Str→Option Value} {HE:Addr} {D1 D2 D3 D4 D5 D6 D7 D8 D9 D10:Addr} (m1:mg "NoHiding"=some (.ref D1)) (m2:mg "NoNumber"=some (.ref D2)) (m3:mg "TooMany"=some (.ref D3)) (m4:mg "NoCell"=some (.ref D4)) (m5:mg "NoShot"=some (.ref D5)) (m6:mg "NothingLeft"=some (.ref D6)) (m7:mg "NoCounts"=some (.ref D7)) (m8:mg "Over"=some (.ref D8)) (m9:mg "NoText"=some (.ref D9)) (m10:mg "NoRow"=some (.ref D10))
    {vs:List V} {H:Hp} {Q:VK} {E:XK} {nx:L2.St→Hp→Prop} (h:spF K mg HE vs H Q E) :
    tSeq (tAsg (tLst (tCons (tIsX K 0 (.ref D1)) (tCons (tIsX K 0 (.ref D2)) (tCons (tIsX K 0 (.ref D3)) (tCons (tIsX K 0 (.ref D4)) tNil))))) (gName 1)) (tSeq (tAsg (tOp rCat (tVar 1) (tLst (tCons (tIsX K 0 (.ref D5)) (tCons (tIsX K 0 (.ref D6)) (tCons (tIsX K 0 (.ref D7)) (tCons (tIsX K 0 (.ref D8)) tNil)))))) (gName 1))
      (tRet (tOp rCat (tVar 1) (tLst (tCons (tIsX K 0 (.ref D9)) (tCons (tIsX K 0 (.ref D10)) (tCons (tIsX K 0 (.type "ValueError")) tNil))))))) { nx:=nx,rt:=Q } (start [Str.ofString "e",Str.ofString "flags"] vs) H:=by
  obtain ⟨v,C,c,rfl,hE,hC,q⟩:=h
  have f1:=hC.fl _ (by decide) _ m1
  have f2:=hC.fl _ (by decide) _ m2
  have f3:=hC.fl _ (by decide) _ m3
  have f4:=hC.fl _ (by decide) _ m4
  have f5:=hC.fl _ (by decide) _ m5
  have f6:=hC.fl _ (by decide) _ m6
  have f7:=hC.fl _ (by decide) _ m7
  have f8:=hC.fl _ (by decide) _ m8
  have f9:=hC.fl _ (by decide) _ m9
  have f10:=hC.fl _ (by decide) _ m10
  have o:=hC.own
  refine ⟨v,C,_,rfl,hE,o,f1,v,C,_,rfl,hE,o,f2,v,C,_,rfl,hE,o,f3,v,C,_,rfl,hE,o,f4,(show (4:Nat)≤sizeLine by decide),fun p1 h1=>?_⟩
  have s1:Same H (upd H p1 _):=smUpd (o:=.lst [.bl (Str.ofString "NoHiding"==c),.bl (Str.ofString "NoNumber"==c),.bl (Str.ofString "TooMany"==c),.bl (Str.ofString "NoCell"==c)]) h1
  have E1:=exat_mono s1 hE
  refine ⟨_,rfl,v,C,_,rfl,E1,o,f5,v,C,_,rfl,E1,o,f6,v,C,_,rfl,E1,o,f7,v,C,_,rfl,E1,o,f8,(show (4:Nat)≤sizeLine by decide),fun p2 h2=>?_⟩
  have n12:p1≠p2:=fun z=>by rw [← z,upd_same] at h2;cases h2
  refine ⟨p1,p2,_,_,rfl,rfl,(upd_ne n12).trans upd_same,upd_same,(show (8:Nat)≤sizeLine by decide),fun p3 h3=>?_⟩
  have s2:=smUpd (o:=.lst [.bl (Str.ofString "NoShot"==c),.bl (Str.ofString "NothingLeft"==c),.bl (Str.ofString "NoCounts"==c),.bl (Str.ofString "Over"==c)]) h2
  have s3:=smUpd (o:=.lst ([V.bl (Str.ofString "NoHiding"==c),.bl (Str.ofString "NoNumber"==c),.bl (Str.ofString "TooMany"==c),.bl (Str.ofString "NoCell"==c)]++[.bl (Str.ofString "NoShot"==c),.bl (Str.ofString "NothingLeft"==c),.bl (Str.ofString "NoCounts"==c),.bl (Str.ofString "Over"==c)])) h3
  have E3:=exat_mono s3 (exat_mono s2 E1)
  refine ⟨_,rfl,v,C,_,rfl,E3,o,f9,v,C,_,rfl,E3,o,f10,v,C,_,rfl,E3,o,hC.va,(show (3:Nat)≤sizeLine by decide),fun p4 h4=>?_⟩
  have n34:p3≠p4:=fun z=>by rw [← z,upd_same] at h4;cases h4
  refine ⟨p3,p4,_,_,rfl,rfl,(upd_ne n34).trans upd_same,upd_same,(show (11:Nat)≤sizeLine by decide),fun p5 h5=>?_⟩
  have s4:=smUpd (o:=.lst [.bl (Str.ofString "NoText"==c),.bl (Str.ofString "NoRow"==c),.bl true]) h4
  have s5:=smUpd (o:=.lst (([V.bl (Str.ofString "NoHiding"==c),.bl (Str.ofString "NoNumber"==c),.bl (Str.ofString "TooMany"==c),.bl (Str.ofString "NoCell"==c)]++[.bl (Str.ofString "NoShot"==c),.bl (Str.ofString "NothingLeft"==c),.bl (Str.ofString "NoCounts"==c),.bl (Str.ofString "Over"==c)])++[.bl (Str.ofString "NoText"==c),.bl (Str.ofString "NoRow"==c),.bl true])) h5
  have sa:=(((s1.trans s2).trans s3).trans s4).trans s5
  refine q p5 _ sa ?_ ?_
  · cases z:H p5 with
    | none=>rfl
    | some ob=>have:=((s1.trans s2).trans s3).trans s4 _ _ z;rw [h5] at this;cases this
  · exact upd_same
theorem Rl.setU {K:Fg} {B Z H:Hp} {env:En} {σ:L2.St} (R:Rl K B Z H env σ) (i:Nat) (x:Option V):Rl K B Z H (env.set i .un) (σ.set i x):=by
  refine ⟨R.bh,R.zh,by simp [R.len],fun j s h=>?_,fun j ds a h h2=>?_,fun j k ds es a hne h1 h2 h3 h4=>?_⟩
  · by_cases hj:i=j
    · subst hj
      by_cases hl:i<env.length
      · rw [List.getElem?_set_self hl] at h;cases h
        exact ⟨x,List.getElem?_set_self (by rw [← R.len];exact hl),trivial⟩
      · rw [List.getElem?_eq_none (by simpa using Nat.le_of_not_lt hl)] at h;cases h
    · rw [List.getElem?_set_ne hj] at h ⊢;exact R.sl j s h
  · by_cases hj:i=j
    · subst hj
      by_cases hl:i<env.length
      · rw [List.getElem?_set_self hl] at h;cases h
      · rw [List.getElem?_eq_none (by simpa using Nat.le_of_not_lt hl)] at h;cases h
    · rw [List.getElem?_set_ne hj] at h h2;exact R.ob j ds a h h2
  · by_cases hj:i=j
    · subst hj
      by_cases hl:i<env.length
      · rw [List.getElem?_set_self hl] at h1;cases h1
      · rw [List.getElem?_eq_none (by simpa using Nat.le_of_not_lt hl)] at h1;cases h1
    · by_cases hk:i=k
      · subst hk
        by_cases hl:i<env.length
        · rw [List.getElem?_set_self hl] at h2;cases h2
        · rw [List.getElem?_eq_none (by simpa using Nat.le_of_not_lt hl)] at h2;cases h2
      · rw [List.getElem?_set_ne hj] at h1 h3
        rw [List.getElem?_set_ne hk] at h2 h4
        exact R.ap j k ds es a hne h1 h2 h3 h4
def flagsD (c:Str):D:=.lst ((flagsB c).map .bl)
def tryX (cs:List Str) (i j:Nat) (fb:FsX):FsX:=fun env=>(fb env).bind fun o=>match o with
  | .ex c d env'=>if c∈cs then some (.nx ((env'.set j (.F (flagsD c))).set i .un)) else none
  | o=>some o
theorem reps_bl {K:Fg} {H:Hp}:∀ (bs:List Bool),Reps K H (bs.map D.bl) (bs.map V.bl)
  | []=>rfl
  | _::bs=>⟨_,_,rfl,rfl,reps_bl bs⟩
theorem x0_try {X:Cx} {rg:Gr} {i j k:Nat} {HE:Addr} {n y:Str} {cs:List Str} {f:Addr} {fd:FuncData} {body:List Stmt} {fb:FsX} {p hp pos p1 p2 p3 p4 p5:Pos} {nm q:Str} {N:Addr} {bs:List Value} {sn:List Str} {sub:List Value} {ab:Bool} {col:Option Bool} {dd:Option Addr} {k0 k1 k2 k3 k5:Option Value}
    (T:TopX X) (hN:X.N.Nodup) (hij:i≠j) (hm:X.mg "HideError"=some (.ref HE)) (lk:X.K.lookup HE=some (clsO nm q HE N bs bmV sn sub ab col dd k0 k1 k2 k3 k5))
    (CT:∀ c∈cs,∀ C,X.mg c=some (.ref C)→ClF X.K X.mg HE c C) (F:FnH X.prog X.w X.K X.mg X.base k f fd [Str.ofString "e"] (spF X.K X.mg HE)) (hr:RoomH k X.A) (hf:X.mg "_law_flags"=some (.ref f)) (hk:PySem.W.keepIn X.K (.ref f)=true) (hb:Binds X.K fd [Str.ofString "e"] [])
    (hbody:∀ xe,SsX (X.wish xe) rg body fb)
    (hi:X.N[i]?=some n:=by rfl) (hl:X.env.scope.names.lookup n=some .local:=by rfl) (hj:X.N[j]?=some y:=by rfl) (hlj:Loc X.env.scope y:=by first | exact Or.inl rfl | exact Or.inr rfl) (hg:Gl X "HideError":=by rfl) (hgf:Gl X "_law_flags":=by rfl)
    (hd1:(n==("__debug__":Str))=false:=by decide) (hd2:(n==("__classdict__":Str))=false:=by decide)
    (hfj:X.fn y=true∨X.env.scope.names.lookup y=some .local:=by first | exact .inl rfl | exact .inr rfl)
    (hst:starEach [.Name n p3] X.env=(false,eval (.Name n p3) X.env)::starEach [] X.env:=by rfl)
    (hsw:swapsWith (.Call (.Name "_law_flags" p2) [.Name n p3] [] p4) (some (.Name y p1)) p5.line X.env=pure false:=by rfl) :
    SX0 X rg (.Try body [.ExceptHandler (some (.Name "HideError" p)) (some n) [.Assign [.Name y p1] (.Call (.Name "_law_flags" p2) [.Name n p3] [] p4) p5] hp] [] [] pos) (tryX cs i j fb):=by
  intro s σ H E I ⟨env,B,Z,o,R,e1,kk⟩
  refine ps_try T hN hi hl hg hm lk (tb:=fun xe=>TSx (X.wish xe) rg fb) (ts:=tAsg (tCall (spF X.K X.mg HE) [] E0 (tCons (tVar i) tNil)) (gName j)) hbody (fun e=>pss_one (ps_set hN hj hlj (pe_callH (X:=XH X e) F ⟨hr.dp,hr.un⟩ hgf hf hk hb (pa_cons (pe_var hi (.inl hl) hd1 hd2) pa_nil hst) (by decide) hst rfl) hsw hfj)) s σ H E I ?_
  intro xe hxe
  obtain ⟨o1,e2,e3⟩:=Option.bind_eq_some_iff.mp e1
  refine ⟨env,B,Z,o1,R,e2,?_⟩
  cases o1 with
  | nx env1=>cases e3;exact kk
  | rt d=>cases e3;exact kk
  | bk d=>cases e3;exact kk
  | ct d=>cases e3;exact kk
  | ex c d env'=>
    obtain ⟨hc,rfl⟩:=ifS e3
    intro σ' Z' H' C dx u x R' hmg hxd hu pins s' e I' hn he hr'
    have hC:=CT c hc C hmg
    refine hxe σ' H' s' pins e C dx I'.unwish hn he hr' hC.cg ?_
    have hiσ:i < σ'.length:=by rw [I'.len];exact (List.getElem?_eq_some_iff.mp hi).1
    refine ⟨.ref e,List.getElem?_set_self hiσ,.ref e,C,c,rfl,⟨e,dx,[("cell",u)],rfl,upd_same,?_⟩,hC,fun a H2 sa hna hla=>?_⟩
    · rw [upd_ne (fun z=>by rw [z,he] at hxd;cases hxd)];exact hxd
    have hHa:H' a=none:=by
      by_cases z:a=e
      · rw [z];exact he
      · rwa [upd_ne z] at hna
    have s0:Same H' H2:=(smUpd he).trans sa
    have hZa:Z' a=none:=x.zh.free hHa
    have x2:Ex Z' H' (upd Z' a (.lst ((flagsB c).map V.bl))) H2:=⟨s0,smUpd hZa,fun b ob hb=>by
      by_cases z:b=a
      · subst z;rw [upd_same] at hb;cases hb;exact hla
      · rw [upd_ne z] at hb;exact s0 _ _ (x.zh _ _ hb),fun b h1 h2=>by
      rw [upd_ne (fun z=>h1 (by rw [z];exact hHa))];exact h2⟩
    have R2:=((R'.ext x2).setF (d:=flagsD c) (v:=.ref a) j ⟨a,_,rfl,SqL.of upd_same,reps_bl _⟩).setU i none
    have es:(((σ'.set i (some (V.ref e))).set j (some (V.ref a))).set i none)=(σ'.set j (some (V.ref a))).set i none:=by
      rw [List.set_comm _ _ hij,List.set_set]
    show E.nx (((σ'.set i (some (V.ref e))).set j (some (V.ref a))).set i none) H2
    rw [es]
    exact kk _ _ _ (x.transB (Ex.part x.h x2)) R2
end Mi
namespace Mi
open PySem PySem.Spec PyProof.Rows L2
theorem iadd_seq {M:Model} {A:Around} {E:Value→Shared→Prop} {s:Shared} {a b:Value} {Q:Value→Shared→Prop} (ha:s.TypeIs a "list") (hb:s.TypeIs b "list")
    (hc:wpAny M A (call (.builtin "list.__iadd__") [a,b]) Q E s):wpAny M A (inplaceOp .Add a b) Q E s:=by
  unfold inplaceOp
  refine wpAny_holding ?_
  have hl:typeLookup (.type "list") (dunderI "add")=pure (some (.builtin "list.__iadd__")):=PySem.F.slot_list_iadd.lookup
  have hsl:isSeqSlot (some (.builtin "list.__iadd__"))=true:=by decide +kernel
  have hfi:fillsInplaceSlot (.type "list") "add" (Operator.Add==.Add)=pure false:=by
    unfold fillsInplaceSlot
    show (typeLookup (.type "list") (dunderI "add") >>= fun fi=>pure (fi.isSome&&!isSeqSlot fi))=pure false
    rw [hl]
    show (pure ((some (Value.builtin "list.__iadd__")).isSome&&!isSeqSlot (some (.builtin "list.__iadd__"))):Sem Bool)=pure false
    rw [hsl];rfl
  refine wpAny_bind (wpAny_typeOf ha (wpAny_bind (wpAny_of_eq hfi ?_)))
  show wpAny M A (if false=true then _ else _) Q E s
  rw [if_neg Bool.false_ne_true]
  refine wpAny_bind (PyProof.Rows.binaryOp1_none (nm:="add") ha hb noFill_list_add ?_)
  refine wpAny_bind (wpAny_of_eq (PySem.seqSlot_of hl hsl) ?_)
  exact wpAny_bind (wpAny_rule hc)
section
variable {X:Cx} {rg:Gr} {pos px:Pos} {x:Str} {e:Expr}
def ipL:TIp:=fun x y H Q=>∃ l b xs zs,x=.ref l∧y=.ref b∧H l=some (.lst xs)∧H b=some (.lst zs)∧xs.length+zs.length≤sizeLine∧Q (.ref l) (upd H l (.lst (xs++zs)))
theorem ip_list:PIp X .Add ipL:=by
  intro pins s σ H x y v u Q I rx ry h
  obtain ⟨l,b,xs,zs,rfl,rfl,hH,hB,hz,q⟩:=h
  cases (show v=Value.ref l from rx)
  cases (show u=Value.ref b from ry)
  obtain ⟨z,its,n,r,hl,e⟩:=I.lstM hH
  obtain ⟨z2,its2,n2,r2,hl2,e2⟩:=I.lstM hB
  have hsz:its.toArray.size+its2.toArray.size≤sizeLine:=by rw [List.size_toArray,List.size_toArray];omega
  have hlong:¬ (!its.toArray.isEmpty&&Builtin.List.listTooLong (its.toArray.size+its2.toArray.size))=true:=by
    rw [notLongL hsz,Bool.and_false]
    exact Bool.false_ne_true
  refine iadd_seq ⟨_,e,rfl⟩ ⟨_,e2,rfl⟩ (call_meets PySem.F.slot_list_iadd ⟨_,e,rfl⟩ PySem.F.entry_list_iadd (PySem.F.args_list_iadd_2 _ _)
    (AutoSeq1.list___iadd___list_list_0 l its.toArray n b its2.toArray n2 hlong (by rw [List.size_toArray];omega) (by omega)) ⟨e,e2,?_⟩)
  refine ⟨.ref l,_,I.lset (its':=its++its2) hH e (by simp) (r.append r2) ?_,rfl,q⟩
  rw [List.length_append]
  omega
theorem set_same {σ:L2.St} {i:Nat} {v:V} (h:σ[i]?=some (some v)):σ.set i (some v)=σ:=by
  apply List.ext_getElem?
  intro j
  by_cases z:i=j
  · subst z
    rw [List.getElem?_set_self (List.getElem?_eq_some_iff.mp h).1,h]
  · rw [List.getElem?_set_ne z]
theorem s_aug (i:Nat) {fe:Fe} (he:PD X .nw e fe) (hN:X.N.Nodup) (hi:X.N[i]?=some x:=by rfl) (hx:Loc X.env.scope x:=by first | exact Or.inl rfl | exact Or.inr rfl) (hf:X.fn x=true∨X.env.scope.names.lookup x=some .local:=by first | exact .inl rfl | exact .inr rfl | assumption) :
    SD X rg (.AugAssign (.Name x px) .Add e pos) (extF i fe):=by
  refine PS.imp (ps_aug hN hi hx he ip_list hf) fun E σ H ⟨env,B,Z,o,R,e,k⟩=>?_
  unfold extF at e
  split at e
  · rename_i ds hi
    obtain ⟨d,e1,e2⟩:=Option.bind_eq_some_iff.mp e
    cases d<;>try cases e2
    rename_i es
    obtain ⟨hl,rfl⟩:=ifS e2
    obtain ⟨y,e3,a,o,e4,e5,e6,vs,rfl,r⟩:=R.sl i _ hi
    subst e4
    refine ⟨_,e3,env,B,Z,_,R,e1,fun v Z1 H1 x1 g1=>?_⟩
    obtain ⟨b,us,es',rfl,e7,h1,h2,h3,r2⟩:=g1
    cases e7
    have R1:=R.ext x1
    have r1:=Reps.mono x1.z ds r
    refine ⟨a,b,vs,us,rfl,rfl,x1.h _ _ e5,h2,by rw [← r.len,← r2.len,sizeLine_eq];omega,?_⟩
    obtain ⟨R2,x2⟩:=R1.wr hi e3 (OwnOk.l (r1.app r2))
    rw [set_same e3]
    exact k σ Z1 _ ((x1.part R.bh).transB x2) R2
  · cases e
end
end Mi
namespace Mi
open PySem PySem.Spec PyProof.Rows L2
theorem unpackS {P:Program} {w:World} {A:Around} {E:Value→Shared→Prop} {l:Addr} {x:Value} {xs:List Value} {s:Shared} {Q:List Value→Shared→Prop} (hh:A.handled=none) (hl:s.heap.IsList l (x::xs).toArray) (hz:xs.length+1≤sizeLine)
    (hQ:∀ (h':Heap) (tk:Nat),(∀ b o,s.heap.get? b=some o→h'.get? b=some o)→Q [x,.ref h'.objs.size] { s with heap:=h'.push { cls:=.type "list",data:=.seq xs.toArray },toks:=tk }):wpAny (model P w) A (unpackItems (.ref l) 2 (some 1)) Q E s:=by
  have hlt:l≠s.heap.objs.size:=by obtain ⟨o,ho,_⟩:=hl;exact Nat.ne_of_lt (Heap.lt_size ho)
  have hl1:(s.heap.push { cls:=.type "list_iterator",data:=.fields #[.ref l,rawInt 0] }).IsList l (x::xs).toArray:=by obtain ⟨o,ho,r⟩:=hl;exact ⟨o,Heap.get?_push_of_some _ ho,r⟩
  unfold unpackItems
  refine wpAny_bind (m:=notIterableAtAll (.ref l)) ?_
  unfold notIterableAtAll
  refine wpAny_bind (wpAny_specialOf hl.typeIs PySem.slot_list_iter.lookup (wpAny_pure ?_))
  simp only [Bool.false_eq_true,if_false]
  refine wpAny_bind (wpAny_holding (wpAny_pyIter_list hl ?_))
  refine wpAny_bind (wpAny_holding (drawL hlt 1 0 _ _ ⟨_,Heap.get?_push_size _ rfl,rfl,rfl⟩ hl1 (by simp) fun h₁ hit₁ hs₁=>?_))
  have hl₁:h₁.IsList l (x::xs).toArray:=hl1.extBut hs₁.extBut hlt
  rw [Nat.zero_add] at hit₁
  have hit₁':=hit₁
  obtain ⟨oi,hoi,_⟩:=hit₁'
  have hl₁':=hl₁
  obtain ⟨ol,hol,_⟩:=hl₁'
  rw [show (((x::xs).toArray.toList.drop 0).take 1)=[x] from rfl,if_neg (show ¬ ([x].length<1) by simp)]
  refine wpAny_bind (wpAny_holding (PySem.W.kun_collect (s:={ s with heap:=h₁ }) (T:="list_iterator") (.inr (.inr (.inl rfl))) (Walks.list (A:=A.in1) hh s.heap.objs.size l hlt (x::xs).toArray) (fun j u st=>st.1.typeIs) (k:=1) (by simp) ⟨hit₁,hl₁⟩ (Heap.lt_size hoi) (Heap.lt_size hol) (fun h₂ tk hk=>?_) (by simpa using hz)))
  rw [show ((x::xs).toArray.toList.drop 1)=xs from rfl]
  show wpAny _ _ (if xs.length<0 then _ else _) _ _ _
  rw [if_neg (by omega)]
  show wpAny _ _ (newList (xs.take (xs.length-0)) >>= fun d=>pure ([x]++[d]++xs.drop (xs.length-0))) _ _ _
  rw [Nat.sub_zero,List.take_length,List.drop_length]
  have he:Heap.ExtBut s.heap.objs.size s.heap h₂:=fun b o hb e=>hk b o hb (hs₁.extBut b o hb (Heap.get?_push_of_some _ e))
  exact wpAny_bind (wpAny_newObj_type (wpAny_pure (hQ h₂ tk fun b o e=>he b o (Nat.ne_of_lt (Heap.lt_size e)) e)) (by show xs.toArray.size≤sizeLine;rw [List.size_toArray];omega))
section
variable {X:Cx} {rg:Gr}
def gStar (K:PySem.W.Frag) (t:TGs):TG:=fun v σ H Q=>∃ a x xs,v=.ref a∧SqL K H a (x::xs)∧∀ p,H p=none→t [x,.ref p] σ (upd H p (.lst xs)) Q
theorem pg_star {es:List Expr} {k:Nat} {t:TGs} {pos:Pos} (hc:X.calm=true) (h:PGs X es t) (hn:(assignEach es X.env).length=2:=by rfl) (hst:(assignEach es X.env).findIdx? (·.1)=some 1:=by rfl):PG X (.Tuple es k pos) (gStar X.K t):=by
  intro pins s σ H v u Q I r hw
  obtain ⟨a,x,xs,e1,hq,hw⟩:=hw
  subst e1
  cases r
  obtain ⟨its,rv,pl,hz⟩:=I.list hq
  cases rv with
  | @cons _ u0 _ us r0 rr=>
  have hlen:=rr.length
  rw [PyProof.Rows.assign_Tuple]
  refine wpAny_bind (wpAny_standAt ?_)
  unfold unpack
  rw [hst,hn]
  have hz2:us.length+1≤sizeLine:=by simp only [List.length_cons] at hz;omega
  refine wpAny_bind (wpAny_holding (unpackS (I.ok.hd hc) pl.isList hz2 fun h' tk hx=>?_))
  have I1:Inv X pins σ H { s with heap:=h',toks:=tk }:=I.kept (t':=tk) hx
  have I2:=I1.lnew (t':=tk) rr (by omega)
  exact h pins _ σ _ _ _ Q I2 (.cons r0 (.cons (show L2.RelV (.ref h'.objs.size) (Value.ref h'.objs.size) from rfl) .nil)) (hw _ I1.fresh)
theorem pgs_star {e:Expr} {t:TG} {p:Pos} (h1:PG X e t) (hs:(assignEach [.Starred e p] X.env).map (·.2)=[assign e X.env]:=by rfl):PGs X [.Starred e p] (gCons t gNil):=by
  intro pins s σ H vs us Q I r h
  obtain ⟨v,vr,e1,h⟩:=h
  subst e1
  cases r with
  | cons r rr=>
    rw [hs]
    refine assignInOrder_cons (thn (h1 pins s σ H _ _ _ I r h) fun _ s1 ⟨σ1,H1,I1,q1⟩=>?_)
    obtain ⟨rfl,q1⟩:=q1
    cases rr
    exact assignInOrder_nil ⟨σ1,H1,I1,q1⟩
def starF (i j:Nat) (f:Fe):Fs:=fun env=>(f env).bind fun d=>match d with
  | .lst (d::ds)=>some (.nx ((env.set i (.F d)).set j (.F (.lst ds))))
  | _=>none
theorem s_star (i j:Nat) {e:Expr} {fe:Fe} {k:Nat} {pos p1 p2 p3 p4:Pos} {x y:Str} (hc:X.calm=true) (he:PD X .cl e fe) (hN:X.N.Nodup) (hi:X.N[i]?=some x:=by rfl) (hj:X.N[j]?=some y:=by rfl)
    (hx:Loc X.env.scope x:=by first | exact Or.inl rfl | exact Or.inr rfl) (hy:Loc X.env.scope y:=by first | exact Or.inl rfl | exact Or.inr rfl)
    (hf:X.fn x=true∨X.env.scope.names.lookup x=some .local:=by first | exact .inl rfl | exact .inr rfl | assumption) (hf2:X.fn y=true∨X.env.scope.names.lookup y=some .local:=by first | exact .inl rfl | exact .inr rfl | assumption)
    (ha:(assignEach [.Name x p1,.Starred (.Name y p3) p4] X.env).map (·.2)=assign (.Name x p1) X.env::(assignEach [.Starred (.Name y p3) p4] X.env).map (·.2):=by rfl)
    (ha2:(assignEach [.Starred (.Name y p3) p4] X.env).map (·.2)=[assign (.Name y p3) X.env]:=by rfl)
    (hn:(assignEach [.Name x p1,.Starred (.Name y p3) p4] X.env).length=2:=by rfl) (hst:(assignEach [.Name x p1,.Starred (.Name y p3) p4] X.env).findIdx? (·.1)=some 1:=by rfl)
    (hs:swapsWithSole [.Tuple [.Name x p1,.Starred (.Name y p3) p4] k p2] e pos.line X.env=pure false:=by rfl) (hw:swappedStores [.Tuple [.Name x p1,.Starred (.Name y p3) p4] k p2] e X.env=pure none:=by rfl) (h1:(assignEach [.Tuple [.Name x p1,.Starred (.Name y p3) p4] k p2] X.env).map (·.2)=[assign (.Tuple [.Name x p1,.Starred (.Name y p3) p4] k p2) X.env]:=by rfl) :
    SD X rg (.Assign [.Tuple [.Name x p1,.Starred (.Name y p3) p4] k p2] e pos) (starF i j fe):=
  PS.imp (ps_asg he (pg_star hc (pgs_cons (pg_name hN hi hx hf) (pgs_star (pg_name hN hj hy hf2) ha2) ha) hn hst) hs hw h1) fun E σ H ⟨env,B,Z,o,R,e,k⟩=>by
  obtain ⟨d,e1,e⟩:=Option.bind_eq_some_iff.mp e
  cases d<;>try cases e
  rename_i ds
  cases ds with
  | nil=>cases e
  | cons d ds=>
    cases e
    refine ⟨env,B,Z,_,R,e1,fun v Z1 H1 x1 g1=>?_⟩
    obtain ⟨a,vs,rfl,hq,rr⟩:=g1
    obtain ⟨v0,vr,rfl,r0,r1⟩:=rr
    refine ⟨a,v0,vr,rfl,x1.zh.seq hq,fun p hp=>?_⟩
    have x2:Ex Z1 H1 (upd Z1 p (.lst vr)) (upd H1 p (.lst vr)):=by
      refine ⟨smUpd hp,smUpd (x1.zh.free hp),fun b ob hb=>?_,fun b h1 h2=>?_⟩
      · by_cases z:b=p
        · subst z;rw [upd_same] at hb ⊢;exact hb
        · rw [upd_ne z] at hb ⊢;exact x1.zh _ _ hb
      · rw [upd_ne (fun z=>h1 (by rw [z];exact hp))];exact h2
    refine ⟨v0,_,rfl,.ref p,_,rfl,rfl,?_⟩
    have s1:Same Z1 (upd Z1 p (.lst vr)):=x2.z
    have R2:=(((R.ext x1).ext x2).setF (d:=d) (v:=v0) i (Rep.mono s1 d r0)).setF (d:=.lst ds) (v:=.ref p) j ⟨p,vr,rfl,SqL.of upd_same,Reps.mono s1 ds r1⟩
    exact k _ _ _ ((x1.trans x2).part R.bh) R2
end
end Mi
namespace Mi
open PySem PySem.Spec PyProof.Rows L2
section
variable {X:Cx} {rg:Gr} {pins:List (Addr×Obj)} {s:Shared} {σ:L2.St} {H:Hp}
theorem map_eqVal (I:Inv X pins σ H s) (dx:D) (hx:pl dx=true):∀ {es:List D} {ys:List V} {us:List Value},pls es=true→Reps X.K H es ys→Vals ys us→us.map (eqVal s.heap (toPy dx))=es.map fun e=>eqD e dx
  | [],_,_,_,h,r=>by cases (show _=[] from h);cases r;rfl
  | e::es,_,_,hp,h,r=>by
    unfold pls at hp
    rw [Bool.and_eq_true] at hp
    obtain ⟨v,vr,z,h1,h2⟩:=h
    subst z
    cases r with
    | cons r1 r2=>
      obtain ⟨as,q⟩:=reads_of I e hp.1 h1 r1
      have ih:=map_eqVal I dx hx hp.2 h2 r2
      rw [List.map_cons,List.map_cons,ih,eqVal_of q (can_of e h1),eqv_eqD _ _ hp.1 hx]
def idxF:D→D→Option D
  | .lst es,d=>if dep d≤60∧(pl d&&pls es)=true∧inD d es=true then some (.int (es.findIdx fun e=>eqD e d)) else none
  | _,_=>none
def rIndex (K:Fg):V→List V→Hp→VK→Prop:=fun x vs H Q=>∃ dx es p ys y,x=.ref p∧vs=[y]∧Rep K H dx y∧SqL K H p ys∧Reps K H es ys∧(dep dx≤60∧(pl dx&&pls es)=true∧inD dx es=true)∧Q (.int (es.findIdx fun e=>eqD e dx)) H
theorem mt_index (hu:X.A.units+66<cLine):MtR X "list.index" (rIndex X.K):=by
  intro pins s σ H x xs v us Q I rx rv h
  obtain ⟨dx,es,p,ys,y,rfl,rfl,h1,h2,rr,⟨hd,hpp,hin⟩,q⟩:=h
  rw [Bool.and_eq_true] at hpp
  obtain ⟨hpx,hpe⟩:=hpp
  cases rx
  obtain ⟨u,rfl,ru⟩:=rv.one
  have hu':X.A.in1.units+64<cLine:=by show X.A.units+1+64<cLine;omega
  obtain ⟨its,r',pl,hz⟩:=I.list h2
  have hm:=map_eqVal I dx hpx hpe rr r'
  have hall:∀ y,y∈its.toArray→SeqAt.EqAt X.A.in1 s y u (eqVal s.heap (toPy dx) y):=fun y hy=>all_eqAt I h1 ru hu' hd hpx hpe rr r' y (by simpa using hy)
  have hj:es.findIdx (fun e=>eqD e dx)<es.length:=List.findIdx_lt_length_of_exists (by unfold inD at hin;rw [List.any_eq_true] at hin;exact hin)
  have hl1:=rr.len
  have hl2:=r'.length
  obtain ⟨⟨cls,dd,data,sl⟩,n,ho,c1,c2,c3⟩:=pl
  simp only at c1 c2 c3
  subst c1 c2 c3
  have at_:∀ m (h1:m<its.length) (h2:m<es.length),eqVal s.heap (toPy dx) its[m]=eqD es[m] dx:=fun m h1 h2=>by
    have e1:(its.map (eqVal s.heap (toPy dx)))[m]'(by simpa using h1)=eqVal s.heap (toPy dx) its[m]:=by simp
    have e2:(es.map fun e=>eqD e dx)[m]'(by simpa using h2)=eqD es[m] dx:=by simp
    rw [← e1,← e2]
    simp only [hm]
  refine call_meets PySem.F.slot_list_index ⟨_,ho,rfl⟩ PySem.F.entry_list_index (PySem.F.args_list_index_2 _ _)
    (PySem.SeqAt.list_indexAt p its.toArray n _ sl u (eqVal s.heap (toPy dx)) (es.findIdx fun e=>eqD e dx) (by rw [List.size_toArray];omega) (by rw [sizeLine_eq] at hz;omega) ?_ ?_) ⟨ho,hall,⟨.int _,H,I.kept (t':=s.toks+1) (fun _ _ e=>e),⟨_,rfl⟩,q⟩⟩
  · show eqVal s.heap (toPy dx) its[es.findIdx fun e=>eqD e dx]=true
    rw [at_ _ (by omega) hj]
    exact List.findIdx_getElem (p:=fun e=>eqD e dx)
  · intro m hms hlt
    show eqVal s.heap (toPy dx) its[m]=false
    rw [List.size_toArray] at hms
    rw [at_ m hms (by omega)]
    exact Bool.eq_false_iff.mpr (by simpa using List.not_of_lt_findIdx (p:=fun e=>eqD e dx) hlt)
variable {o e:Expr} {fa fb:Fe} {apos cpos:Pos} {k:Nat}
theorem m_index (hr:Room k X.A) (ha:PD X .cl o fa) (hb:PD X .cl e fb) (hbase:attributeBase o "index" X.env (eval o X.env)=eval o X.env:=by rfl)
    (hfew:((backTo cpos (starEach [e] X.env)).all (fun x=>!x.1)&&(backToKw cpos (keywordEach [] X.env)).all (fun x=>x.1.isSome)
      && decide ([e].length+([]:List Keyword).length+(if ([]:List Keyword).isEmpty then 0 else 1)<30))=true:=by rfl)
    (hline:(apos.endLine==cpos.line)=true:=by rfl) (hst:starEach [e] X.env=(false,eval e X.env)::starEach [] X.env:=by rfl) :
    PD X .cl (.Call (.Attribute o "index" apos) [e] [] cpos) (op2 idxF fa fb):=
  PE.imp (pe_bm PySem.F.plainAttrs_list PySem.F.slot_list_index PySem.F.type_list_index (mt_index (units66 hr)) ha (pa_cons hb pa_nil hst) hbase hfew hline hst rfl) fun σ H Q ⟨env,B,Z,d,R,e,kq⟩=>by
  obtain ⟨da,e1,e⟩:=Option.bind_eq_some_iff.mp e
  obtain ⟨db,e2,e⟩:=Option.bind_eq_some_iff.mp e
  cases da<;>try cases e
  rename_i es _
  obtain ⟨hc,rfl⟩:=ifS e
  refine ⟨env,B,Z,_,R,e1,fun v Z1 H1 x1 g1=>?_⟩
  obtain ⟨a,vs,rfl,hq,rr⟩:=g1
  refine ⟨.inl ⟨rfl,vs,x1.zh.seq hq⟩,env,B,Z1,db,R.ext x1,e2,fun v2 Z2 H2 x2 g2=>?_⟩
  exact ⟨db,es,a,vs,v2,rfl,rfl,Rep.mono x2.zh _ g2,x2.h.seq (x1.zh.seq hq),Reps.mono x2.zh _ (Reps.mono x2.z _ rr),hc,kq _ Z2 H2 (x1.trans x2) rfl⟩
end
end Mi
namespace Mi
open PySem PySem.Spec PyProof.Rows L2
inductive LexAt (A:Around) (s:Shared) (q:Bool):List Value→List Value→Prop
  | nil:q=false→LexAt A s q [] []
  | less {w:Value} {ws:List Value}:q=true→LexAt A s q [] (w::ws)
  | more {v:Value} {vs:List Value}:q=false→LexAt A s q (v::vs) []
  | same {v w:Value} {vs ws:List Value}:SeqAt.EqAt A s v w true→LexAt A s q vs ws→LexAt A s q (v::vs) (w::ws)
  | apart {v w:Value} {vs ws:List Value}:SeqAt.EqAt A s v w false→(∀ (prog:Program) (wd:World) (E:Value→Shared→Prop) (Q:Value→Shared→Prop),Q (.bool q) s→wpAny (model prog wd) A (richCompare .Lt v w) Q E s)→LexAt A s q (v::vs) (w::ws)
section
open PySem.SeqAt
open PySem.AutoSeq1 (wpAny_loadPart')
open PySem.MeetsSeq PySem.MeetsSeq2 PySem.MeetsSeq3
end
theorem unKey_eq:∀ {ds es:List D} {ks js:List Key},unKey ds=some ks→unKey es=some js→eqDs ds es=decide (ks=js)
  | [],[],_,_,h1,h2=>by cases h1;cases h2;rfl
  | [],e::es,_,_,h1,h2=>by
    cases h1
    cases e<;>try cases h2
    all_goals
      obtain ⟨ks',e1,e2⟩:=Option.bind_eq_some_iff.mp h2
      cases e2
      simp [eqDs]
  | d::ds,[],_,_,h1,h2=>by
    cases h2
    cases d<;>try cases h1
    all_goals
      obtain ⟨ks',e1,e2⟩:=Option.bind_eq_some_iff.mp h1
      cases e2
      simp [eqDs]
  | d::ds,e::es,_,_,h1,h2=>by
    cases d<;>try cases h1
    all_goals
      obtain ⟨ks',e1,e2⟩:=Option.bind_eq_some_iff.mp h1
      cases e2
      cases e<;>try cases h2
      all_goals
        obtain ⟨js',e3,e4⟩:=Option.bind_eq_some_iff.mp h2
        cases e4
        have ih:=unKey_eq e1 e3
        rw [Bool.eq_iff_iff]
        simp [eqDs,eqD,ih]
section
variable {X:Cx} {pins:List (Addr×Obj)} {s:Shared} {σ:L2.St} {H:Hp}
variable {l r:Expr} {fa fb:Fe} {ga gb:Gr} {pos p:Pos} {k:Nat}
end
end Mi
namespace Mi
open PySem PySem.Spec PyProof.Rows L2
def asT:D→Option Bool
  | .lst ds=>some !ds.isEmpty
  | _=>none
def fT (f:Fe):Fb:=fun env=>(f env).bind asT
theorem b_tru {X:Cx} {e:Expr} {f:Fe} (h:PD X .cl e f) (he:∀ whole,isTrue e X.env whole=(do let v ← whole;standAt e.pos;holding [v] (truthy v)):=by intro _;rfl):PB X e (fT f):=
  PT.imp (pt_truth h he) fun σ H Q ⟨env,B,Z,b,R,e,k⟩=>by
    obtain ⟨d,h1,h2⟩:=Option.bind_eq_some_iff.mp e
    cases d<;>cases h2
    rename_i ds
    refine ⟨env,B,Z,_,R,h1,fun v Z' H' x g=>?_⟩
    obtain ⟨a,vs,rfl,hq,rr⟩:=g
    have hl:=rr.len
    have:(!ds.isEmpty)=!vs.isEmpty:=by cases ds<;>cases vs<;>first | rfl | (simp at hl)
    exact ⟨_,.inl ⟨vs,x.zh.seq hq,rfl⟩,by rw [← this];exact k Z' H' x⟩
end Mi
namespace Mi
open PySem PySem.Spec PyProof.Rows L2 Xc
theorem fn_never {P:Program} {w:World} {K:Fg} {mg:Str→Option Value} {base:Heap} {k n:Nat} {f:Addr} {fd:FuncData} {ps:List Str} {g:Gr}:FnOk P w K mg base CX0 k f fd ps (spD K n g fun _=>none):=
  ⟨fun vs H Q E ⟨_,_,_,_,_,_,e,_⟩=>(by cases e),fun A outer s H args us vs Q E _ _ _ _ ⟨_,_,_,_,_,_,e,_⟩=>(by cases e)⟩
section
variable {K:Fg} {mg:Str→Option Value} {C D HE fI:Addr} {nm q nm2 q2:Str} {N N2:Addr} {bs bs2 bm bm2:List Value} {sn sn2:List Str} {sub sub2:List Value} {ab ab2:Bool} {col col2:Option Bool} {dd dd2:Option Addr} {k0 k1 k2 k3 k5 j0 j1 j2 j3 j5:Option Value}
theorem mro_of {b:Value} (lC:K.lookup C=some (clsO nm q C N bs bm sn sub ab col dd k0 k1 k2 k3 k5)):PySem.W.mroIn K C b=some ((Value.ref C::bm).contains b):=by
  unfold PySem.W.mroIn PySem.W.clsIn
  rw [lC]
  rfl
theorem kit_ref (lC:K.lookup C=some (clsO nm q C N bs (.ref HE::bmV) sn sub ab col dd k0 k1 k2 k3 k5)) (lD:K.lookup D=some (clsO nm2 q2 D N2 bs2 bm2 sn2 sub2 ab2 col2 dd2 j0 j1 j2 j3 j5)) (hD:D≠HE) :
    PySem.W.kitOne K (.ref C) (.ref D)=some (decide (D=C)):=by
  unfold PySem.W.kitOne
  by_cases h:D=C
  · subst h
    rw [if_pos (beq_self_eq_true _),decide_eq_true rfl]
  · rw [if_neg (fun z=>h (Value.ref.inj (beq_iff_eq.mp z)).symm),decide_eq_false h]
    unfold PySem.W.kitCls
    have h1:((PySem.W.clsIn K D).isSome&&PySem.W.typeIn K (.ref D)==some (.type "type"))=true:=by
      have e1:PySem.W.typeIn K (.ref D)=some (.type "type"):=(congrArg (Option.map (fun x:Obj=>x.cls)) lD)
      rw [e1]
      unfold PySem.W.clsIn
      rw [lD]
      rfl
    show (if ((PySem.W.clsIn K D).isSome&&PySem.W.typeIn K (.ref D)==some (.type "type"))=true then PySem.W.subIn K (.ref C) (.ref D) else none)=_
    rw [if_pos h1]
    show PySem.W.mroIn K C (.ref D)=some false
    rw [mro_of lC]
    have c1:(Value.ref D==Value.ref C)=false:=beq_eq_false_iff_ne.mpr (fun z=>h (Value.ref.inj z))
    have c2:(Value.ref D==Value.ref HE)=false:=beq_eq_false_iff_ne.mpr (fun z=>hD (Value.ref.inj z))
    rw [List.contains_cons,c1,List.contains_cons,c2]
    rfl
theorem kit_val (lC:K.lookup C=some (clsO nm q C N bs (.ref HE::bmV) sn sub ab col dd k0 k1 k2 k3 k5)) (hm:PySem.W.kitMeta "ValueError"=true:=by decide +kernel):PySem.W.kitOne K (.ref C) (.type "ValueError")=some true:=by
  unfold PySem.W.kitOne
  rw [if_neg (fun z=>by cases (beq_iff_eq.mp z))]
  show (if PySem.W.kitMeta "ValueError"=true then PySem.W.subIn K (.ref C) (.type "ValueError") else none)=_
  rw [if_pos hm]
  show PySem.W.mroIn K C (.type "ValueError")=some true
  rw [mro_of lC,List.contains_cons,tl_v.v,Bool.or_true]
def OtherC (K:Fg) (mg:Str→Option Value) (HE C:Addr) (c n:Str):Prop:=∃ D,mg n=some (.ref D)∧(∃ nm q N bs bm sn sub ab col dd k0 k1 k2 k3 k5,K.lookup D=some (clsO nm q D N bs bm sn sub ab col dd k0 k1 k2 k3 k5))∧D≠HE∧(D=C↔n=c)
theorem clf_of {c:Str} (ec:EC K C HE fI) (ga:PySem.W.findIn K (.ref C) "__getattribute__"=some (some (.builtin "BaseException.__getattribute__"))) (gt:PySem.W.findIn K (.ref C) "__getattr__"=some none) (cl:PySem.W.findIn K (.ref C) "__class__"=some (some (.builtin "object.__class__")))
    (o:∀ n∈xNames,OtherC K mg HE C c n):ClF K mg HE c C:=by
  obtain ⟨nm,q,N,bs,sn,sub,ab,col,dd,k0,k1,k2,k3,k5,lC⟩:=ec.lk
  refine ⟨⟨⟨nm,q,N,bs,_,sn,sub,ab,col,dd,k0,k1,k2,k3,k5,tl_v,lC⟩,⟨ga,gt,cl,?_⟩⟩,⟨nm,q,N,bs,_,sn,sub,ab,col,dd,k0,k1,k2,k3,k5,?_,lC⟩,fun n hn D hD=>?_,kit_val lC⟩
  · rw [mro_of lC,List.contains_cons,tl_v.o,Bool.or_true]
  · rw [List.contains_cons,List.contains_cons,beq_self_eq_true,Bool.true_or,Bool.or_true]
  · obtain ⟨D',e,⟨_,_,_,_,_,_,_,_,_,_,_,_,_,_,_,lD⟩,h1,h2⟩:=o n hn
    have:D'=D:=Value.ref.inj (Option.some.inj (e.symm.trans hD))
    subst this
    rw [kit_ref lC lD h1]
    congr 1
    rw [Bool.eq_iff_iff]
    simp [h2]
end
structure TrX (P:Program) (w:World) (K:Fg) (mg:Str→Option Value) (base:Heap) (cs:List Str):Prop where
  ex:∃ HE nm q N bs sn sub ab col dd k0 k1 k2 k3 k5 f fd,mg "HideError"=some (.ref HE)∧K.lookup HE=some (clsO nm q HE N bs bmV sn sub ab col dd k0 k1 k2 k3 k5)∧(∀ c∈cs,∀ C,mg c=some (.ref C)→ClF K mg HE c C)∧
    FnH P w K mg base 1 f fd [Str.ofString "e"] (spF K mg HE)∧mg "_law_flags"=some (.ref f)∧PySem.W.keepIn K (.ref f)=true∧Binds K fd [Str.ofString "e"] []
theorem x0_tryT {X:Cx} {rg:Gr} {k:Nat} (i j:Nat) {n y:Str} {cs:List Str} {body:List Stmt} {fb:FsX} {p hp pos p1 p2 p3 p4 p5:Pos}
    (TX:TrX X.prog X.w X.K X.mg X.base cs) (hr:Room k X.A) (hk1:1≤k) (T:TopX X) (hN:X.N.Nodup) (hij:i≠j) (hbody:∀ xe,SsX (X.wish xe) rg body fb)
    (hi:X.N[i]?=some n:=by rfl) (hl:X.env.scope.names.lookup n=some .local:=by rfl) (hj:X.N[j]?=some y:=by rfl) (hlj:Loc X.env.scope y:=by first | exact Or.inl rfl | exact Or.inr rfl) (hg:Gl X "HideError":=by rfl) (hgf:Gl X "_law_flags":=by rfl)
    (hd1:(n==("__debug__":Str))=false:=by decide) (hd2:(n==("__classdict__":Str))=false:=by decide)
    (hfj:X.fn y=true∨X.env.scope.names.lookup y=some .local:=by first | exact .inl rfl | exact .inr rfl)
    (hst:starEach [.Name n p3] X.env=(false,eval (.Name n p3) X.env)::starEach [] X.env:=by rfl)
    (hsw:swapsWith (.Call (.Name "_law_flags" p2) [.Name n p3] [] p4) (some (.Name y p1)) p5.line X.env=pure false:=by rfl) :
    SX0 X rg (.Try body [.ExceptHandler (some (.Name "HideError" p)) (some n) [.Assign [.Name y p1] (.Call (.Name "_law_flags" p2) [.Name n p3] [] p4) p5] hp] [] [] pos) (tryX cs i j fb):=by
  obtain ⟨HE,nm,q,N,bs,sn,sub,ab,col,dd,k0,k1,k2,k3,k5,f,fd,hm,lk,CT,F,hf,hk,hb⟩:=TX.ex
  have hr1:=hr.mono hk1
  exact x0_try T hN hij hm lk CT F ⟨hr1.dp,hr1.un⟩ hf hk hb hbody hi hl hj hlj hg hgf hd1 hd2 hfj hst hsw
end Mi
namespace Mi
open PySem PySem.Spec PyProof.Rows L2 Xc
section
variable {K:Fg} {mg:Str→Option Value} {HE C:Addr} {c:Str}
theorem ct_nil:∀ c∈([]:List Str),∀ C,mg c=some (.ref C)→ClF K mg HE c C:=fun _ h=>nomatch h
theorem ct_cons {c0:Str} {C0:Addr} {cs:List Str} (m:mg c0=some (.ref C0)) (h:ClF K mg HE c0 C0) (t:∀ c∈cs,∀ C,mg c=some (.ref C)→ClF K mg HE c C):∀ c∈c0::cs,∀ C,mg c=some (.ref C)→ClF K mg HE c C:=fun c hc C hC=>by
  rcases List.mem_cons.mp hc with rfl | hc
  · have:C0=C:=Value.ref.inj (Option.some.inj (m.symm.trans hC))
    subst this
    exact h
  · exact t c hc C hC
theorem ot_nil:∀ n∈([]:List Str),OtherC K mg HE C c n:=fun _ h=>nomatch h
theorem ot_cons {n0:Str} {ns:List Str} (h:OtherC K mg HE C c n0) (t:∀ n∈ns,OtherC K mg HE C c n):∀ n∈n0::ns,OtherC K mg HE C c n:=fun n hn=>by
  rcases List.mem_cons.mp hn with rfl | hn
  · exact h
  · exact t n hn
end
end Mi
namespace Mi
open PySem PySem.Spec PyProof.Rows L2
section
variable {prog:Program} {w:World} {A:Around} {E:Value→Shared→Prop} {s:Shared}
end
section
variable {X:Cx} {l e:Expr} {fa:Fe} {ga:Gr} {pos p2 p3 p4:Pos}
end
end Mi
namespace Mi
open PySem PySem.Spec PyProof.Rows L2
section
open PySem.AutoSeq1 (wpAny_loadPart')
end
section
variable {X:Cx} {l r:Expr} {fa fb:Fe} {ga gb:Gr} {pos p:Pos}
end
end Mi
namespace Mi
open PySem PySem.Spec PyProof.Rows L2
section
variable {prog:Program} {w:World} {A:Around} {E:Value→Shared→Prop} {s:Shared}
theorem getItem_tuple_whole {t sl:Addr} {items:Array Value} {vl vu:Value} {lo hi:Option Int} {Q:Value→Shared→Prop} (ht:IsTup s.heap t items) (hs:s.heap.IsSliceOf sl vl vu .none) (pl:IsPart vl lo) (pu:IsPart vu hi)
    (hw:HT.sIx items.size 0 lo=0∧HT.sIx items.size items.size hi=items.size) (h:Q (.ref t) s):wpAny (model prog w) A (getItem (.ref t) (.ref sl)) Q E s:=by
  obtain ⟨os,hos,hcs,hds⟩:=id hs
  have hTs:s.TypeIs (.ref sl) "slice":=⟨os,hos,hcs⟩
  unfold getItem
  try with_reducible refine wpAny_holding ?_
  first | refine wpAny_bind (wpAny_pure ?_) | skip
  refine wpAny_bind (wpAny_sequenceKey ht.typeIs (by decide) ?_)
  refine wpAny_bind (wpAny_callSpecial?_slot (name:=Str.ofString "__getitem__") ht.typeIs PyProof.Rows.slot_tuple_getitem
    (wpAny_call_entry PyProof.Rows.slot_tuple_getitem ht.typeIs entry_tuple_getitem ?_ (args_tuple_getitem _ _)))
  show wpAny _ _ (Builtin.Tuple.tupleItemsOf (.ref t) >>= _) _ _ s
  refine wpAny_bind (tupleItemsOf_ ht ?_)
  refine wpAny_bind (wpAny_typeOf hTs ?_)
  rw [if_pos (by decide)]
  refine wpAny_bind (HT.sliceApplied_gen hs pl pu ?_)
  have hyes:(((HT.sIx items.size 0 lo:Nat):Int)==0&&(1:Int)==1&&(HT.sIx items.size items.size hi-HT.sIx items.size 0 lo)==items.size)=true:=by
    rw [hw.1,hw.2];simp
  show wpAny _ _ (if (((HT.sIx items.size 0 lo:Nat):Int)==0&&(1:Int)==1&&(HT.sIx items.size items.size hi-HT.sIx items.size 0 lo)==items.size)=true then _ else _) _ _ s
  rw [if_pos hyes]
  refine wpAny_bind (m:=Builtin.Tuple.tupleIsExact (.ref t)) ?_
  unfold Builtin.Tuple.tupleIsExact
  refine wpAny_bind (wpAny_typeOf ht.typeIs (wpAny_pure ?_))
  show wpAny _ _ (if (Value.type "tuple"==.type "tuple")=true then _ else _) _ _ s
  rw [if_pos (by decide)]
  refine wpAny_bind (wpAny_rule ?_)
  first
    | exact wpAny_pure ⟨_,rfl,wpAny_pure h⟩
    | exact wpAny_bind (wpAny_pure (wpAny_pure ⟨_,rfl,wpAny_pure h⟩))
    | exact wpAny_bind (wpAny_pure ⟨_,rfl,wpAny_pure h⟩)
end
section
variable {X:Cx} {l:Expr} {fa:Fe} {ga:Gr} {pos p2:Pos} {lo hi:Option Expr} {fl fh:En→Option (Option Int)}
def rSlW (K:Fg):V→Option Int→Option Int→Hp→VK→Prop:=fun x lo hi H Q=>∃ a xs,x=.ref a∧SqT K H a xs∧(HT.sIx xs.length 0 lo=0∧HT.sIx xs.length xs.length hi=xs.length)∧Q (.ref a) H
theorem sl_whole:SlR X (rSlW X.K):=by
  intro pins s σ H x v vl vu lo hi sl Q I rx hs pl pu h
  obtain ⟨a,xs,rfl,hx,hw,q⟩:=h
  cases rx
  obtain ⟨its,r,ht,hz⟩:=I.tuple hx
  have hlen:its.toArray.size=xs.length:=by rw [List.size_toArray];exact r.length.symm
  exact ⟨"tuple",_,PyProof.Rows.slot_tuple_getitem.lookup,ht.typeIs,getItem_tuple_whole ht hs pl pu (by rw [hlen];exact hw) ⟨.ref a,H,I,rfl,q⟩⟩
def cutTupW:D→Option Int→Option Int→Option D
  | .tup ds,lo,hi=>some (.tup (cutD ds lo hi))
  | _,_,_=>none
theorem m_slW (ha:PD X .cl l fa) (hl:PDo X lo fl) (hh:PDo X hi fh):PD X .cl (.Subscript l (.Slice lo hi none p2) pos) (slF cutTupW fa fl fh):=PE.imp (pe_slice (SlR.or sl_tup sl_whole) ha hl hh) fun σ H Q ⟨env,B,Z,d,R,e,k⟩=>by
  obtain ⟨x,h1,e⟩:=Option.bind_eq_some_iff.mp e
  obtain ⟨i,h2,e⟩:=Option.bind_eq_some_iff.mp e
  obtain ⟨j,h3,e⟩:=Option.bind_eq_some_iff.mp e
  cases x<;>try cases e
  rename_i ds _ _
  refine ⟨env,B,Z,_,R,h1,fun v Z1 H1 x1 g1=>⟨env,B,Z1,i,R.ext x1,h2,fun Z2 H2 x2=>⟨env,B,Z2,j,(R.ext x1).ext x2,h3,fun Z3 H3 x3=>?_⟩⟩⟩
  have x0:=(x1.trans x2).trans x3
  have g3:Rep X.K Z3 (.tup ds) v:=Rep.mono x3.z _ (Rep.mono x2.z _ g1)
  obtain ⟨a,vs,rfl,hq,rr⟩:=id g3
  have hlen:=rr.len
  by_cases hw:HT.sIx vs.length 0 i=0∧HT.sIx vs.length vs.length j=vs.length
  · refine .inr ⟨a,vs,rfl,sameT x3.zh hq,hw,k _ Z3 H3 x0 ?_⟩
    have e:cutD ds i j=ds:=by
      unfold cutD
      rw [hlen,hw.1,hw.2,← hlen]
      simp
    rw [e];exact g3
  · refine .inl ⟨a,vs,rfl,sameT x3.zh hq,hw,fun q hp=>?_⟩
    have s1:Same Z3 (upd Z3 q (.tup (cutV vs i j))):=smUpd (x3.zh.free hp)
    exact k _ _ _ (x0.trans (Ex.new x3.zh hp)) ⟨q,_,rfl,SqT.of upd_same,Reps.mono s1 _ (rr.cut i j)⟩
end
end Mi
namespace Mi
open PySem PySem.Spec PyProof.Rows L2 Xc
def spXM (mg:Str→Option Value) (K:Fg) (m:List D→Option Rs):Sp:=fun vs H Q E=>∃ Z B ds xs a r,vs=[.ref a]∧Same Z H∧Same B H∧B a=none∧Z a=none∧H a=some (.lst xs)∧Reps K Z ds xs∧m [.lst ds]=some r∧match r with
  | .ok d=>∀ v Z' H',Ex Z B Z' H'→Gd K Z' B H' .nw d v→Q v H'
  | .error (c,d)=>∀ C dx u Z' H',mg c=some (.ref C)→Ex Z B Z' H'→H' dx=some (.xd [("cell",u)])→Rep K Z' d u→E (.ref C) (some dx) H'
def runXM (f:FsX):List D→Option Rs
  | [.lst ds]=>(f [.O (.L ds)]).bind fun o=>match o with
    | .rt d=>some (.ok d)
    | .ex c d _=>some (.error (c,d))
    | _=>none
  | _=>none
theorem Rl.one {K:Fg} {B Z H:Hp} {x:Str} {a:Addr} {xs:List V} {ds:List D} (s1:Same Z H) (sb:Same B H) (hb:B a=none) (hz:Z a=none) (hh:H a=some (.lst xs)) (r:Reps K Z ds xs):Rl K B Z H [.O (.L ds)] (L2.start [x] [.ref a]):=by
  refine ⟨sb,s1,rfl,fun i sl h=>?_,fun i w b h h2=>?_,fun i j w es b hne h1 h2=>?_⟩
  · match i,h with
    | 0,h=>cases h;exact ⟨some (.ref a),rfl,a,.lst xs,rfl,hh,hz,OwnOk.l r⟩
    | n+1,h=>cases h
  · match i,h,h2 with
    | 0,h,h2=>cases h2;exact hb
    | n+1,h,h2=>cases h
  · match i,j,h1,h2 with
    | 0,0,_,_=>exact absurd rfl hne
    | n+1,_,h,_=>cases h
    | 0,n+1,_,h=>cases h
section
variable {P:Program} {w:World} {K:Fg} {mg:Str→Option Value} {base:Heap}
theorem okXM {x qual:Str} {st:Stmt} {f:Addr} {fd:FuncData} {y:Str} {k:Nat} {m:List D→Option Rs} {fb:FsX} (F:Fun K x qual st f fd) (S:FnScope [y] [y] (defScope st))
    (hb:∀ (cdv:Value) (A:Around) (outer:List Env) (s:Shared) (H:Hp) (E:XK),Room k (A.deeper (envOfC qual (defScope st) s.heap.objs.size f cdv))→SsX (cxOf (CXM P w) P w K mg base [y] qual (defScope st) f cdv A outer s H E) .nw (defBody st) fb)
    (hm:∀ ds r,m ds=some r→runXM fb ds=some r):FnOk P w K mg base (CXM P w) (k+1) f fd [y] (spXM mg K m):=by
  obtain ⟨oc,od,kV,doc,pm,an,cdv,ct,osl,rfl,lk,hcd⟩:=F.ex
  refine fn_of lk hcd S (fun vs H Q E ⟨Z,B,ds,xs,a,r,h,_⟩=>by rw [h];rfl) fun A outer s H vs Q E hr ⟨Z,B,ds,xs,a,rs,hv,s1,sb,hBa,hZa,hHa,r,e,kk⟩=>?_
  subst hv
  refine ⟨_,hb cdv A outer s H E hr,?_⟩
  obtain ⟨o,e1,e2⟩:=Option.bind_eq_some_iff.mp (hm _ rs e)
  refine ⟨_,B,Z,o,Rl.one s1 sb hBa hZa hHa r,e1,?_⟩
  cases o with
  | rt d'=>cases e2;exact kk
  | nx _=>cases e2
  | bk _=>cases e2
  | ct _=>cases e2
  | ex c d env=>
    cases e2
    exact fun σ Z' H' C dx u x R hmg hxd hu pins s' e I hn he hr'=>leave_wants σ C pins H' s' e dx I hn he hr' (kk C dx u Z' H' hmg x hxd hu)
end
def runXr (f:FsX) (n:Nat) (ds:List D):Option Rs:=(f (startE n ds)).bind fun o=>match o with
  | .rt d=>some (.ok d)
  | .ex c d _=>some (.error (c,d))
  | _=>none
theorem okXr {P:Program} {w:World} {K:Fg} {mg:Str→Option Value} {base:Heap} {g:Gr} {x qual:Str} {st:Stmt} {f:Addr} {fd:FuncData} {N ps:List Str} {k:Nat} {m:List D→Option Rs} {fb:FsX} (F:Fun K x qual st f fd) (S:FnScope N ps (defScope st))
    (hb:∀ (cdv:Value) (A:Around) (outer:List Env) (s:Shared) (H:Hp) (E:XK),Room k (A.deeper (envOfC qual (defScope st) s.heap.objs.size f cdv))→SsX (cxOf (CXM P w) P w K mg base N qual (defScope st) f cdv A outer s H E) g (defBody st) fb)
    (hm:∀ ds r,ds.length=ps.length→m ds=some r→runXr fb N.length ds=some r):FnOk P w K mg base (CXM P w) (k+1) f fd ps (spX mg K ps.length g m):=by
  obtain ⟨oc,od,kV,doc,pm,an,cdv,ct,osl,rfl,lk,hcd⟩:=F.ex
  refine fn_of lk hcd S (fun vs H Q E ⟨Z,ds,d,hl,_,r,_⟩=>by rw [← r.len];exact hl) fun A outer s H vs Q E hr ⟨Z,ds,rs,hl,s1,r,e,kk⟩=>?_
  refine ⟨_,hb cdv A outer s H E hr,?_⟩
  obtain ⟨o,e1,e2⟩:=Option.bind_eq_some_iff.mp (hm ds rs hl e)
  refine ⟨_,H,Z,o,Rl.start s1 r,e1,?_⟩
  cases o with
  | rt d'=>cases e2;exact kk
  | nx _=>cases e2
  | bk _=>cases e2
  | ct _=>cases e2
  | ex c d env=>
    cases e2
    exact fun σ Z' H' C dx u x R hmg hxd hu pins s' e I hn he hr'=>leave_wants σ C pins H' s' e dx I hn he hr' (kk C dx u Z' H' hmg x hxd hu)
structure CalXM (P:Program) (w:World) (K:Fg) (mg:Str→Option Value) (base:Heap) (k:Nat) (x:Str) (m:List D→Option Rs):Prop where
  ex:∃ f fd y,FnOk P w K mg base (CXM P w) k f fd [y] (spXM mg K m)∧mg x=some (.ref f)∧PySem.W.keepIn K (.ref f)=true∧Binds K fd [y] []
theorem calxm_of {P:Program} {w:World} {K:Fg} {mg:Str→Option Value} {base:Heap} {d:Nat} {f:Addr} {fd:FuncData} {x y:Str} {m:List D→Option Rs} (O:FnOk P w K mg base (CXM P w) d f fd [y] (spXM mg K m)) (hk:PySem.W.keepIn K (.ref f)=true) (hm:mg x=some (.ref f)) (hb:Binds K fd [y] []):∀ j,d≤j→CalXM P w K mg base j x m:=
  fun _ hj=>⟨f,fd,y,O.mono hj,hm,hk,hb⟩
def callM (f:Fe) (m:List D→Option Rs):FeX:=fun env=>(f env).bind fun d=>m [d]
section
variable {X:Cx} {rg g:Gr} {st:Stmt} {sts:List Stmt} {pos p cpos:Pos} {e l a:Expr} {es:List Expr} {x c:Str} {k:Nat}
theorem px_callM {m:List D→Option Rs} {f:Fe} (C:CalXM X.prog X.w X.K X.mg X.base k x m) (hr:Room k X.A) (hl:PD X.nox .nw l f) (hg:Gl X x:=by rfl) (hdb:(x==("__debug__":Str))=false:=by decide)
    (he:starEach [l] X.env=(false,eval l X.env)::starEach [] X.env:=by rfl) (hpl:(backTo pos (starEach [] X.env)).any (·.1)=false:=by rfl):PX X .nw (.Call (.Name x p) [l] [] pos) (callM f m):=by
  intro pins s σ H Q I ⟨env,B,Z,r,R,e1,kk⟩
  obtain ⟨f',fd,y,F,hm,hk,hb⟩:=C.ex
  obtain ⟨d,e2,e3⟩:=Option.bind_eq_some_iff.mp e1
  refine wpAny_Call_Name_kw (ld_glob I hg hm ?_ hdb)
  have hp:PA X [l] (tCons (T X.K .nw f) tNil):=pa_cons (L2.PE.nox hl) pa_nil he
  refine PySem.W.callWith_K (h₀:=X.base) I.ok.mod.kin hk (thn (hp pos pins s σ H (fun vs H1=>∃ v Z1,vs=[v]∧Ex Z H Z1 H1∧Gd X.K Z1 H H1 .nw d v) I ⟨env,B,Z,d,R,e2,fun v Z1 H1 x1 g1=>⟨v,Z1,rfl,x1,g1⟩⟩) fun us s1 ⟨vs,H1,I1,rv,v,Z1,hvs,x1,g1⟩=>⟨I1.kIn,?_⟩) he hpl
  subst hvs
  obtain ⟨a,xs,ds,hv,hd,h1,h2,h3,rr⟩:=g1
  subst hv hd
  cases r with
  | ok d=>
    refine run_fnX (E:=E0) (dvs:=[]) (ds:=[]) F hr hb .nil I1 rv ?_ (fun C pins H' s' e dx _ _ _ _ z=>False.elim z)
    rw [List.append_nil]
    exact ⟨Z1,H,ds,xs,a,.ok d,rfl,x1.zh,x1.h,h1,h3,h2,rr,e3,fun v Z' H' x2 g2=>kk v Z' H' (x1.transB x2) g2⟩
  | error z=>
    obtain ⟨c,d⟩:=z
    refine run_fnX (E:=fun Cv dxo H'=>∃ C dx u Z',Cv=.ref C∧dxo=some dx∧X.mg c=some (.ref C)∧Ex Z1 H Z' H'∧H' dx=some (.xd [("cell",u)])∧Rep X.K Z' d u) (dvs:=[]) (ds:=[]) F hr hb .nil I1 rv ?_ ?_
    · rw [List.append_nil]
      exact ⟨Z1,H,ds,xs,a,.error (c,d),rfl,x1.zh,x1.h,h1,h3,h2,rr,e3,fun C dx u Z' H' h1 h2 h3 h4=>⟨C,dx,u,Z',rfl,rfl,h1,h2,h3,h4⟩⟩
    · rintro C pins' H' s' e dx I' hn' he' hr' ⟨C',dx',u,Z',hC,hdx,h1,h2,h3,h4⟩
      cases hC;cases hdx
      exact kk σ Z' H' C dx u ((x1.transB h2).part R.bh) (R.ext (x1.transB h2)) h1 h3 h4 pins' s' e I' hn' he' hr'
def setXO (i:Nat) (f:FeX):FsX:=fun env=>(f env).bind fun r=>match r with
  | .ok (.lst ds)=>some (.nx (env.set i (.O (.L ds))))
  | .ok _=>none
  | .error (c,d)=>some (.ex c d env)
theorem x_setO (i:Nat) {f:FeX} {pos':Pos} (he:PX X .nw e f) (hN:X.N.Nodup) (hi:X.N[i]?=some x:=by rfl) (hx:Loc X.env.scope x:=by first | exact Or.inl rfl | exact Or.inr rfl) (hs:swapsWith e (some (.Name x pos')) pos.line X.env=pure false:=by rfl)
    (hf:X.fn x=true∨X.env.scope.names.lookup x=some .local:=by first | exact .inl rfl | exact .inr rfl | assumption):SX X rg (.Assign [.Name x pos'] e pos) (setXO i f):=fun pins s σ H E I ⟨env,B,Z,o,R,e1,k⟩=>by
  refine ps_set hN hi hx he hs hf pins s σ H E I ?_
  obtain ⟨r,e2,e3⟩:=Option.bind_eq_some_iff.mp e1
  cases r with
  | ok d=>
    cases d<;>cases e3
    rename_i ds
    refine ⟨env,B,Z,.ok (.lst ds),R,e2,fun v Z' H' x g=>?_⟩
    obtain ⟨a,vs,ds',hv,e3,h1,h2,h3,r⟩:=g
    subst hv
    cases e3
    refine k _ Z' H' (x.part R.bh) ((R.ext x).setO i (R.bh.free h1) h3 h2 ⟨vs,rfl,r⟩ fun j es hj hje hja=>?_)
    obtain ⟨y,e4,b,us,e5,e6,_⟩:=R.sl j _ hje
    rw [hja] at e4;cases e4;cases e5
    rw [h1] at e6;cases e6
  | error z=>obtain ⟨c,d⟩:=z;cases e3;exact ⟨env,B,Z,.error (c,d),R,e2,k⟩
theorem x_never:SX X rg st (fun _=>none):=fun pins s σ H E I ⟨_,_,_,_,_,e,_⟩=>by cases e
end
def tryXO (cs:List Str) (i j:Nat) (fb:FsX):FsX:=fun env=>(fb env).bind fun o=>match o with
  | .ex c d env'=>if c∈cs then some (.nx ((env'.set j (.O (.L ((flagsB c).map .bl)))).set i .un)) else none
  | o=>some o
theorem x0_tryO {X:Cx} {rg:Gr} {k:Nat} (i j:Nat) {n y:Str} {cs:List Str} {body:List Stmt} {fb:FsX} {p hp pos p1 p2 p3 p4 p5:Pos}
    (TX:TrX X.prog X.w X.K X.mg X.base cs) (hr:Room k X.A) (hk1:1≤k) (T:TopX X) (hN:X.N.Nodup) (hij:i≠j) (hbody:∀ xe,SsX (X.wish xe) rg body fb)
    (hi:X.N[i]?=some n:=by rfl) (hl:X.env.scope.names.lookup n=some .local:=by rfl) (hj:X.N[j]?=some y:=by rfl) (hlj:Loc X.env.scope y:=by first | exact Or.inl rfl | exact Or.inr rfl) (hg:Gl X "HideError":=by rfl) (hgf:Gl X "_law_flags":=by rfl)
    (hd1:(n==("__debug__":Str))=false:=by decide) (hd2:(n==("__classdict__":Str))=false:=by decide)
    (hfj:X.fn y=true∨X.env.scope.names.lookup y=some .local:=by first | exact .inl rfl | exact .inr rfl)
    (hst:starEach [.Name n p3] X.env=(false,eval (.Name n p3) X.env)::starEach [] X.env:=by rfl)
    (hsw:swapsWith (.Call (.Name "_law_flags" p2) [.Name n p3] [] p4) (some (.Name y p1)) p5.line X.env=pure false:=by rfl) :
    SX0 X rg (.Try body [.ExceptHandler (some (.Name "HideError" p)) (some n) [.Assign [.Name y p1] (.Call (.Name "_law_flags" p2) [.Name n p3] [] p4) p5] hp] [] [] pos) (tryXO cs i j fb):=by
  obtain ⟨HE,nm,q,N,bs,sn,sub,ab,col,dd,k0,k1,k2,k3,k5,f,fd,hm,lk,CT,F,hf,hk,hb⟩:=TX.ex
  have hr1:=hr.mono hk1
  have hr:RoomH 1 X.A:=⟨hr1.dp,hr1.un⟩
  intro s σ H E I ⟨env,B,Z,o,R,e1,kk⟩
  refine ps_try T hN hi hl hg hm lk (tb:=fun xe=>TSx (X.wish xe) rg fb) (ts:=tAsg (tCall (spF X.K X.mg HE) [] E0 (tCons (tVar i) tNil)) (gName j)) hbody (fun e=>pss_one (ps_set hN hj hlj (pe_callH (X:=XH X e) F ⟨hr.dp,hr.un⟩ hgf hf hk hb (pa_cons (pe_var hi (.inl hl) hd1 hd2) pa_nil hst) (by decide) hst rfl) hsw hfj)) s σ H E I ?_
  intro xe hxe
  obtain ⟨o1,e2,e3⟩:=Option.bind_eq_some_iff.mp e1
  refine ⟨env,B,Z,o1,R,e2,?_⟩
  cases o1 with
  | nx env1=>cases e3;exact kk
  | rt d=>cases e3;exact kk
  | bk d=>cases e3;exact kk
  | ct d=>cases e3;exact kk
  | ex c d env'=>
    obtain ⟨hc,rfl⟩:=ifS e3
    intro σ' Z' H' C dx u x R' hmg hxd hu pins s' e I' hn he hr'
    have hC:=CT c hc C hmg
    refine hxe σ' H' s' pins e C dx I'.unwish hn he hr' hC.cg ?_
    have hiσ:i < σ'.length:=by rw [I'.len];exact (List.getElem?_eq_some_iff.mp hi).1
    refine ⟨.ref e,List.getElem?_set_self hiσ,.ref e,C,c,rfl,⟨e,dx,[("cell",u)],rfl,upd_same,?_⟩,hC,fun a H2 sa hna hla=>?_⟩
    · rw [upd_ne (fun z=>by rw [z,he] at hxd;cases hxd)];exact hxd
    have hHa:H' a=none:=by
      by_cases z:a=e
      · rw [z];exact he
      · rwa [upd_ne z] at hna
    have s0:Same H' H2:=(smUpd he).trans sa
    have x2:Ex Z' H' Z' H2:=⟨s0,Same.refl _,x.zh.trans s0,fun _ _ h=>h⟩
    have R2:=((R'.ext x2).setO (a:=a) (vs:=.lst ((flagsB c).map V.bl)) j (R'.bh.free hHa) (x.zh.free hHa) hla (OwnOk.l (reps_bl (flagsB c))) fun j' es hj' hje hja=>by
      obtain ⟨y,e4,b,us,e5,e6,_⟩:=R'.sl j' _ hje
      rw [hja] at e4;cases e4;cases e5
      rw [hHa] at e6;cases e6).setU i none
    have es:(((σ'.set i (some (V.ref e))).set j (some (V.ref a))).set i none)=(σ'.set j (some (V.ref a))).set i none:=by
      rw [List.set_comm _ _ hij,List.set_set]
    show E.nx (((σ'.set i (some (V.ref e))).set j (some (V.ref a))).set i none) H2
    rw [es]
    exact kk _ _ _ (x.transB (Ex.part x.h x2)) R2
end Mi
namespace Mi
open PySem PySem.Spec PyProof.Rows L2
abbrev AtF (K:Fg) (x:Str) (st:Stmt) (f:Addr):Prop:=∃ (oc kV dc pm cd ct:Value) (od an:Option Addr) (sl:Array (Option Value)),PySem.W.nsIn K mainGlobals x=some (some (.ref f))∧K.lookup f=some ⟨oc,od,.func (PySem.W.fnOf x x (defArgs st) (defBody st) (defScope st) .none kV dc pm an cd ct),sl⟩∧PySem.W.codeIn K cd x=true∧PySem.W.keepIn K (.ref f)=true
section
variable {K:Fg} {h:Heap} {mg:Str→Option Value} {x:Str} {st:Stmt} {f:Addr}
theorem AtF.fn (A:AtF K x st f) (X:K.In h) (G:h.Ns mainGlobals mg):∃ fd,Fun K x x st f fd∧PySem.W.keepIn K (.ref f)=true∧mg x=some (.ref f):=by
  obtain ⟨_,_,_,_,_,_,_,_,_,a,l,c,k⟩:=A
  exact ⟨_,fun_mk l c k,k,PySem.W.mg_of X G a⟩
theorem at_mk {oc kV dc pm cd ct:Value} {od an:Option Addr} {sl:Array (Option Value)} (a:PySem.W.nsIn K mainGlobals x=some (some (.ref f))) (l:K.lookup f=some ⟨oc,od,.func (PySem.W.fnOf x x (defArgs st) (defBody st) (defScope st) .none kV dc pm an cd ct),sl⟩) (c:PySem.W.codeIn K cd x=true) (k:PySem.W.keepIn K (.ref f)=true):AtF K x st f:=⟨_,_,_,_,_,_,_,_,_,a,l,c,k⟩
variable {P:Program} {w:World} {base:Heap} {d n:Nat} {g:Gr} {m:List D→Option D} {fd:FuncData} {ps:List Str}
theorem cal_of (O:FnOk P w K mg base CX0 d f fd ps (spD K n g m)) (hk:PySem.W.keepIn K (.ref f)=true) (hm:mg x=some (.ref f)) (hb:Binds K fd ps []) (hn:ps.length=n:=by rfl):∀ j,d≤j→Cal P w K mg base j x n g m:=
  fun _ hj=>⟨f,fd,ps,hn,O.mono hj,hm,hk,hb⟩
end
end Mi
namespace Mi
open PySem PySem.Spec PyProof.Rows L2 Xc
abbrev AtC (K:Fg) (x:Str) (C:Addr) (bm:List Value):Prop:=∃ nm q N bs sn sub ab col dd k0 k1 k2 k3 k5,PySem.W.nsIn K mainGlobals x=some (some (.ref C))∧K.lookup C=some (clsO nm q C N bs bm sn sub ab col dd k0 k1 k2 k3 k5)
abbrev AtR (K:Fg) (C fI:Addr):Prop:=PySem.W.findIn K (.ref C) "__init__"=some (some (.ref fI))∧PySem.W.findIn K (.ref C) "__setattr__"=some (some (.builtin "object.__setattr__"))∧PySem.W.findIn K (.ref C) "cell"=some none∧PySem.W.keepIn K (.ref C)=true∧
  PySem.W.findIn K (.ref C) "__getattribute__"=some (some (.builtin "BaseException.__getattribute__"))∧PySem.W.findIn K (.ref C) "__getattr__"=some none∧PySem.W.findIn K (.ref C) "__class__"=some (some (.builtin "object.__class__"))
section
variable {K:Fg} {h:Heap} {mg:Str→Option Value} {x c:Str} {st:Stmt} {f C HE fI E:Addr} {bm:List Value}
theorem ad_ne {a b:Nat} (h:¬ a=b):@Ne Addr a b:=h
theorem AtC.g (A:AtC K x C bm) (X:K.In h) (G:h.Ns mainGlobals mg):mg x=some (.ref C):=by
  obtain ⟨_,_,_,_,_,_,_,_,_,_,_,_,_,_,a,_⟩:=A
  exact PySem.W.mg_of X G a
theorem AtC.ec {o:Obj} (A:AtC K x C (.ref HE::bmV)) (R:AtR K C fI) (l:K.lookup fI=some o) (ho:o.cls=.type "function":=by rfl):EC K C HE fI:=by
  obtain ⟨_,_,_,_,_,_,_,_,_,_,_,_,_,_,_,a⟩:=A
  exact ⟨⟨_,_,_,_,_,_,_,_,_,_,_,_,_,_,a⟩,R.1,⟨_,l,ho⟩,R.2.1,R.2.2.1,R.2.2.2.1⟩
theorem AtC.ot (A:AtC K x C (.ref HE::bmV)) (X:K.In h) (G:h.Ns mainGlobals mg) (hn:C≠HE) (he:C≠E) (hx:x≠c):OtherC K mg HE E c x:=by
  have g:=A.g X G
  obtain ⟨_,_,_,_,_,_,_,_,_,_,_,_,_,_,_,a⟩:=A
  exact ⟨C,g,⟨_,_,_,_,_,_,_,_,_,_,_,_,_,_,_,a⟩,hn,⟨fun h=>absurd h he,fun h=>absurd h hx⟩⟩
theorem AtC.oe (A:AtC K x C (.ref HE::bmV)) (X:K.In h) (G:h.Ns mainGlobals mg) (hn:C≠HE):OtherC K mg HE C x x:=by
  have g:=A.g X G
  obtain ⟨_,_,_,_,_,_,_,_,_,_,_,_,_,_,_,a⟩:=A
  exact ⟨C,g,⟨_,_,_,_,_,_,_,_,_,_,_,_,_,_,_,a⟩,hn,⟨fun _=>rfl,fun _=>rfl⟩⟩
theorem atc_mk {nm q:Str} {N:Addr} {bs:List Value} {sn:List Str} {sub:List Value} {ab:Bool} {col:Option Bool} {dd:Option Addr} {k0 k1 k2 k3 k5:Option Value} (a:PySem.W.nsIn K mainGlobals x=some (some (.ref C))) (l:K.lookup C=some (clsO nm q C N bs bm sn sub ab col dd k0 k1 k2 k3 k5)):AtC K x C bm:=⟨_,_,_,_,_,_,_,_,_,_,_,_,_,_,a,l⟩
variable {P:Program} {w:World} {base:Heap} {d n:Nat} {g:Gr} {m:List D→Option Rs} {fd:FuncData} {ps:List Str}
theorem calx_of (O:FnOk P w K mg base (CXM P w) d f fd ps (spX mg K n g m)) (hk:PySem.W.keepIn K (.ref f)=true) (hm:mg x=some (.ref f)) (hb:Binds K fd ps []) (hn:ps.length=n:=by rfl):∀ j,d≤j→CalX P w K mg base j x n g m:=
  fun _ hj=>⟨f,fd,ps,hn,O.mono hj,hm,hk,hb⟩
end
end Mi
namespace K04
open PySem Mi
def cs_:List Str:=[Str.ofString "TooMany",Str.ofString "NoNumber",Str.ofString "NoHiding"]
def c_GREATEST:D:=(.int 8)
def c_MOST_TOLD:D:=(.int 1000)
def c_WAYS:D:=(.tup [(.str (Str.ofString "along")),(.str (Str.ofString "down"))])
def F__law_stir :Fs:=(seqF (setF 2 (op2 mulI (op2 addI (op2 addI (op2 modI (fun env=>getF env 0) (op2 powI (fC (.int 10)) (fC (.int 60)))) (op2 mulI (fC (.int 7919)) (fun env=>getF env 1))) (fC (.int 1))) (fC (.int 27182818284590452353602874713527)))) (seqF (setF 2 (op2 modI (fun env=>getF env 2) (fC (.int 170141183460469231731687303715884105727)))) (retF (op2 fdivI (op2 modI (op2 powI (op2 addI (op2 powI (fun env=>getF env 2) (fC (.int 5))) (op2 mulI (fC (.int 48271)) (fun env=>getF env 1))) (fC (.int 3))) (fC (.int 162259276829213363391578010288127))) (fC (.int 7))))))
def m__law_stir:List D→Option D:=runF (F__law_stir ) 3
def B__law_drawn_1 (q__law_stir:List D→Option D):Fs:=(ifF (orB (fB (op2 ltI (fun env=>getF env 0) (op2 powI (fC (.int 10)) (fC (.int 18))))) (fB (op2 eqF (fun env=>getF env 3) (fC (.int 0))))) (appF 2 (op2 modI (fun env=>((fCons (fun env=>getF env 0) (fCons (fun env=>getF env 4) fNil)) env).bind q__law_stir) (op2 idxD (fun env=>getF env 1) (fun env=>getF env 4)))) (seqF (appF 2 (op2 modI (fun env=>getF env 3) (op2 idxD (fun env=>getF env 1) (fun env=>getF env 4)))) (setF 3 (op2 fdivI (fun env=>getF env 3) (op2 idxD (fun env=>getF env 1) (fun env=>getF env 4))))))
def F__law_drawn (q__law_stir:List D→Option D):Fs:=(seqF (setO 2 (fLst fNil)) (seqF (setF 3 (fun env=>getF env 0)) (seqF (forF (itR1 (un1 lenD (fun env=>getF env 1))) (tgN 4) (B__law_drawn_1 q__law_stir)) (retO 2))))
def m__law_drawn:List D→Option D:=runF (F__law_drawn m__law_stir) 5
def F__law_game (q__law_drawn:List D→Option D):Fs:=(seqF (unL [1,2,3,4,5,6,7] (fun env=>((fCons (fun env=>getF env 0) (fCons (fLst (fCons (fC (.int 4)) (fCons (fC (.int 4)) (fCons (fC (.int 4)) (fCons (fC (.int 4)) (fCons (fC (.int 4)) (fCons (fC (.int 4)) (fCons (fC (.int 3)) fNil)))))))) fNil)) env).bind q__law_drawn)) (seqF (setF 8 (op2 idxD (fLst (fCons (fTup (fCons (op2 addI (fC (.int 1)) (fun env=>getF env 2)) (fCons (op2 addI (fC (.int 1)) (fun env=>getF env 3)) fNil))) (fCons (fTup (fCons (op2 addI (fC (.int 2)) (op2 modI (fun env=>getF env 2) (fC (.int 3)))) (fCons (op2 addI (fC (.int 2)) (op2 modI (fun env=>getF env 3) (fC (.int 3)))) fNil))) (fCons (fTup (fCons (op2 addI (fC (.int 1)) (op2 modI (fun env=>getF env 2) (fC (.int 3)))) (fCons (op2 addI (fC (.int 3)) (op2 modI (fun env=>getF env 3) (fC (.int 2)))) fNil))) fNil)))) (op2 minI (fun env=>getF env 1) (fC (.int 2))))) (seqF (ifF (fB (op2 eqF (fun env=>getF env 1) (fC (.int 3)))) (setF 8 (fTup (fCons (fC (.int 2)) (fCons (op2 addI (fC (.int 2)) (fun env=>getF env 3)) fNil)))) nxF) (seqF (setF 9 (op2 idxD (fLst (fCons (fTup (fCons (op2 addI (fC (.int 1)) (fun env=>getF env 4)) fNil)) (fCons (fTup (fCons (op2 addI (fC (.int 1)) (op2 modI (fun env=>getF env 4) (fC (.int 3)))) (fCons (op2 addI (fC (.int 1)) (op2 modI (fun env=>getF env 5) (fC (.int 3)))) fNil))) (fCons (fTup (fCons (op2 addI (fC (.int 1)) (op2 modI (fun env=>getF env 4) (fC (.int 3)))) (fCons (op2 addI (fC (.int 1)) (op2 modI (fun env=>getF env 5) (fC (.int 2)))) (fCons (op2 addI (fC (.int 1)) (op2 modI (fun env=>getF env 6) (fC (.int 2)))) fNil)))) fNil)))) (op2 modI (fun env=>getF env 1) (fC (.int 3))))) (seqF (ifF (fB (op2 eqF (fun env=>getF env 1) (fC (.int 3)))) (setF 9 (fTup (fCons (op2 addI (fC (.int 1)) (op2 modI (fun env=>getF env 4) (fC (.int 3)))) (fCons (op2 addI (fC (.int 1)) (op2 modI (fun env=>getF env 5) (fC (.int 3)))) (fCons (op2 addI (fC (.int 1)) (op2 modI (fun env=>getF env 6) (fC (.int 2)))) fNil))))) nxF) (seqF (setF 9 (un1 tupleD (un1 revL (un1 sortI (fun env=>getF env 9))))) (retF (fTup (fCons (fun env=>getF env 8) (fCons (fun env=>getF env 9) (fCons (op2 idxD (fLst (fCons (fC (.str (Str.ofString "free"))) (fCons (fC (.str (Str.ofString "sides"))) (fCons (fC (.str (Str.ofString "corners"))) fNil)))) (fun env=>getF env 7)) fNil)))))))))))
def m__law_game:List D→Option D:=runF (F__law_game m__law_drawn) 10
def B__law_ships_1 :Fs:=(seqF (ifF (fB (op2 leI (op2 addI (fun env=>getF env 4) (fun env=>getF env 1)) (op2 idxD (fun env=>getF env 0) (fC (.int 1))))) (appF 2 (fTup (fCons (fun env=>getF env 3) (fCons (fun env=>getF env 4) (fCons (fC (.str (Str.ofString "along"))) (fCons (fun env=>getF env 1) fNil)))))) nxF) (ifF (andB (fB (op2 leI (op2 addI (fun env=>getF env 3) (fun env=>getF env 1)) (op2 idxD (fun env=>getF env 0) (fC (.int 0))))) (fB (op2 gtI (fun env=>getF env 1) (fC (.int 1))))) (appF 2 (fTup (fCons (fun env=>getF env 3) (fCons (fun env=>getF env 4) (fCons (fC (.str (Str.ofString "down"))) (fCons (fun env=>getF env 1) fNil)))))) nxF))
def B__law_ships_2 :Fs:=(forF (itR1 (op2 idxD (fun env=>getF env 0) (fC (.int 1)))) (tgN 4) (B__law_ships_1 ))
def F__law_ships :Fs:=(seqF (setO 2 (fLst fNil)) (seqF (forF (itR1 (op2 idxD (fun env=>getF env 0) (fC (.int 0)))) (tgN 3) (B__law_ships_2 )) (retO 2)))
def m__law_ships:List D→Option D:=runF (F__law_ships ) 5
def B__law_cells_1 :Fs:=(appF 5 (fTup (fCons (op2 addI (fun env=>getF env 1) (op2 mulI (fun env=>getF env 6) (un1 intD (op2 eqF (fun env=>getF env 3) (fC (.str (Str.ofString "down"))))))) (fCons (op2 addI (fun env=>getF env 2) (op2 mulI (fun env=>getF env 6) (un1 intD (op2 eqF (fun env=>getF env 3) (fC (.str (Str.ofString "along"))))))) fNil))))
def F__law_cells :Fs:=(seqF (unF [1,2,3,4] (fun env=>getF env 0)) (seqF (setO 5 (fLst fNil)) (seqF (forF (itR1 (fun env=>getF env 4)) (tgN 6) (B__law_cells_1 )) (retO 5))))
def m__law_cells:List D→Option D:=runF (F__law_cells ) 7
def B__law_halo_1 :Fs:=(putQ 2 (fCons (op2 addI (fun env=>getF env 4) (fun env=>getF env 6)) (fCons (op2 addI (fun env=>getF env 5) (fun env=>getF env 7)) fNil)))
def B__law_halo_2 :Fs:=(forF (itL (fun env=>getF env 3)) (tgT [6,7]) (B__law_halo_1 ))
def F__law_halo (q__law_cells:List D→Option D):Fs:=(seqF (setQ 2 (fC (.dct []))) (seqF (setF 3 (fLst (fCons (fTup (fCons (fC (.int 0)) (fCons (fC (.int 0)) fNil))) fNil))) (seqF (ifF (fB (op2 neF (fun env=>getF env 0) (fC (.str (Str.ofString "free"))))) (setF 3 (op2 addL (fun env=>getF env 3) (fLst (fCons (fTup (fCons (fC (.int 0)) (fCons (fC (.int 1)) fNil))) (fCons (fTup (fCons (fC (.int 1)) (fCons (fC (.int 0)) fNil))) (fCons (fTup (fCons (fC (.int 0)) (fCons (un1 negI (fC (.int 1))) fNil))) (fCons (fTup (fCons (un1 negI (fC (.int 1))) (fCons (fC (.int 0)) fNil))) fNil))))))) nxF) (seqF (ifF (fB (op2 eqF (fun env=>getF env 0) (fC (.str (Str.ofString "corners"))))) (setF 3 (op2 addL (fun env=>getF env 3) (fLst (fCons (fTup (fCons (fC (.int 1)) (fCons (fC (.int 1)) fNil))) (fCons (fTup (fCons (fC (.int 1)) (fCons (un1 negI (fC (.int 1))) fNil))) (fCons (fTup (fCons (un1 negI (fC (.int 1))) (fCons (fC (.int 1)) fNil))) (fCons (fTup (fCons (un1 negI (fC (.int 1))) (fCons (un1 negI (fC (.int 1))) fNil))) fNil))))))) nxF) (seqF (forF (itL (fun env=>((fCons (fun env=>getF env 1) fNil) env).bind q__law_cells)) (tgT [4,5]) (B__law_halo_2 )) (retQ 2))))))
def m__law_halo:List D→Option D:=runF (F__law_halo m__law_cells) 8
def B__law_free_1 :Fs:=(ifF (fB (op2 (inQ false) (fun env=>getF env 3) (fun env=>getF env 2))) (retF (fC (.bl false))) nxF)
def B__law_free_2 :Fs:=(forF (itL (fun env=>getF env 1)) (tgN 3) (B__law_free_1 ))
def F__law_free :Fs:=(seqF (forF (itL (fun env=>getF env 0)) (tgN 2) (B__law_free_2 )) (retF (fC (.bl true))))
def m__law_free:List D→Option D:=runF (F__law_free ) 4
def B__law_all_1 (q__law_free:List D→Option D):Fs:=(seqF (setF 13 (orF (op2 eqF (fun env=>getF env 4) (fC (.int 0))) (orF (op2 neF (op2 idxD (fun env=>getF env 1) (op2 subI (fun env=>getF env 4) (fC (.int 1)))) (fun env=>getF env 5)) (op2 ltT (op2 idxD (fun env=>getF env 10) (un1 negI (fC (.int 1)))) (op2 idxD (fun env=>getF env 6) (fun env=>getF env 12)))))) (ifF (andB (fB (fun env=>getF env 13)) (fB (fun env=>((fCons (fun env=>getF env 11) (fCons (op2 idxD (fun env=>getF env 8) (fun env=>getF env 12)) fNil)) env).bind q__law_free))) (appF 9 (fTup (fCons (op2 addT (fun env=>getF env 10) (fTup (fCons (op2 idxD (fun env=>getF env 6) (fun env=>getF env 12)) fNil))) (fCons (op2 addL (fun env=>getF env 11) (fLst (fCons (op2 idxD (fun env=>getF env 7) (fun env=>getF env 12)) fNil))) fNil)))) nxF))
def B__law_all_2 (q__law_free:List D→Option D):Fs:=(forF (itR1 (un1 lenD (fun env=>getF env 6))) (tgN 12) (B__law_all_1 q__law_free))
def B__law_all_3 (q__law_ships:List D→Option D) (q__law_halo:List D→Option D) (q__law_cells:List D→Option D) (q__law_free:List D→Option D):Fs:=(seqF (setF 6 (fun env=>((fCons (fun env=>getF env 0) (fCons (fun env=>getF env 5) fNil)) env).bind q__law_ships)) (seqF (setF 7 (compF (itL (fun env=>getF env 6)) [0] (tgN 0) (fun _=>some true) (emitF (fun env=>((fCons (fun env=>getF env 1) (fCons (fun env=>getF env 0) fNil)) env).bind q__law_halo)) 1 [2])) (seqF (setF 8 (compF (itL (fun env=>getF env 6)) [0] (tgN 0) (fun _=>some true) (emitF (fun env=>((fCons (fun env=>getF env 0) fNil) env).bind q__law_cells)) 1 [])) (seqF (setO 9 (fLst fNil)) (seqF (forF (itL (fun env=>getF env 3)) (tgT [10,11]) (B__law_all_2 q__law_free)) (seqF (frzF 9) (setF 3 (fun env=>getF env 9))))))))
def F__law_all (q__law_ships:List D→Option D) (q__law_halo:List D→Option D) (q__law_cells:List D→Option D) (q__law_free:List D→Option D):Fs:=(seqF (setF 3 (fLst (fCons (fTup (fCons (fTup fNil) (fCons (fLst fNil) fNil))) fNil))) (seqF (forF (itE (fun env=>getF env 1)) (tgT [4,5]) (B__law_all_3 q__law_ships q__law_halo q__law_cells q__law_free)) (retF (compF (itL (fun env=>getF env 3)) [0,1] (tgT [0,1]) (fun _=>some true) (emitF (fun env=>getF env 0)) 2 []))))
def m__law_all:List D→Option D:=runF (F__law_all m__law_ships m__law_halo m__law_cells m__law_free) 14
def F_rows_between :Fs:=(seqF (setF 2 (iteFn (fB (op2 eqF (op2 idxD (fun env=>getF env 0) (fC (.int 2))) (fC (.str (Str.ofString "down"))))) (op2 subI (op2 addI (op2 idxD (fun env=>getF env 0) (fC (.int 0))) (op2 idxD (fun env=>getF env 0) (fC (.int 3)))) (fC (.int 1))) (op2 idxD (fun env=>getF env 0) (fC (.int 0))))) (seqF (setF 3 (iteFn (fB (op2 eqF (op2 idxD (fun env=>getF env 1) (fC (.int 2))) (fC (.str (Str.ofString "down"))))) (op2 subI (op2 addI (op2 idxD (fun env=>getF env 1) (fC (.int 0))) (op2 idxD (fun env=>getF env 1) (fC (.int 3)))) (fC (.int 1))) (op2 idxD (fun env=>getF env 1) (fC (.int 0))))) (retF (op3 max3I (op2 subI (op2 idxD (fun env=>getF env 1) (fC (.int 0))) (fun env=>getF env 2)) (op2 subI (op2 idxD (fun env=>getF env 0) (fC (.int 0))) (fun env=>getF env 3)) (fC (.int 0))))))
def m_rows_between:List D→Option D:=runF (F_rows_between ) 4
def F_columns_between :Fs:=(seqF (setF 2 (iteFn (fB (op2 eqF (op2 idxD (fun env=>getF env 0) (fC (.int 2))) (fC (.str (Str.ofString "along"))))) (op2 subI (op2 addI (op2 idxD (fun env=>getF env 0) (fC (.int 1))) (op2 idxD (fun env=>getF env 0) (fC (.int 3)))) (fC (.int 1))) (op2 idxD (fun env=>getF env 0) (fC (.int 1))))) (seqF (setF 3 (iteFn (fB (op2 eqF (op2 idxD (fun env=>getF env 1) (fC (.int 2))) (fC (.str (Str.ofString "along"))))) (op2 subI (op2 addI (op2 idxD (fun env=>getF env 1) (fC (.int 1))) (op2 idxD (fun env=>getF env 1) (fC (.int 3)))) (fC (.int 1))) (op2 idxD (fun env=>getF env 1) (fC (.int 1))))) (retF (op3 max3I (op2 subI (op2 idxD (fun env=>getF env 1) (fC (.int 1))) (fun env=>getF env 2)) (op2 subI (op2 idxD (fun env=>getF env 0) (fC (.int 1))) (fun env=>getF env 3)) (fC (.int 0))))))
def m_columns_between:List D→Option D:=runF (F_columns_between ) 4
def F_keep (q_rows_between:List D→Option D) (q_columns_between:List D→Option D):Fs:=(seqF (setF 3 (fun env=>((fCons (fun env=>getF env 1) (fCons (fun env=>getF env 2) fNil)) env).bind q_rows_between)) (seqF (setF 4 (fun env=>((fCons (fun env=>getF env 1) (fCons (fun env=>getF env 2) fNil)) env).bind q_columns_between)) (seqF (ifF (fB (op2 eqF (fun env=>getF env 0) (fC (.str (Str.ofString "free"))))) (retF (op2 gtI (op2 addI (fun env=>getF env 3) (fun env=>getF env 4)) (fC (.int 0)))) nxF) (seqF (ifF (fB (op2 eqF (fun env=>getF env 0) (fC (.str (Str.ofString "sides"))))) (retF (op2 gtI (op2 addI (fun env=>getF env 3) (fun env=>getF env 4)) (fC (.int 1)))) nxF) (retF (op2 gtI (op2 maxI (fun env=>getF env 3) (fun env=>getF env 4)) (fC (.int 1))))))))
def m_keep:List D→Option D:=runF (F_keep m_rows_between m_columns_between) 5
def F_may_follow (q_keep:List D→Option D):Fs:=(seqF (ifF (andB (fB (op2 eqF (op2 idxD (fun env=>getF env 2) (fC (.int 3))) (op2 idxD (fun env=>getF env 1) (fC (.int 3))))) (fB (op2 leT (fun env=>getF env 2) (fun env=>getF env 1)))) (retF (fC (.bl false))) nxF) (retF (fun env=>((fCons (fun env=>getF env 0) (fCons (fun env=>getF env 1) (fCons (fun env=>getF env 2) fNil))) env).bind q_keep)))
def m_may_follow:List D→Option D:=runF (F_may_follow m_keep) 3
def B_hidings_among_1 (q_may_follow:List D→Option D) (q_hidings_among:List D→Option D):Fs:=(seqF (setF 6 (compF (itL (fun env=>getF env 3)) [0] (tgN 0) (fun _=>some true) (emitF (compF (itL (fun env=>getF env 0)) [0] (tgN 0) (fB (fun env=>((fCons (fun env=>getF env 1) (fCons (fun env=>getF env 2) (fCons (fun env=>getF env 0) fNil))) env).bind q_may_follow)) (emitF (fun env=>getF env 0)) 1 [1,2])) 1 [0,5])) (extF 4 (compF (itL (fun env=>((fCons (fun env=>getF env 0) (fCons (fun env=>getF env 6) fNil)) env).bind q_hidings_among)) [0] (tgN 0) (fun _=>some true) (emitF (op2 addT (fTup (fCons (fun env=>getF env 1) fNil)) (fun env=>getF env 0))) 1 [5])))
def F_hidings_among (q_may_follow:List D→Option D) (q_hidings_among:List D→Option D):Fs:=(seqF (starF 2 3 (fun env=>getF env 1)) (seqF (ifF (notB (fT (fun env=>getF env 3))) (retF (compF (itL (fun env=>getF env 2)) [0] (tgN 0) (fun _=>some true) (emitF (fTup (fCons (fun env=>getF env 0) fNil))) 1 [])) nxF) (seqF (setO 4 (fLst fNil)) (seqF (forF (itL (fun env=>getF env 2)) (tgN 5) (B_hidings_among_1 q_may_follow q_hidings_among)) (retO 4)))))
def mR_hidings_among:Nat→List D→Option D
  | 0=>fun _=>none
  | n+1=>runF (F_hidings_among m_may_follow (mR_hidings_among n)) 7
def m_hidings_among:List D→Option D:=mR_hidings_among 3
def F_all_cells :Fs:=(seqF (unF [1,2] (fun env=>getF env 0)) (retF (compF (itR1 (fun env=>getF env 1)) [0] (tgN 0) (fun _=>some true) (moreF (itR1 (fun env=>getF env 2)) [1] (tgN 1) (fun _=>some true) (emitF (fTup (fCons (fun env=>getF env 0) (fCons (fun env=>getF env 1) fNil))))) 2 [2])))
def m_all_cells:List D→Option D:=runF (F_all_cells ) 3
def F_is_tuple_of :Fs:=(retF (andF (un1 (isiF .tuple) (fun env=>getF env 0)) (op2 eqF (un1 lenD (fun env=>getF env 0)) (fun env=>getF env 1))))
def m_is_tuple_of:List D→Option D:=runF (F_is_tuple_of ) 2
def F_is_whole :Fs:=(retF (andF (un1 (isiF .int) (fun env=>getF env 0)) (un1 notD (un1 (isiF .bool) (fun env=>getF env 0)))))
def m_is_whole:List D→Option D:=runF (F_is_whole ) 1
def F_is_size (q_is_whole:List D→Option D):Fs:=(retF (andF (fun env=>((fCons (fun env=>getF env 0) fNil) env).bind q_is_whole) (chF leI leI (fC (.int 1)) (fun env=>getF env 0) (fC c_GREATEST))))
def m_is_size:List D→Option D:=runF (F_is_size m_is_whole) 1
def F_is_cell (q_is_tuple_of:List D→Option D) (q_is_whole:List D→Option D):Fs:=(seqF (ifF (notB (fB (fun env=>((fCons (fun env=>getF env 1) (fCons (fC (.int 2)) fNil)) env).bind q_is_tuple_of))) (retF (fC (.bl false))) nxF) (seqF (unF [2,3] (fun env=>getF env 1)) (retF (andF (fun env=>((fCons (fun env=>getF env 2) fNil) env).bind q_is_whole) (andF (fun env=>((fCons (fun env=>getF env 3) fNil) env).bind q_is_whole) (andF (chF leI ltI (fC (.int 0)) (fun env=>getF env 2) (op2 idxD (fun env=>getF env 0) (fC (.int 0)))) (chF leI ltI (fC (.int 0)) (fun env=>getF env 3) (op2 idxD (fun env=>getF env 0) (fC (.int 1))))))))))
def m_is_cell:List D→Option D:=runF (F_is_cell m_is_tuple_of m_is_whole) 4
def F_is_ship (q_is_tuple_of:List D→Option D) (q_is_size:List D→Option D) (q_is_cell:List D→Option D):Fs:=(seqF (ifF (notB (fB (fun env=>((fCons (fun env=>getF env 1) (fCons (fC (.int 4)) fNil)) env).bind q_is_tuple_of))) (retF (fC (.bl false))) nxF) (seqF (unF [2,3,4,5] (fun env=>getF env 1)) (seqF (ifF (orB (fB (op2 (inF true) (fun env=>getF env 4) (fC c_WAYS))) (orB (notB (fB (fun env=>((fCons (fun env=>getF env 5) fNil) env).bind q_is_size))) (notB (fB (fun env=>((fCons (fun env=>getF env 0) (fCons (fTup (fCons (fun env=>getF env 2) (fCons (fun env=>getF env 3) fNil))) fNil)) env).bind q_is_cell))))) (retF (fC (.bl false))) nxF) (seqF (ifF (fB (op2 eqF (fun env=>getF env 4) (fC (.str (Str.ofString "down"))))) (retF (andF (op2 gtI (fun env=>getF env 5) (fC (.int 1))) (op2 leI (op2 addI (fun env=>getF env 2) (fun env=>getF env 5)) (op2 idxD (fun env=>getF env 0) (fC (.int 0)))))) nxF) (retF (op2 leI (op2 addI (fun env=>getF env 3) (fun env=>getF env 5)) (op2 idxD (fun env=>getF env 0) (fC (.int 1)))))))))
def m_is_ship:List D→Option D:=runF (F_is_ship m_is_tuple_of m_is_size m_is_cell) 6
def F_ships_of (q_all_cells:List D→Option D) (q_is_ship:List D→Option D):Fs:=(seqF (setF 2 (compF (itL (fun env=>((fCons (fun env=>getF env 0) fNil) env).bind q_all_cells)) [0,1] (tgT [0,1]) (fun _=>some true) (moreF (itT (fC c_WAYS)) [2] (tgN 2) (fun _=>some true) (emitF (fTup (fCons (fun env=>getF env 0) (fCons (fun env=>getF env 1) (fCons (fun env=>getF env 2) (fCons (fun env=>getF env 3) fNil))))))) 3 [1])) (retF (compF (itL (fun env=>getF env 2)) [0] (tgN 0) (fB (fun env=>((fCons (fun env=>getF env 1) (fCons (fun env=>getF env 0) fNil)) env).bind q_is_ship)) (emitF (fun env=>getF env 0)) 1 [0])))
def m_ships_of:List D→Option D:=runF (F_ships_of m_all_cells m_is_ship) 3
def F_all_hidings (q_hidings_among:List D→Option D) (q_ships_of:List D→Option D):Fs:=(retF (fun env=>((fCons (fun env=>getF env 2) (fCons (compF (itT (fun env=>getF env 1)) [0] (tgN 0) (fun _=>some true) (emitF (fun env=>((fCons (fun env=>getF env 1) (fCons (fun env=>getF env 0) fNil)) env).bind q_ships_of)) 1 [0]) fNil)) env).bind q_hidings_among))
def m_all_hidings:List D→Option D:=runF (F_all_hidings m_hidings_among m_ships_of) 3
def F_how_many (q_all_hidings:List D→Option D):Fs:=(retF (un1 lenD (fun env=>((fCons (fun env=>getF env 0) (fCons (fun env=>getF env 1) (fCons (fun env=>getF env 2) fNil))) env).bind q_all_hidings)))
def m_how_many:List D→Option D:=runF (F_how_many m_all_hidings) 3
def F__law_whole :Fs:=(retF (andF (un1 (isiF .int) (fun env=>getF env 0)) (un1 notD (un1 (isiF .bool) (fun env=>getF env 0)))))
def m__law_whole:List D→Option D:=runF (F__law_whole ) 1
def F__law_only :Fs:=(seqF (setF 1 (fLst (fCons (fC (.str (Str.ofString "hiding"))) (fCons (fC (.str (Str.ofString "number"))) (fCons (fC (.str (Str.ofString "many"))) (fCons (fC (.str (Str.ofString "cell"))) (fCons (fC (.str (Str.ofString "shot"))) (fCons (fC (.str (Str.ofString "nothing"))) (fCons (fC (.str (Str.ofString "counts"))) (fCons (fC (.str (Str.ofString "over"))) (fCons (fC (.str (Str.ofString "text"))) (fCons (fC (.str (Str.ofString "row"))) fNil)))))))))))) (retF (op2 addL (compF (itL (fun env=>getF env 1)) [0] (tgN 0) (fun _=>some true) (emitF (op2 eqF (fun env=>getF env 0) (fun env=>getF env 1))) 1 [0]) (fLst (fCons (fC (.bl true)) fNil)))))
def m__law_only:List D→Option D:=runF (F__law_only ) 2
def F_if_not_too_many :FsX:=(seqX (ifX (fB (op2 gtI (un1 lenD (fun env=>getP env 0)) (fC c_MOST_TOLD))) (raiseX (Str.ofString "TooMany") (fCons (fC (.str (Str.ofString "there are more hidings than are told at once"))) fNil)) (upF nxF)) (upF (retO 0)))
def m_if_not_too_many:List D→Option Rs:=runXM (F_if_not_too_many )
def F_hidings (q_if_not_too_many:List D→Option Rs) (q_all_hidings:List D→Option D):FsX:=(retX (callM (fun env=>((fCons (fun env=>getF env 0) (fCons (fun env=>getF env 1) (fCons (fun env=>getF env 2) fNil))) env).bind q_all_hidings) q_if_not_too_many))
def m_hidings:List D→Option Rs:=runXr (F_hidings m_if_not_too_many m_all_hidings) 3
def F__law_told0 (q_hidings:List D→Option Rs):FsX:=(seqX (upF (unF [3,4,5] (fun env=>getF env 1))) (seqX (upF (setF 6 (fC .non))) (seqX (tryXO cs_ 7 6 (ifX (fB (op2 eqF (fun env=>getF env 0) (fC (.int 0)))) (setXO 6 (callX (okL (fCons (fun env=>getF env 3) (fCons (fun env=>getF env 4) (fCons (fun env=>getF env 5) fNil)))) q_hidings)) (fun _=>none))) (upF (retO 6)))))
def m__law_told0:List D→Option D:=runX0 (F__law_told0 m_hidings) 8
def F_one_at (q_is_whole:List D→Option D):FsX:=(seqX (ifX (orB (notB (fB (fun env=>((fCons (fun env=>getF env 1) fNil) env).bind q_is_whole))) (notB (fB (chF leI ltI (fC (.int 0)) (fun env=>getF env 1) (un1 lenD (fun env=>getF env 0)))))) (raiseX (Str.ofString "NoNumber") (fCons (fC (.str (Str.ofString "no hiding has this number"))) fNil)) (upF nxF)) (upF (retF (op2 idxD (fun env=>getF env 0) (fun env=>getF env 1)))))
def m_one_at:List D→Option Rs:=runX (F_one_at m_is_whole) 2
def F_hiding_at (q_one_at:List D→Option Rs) (q_all_hidings:List D→Option D):FsX:=(retX (callX (okL (fCons (fun env=>((fCons (fun env=>getF env 0) (fCons (fun env=>getF env 1) (fCons (fun env=>getF env 2) fNil))) env).bind q_all_hidings) (fCons (fun env=>getF env 3) fNil))) q_one_at))
def m_hiding_at:List D→Option Rs:=runX (F_hiding_at m_one_at m_all_hidings) 4
def F_is_hiding (q_is_tuple_of:List D→Option D) (q_is_ship:List D→Option D) (q_may_follow:List D→Option D):Fs:=(seqF (ifF (notB (fB (fun env=>((fCons (fun env=>getF env 3) (fCons (un1 lenD (fun env=>getF env 1)) fNil)) env).bind q_is_tuple_of))) (retF (fC (.bl false))) nxF) (seqF (ifF (notB (fB (un1 allD (compF (itT (fun env=>getF env 3)) [0] (tgN 0) (fun _=>some true) (emitF (fun env=>((fCons (fun env=>getF env 1) (fCons (fun env=>getF env 0) fNil)) env).bind q_is_ship)) 1 [0])))) (retF (fC (.bl false))) nxF) (seqF (ifF (fB (op2 neF (compF (itT (fun env=>getF env 3)) [0] (tgN 0) (fun _=>some true) (emitF (op2 idxD (fun env=>getF env 0) (fC (.int 3)))) 1 []) (un1 listD (fun env=>getF env 1)))) (retF (fC (.bl false))) nxF) (retF (un1 allD (compF (itE (fun env=>getF env 3)) [0,1] (tgT [0,1]) (fun _=>some true) (moreF (itT (slF cutTup (fun env=>getF env 3) (oSome (op2 addI (fun env=>getF env 0) (fC (.int 1)))) oNone)) [2] (tgN 2) (fun _=>some true) (emitF (fun env=>((fCons (fun env=>getF env 4) (fCons (fun env=>getF env 1) (fCons (fun env=>getF env 2) fNil))) env).bind q_may_follow))) 3 [3,2]))))))
def m_is_hiding:List D→Option D:=runF (F_is_hiding m_is_tuple_of m_is_ship m_may_follow) 4
def F_number_of (q_is_hiding:List D→Option D) (q_all_hidings:List D→Option D):FsX:=(seqX (ifX (notB (fB (fun env=>((fCons (fun env=>getF env 0) (fCons (fun env=>getF env 1) (fCons (fun env=>getF env 2) (fCons (fun env=>getF env 3) fNil)))) env).bind q_is_hiding))) (raiseX (Str.ofString "NoHiding") (fCons (fC (.str (Str.ofString "this is no hiding of the fleet"))) fNil)) (upF nxF)) (upF (retF (op2 idxF (fun env=>((fCons (fun env=>getF env 0) (fCons (fun env=>getF env 1) (fCons (fun env=>getF env 2) fNil))) env).bind q_all_hidings) (fun env=>getF env 3)))))
def m_number_of:List D→Option Rs:=runX (F_number_of m_is_hiding m_all_hidings) 4
def F__law_told (q_hiding_at:List D→Option Rs) (q_number_of:List D→Option Rs):FsX:=(seqX (upF (unF [3,4,5] (fun env=>getF env 1))) (seqX (upF (setF 6 (fC .non))) (seqX (tryX cs_ 7 6 (ifX (fB (op2 eqF (fun env=>getF env 0) (fC (.int 0)))) (fun _=>none) (ifX (fB (op2 eqF (fun env=>getF env 0) (fC (.int 1)))) (setX 6 (callX (okL (fCons (fun env=>getF env 3) (fCons (fun env=>getF env 4) (fCons (fun env=>getF env 5) (fCons (fun env=>getF env 2) fNil))))) q_hiding_at)) (setX 6 (callX (okL (fCons (fun env=>getF env 3) (fCons (fun env=>getF env 4) (fCons (fun env=>getF env 5) (fCons (fun env=>getF env 2) fNil))))) q_number_of))))) (upF (retF (fun env=>getF env 6))))))
def m__law_told:List D→Option D:=runX0 (F__law_told m_hiding_at m_number_of) 8
def F__law_odd (q__law_drawn:List D→Option D):Fs:=(seqF (unL [1,2,3] (fun env=>((fCons (fun env=>getF env 0) (fCons (fLst (fCons (fC (.int 19)) (fCons (fC (.int 40)) (fCons (fC (.int 7)) fNil)))) fNil)) env).bind q__law_drawn)) (seqF (setF 4 (fLst (fCons (fC (.int 0)) (fCons (un1 negI (fC (.int 1))) (fCons (fC (.int 1)) (fCons (fun env=>getF env 2) (fCons (fC (.int 8)) (fCons (fC (.int 9)) (fCons (fC (.bl true)) (fCons (fC (.bl false)) (fCons (fC .non) (fCons (fC (.str (Str.ofString ""))) (fCons (fC (.str (Str.ofString "a1"))) (fCons (fC (.str (Str.ofString "water"))) (fCons (fC (.str (Str.ofString "along"))) (fCons (op2 powI (fC (.int 10)) (fC (.int 39))) (fCons (op2 subI (fC (.int 0)) (op2 powI (fC (.int 10)) (fC (.int 20)))) fNil))))))))))))))))) (seqF (ifF (fB (op2 ltI (fun env=>getF env 1) (fC (.int 15)))) (retF (op2 idxD (fun env=>getF env 4) (fun env=>getF env 1))) nxF) (seqF (setF 5 (compF (itR1 (fun env=>getF env 3)) [0] (tgN 0) (fun _=>some true) (emitF (op2 idxD (fun env=>getF env 1) (op2 modI (op2 addI (fun env=>getF env 2) (op2 mulI (fun env=>getF env 0) (fun env=>getF env 0))) (fC (.int 15))))) 1 [4,2])) (seqF (ifF (fB (op2 gtI (fun env=>getF env 3) (fC (.int 3)))) (setF 5 (fLst (fCons (un1 tupleD (slF cutLst (fun env=>getF env 5) oNone (oSome (fC (.int 2))))) (fCons (un1 listD (slF cutLst (fun env=>getF env 5) (oSome (fC (.int 2))) oNone)) (fCons (op2 idxD (fun env=>getF env 5) (fC (.int 0))) fNil))))) nxF) (retF (op2 idxD (fLst (fCons (un1 tupleD (fun env=>getF env 5)) (fCons (fun env=>getF env 5) (fCons (fTup (fCons (fun env=>getF env 5) (fCons (un1 tupleD (fun env=>getF env 5)) fNil))) (fCons (un1 tupleD (slF cutLst (fun env=>getF env 5) oNone (oSome (fC (.int 2))))) fNil))))) (op2 subI (fun env=>getF env 1) (fC (.int 15))))))))))
def m__law_odd:List D→Option D:=runF (F__law_odd m__law_drawn) 6
def B_law_1 (q__law_told0:List D→Option D):Fs:=(seqF (setO 4 (fun env=>((fCons (fC (.int 0)) (fCons (fun env=>getF env 2) (fCons (fC .non) fNil))) env).bind q__law_told0)) (seqF (ifF (orB (notB (fB (un1 (isiF .list) (fun env=>getP env 4)))) (fB (op2 neF (fun env=>getP env 4) (fun env=>getF env 5)))) (retF (fC (.bl false))) nxF) (appF 4 (fC .non))))
def B_law_2 (q__law_told:List D→Option D) (q__law_only:List D→Option D):Fs:=(ifF (fB (op2 neF (fun env=>((fCons (fC (.int 1)) (fCons (fun env=>getF env 2) (fCons (fun env=>getF env 8) fNil))) env).bind q__law_told) (fun env=>((fCons (fC (.str (Str.ofString "number"))) fNil) env).bind q__law_only))) (retF (fC (.bl false))) nxF)
def B_law_3 (q__law_stir:List D→Option D) (q__law_told:List D→Option D):Fs:=(seqF (setF 8 (op2 idxD (fLst (fCons (fC (.int 0)) (fCons (op2 subI (un1 lenD (fun env=>getF env 3)) (fC (.int 1))) (fCons (op2 modI (fun env=>((fCons (fun env=>getF env 1) (fCons (op2 addI (fC (.int 310)) (fun env=>getF env 9)) fNil)) env).bind q__law_stir) (un1 lenD (fun env=>getF env 3))) fNil)))) (op2 minI (fun env=>getF env 9) (fC (.int 2))))) (ifF (orB (fB (op2 neF (fun env=>((fCons (fC (.int 1)) (fCons (fun env=>getF env 2) (fCons (fun env=>getF env 8) fNil))) env).bind q__law_told) (op2 idxD (fun env=>getF env 3) (fun env=>getF env 8)))) (fB (op2 neF (fun env=>((fCons (fC (.int 2)) (fCons (fun env=>getF env 2) (fCons (op2 idxD (fun env=>getF env 3) (fun env=>getF env 8)) fNil))) env).bind q__law_told) (fun env=>getF env 8)))) (retF (fC (.bl false))) nxF))
def B_law_4 (q__law_told:List D→Option D) (q__law_only:List D→Option D):Fs:=(ifF (fB (op2 neF (fun env=>((fCons (fC (.int 2)) (fCons (fun env=>getF env 2) (fCons (fun env=>getF env 10) fNil))) env).bind q__law_told) (fun env=>((fCons (fC (.str (Str.ofString "hiding"))) fNil) env).bind q__law_only))) (retF (fC (.bl false))) nxF)
def B_law_5 (q__law_game:List D→Option D) (q__law_all:List D→Option D) (q_how_many:List D→Option D) (q__law_whole:List D→Option D) (q__law_only:List D→Option D) (q__law_told0:List D→Option D) (q__law_stir:List D→Option D) (q__law_told:List D→Option D) (q__law_odd:List D→Option D):Fs:=(seqF (setF 2 (fun env=>((fCons (fun env=>getF env 1) fNil) env).bind q__law_game)) (seqF (setF 3 (fun env=>((fCons (op2 idxD (fun env=>getF env 2) (fC (.int 0))) (fCons (op2 idxD (fun env=>getF env 2) (fC (.int 1))) (fCons (op2 idxD (fun env=>getF env 2) (fC (.int 2))) fNil))) env).bind q__law_all)) (seqF (setF 4 (fun env=>((fCons (op2 idxD (fun env=>getF env 2) (fC (.int 0))) (fCons (op2 idxD (fun env=>getF env 2) (fC (.int 1))) (fCons (op2 idxD (fun env=>getF env 2) (fC (.int 2))) fNil))) env).bind q_how_many)) (seqF (ifF (orB (notB (fB (fun env=>((fCons (fun env=>getF env 4) fNil) env).bind q__law_whole))) (fB (op2 neF (fun env=>getF env 4) (un1 lenD (fun env=>getF env 3))))) (retF (fC (.bl false))) nxF) (seqF (setF 5 (iteFn (fB (op2 leI (un1 lenD (fun env=>getF env 3)) (fC (.int 1000)))) (fun env=>getF env 3) (fun env=>((fCons (fC (.str (Str.ofString "many"))) fNil) env).bind q__law_only))) (seqF (forF (itR1 (fC (.int 2))) (tgN 6) (B_law_1 q__law_told0)) (seqF (setF 7 (op2 addI (fC (.int 1)) (op2 modI (fun env=>((fCons (fun env=>getF env 1) (fCons (fC (.int 300)) fNil)) env).bind q__law_stir) (op2 powI (fC (.int 10)) (fC (.int 12)))))) (seqF (forF (itL (fLst (fCons (un1 negI (fC (.int 1))) (fCons (op2 subI (fC (.int 0)) (fun env=>getF env 7)) (fCons (un1 lenD (fun env=>getF env 3)) (fCons (op2 addI (un1 lenD (fun env=>getF env 3)) (fun env=>getF env 7)) fNil)))))) (tgN 8) (B_law_2 q__law_told q__law_only)) (seqF (forF (itR1 (op2 mulI (fC (.int 8)) (un1 intD (op2 neF (fun env=>getF env 3) (fLst fNil))))) (tgN 9) (B_law_3 q__law_stir q__law_told)) (forF (itL (fLst (fCons (fC .non) (fCons (fTup fNil) (fCons (un1 listD (slF cutLst (fun env=>getF env 3) oNone (oSome (fC (.int 1))))) (fCons (iteFn (fB (op2 neF (fun env=>getF env 3) (fLst fNil))) (slF cutTupW (op2 idxD (fun env=>getF env 3) (fC (.int 0))) oNone (oSome (un1 negI (fC (.int 1))))) (fC (.int 5))) (fCons (fun env=>((fCons (fun env=>getF env 1) fNil) env).bind q__law_odd) (fCons (fC (.bl true)) fNil)))))))) (tgN 10) (B_law_4 q__law_told q__law_only)))))))))))
def F_law (q__law_game:List D→Option D) (q__law_all:List D→Option D) (q_how_many:List D→Option D) (q__law_whole:List D→Option D) (q__law_only:List D→Option D) (q__law_told0:List D→Option D) (q__law_stir:List D→Option D) (q__law_told:List D→Option D) (q__law_odd:List D→Option D):Fs:=(seqF (forF (itL (op2 addL (fLst (fCons (fC (.int 0)) fNil)) (slF cutLst (fun env=>getF env 0) oNone (oSome (fC (.int 8)))))) (tgN 1) (B_law_5 q__law_game q__law_all q_how_many q__law_whole q__law_only q__law_told0 q__law_stir q__law_told q__law_odd)) (retF (fC (.bl true))))
def m_law:List D→Option D:=runF (F_law m__law_game m__law_all m_how_many m__law_whole m__law_only m__law_told0 m__law_stir m__law_told m__law_odd) 11
end K04
namespace K04
open PySem Mi
theorem stir_ok (c k:Int) (hk:0≤k) (hk2:k≤1000):∃ z,m__law_stir [.int c,.int k]=some (.int z):=by
  have p60:powI (.int 10) (.int 60)=some (.int (10 ^ 60)):=pow_in (big_in (by decide) (by decide)) (by decide) (by decide)
  have h60:(0:Int)<10 ^ 60:=by decide +kernel
  have h1:(c%10 ^ 60).natAbs≤10 ^ 60:=by
    have a:=Int.emod_nonneg c (Int.ne_of_gt h60)
    have b:=Int.emod_lt_of_pos c h60
    have e:(10 ^ 60:Int)=((10 ^ 60:Nat):Int):=by decide +kernel
    omega
  have m1:mulI (.int 7919) (.int k)=some (.int (7919*k)):=mul_in (by decide) (by decide) (by omega) (by omega)
  have h2:(c%10 ^ 60+7919*k+1).natAbs≤10 ^ 60+7919001:=by omega
  have m2:mulI (.int (c%10 ^ 60+7919*k+1)) (.int 27182818284590452353602874713527)=some (.int ((c%10 ^ 60+7919*k+1)*27182818284590452353602874713527)):=mul_big (big_of _ h2) (big_of 27182818284590452353602874713527 (by decide))
  generalize hn:(c%10 ^ 60+7919*k+1)*27182818284590452353602874713527=n at m2
  have hmod:modI (.int n) (.int 170141183460469231731687303715884105727)=some (.int (n%170141183460469231731687303715884105727)):=mod_in (by decide)
  have h3:(n%170141183460469231731687303715884105727).natAbs≤170141183460469231731687303715884105727:=by omega
  generalize n%170141183460469231731687303715884105727=q at hmod h3
  have p5:powI (.int q) (.int 5)=some (.int (q ^ 5)):=pow_in (big_of _ h3) (by decide) (by decide)
  have h4:=abs_pow _ 5 h3
  have m3:mulI (.int 48271) (.int k)=some (.int (48271*k)):=mul_in (by decide) (by decide) (by omega) (by omega)
  have h5:(q ^ 5+48271*k).natAbs≤170141183460469231731687303715884105727 ^ 5+48271000:=abs_add _ _ h4 (by omega)
  generalize q ^ 5=t at p5 h5
  have p3:powI (.int (t+48271*k)) (.int 3)=some (.int ((t+48271*k) ^ 3)):=pow_in (big_of _ h5) (by decide) (by decide)
  have hmod2:modI (.int ((t+48271*k) ^ 3)) (.int 162259276829213363391578010288127)=some (.int ((t+48271*k) ^ 3%162259276829213363391578010288127)):=mod_in (by decide)
  have hd:fdivI (.int ((t+48271*k) ^ 3%162259276829213363391578010288127)) (.int 7)=some (.int ((t+48271*k) ^ 3%162259276829213363391578010288127/7)):=fdiv_in (by decide) (by decide)
  have hmod0:modI (.int c) (.int (10 ^ 60))=some (.int (c%10 ^ 60)):=mod_in h60
  refine ⟨(t+48271*k) ^ 3%162259276829213363391578010288127/7,?_⟩
  · unfold m__law_stir runF F__law_stir
    simp only [startE,List.map,List.length,List.replicate,List.cons_append,List.nil_append,seqF,setF,retF,op2,fC,getF_F,getF_S,Option.bind_some,List.set,List.getElem?_cons_zero,List.getElem?_cons_succ,p60,hmod0,m1,add_v,m2,hmod,p5,m3,p3,hmod2,hd]
theorem p18_ok:∃ w,powI (.int 10) (.int 18)=some (.int w):=⟨_,pow_in (big_in (by decide) (by decide)) (by decide) (by decide)⟩
theorem body_ok (c q:Int) (ss r:List Int) (i:Nat) (s:Int) (hsi:ss[i]?=some s) (hpos:0<s∧s<1073741824) (hi:i<1000) (hr:r.length=i) :
    ∃ y q',(B__law_drawn_1 m__law_stir) [.F (.int c),.F (.lst (ss.map .int)),.O (.L (r.map .int)),.F (.int q),.F (.int i)]=some (.nx [.F (.int c),.F (.lst (ss.map .int)),.O (.L ((r++[y]).map .int)),.F (.int q'),.F (.int i)])∧0≤y∧y<s:=by
  obtain ⟨w,p18⟩:=p18_ok
  have hat:L2.atI (ss.map D.int) (i:Int)=some (.int s):=atI_nat (by rw [List.getElem?_map,hsi];rfl)
  obtain ⟨z,hz⟩:=stir_ok c i (by omega) (by omega)
  have hap:(r.map D.int).length<16000000:=by simp;omega
  have snoc:∀ y:Int,(r++[y]).map D.int=r.map D.int++[D.int y]:=fun y=>by simp
  have hix:op2 idxD (fun env=>getF env 1) (fun env=>getF env 4) [.F (.int c),.F (.lst (ss.map .int)),.O (.L (r.map .int)),.F (.int q),.F (.int i)]=some (.int s):=idx_v rfl rfl hat
  have t1:fB (op2 ltI (fun env=>getF env 0) (op2 powI (fC (.int 10)) (fC (.int 18)))) [.F (.int c),.F (.lst (ss.map .int)),.O (.L (r.map .int)),.F (.int q),.F (.int i)]=some (decide (c<w)):=fB_v ((op2_v rfl ((op2_v rfl rfl).trans p18)).trans (lt_v _ _))
  have t2:fB (op2 eqF (fun env=>getF env 3) (fC (.int 0))) [.F (.int c),.F (.lst (ss.map .int)),.O (.L (r.map .int)),.F (.int q),.F (.int i)]=some (q==0):=fB_v ((op2_v rfl rfl).trans (eq_v _ _))
  have stirred:∀ {t:Fb} {g:Fs},t [.F (.int c),.F (.lst (ss.map .int)),.O (.L (r.map .int)),.F (.int q),.F (.int i)]=some true→ifF t (appF 2 (op2 modI (fun env=>((fCons (fun env=>getF env 0) (fCons (fun env=>getF env 4) fNil)) env).bind m__law_stir) (op2 idxD (fun env=>getF env 1) (fun env=>getF env 4)))) g [.F (.int c),.F (.lst (ss.map .int)),.O (.L (r.map .int)),.F (.int q),.F (.int i)]=some (.nx [.F (.int c),.F (.lst (ss.map .int)),.O (.L ((r++[z%s]).map .int)),.F (.int q),.F (.int i)]):=fun ht=>by
    rw [snoc]
    exact (ifT_v ht).trans ((app_v rfl ((op2_v ((call_v (cons_v rfl (cons_v rfl nil_v))).trans hz) hix).trans (mod_in hpos.1)) hap))
  by_cases h1:c<w
  · rw [decide_eq_true h1] at t1
    exact ⟨z%s,q,stirred (orT_v t1),Int.emod_nonneg _ (by omega),Int.emod_lt_of_pos _ hpos.1⟩
  · rw [decide_eq_false h1] at t1
    by_cases h2:q=0
    · rw [show (q==0)=true by simp [h2]] at t2
      exact ⟨z%s,q,stirred ((orF_v t1).trans t2),Int.emod_nonneg _ (by omega),Int.emod_lt_of_pos _ hpos.1⟩
    · rw [show (q==0)=false by simp [h2]] at t2
      refine ⟨q%s,q/s,?_,Int.emod_nonneg _ (by omega),Int.emod_lt_of_pos _ hpos.1⟩
      rw [snoc]
      refine (ifE_v ((orF_v t1).trans t2)).trans ((seq_v (app_v rfl ((op2_v rfl hix).trans (mod_in hpos.1)) hap)).trans (set_v ((op2_v rfl (idx_v rfl rfl hat)).trans (fdiv_in hpos.1 hpos.2))))
theorem drawn_ok (c:Int) (ss:List Int) (hs:∀ x∈ss,0<x∧x<1073741824) (hl:ss.length≤1000) :
    ∃ r:List Int,m__law_drawn [.int c,.lst (ss.map .int)]=some (.lst (r.map .int))∧r.length=ss.length∧∀ (i:Nat) (x s:Int),r[i]?=some x→ss[i]?=some s→0≤x∧x<s:=by
  let I:Nat→En→Prop:=fun n env=>∃ (r:List Int) (q:Int) (s4:Slot),env=[.F (.int c),.F (.lst (ss.map .int)),.O (.L (r.map .int)),.F (.int q),s4]∧r.length=n∧∀ (i:Nat) (x s:Int),r[i]?=some x→ss[i]?=some s→0≤x∧x<s
  have hrl:(rangeL 0 ss.length).length=ss.length:=by simp [rangeL]
  obtain ⟨e2,h1,r,q,s4,he,hr,hx⟩:=loop_at (t:=tgN 4) (body:=(B__law_drawn_1 m__law_stir)) I (rangeL 0 ss.length) 0 [.F (.int c),.F (.lst (ss.map .int)),.O (.L []),.F (.int c),.un] ⟨[],c,.un,rfl,rfl,fun i x s h=>by simp at h⟩ fun i d e hd ⟨r,q,s4,he,hr,hx⟩=>by
      subst he
      obtain ⟨rfl,hi⟩:=rng_get hd
      obtain ⟨s,hsi⟩:∃ s,ss[i]?=some s:=⟨ss[i],List.getElem?_eq_getElem hi⟩
      have hpos:=hs s (List.mem_of_getElem? hsi)
      obtain ⟨y,q',h2,h3,h4⟩:=body_ok c q ss r i s hsi hpos (by omega) (by omega)
      refine ⟨_,h2,r++[y],q',_,rfl,by simp;omega,fun j x s' hx' hsj=>?_⟩
      by_cases hj:j<r.length
      · rw [List.getElem?_append_left hj] at hx'
        exact hx j x s' hx' hsj
      · rw [List.getElem?_append_right (by omega)] at hx'
        have hj0:j-r.length=0:=by
          have:=(List.getElem?_eq_some_iff.mp hx').1
          simp at this
          omega
        rw [hj0] at hx'
        cases hx'
        rw [show j=i by omega,hsi] at hsj
        cases hsj
        exact ⟨h3,h4⟩
  subst he
  rw [hrl] at hr
  refine ⟨r,?_,by omega,hx⟩
  have hit:itR1 (un1 lenD (fun env=>getF env 1)) [.F (.int c),.F (.lst (ss.map .int)),.O (.L []),.F (.int c),.un]=some (rangeL 0 ss.length):=by
    rw [← List.length_map (f:=D.int) (as:=ss)]
    exact itR1_v (len_v rfl) (by rw [List.length_map];omega)
  exact run_v ((seq_v rfl).trans ((seq_v rfl).trans ((seq_v ((for_v hit).trans h1)).trans rfl)))
end K04
namespace K04
open PySem Mi
abbrev sAl:Str:=Str.ofString "along"
abbrev sDn:Str:=Str.ofString "down"
abbrev sFr:Str:=Str.ofString "free"
abbrev sSi:Str:=Str.ofString "sides"
abbrev sCo:Str:=Str.ofString "corners"
def IsRule (r:Str):Prop:=r=sFr∨r=sSi∨r=sCo
structure Sh where
  a:Int
  b:Int
  dn:Bool
  n:Nat
  deriving DecidableEq
def Sh.w (s:Sh):Str:=if s.dn=true then sDn else sAl
def Sh.d (s:Sh):D:=.tup [.int s.a,.int s.b,.str s.w,.int s.n]
def Sh.at (s:Sh) (i:Int):Int×Int:=if s.dn=true then (s.a+i,s.b) else (s.a,s.b+i)
def Sh.cs (s:Sh):List (Int×Int):=(List.range s.n).map fun (i:Nat)=>s.at i
def cel (p:Int×Int):D:=.tup [.int p.1,.int p.2]
theorem rng_map {g:D→D} (n:Nat):(rangeL 0 n).map g=(List.range n).map fun (i:Nat)=>g (.int i):=by
  unfold rangeL;simp [List.map_map,Function.comp_def]
theorem rng_flat {g:D→List D} (n:Nat):(rangeL 0 n).flatMap g=(List.range n).flatMap fun (i:Nat)=>g (.int i):=by
  unfold rangeL;rw [List.flatMap_map];simp
theorem flat1 {g:D→D}:∀ (ds:List D),(ds.flatMap fun d=>[g d])=ds.map g
  | []=>rfl
  | d::ds=>by rw [List.flatMap_cons,flat1 ds];rfl
theorem go_flat {t:Ft} {c:Fb} {k:En→Option (List D)} {env:En} (g:D→List D):∀ (ds:List D),(∀ d∈ds,∃ e1,t d env=some e1∧c e1=some true∧k e1=some (g d))→goF t c k env ds=some (ds.flatMap g)
  | [],_=>rfl
  | d::ds,h=>by
    obtain ⟨e1,h1,h2,h3⟩:=h d List.mem_cons_self
    have ih:=go_flat g ds fun x hx=>h x (List.mem_cons_of_mem _ hx)
    unfold goF
    rw [h1];show (c e1).bind _=_;rw [h2]
    show (if true=true then k e1 else some []).bind _=_
    rw [if_pos rfl,h3];show (goF t c k env ds).bind _=_;rw [ih];rfl
theorem more_v {fi:Fi} {is:List Nat} {t:Ft} {c:Fb} {k:En→Option (List D)} {env:En} {ds xs:List D} (h1:fi env=some ds) (h2:unAll is env=true) (h3:goF t c k env ds=some xs):moreF fi is t c k env=some xs:=by
  unfold moreF;rw [h1];show (if unAll is env=true then _ else _)=_;rw [if_pos h2,h3]
def atD (s:Sh):D→D
  | .int i=>cel (s.at i)
  | _=>.non
theorem cs_map (s:Sh):(rangeL 0 s.n).map (atD s)=s.cs.map cel:=by
  rw [rng_map];unfold Sh.cs;rw [List.map_map];rfl
theorem cs_len (s:Sh):s.cs.length=s.n:=by unfold Sh.cs;simp
theorem cells1 (s:Sh) (s0:Slot) (i:Nat) (hi:i<1000) (acc:List D) (hl:acc.length<16000) :
    B__law_cells_1 [s0,.F (.int s.a),.F (.int s.b),.F (.str s.w),.F (.int s.n),.O (.L acc),.F (.int i)]=some (.nx [s0,.F (.int s.a),.F (.int s.b),.F (.str s.w),.F (.int s.n),.O (.L (acc++[cel (s.at i)])),.F (.int i)]):=by
  obtain ⟨a,b,dn,n⟩:=s
  have m0:mulI (.int i) (.int 0)=some (.int 0):=by rw [mul_in (by omega) (by omega) (by decide) (by decide),Int.mul_zero]
  have m1:mulI (.int i) (.int 1)=some (.int i):=by rw [mul_in (by omega) (by omega) (by decide) (by decide),Int.mul_one]
  cases dn
  · have e0:un1 intD (op2 eqF (fun env=>getF env 3) (fC (.str (Str.ofString "down")))) [s0,.F (.int a),.F (.int b),.F (.str sAl),.F (.int n),.O (.L acc),.F (.int i)]=some (.int 0):=rfl
    have e1:un1 intD (op2 eqF (fun env=>getF env 3) (fC (.str (Str.ofString "along")))) [s0,.F (.int a),.F (.int b),.F (.str sAl),.F (.int n),.O (.L acc),.F (.int i)]=some (.int 1):=rfl
    refine app_v (d:=cel (a,b+i)) rfl (tup_v (cons_v ((op2_v (y:=.int 0) rfl ((op2_v rfl e0).trans m0)).trans ?_) (cons_v ((op2_v (y:=.int i) rfl ((op2_v rfl e1).trans m1)).trans (add_v _ _)) nil_v))) (by omega)
    rw [add_v,Int.add_zero]
  · have e0:un1 intD (op2 eqF (fun env=>getF env 3) (fC (.str (Str.ofString "along")))) [s0,.F (.int a),.F (.int b),.F (.str sDn),.F (.int n),.O (.L acc),.F (.int i)]=some (.int 0):=rfl
    have e1:un1 intD (op2 eqF (fun env=>getF env 3) (fC (.str (Str.ofString "down")))) [s0,.F (.int a),.F (.int b),.F (.str sDn),.F (.int n),.O (.L acc),.F (.int i)]=some (.int 1):=rfl
    refine app_v (d:=cel (a+i,b)) rfl (tup_v (cons_v ((op2_v (y:=.int i) rfl ((op2_v rfl e1).trans m1)).trans (add_v _ _)) (cons_v ((op2_v (y:=.int 0) rfl ((op2_v rfl e0).trans m0)).trans ?_) nil_v))) (by omega)
    rw [add_v,Int.add_zero]
theorem cells_ok (s:Sh) (hn:s.n≤1000):m__law_cells [s.d]=some (.lst (s.cs.map cel)):=by
  obtain ⟨e2,h1,s6,h2⟩:=loop_acc (t:=tgN 6) (body:=B__law_cells_1) (fun acc e=>∃ s6,e=[.F s.d,.F (.int s.a),.F (.int s.b),.F (.str s.w),.F (.int s.n),.O (.L acc),s6]) (fun d=>[atD s d]) 1 8000 (rangeL 0 s.n) [] [.F s.d,.F (.int s.a),.F (.int s.b),.F (.str s.w),.F (.int s.n),.O (.L []),.un] ⟨_,rfl⟩ (by rw [rng_len,List.length_nil];omega) fun d hd=>⟨Nat.le_refl _,fun acc e ⟨s6,he⟩ hl=>by
    subst he
    obtain ⟨i,hi,rfl⟩:=mem_rng.mp hd
    exact ⟨_,cells1 s (.F s.d) i (by omega) acc (by omega),_,rfl⟩⟩
  subst h2
  rw [flat1,cs_map,List.nil_append] at h1
  exact run_v ((seq_v (unF_v (ds:=[.int s.a,.int s.b,.str s.w,.int s.n]) rfl rfl)).trans ((seq_v (setO_v rfl)).trans ((seq_v ((for_v (itR1_v (n:=s.n) rfl (by omega))).trans h1)).trans rfl)))
theorem put_mem (ks:List (Int×Int)) (p q:Int×Int):q∈putP ks p↔q∈ks∨q=p:=by
  unfold putP
  split
  · rename_i h
    exact ⟨fun z=>.inl z,fun z=>z.elim id fun e=>e▸h⟩
  · simp
theorem put_len (ks:List (Int×Int)) (p:Int×Int):(putP ks p).length≤ks.length+1:=by
  unfold putP;split<;>simp
theorem put_v {i:Nat} {fs:Fes} {env:En} {ks:List (Int×Int)} {a b:Int} (h:fs env=some [.int a,.int b]) (h1:env[i]?=some (.O (.T ks))) (hl:ks.length<16000000):putQ i fs env=some (.nx (env.set i (.O (.T (putP ks (a,b)))))):=by
  unfold putQ;rw [h,Option.bind_some,h1];show (if ks.length<16000000 then _ else _)=_;rw [if_pos hl]
def plus (p q:Int×Int):Int×Int:=(p.1+q.1,p.2+q.2)
theorem halo1 (s0 s1 s6 s7:Slot) (st:List (Int×Int)) (hst:st.length≤9) (p:Int×Int) (ks:List (Int×Int)) (hk:ks.length≤15000) :
    ∃ ks' s6' s7',B__law_halo_2 [s0,s1,.O (.T ks),.F (.lst (st.map cel)),.F (.int p.1),.F (.int p.2),s6,s7]=some (.nx [s0,s1,.O (.T ks'),.F (.lst (st.map cel)),.F (.int p.1),.F (.int p.2),s6',s7'])∧ks'.length≤ks.length+9∧∀ q,q∈ks'↔q∈ks∨∃ t∈st,q=plus p t:=by
  obtain ⟨e2,h1,ks',s6',s7',h2,h3,h4⟩:=loop_at (t:=tgT [6,7]) (body:=B__law_halo_1) (fun j e=>∃ ks' s6' s7',e=[s0,s1,.O (.T ks'),.F (.lst (st.map cel)),.F (.int p.1),.F (.int p.2),s6',s7']∧ks'.length≤ks.length+j∧∀ q,q∈ks'↔q∈ks∨∃ t∈st.take j,q=plus p t) (st.map cel) 0 _ ⟨ks,s6,s7,rfl,by omega,fun q=>by simp⟩ fun i d e hd ⟨ks',s6',s7',he,h3,h4⟩=>by
    subst he
    rw [List.getElem?_map] at hd
    obtain ⟨q,hq,rfl⟩:=Option.map_eq_some_iff.mp hd
    have hi:=(List.getElem?_eq_some_iff.mp hq).1
    have u3:=put_len ks' (p.1+q.1,p.2+q.2)
    refine ⟨_,tg_v (e0:=[s0,s1,.O (.T ks'),.F (.lst (st.map cel)),.F (.int p.1),.F (.int p.2),.F (.int q.1),.F (.int q.2)]) rfl (put_v (ks:=ks') (a:=p.1+q.1) (b:=p.2+q.2) rfl rfl (by omega)),_,_,_,rfl,by omega,fun x=>?_⟩
    rw [put_mem,h4,Nat.zero_add,List.take_add_one,hq]
    simp only [Option.toList_some,List.mem_append,List.mem_singleton]
    constructor
    · rintro ((h | ⟨t,ht,e⟩) | e)
      · exact .inl h
      · exact .inr ⟨t,.inl ht,e⟩
      · exact .inr ⟨q,.inr rfl,e⟩
    · rintro (h | ⟨t,ht | rfl,e⟩)
      · exact .inl (.inl h)
      · exact .inl (.inr ⟨t,ht,e⟩)
      · exact .inr e
  subst h2
  rw [List.length_map,Nat.zero_add] at h3 h4
  rw [List.take_length] at h4
  exact ⟨ks',s6',s7',(for_v (itL_v rfl)).trans h1,by omega,h4⟩
theorem halo_walk (s:Sh) (hn:s.n≤1000) (r:D) (st:List (Int×Int)) (hst:st.length≤9) :
    ∃ ks,seqF (forF (itL (fun env=>((fCons (fun env=>getF env 1) fNil) env).bind m__law_cells)) (tgT [4,5]) (B__law_halo_2 )) (retQ 2) [.F r,.F s.d,.O (.T []),.F (.lst (st.map cel)),.un,.un,.un,.un]=some (.rt (.dct ks))∧∀ q,q∈ks↔∃ p∈s.cs,∃ t∈st,q=plus p t:=by
  have hlen:=cs_len s
  obtain ⟨e2,h1,ks,s4,s5,s6,s7,h2,h3,h4⟩:=loop_at (t:=tgT [4,5]) (body:=B__law_halo_2) (fun j e=>∃ ks s4 s5 s6 s7,e=[.F r,.F s.d,.O (.T ks),.F (.lst (st.map cel)),s4,s5,s6,s7]∧ks.length≤9*j∧∀ q,q∈ks↔∃ p∈s.cs.take j,∃ t∈st,q=plus p t) (s.cs.map cel) 0 _ ⟨[],.un,.un,.un,.un,rfl,by simp,fun q=>by simp⟩ fun i d e hd ⟨ks,s4,s5,s6,s7,he,h3,h4⟩=>by
    subst he
    rw [List.getElem?_map] at hd
    obtain ⟨q,hq,rfl⟩:=Option.map_eq_some_iff.mp hd
    have hi:=(List.getElem?_eq_some_iff.mp hq).1
    obtain ⟨ks',s6',s7',u1,u2,u3⟩:=halo1 (.F r) (.F s.d) s6 s7 st hst q ks (by omega)
    refine ⟨_,tg_v (e0:=[.F r,.F s.d,.O (.T ks),.F (.lst (st.map cel)),.F (.int q.1),.F (.int q.2),s6,s7]) rfl u1,ks',_,_,_,_,rfl,by omega,fun x=>?_⟩
    rw [u3,h4,Nat.zero_add,List.take_add_one,hq]
    simp only [Option.toList_some,List.mem_append,List.mem_singleton]
    constructor
    · rintro (⟨p,hp,t,ht,e⟩ | ⟨t,ht,e⟩)
      · exact ⟨p,.inl hp,t,ht,e⟩
      · exact ⟨q,.inr rfl,t,ht,e⟩
    · rintro ⟨p,hp | rfl,t,ht,e⟩
      · exact .inl ⟨p,hp,t,ht,e⟩
      · exact .inr ⟨t,ht,e⟩
  subst h2
  rw [List.length_map,Nat.zero_add] at h4
  rw [List.take_length] at h4
  exact ⟨ks,(seq_v ((for_v (itL_v ((call_v (cons_v rfl nil_v)).trans (cells_ok s hn)))).trans h1)).trans rfl,h4⟩
def steps (r:Str):List (Int×Int):=
  if r=sFr then [(0,0)] else if r=sSi then [(0,0),(0,1),(1,0),(0,-1),(-1,0)] else [(0,0),(0,1),(1,0),(0,-1),(-1,0),(1,1),(1,-1),(-1,1),(-1,-1)]
theorem steps_fr:steps sFr=[(0,0)]:=by unfold steps;rw [if_pos rfl]
theorem steps_si:steps sSi=[(0,0),(0,1),(1,0),(0,-1),(-1,0)]:=by unfold steps;rw [if_neg (by decide),if_pos rfl]
theorem steps_co:steps sCo=[(0,0),(0,1),(1,0),(0,-1),(-1,0),(1,1),(1,-1),(-1,1),(-1,-1)]:=by unfold steps;rw [if_neg (by decide),if_neg (by decide)]
theorem halo_ok (s:Sh) (hn:s.n≤1000) (r:Str) (hr:IsRule r):∃ ks,m__law_halo [.str r,s.d]=some (.dct ks)∧∀ q,q∈ks↔∃ p∈s.cs,∃ t∈steps r,q=plus p t:=by
  rcases hr with rfl | rfl | rfl
  · obtain ⟨ks,h1,h2⟩:=halo_walk s hn (.str sFr) [(0,0)] (by decide)
    exact ⟨ks,run_v ((seq_v rfl).trans ((seq_v rfl).trans ((seq_v ((ifE_v rfl).trans rfl)).trans ((seq_v ((ifE_v rfl).trans rfl)).trans h1)))),by rw [steps_fr];exact h2⟩
  · obtain ⟨ks,h1,h2⟩:=halo_walk s hn (.str sSi) [(0,0),(0,1),(1,0),(0,-1),(-1,0)] (by decide)
    exact ⟨ks,run_v ((seq_v rfl).trans ((seq_v rfl).trans ((seq_v ((ifT_v rfl).trans rfl)).trans ((seq_v ((ifE_v rfl).trans rfl)).trans h1)))),by rw [steps_si];exact h2⟩
  · obtain ⟨ks,h1,h2⟩:=halo_walk s hn (.str sCo) [(0,0),(0,1),(1,0),(0,-1),(-1,0),(1,1),(1,-1),(-1,1),(-1,-1)] (by decide)
    exact ⟨ks,run_v ((seq_v rfl).trans ((seq_v rfl).trans ((seq_v ((ifT_v rfl).trans rfl)).trans ((seq_v ((ifT_v rfl).trans rfl)).trans h1)))),by rw [steps_co];exact h2⟩
def whB:D→Bool
  | .int _=>true
  | _=>false
def szB:D→Bool
  | .int i=>decide (1≤i)&&decide (i≤8)
  | _=>false
theorem whole_ok (d:D):m_is_whole [d]=some (.bl (whB d)):=by cases d<;>rfl
theorem size_ok (d:D):m_is_size [d]=some (.bl (szB d)):=by
  have h1:(fun env=>((fCons (fun env=>getF env 0) fNil) env).bind m_is_whole) (startE 1 [d])=some (.bl (whB d)):=(call_v rfl).trans (whole_ok d)
  refine run_v (ret_v ?_)
  cases d
  case int i=>exact (and_t h1).trans (ch_v (x:=.int 1) (y:=.int i) (w:=.int 8) rfl rfl rfl (le_v _ _) (le_v _ _))
  all_goals exact and_f h1
def tupN (n:Int):D→Bool
  | .tup ds=>(ds.length:Int)==n
  | _=>false
theorem tupof_ok (d:D) (n:Int):m_is_tuple_of [d,.int n]=some (.bl (tupN n d)):=by
  refine run_v (ret_v ?_)
  cases d<;>try rfl
theorem tupN4 {d:D} (h:tupN 4 d=true):∃ a b c e,d=.tup [a,b,c,e]:=by
  cases d<;>try cases h
  rename_i ds
  have h':(ds.length:Int)=4:=by simpa [tupN] using h
  match ds,h' with
  | [a,b,c,e],_=>exact ⟨a,b,c,e,rfl⟩
  | [],h=>simp at h
  | [_],h=>simp at h
  | [_,_],h=>simp at h
  | [_,_,_],h=>simp at h
  | _::_::_::_::_::_,h=>simp at h;omega
def inR (r:Int):D→Bool
  | .int i=>decide (0≤i)&&decide (i<r)
  | _=>false
theorem cell_ok (r c:Int) (a b:D):m_is_cell [.tup [.int r,.int c],.tup [a,b]]=some (.bl (inR r a&&inR c b)):=by
  have t1:fB (fun env=>((fCons (fun env=>getF env 1) (fCons (fC (.int 2)) fNil)) env).bind m_is_tuple_of) (startE 4 [.tup [.int r,.int c],.tup [a,b]])=some true:=fB_v ((call_v rfl).trans (tupof_ok _ 2))
  refine run_v ((seq_v ((ifE_v (not_v t1)).trans rfl)).trans ((seq_v (unF_v (ds:=[a,b]) rfl rfl)).trans (ret_v ?_)))
  have w1:(fun env=>((fCons (fun env=>getF env 2) fNil) env).bind m_is_whole) [.F (.tup [.int r,.int c]),.F (.tup [a,b]),.F a,.F b]=some (.bl (whB a)):=(call_v rfl).trans (whole_ok a)
  have w2:(fun env=>((fCons (fun env=>getF env 3) fNil) env).bind m_is_whole) [.F (.tup [.int r,.int c]),.F (.tup [a,b]),.F a,.F b]=some (.bl (whB b)):=(call_v rfl).trans (whole_ok b)
  cases a
  case int i=>
    refine (and_t w1).trans ?_
    cases b
    case int j=>exact (and_t w2).trans (and_v (ch_v (x:=.int 0) (y:=.int i) (w:=.int r) rfl rfl rfl (le_v _ _) (lt_v _ _)) fun _=>ch_v (x:=.int 0) (y:=.int j) (w:=.int c) rfl rfl rfl (le_v _ _) (lt_v _ _))
    all_goals exact (and_f w2).trans (by simp [inR])
  all_goals exact and_f w1
def shipB (r c:Int):D→Bool
  | .tup [.int a,.int b,.str w,.int l]=>(sAl==w||sDn==w)&&szB (.int l)&&(inR r (.int a)&&inR c (.int b))&&(if (w==sDn)=true then decide (1<l)&&decide (a+l≤r) else decide (b+l≤c))
  | _=>false
theorem inW (w:D):inD w [.str sAl,.str sDn]=match w with | .str x=>sAl==x||sDn==x | _=>false:=by
  cases w<;>simp [inD,eqD]
theorem ship_ok (r c:Int) (d:D) (hd:dep d≤50) (hp:pl d=true):m_is_ship [.tup [.int r,.int c],d]=some (.bl (shipB r c d)):=by
  have t1:fB (fun env=>((fCons (fun env=>getF env 1) (fCons (fC (.int 4)) fNil)) env).bind m_is_tuple_of) (startE 6 [.tup [.int r,.int c],d])=some (tupN 4 d):=fB_v ((call_v rfl).trans (tupof_ok _ 4))
  cases h:tupN 4 d with
  | false=>
    rw [h] at t1
    have:shipB r c d=false:=by
      cases d<;>try rfl
      rename_i ds
      unfold shipB
      split
      · rename_i e;cases e;cases h
      · rfl
    rw [this]
    exact run_v (seqR_v ((ifT_v (not_v t1)).trans rfl))
  | true=>
    rw [h] at t1
    obtain ⟨a,b,w,l,rfl⟩:=tupN4 h
    have dw:dep w≤60:=by
      unfold dep deps deps deps at hd
      omega
    have pw:pl w=true:=by
      unfold pl pls pls pls at hp
      simp only [Bool.and_eq_true] at hp
      exact hp.2.2.1
    refine run_v ((seq_v ((ifE_v (not_v t1)).trans rfl)).trans ((seq_v (unF_v (ds:=[a,b,w,l]) rfl rfl)).trans ?_))
    show seqF _ _ [.F (.tup [.int r,.int c]),.F (.tup [a,b,w,l]),.F a,.F b,.F w,.F l]=_
    have t2:fB (op2 (inF true) (fun env=>getF env 4) (fC c_WAYS)) [.F (.tup [.int r,.int c]),.F (.tup [a,b,w,l]),.F a,.F b,.F w,.F l]=some (!inD w [.str sAl,.str sDn]):=fB_v (ninT_v rfl rfl dw rfl (by rw [pw];rfl))
    have t3:fB (fun env=>((fCons (fun env=>getF env 5) fNil) env).bind m_is_size) [.F (.tup [.int r,.int c]),.F (.tup [a,b,w,l]),.F a,.F b,.F w,.F l]=some (szB l):=fB_v ((call_v rfl).trans (size_ok l))
    have t4:fB (fun env=>((fCons (fun env=>getF env 0) (fCons (fTup (fCons (fun env=>getF env 2) (fCons (fun env=>getF env 3) fNil))) fNil)) env).bind m_is_cell) [.F (.tup [.int r,.int c]),.F (.tup [a,b,w,l]),.F a,.F b,.F w,.F l]=some (inR r a&&inR c b):=fB_v ((call_v rfl).trans (cell_ok r c a b))
    have t5:=orB_v t2 fun _=>orB_v (not_v t3) fun _=>not_v t4
    cases hb:(!inD w [.str sAl,.str sDn]||(!szB l||!(inR r a&&inR c b))) with
    | true=>
      rw [hb] at t5
      have:shipB r c (.tup [a,b,w,l])=false:=by
        unfold shipB
        split
        · rename_i e
          cases e
          rw [inW] at hb
          rename_i x1 x2 x3 x4
          cases e1:(sAl==x3||sDn==x3)<;>cases e2:szB (.int x4)<;>cases e3:(inR r (.int x1)&&inR c (.int x2))<;>simp_all
        · rfl
      rw [this]
      exact seqR_v ((ifT_v t5).trans rfl)
    | false=>
      rw [hb] at t5
      simp only [Bool.or_eq_false_iff,Bool.not_eq_false',Bool.and_eq_true] at hb
      obtain ⟨b1,b2,b3,b4⟩:=hb
      rw [inW] at b1
      cases w<;>try cases b1
      rename_i x
      cases l<;>try cases b2
      rename_i l
      cases a<;>try cases b3
      rename_i a
      cases b<;>try cases b4
      rename_i b
      refine (seq_v ((ifE_v t5).trans rfl)).trans ?_
      have b1':(sAl==x||sDn==x)=true:=b1
      have:shipB r c (.tup [.int a,.int b,.str x,.int l])=(if (x==sDn)=true then decide (1<l)&&decide (a+l≤r) else decide (b+l≤c)):=by
        show ((sAl==x||sDn==x)&&szB (.int l)&&(inR r (.int a)&&inR c (.int b))&&_)=_
        rw [b1',b2,b3,b4];rfl
      rw [this]
      have t6:fB (op2 eqF (fun env=>getF env 4) (fC (.str sDn))) [.F (.tup [.int r,.int c]),.F (.tup [.int a,.int b,.str x,.int l]),.F (.int a),.F (.int b),.F (.str x),.F (.int l)]=some (x==sDn):=fB_v (eq_d rfl rfl (ok_r (by rw [dep_str];omega) rfl) (by unfold eqD;rfl))
      cases hx:(x==sDn) with
      | true=>
        rw [hx] at t6
        rw [if_pos rfl]
        exact seqR_v ((ifT_v t6).trans (ret_v (and_v rfl fun _=>(op2_v (add_v _ _) rfl).trans (le_v _ _))))
      | false=>
        rw [hx] at t6
        rw [if_neg (by simp)]
        exact (seq_v ((ifE_v t6).trans rfl)).trans (ret_v ((op2_v (add_v _ _) rfl).trans (le_v _ _)))
abbrev ship (a b:Int) (w:Str) (l:Int):D:=.tup [.int a,.int b,.str w,.int l]
def gS (r c l:Int):D→D→List D
  | .int a,.int b=>(if b+l≤c then [ship a b sAl l] else [])++(if a+l≤r∧1<l then [ship a b sDn l] else [])
  | _,_=>[]
theorem gS_len (r c l:Int) (x y:D):(gS r c l x y).length≤2:=by
  unfold gS
  split
  · rw [List.length_append];split<;>split<;>simp
  · simp
abbrev eS (r c l:Int) (acc:List D) (s3 s4:Slot):En:=[.F (.tup [.int r,.int c]),.F (.int l),.O (.L acc),s3,s4]
theorem ships1_ok (r c l a b:Int) (acc:List D) (h:acc.length+2≤16000):B__law_ships_1 (eS r c l acc (.F (.int a)) (.F (.int b)))=some (.nx (eS r c l (acc++gS r c l (.int a) (.int b)) (.F (.int a)) (.F (.int b)))):=by
  have p1:∀ acc':List D,acc'.length<16000→appF 2 (fTup (fCons (fun env=>getF env 3) (fCons (fun env=>getF env 4) (fCons (fC (.str (Str.ofString "along"))) (fCons (fun env=>getF env 1) fNil))))) (eS r c l acc' (.F (.int a)) (.F (.int b)))=some (.nx (eS r c l (acc'++[ship a b sAl l]) (.F (.int a)) (.F (.int b)))):=fun acc' h'=>app_v rfl rfl (by omega)
  have p2:∀ acc':List D,acc'.length<16000→appF 2 (fTup (fCons (fun env=>getF env 3) (fCons (fun env=>getF env 4) (fCons (fC (.str (Str.ofString "down"))) (fCons (fun env=>getF env 1) fNil))))) (eS r c l acc' (.F (.int a)) (.F (.int b)))=some (.nx (eS r c l (acc'++[ship a b sDn l]) (.F (.int a)) (.F (.int b)))):=fun acc' h'=>app_v rfl rfl (by omega)
  have t1:∀ acc':List D,fB (op2 leI (op2 addI (fun env=>getF env 4) (fun env=>getF env 1)) (op2 idxD (fun env=>getF env 0) (fC (.int 1)))) (eS r c l acc' (.F (.int a)) (.F (.int b)))=some (decide (b+l≤c)):=fun _=>rfl
  have t2:∀ acc':List D,andB (fB (op2 leI (op2 addI (fun env=>getF env 3) (fun env=>getF env 1)) (op2 idxD (fun env=>getF env 0) (fC (.int 0))))) (fB (op2 gtI (fun env=>getF env 1) (fC (.int 1)))) (eS r c l acc' (.F (.int a)) (.F (.int b)))=some (decide (a+l≤r)&&decide (1<l)):=fun acc'=>
    andB_v (show _=some (decide (a+l≤r)) from rfl) fun _=>(show _=some (decide (1<l)) from rfl)
  have step2:∀ acc':List D,acc'.length<16000→(ifF (andB (fB (op2 leI (op2 addI (fun env=>getF env 3) (fun env=>getF env 1)) (op2 idxD (fun env=>getF env 0) (fC (.int 0))))) (fB (op2 gtI (fun env=>getF env 1) (fC (.int 1))))) (appF 2 (fTup (fCons (fun env=>getF env 3) (fCons (fun env=>getF env 4) (fCons (fC (.str (Str.ofString "down"))) (fCons (fun env=>getF env 1) fNil)))))) nxF) (eS r c l acc' (.F (.int a)) (.F (.int b)))=some (.nx (eS r c l (acc'++(if a+l≤r∧1<l then [ship a b sDn l] else [])) (.F (.int a)) (.F (.int b)))):=fun acc' h'=>by
    by_cases hh:a+l≤r∧1<l
    · rw [if_pos hh]
      exact (ifT_v ((t2 acc').trans (by rw [decide_eq_true hh.1,decide_eq_true hh.2];rfl))).trans (p2 acc' h')
    · rw [if_neg hh,List.append_nil]
      refine (ifE_v ((t2 acc').trans ?_)).trans rfl
      congr 1
      rw [Bool.eq_false_iff]
      intro e
      simp only [Bool.and_eq_true,decide_eq_true_eq] at e
      exact hh e
  show seqF _ _ _=_
  show _=some (Out.nx (eS r c l (acc++((if b+l≤c then [ship a b sAl l] else [])++(if a+l≤r∧1<l then [ship a b sDn l] else []))) (.F (.int a)) (.F (.int b))))
  rw [← List.append_assoc]
  by_cases h1:b+l≤c
  · rw [if_pos h1]
    exact (seq_v ((ifT_v ((t1 acc).trans (by rw [decide_eq_true h1]))).trans (p1 acc (by omega)))).trans (step2 _ (by simp;omega))
  · rw [if_neg h1,List.append_nil]
    exact (seq_v ((ifE_v ((t1 acc).trans (by rw [decide_eq_false h1]))).trans rfl)).trans (step2 _ (by omega))
def allS (r c l:Int) (R C:Nat):List D:=(rangeL 0 R).flatMap fun x=>(rangeL 0 C).flatMap fun y=>gS r c l x y
theorem ships_ok (R C:Nat) (hR:R≤60) (hC:C≤60) (l:Int):m__law_ships [.tup [.int R,.int C],.int l]=some (.lst (allS R C l R C)):=by
  have inner:∀ (a:Nat) (acc:List D) (s4:Slot),acc.length+2*C≤8000→∃ s4',B__law_ships_2 (eS R C l acc (.F (.int a)) s4)=some (.nx (eS R C l (acc++(rangeL 0 C).flatMap fun y=>gS R C l (.int a) y) (.F (.int a)) s4')):=fun a acc s4 hl=>by
    obtain ⟨e2,h1,s,h2⟩:=loop_acc (t:=tgN 4) (body:=B__law_ships_1) (fun acc e=>∃ s,e=eS R C l acc (.F (.int a)) s) (fun y=>gS R C l (.int a) y) 2 8000 (rangeL 0 C) acc (eS R C l acc (.F (.int a)) s4) ⟨_,rfl⟩ (by rw [rng_len];omega) fun d hd=>⟨gS_len ..,fun acc' e ⟨s,he⟩ hl'=>by
      subst he
      obtain ⟨i,hi,rfl⟩:=mem_rng.mp hd
      exact ⟨_,ships1_ok R C l a i acc' (by omega),_,rfl⟩⟩
    subst h2
    refine ⟨s,?_⟩
    unfold B__law_ships_2
    have hi:op2 idxD (fun env=>getF env 0) (fC (.int 1)) (eS R C l acc (.F (.int a)) s4)=some (.int (C:Int)):=rfl
    rw [for_v (itR1_v hi (by omega))]
    exact h1
  have hbd:([]:List D).length+2*C*(rangeL 0 R).length≤8000:=by
    have h1:=Nat.mul_le_mul (Nat.mul_le_mul (Nat.le_refl 2) hC) hR
    rw [rng_len,List.length_nil,Nat.zero_add]
    exact Nat.le_trans h1 (by decide)
  obtain ⟨e2,h1,s3,s4,h2⟩:=loop_acc (t:=tgN 3) (body:=B__law_ships_2) (fun acc e=>∃ s3 s4,e=eS R C l acc s3 s4) (fun x=>(rangeL 0 C).flatMap fun y=>gS R C l x y) (2*C) 8000 (rangeL 0 R) [] (eS R C l [] .un .un) ⟨_,_,rfl⟩ hbd fun d hd=>⟨by have:=len_flat (g:=fun y=>gS R C l d y) (B:=2) (rangeL 0 C) (fun y _=>gS_len ..);rw [rng_len] at this;exact this,fun acc' e ⟨s3,s4,he⟩ hl'=>by
      subst he
      obtain ⟨i,hi,rfl⟩:=mem_rng.mp hd
      obtain ⟨s4',h⟩:=inner i acc' s4 hl'
      exact ⟨_,tg_v (e0:=eS R C l acc' (.F (.int i)) s4) rfl h,_,_,rfl⟩⟩
  subst h2
  exact run_v ((seq_v (setO_v rfl)).trans ((seq_v ((for_v (itR1_v (n:=R) rfl (by omega))).trans h1)).trans rfl))
def atS (R C l a b:Nat):List Sh:=(if (b:Int)+l≤C then [⟨a,b,false,l⟩] else [])++(if (a:Int)+l≤R∧1<l then [⟨a,b,true,l⟩] else [])
def allSh (R C l:Nat):List Sh:=(List.range R).flatMap fun a=>(List.range C).flatMap fun b=>atS R C l a b
theorem gS_at (R C l a b:Nat):gS R C l (.int a) (.int b)=(atS R C l a b).map Sh.d:=by
  show (if (b:Int)+l≤C then [ship a b sAl l] else [])++(if (a:Int)+l≤R∧(1:Int)<l then [ship a b sDn l] else [])=_
  unfold atS
  rw [List.map_append]
  congr 1
  · split<;>rfl
  · by_cases h:(a:Int)+l≤R∧1<l
    · rw [if_pos h,if_pos ⟨h.1,by omega⟩];rfl
    · rw [if_neg h,if_neg (fun z=>h ⟨z.1,by omega⟩)];rfl
theorem allS_sh (R C l:Nat):allS R C l R C=(allSh R C l).map Sh.d:=by
  unfold allS allSh
  rw [rng_flat,List.map_flatMap]
  congr 1
  funext a
  rw [rng_flat,List.map_flatMap]
  congr 1
  funext b
  exact gS_at R C l a b
theorem atS_mem {R C l a b:Nat} {s:Sh} (h:s∈atS R C l a b):s.a=a∧s.b=b∧s.n=l∧(s.dn=false→(b:Int)+l≤C)∧(s.dn=true→(a:Int)+l≤R∧1<l):=by
  unfold atS at h
  rcases List.mem_append.mp h with h | h
  · split at h
    · rename_i hc;cases List.mem_singleton.mp h;exact ⟨rfl,rfl,rfl,fun _=>hc,fun z=>by cases z⟩
    · cases h
  · split at h
    · rename_i hc;cases List.mem_singleton.mp h;exact ⟨rfl,rfl,rfl,fun z=>(by cases z),fun _=>hc⟩
    · cases h
theorem mem_allSh {R C l:Nat} {s:Sh}:s∈allSh R C l↔(∃ a b:Nat,s.a=a∧s.b=b∧a<R∧b<C)∧s.n=l∧(s.dn=false→s.b+l≤C)∧(s.dn=true→s.a+l≤R∧1<l):=by
  unfold allSh
  simp only [List.mem_flatMap,List.mem_range]
  constructor
  · rintro ⟨a,ha,b,hb,h⟩
    obtain ⟨h1,h2,h3,h4,h5⟩:=atS_mem h
    rw [h1,h2]
    exact ⟨⟨a,b,rfl,rfl,ha,hb⟩,h3,h4,h5⟩
  · rintro ⟨⟨a,b,h1,h2,ha,hb⟩,h3,h4,h5⟩
    refine ⟨a,ha,b,hb,?_⟩
    obtain ⟨sa,sb,dn,n⟩:=s
    simp only at h1 h2 h3 h4 h5
    subst h1 h2 h3
    unfold atS
    cases dn
    · rw [if_pos (h4 rfl)];simp
    · rw [if_pos (h5 rfl)];simp
theorem atS_len (R C l a b:Nat):(atS R C l a b).length≤2:=by
  unfold atS;rw [List.length_append];split<;>split<;>simp
theorem flat_le {α β:Type} {g:α→List β} {B:Nat}:∀ (ds:List α),(∀ d∈ds,(g d).length≤B)→(ds.flatMap g).length≤B*ds.length
  | [],_=>by simp
  | d::ds,h=>by
    rw [List.flatMap_cons,List.length_append,List.length_cons,Nat.mul_succ]
    have:=h d List.mem_cons_self
    have:=flat_le ds fun x hx=>h x (List.mem_cons_of_mem _ hx)
    omega
theorem allSh_len (R C l:Nat):(allSh R C l).length≤2*C*R:=by
  have h:=flat_le (g:=fun a=>(List.range C).flatMap fun b=>atS R C l a b) (B:=2*C) (List.range R) fun a _=>by
    have:=flat_le (g:=fun b=>atS R C l a b) (B:=2) (List.range C) (fun b _=>atS_len ..)
    rwa [List.length_range] at this
  rwa [List.length_range] at h
theorem lships_ok (R C:Nat) (hR:R≤60) (hC:C≤60) (l:Nat):m__law_ships [.tup [.int R,.int C],.int l]=some (.lst ((allSh R C l).map Sh.d)):=by
  rw [ships_ok R C hR hC l,allS_sh]
def Sh.ks (s:Sh):List L2.Key:=[.inl s.a,.inl s.b,.inr s.w,.inl s.n]
def Bef (s t:Sh):Prop:=s.a<t.a∨(s.a=t.a∧(s.b<t.b∨(s.b=t.b∧((s.dn=false∧t.dn=true)∨(s.dn=t.dn∧s.n<t.n)))))
theorem ltAD:ltK (.inr sAl) (.inr sDn)=some true:=by
  show some (decide (sAl.cps.toList<sDn.cps.toList))=_
  rw [show decide (sAl.cps.toList<sDn.cps.toList)=true by decide +kernel]
theorem ltDA:ltK (.inr sDn) (.inr sAl)=some false:=by
  show some (decide (sDn.cps.toList<sAl.cps.toList))=_
  rw [show decide (sDn.cps.toList<sAl.cps.toList)=false by decide +kernel]
theorem sAD:(Sum.inr sAl:L2.Key)≠.inr sDn:=fun h=>absurd (Sum.inr.inj h) (by decide)
theorem lex_c (x y:L2.Key) (xs ys:List L2.Key):lexK (x::xs) (y::ys)=if x=y then lexK xs ys else ltK x y:=rfl
theorem lex_tail (n n':Nat):lexK [.inl (n:Int)] [.inl (n':Int)]=some (decide (n<n')):=by
  rw [lex_c]
  by_cases h3:n=n'
  · subst h3;rw [if_pos rfl];simp [lexK]
  · rw [if_neg (fun z=>h3 (by have:=Sum.inl.inj z;omega))]
    show some (decide ((n:Int)<n'))=_
    simp
theorem lex_two (a b a' b':Int) (xs ys:List L2.Key) (q:Bool) (h:lexK xs ys=some q):∃ r,lexK (.inl a::.inl b::xs) (.inl a'::.inl b'::ys)=some r∧(r=true↔a<a'∨(a=a'∧(b<b'∨(b=b'∧q=true)))):=by
  rw [lex_c]
  by_cases h1:a=a'
  · subst h1
    rw [if_pos rfl,lex_c]
    by_cases h2:b=b'
    · subst h2
      rw [if_pos rfl]
      exact ⟨q,h,by simp⟩
    · rw [if_neg (fun z=>h2 (Sum.inl.inj z))]
      refine ⟨decide (b<b'),rfl,?_⟩
      rw [decide_eq_true_eq]
      constructor
      · intro h;exact .inr ⟨rfl,.inl h⟩
      · rintro (h | ⟨_,h | ⟨h,_⟩⟩)
        · omega
        · exact h
        · exact absurd h h2
  · rw [if_neg (fun z=>h1 (Sum.inl.inj z))]
    refine ⟨decide (a<a'),rfl,?_⟩
    rw [decide_eq_true_eq]
    constructor
    · intro h;exact .inl h
    · rintro (h | ⟨h,_⟩)
      · exact h
      · exact absurd h h1
theorem lex_w (x y:Bool) (n n':Nat):∃ q,lexK [.inr (if x=true then sDn else sAl),.inl (n:Int)] [.inr (if y=true then sDn else sAl),.inl (n':Int)]=some q∧(q=true↔(x=false∧y=true)∨(x=y∧n<n')):=by
  cases x<;>cases y
  · exact ⟨decide (n<n'),(by rw [lex_c,if_pos rfl,lex_tail]),by simp⟩
  · exact ⟨true,(by show lexK [.inr sAl,_] [.inr sDn,_]=_;rw [lex_c,if_neg sAD];exact ltAD),by simp⟩
  · exact ⟨false,(by show lexK [.inr sDn,_] [.inr sAl,_]=_;rw [lex_c,if_neg (Ne.symm sAD)];exact ltDA),by simp⟩
  · exact ⟨decide (n<n'),(by rw [lex_c,if_pos rfl,lex_tail]),by simp⟩
theorem lex_sh (s t:Sh):∃ q,lexK s.ks t.ks=some q∧(q=true↔Bef s t):=by
  obtain ⟨q,h1,h2⟩:=lex_w s.dn t.dn s.n t.n
  obtain ⟨r,h3,h4⟩:=lex_two s.a s.b t.a t.b _ _ q h1
  exact ⟨r,h3,by rw [h4,h2];rfl⟩
theorem lex_no {s t:Sh} (h:¬ Bef s t):lexK s.ks t.ks=some false:=by
  obtain ⟨q,h1,h2⟩:=lex_sh s t
  cases q
  · exact h1
  · exact absurd (h2.mp rfl) h
theorem lex_yes {s t:Sh} (h:Bef s t):lexK s.ks t.ks=some true:=by
  obtain ⟨q,h1,h2⟩:=lex_sh s t
  rw [h1,h2.mpr h]
theorem bef_asymm {s t:Sh} (h:Bef s t):¬ Bef t s:=by
  obtain ⟨a,b,dn,n⟩:=s
  obtain ⟨a',b',dn',n'⟩:=t
  unfold Bef at *
  simp only at *
  intro h'
  cases dn<;>cases dn'<;>simp at h h'<;>omega
theorem bef_total {s t:Sh} (h:¬ Bef s t) (h2:¬ Bef t s):s=t:=by
  obtain ⟨a,b,dn,n⟩:=s
  obtain ⟨a',b',dn',n'⟩:=t
  unfold Bef at *
  simp only at *
  have e1:a=a':=by omega
  subst e1
  have e2:b=b':=by omega
  subst e2
  cases dn<;>cases dn'<;>simp at h h2
  · rw [show n=n' by omega]
  · rw [show n=n' by omega]
theorem all_up (R C l:Nat):(allSh R C l).Pairwise Bef:=by
  unfold allSh
  refine List.pairwise_flatMap.mpr ⟨fun a ha=>List.pairwise_flatMap.mpr ⟨fun b hb=>?_,?_⟩,?_⟩
  · unfold atS
    split<;>split<;>simp [Bef]
  · refine List.Pairwise.imp_of_mem (R:=fun (x y:Nat)=>x<y) (fun {x y} _ _ hxy s hs t ht=>?_) List.pairwise_lt_range
    obtain ⟨h1,h2,_⟩:=atS_mem hs
    obtain ⟨g1,g2,_⟩:=atS_mem ht
    exact .inr ⟨by rw [h1,g1],.inl (by rw [h2,g2];omega)⟩
  · refine List.Pairwise.imp_of_mem (R:=fun (x y:Nat)=>x<y) (fun {x y} _ _ hxy s hs t ht=>?_) List.pairwise_lt_range
    obtain ⟨b,_,hs⟩:=List.mem_flatMap.mp hs
    obtain ⟨b',_,ht⟩:=List.mem_flatMap.mp ht
    obtain ⟨h1,_⟩:=atS_mem hs
    obtain ⟨g1,_⟩:=atS_mem ht
    exact .inl (by rw [h1,g1];omega)
def Sh.rz (s:Sh):Int:=if s.dn=true then s.a+s.n-1 else s.a
def Sh.cz (s:Sh):Int:=if s.dn=true then s.b else s.b+s.n-1
theorem mem_cs {s:Sh} (hn:1≤s.n) (p:Int×Int):p∈s.cs↔s.a≤p.1∧p.1≤s.rz∧s.b≤p.2∧p.2≤s.cz:=by
  obtain ⟨a,b,dn,n⟩:=s
  obtain ⟨x,y⟩:=p
  unfold Sh.cs Sh.rz Sh.cz Sh.at
  simp only [List.mem_map,List.mem_range]
  simp only at hn
  cases dn
  · simp only [Bool.false_eq_true,if_false,Prod.mk.injEq]
    constructor
    · rintro ⟨i,hi,rfl,rfl⟩;omega
    · rintro ⟨h1,h2,h3,h4⟩
      exact ⟨(y-b).toNat,by omega,by omega,by omega⟩
  · simp only [if_true,Prod.mk.injEq]
    constructor
    · rintro ⟨i,hi,rfl,rfl⟩;omega
    · rintro ⟨h1,h2,h3,h4⟩
      exact ⟨(x-a).toNat,by omega,by omega,by omega⟩
def mx3 (i j k:Int):Int:=if j>i then (if k>j then k else j) else (if k>i then k else i)
def gapR (s t:Sh):Int:=mx3 (t.a-s.rz) (s.a-t.rz) 0
def gapC (s t:Sh):Int:=mx3 (t.b-s.cz) (s.b-t.cz) 0
theorem rows_ok (s t:Sh):m_rows_between [s.d,t.d]=some (.int (gapR s t)):=by
  obtain ⟨a,b,dn,n⟩:=s
  obtain ⟨a',b',dn',n'⟩:=t
  cases dn<;>cases dn'<;>rfl
theorem cols_ok (s t:Sh):m_columns_between [s.d,t.d]=some (.int (gapC s t)):=by
  obtain ⟨a,b,dn,n⟩:=s
  obtain ⟨a',b',dn',n'⟩:=t
  cases dn<;>cases dn'<;>rfl
def keepB (r:Str) (s t:Sh):Bool:=if r=sFr then decide (0<gapR s t+gapC s t) else if r=sSi then decide (1<gapR s t+gapC s t) else decide (1<(if gapC s t>gapR s t then gapC s t else gapR s t))
theorem keep_ok (r:Str) (hr:IsRule r) (s t:Sh):m_keep [.str r,s.d,t.d]=some (.bl (keepB r s t)):=by
  have e1:setF 3 (fun env=>((fCons (fun env=>getF env 1) (fCons (fun env=>getF env 2) fNil)) env).bind m_rows_between) (startE 5 [.str r,s.d,t.d])=some (.nx [.F (.str r),.F s.d,.F t.d,.F (.int (gapR s t)),.un]):=set_v ((call_v (cons_v rfl (cons_v rfl nil_v))).trans (rows_ok s t))
  have e2:setF 4 (fun env=>((fCons (fun env=>getF env 1) (fCons (fun env=>getF env 2) fNil)) env).bind m_columns_between) [.F (.str r),.F s.d,.F t.d,.F (.int (gapR s t)),.un]=some (.nx [.F (.str r),.F s.d,.F t.d,.F (.int (gapR s t)),.F (.int (gapC s t))]):=set_v ((call_v (cons_v rfl (cons_v rfl nil_v))).trans (cols_ok s t))
  refine run_v ((seq_v e1).trans ((seq_v e2).trans ?_))
  unfold keepB
  rcases hr with rfl | rfl | rfl
  · rw [if_pos rfl]
    exact seqR_v ((ifT_v rfl).trans (ret_v ((op2_v (add_v _ _) rfl).trans (gt_v _ _))))
  · rw [if_neg (by decide),if_pos rfl]
    exact (seq_v ((ifE_v rfl).trans rfl)).trans (seqR_v ((ifT_v rfl).trans (ret_v ((op2_v (add_v _ _) rfl).trans (gt_v _ _)))))
  · rw [if_neg (by decide),if_neg (by decide)]
    exact (seq_v ((ifE_v rfl).trans rfl)).trans ((seq_v ((ifE_v rfl).trans rfl)).trans (ret_v ((op2_v (x:=.int (if gapC s t>gapR s t then gapC s t else gapR s t)) rfl rfl).trans (gt_v _ _))))
theorem Sh.rz_ge {s:Sh} (h:1≤s.n):s.a≤s.rz:=by unfold Sh.rz;split<;>omega
theorem Sh.cz_ge {s:Sh} (h:1≤s.n):s.b≤s.cz:=by unfold Sh.cz;split<;>omega
theorem touch_iff {s t:Sh} (hs:1≤s.n) (ht:1≤t.n) (d:Int×Int):(∃ q∈t.cs,∃ p∈s.cs,q=plus p d)↔t.a≤s.rz+d.1∧s.a+d.1≤t.rz∧t.b≤s.cz+d.2∧s.b+d.2≤t.cz:=by
  have a1:=Sh.rz_ge hs
  have a2:=Sh.rz_ge ht
  have a3:=Sh.cz_ge hs
  have a4:=Sh.cz_ge ht
  constructor
  · rintro ⟨q,hq,p,hp,rfl⟩
    rw [mem_cs ht] at hq
    rw [mem_cs hs] at hp
    unfold plus at hq
    simp only at hq
    omega
  · rintro ⟨h1,h2,h3,h4⟩
    let x:Int:=if s.a+d.1≤t.a then t.a else s.a+d.1
    let y:Int:=if s.b+d.2≤t.b then t.b else s.b+d.2
    have hx:x=if s.a+d.1≤t.a then t.a else s.a+d.1:=rfl
    have hy:y=if s.b+d.2≤t.b then t.b else s.b+d.2:=rfl
    refine ⟨(x,y),?_,(x-d.1,y-d.2),?_,?_⟩
    · rw [mem_cs ht]
      simp only
      split at hx<;>split at hy<;>omega
    · rw [mem_cs hs]
      simp only
      split at hx<;>split at hy<;>omega
    · unfold plus
      simp only
      rw [Int.sub_add_cancel,Int.sub_add_cancel]
theorem keep_iff {r:Str} (hr:IsRule r) {s t:Sh} (hs:1≤s.n) (ht:1≤t.n):keepB r s t=true↔¬ ∃ q∈t.cs,∃ p∈s.cs,∃ d∈steps r,q=plus p d:=by
  have a1:=Sh.rz_ge hs
  have a2:=Sh.rz_ge ht
  have a3:=Sh.cz_ge hs
  have a4:=Sh.cz_ge ht
  have sw:(∃ q∈t.cs,∃ p∈s.cs,∃ d∈steps r,q=plus p d)↔∃ d∈steps r,t.a≤s.rz+d.1∧s.a+d.1≤t.rz∧t.b≤s.cz+d.2∧s.b+d.2≤t.cz:=by
    constructor
    · rintro ⟨q,hq,p,hp,d,hd,e⟩
      exact ⟨d,hd,(touch_iff hs ht d).mp ⟨q,hq,p,hp,e⟩⟩
    · rintro ⟨d,hd,h⟩
      obtain ⟨q,hq,p,hp,e⟩:=(touch_iff hs ht d).mpr h
      exact ⟨q,hq,p,hp,d,hd,e⟩
  rw [sw]
  have g1:gapR s t=mx3 (t.a-s.rz) (s.a-t.rz) 0:=rfl
  have g2:gapC s t=mx3 (t.b-s.cz) (s.b-t.cz) 0:=rfl
  unfold mx3 at g1 g2
  have n1:0≤gapR s t∧t.a-s.rz≤gapR s t∧s.a-t.rz≤gapR s t∧(gapR s t=0∨gapR s t=t.a-s.rz∨gapR s t=s.a-t.rz):=by
    rw [g1];split<;>split<;>omega
  have n2:0≤gapC s t∧t.b-s.cz≤gapC s t∧s.b-t.cz≤gapC s t∧(gapC s t=0∨gapC s t=t.b-s.cz∨gapC s t=s.b-t.cz):=by
    rw [g2];split<;>split<;>omega
  clear g1 g2 sw
  unfold keepB
  rcases hr with rfl | rfl | rfl
  · rw [if_pos rfl,steps_fr,decide_eq_true_eq]
    simp only [List.mem_singleton,exists_eq_left]
    omega
  · rw [if_neg (by decide),if_pos rfl,steps_si,decide_eq_true_eq]
    simp only [List.mem_cons,List.not_mem_nil,or_false,exists_eq_or_imp,exists_eq_left]
    omega
  · rw [if_neg (by decide),if_neg (by decide),steps_co,decide_eq_true_eq]
    simp only [List.mem_cons,List.not_mem_nil,or_false,exists_eq_or_imp,exists_eq_left]
    split<;>omega
theorem flat_congr {α β:Type} {f g:α→List β}:∀ {l:List α},(∀ a∈l,f a=g a)→l.flatMap f=l.flatMap g
  | [],_=>rfl
  | a::l,h=>by rw [List.flatMap_cons,List.flatMap_cons,h a List.mem_cons_self,flat_congr fun x hx=>h x (List.mem_cons_of_mem _ hx)]
def cellsL (R C:Nat):List (Int×Int):=(List.range R).flatMap fun (a:Nat)=>(List.range C).map fun (b:Nat)=>((a:Int),(b:Int))
theorem cellsL_len (R C:Nat):(cellsL R C).length≤C*R:=by
  have h:=flat_le (g:=fun (a:Nat)=>(List.range C).map fun (b:Nat)=>((a:Int),(b:Int))) (B:=C) (List.range R) fun a _=>by simp
  rwa [List.length_range] at h
def celD:D→D→D
  | .int a,.int b=>cel (a,b)
  | _,_=>.non
theorem cells_flat (R C:Nat):(rangeL 0 R).flatMap (fun x=>(rangeL 0 C).map (celD x))=(cellsL R C).map cel:=by
  unfold cellsL
  rw [rng_flat,List.map_flatMap]
  congr 1
  funext a
  rw [rng_map,List.map_map]
  rfl
theorem allcells_ok (R C:Nat) (hR:R≤60) (hC:C≤60):m_all_cells [.tup [.int R,.int C]]=some (.lst ((cellsL R C).map cel)):=by
  have hl:((cellsL R C).map cel).length≤16000000:=by
    have h1:=cellsL_len R C
    have h2:=Nat.mul_le_mul hC hR
    rw [List.length_map];omega
  refine run_v ((seq_v (unF_v (ds:=[.int R,.int C]) rfl rfl)).trans (ret_v (comp_v (ds:=rangeL 0 R) (itR1_v (n:=R) rfl (by omega)) rfl ?_ hl)))
  rw [← cells_flat]
  refine go_flat (fun x=>(rangeL 0 C).map (celD x)) _ fun d hd=>?_
  obtain ⟨i,hi,rfl⟩:=mem_rng.mp hd
  refine ⟨[.F (.int i),.un,.F (.int C)],rfl,rfl,more_v (ds:=rangeL 0 C) (itR1_v (n:=C) rfl (by omega)) rfl (go_map1 _ _ fun d hd=>?_)⟩
  obtain ⟨j,hj,rfl⟩:=mem_rng.mp hd
  exact ⟨_,rfl,rfl⟩
def both (l:Nat) (p:Int×Int):List Sh:=[⟨p.1,p.2,false,l⟩,⟨p.1,p.2,true,l⟩]
def bothD (l:Nat):D→List D
  | .tup [.int a,.int b]=>(both l (a,b)).map Sh.d
  | _=>[]
theorem both_flat (l:Nat):∀ (ps:List (Int×Int)),(ps.map cel).flatMap (bothD l)=(ps.flatMap (both l)).map Sh.d
  | []=>rfl
  | p::ps=>by rw [List.map_cons,List.flatMap_cons,both_flat l ps,List.flatMap_cons,List.map_append];rfl
theorem ship_dep (s:Sh):dep s.d≤1:=by
  unfold Sh.d dep deps deps deps deps
  rw [dep_int,dep_int,dep_str,dep_int];simp [deps]
theorem ship_pl (s:Sh):pl s.d=true:=by
  unfold Sh.d;simp [pl,pls]
theorem shipB_sh (R C:Nat) (hR:R≤8) (hC:C≤8) (a b:Nat) (ha:a<R) (hb:b<C) (l:Nat) (hl:1≤l) (dn:Bool):shipB R C (Sh.d ⟨a,b,dn,l⟩)=(if dn=true then decide ((a:Int)+l≤R∧1<l) else decide ((b:Int)+l≤C)):=by
  have i1:inR R (.int a)=true:=by show (decide ((0:Int)≤a)&&decide ((a:Int)<R))=true;rw [decide_eq_true (show (0:Int)≤a by omega),decide_eq_true (show (a:Int)<R by omega)];rfl
  have i2:inR C (.int b)=true:=by show (decide ((0:Int)≤b)&&decide ((b:Int)<C))=true;rw [decide_eq_true (show (0:Int)≤b by omega),decide_eq_true (show (b:Int)<C by omega)];rfl
  cases dn
  · show ((sAl==sAl||sDn==sAl)&&szB (.int l)&&(inR R (.int a)&&inR C (.int b))&&(if (sAl==sDn)=true then decide (1<(l:Int))&&decide ((a:Int)+l≤R) else decide ((b:Int)+l≤C)))=_
    rw [show (sAl==sAl||sDn==sAl)=true by decide,i1,i2,show (sAl==sDn)=false by decide]
    simp only [Bool.true_and,Bool.and_true,Bool.false_eq_true,if_false]
    by_cases h:(b:Int)+l≤C
    · rw [decide_eq_true h,Bool.and_true]
      show (decide (1≤(l:Int))&&decide ((l:Int)≤8))=true
      rw [decide_eq_true (by omega),decide_eq_true (by omega)];rfl
    · rw [decide_eq_false h,Bool.and_false]
  · show ((sAl==sDn||sDn==sDn)&&szB (.int l)&&(inR R (.int a)&&inR C (.int b))&&(if (sDn==sDn)=true then decide (1<(l:Int))&&decide ((a:Int)+l≤R) else decide ((b:Int)+l≤C)))=_
    rw [show (sAl==sDn||sDn==sDn)=true by decide,i1,i2,show (sDn==sDn)=true by decide]
    simp only [Bool.true_and,Bool.and_true,if_true]
    by_cases h:(a:Int)+l≤R∧1<l
    · rw [decide_eq_true h,decide_eq_true (show (1:Int)<l by omega),decide_eq_true h.1]
      show (decide (1≤(l:Int))&&decide ((l:Int)≤8)&&(true&&true))=true
      rw [decide_eq_true (by omega),decide_eq_true (by omega)];rfl
    · rw [decide_eq_false h]
      by_cases h2:(1:Int)<l
      · rw [decide_eq_false (show ¬ (a:Int)+l≤R from fun z=>h ⟨z,by omega⟩),Bool.and_false,Bool.and_false]
      · rw [decide_eq_false h2,Bool.false_and,Bool.and_false]
theorem both_filter (R C:Nat) (hR:R≤8) (hC:C≤8) (l:Nat) (hl:1≤l):(((cellsL R C).flatMap (both l)).map Sh.d).filter (shipB R C)=(allSh R C l).map Sh.d:=by
  rw [List.filter_map]
  congr 1
  unfold cellsL allSh
  rw [List.flatMap_assoc,List.filter_flatMap]
  refine flat_congr fun a ha=>?_
  rw [List.flatMap_map,List.filter_flatMap]
  refine flat_congr fun b hb=>?_
  have ha':=List.mem_range.mp ha
  have hb':=List.mem_range.mp hb
  unfold both atS
  have e1:=shipB_sh R C hR hC a b ha' hb' l hl false
  have e2:=shipB_sh R C hR hC a b ha' hb' l hl true
  rw [if_neg (by simp)] at e1
  rw [if_pos rfl] at e2
  rw [List.filter_cons,List.filter_cons,List.filter_nil]
  simp only [Function.comp]
  rw [e1,e2]
  by_cases h1:(b:Int)+l≤C<;>by_cases h2:(a:Int)+l≤R∧1<l<;>simp [h1,h2]
theorem shipsof_ok (R C:Nat) (hR:R≤8) (hC:C≤8) (l:Nat) (hl:1≤l):m_ships_of [.tup [.int R,.int C],.int l]=some (.lst ((allSh R C l).map Sh.d)):=by
  have hlen:((allSh R C l).map Sh.d).length≤16000000:=by
    have h1:=allSh_len R C l
    have h2:=Nat.mul_le_mul (Nat.mul_le_mul (Nat.le_refl 2) hC) hR
    rw [List.length_map];omega
  have hlen2:(((cellsL R C).flatMap (both l)).map Sh.d).length≤16000000:=by
    have h1:=flat_le (g:=both l) (B:=2) (cellsL R C) fun p _=>by unfold both;simp
    have h2:=cellsL_len R C
    have h3:=Nat.mul_le_mul hC hR
    rw [List.length_map];omega
  have e1:setF 2 (compF (itL (fun env=>((fCons (fun env=>getF env 0) fNil) env).bind m_all_cells)) [0,1] (tgT [0,1]) (fun _=>some true) (moreF (itT (fC c_WAYS)) [2] (tgN 2) (fun _=>some true) (emitF (fTup (fCons (fun env=>getF env 0) (fCons (fun env=>getF env 1) (fCons (fun env=>getF env 2) (fCons (fun env=>getF env 3) fNil))))))) 3 [1]) (startE 3 [.tup [.int R,.int C],.int l]) =
      some (.nx [.F (.tup [.int R,.int C]),.F (.int l),.F (.lst (((cellsL R C).flatMap (both l)).map Sh.d))]):=by
    refine set_v (comp_v (itL_v ((call_v (cons_v rfl nil_v)).trans (allcells_ok R C (by omega) (by omega)))) rfl ?_ hlen2)
    rw [← both_flat]
    refine go_flat (bothD l) _ fun d hd=>?_
    obtain ⟨p,hp,rfl⟩:=List.mem_map.mp hd
    exact ⟨[.F (.int p.1),.F (.int p.2),.un,.F (.int l)],rfl,rfl,rfl⟩
  refine run_v ((seq_v e1).trans (ret_v (comp_v (itL_v rfl) rfl ?_ hlen)))
  have:=go_map (t:=tgN 0) (c:=fB (fun env=>((fCons (fun env=>getF env 1) (fCons (fun env=>getF env 0) fNil)) env).bind m_is_ship)) (k:=emitF (fun env=>getF env 0)) (env:=[.un,.F (.tup [.int R,.int C])]) (shipB R C) id (((cellsL R C).flatMap (both l)).map Sh.d) fun d hd=>by
    obtain ⟨s,_,rfl⟩:=List.mem_map.mp hd
    exact ⟨[.F s.d,.F (.tup [.int R,.int C])],rfl,fB_v ((call_v (cons_v rfl (cons_v rfl nil_v))).trans (ship_ok R C s.d (Nat.le_trans (ship_dep s) (by omega)) (ship_pl s))),fun _=>rfl⟩
  rw [List.map_id,both_filter R C hR hC l hl] at this
  exact this
end K04
namespace K04
open PySem Mi
theorem loop_bool {t:Ft} {body:Fs} (I:En→Prop) (p:D→Bool) (x:D):∀ (ds:List D) (env:En),I env→(∀ d∈ds,∀ e,I e→(p d=true→∃ e1,(t d e).bind body=some (.nx e1)∧I e1)∧(p d=false→(t d e).bind body=some (.rt x)))→
    (ds.all p=true→∃ e2,loopF t body ds env=some (.nx e2)∧I e2)∧(ds.all p=false→loopF t body ds env=some (.rt x))
  | [],env,h,_=>⟨fun _=>⟨env,rfl,h⟩,fun h=>by cases h⟩
  | d::ds,env,h,hb=>by
    obtain ⟨h1,h2⟩:=hb d List.mem_cons_self env h
    cases hp:p d with
    | true=>
      obtain ⟨e1,h3,h4⟩:=h1 hp
      obtain ⟨e0,h5,h6⟩:=Option.bind_eq_some_iff.mp h3
      have hh:loopF t body (d::ds) env=loopF t body ds e1:=by
        show (t d env).bind (fun e1=>(body e1).bind _)=_
        rw [h5]
        show (body e0).bind _=_
        rw [h6]
        rfl
      rw [hh,List.all_cons,hp,Bool.true_and]
      exact loop_bool I p x ds e1 h4 fun d' hd=>hb d' (List.mem_cons_of_mem _ hd)
    | false=>
      obtain ⟨e0,h5,h6⟩:=Option.bind_eq_some_iff.mp (h2 hp)
      rw [List.all_cons,hp,Bool.false_and]
      refine ⟨fun h=>(by cases h),fun _=>?_⟩
      show (t d env).bind (fun e1=>(body e1).bind _)=_
      rw [h5]
      show (body e0).bind _=_
      rw [h6]
      rfl
def hal (ru:Str) (s:Sh):List (Int×Int):=match m__law_halo [.str ru,s.d] with | some (.dct ks)=>ks | _=>[]
theorem hal_ok (s:Sh) (hn:s.n≤1000) (ru:Str) (hr:IsRule ru):m__law_halo [.str ru,s.d]=some (.dct (hal ru s))∧∀ q,q∈hal ru s↔∃ p∈s.cs,∃ t∈steps ru,q=plus p t:=by
  obtain ⟨ks,h1,h2⟩:=halo_ok s hn ru hr
  have:hal ru s=ks:=by unfold hal;rw [h1]
  rw [this]
  exact ⟨h1,h2⟩
theorem free1_ok (s0:Slot) (cs:List (Int×Int)) (ks:List (Int×Int)) (s3:Slot):(cs.all (fun p=>!decide (p∈ks))=true→∃ s3',B__law_free_2 [s0,.F (.lst (cs.map cel)),.F (.dct ks),s3]=some (.nx [s0,.F (.lst (cs.map cel)),.F (.dct ks),s3']))∧(cs.all (fun p=>!decide (p∈ks))=false→B__law_free_2 [s0,.F (.lst (cs.map cel)),.F (.dct ks),s3]=some (.rt (.bl false))):=by
  have hh:=loop_bool (t:=tgN 3) (body:=B__law_free_1) (fun e=>∃ s3,e=[s0,.F (.lst (cs.map cel)),.F (.dct ks),s3]) (fun d=>match d with | .tup [.int a,.int b]=>!decide ((a,b)∈ks) | _=>true) (.bl false) (cs.map cel) _ ⟨s3,rfl⟩ fun d hd e ⟨s3,he⟩=>by
    subst he
    obtain ⟨q,hq,rfl⟩:=List.mem_map.mp hd
    have ht:fB (op2 (inQ false) (fun env=>getF env 3) (fun env=>getF env 2)) [s0,.F (.lst (cs.map cel)),.F (.dct ks),.F (cel q)]=some (decide (q∈ks)):=rfl
    constructor
    · intro h
      have h:decide (q∈ks)=false:=by simpa [cel] using h
      exact ⟨_,tg_v (e0:=[s0,.F (.lst (cs.map cel)),.F (.dct ks),.F (cel q)]) rfl ((ifE_v (ht.trans (by rw [h]))).trans rfl),_,rfl⟩
    · intro h
      have h:decide (q∈ks)=true:=by simpa [cel] using h
      exact tg_v (e0:=[s0,.F (.lst (cs.map cel)),.F (.dct ks),.F (cel q)]) rfl ((ifT_v (ht.trans (by rw [h]))).trans rfl)
  rw [List.all_map] at hh
  refine ⟨fun h=>?_,fun h=>(for_v (itL_v rfl)).trans (hh.2 h)⟩
  obtain ⟨e2,g1,s3',rfl⟩:=hh.1 h
  exact ⟨s3',(for_v (itL_v rfl)).trans g1⟩
theorem free_ok (hs:List (List (Int×Int))) (cs:List (Int×Int)):m__law_free [.lst (hs.map .dct),.lst (cs.map cel)]=some (.bl (hs.all fun ks=>cs.all fun p=>!decide (p∈ks))):=by
  have hh:=loop_bool (t:=tgN 2) (body:=B__law_free_2) (fun e=>∃ s2 s3,e=[.F (.lst (hs.map .dct)),.F (.lst (cs.map cel)),s2,s3]) (fun d=>match d with | .dct ks=>cs.all fun p=>!decide (p∈ks) | _=>true) (.bl false) (hs.map .dct) [.F (.lst (hs.map .dct)),.F (.lst (cs.map cel)),.un,.un] ⟨.un,.un,rfl⟩ fun d hd e ⟨s2,s3,he⟩=>by
    subst he
    obtain ⟨ks,hks,rfl⟩:=List.mem_map.mp hd
    obtain ⟨g1,g2⟩:=free1_ok (.F (.lst (hs.map .dct))) cs ks s3
    refine ⟨fun h=>?_,fun h=>tg_v (e0:=[.F (.lst (hs.map .dct)),.F (.lst (cs.map cel)),.F (.dct ks),s3]) rfl (g2 h)⟩
    obtain ⟨s3',g⟩:=g1 h
    exact ⟨_,tg_v (e0:=[.F (.lst (hs.map .dct)),.F (.lst (cs.map cel)),.F (.dct ks),s3]) rfl g,_,_,rfl⟩
  rw [List.all_map] at hh
  cases hb:(hs.all fun ks=>cs.all fun p=>!decide (p∈ks)) with
  | true=>
    obtain ⟨e2,g1,s2,s3,rfl⟩:=hh.1 hb
    exact run_v ((seq_v ((for_v (itL_v rfl)).trans g1)).trans rfl)
  | false=>exact run_v (seqR_v ((for_v (itL_v rfl)).trans (hh.2 hb)))
theorem free_keep {ru:Str} (hr:IsRule ru) (h:List Sh) (hh:∀ t∈h,1≤t.n∧t.n≤1000) (s:Sh) (hs:1≤s.n):m__law_free [.lst (h.map fun t=>.dct (hal ru t)),.lst (s.cs.map cel)]=some (.bl (h.all fun t=>keepB ru t s)):=by
  have e:=free_ok (h.map (hal ru)) s.cs
  rw [List.map_map] at e
  refine Eq.trans e ?_
  congr 2
  rw [List.all_map,Bool.eq_iff_iff,List.all_eq_true,List.all_eq_true]
  refine forall_congr' fun t=>forall_congr' fun ht=>?_
  obtain ⟨h1,h2⟩:=hh t ht
  rw [keep_iff hr h1 hs]
  simp only [Function.comp_apply,List.all_eq_true,Bool.not_eq_true',decide_eq_false_iff_not]
  constructor
  · rintro hq ⟨q,hq1,p,hp,d,hd,e⟩
    exact hq q hq1 (((hal_ok t h2 ru hr).2 q).mpr ⟨p,hp,d,hd,e⟩)
  · intro hq q hq1 hq2
    obtain ⟨p,hp,d,hd,e⟩:=((hal_ok t h2 ru hr).2 q).mp hq2
    exact hq ⟨q,hq1,p,hp,d,hd,e⟩
instance (s t:Sh):Decidable (Bef s t):=by unfold Bef;infer_instance
def flD (fl:List Nat):D:=.tup (fl.map fun (n:Nat)=>.int n)
def hidD (h:List Sh):D:=.tup (h.map Sh.d)
def rowD (ru:Str) (h:List Sh):D:=.tup [hidD h,.lst (h.map fun s=>.dct (hal ru s))]
def latN (fl:List Nat) (j:Nat) (h:List Sh) (s:Sh):Bool:=decide (j=0)||(!decide (fl.getD (j-1) 0=fl.getD j 0)||(match h.getLast? with | some u=>decide (Bef u s) | none=>true))
def okN (ru:Str) (fl:List Nat) (j:Nat) (h:List Sh) (s:Sh):Bool:=latN fl j h s&&h.all fun t=>keepB ru t s
def stepH (R C:Nat) (ru:Str) (fl:List Nat) (j:Nat) (rows:List (List Sh)):List (List Sh):=rows.flatMap fun h=>((allSh R C (fl.getD j 0)).filter (okN ru fl j h)).map fun s=>h++[s]
def allH (R C:Nat) (ru:Str) (fl:List Nat):Nat→List (List Sh)
  | 0=>[[]]
  | j+1=>stepH R C ru fl j (allH R C ru fl j)
abbrev eA (R C:Nat) (fl:List Nat) (ru:Str) (rows:D) (pl ln:Nat) (ss:List Sh) (acc:List D) (s10 s11 s12 s13:Slot):En:=
  [.F (.tup [.int R,.int C]),.F (flD fl),.F (.str ru),.F rows,.F (.int pl),.F (.int ln),.F (.lst (ss.map Sh.d)),.F (.lst (ss.map fun s=>.dct (hal ru s))),.F (.lst (ss.map fun s=>.lst (s.cs.map cel))),.O (.L acc),s10,s11,s12,s13]
theorem addT_v {f g:Fe} {env:En} {xs ys:List D} (h:f env=some (.tup xs)) (h2:g env=some (.tup ys)) (hl:xs.length+ys.length≤16000000):op2 addT f g env=some (.tup (xs++ys)):=by
  rw [op2_v h h2];show (if xs.length+ys.length≤16000000 then _ else _)=_;rw [if_pos hl]
theorem lt_sh (s t:Sh):ltT s.d t.d=some (.bl (decide (Bef s t))):=by
  obtain ⟨q,h1,h2⟩:=lex_sh s t
  show (lexK s.ks t.ks).bind _=_
  rw [h1,show decide (Bef s t)=q by cases q<;>simp_all];rfl
theorem all1 (R C:Nat) (fl:List Nat) (ru:Str) (hr:IsRule ru) (rows:D) (pl:Nat) (hpl:pl<fl.length) (ss:List Sh) (acc:List D) (ha:acc.length<1000000) (h:List Sh) (hl:h.length=pl) (hh:∀ t∈h,1≤t.n∧t.n≤1000) (hp3:pl≤3) (s13:Slot) (k:Nat) (s:Sh) (hk:ss[k]?=some s) (hn:1≤s.n) :
    ∃ s13':Slot,B__law_all_1 m__law_free (eA R C fl ru rows pl (fl.getD pl 0) ss acc (.F (hidD h)) (.F (.lst (h.map fun s=>.dct (hal ru s)))) (.F (.int k)) s13)=some (.nx (eA R C fl ru rows pl (fl.getD pl 0) ss (acc++if okN ru fl pl h s=true then [rowD ru (h++[s])] else []) (.F (hidD h)) (.F (.lst (h.map fun s=>.dct (hal ru s)))) (.F (.int k)) s13')):=by
  have hb:=free_keep hr h hh s hn
  have hq:(orF (op2 eqF (fun env=>getF env 4) (fC (.int 0))) (orF (op2 neF (op2 idxD (fun env=>getF env 1) (op2 subI (fun env=>getF env 4) (fC (.int 1)))) (fun env=>getF env 5)) (op2 ltT (op2 idxD (fun env=>getF env 10) (un1 negI (fC (.int 1)))) (op2 idxD (fun env=>getF env 6) (fun env=>getF env 12))))) (eA R C fl ru rows pl (fl.getD pl 0) ss acc (.F (hidD h)) (.F (.lst (h.map fun s=>.dct (hal ru s)))) (.F (.int k)) s13)=some (.bl (latN fl pl h s)):=by
    cases pl with
    | zero=>exact or_v (p:=true) (q:=true) rfl (fun h=>by cases h)
    | succ m=>
      have hx:fl[m]?=some (fl.getD m 0):=by rw [List.getD_eq_getElem?_getD,List.getElem?_eq_getElem (by omega)];rfl
      have i1:op2 idxD (fun env=>getF env 1) (op2 subI (fun env=>getF env 4) (fC (.int 1))) (eA R C fl ru rows (m+1) (fl.getD (m+1) 0) ss acc (.F (hidD h)) (.F (.lst (h.map fun s=>.dct (hal ru s)))) (.F (.int k)) s13)=some (.int ((fl.getD m 0:Nat):Int)):=by
        refine idxT_v (i:=(m:Int)) rfl ?_ (atI_nat (by rw [List.getElem?_map,hx];rfl))
        show some (D.int (((m+1:Nat):Int)-1))=_
        rw [show ((m+1:Nat):Int)-1=(m:Int) by omega]
      obtain ⟨h0,u,hu⟩:∃ h0 u,h=h0++[u]:=by
        have hne:h≠[]:=fun e=>by rw [e] at hl;cases hl
        exact ⟨h.dropLast,h.getLast hne,(List.dropLast_concat_getLast hne).symm⟩
      have i2:op2 idxD (fun env=>getF env 10) (un1 negI (fC (.int 1))) (eA R C fl ru rows (m+1) (fl.getD (m+1) 0) ss acc (.F (hidD h)) (.F (.lst (h.map fun s=>.dct (hal ru s)))) (.F (.int k)) s13)=some u.d:=by
        refine idxT_v (ds:=h.map Sh.d) (i:=-1) rfl rfl ?_
        rw [hu,List.map_append]
        exact L2.atI_last _ _
      have i3:op2 idxD (fun env=>getF env 6) (fun env=>getF env 12) (eA R C fl ru rows (m+1) (fl.getD (m+1) 0) ss acc (.F (hidD h)) (.F (.lst (h.map fun s=>.dct (hal ru s)))) (.F (.int k)) s13)=some s.d:=idx_v (i:=(k:Int)) rfl rfl (atI_nat (by rw [List.getElem?_map,hk];rfl))
      have:=or_v (p:=((m+1:Nat):Int)==0) (f:=op2 eqF (fun env=>getF env 4) (fC (.int 0))) (env:=eA R C fl ru rows (m+1) (fl.getD (m+1) 0) ss acc (.F (hidD h)) (.F (.lst (h.map fun s=>.dct (hal ru s)))) (.F (.int k)) s13) rfl fun _=>or_v (p:=!(((fl.getD m 0:Nat):Int)==((fl.getD (m+1) 0:Nat):Int))) ((op2_v (g:=fun env=>getF env 5) i1 rfl).trans (ne_v _ _)) fun _=>(op2_v i2 i3).trans (lt_sh u s)
      rw [this]
      congr 2
      unfold latN
      rw [hu,List.getLast?_append]
      have e1:(((m+1:Nat):Int)==0)=decide (m+1=0):=by rw [Bool.eq_iff_iff];simp;omega
      have e2:(((fl.getD m 0:Nat):Int)==((fl.getD (m+1) 0:Nat):Int))=decide (fl.getD (m+1-1) 0=fl.getD (m+1) 0):=by rw [Bool.eq_iff_iff,beq_iff_eq,decide_eq_true_eq,Nat.add_sub_cancel];omega
      rw [e1,e2];rfl
  unfold B__law_all_1
  have i6:∀ s13':Slot,op2 idxD (fun env=>getF env 6) (fun env=>getF env 12) (eA R C fl ru rows pl (fl.getD pl 0) ss acc (.F (hidD h)) (.F (.lst (h.map fun s=>.dct (hal ru s)))) (.F (.int k)) s13')=some s.d:=fun _=>idx_v (i:=(k:Int)) rfl rfl (atI_nat (by rw [List.getElem?_map,hk];rfl))
  have i7:∀ s13':Slot,op2 idxD (fun env=>getF env 7) (fun env=>getF env 12) (eA R C fl ru rows pl (fl.getD pl 0) ss acc (.F (hidD h)) (.F (.lst (h.map fun s=>.dct (hal ru s)))) (.F (.int k)) s13')=some (.dct (hal ru s)):=fun _=>idx_v (i:=(k:Int)) rfl rfl (atI_nat (by rw [List.getElem?_map,hk];rfl))
  have i8:∀ s13':Slot,op2 idxD (fun env=>getF env 8) (fun env=>getF env 12) (eA R C fl ru rows pl (fl.getD pl 0) ss acc (.F (hidD h)) (.F (.lst (h.map fun s=>.dct (hal ru s)))) (.F (.int k)) s13')=some (.lst (s.cs.map cel)):=fun _=>idx_v (i:=(k:Int)) rfl rfl (atI_nat (by rw [List.getElem?_map,hk];rfl))
  have ht:andB (fB (fun env=>getF env 13)) (fB (fun env=>((fCons (fun env=>getF env 11) (fCons (op2 idxD (fun env=>getF env 8) (fun env=>getF env 12)) fNil)) env).bind m__law_free)) (eA R C fl ru rows pl (fl.getD pl 0) ss acc (.F (hidD h)) (.F (.lst (h.map fun s=>.dct (hal ru s)))) (.F (.int k)) (.F (.bl (latN fl pl h s))))=some (okN ru fl pl h s):=andB_v (fB_v rfl) fun _=>fB_v ((call_v (cons_v rfl (cons_v (i8 _) nil_v))).trans hb)
  refine ⟨.F (.bl (latN fl pl h s)),(seq_v (set_v hq)).trans ?_⟩
  cases hqb:okN ru fl pl h s with
  | true=>
    rw [hqb] at ht
    rw [if_pos rfl]
    refine (ifT_v ht).trans ?_
    refine app_v (d:=rowD ru (h++[s])) rfl (tup_v (cons_v ?_ (cons_v ?_ nil_v))) (by omega)
    · have:=addT_v (f:=fun env=>getF env 10) (g:=fTup (fCons (op2 idxD (fun env=>getF env 6) (fun env=>getF env 12)) fNil)) (env:=eA R C fl ru rows pl (fl.getD pl 0) ss acc (.F (hidD h)) (.F (.lst (h.map fun s=>.dct (hal ru s)))) (.F (.int k)) (.F (.bl (latN fl pl h s)))) (xs:=h.map Sh.d) (ys:=[s.d]) rfl (tup_v (cons_v (i6 _) nil_v)) (by rw [List.length_map,hl];simp;omega)
      exact this.trans (by unfold hidD;rw [List.map_append];rfl)
    · have:=addL_v (f:=fun env=>getF env 11) (g:=fLst (fCons (op2 idxD (fun env=>getF env 7) (fun env=>getF env 12)) fNil)) (env:=eA R C fl ru rows pl (fl.getD pl 0) ss acc (.F (hidD h)) (.F (.lst (h.map fun s=>.dct (hal ru s)))) (.F (.int k)) (.F (.bl (latN fl pl h s)))) (xs:=h.map fun s=>.dct (hal ru s)) (ys:=[.dct (hal ru s)]) rfl (lst_v (cons_v (i7 _) nil_v)) (by rw [List.length_map,hl];simp;omega)
      exact this.trans (by rw [List.map_append];rfl)
  | false=>
    rw [hqb] at ht
    rw [if_neg (by simp),List.append_nil]
    exact (ifE_v ht).trans rfl
end K04
namespace K04
open PySem Mi
theorem loop_accA {α:Type} {t:Ft} {body:Fs} (f:α→D) (I:List D→En→Prop) (g:α→List D) (B M:Nat):∀ (xs:List α) (acc:List D) (env:En),I acc env→acc.length+B*xs.length≤M→(∀ x∈xs,(g x).length≤B∧∀ acc e,I acc e→acc.length+B≤M→∃ e1,(t (f x) e).bind body=some (.nx e1)∧I (acc++g x) e1)→∃ e2,loopF t body (xs.map f) env=some (.nx e2)∧I (acc++xs.flatMap g) e2
  | [],acc,env,h,_,_=>⟨env,rfl,by rw [List.flatMap_nil,List.append_nil];exact h⟩
  | x::xs,acc,env,h,hl,hb=>by
    obtain ⟨h1,h2⟩:=hb x List.mem_cons_self
    rw [List.length_cons,Nat.mul_succ] at hl
    obtain ⟨e1,h3,h4⟩:=h2 acc env h (by omega)
    obtain ⟨e0,h5,h6⟩:=Option.bind_eq_some_iff.mp h3
    have hh:loopF t body ((x::xs).map f) env=loopF t body (xs.map f) e1:=by
      show (t (f x) env).bind (fun e1=>(body e1).bind _)=_
      rw [h5]
      show (body e0).bind _=_
      rw [h6]
      rfl
    obtain ⟨e2,h7,h8⟩:=loop_accA f I g B M xs (acc++g x) e1 h4 (by rw [List.length_append];omega) fun y hy=>hb y (List.mem_cons_of_mem _ hy)
    refine ⟨e2,hh.trans h7,?_⟩
    rw [List.flatMap_cons,← List.append_assoc]
    exact h8
theorem rng_eq (n:Nat):rangeL 0 n=(List.range n).map fun (i:Nat)=>D.int i:=by
  have:=rng_map (g:=id) n
  rw [List.map_id] at this
  exact this
theorem range_get {α β:Type} (l:List α) (G:Option α→List β):(List.range l.length).flatMap (fun i=>G l[i]?)=l.flatMap fun a=>G (some a):=by
  have:(List.range l.length).map (fun i=>l[i]?)=l.map some:=by
    apply List.ext_getElem?
    intro i
    rw [List.getElem?_map,List.getElem?_map]
    by_cases h:i<l.length
    · rw [List.getElem?_range h,List.getElem?_eq_getElem h];simp
    · rw [List.getElem?_eq_none (by simpa using h),List.getElem?_eq_none (by simpa using h)];rfl
  have h2:=congrArg (fun x=>x.flatMap G) this
  simp only [List.flatMap_map] at h2
  exact h2
theorem flat_if {α β:Type} (p:α→Bool) (G:α→β):∀ (l:List α),(l.flatMap fun a=>if p a=true then [G a] else [])=(l.filter p).map G
  | []=>rfl
  | a::l=>by
    rw [List.flatMap_cons,List.filter_cons,flat_if p G l]
    split<;>rfl
theorem all2 (R C:Nat) (fl:List Nat) (ru:Str) (hr:IsRule ru) (rows:D) (pl:Nat) (hpl:pl<fl.length) (ss:List Sh) (acc:List D) (ha:acc.length<900000) (h:List Sh) (hl:h.length=pl) (hh:∀ t∈h,1≤t.n∧t.n≤1000) (hp3:pl≤3) (s12 s13:Slot) (hss:ss.length≤40) (hn:∀ s∈ss,1≤s.n) :
    ∃ s12' s13':Slot,B__law_all_2 m__law_free (eA R C fl ru rows pl (fl.getD pl 0) ss acc (.F (hidD h)) (.F (.lst (h.map fun s=>.dct (hal ru s)))) s12 s13)=some (.nx (eA R C fl ru rows pl (fl.getD pl 0) ss (acc++((ss.filter (okN ru fl pl h)).map fun s=>h++[s]).map (rowD ru)) (.F (hidD h)) (.F (.lst (h.map fun s=>.dct (hal ru s)))) s12' s13')):=by
  obtain ⟨e2,h1,s12',s13',rfl⟩:=loop_accA (t:=tgN 12) (body:=B__law_all_1 m__law_free) (fun (i:Nat)=>D.int i) (fun acc e=>∃ s12 s13,e=eA R C fl ru rows pl (fl.getD pl 0) ss acc (.F (hidD h)) (.F (.lst (h.map fun s=>.dct (hal ru s)))) s12 s13) (fun i=>match ss[i]? with | some s=>if okN ru fl pl h s=true then [rowD ru (h++[s])] else [] | none=>[]) 1 950000 (List.range ss.length) acc _ ⟨s12,s13,rfl⟩ (by rw [List.length_range];omega) fun i hi=>by
    have hi':=List.mem_range.mp hi
    have hk:ss[i]?=some ss[i]:=List.getElem?_eq_getElem hi'
    rw [hk]
    refine ⟨by dsimp only;split<;>simp,fun acc' e ⟨s12',s13',he⟩ hl'=>?_⟩
    subst he
    obtain ⟨s13'',u⟩:=all1 R C fl ru hr rows pl hpl ss acc' (by omega) h hl hh hp3 s13' i ss[i] hk (hn _ (List.getElem_mem hi'))
    exact ⟨_,tg_v (e0:=eA R C fl ru rows pl (fl.getD pl 0) ss acc' (.F (hidD h)) (.F (.lst (h.map fun s=>.dct (hal ru s)))) (.F (.int i)) s13') rfl u,_,_,rfl⟩
  rw [range_get ss (fun o=>match o with | some s=>if okN ru fl pl h s=true then [rowD ru (h++[s])] else [] | none=>[])] at h1
  dsimp only at h1
  rw [flat_if (okN ru fl pl h) (fun s=>rowD ru (h++[s])),← rng_eq] at h1
  refine ⟨s12',s13',?_⟩
  unfold B__law_all_2
  rw [for_v (itR1_v (n:=ss.length) ((len_v rfl).trans (by rw [List.length_map])) (by omega)),h1,List.map_map];rfl
theorem go_mapA {α:Type} {t:Ft} {k:En→Option (List D)} {env:En} (f g:α→D):∀ (xs:List α),(∀ x∈xs,∃ e1,t (f x) env=some e1∧k e1=some [g x])→goF t (fun _=>some true) k env (xs.map f)=some (xs.map g)
  | [],_=>rfl
  | x::xs,h=>by
    obtain ⟨e1,h1,h3⟩:=h x List.mem_cons_self
    have i1:=go_mapA f g xs fun y hy=>h y (List.mem_cons_of_mem _ hy)
    show goF _ _ _ _ (f x::xs.map f)=_
    unfold goF
    rw [h1]
    show (if true=true then k e1 else some []).bind _=_
    rw [if_pos rfl,h3];show (goF t (fun _=>some true) k env (xs.map f)).bind _=_;rw [i1];rfl
theorem allSh_le (R C:Nat) (hR:R≤4) (hC:C≤5) (l:Nat):(allSh R C l).length≤40:=by
  have h1:=allSh_len R C l
  have h2:=Nat.mul_le_mul (Nat.mul_le_mul (Nat.le_refl 2) hC) hR
  omega
theorem allSh_n {R C l:Nat} {s:Sh} (h:s∈allSh R C l):s.n=l:=(mem_allSh.mp h).2.1
theorem place_ok (R C:Nat) (hR:R≤4) (hC:C≤5) (ru:Str) (hru:IsRule ru) (fl:List Nat) (hfl:fl.length≤3) (pl:Nat) (hpl:pl<fl.length) (hln:1≤fl.getD pl 0∧fl.getD pl 0≤10) (rows:List (List Sh)) (hrows:∀ h∈rows,h.length=pl∧∀ t∈h,1≤t.n∧t.n≤1000) (hlen:rows.length≤1600) (s6 s7 s8 s9 s10 s11 s12 s13:Slot) :
    ∃ (t6 t7 t8 t9 t10 t11 t12 t13:Slot),B__law_all_3 m__law_ships m__law_halo m__law_cells m__law_free [.F (.tup [.int R,.int C]),.F (flD fl),.F (.str ru),.F (.lst (rows.map (rowD ru))),.F (.int pl),.F (.int (fl.getD pl 0:Nat)),s6,s7,s8,s9,s10,s11,s12,s13]
      = some (.nx [.F (.tup [.int R,.int C]),.F (flD fl),.F (.str ru),.F (.lst ((stepH R C ru fl pl rows).map (rowD ru))),.F (.int pl),.F (.int (fl.getD pl 0:Nat)),t6,t7,t8,t9,t10,t11,t12,t13]):=by
  have a1:=lships_ok R C (by omega) (by omega) (fl.getD pl 0)
  have ls:=allSh_le R C hR hC (fl.getD pl 0)
  have hn:∀ s∈allSh R C (fl.getD pl 0),1≤s.n∧s.n≤10:=fun s hs=>by rw [allSh_n hs];exact hln
  obtain ⟨ss,hss⟩:∃ ss,ss=allSh R C (fl.getD pl 0):=⟨_,rfl⟩
  rw [← hss] at a1 ls hn
  have b1:=go_mapA (t:=tgN 0) (k:=emitF (fun env=>((fCons (fun env=>getF env 1) (fCons (fun env=>getF env 0) fNil)) env).bind m__law_halo)) (env:=[.un,.F (.str ru)]) Sh.d (fun s=>.dct (hal ru s)) ss fun s hs=>⟨[.F s.d,.F (.str ru)],rfl,emit_v ((call_v (cons_v rfl (cons_v rfl nil_v))).trans (hal_ok s (by have:=hn s hs;omega) ru hru).1)⟩
  have c1:=go_mapA (t:=tgN 0) (k:=emitF (fun env=>((fCons (fun env=>getF env 0) fNil) env).bind m__law_cells)) (env:=[.un]) Sh.d (fun s=>.lst (s.cs.map cel)) ss fun s hs=>⟨[.F s.d],rfl,emit_v ((call_v (cons_v rfl nil_v)).trans (cells_ok s (by have:=hn s hs;omega)))⟩
  obtain ⟨e2,h1,s10',s11',s12',s13',rfl⟩:=loop_accA (t:=tgT [10,11]) (body:=B__law_all_2 m__law_free) (rowD ru) (fun acc e=>∃ (s10' s11' s12' s13':Slot),e=eA R C fl ru (.lst (rows.map (rowD ru))) pl (fl.getD pl 0) ss acc s10' s11' s12' s13') (fun h=>((ss.filter (okN ru fl pl h)).map fun s=>h++[s]).map (rowD ru)) 40 800000 rows [] _ ⟨s10,s11,s12,s13,rfl⟩ (by rw [List.length_nil];omega) fun h hh=>by
    refine ⟨by rw [List.length_map,List.length_map];exact Nat.le_trans (List.length_filter_le _ _) ls,fun acc e ⟨s10',s11',s12',s13',he⟩ hl'=>?_⟩
    subst he
    obtain ⟨q1,q2⟩:=hrows h hh
    obtain ⟨s12'',s13'',u⟩:=all2 R C fl ru hru (.lst (rows.map (rowD ru))) pl hpl ss acc (by omega) h q1 q2 (by omega) s12' s13' ls (fun s hs=>(hn s hs).1)
    exact ⟨_,tg_v (e0:=eA R C fl ru (.lst (rows.map (rowD ru))) pl (fl.getD pl 0) ss acc (.F (hidD h)) (.F (.lst (h.map fun s=>.dct (hal ru s)))) s12' s13') rfl u,_,_,_,_,rfl⟩
  have hst:rows.flatMap (fun h=>((ss.filter (okN ru fl pl h)).map fun s=>h++[s]).map (rowD ru))=(stepH R C ru fl pl rows).map (rowD ru):=by
    unfold stepH;rw [List.map_flatMap,hss]
  rw [hst,List.nil_append] at h1
  have l1:(ss.map fun s=>D.dct (hal ru s)).length≤16000000:=by rw [List.length_map];omega
  have l2:(ss.map fun s=>D.lst (s.cs.map cel)).length≤16000000:=by rw [List.length_map];omega
  exact ⟨.F (.lst (ss.map Sh.d)),.F (.lst (ss.map fun s=>.dct (hal ru s))),.F (.lst (ss.map fun s=>.lst (s.cs.map cel))),.F (.lst ((stepH R C ru fl pl rows).map (rowD ru))),s10',s11',s12',s13',(seq_v (set_v ((call_v (cons_v rfl (cons_v rfl nil_v))).trans a1))).trans ((seq_v (set_v (comp_v (itL_v rfl) rfl b1 l1))).trans ((seq_v (set_v (comp_v (itL_v rfl) rfl c1 l2))).trans ((seq_v (setO_v rfl)).trans ((seq_v ((for_v (itL_v rfl)).trans h1)).trans ((seq_v rfl).trans (set_v rfl))))))⟩
theorem itE_tup {f:Fe} {env:En} {ds:List D} (h:f env=some (.tup ds)):itE f env=some (numb 0 ds):=by unfold itE;rw [h];rfl
theorem stepH_len (R C:Nat) (hR:R≤4) (hC:C≤5) (ru:Str) (fl:List Nat) (j:Nat) (rows:List (List Sh)):(stepH R C ru fl j rows).length≤40*rows.length:=
  flat_le rows fun h _=>by rw [List.length_map];exact Nat.le_trans (List.length_filter_le _ _) (allSh_le R C hR hC _)
theorem allH_len (R C:Nat) (hR:R≤4) (hC:C≤5) (ru:Str) (fl:List Nat):∀ j,(allH R C ru fl j).length≤40 ^ j
  | 0=>by simp [allH]
  | j+1=>by
    have h1:=stepH_len R C hR hC ru fl j (allH R C ru fl j)
    have h2:=allH_len R C hR hC ru fl j
    rw [Nat.pow_succ]
    show (stepH R C ru fl j (allH R C ru fl j)).length≤_
    omega
theorem stepH_mem {R C:Nat} {ru:Str} {fl:List Nat} {j:Nat} {rows:List (List Sh)} {x:List Sh}:x∈stepH R C ru fl j rows↔∃ h∈rows,∃ s∈allSh R C (fl.getD j 0),okN ru fl j h s=true∧x=h++[s]:=by
  unfold stepH
  simp only [List.mem_flatMap,List.mem_map,List.mem_filter]
  constructor
  · rintro ⟨h,hh,s,⟨h1,h2⟩,rfl⟩;exact ⟨h,hh,s,h1,h2,rfl⟩
  · rintro ⟨h,hh,s,h1,h2,rfl⟩;exact ⟨h,hh,s,⟨h1,h2⟩,rfl⟩
theorem allH_sm (R C:Nat) (ru:Str) (fl:List Nat) (hf:∀ n∈fl,1≤n∧n≤10):∀ j,j≤fl.length→∀ h∈allH R C ru fl j,h.length=j∧∀ t∈h,1≤t.n∧t.n≤1000
  | 0,_,h,hh=>by cases List.mem_singleton.mp hh;exact ⟨rfl,fun t ht=>by cases ht⟩
  | j+1,hj,x,hx=>by
    obtain ⟨h,hh,s,h1,h2,rfl⟩:=stepH_mem.mp hx
    obtain ⟨i1,i2⟩:=allH_sm R C ru fl hf j (by omega) h hh
    refine ⟨by simp [i1],fun t ht=>?_⟩
    rcases List.mem_append.mp ht with ht | ht
    · exact i2 t ht
    · cases List.mem_singleton.mp ht
      rw [allSh_n h1]
      have:=hf (fl.getD j 0) (by rw [List.getD_eq_getElem?_getD,List.getElem?_eq_getElem (by omega)];exact List.getElem_mem _)
      omega
theorem pow40 {n:Nat} (h:n≤3):40 ^ n≤64000:=Nat.le_trans (Nat.pow_le_pow_right (by decide) h) (by decide)
theorem all_ok (R C:Nat) (hR:R≤4) (hC:C≤5) (ru:Str) (hru:IsRule ru) (fl:List Nat) (hfl:fl.length≤3) (hf:∀ n∈fl,1≤n∧n≤10) :
    m__law_all [.tup [.int R,.int C],flD fl,.str ru]=some (.lst ((allH R C ru fl fl.length).map hidD)):=by
  obtain ⟨e2,h1,s4,s5,s6,s7,s8,s9,s10,s11,s12,s13,rfl⟩:=loop_at (t:=tgT [4,5]) (body:=B__law_all_3 m__law_ships m__law_halo m__law_cells m__law_free) (fun j e=>∃ (s4 s5 s6 s7 s8 s9 s10 s11 s12 s13:Slot),e=[.F (.tup [.int R,.int C]),.F (flD fl),.F (.str ru),.F (.lst ((allH R C ru fl j).map (rowD ru))),s4,s5,s6,s7,s8,s9,s10,s11,s12,s13]) (numb 0 (fl.map fun (n:Nat)=>.int n)) 0 _ ⟨.un,.un,.un,.un,.un,.un,.un,.un,.un,.un,rfl⟩ fun i d e hd ⟨s4,s5,s6,s7,s8,s9,s10,s11,s12,s13,he⟩=>by
    subst he
    have hi:=(List.getElem?_eq_some_iff.mp hd).1
    rw [numb_len,List.length_map] at hi
    have hg:fl[i]?=some (fl.getD i 0):=by rw [List.getD_eq_getElem?_getD,List.getElem?_eq_getElem hi];rfl
    have hx:(fl.map fun (n:Nat)=>D.int n)[i]?=some (.int ((fl.getD i 0:Nat):Int)):=by rw [List.getElem?_map,hg];rfl
    rw [numb_get hx] at hd
    cases hd
    simp only [Nat.zero_add]
    have hp2:40 ^ i≤40 ^ 2:=Nat.pow_le_pow_right (by decide) (by omega)
    obtain ⟨t6,t7,t8,t9,t10,t11,t12,t13,u1⟩:=place_ok R C hR hC ru hru fl hfl i hi (hf _ (List.mem_of_getElem? hg)) (allH R C ru fl i) (allH_sm R C ru fl hf i (by omega)) (by have:=allH_len R C hR hC ru fl i;omega) s6 s7 s8 s9 s10 s11 s12 s13
    exact ⟨_,tg_v rfl u1,_,_,_,_,_,_,_,_,_,_,rfl⟩
  rw [Nat.zero_add,numb_len,List.length_map] at h1
  have h40:=pow40 hfl
  have hlen:=allH_len R C hR hC ru fl fl.length
  refine run_v ((seq_v (set_v rfl)).trans ((seq_v ((for_v (itE_tup rfl)).trans h1)).trans (ret_v (comp_v (itL_v rfl) rfl ?_ (by rw [List.length_map];omega)))))
  exact go_mapA (rowD ru) hidD _ fun h hh=>⟨_,rfl,rfl⟩
end K04
namespace K04
open PySem Mi
def Fol (ru:Str) (s t:Sh):Prop:=(t.n=s.n→Bef s t)∧keepB ru s t=true
instance (ru:Str) (s t:Sh):Decidable (Fol ru s t):=by unfold Fol;infer_instance
theorem bef_trans {s t u:Sh} (h:Bef s t) (h2:Bef t u):Bef s u:=by
  obtain ⟨a,b,dn,n⟩:=s
  obtain ⟨a',b',dn',n'⟩:=t
  obtain ⟨a2,b2,dn2,n2⟩:=u
  unfold Bef at *
  simp only at *
  cases dn<;>cases dn'<;>cases dn2<;>simp at h h2 ⊢<;>omega
theorem getD_take {fl:List Nat} {j:Nat} (h:j<fl.length):fl.take (j+1)=fl.take j++[fl.getD j 0]:=by
  rw [List.take_add_one,List.getD_eq_getElem?_getD,List.getElem?_eq_getElem h];rfl
theorem okN_iff {ru:Str} {fl:List Nat} (hs:fl.Pairwise (·≥·)) {j:Nat} (hj:j<fl.length) {h:List Sh} (hm:h.map Sh.n=fl.take j) (hp:h.Pairwise (Fol ru)) {s:Sh} (hsn:s.n=fl.getD j 0):okN ru fl j h s=true↔∀ t∈h,Fol ru t s:=by
  have hlen:h.length=j:=by have:=congrArg List.length hm;rw [List.length_map,List.length_take] at this;omega
  have hge:∀ t∈h,s.n≤t.n:=fun t ht=>by
    have h1:t.n∈fl.take j:=hm▸List.mem_map_of_mem ht
    have hsp:(fl.take j++fl.drop j).Pairwise (·≥·):=by rw [List.take_append_drop];exact hs
    rw [hsn]
    refine (List.pairwise_append.mp hsp).2.2 _ h1 _ ?_
    rw [List.getD_eq_getElem?_getD,List.getElem?_eq_getElem hj,List.drop_eq_getElem_cons hj]
    exact List.mem_cons_self
  unfold okN latN
  rw [Bool.and_eq_true,List.all_eq_true]
  by_cases hz:j=0
  · have:h=[]:=List.eq_nil_of_length_eq_zero (by omega)
    subst this
    simp [hz]
  obtain ⟨h0,u,rfl⟩:∃ h0 u,h=h0++[u]:=by
    have hne:h≠[]:=fun e=>by rw [e] at hlen;exact hz hlen.symm
    exact ⟨h.dropLast,h.getLast hne,(List.dropLast_concat_getLast hne).symm⟩
  have hu:u.n=fl.getD (j-1) 0∧h0.map Sh.n=fl.take (j-1):=by
    have e:fl.take j=fl.take (j-1)++[fl.getD (j-1) 0]:=by
      have:=getD_take (fl:=fl) (j:=j-1) (by omega)
      rwa [show j-1+1=j by omega] at this
    rw [e,List.map_append] at hm
    have:=List.append_inj' hm rfl
    exact ⟨by simpa using this.2,this.1⟩
  have h0u:∀ t∈h0,u.n≤t.n:=fun t ht=>by
    have hsp:(fl.take j).Pairwise (·≥·):=hs.sublist (List.take_sublist _ _)
    rw [← hm,List.map_append] at hsp
    exact (List.pairwise_append.mp hsp).2.2 _ (List.mem_map_of_mem ht) _ (by simp)
  rw [List.getLast?_append]
  simp only [List.getLast?_singleton,Option.some_or,hz,decide_false,Bool.false_or,Bool.or_eq_true,Bool.not_eq_true',decide_eq_false_iff_not,decide_eq_true_eq]
  rw [← hu.1,← hsn]
  constructor
  · rintro ⟨h1,h2⟩ t ht
    refine ⟨fun e=>?_,h2 t ht⟩
    rcases h1 with h1 | h1
    · have b1:=hge u (by simp)
      rcases List.mem_append.mp ht with ht | ht
      · have:=h0u t ht;omega
      · cases List.mem_singleton.mp ht;omega
    · rcases List.mem_append.mp ht with ht | ht
      · have b1:=hge u (by simp)
        have b2:=h0u t ht
        exact bef_trans (((List.pairwise_append.mp hp).2.2 t ht u (by simp)).1 (by omega)) h1
      · cases List.mem_singleton.mp ht;exact h1
  · intro hf
    refine ⟨?_,fun t ht=>(hf t ht).2⟩
    by_cases e:u.n=s.n
    · exact .inr ((hf u (by simp)).1 e.symm)
    · exact .inl e
theorem mem_allH (R C:Nat) (ru:Str) {fl:List Nat} (hs:fl.Pairwise (·≥·)):∀ (j:Nat),j≤fl.length→∀ h,h∈allH R C ru fl j↔h.map Sh.n=fl.take j∧(∀ s∈h,s∈allSh R C s.n)∧h.Pairwise (Fol ru)
  | 0,_,h=>by
    show h∈[[]]↔_
    rw [List.mem_singleton,List.take_zero,List.map_eq_nil_iff]
    constructor
    · rintro rfl;exact ⟨rfl,fun s h=>(by cases h),.nil⟩
    · exact fun h=>h.1
  | j+1,hj,x=>by
    have ih:=mem_allH R C ru hs j (by omega)
    show x∈stepH R C ru fl j (allH R C ru fl j)↔_
    rw [stepH_mem,getD_take (by omega)]
    constructor
    · rintro ⟨h,hh,s,h1,h2,rfl⟩
      obtain ⟨g1,g2,g3⟩:=(ih h).mp hh
      have hn:=allSh_n h1
      refine ⟨by rw [List.map_append,g1,← hn];rfl,fun t ht=>?_,List.pairwise_append.mpr ⟨g3,List.pairwise_singleton _ _,fun t ht u hu=>?_⟩⟩
      · rcases List.mem_append.mp ht with ht | ht
        · exact g2 t ht
        · cases List.mem_singleton.mp ht;rw [hn];exact h1
      · cases List.mem_singleton.mp hu
        exact (okN_iff hs (by omega) g1 g3 hn).mp h2 t ht
    · rintro ⟨g1,g2,g3⟩
      obtain ⟨h,s,rfl⟩:∃ h s,x=h++[s]:=by
        have hne:x≠[]:=fun e=>by rw [e] at g1;simp at g1
        exact ⟨x.dropLast,x.getLast hne,(List.dropLast_concat_getLast hne).symm⟩
      rw [List.map_append] at g1
      obtain ⟨q1,q2⟩:=List.append_inj' g1 rfl
      have hn:s.n=fl.getD j 0:=by simpa using q2
      obtain ⟨p1,p2,p3⟩:=List.pairwise_append.mp g3
      refine ⟨h,(ih h).mpr ⟨q1,fun t ht=>g2 t (by simp [ht]),p1⟩,s,hn▸g2 s (by simp),(okN_iff hs (by omega) q1 p1 hn).mpr fun t ht=>p3 t ht s (by simp),rfl⟩
theorem allH_nodup (R C:Nat) (ru:Str) (fl:List Nat):∀ j,(allH R C ru fl j).Nodup
  | 0=>by unfold allH;simp
  | j+1=>by
    have ih:=allH_nodup R C ru fl j
    show (stepH R C ru fl j (allH R C ru fl j)).Nodup
    unfold stepH List.Nodup
    refine List.pairwise_flatMap.mpr ⟨fun h _=>List.pairwise_map.mpr (((all_up R C (fl.getD j 0)).filter _).imp fun {s t} hb e=>?_),ih.imp fun {a b} hab x hx y hy e=>?_⟩
    · have:=List.append_inj_right e rfl
      cases this
      exact bef_asymm hb hb
    · obtain ⟨s,_,rfl⟩:=List.mem_map.mp hx
      obtain ⟨t,_,rfl⟩:=List.mem_map.mp hy
      exact hab (List.append_inj' e rfl).1
end K04
namespace K04
open PySem Mi
theorem deps_mem:∀ {ds:List D} {d:D},d∈ds→dep d≤deps ds
  | [],d,h=>by cases h
  | e::ds,d,h=>by
    unfold deps
    rcases List.mem_cons.mp h with rfl | h
    · omega
    · have:=deps_mem h;omega
theorem pls_mem:∀ {ds:List D} {d:D},pls ds=true→d∈ds→pl d=true
  | [],d,_,h=>by cases h
  | e::ds,d,hp,h=>by
    unfold pls at hp
    rw [Bool.and_eq_true] at hp
    rcases List.mem_cons.mp h with rfl | h
    · exact hp.1
    · exact pls_mem hp.2 h
def In (n:Nat) (d:D):Prop:=dep d≤n∧pl d=true
theorem lexL_not:∀ (xs ys:List L2.Key),lexL xs ys=(lexK ys xs).map (!·)
  | [],[]=>rfl
  | [],_::_=>rfl
  | _::_,[]=>rfl
  | x::xs,y::ys=>by
    unfold lexL lexK
    by_cases h:x=y
    · rw [if_pos h,if_pos h.symm];exact lexL_not xs ys
    · rw [if_neg h,if_neg (Ne.symm h)]
      cases x<;>cases y<;>simp [leK,ltK]
      rw [Bool.eq_iff_iff];simp
theorem le_sh (s t:Sh):leT t.d s.d=some (.bl (!decide (Bef s t))):=by
  obtain ⟨q,h1,h2⟩:=lex_sh s t
  show (lexL t.ks s.ks).bind _=_
  rw [lexL_not,h1,show decide (Bef s t)=q by cases q<;>simp_all];rfl
theorem follow_ok (ru:Str) (hr:IsRule ru) (s t:Sh):m_may_follow [.str ru,s.d,t.d]=some (.bl (decide (Fol ru s t))):=by
  have t1:fB (op2 eqF (op2 idxD (fun env=>getF env 2) (fC (.int 3))) (op2 idxD (fun env=>getF env 1) (fC (.int 3)))) (startE 3 [.str ru,s.d,t.d])=some ((t.n:Int)==s.n):=rfl
  have t2:fB (op2 leT (fun env=>getF env 2) (fun env=>getF env 1)) (startE 3 [.str ru,s.d,t.d])=some (!decide (Bef s t)):=fB_v ((op2_v rfl rfl).trans (le_sh s t))
  have t3:=andB_v t1 fun _=>t2
  have hk:=keep_ok ru hr s t
  refine run_v ?_
  cases hb:(((t.n:Int)==s.n)&&!decide (Bef s t)) with
  | true=>
    rw [hb] at t3
    have:decide (Fol ru s t)=false:=by
      rw [Bool.and_eq_true] at hb
      rw [decide_eq_false_iff_not]
      intro hf
      have h1:t.n=s.n:=by have:=hb.1;rw [beq_iff_eq] at this;omega
      simpa [hf.1 h1] using hb.2
    rw [this]
    exact seqR_v ((ifT_v t3).trans rfl)
  | false=>
    rw [hb] at t3
    have:decide (Fol ru s t)=keepB ru s t:=by
      rw [Bool.eq_iff_iff,decide_eq_true_eq]
      refine ⟨fun h=>h.2,fun h=>⟨fun e=>?_,h⟩⟩
      rw [e] at hb
      simpa using hb
    rw [this]
    exact (seq_v ((ifE_v t3).trans rfl)).trans (ret_v ((call_v rfl).trans hk))
def prs (ru:Str):List Sh→List Bool
  | []=>[]
  | s::r=>r.map (fun t=>decide (Fol ru s t))++prs ru r
theorem prs_all (ru:Str):∀ h,(prs ru h).all id=true↔h.Pairwise (Fol ru)
  | []=>by simp [prs]
  | s::r=>by
    unfold prs
    rw [List.all_append,Bool.and_eq_true,prs_all ru r,List.pairwise_cons]
    simp
theorem prs_len (ru:Str):∀ h,(prs ru h).length≤h.length*h.length
  | []=>by simp [prs]
  | s::r=>by
    unfold prs
    have:=prs_len ru r
    rw [List.length_append,List.length_map,List.length_cons,Nat.add_mul,Nat.mul_add]
    omega
theorem fromX_v {f g:Fe} {env:En} {ds:List D} {m:Nat} (h:g env=some (.tup ds)) (hf:f env=some (.int (m:Int))) (hm:0<m) (hd:0<ds.length):slF cutTup g (oSome f) oNone env=some (.tup (ds.drop m)):=by
  unfold slF oSome;rw [h,Option.bind_some]
  show ((f env).bind _).bind _=_
  rw [hf]
  show (if HT.sIx ds.length 0 (some (m:Int))=0∧_ then none else some (D.tup (cutD ds (some (m:Int)) none)))=_
  rw [if_neg (by rw [HT.sIx_nat];omega),cutD_from]
theorem go_prs (ru:Str) (hr:IsRule ru) (h:List Sh) (s2:Slot):∀ (h1 h2:List Sh),h=h1++h2→
    goF (tgT [0,1]) (fun _=>some true) (moreF (itT (slF cutTup (fun env=>getF env 3) (oSome (op2 addI (fun env=>getF env 0) (fC (.int 1)))) oNone)) [2] (tgN 2) (fun _=>some true) (emitF (fun env=>((fCons (fun env=>getF env 4) (fCons (fun env=>getF env 1) (fCons (fun env=>getF env 2) fNil))) env).bind m_may_follow))) [.un,.un,.un,.F (hidD h),.F (.str ru)] (numb h1.length (h2.map Sh.d))=some ((prs ru h2).map .bl)
  | h1,[],_=>rfl
  | h1,s::r,e=>by
    have ih:=go_prs ru hr h s2 (h1++[s]) r (by rw [e];simp)
    rw [List.length_append,List.length_singleton] at ih
    have hd:slF cutTup (fun env=>getF env 3) (oSome (op2 addI (fun env=>getF env 0) (fC (.int 1)))) oNone [.F (.int (h1.length:Int)),.F s.d,.un,.F (hidD h),.F (.str ru)]=some (.tup (r.map Sh.d)):=by
      refine (fromX_v (m:=h1.length+1) rfl ((op2_v rfl rfl).trans ?_) (by omega) (by rw [List.length_map,e];simp;omega)).trans ?_
      · rw [add_v];simp
      · rw [← List.map_drop,e,show h1.length+1=(h1++[s]).length by simp,show h1++s::r=(h1++[s])++r by simp,List.drop_left]
    have hk:=go_mapA (t:=tgN 2) (k:=emitF (fun env=>((fCons (fun env=>getF env 4) (fCons (fun env=>getF env 1) (fCons (fun env=>getF env 2) fNil))) env).bind m_may_follow)) (env:=[.F (.int (h1.length:Int)),.F s.d,.un,.F (hidD h),.F (.str ru)]) Sh.d (fun t=>.bl (decide (Fol ru s t))) r fun t ht=>⟨[.F (.int (h1.length:Int)),.F s.d,.F t.d,.F (hidD h),.F (.str ru)],rfl,emit_v ((call_v rfl).trans (follow_ok ru hr s t))⟩
    have hm:=more_v (fi:=itT (slF cutTup (fun env=>getF env 3) (oSome (op2 addI (fun env=>getF env 0) (fC (.int 1)))) oNone)) (is:=[2]) (t:=tgN 2) (c:=fun _=>some true) (k:=emitF (fun env=>((fCons (fun env=>getF env 4) (fCons (fun env=>getF env 1) (fCons (fun env=>getF env 2) fNil))) env).bind m_may_follow)) (env:=[.F (.int (h1.length:Int)),.F s.d,.un,.F (hidD h),.F (.str ru)]) (itT_v hd) rfl hk
    show goF _ _ _ _ (.tup [.int (h1.length:Int),s.d]::numb (h1.length+1) (r.map Sh.d))=_
    unfold goF
    show (if true=true then moreF _ _ _ _ _ [.F (.int (h1.length:Int)),.F s.d,.un,.F (hidD h),.F (.str ru)] else some []).bind _=_
    rw [if_pos rfl,hm]
    show (goF _ _ _ _ (numb (h1.length+1) (r.map Sh.d))).bind _=_
    rw [ih]
    show some _=some ((r.map (fun t=>decide (Fol ru s t))++prs ru r).map D.bl)
    rw [List.map_append,List.map_map];rfl
theorem shipB_in {R C:Nat} {s:Sh} (h:s∈allSh R C s.n) (hn:1≤s.n∧s.n≤8):shipB R C s.d=true:=by
  obtain ⟨⟨a,b,h1,h2,h3,h4⟩,_,h5,h6⟩:=mem_allSh.mp h
  obtain ⟨sa,sb,dn,n⟩:=s
  simp only at h1 h2 h5 h6 hn
  subst h1 h2
  show ((sAl==_||sDn==_)&&szB (.int n)&&(inR R (.int a)&&inR C (.int b))&&_)=true
  have e1:szB (.int (n:Int))=true:=by unfold szB;simp;omega
  have e2:inR R (.int (a:Int))=true:=by unfold inR;simp;omega
  have e3:inR C (.int (b:Int))=true:=by unfold inR;simp;omega
  rw [e1,e2,e3]
  cases dn
  · have:=h5 rfl
    show ((sAl==sAl||sDn==sAl)&&true&&(true&&true)&&(if (sAl==sDn)=true then decide _&&decide _ else decide ((b:Int)+n≤C)))=true
    rw [if_neg (by decide),decide_eq_true this];decide
  · obtain ⟨g1,g2⟩:=h6 rfl
    show ((sAl==sDn||sDn==sDn)&&true&&(true&&true)&&(if (sDn==sDn)=true then decide ((1:Int)<n)&&decide ((a:Int)+n≤R) else _))=true
    rw [if_pos (by decide),decide_eq_true g1,decide_eq_true (show (1:Int)<n by omega)];decide
theorem shipB_out {R C:Nat} {d:D} (h:shipB R C d=true):∃ s:Sh,d=s.d∧s∈allSh R C s.n∧1≤s.n∧s.n≤8:=by
  unfold shipB at h
  split at h
  · rename_i a b w l
    simp only [Bool.and_eq_true,Bool.or_eq_true,beq_iff_eq] at h
    obtain ⟨⟨⟨h1,h2⟩,h3,h4⟩,h5⟩:=h
    unfold szB at h2;unfold inR at h3 h4
    simp only [Bool.and_eq_true,decide_eq_true_eq] at h2 h3 h4
    obtain ⟨a,rfl⟩:=Int.eq_ofNat_of_zero_le h3.1
    obtain ⟨b,rfl⟩:=Int.eq_ofNat_of_zero_le h4.1
    obtain ⟨l,rfl⟩:=Int.eq_ofNat_of_zero_le (show 0≤l by omega)
    rcases h1 with rfl | rfl
    · rw [if_neg (by decide),decide_eq_true_eq] at h5
      exact ⟨⟨a,b,false,l⟩,rfl,mem_allSh.mpr ⟨⟨a,b,rfl,rfl,by omega,by omega⟩,rfl,fun _=>h5,fun z=>by cases z⟩,by simp only;omega,by simp only;omega⟩
    · rw [if_pos rfl,Bool.and_eq_true,decide_eq_true_eq,decide_eq_true_eq] at h5
      exact ⟨⟨a,b,true,l⟩,rfl,mem_allSh.mpr ⟨⟨a,b,rfl,rfl,by omega,by omega⟩,rfl,fun z=>(by cases z),fun _=>⟨h5.2,by simp only;omega⟩⟩,by simp only;omega,by simp only;omega⟩
  · cases h
theorem as_map {α:Type} {f:α→D} {P:α→Prop}:∀ (ds:List D),(∀ d∈ds,∃ s,d=f s∧P s)→∃ ss:List α,ds=ss.map f∧∀ s∈ss,P s
  | [],_=>⟨[],rfl,fun _ h=>by cases h⟩
  | d::ds,h=>by
    obtain ⟨s,rfl,hs⟩:=h d List.mem_cons_self
    obtain ⟨ss,rfl,hss⟩:=as_map ds fun x hx=>h x (List.mem_cons_of_mem _ hx)
    refine ⟨s::ss,rfl,fun x hx=>?_⟩
    rcases List.mem_cons.mp hx with rfl | hx
    · exact hs
    · exact hss x hx
theorem sh_inj {s t:Sh} (h:s.d=t.d):s=t:=by
  obtain ⟨a,b,dn,n⟩:=s
  obtain ⟨a',b',dn',n'⟩:=t
  unfold Sh.d at h
  simp only [D.tup.injEq,List.cons.injEq,D.int.injEq,D.str.injEq,and_true] at h
  obtain ⟨rfl,rfl,h3,h4⟩:=h
  have h4:n=n':=by omega
  subst h4
  have e:sAl≠sDn:=by decide
  cases dn<;>cases dn'<;>first | rfl | exact absurd h3 e | exact absurd h3 e.symm
theorem map_inj {α β:Type} {f:α→β} (hf:∀ x y,f x=f y→x=y):∀ {xs ys:List α},xs.map f=ys.map f→xs=ys
  | [],[],_=>rfl
  | [],_::_,h=>by cases h
  | _::_,[],h=>by cases h
  | x::xs,y::ys,h=>by
    simp only [List.map_cons,List.cons.injEq] at h
    rw [hf x y h.1,map_inj hf h.2]
theorem hid_inj {h g:List Sh} (e:hidD h=hidD g):h=g:=by
  unfold hidD at e
  simp only [D.tup.injEq] at e
  exact map_inj (fun x y=>sh_inj) e
theorem eq_nats (xs ys:List Nat):eqD (.lst (xs.map fun (n:Nat)=>.int n)) (.lst (ys.map fun (n:Nat)=>.int n))=decide (xs=ys):=by
  unfold eqD
  exact eqDsMap (f:=fun (n:Nat)=>D.int n) (fun x y=>by unfold eqD;rw [Bool.eq_iff_iff,beq_iff_eq,decide_eq_true_eq];omega) xs ys
theorem pls_nats (xs:List Nat):pls (xs.map fun (n:Nat)=>D.int n)=true:=plsOf _ fun x hx=>by obtain ⟨n,_,rfl⟩:=List.mem_map.mp hx;rfl
theorem dep_nats (xs:List Nat):dep (.lst (xs.map fun (n:Nat)=>D.int n))≤1:=dep_lst fun x hx=>by obtain ⟨n,_,rfl⟩:=List.mem_map.mp hx;rw [dep_int];omega
theorem hid_ok (R C:Nat) (ru:Str) (hr:IsRule ru) (fl:List Nat) (hfl:fl.length≤3) (hf:∀ n∈fl,1≤n∧n≤8) (hs:fl.Pairwise (·≥·)) (d:D) (hd:dep d≤50) (hp:pl d=true) :
    ∃ b,m_is_hiding [.tup [.int R,.int C],flD fl,.str ru,d]=some (.bl b)∧(b=true↔∃ h∈allH R C ru fl fl.length,d=hidD h):=by
  have mem:=mem_allH R C ru hs fl.length (Nat.le_refl _)
  rw [List.take_length] at mem
  have t1:fB (fun env=>((fCons (fun env=>getF env 3) (fCons (un1 lenD (fun env=>getF env 1)) fNil)) env).bind m_is_tuple_of) (startE 4 [.tup [.int R,.int C],flD fl,.str ru,d])=some (tupN fl.length d):=fB_v ((call_v (cons_v rfl (cons_v ((lenT_v rfl).trans (by rw [List.length_map])) nil_v))).trans (tupof_ok d fl.length))
  cases h1:tupN fl.length d with
  | false=>
    rw [h1] at t1
    refine ⟨false,run_v (seqR_v ((ifT_v (not_v t1)).trans rfl)),⟨fun h=>(by cases h),?_⟩⟩
    rintro ⟨h,hh,rfl⟩
    have:=congrArg List.length ((mem h).mp hh).1
    rw [List.length_map] at this
    have:tupN fl.length (hidD h)=true:=by unfold hidD tupN;simp [this]
    rw [h1] at this;cases this
  | true=>
    rw [h1] at t1
    obtain ⟨ds,rfl⟩:∃ ds,d=.tup ds:=by cases d<;>first | exact ⟨_,rfl⟩ | cases h1
    have hlen:ds.length=fl.length:=by have:((ds.length:Int)==fl.length)=true:=h1;rw [beq_iff_eq] at this;omega
    have g1:=go_map1 (t:=tgN 0) (k:=emitF (fun env=>((fCons (fun env=>getF env 1) (fCons (fun env=>getF env 0) fNil)) env).bind m_is_ship)) (env:=[.un,.F (.tup [.int R,.int C])]) (fun x=>.bl (shipB R C x)) ds fun x hx=>⟨[.F x,.F (.tup [.int R,.int C])],rfl,emit_v ((call_v rfl).trans (ship_ok R C x (by
      have:=deps_mem hx;unfold dep at hd;omega) (by unfold pl at hp;exact pls_mem hp hx)))⟩
    have t2:fB (un1 allD (compF (itT (fun env=>getF env 3)) [0] (tgN 0) (fun _=>some true) (emitF (fun env=>((fCons (fun env=>getF env 1) (fCons (fun env=>getF env 0) fNil)) env).bind m_is_ship)) 1 [0])) (startE 4 [.tup [.int R,.int C],flD fl,.str ru,.tup ds])=some ((ds.map (shipB R C)).all id):=fB_v (all_v (comp_v (itT_v rfl) rfl (g1.trans (by rw [List.map_map];rfl)) (by rw [List.length_map,List.length_map];omega)))
    cases h2:(ds.map (shipB R C)).all id with
    | false=>
      rw [h2] at t2
      refine ⟨false,run_v ((seq_v ((ifE_v (not_v t1)).trans rfl)).trans (seqR_v ((ifT_v (not_v t2)).trans rfl))),⟨fun h=>(by cases h),?_⟩⟩
      rintro ⟨h,hh,e⟩
      unfold hidD at e
      cases e
      obtain ⟨m1,m2,_⟩:=(mem h).mp hh
      have:((h.map Sh.d).map (shipB R C)).all id=true:=by
        rw [List.all_eq_true]
        intro b hb
        rw [List.map_map] at hb
        obtain ⟨s,hs',rfl⟩:=List.mem_map.mp hb
        exact shipB_in (m2 s hs') (hf s.n (m1▸List.mem_map_of_mem hs'))
      rw [h2] at this;cases this
    | true=>
      rw [h2] at t2
      obtain ⟨h,rfl,hh⟩:=as_map (f:=Sh.d) (P:=fun s=>s∈allSh R C s.n∧1≤s.n∧s.n≤8) ds fun x hx=>by
        rw [List.all_eq_true] at h2
        exact shipB_out (h2 (shipB R C x) (List.mem_map_of_mem hx))
      rw [List.length_map] at hlen
      have g3:=go_mapA (t:=tgN 0) (k:=emitF (op2 idxD (fun env=>getF env 0) (fC (.int 3)))) (env:=[.un]) Sh.d (fun s=>.int s.n) h fun s hs'=>⟨[.F s.d],rfl,rfl⟩
      have t3:fB (op2 neF (compF (itT (fun env=>getF env 3)) [0] (tgN 0) (fun _=>some true) (emitF (op2 idxD (fun env=>getF env 0) (fC (.int 3)))) 1 []) (un1 listD (fun env=>getF env 1))) (startE 4 [.tup [.int R,.int C],flD fl,.str ru,hidD h])=some (!decide (h.map Sh.n=fl)):=by
        have e1:(h.map fun s=>D.int s.n)=(h.map Sh.n).map fun (n:Nat)=>D.int n:=by rw [List.map_map];rfl
        rw [e1] at g3
        refine fB_v (ne_d (comp_v (itT_v rfl) rfl g3 (by rw [List.length_map,List.length_map];omega)) (listT_v rfl) (ok_l ?_ ?_) (eq_nats _ _))
        · have:=dep_nats (h.map Sh.n);omega
        · unfold pl;rw [pls_nats,pls_nats];rfl
      have g4:=go_prs ru hr h .un [] h rfl
      have r4:un1 allD (compF (itE (fun env=>getF env 3)) [0,1] (tgT [0,1]) (fun _=>some true) (moreF (itT (slF cutTup (fun env=>getF env 3) (oSome (op2 addI (fun env=>getF env 0) (fC (.int 1)))) oNone)) [2] (tgN 2) (fun _=>some true) (emitF (fun env=>((fCons (fun env=>getF env 4) (fCons (fun env=>getF env 1) (fCons (fun env=>getF env 2) fNil))) env).bind m_may_follow))) 3 [3,2]) (startE 4 [.tup [.int R,.int C],flD fl,.str ru,hidD h])=some (.bl ((prs ru h).all id)):=all_v (comp_v (itE_tup rfl) rfl g4 (by
        rw [List.length_map]
        have:=prs_len ru h
        have h9:h.length*h.length≤3*3:=Nat.mul_le_mul (by omega) (by omega)
        omega))
      have start:=fun (f:Fs)=>(seq_v (g:=f) ((ifE_v (f:=retF (fC (.bl false))) (g:=nxF) (not_v t1)).trans rfl))
      by_cases hm:h.map Sh.n=fl
      · rw [decide_eq_true hm] at t3
        refine ⟨(prs ru h).all id,run_v ((start _).trans ((seq_v ((ifE_v (not_v t2)).trans rfl)).trans ((seq_v ((ifE_v t3).trans rfl)).trans (ret_v r4)))),?_⟩
        rw [prs_all]
        refine ⟨fun hp=>⟨h,(mem h).mpr ⟨hm,fun s hs'=>(hh s hs').1,hp⟩,rfl⟩,?_⟩
        rintro ⟨g,hg,e⟩
        rw [hid_inj e]
        exact ((mem g).mp hg).2.2
      · rw [decide_eq_false hm] at t3
        refine ⟨false,run_v ((start _).trans ((seq_v ((ifE_v (not_v t2)).trans rfl)).trans (seqR_v ((ifT_v t3).trans rfl)))),⟨fun h=>(by cases h),?_⟩⟩
        rintro ⟨g,hg,e⟩
        rw [hid_inj e] at hm
        exact absurd ((mem g).mp hg).1 hm
end K04
namespace K04
open PySem Mi
structure PL (R C:Nat) (fl:List Nat) (ru:Str):Prop where
  r0:0<R
  r4:R≤4
  c0:0<C
  c5:C≤5
  l0:0<fl.length
  l3:fl.length≤3
  sz:∀ n∈fl,1≤n∧n≤4
  up:fl.Pairwise (·≥·)
  ru:IsRule ru
theorem seven {r:List Int} (h:r.length=7):∃ a b c d e f g,r=[a,b,c,d,e,f,g]:=by
  match r,h with
  | [a,b,c,d,e,f,g],_=>exact ⟨a,b,c,d,e,f,g,rfl⟩
theorem nat_map:∀ (ns:List Int),(∀ x∈ns,1≤x∧x≤4)→ns.Pairwise (·≥·)→∃ fl:List Nat,ns.map D.int=fl.map (fun (n:Nat)=>D.int n)∧fl.length=ns.length∧(∀ n∈fl,1≤n∧n≤4)∧(∀ n∈fl,(n:Int)∈ns)∧fl.Pairwise (·≥·)
  | [],_,_=>⟨[],rfl,rfl,fun _ h=>(by cases h),fun _ h=>(by cases h),.nil⟩
  | x::ns,h,hp=>by
    obtain ⟨p1,p2⟩:=List.pairwise_cons.mp hp
    obtain ⟨fl,h1,h2,h3,h6,h7⟩:=nat_map ns (fun y hy=>h y (List.mem_cons_of_mem _ hy)) p2
    obtain ⟨h4,h5⟩:=h x List.mem_cons_self
    obtain ⟨n,rfl⟩:=Int.eq_ofNat_of_zero_le (show 0≤x by omega)
    refine ⟨n::fl,by simp [h1],by simp [h2],fun m hm=>?_,fun m hm=>?_,List.pairwise_cons.mpr ⟨fun m hm=>?_,h7⟩⟩
    · rcases List.mem_cons.mp hm with rfl | hm
      · omega
      · exact h3 m hm
    · rcases List.mem_cons.mp hm with rfl | hm
      · exact List.mem_cons_self
      · exact List.mem_cons_of_mem _ (h6 m hm)
    · have:=p1 _ (h6 m hm);omega
theorem fleet_ok {env:En} (ns:List Int) (hg:getF env 9=some (.tup (ns.map .int))) (h:∀ x∈ns,1≤x∧x≤4) (hl:ns.length≤3):∃ fl:List Nat,un1 tupleD (un1 revL (un1 sortI (fun env=>getF env 9))) env=some (flD fl)∧fl.length=ns.length∧(∀ n∈fl,1≤n∧n≤4)∧fl.Pairwise (·≥·):=by
  obtain ⟨fl,h1,h2,h3,_,h5⟩:=nat_map (srtI ns).reverse (fun x hx=>h x ((srtI_perm ns).mem_iff.mp (List.mem_reverse.mp hx))) (List.pairwise_reverse.mpr (srtI_up ns))
  refine ⟨fl,?_,by rw [h2,List.length_reverse,srtI_len],h3,h5⟩
  have e1:un1 sortI (fun env=>getF env 9) env=some (.lst ((srtI ns).map .int)):=by
    rw [un1_v hg];show (unInt (ns.map .int)).bind _=_;rw [unInt_map];show (if ns.length<64 then _ else _)=_;rw [if_pos (by omega)]
  have e2:un1 revL (un1 sortI (fun env=>getF env 9)) env=some (.lst ((srtI ns).map .int).reverse):=by rw [un1_v e1];rfl
  rw [tupleL_v e2,← List.map_reverse,h1];rfl
theorem fin4 {x:Int} (h:0≤x∧x<4):x=0∨x=1∨x=2∨x=3:=by omega
theorem fin3 {x:Int} (h:0≤x∧x<3):x=0∨x=1∨x=2:=by omega
theorem game_ok (c:Int):∃ (R C:Nat) (fl:List Nat) (ru:Str),m__law_game [.int c]=some (.tup [.tup [.int R,.int C],flD fl,.str ru])∧PL R C fl ru:=by
  obtain ⟨r,h1,h2,h3⟩:=drawn_ok c [4,4,4,4,4,4,3] (by decide) (by decide)
  obtain ⟨w,ro,co,f,s,t,ru,rfl⟩:=seven h2
  have hw:=h3 0 w 4 rfl rfl
  have hro:=h3 1 ro 4 rfl rfl
  have hco:=h3 2 co 4 rfl rfl
  have hf:=h3 3 f 4 rfl rfl
  have hs:=h3 4 s 4 rfl rfl
  have ht:=h3 5 t 4 rfl rfl
  have hru:=h3 6 ru 3 rfl rfl
  clear h2 h3
  have rule:∃ u:Str,IsRule u∧L2.atI [D.str sFr,.str sSi,.str sCo] ru=some (.str u):=by
    rcases fin3 hru with rfl | rfl | rfl
    · exact ⟨_,.inl rfl,rfl⟩
    · exact ⟨_,.inr (.inl rfl),rfl⟩
    · exact ⟨_,.inr (.inr rfl),rfl⟩
  obtain ⟨u,hu1,hu2⟩:=rule
  have fin:∀ (R C:Int) (ns:List Int),0<R→R≤4→0<C→C≤5→(∀ x∈ns,1≤x∧x≤4)→0<ns.length→ns.length≤3→∃ (R' C':Nat) (fl:List Nat),
      seqF (setF 9 (un1 tupleD (un1 revL (un1 sortI (fun env=>getF env 9))))) (retF (fTup (fCons (fun env=>getF env 8) (fCons (fun env=>getF env 9) (fCons (op2 idxD (fLst (fCons (fC (.str (Str.ofString "free"))) (fCons (fC (.str (Str.ofString "sides"))) (fCons (fC (.str (Str.ofString "corners"))) fNil)))) (fun env=>getF env 7)) fNil))))) [.F (.int c),.F (.int w),.F (.int ro),.F (.int co),.F (.int f),.F (.int s),.F (.int t),.F (.int ru),.F (.tup [.int R,.int C]),.F (.tup (ns.map .int))]
        = some (.rt (.tup [.tup [.int R',.int C'],flD fl,.str u]))∧PL R' C' fl u:=fun R C ns g1 g2 g3 g4 g5 g6 g7=>by
    obtain ⟨R',rfl⟩:=Int.eq_ofNat_of_zero_le (Int.le_of_lt g1)
    obtain ⟨C',rfl⟩:=Int.eq_ofNat_of_zero_le (Int.le_of_lt g3)
    obtain ⟨fl,k1,k2,k3,k4⟩:=fleet_ok (env:=[.F (.int c),.F (.int w),.F (.int ro),.F (.int co),.F (.int f),.F (.int s),.F (.int t),.F (.int ru),.F (.tup [.int R',.int C']),.F (.tup (ns.map .int))]) ns rfl g5 g7
    exact ⟨R',C',fl,(seq_v (set_v k1)).trans (ret_v (tup_v (cons_v rfl (cons_v rfl (cons_v (idx_v (i:=ru) rfl rfl hu2) nil_v))))),by omega,by omega,by omega,by omega,by omega,by omega,k3,k4,hu1⟩
  have start:unL [1,2,3,4,5,6,7] (fun env=>((fCons (fun env=>getF env 0) (fCons (fLst (fCons (fC (.int 4)) (fCons (fC (.int 4)) (fCons (fC (.int 4)) (fCons (fC (.int 4)) (fCons (fC (.int 4)) (fCons (fC (.int 4)) (fCons (fC (.int 3)) fNil)))))))) fNil)) env).bind m__law_drawn) (startE 10 [.int c])=some (.nx [.F (.int c),.F (.int w),.F (.int ro),.F (.int co),.F (.int f),.F (.int s),.F (.int t),.F (.int ru),.un,.un]):=unL_v ((call_v (cons_v rfl (cons_v rfl nil_v))).trans h1) rfl
  rcases fin4 hw with rfl | rfl | rfl | rfl
  · obtain ⟨R',C',fl,k1,k2⟩:=fin (1+ro) (1+co) [1+f] (by omega) (by omega) (by omega) (by omega) (by intro x hx;cases List.mem_singleton.mp hx;omega) (by simp) (by simp)
    exact ⟨R',C',fl,u,run_v ((seq_v start).trans ((seq_v (set_v rfl)).trans ((seq_v ((ifE_v rfl).trans rfl)).trans ((seq_v (set_v rfl)).trans ((seq_v ((ifE_v rfl).trans rfl)).trans k1))))),k2⟩
  · obtain ⟨R',C',fl,k1,k2⟩:=fin (2+ro%3) (2+co%3) [1+f%3,1+s%3] (by omega) (by omega) (by omega) (by omega) (by intro x hx;simp only [List.mem_cons,List.not_mem_nil,or_false] at hx;omega) (by simp) (by simp)
    exact ⟨R',C',fl,u,run_v ((seq_v start).trans ((seq_v (set_v rfl)).trans ((seq_v ((ifE_v rfl).trans rfl)).trans ((seq_v (set_v rfl)).trans ((seq_v ((ifE_v rfl).trans rfl)).trans k1))))),k2⟩
  · obtain ⟨R',C',fl,k1,k2⟩:=fin (1+ro%3) (3+co%2) [1+f%3,1+s%2,1+t%2] (by omega) (by omega) (by omega) (by omega) (by intro x hx;simp only [List.mem_cons,List.not_mem_nil,or_false] at hx;omega) (by simp) (by simp)
    exact ⟨R',C',fl,u,run_v ((seq_v start).trans ((seq_v (set_v rfl)).trans ((seq_v ((ifE_v rfl).trans rfl)).trans ((seq_v (set_v rfl)).trans ((seq_v ((ifE_v rfl).trans rfl)).trans k1))))),k2⟩
  · obtain ⟨R',C',fl,k1,k2⟩:=fin 2 (2+co) [1+f%3,1+s%3,1+t%2] (by omega) (by omega) (by omega) (by omega) (by intro x hx;simp only [List.mem_cons,List.not_mem_nil,or_false] at hx;omega) (by simp) (by simp)
    exact ⟨R',C',fl,u,run_v ((seq_v start).trans ((seq_v (set_v rfl)).trans ((seq_v ((ifT_v rfl).trans (set_v rfl))).trans ((seq_v (set_v rfl)).trans ((seq_v ((ifT_v rfl).trans (set_v rfl))).trans k1))))),k2⟩
theorem PL.ten {R C:Nat} {fl:List Nat} {ru:Str} (h:PL R C fl ru):∀ n∈fl,1≤n∧n≤10:=fun n hn=>by have:=h.sz n hn;omega
theorem PL.all {R C:Nat} {fl:List Nat} {ru:Str} (h:PL R C fl ru):m__law_all [.tup [.int R,.int C],flD fl,.str ru]=some (.lst ((allH R C ru fl fl.length).map hidD)):=all_ok R C h.r4 h.c5 ru h.ru fl h.l3 h.ten
theorem PL.len {R C:Nat} {fl:List Nat} {ru:Str} (h:PL R C fl ru):(allH R C ru fl fl.length).length≤64000:=Nat.le_trans (allH_len R C h.r4 h.c5 ru fl fl.length) (pow40 h.l3)
theorem pl_hid (h:List Sh):pl (hidD h)=true:=by unfold hidD pl;exact plsOf _ fun x hx=>by obtain ⟨s,_,rfl⟩:=List.mem_map.mp hx;rfl
theorem dep_sh (s:Sh):dep s.d≤1:=dep_tup (n:=0) fun x hx=>by
  simp only [List.mem_cons,List.not_mem_nil,or_false] at hx
  rcases hx with rfl | rfl | rfl | rfl<;>simp [dep]
theorem dep_hid (h:List Sh):dep (hidD h)≤2:=dep_tup fun x hx=>by obtain ⟨s,_,rfl⟩:=List.mem_map.mp hx;exact dep_sh s
theorem pls_hids (hs:List (List Sh)):pls (hs.map hidD)=true:=plsOf _ fun x hx=>by obtain ⟨s,_,rfl⟩:=List.mem_map.mp hx;exact pl_hid s
end K04
namespace K04
open PySem Mi
theorem go_filtA {α:Type} {t:Ft} {c:Fb} {k:En→Option (List D)} {env:En} (f g:α→D) (p:α→Bool):∀ (xs:List α),(∀ x∈xs,∃ e1,t (f x) env=some e1∧c e1=some (p x)∧(p x=true→k e1=some [g x]))→goF t c k env (xs.map f)=some ((xs.filter p).map g)
  | [],_=>rfl
  | x::xs,h=>by
    obtain ⟨e1,h1,h2,h3⟩:=h x List.mem_cons_self
    have ih:=go_filtA f g p xs fun y hy=>h y (List.mem_cons_of_mem _ hy)
    show goF _ _ _ _ (f x::xs.map f)=_
    unfold goF
    rw [h1];show (c e1).bind _=_;rw [h2]
    cases hp:p x with
    | true=>
      show (if true=true then k e1 else some []).bind _=_
      rw [if_pos rfl,h3 hp];show (goF t c k env (xs.map f)).bind _=_;rw [ih,List.filter_cons,if_pos hp];rfl
    | false=>
      simp only [Option.bind_some,Bool.false_eq_true,if_false,ih,List.nil_append,List.filter_cons,hp]
def chD (cs:List (List Sh)):List D:=cs.map fun A=>.lst (A.map Sh.d)
def cutC (ru:Str) (s:Sh) (cs:List (List Sh)):List (List Sh):=cs.map fun A=>A.filter fun t=>decide (Fol ru s t)
def amongN (ru:Str):Nat→List (List Sh)→List (List Sh)
  | 0,_=>[]
  | _+1,[]=>[]
  | _+1,[A]=>A.map fun s=>[s]
  | n+1,A::B::r=>A.flatMap fun s=>(amongN ru n (cutC ru s (B::r))).map fun h=>s::h
theorem cutC_len (ru:Str) (s:Sh) (cs:List (List Sh)):(cutC ru s cs).length=cs.length:=by unfold cutC;simp
theorem cutC_le {ru:Str} {s:Sh} {cs:List (List Sh)} {M:Nat} (h:∀ A∈cs,A.length≤M):∀ A∈cutC ru s cs,A.length≤M:=fun A hA=>by
  obtain ⟨B,hB,rfl⟩:=List.mem_map.mp hA
  exact Nat.le_trans (List.length_filter_le _ _) (h B hB)
theorem amongN_len (ru:Str) {M:Nat} (hM:1≤M):∀ (n:Nat) (cs:List (List Sh)),(∀ A∈cs,A.length≤M)→(amongN ru n cs).length≤M ^ cs.length
  | 0,cs,_=>Nat.zero_le _
  | n+1,[],_=>Nat.zero_le _
  | n+1,[A],h=>by
    have:=h A List.mem_cons_self
    unfold amongN
    simp only [List.length_map,List.length_cons,List.length_nil,Nat.zero_add,Nat.pow_one]
    exact this
  | n+1,A::B::r,h=>by
    have hA:=h A List.mem_cons_self
    have:=flat_le (g:=fun s=>(amongN ru n (cutC ru s (B::r))).map fun h=>s::h) (B:=M ^ (B::r).length) A fun s _=>by
      rw [List.length_map]
      have:=amongN_len ru hM n (cutC ru s (B::r)) (cutC_le fun L hL=>h L (List.mem_cons_of_mem _ hL))
      rwa [cutC_len] at this
    unfold amongN
    refine Nat.le_trans this ?_
    rw [List.length_cons (a:=A),Nat.pow_succ]
    exact Nat.mul_le_mul_left _ hA
theorem amongN_mem_len (ru:Str):∀ (n:Nat) (cs:List (List Sh)) (h:List Sh),h∈amongN ru n cs→h.length=cs.length
  | 0,cs,h,hh=>by cases hh
  | n+1,[],h,hh=>by cases hh
  | n+1,[A],h,hh=>by
    obtain ⟨s,_,rfl⟩:=List.mem_map.mp hh
    rfl
  | n+1,A::B::r,h,hh=>by
    obtain ⟨s,_,h2⟩:=List.mem_flatMap.mp hh
    obtain ⟨g,hg,rfl⟩:=List.mem_map.mp h2
    have:=amongN_mem_len ru n _ g hg
    rw [cutC_len] at this
    simp only [List.length_cons] at *
    omega
theorem cut1 (ru:Str) (hr:IsRule ru) (s:Sh) (A:List Sh) (hA:A.length≤16000000):compF (itL (fun env=>getF env 0)) [0] (tgN 0) (fB (fun env=>((fCons (fun env=>getF env 1) (fCons (fun env=>getF env 2) (fCons (fun env=>getF env 0) fNil))) env).bind m_may_follow)) (emitF (fun env=>getF env 0)) 1 [1,2] [.F (.lst (A.map Sh.d)),.F (.str ru),.F s.d]=some (.lst ((A.filter fun t=>decide (Fol ru s t)).map Sh.d)):=by
  have g1:=go_filtA (t:=tgN 0) (c:=fB (fun env=>((fCons (fun env=>getF env 1) (fCons (fun env=>getF env 2) (fCons (fun env=>getF env 0) fNil))) env).bind m_may_follow)) (k:=emitF (fun env=>getF env 0)) (env:=[.un,.F (.str ru),.F s.d]) Sh.d Sh.d (fun t=>decide (Fol ru s t)) A fun t ht=>⟨[.F t.d,.F (.str ru),.F s.d],rfl,fB_v ((call_v (cons_v rfl (cons_v rfl (cons_v rfl nil_v)))).trans (follow_ok ru hr s t)),fun _=>rfl⟩
  exact comp_v (itL_v rfl) rfl g1 (by rw [List.length_map];exact Nat.le_trans (List.length_filter_le _ _) hA)
theorem cut_all (ru:Str) (hr:IsRule ru) (s:Sh) (cs:List (List Sh)) (hcs:∀ A∈cs,A.length≤16000000) (hl:cs.length≤16000000) (s1 s2 s4 s6:Slot) :
    compF (itL (fun env=>getF env 3)) [0] (tgN 0) (fun _=>some true) (emitF (compF (itL (fun env=>getF env 0)) [0] (tgN 0) (fB (fun env=>((fCons (fun env=>getF env 1) (fCons (fun env=>getF env 2) (fCons (fun env=>getF env 0) fNil))) env).bind m_may_follow)) (emitF (fun env=>getF env 0)) 1 [1,2])) 1 [0,5] [.F (.str ru),s1,s2,.F (.lst (chD cs)),s4,.F s.d,s6]=some (.lst (chD (cutC ru s cs))):=by
  have g1:=go_mapA (t:=tgN 0) (k:=emitF (compF (itL (fun env=>getF env 0)) [0] (tgN 0) (fB (fun env=>((fCons (fun env=>getF env 1) (fCons (fun env=>getF env 2) (fCons (fun env=>getF env 0) fNil))) env).bind m_may_follow)) (emitF (fun env=>getF env 0)) 1 [1,2])) (env:=[.un,.F (.str ru),.F s.d]) (fun A:List Sh=>D.lst (A.map Sh.d)) (fun A=>.lst ((A.filter fun t=>decide (Fol ru s t)).map Sh.d)) cs fun A hA=>⟨[.F (.lst (A.map Sh.d)),.F (.str ru),.F s.d],rfl,emit_v (cut1 ru hr s A (hcs A hA))⟩
  have e:(chD (cutC ru s cs))=cs.map fun A=>D.lst ((A.filter fun t=>decide (Fol ru s t)).map Sh.d):=by unfold chD cutC;rw [List.map_map];rfl
  rw [e]
  exact comp_v (itL_v rfl) rfl g1 (by rw [List.length_map];exact hl)
theorem ext_v {i:Nat} {f:Fe} {env:En} {ds es:List D} (h:env[i]?=some (.O (.L ds))) (hf:f env=some (.lst es)) (hl:ds.length+es.length≤16000000):extF i f env=some (.nx (env.set i (.O (.L (ds++es))))):=by
  unfold extF
  rw [h]
  show (f env).bind _=_
  rw [hf]
  show (if ds.length+es.length≤16000000 then _ else _)=_
  rw [if_pos hl]
theorem among_ok (ru:Str) (hr:IsRule ru) {M:Nat} (hM:1≤M):∀ (n:Nat) (cs:List (List Sh)),n≤100→cs≠[]→cs.length≤n→(∀ A∈cs,A.length≤M)→M ^ cs.length≤2000000→mR_hidings_among n [.str ru,.lst (chD cs)]=some (.lst ((amongN ru n cs).map hidD))
  | 0,cs,_,hne,hl,_,_=>by cases cs with | nil=>exact absurd rfl hne | cons a b=>simp at hl
  | n+1,[],_,hne,_,_,_=>absurd rfl hne
  | n+1,[A],_,_,_,hA,hb=>by
    have hA1:=hA A List.mem_cons_self
    simp only [List.length_cons,List.length_nil,Nat.zero_add,Nat.pow_one] at hb
    have g1:=go_mapA (t:=tgN 0) (k:=emitF (fTup (fCons (fun env=>getF env 0) fNil))) (env:=[.un]) Sh.d (fun s=>hidD [s]) A fun s hs=>⟨[.F s.d],rfl,rfl⟩
    have e:(amongN ru (n+1) [A]).map hidD=A.map fun s=>hidD [s]:=by show (A.map fun s=>[s]).map hidD=_;rw [List.map_map];rfl
    rw [e]
    show runF (F_hidings_among m_may_follow (mR_hidings_among n)) 7 _=_
    exact run_v ((seq_v (e:=[.F (.str ru),.F (.lst (chD [A])),.F (.lst (A.map Sh.d)),.F (.lst []),.un,.un,.un]) rfl).trans (seqR_v ((ifT_v rfl).trans (ret_v (comp_v (itL_v rfl) rfl g1 (by rw [List.length_map];omega))))))
  | n+1,A::B::r,hn,_,hl,hA,hb=>by
    have hA1:=hA A List.mem_cons_self
    have hpow:M ^ (A::B::r).length=M ^ (B::r).length*M:=by rw [List.length_cons (a:=A),Nat.pow_succ]
    have hb1:M ^ (B::r).length≤2000000:=Nat.le_trans (Nat.le_trans (Nat.le_mul_of_pos_right _ hM) (Nat.le_of_eq hpow.symm)) hb
    have hM2:M≤2000000:=Nat.le_trans (by rw [List.length_cons,Nat.pow_succ];exact Nat.le_mul_of_pos_left _ (Nat.pow_pos hM)) hb1
    have hl2:(B::r).length≤n:=by simpa using hl
    have hln:(B::r).length≤16000000:=by omega
    have loop:=loop_accA (t:=tgN 5) (body:=B_hidings_among_1 m_may_follow (mR_hidings_among n)) Sh.d (fun acc e=>∃ (s5 s6:Slot),e=[.F (.str ru),.F (.lst (chD (A::B::r))),.F (.lst (A.map Sh.d)),.F (.lst (chD (B::r))),.O (.L acc),s5,s6]) (fun s=>((amongN ru n (cutC ru s (B::r))).map fun h=>s::h).map hidD) (M ^ (B::r).length) 4000000 A [] [.F (.str ru),.F (.lst (chD (A::B::r))),.F (.lst (A.map Sh.d)),.F (.lst (chD (B::r))),.O (.L []),.un,.un] ⟨_,_,rfl⟩ (by
        have:=Nat.mul_le_mul_left (M ^ (B::r).length) hA1
        rw [List.length_nil];omega) fun s hs=>by
      have l1:=amongN_len ru hM n (cutC ru s (B::r)) (cutC_le fun L hL=>hA L (List.mem_cons_of_mem _ hL))
      rw [cutC_len] at l1
      refine ⟨by rw [List.length_map,List.length_map];exact l1,fun acc e ⟨s5,s6,he⟩ hacc=>?_⟩
      subst he
      have c1:=cut_all ru hr s (B::r) (fun L hL=>by have:=hA L (List.mem_cons_of_mem _ hL);omega) hln (.F (.lst (chD (A::B::r)))) (.F (.lst (A.map Sh.d))) (.O (.L acc)) s6
      have ih:=among_ok ru hr hM n (cutC ru s (B::r)) (by omega) (fun z=>by have:=congrArg List.length z;rw [cutC_len] at this;simp at this) (by rw [cutC_len];exact hl2) (cutC_le fun L hL=>hA L (List.mem_cons_of_mem _ hL)) (by rw [cutC_len];exact hb1)
      have g1:=go_mapA (t:=tgN 0) (k:=emitF (op2 addT (fTup (fCons (fun env=>getF env 1) fNil)) (fun env=>getF env 0))) (env:=[.un,.F s.d]) hidD (fun h=>hidD (s::h)) (amongN ru n (cutC ru s (B::r))) fun h hh=>⟨[.F (hidD h),.F s.d],rfl,emit_v (addT_v (xs:=[s.d]) (ys:=h.map Sh.d) rfl rfl (by
        rw [List.length_map]
        have:=amongN_mem_len ru n (cutC ru s (B::r)) h hh
        rw [cutC_len] at this
        simp only [List.length_cons,List.length_nil] at *
        omega))⟩
      have em:((amongN ru n (cutC ru s (B::r))).map fun h=>s::h).map hidD=(amongN ru n (cutC ru s (B::r))).map fun h=>hidD (s::h):=by rw [List.map_map];rfl
      rw [em]
      refine ⟨_,tg_v (e0:=[.F (.str ru),.F (.lst (chD (A::B::r))),.F (.lst (A.map Sh.d)),.F (.lst (chD (B::r))),.O (.L acc),.F s.d,s6]) rfl ((seq_v (set_v c1)).trans (ext_v (ds:=acc) rfl (comp_v (itL_v ((call_v (cons_v rfl (cons_v rfl nil_v))).trans ih)) rfl g1 (by rw [List.length_map];omega)) (by rw [List.length_map];omega))),_,_,rfl⟩
    obtain ⟨e2,h1,s5,s6,rfl⟩:=loop
    have e:(amongN ru (n+1) (A::B::r)).map hidD=A.flatMap fun s=>((amongN ru n (cutC ru s (B::r))).map fun h=>s::h).map hidD:=by
      show (A.flatMap fun s=>(amongN ru n (cutC ru s (B::r))).map fun h=>s::h).map hidD=_
      rw [List.map_flatMap]
    rw [e]
    show runF (F_hidings_among m_may_follow (mR_hidings_among n)) 7 _=_
    exact run_v ((seq_v (e:=[.F (.str ru),.F (.lst (chD (A::B::r))),.F (.lst (A.map Sh.d)),.F (.lst (chD (B::r))),.un,.un,.un]) rfl).trans ((seq_v ((ifE_v rfl).trans rfl)).trans ((seq_v (setO_v rfl)).trans ((seq_v ((for_v (itL_v rfl)).trans h1)).trans rfl))))
end K04
namespace K04
open PySem Mi
def lexH:List Sh→List Sh→Bool
  | [],[]=>false
  | [],_::_=>true
  | _::_,[]=>false
  | s::h,t::g=>if s.ks=t.ks then lexH h g else decide (Bef s t)
theorem bef_ne {s t:Sh} (h:Bef s t):s.ks≠t.ks:=fun e=>by
  have a:=lex_yes h
  rw [e] at a
  have b:=lex_no (s:=t) (t:=t) (fun z=>bef_asymm z z)
  rw [a] at b;cases b
theorem lexH_self:∀ h,lexH h h=false
  | []=>rfl
  | s::h=>by unfold lexH;rw [if_pos rfl];exact lexH_self h
theorem lexH_asymm:∀ {h g:List Sh},lexH h g=true→lexH g h=false
  | [],[],h=>by cases h
  | [],_::_,_=>rfl
  | _::_,[],h=>by cases h
  | s::h,t::g,e=>by
    unfold lexH at e ⊢
    by_cases k:s.ks=t.ks
    · rw [if_pos k] at e;rw [if_pos k.symm];exact lexH_asymm e
    · rw [if_neg k] at e;rw [if_neg (Ne.symm k)];exact decide_eq_false (bef_asymm (of_decide_eq_true e))
theorem among_up (ru:Str):∀ (n:Nat) (cs:List (List Sh)),(∀ A∈cs,A.Pairwise Bef)→(amongN ru n cs).Pairwise fun g h=>lexH g h=true
  | 0,cs,_=>.nil
  | n+1,[],_=>.nil
  | n+1,[A],h=>by
    show (A.map fun s=>[s]).Pairwise _
    rw [List.pairwise_map]
    exact (h A List.mem_cons_self).imp fun {s t} b=>by
      show (if s.ks=t.ks then lexH [] [] else decide (Bef s t))=true
      rw [if_neg (bef_ne b)];exact decide_eq_true b
  | n+1,A::B::r,h=>by
    show (A.flatMap fun s=>(amongN ru n (cutC ru s (B::r))).map fun h=>s::h).Pairwise _
    rw [List.pairwise_flatMap]
    refine ⟨fun s hs=>?_,(h A List.mem_cons_self).imp fun {s t} b x hx y hy=>?_⟩
    · rw [List.pairwise_map]
      have:=among_up ru n (cutC ru s (B::r)) fun L hL=>by
        obtain ⟨L',hL',rfl⟩:=List.mem_map.mp hL
        exact (h L' (List.mem_cons_of_mem _ hL')).filter _
      exact this.imp fun {g g'} e=>by
        show (if s.ks=s.ks then lexH g g' else _)=true
        rw [if_pos rfl];exact e
    · obtain ⟨g,_,rfl⟩:=List.mem_map.mp hx
      obtain ⟨g',_,rfl⟩:=List.mem_map.mp hy
      show (if s.ks=t.ks then lexH g g' else decide (Bef s t))=true
      rw [if_neg (bef_ne b)];exact decide_eq_true b
def Mt:List (List Sh)→List Sh→Prop
  | [],[]=>True
  | A::cs,s::h=>s∈A∧Mt cs h
  | _,_=>False
theorem Mt.cut (ru:Str) (s:Sh):∀ (cs:List (List Sh)) (h:List Sh),Mt (cutC ru s cs) h↔Mt cs h∧∀ t∈h,Fol ru s t
  | [],[]=>by simp [Mt,cutC]
  | [],_::_=>by simp [Mt,cutC]
  | _::_,[]=>by simp [Mt,cutC]
  | A::cs,t::h=>by
    show (t∈A.filter _∧Mt (cutC ru s cs) h)↔(t∈A∧Mt cs h)∧_
    rw [Mt.cut ru s cs h,List.mem_filter,decide_eq_true_eq]
    constructor
    · rintro ⟨⟨a,b⟩,c,d⟩
      exact ⟨⟨a,c⟩,fun u hu=>by rcases List.mem_cons.mp hu with rfl | hu;exact b;exact d u hu⟩
    · rintro ⟨⟨a,c⟩,d⟩
      exact ⟨⟨a,d t List.mem_cons_self⟩,c,fun u hu=>d u (List.mem_cons_of_mem _ hu)⟩
theorem mem_among (ru:Str):∀ (n:Nat) (cs:List (List Sh)) (h:List Sh),cs≠[]→cs.length≤n→(h∈amongN ru n cs↔Mt cs h∧h.Pairwise (Fol ru))
  | 0,cs,h,hne,hl=>by cases cs with | nil=>exact absurd rfl hne | cons a b=>simp at hl
  | n+1,[],h,hne,_=>absurd rfl hne
  | n+1,[A],h,_,_=>by
    show h∈A.map (fun s=>[s])↔_
    rw [List.mem_map]
    constructor
    · rintro ⟨s,hs,rfl⟩
      exact ⟨⟨hs,trivial⟩,List.pairwise_singleton _ _⟩
    · rintro ⟨m,_⟩
      match h,m with
      | [s],m=>exact ⟨s,m.1,rfl⟩
      | [],m=>exact m.elim
      | _::_::_,m=>exact m.2.elim
  | n+1,A::B::r,h,_,hl=>by
    show h∈A.flatMap (fun s=>(amongN ru n (cutC ru s (B::r))).map fun g=>s::g)↔_
    rw [List.mem_flatMap]
    have ih:∀ s g,g∈amongN ru n (cutC ru s (B::r))↔(Mt (B::r) g∧∀ t∈g,Fol ru s t)∧g.Pairwise (Fol ru):=fun s g=>by
      rw [mem_among ru n (cutC ru s (B::r)) g (fun z=>by have:=congrArg List.length z;rw [cutC_len] at this;simp at this) (by rw [cutC_len];simpa using hl),Mt.cut]
    constructor
    · rintro ⟨s,hs,h2⟩
      obtain ⟨g,hg,rfl⟩:=List.mem_map.mp h2
      obtain ⟨⟨a,b⟩,c⟩:=(ih s g).mp hg
      exact ⟨⟨hs,a⟩,List.pairwise_cons.mpr ⟨b,c⟩⟩
    · rintro ⟨m,pw⟩
      match h,m,pw with
      | s::g,m,pw=>
        obtain ⟨p1,p2⟩:=List.pairwise_cons.mp pw
        exact ⟨s,m.1,List.mem_map.mpr ⟨g,(ih s g).mpr ⟨⟨m.2,p1⟩,p2⟩,rfl⟩⟩
theorem mt_all (R C:Nat):∀ (fl:List Nat) (h:List Sh),Mt (fl.map (allSh R C)) h↔h.map Sh.n=fl∧∀ s∈h,s∈allSh R C s.n
  | [],[]=>by simp [Mt]
  | [],_::_=>by simp [Mt]
  | _::_,[]=>by simp [Mt]
  | l::fl,s::h=>by
    show (s∈allSh R C l∧Mt (fl.map (allSh R C)) h)↔_
    rw [mt_all R C fl h,List.map_cons,List.cons.injEq]
    simp only [List.forall_mem_cons]
    constructor
    · rintro ⟨a,c,d⟩
      have:=allSh_n a
      exact ⟨⟨this,c⟩,this▸a,d⟩
    · rintro ⟨⟨a,c⟩,a',d⟩
      exact ⟨a▸a',c,d⟩
theorem up_eq:∀ {l1 l2:List (List Sh)},l1.Pairwise (fun g h=>lexH g h=true)→l2.Pairwise (fun g h=>lexH g h=true)→(∀ x,x∈l1↔x∈l2)→l1=l2
  | [],[],_,_,_=>rfl
  | [],b::_,_,_,h=>absurd ((h b).mpr List.mem_cons_self) (by simp)
  | a::_,[],_,_,h=>absurd ((h a).mp List.mem_cons_self) (by simp)
  | a::l1,b::l2,u1,u2,h=>by
    obtain ⟨p1,q1⟩:=List.pairwise_cons.mp u1
    obtain ⟨p2,q2⟩:=List.pairwise_cons.mp u2
    have e:a=b:=by
      rcases List.mem_cons.mp ((h a).mp List.mem_cons_self) with e | m
      · exact e
      · rcases List.mem_cons.mp ((h b).mpr List.mem_cons_self) with e | m2
        · exact e.symm
        · have:=lexH_asymm (p2 a m);rw [p1 b m2] at this;cases this
    subst e
    have no:∀ {l:List (List Sh)},(∀ x∈l,lexH a x=true)→a∉l:=fun p m=>by have:=p a m;rw [lexH_self] at this;cases this
    rw [up_eq q1 q2 fun x=>⟨fun m=>by
      rcases List.mem_cons.mp ((h x).mp (List.mem_cons_of_mem _ m)) with e | m'
      · exact absurd (e▸m) (no p1)
      · exact m',fun m=>by
      rcases List.mem_cons.mp ((h x).mpr (List.mem_cons_of_mem _ m)) with e | m'
      · exact absurd (e▸m) (no p2)
      · exact m'⟩]
theorem lexH_same:∀ (h:List Sh) {s t:Sh},Bef s t→lexH (h++[s]) (h++[t])=true
  | [],s,t,b=>by show (if s.ks=t.ks then _ else _)=true;rw [if_neg (bef_ne b)];exact decide_eq_true b
  | u::h,s,t,b=>by show (if u.ks=u.ks then lexH (h++[s]) (h++[t]) else _)=true;rw [if_pos rfl];exact lexH_same h b
theorem lexH_app:∀ {h g:List Sh} (s t:Sh),h.length=g.length→lexH h g=true→lexH (h++[s]) (g++[t])=true
  | [],[],_,_,_,e=>by cases e
  | [],_::_,_,_,hl,_=>by cases hl
  | _::_,[],_,_,hl,_=>by cases hl
  | u::h,v::g,s,t,hl,e=>by
    show (if u.ks=v.ks then lexH (h++[s]) (g++[t]) else decide (Bef u v))=true
    have e:(if u.ks=v.ks then lexH h g else decide (Bef u v))=true:=e
    by_cases k:u.ks=v.ks
    · rw [if_pos k] at e ⊢;exact lexH_app s t (by simpa using hl) e
    · rw [if_neg k] at e ⊢;exact e
theorem allH_up (R C:Nat) (ru:Str) (fl:List Nat):∀ j,(allH R C ru fl j).Pairwise (fun g h=>lexH g h=true)∧∀ h∈allH R C ru fl j,h.length=j
  | 0=>⟨List.pairwise_singleton _ _,fun h hh=>by cases List.mem_singleton.mp hh;rfl⟩
  | j+1=>by
    obtain ⟨u,l⟩:=allH_up R C ru fl j
    refine ⟨List.pairwise_flatMap.mpr ⟨fun h _=>List.pairwise_map.mpr (((all_up R C (fl.getD j 0)).filter _).imp fun {s t} b=>lexH_same h b),?_⟩,fun h hh=>?_⟩
    · refine List.Pairwise.imp_of_mem (fun {g h} hg hh e x hx y hy=>?_) u
      obtain ⟨s,_,rfl⟩:=List.mem_map.mp hx
      obtain ⟨t,_,rfl⟩:=List.mem_map.mp hy
      exact lexH_app s t (by rw [l g hg,l h hh]) e
    · obtain ⟨g,hg,s,_,_,rfl⟩:=stepH_mem.mp hh
      simp [l g hg]
theorem rows_eq (R C:Nat) (ru:Str) {fl:List Nat} (hs:fl.Pairwise (·≥·)) (h0:0<fl.length) (h3:fl.length≤3):amongN ru 3 (fl.map (allSh R C))=allH R C ru fl fl.length:=by
  refine up_eq (among_up ru 3 _ fun A hA=>by obtain ⟨l,_,rfl⟩:=List.mem_map.mp hA;exact all_up R C l) (allH_up R C ru fl _).1 fun h=>?_
  rw [mem_among ru 3 _ h (fun z=>by have:=congrArg List.length z;rw [List.length_map,List.length_nil] at this;omega) (by rw [List.length_map];exact h3),mt_all,mem_allH R C ru hs _ (Nat.le_refl _),List.take_length,and_assoc]
end K04
namespace K04
open PySem Mi
def lw:D→Nat
  | .lst ds=>ds.length
  | .tup ds=>ds.length
  | _=>0
def W (n:Nat) (d:D):Prop:=dep d≤n∧pl d=true∧lw d≤100
theorem W.mono {n m:Nat} {d:D} (h:W n d) (hm:n≤m):W m d:=⟨Nat.le_trans h.1 hm,h.2⟩
theorem W.lst {n:Nat} {ds:List D} (h:∀ d∈ds,W n d) (hl:ds.length≤100):W (n+1) (.lst ds):=⟨dep_lst fun d hd=>(h d hd).1,by unfold pl;exact plsOf ds fun d hd=>(h d hd).2.1,hl⟩
theorem W.tup {n:Nat} {ds:List D} (h:∀ d∈ds,W n d) (hl:ds.length≤100):W (n+1) (.tup ds):=⟨dep_tup fun d hd=>(h d hd).1,by unfold pl;exact plsOf ds fun d hd=>(h d hd).2.1,hl⟩
theorem take_W {ds:List D} {n:Nat} (k:Nat) (h:∀ d∈ds,W n d):∀ d∈ds.take k,W n d:=fun d hd=>h d (List.mem_of_mem_take hd)
theorem drop_W {ds:List D} {n:Nat} (k:Nat) (h:∀ d∈ds,W n d):∀ d∈ds.drop k,W n d:=fun d hd=>h d (List.mem_of_mem_drop hd)
theorem p_ok (k:Nat) (hk:k≤1000):∃ z:Int,powI (.int 10) (.int (k:Int))=some (.int z):=⟨_,pow_in (big_in (by decide) (by decide)) (by omega) (by omega)⟩
theorem three {r:List Int} (h:r.length=3):∃ a b c,r=[a,b,c]:=by
  match r,h with
  | [a,b,c],_=>exact ⟨a,b,c,rfl⟩
theorem mem2 {P:D→Prop} {a b:D} (h1:P a) (h2:P b):∀ d∈[a,b],P d:=fun d hd=>by
  rcases List.mem_cons.mp hd with rfl | hd
  · exact h1
  · rw [List.mem_singleton.mp hd];exact h2
theorem mem3 {P:D→Prop} {a b c:D} (h1:P a) (h2:P b) (h3:P c):∀ d∈[a,b,c],P d:=fun d hd=>by
  rcases List.mem_cons.mp hd with rfl | hd
  · exact h1
  · exact mem2 h2 h3 d hd
theorem mem4 {P:D→Prop} {a b c e:D} (h1:P a) (h2:P b) (h3:P c) (h4:P e):∀ d∈[a,b,c,e],P d:=fun d hd=>by
  rcases List.mem_cons.mp hd with rfl | hd
  · exact h1
  · exact mem3 h2 h3 h4 d hd
def NH (d:D):Prop:=∀ (s:Sh) (r:List D),d≠.tup (s.d::r)
theorem W.ns {d:D} (h:W 0 d) (s:Sh):d≠s.d:=fun e=>by
  have:=h.1
  rw [e] at this
  unfold Sh.d dep at this
  omega
theorem W.nh {d:D} (h:W 0 d):NH d:=fun s r e=>by
  have:=h.1
  rw [e] at this
  unfold dep at this
  omega
theorem nh_tup {ds:List D} (h:∀ q∈ds,∀ s:Sh,q≠s.d):NH (.tup ds):=fun s r e=>by
  cases e
  exact h _ List.mem_cons_self s rfl
theorem nh_lst (ds:List D):NH (.lst ds):=fun s r e=>by cases e
theorem odd_ok (c:Int):∃ d,m__law_odd [.int c]=some d∧W 10 d∧NH d:=by
  obtain ⟨q,h1,h2,h3⟩:=drawn_ok c [19,40,7] (by decide) (by decide)
  obtain ⟨w,g,n,rfl⟩:=three h2
  have hw:=h3 0 w 19 rfl rfl
  have hg:=h3 1 g 40 rfl rfl
  have hn:=h3 2 n 7 rfl rfl
  clear h2 h3
  obtain ⟨n,rfl⟩:=Int.eq_ofNat_of_zero_le hn.1
  obtain ⟨z1,p1⟩:=p_ok 39 (by decide)
  obtain ⟨z2,p2⟩:=p_ok 20 (by decide)
  obtain ⟨P,hP⟩:∃ P:List D,P=[.int 0,.int (-1),.int 1,.int g,.int 8,.int 9,.bl true,.bl false,.non,.str (Str.ofString ""),.str (Str.ofString "a1"),.str (Str.ofString "water"),.str (Str.ofString "along"),.int z1,.int (0-z2)]:=⟨_,rfl⟩
  have dP:∀ d∈P,W 0 d:=by
    rw [hP]
    intro d hd
    simp only [List.mem_cons,List.not_mem_nil,or_false] at hd
    rcases hd with h | h | h | h | h | h | h | h | h | h | h | h | h | h | h<;>subst h<;>exact ⟨by simp [dep],rfl,by simp [lw]⟩
  have lP:P.length=15:=by rw [hP];rfl
  have s1:unL [1,2,3] (fun env=>((fCons (fun env=>getF env 0) (fCons (fLst (fCons (fC (.int 19)) (fCons (fC (.int 40)) (fCons (fC (.int 7)) fNil)))) fNil)) env).bind m__law_drawn) (startE 6 [.int c])=some (.nx [.F (.int c),.F (.int w),.F (.int g),.F (.int n),.un,.un]):=unL_v ((call_v rfl).trans h1) rfl
  have s2:setF 4 (fLst (fCons (fC (.int 0)) (fCons (un1 negI (fC (.int 1))) (fCons (fC (.int 1)) (fCons (fun env=>getF env 2) (fCons (fC (.int 8)) (fCons (fC (.int 9)) (fCons (fC (.bl true)) (fCons (fC (.bl false)) (fCons (fC .non) (fCons (fC (.str (Str.ofString ""))) (fCons (fC (.str (Str.ofString "a1"))) (fCons (fC (.str (Str.ofString "water"))) (fCons (fC (.str (Str.ofString "along"))) (fCons (op2 powI (fC (.int 10)) (fC (.int 39))) (fCons (op2 subI (fC (.int 0)) (op2 powI (fC (.int 10)) (fC (.int 20)))) fNil)))))))))))))))) [.F (.int c),.F (.int w),.F (.int g),.F (.int n),.un,.un]=some (.nx [.F (.int c),.F (.int w),.F (.int g),.F (.int n),.F (.lst P),.un]):=by
    rw [hP]
    exact set_v (lst_v (cons_v rfl (cons_v rfl (cons_v rfl (cons_v rfl (cons_v rfl (cons_v rfl (cons_v rfl (cons_v rfl (cons_v rfl (cons_v rfl (cons_v rfl (cons_v rfl (cons_v rfl (cons_v ((op2_v rfl rfl).trans p1) (cons_v ((op2_v rfl ((op2_v rfl rfl).trans p2)).trans (sub_v _ _)) nil_v))))))))))))))))
  have t1:fB (op2 ltI (fun env=>getF env 1) (fC (.int 15))) [.F (.int c),.F (.int w),.F (.int g),.F (.int n),.F (.lst P),.un]=some (decide (w<15)):=rfl
  have p:∀ {d:D},F__law_odd m__law_drawn (startE 6 [.int c])=some (.rt d)→m__law_odd [.int c]=some d:=fun h=>run_v h
  by_cases c1:w<15
  · rw [decide_eq_true c1] at t1
    obtain ⟨x,e1,e2⟩:=atI_in (xs:=P) hw.1 (by rw [lP];omega)
    exact ⟨x,p ((seq_v s1).trans ((seq_v s2).trans (seqR_v ((ifT_v t1).trans (ret_v (idx_v rfl rfl e1)))))),(dP x e2).mono (by decide),(dP x e2).nh⟩
  rw [decide_eq_false c1] at t1
  obtain ⟨ps,g1,g2,g3⟩:=go_all (t:=tgN 0) (c:=fun _=>some true) (k:=emitF (op2 idxD (fun env=>getF env 1) (op2 modI (op2 addI (fun env=>getF env 2) (op2 mulI (fun env=>getF env 0) (fun env=>getF env 0))) (fC (.int 15))))) (env:=[.un,.F (.lst P),.F (.int g)]) (P:=fun x=>W 0 x) (rangeL 0 n) fun d hd=>by
    obtain ⟨i,hi,rfl⟩:=mem_rng.mp hd
    obtain ⟨x,e1,e2⟩:=atI_in (xs:=P) (i:=(g+(i:Int)*i)%15) (Int.emod_nonneg _ (by decide)) (by rw [lP];exact Int.emod_lt_of_pos _ (by decide))
    exact ⟨[.F (.int i),.F (.lst P),.F (.int g)],x,rfl,rfl,emit_v (idx_v rfl ((op2_v ((op2_v rfl ((op2_v rfl rfl).trans (mul_in (by omega) (by omega) (by omega) (by omega)))).trans (add_v _ _)) rfl).trans (mod_in (by decide))) e1),dP x e2⟩
  rw [rng_len] at g2
  have s3:setF 5 (compF (itR1 (fun env=>getF env 3)) [0] (tgN 0) (fun _=>some true) (emitF (op2 idxD (fun env=>getF env 1) (op2 modI (op2 addI (fun env=>getF env 2) (op2 mulI (fun env=>getF env 0) (fun env=>getF env 0))) (fC (.int 15))))) 1 [4,2]) [.F (.int c),.F (.int w),.F (.int g),.F (.int n),.F (.lst P),.un]=some (.nx [.F (.int c),.F (.int w),.F (.int g),.F (.int n),.F (.lst P),.F (.lst ps)]):=
    set_v (comp_v (itR1_v (n:=n) rfl (by omega)) rfl g1 (by omega))
  have t2:fB (op2 gtI (fun env=>getF env 3) (fC (.int 3))) [.F (.int c),.F (.int w),.F (.int g),.F (.int n),.F (.lst P),.F (.lst ps)]=some (decide (3<(n:Int))):=rfl
  have fin:∀ qs:List D,(∀ d∈qs,W 3 d)→qs.length≤50→(∀ q∈qs,∀ s:Sh,q≠s.d)→∃ d,retF (op2 idxD (fLst (fCons (un1 tupleD (fun env=>getF env 5)) (fCons (fun env=>getF env 5) (fCons (fTup (fCons (fun env=>getF env 5) (fCons (un1 tupleD (fun env=>getF env 5)) fNil))) (fCons (un1 tupleD (slF cutLst (fun env=>getF env 5) oNone (oSome (fC (.int 2))))) fNil))))) (op2 subI (fun env=>getF env 1) (fC (.int 15)))) [.F (.int c),.F (.int w),.F (.int g),.F (.int n),.F (.lst P),.F (.lst qs)]=some (.rt d)∧W 10 d∧NH d:=fun qs hq hql hqs=>by
    obtain ⟨x,e1,e2⟩:=atI_in (xs:=[D.tup qs,.lst qs,.tup [.lst qs,.tup qs],.tup (qs.take 2)]) (i:=w-15) (by omega) (by simp;omega)
    have b1:=W.tup hq (by omega)
    have b2:=W.lst hq (by omega)
    refine ⟨x,ret_v (idx_v (lst_v (cons_v (tupleL_v rfl) (cons_v rfl (cons_v (tup_v (cons_v rfl (cons_v (tupleL_v rfl) nil_v))) (cons_v (tupleL_v (cutL_v 2 rfl)) nil_v))))) rfl e1),?_⟩
    refine ⟨?_,mem4 (P:=NH) (nh_tup hqs) (nh_lst _) (fun s r e=>by unfold Sh.d at e;cases e) (nh_tup fun q hq=>hqs q (List.mem_of_mem_take hq)) x e2⟩
    exact mem4 (P:=fun d=>W 10 d) (b1.mono (by omega)) (b2.mono (by omega)) ((W.tup (n:=4) (mem2 (P:=fun d=>W 4 d) b2 b1) (by simp)).mono (by decide)) ((W.tup (take_W 2 hq) (by simp;omega)).mono (by decide)) x e2
  by_cases c2:3<(n:Int)
  · rw [decide_eq_true c2] at t2
    obtain ⟨y,e1,e2⟩:=atI_in (xs:=ps) (i:=0) (by decide) (by omega)
    obtain ⟨d,h4,h5⟩:=fin [.tup (ps.take 2),.lst (ps.drop 2),y] (mem3 (P:=fun d=>W 3 d) ((W.tup (take_W 2 g3) (by simp;omega)).mono (by decide)) ((W.lst (drop_W 2 g3) (by simp;omega)).mono (by decide)) ((g3 y e2).mono (by decide))) (by simp) (mem3 (P:=fun q=>∀ s:Sh,q≠s.d) (fun s e=>by
      have:=D.tup.inj e
      have:=congrArg List.length this
      rw [List.length_take] at this
      simp at this;omega) (fun s e=>by unfold Sh.d at e;cases e) (g3 y e2).ns)
    refine ⟨d,p ((seq_v s1).trans ((seq_v s2).trans ((seq_v ((ifE_v t1).trans rfl)).trans ((seq_v s3).trans ((seq_v ((ifT_v t2).trans (set_v (lst_v (cons_v (tupleL_v (cutL_v 2 rfl)) (cons_v (listL_v (fromL_v 2 rfl)) (cons_v (idx_v rfl rfl e1) nil_v))))))).trans h4))))),h5⟩
  · rw [decide_eq_false c2] at t2
    obtain ⟨d,h4,h5⟩:=fin ps (fun d hd=>(g3 d hd).mono (by decide)) (by omega) (fun q hq=>(g3 q hq).ns)
    exact ⟨d,p ((seq_v s1).trans ((seq_v s2).trans ((seq_v ((ifE_v t1).trans rfl)).trans ((seq_v s3).trans ((seq_v ((ifE_v t2).trans rfl)).trans h4))))),h5⟩
end K04
namespace K04
open PySem Mi
section
variable {f g:FsX} {fe:FeX} {fs:Fes} {t:Fb} {env e:En} {d:D} {ds:List D} {c:Str} {i j n:Nat} {cs:List Str} {m:List D→Option Rs} {r:Option Rs}
theorem seqX_v (h:f env=some (.nx e)):seqX f g env=g e:=by unfold seqX;rw [h];rfl
theorem seqX_x (h:f env=some (.ex c d e)):seqX f g env=some (.ex c d e):=by unfold seqX;rw [h];rfl
theorem upF_v {q:Fs} {o:Out} (h:q env=some o):upF q env=some o.up:=by unfold upF;rw [h];rfl
theorem ifXT_v (h:t env=some true):ifX t f g env=f env:=by unfold ifX;rw [h];rfl
theorem ifXE_v (h:t env=some false):ifX t f g env=g env:=by unfold ifX;rw [h];rfl
theorem try_n (h:f env=some (.nx e)):tryX cs i j f env=some (.nx e):=by unfold tryX;rw [h];rfl
theorem try_x (h:f env=some (.ex c d e)) (hc:c∈cs):tryX cs i j f env=some (.nx ((e.set j (.F (flagsD c))).set i .un)):=by
  unfold tryX;rw [h];show (if c∈cs then _ else _)=_;rw [if_pos hc]
theorem tryO_n (h:f env=some (.nx e)):tryXO cs i j f env=some (.nx e):=by unfold tryXO;rw [h];rfl
theorem tryO_x (h:f env=some (.ex c d e)) (hc:c∈cs):tryXO cs i j f env=some (.nx ((e.set j (.O (.L ((flagsB c).map .bl)))).set i .un)):=by
  unfold tryXO;rw [h];show (if c∈cs then _ else _)=_;rw [if_pos hc]
theorem runX0_v (h:f (startE n ds)=some (.rt d)):runX0 f n ds=some d:=by unfold runX0;rw [h];rfl
theorem runX_v (h:f (startE n ds)=some (.rt d)):runX f n ds=some (.ok d):=by unfold runX;rw [h];rfl
theorem runX_x (h:f (startE n ds)=some (.ex c d e)):runX f n ds=some (.error (c,d)):=by unfold runX;rw [h];rfl
theorem runXr_v (h:f (startE n ds)=some (.rt d)):runXr f n ds=some (.ok d):=by unfold runXr;rw [h];rfl
theorem runXr_x (h:f (startE n ds)=some (.ex c d e)):runXr f n ds=some (.error (c,d)):=by unfold runXr;rw [h];rfl
theorem setX_v (h:fe env=some (.ok d)):setX i fe env=some (.nx (env.set i (.F d))):=by unfold setX;rw [h];rfl
theorem setX_x (h:fe env=some (.error (c,d))):setX i fe env=some (.ex c d env):=by unfold setX;rw [h];rfl
theorem setXO_v (h:fe env=some (.ok (.lst ds))):setXO i fe env=some (.nx (env.set i (.O (.L ds)))):=by unfold setXO;rw [h];rfl
theorem setXO_x (h:fe env=some (.error (c,d))):setXO i fe env=some (.ex c d env):=by unfold setXO;rw [h];rfl
theorem retX_v (h:fe env=some (.ok d)):retX fe env=some (.rt d):=by unfold retX;rw [h];rfl
theorem retX_x (h:fe env=some (.error (c,d))):retX fe env=some (.ex c d env):=by unfold retX;rw [h];rfl
theorem callX_v (h:fs env=some ds) (h2:m ds=r):callX (okL fs) m env=r:=by unfold callX okL;rw [h];exact h2
theorem callM_v {q:Fe} (h:q env=some d) (h2:m [d]=r):callM q m env=r:=by unfold callM;rw [h];exact h2
end
section
variable {R C:Nat} {fl:List Nat} {ru:Str}
theorem PL.rows (h:PL R C fl ru):m_all_hidings [.tup [.int R,.int C],flD fl,.str ru]=some (.lst ((allH R C ru fl fl.length).map hidD)):=by
  have g1:=go_mapA (t:=tgN 0) (k:=emitF (fun env=>((fCons (fun env=>getF env 1) (fCons (fun env=>getF env 0) fNil)) env).bind m_ships_of)) (env:=[.un,.F (.tup [.int R,.int C])]) (fun (n:Nat)=>D.int n) (fun n=>.lst ((allSh R C n).map Sh.d)) fl fun n hn=>⟨[.F (.int n),.F (.tup [.int R,.int C])],rfl,emit_v ((call_v (cons_v rfl (cons_v rfl nil_v))).trans (shipsof_ok R C (by have:=h.r4;omega) (by have:=h.c5;omega) n (h.sz n hn).1))⟩
  have e:(fl.map fun n=>D.lst ((allSh R C n).map Sh.d))=chD (fl.map (allSh R C)):=by unfold chD;rw [List.map_map];rfl
  rw [e] at g1
  have hl:=h.l3
  have h0:=h.l0
  have m1:=among_ok ru h.ru (M:=40) (by decide) 3 (fl.map (allSh R C)) (by decide) (fun z=>by have:=congrArg List.length z;rw [List.length_map,List.length_nil] at this;omega) (by rw [List.length_map];exact hl) (fun A hA=>by obtain ⟨l,_,rfl⟩:=List.mem_map.mp hA;exact allSh_le R C h.r4 h.c5 l) (by rw [List.length_map];exact Nat.le_trans (pow40 hl) (by decide))
  rw [rows_eq R C ru h.up h0 hl] at m1
  exact run_v (ret_v ((call_v (cons_v rfl (cons_v (comp_v (itT_v rfl) rfl g1 (by unfold chD;rw [List.length_map,List.length_map];omega)) nil_v))).trans m1))
theorem PL.many (h:PL R C fl ru):m_how_many [.tup [.int R,.int C],flD fl,.str ru]=some (.int (allH R C ru fl fl.length).length):=
  run_v (ret_v ((len_v ((call_v (cons_v rfl (cons_v rfl (cons_v rfl nil_v)))).trans h.rows)).trans (by rw [List.length_map])))
theorem toomany_ok (rs:List D):m_if_not_too_many [.lst rs]=some (if 1000<rs.length then .error (Str.ofString "TooMany",.non) else .ok (.lst rs)):=by
  have ht:fB (op2 gtI (un1 lenD (fun env=>getP env 0)) (fC c_MOST_TOLD)) [.O (.L rs)]=some (decide ((1000:Int)<(rs.length:Int))):=rfl
  show ((seqX (ifX (fB (op2 gtI (un1 lenD (fun env=>getP env 0)) (fC c_MOST_TOLD))) (raiseX (Str.ofString "TooMany") (fCons (fC (.str (Str.ofString "there are more hidings than are told at once"))) fNil)) (upF nxF)) (upF (retO 0)) [.O (.L rs)]).bind _)=_
  by_cases h:1000<rs.length
  · rw [if_pos h,seqX_x ((ifXT_v (ht.trans (congrArg some (decide_eq_true (by omega))))).trans rfl)];rfl
  · rw [if_neg h,seqX_v ((ifXE_v (ht.trans (congrArg some (decide_eq_false (by omega))))).trans rfl)];rfl
theorem PL.hids (h:PL R C fl ru):m_hidings [.tup [.int R,.int C],flD fl,.str ru]=some (if 1000<(allH R C ru fl fl.length).length then .error (Str.ofString "TooMany",.non) else .ok (.lst ((allH R C ru fl fl.length).map hidD))):=by
  have e:=toomany_ok ((allH R C ru fl fl.length).map hidD)
  rw [List.length_map] at e
  have a:=callM_v (env:=startE 3 [.tup [.int R,.int C],flD fl,.str ru]) (q:=fun env=>((fCons (fun env=>getF env 0) (fCons (fun env=>getF env 1) (fCons (fun env=>getF env 2) fNil))) env).bind m_all_hidings) ((call_v (cons_v rfl (cons_v rfl (cons_v rfl nil_v)))).trans h.rows) e
  by_cases z:1000<(allH R C ru fl fl.length).length
  · rw [if_pos z] at a ⊢;exact runXr_x (retX_x a)
  · rw [if_neg z] at a ⊢;exact runXr_v (retX_v a)
theorem one_in (rs:List D) (k:Nat) (d:D) (h:rs[k]?=some d):m_one_at [.lst rs,.int k]=some (.ok d):=by
  obtain ⟨hk,_⟩:=List.getElem?_eq_some_iff.mp h
  have t1:orB (notB (fB (fun env=>((fCons (fun env=>getF env 1) fNil) env).bind m_is_whole))) (notB (fB (chF leI ltI (fC (.int 0)) (fun env=>getF env 1) (un1 lenD (fun env=>getF env 0))))) [.F (.lst rs),.F (.int k)]=some false:=by
    refine orB_v (p:=false) (q:=false) ?_ fun _=>?_
    · exact not_v (b:=true) (fB_v ((call_v (cons_v rfl nil_v)).trans rfl))
    · exact not_v (b:=true) (fB_v ((ch_v (x:=.int 0) (y:=.int k) (w:=.int rs.length) rfl rfl rfl (leT_v (by omega)) (ltT_v (by omega)))))
  exact runX_v ((seqX_v ((ifXE_v t1).trans rfl)).trans (upF_v (ret_v (idx_v rfl rfl (atI_nat h)))))
theorem one_out (rs:List D) (k:Int) (h:k<0∨rs.length≤k):m_one_at [.lst rs,.int k]=some (.error (Str.ofString "NoNumber",.non)):=by
  have t2:fB (chF leI ltI (fC (.int 0)) (fun env=>getF env 1) (un1 lenD (fun env=>getF env 0))) [.F (.lst rs),.F (.int k)]=some false:=by
    by_cases h0:0≤k
    · exact fB_v (ch_v (x:=.int 0) (y:=.int k) (w:=.int rs.length) rfl rfl rfl (leT_v h0) (ltE_v (by omega)))
    · exact fB_v (ch_v (x:=.int 0) (y:=.int k) (w:=.int rs.length) rfl rfl rfl (leE_v (by omega)) (ltT_v (by omega)))
  have t1:orB (notB (fB (fun env=>((fCons (fun env=>getF env 1) fNil) env).bind m_is_whole))) (notB (fB (chF leI ltI (fC (.int 0)) (fun env=>getF env 1) (un1 lenD (fun env=>getF env 0))))) [.F (.lst rs),.F (.int k)]=some true:=by
    refine orB_v (p:=false) (q:=true) ?_ fun _=>not_v t2
    exact not_v (b:=true) (fB_v ((call_v (cons_v rfl nil_v)).trans rfl))
  exact runX_x ((seqX_x ((ifXT_v t1).trans rfl)))
theorem PL.at (h:PL R C fl ru) (k:Nat) (g:List Sh) (hk:(allH R C ru fl fl.length)[k]?=some g):m_hiding_at [.tup [.int R,.int C],flD fl,.str ru,.int k]=some (.ok (hidD g)):=
  runX_v (retX_v (callX_v (cons_v ((call_v (cons_v rfl (cons_v rfl (cons_v rfl nil_v)))).trans h.rows) (cons_v rfl nil_v)) (one_in _ k _ (by rw [List.getElem?_map,hk];rfl))))
theorem PL.at_no (h:PL R C fl ru) (k:Int) (hk:k<0∨(allH R C ru fl fl.length).length≤k):m_hiding_at [.tup [.int R,.int C],flD fl,.str ru,.int k]=some (.error (Str.ofString "NoNumber",.non)):=
  runX_x (retX_x (callX_v (cons_v ((call_v (cons_v rfl (cons_v rfl (cons_v rfl nil_v)))).trans h.rows) (cons_v rfl nil_v)) (one_out _ k (by rw [List.length_map];exact hk))))
theorem ks_inj {s t:Sh} (h:s.ks=t.ks):s=t:=by
  by_cases h1:Bef s t
  · exact absurd h (bef_ne h1)
  · by_cases h2:Bef t s
    · exact absurd h.symm (bef_ne h2)
    · exact bef_total h1 h2
theorem eqDs_sh:∀ (g h:List Sh),eqDs (g.map Sh.d) (h.map Sh.d)=true→g=h
  | [],[],_=>rfl
  | [],_::_,e=>by cases e
  | _::_,[],e=>by cases e
  | s::g,t::h,e=>by
    rw [List.map_cons,List.map_cons] at e
    unfold eqDs at e
    rw [Bool.and_eq_true] at e
    have e1:eqDs [.int s.a,.int s.b,.str s.w,.int s.n] [.int t.a,.int t.b,.str t.w,.int t.n]=true:=by
      have:=e.1;unfold Sh.d eqD at this;exact this
    rw [unKey_eq (ks:=s.ks) (js:=t.ks) rfl rfl,decide_eq_true_eq] at e1
    rw [ks_inj e1,eqDs_sh g h e.2]
theorem eqD_hid {g h:List Sh} (e:eqD (hidD g) (hidD h)=true):g=h:=by
  unfold hidD eqD at e;exact eqDs_sh g h e
theorem PL.is (h:PL R C fl ru) (d:D) (hd:dep d≤50) (hp:pl d=true):∃ b,m_is_hiding [.tup [.int R,.int C],flD fl,.str ru,d]=some (.bl b)∧(b=true↔∃ x∈allH R C ru fl fl.length,d=hidD x):=
  hid_ok R C ru h.ru fl h.l3 (fun n hn=>by have:=h.sz n hn;omega) h.up d hd hp
theorem PL.num (h:PL R C fl ru) (k:Nat) (g:List Sh) (hk:(allH R C ru fl fl.length)[k]?=some g):m_number_of [.tup [.int R,.int C],flD fl,.str ru,hidD g]=some (.ok (.int k)):=by
  obtain ⟨rows,hr⟩:∃ rows,rows=allH R C ru fl fl.length:=⟨_,rfl⟩
  have hrw:=h.rows
  have nd:=allH_nodup R C ru fl fl.length
  have hd:=dep_hid g
  have hp:=pl_hid g
  obtain ⟨b,b1,b2⟩:=h.is (hidD g) (by omega) hp
  rw [← hr] at hrw nd hk b2
  have hm:g∈rows:=List.mem_of_getElem? hk
  have hb:b=true:=b2.mpr ⟨g,hm,rfl⟩
  subst hb
  have t1:notB (fB (fun env=>((fCons (fun env=>getF env 0) (fCons (fun env=>getF env 1) (fCons (fun env=>getF env 2) (fCons (fun env=>getF env 3) fNil)))) env).bind m_is_hiding)) [.F (.tup [.int R,.int C]),.F (flD fl),.F (.str ru),.F (hidD g)]=some false:=not_v (b:=true) (fB_v ((call_v (cons_v rfl (cons_v rfl (cons_v rfl (cons_v rfl nil_v))))).trans b1))
  obtain ⟨hkl,hkg⟩:=List.getElem?_eq_some_iff.mp hk
  have hin:inD (hidD g) (rows.map hidD)=true:=by
    unfold inD
    rw [List.any_eq_true]
    exact ⟨hidD g,List.mem_map_of_mem hm,eqD_refl _ hp⟩
  have hfi:(rows.map hidD).findIdx (fun e=>eqD e (hidD g))=k:=by
    refine (List.findIdx_eq (by rw [List.length_map];exact hkl)).mpr ⟨?_,fun j hj=>?_⟩
    · rw [List.getElem_map,hkg];exact eqD_refl _ hp
    · rw [List.getElem_map]
      refine Bool.eq_false_iff.mpr fun e=>?_
      have hjl:j<rows.length:=by omega
      have e:=eqD_hid e
      exact (List.pairwise_iff_getElem.mp nd j k hjl hkl hj) (e.trans hkg.symm)
  have i1:idxF (.lst (rows.map hidD)) (hidD g)=some (.int k):=by
    show (if dep (hidD g)≤60∧(pl (hidD g)&&pls (rows.map hidD))=true∧inD (hidD g) (rows.map hidD)=true then _ else none)=_
    rw [if_pos ⟨by omega,by rw [hp,pls_hids];rfl,hin⟩,hfi]
  exact runX_v ((seqX_v ((ifXE_v t1).trans rfl)).trans (upF_v (ret_v ((op2_v ((call_v (cons_v rfl (cons_v rfl (cons_v rfl nil_v)))).trans hrw) rfl).trans i1))))
theorem PL.num_no (h:PL R C fl ru) (d:D) (hd:dep d≤50) (hp:pl d=true) (hn:∀ x∈allH R C ru fl fl.length,d≠hidD x):m_number_of [.tup [.int R,.int C],flD fl,.str ru,d]=some (.error (Str.ofString "NoHiding",.non)):=by
  obtain ⟨b,b1,b2⟩:=h.is d hd hp
  have hb:b=false:=by
    cases b with
    | false=>rfl
    | true=>obtain ⟨x,hx,e⟩:=b2.mp rfl;exact absurd e (hn x hx)
  subst hb
  have t1:notB (fB (fun env=>((fCons (fun env=>getF env 0) (fCons (fun env=>getF env 1) (fCons (fun env=>getF env 2) (fCons (fun env=>getF env 3) fNil)))) env).bind m_is_hiding)) [.F (.tup [.int R,.int C]),.F (flD fl),.F (.str ru),.F d]=some true:=not_v (b:=false) (fB_v ((call_v (cons_v rfl (cons_v rfl (cons_v rfl (cons_v rfl nil_v))))).trans b1))
  exact runX_x (seqX_x ((ifXT_v t1).trans rfl))
abbrev gD (R C:Nat) (fl:List Nat) (ru:Str):D:=.tup [.tup [.int R,.int C],flD fl,.str ru]
theorem PL.told0 (h:PL R C fl ru):m__law_told0 [.int 0,gD R C fl ru,.non]=some (if 1000<(allH R C ru fl fl.length).length then flagsD (Str.ofString "TooMany") else .lst ((allH R C ru fl fl.length).map hidD)):=by
  have a:=callX_v (fs:=fCons (fun env=>getF env 3) (fCons (fun env=>getF env 4) (fCons (fun env=>getF env 5) fNil))) (env:=[.F (.int 0),.F (gD R C fl ru),.F .non,.F (.tup [.int R,.int C]),.F (flD fl),.F (.str ru),.F .non,.un]) rfl h.hids
  by_cases z:1000<(allH R C ru fl fl.length).length
  · rw [if_pos z] at a ⊢
    exact runX0_v ((seqX_v (upF_v (unF_v (ds:=[.tup [.int R,.int C],flD fl,.str ru]) rfl rfl))).trans ((seqX_v (upF_v (set_v rfl))).trans ((seqX_v (tryO_x ((ifXT_v rfl).trans (setXO_x a)) (by unfold cs_;exact List.mem_cons_self))).trans rfl)))
  · rw [if_neg z] at a ⊢
    exact runX0_v ((seqX_v (upF_v (unF_v (ds:=[.tup [.int R,.int C],flD fl,.str ru]) rfl rfl))).trans ((seqX_v (upF_v (set_v rfl))).trans ((seqX_v (tryO_n ((ifXT_v rfl).trans (setXO_v a)))).trans rfl)))
theorem told1 {d:D} {q:D} (h:m_hiding_at [.tup [.int R,.int C],flD fl,.str ru,q]=some (.ok d)):m__law_told [.int 1,gD R C fl ru,q]=some d:=by
  have a:=callX_v (fs:=fCons (fun env=>getF env 3) (fCons (fun env=>getF env 4) (fCons (fun env=>getF env 5) (fCons (fun env=>getF env 2) fNil)))) (env:=[.F (.int 1),.F (gD R C fl ru),.F q,.F (.tup [.int R,.int C]),.F (flD fl),.F (.str ru),.F .non,.un]) rfl h
  exact runX0_v ((seqX_v (upF_v (unF_v (ds:=[.tup [.int R,.int C],flD fl,.str ru]) rfl rfl))).trans ((seqX_v (upF_v (set_v rfl))).trans ((seqX_v (try_n ((ifXE_v rfl).trans ((ifXT_v rfl).trans (setX_v a))))).trans rfl)))
theorem told1x {c:Str} {d q:D} (hc:c∈cs_) (h:m_hiding_at [.tup [.int R,.int C],flD fl,.str ru,q]=some (.error (c,d))):m__law_told [.int 1,gD R C fl ru,q]=some (flagsD c):=by
  have a:=callX_v (fs:=fCons (fun env=>getF env 3) (fCons (fun env=>getF env 4) (fCons (fun env=>getF env 5) (fCons (fun env=>getF env 2) fNil)))) (env:=[.F (.int 1),.F (gD R C fl ru),.F q,.F (.tup [.int R,.int C]),.F (flD fl),.F (.str ru),.F .non,.un]) rfl h
  exact runX0_v ((seqX_v (upF_v (unF_v (ds:=[.tup [.int R,.int C],flD fl,.str ru]) rfl rfl))).trans ((seqX_v (upF_v (set_v rfl))).trans ((seqX_v (try_x ((ifXE_v rfl).trans ((ifXT_v rfl).trans (setX_x a))) hc)).trans rfl)))
theorem told2 {d:D} {q:D} (h:m_number_of [.tup [.int R,.int C],flD fl,.str ru,q]=some (.ok d)):m__law_told [.int 2,gD R C fl ru,q]=some d:=by
  have a:=callX_v (fs:=fCons (fun env=>getF env 3) (fCons (fun env=>getF env 4) (fCons (fun env=>getF env 5) (fCons (fun env=>getF env 2) fNil)))) (env:=[.F (.int 2),.F (gD R C fl ru),.F q,.F (.tup [.int R,.int C]),.F (flD fl),.F (.str ru),.F .non,.un]) rfl h
  exact runX0_v ((seqX_v (upF_v (unF_v (ds:=[.tup [.int R,.int C],flD fl,.str ru]) rfl rfl))).trans ((seqX_v (upF_v (set_v rfl))).trans ((seqX_v (try_n ((ifXE_v rfl).trans ((ifXE_v rfl).trans (setX_v a))))).trans rfl)))
theorem told2x {c:Str} {d q:D} (hc:c∈cs_) (h:m_number_of [.tup [.int R,.int C],flD fl,.str ru,q]=some (.error (c,d))):m__law_told [.int 2,gD R C fl ru,q]=some (flagsD c):=by
  have a:=callX_v (fs:=fCons (fun env=>getF env 3) (fCons (fun env=>getF env 4) (fCons (fun env=>getF env 5) (fCons (fun env=>getF env 2) fNil)))) (env:=[.F (.int 2),.F (gD R C fl ru),.F q,.F (.tup [.int R,.int C]),.F (flD fl),.F (.str ru),.F .non,.un]) rfl h
  exact runX0_v ((seqX_v (upF_v (unF_v (ds:=[.tup [.int R,.int C],flD fl,.str ru]) rfl rfl))).trans ((seqX_v (upF_v (set_v rfl))).trans ((seqX_v (try_x ((ifXE_v rfl).trans ((ifXE_v rfl).trans (setX_x a))) hc)).trans rfl)))
theorem only_m:m__law_only [.str (Str.ofString "many")]=some (flagsD (Str.ofString "TooMany")):=by rfl
theorem only_n:m__law_only [.str (Str.ofString "number")]=some (flagsD (Str.ofString "NoNumber")):=by rfl
theorem only_h:m__law_only [.str (Str.ofString "hiding")]=some (flagsD (Str.ofString "NoHiding")):=by rfl
end
end K04
namespace K04
open PySem Mi
abbrev eM (s0:Slot) (c:Int) (G:D) (rows:List D) (s4 s5 s6 s7 s8 s9 s10:Slot):En:=[s0,.F (.int c),.F G,.F (.lst rows),s4,s5,s6,s7,s8,s9,s10]
theorem ne_same {f g:Fe} {env:En} {d:D} (h1:f env=some d) (h2:g env=some d) (hp:pl d=true) (hd:dep d≤60):op2 neF f g env=some (.bl false):=
  ne_d (b:=true) h1 h2 (ok_l hd (by rw [hp];rfl)) (eqD_refl _ hp)
theorem pl_flags (c:Str):pl (flagsD c)=true:=by unfold flagsD pl;exact plsOf _ fun x hx=>by obtain ⟨b,_,rfl⟩:=List.mem_map.mp hx;rfl
theorem dep_flags (c:Str):dep (flagsD c)≤60:=Nat.le_trans (dep_lst (n:=0) fun x hx=>by obtain ⟨b,_,rfl⟩:=List.mem_map.mp hx;simp [dep]) (by decide)
theorem pl_rows (rs:List (List Sh)):pl (.lst (rs.map hidD))=true:=by unfold pl;exact pls_hids rs
theorem dep_rows (rs:List (List Sh)):dep (.lst (rs.map hidD))≤3:=dep_lst (n:=2) fun x hx=>by obtain ⟨g,_,rfl⟩:=List.mem_map.mp hx;exact dep_hid g
theorem turn_ok (s0:Slot) (c:Int) (G:D) (rows us:List D) (s4 s6 s7 s8 s9 s10:Slot) (h:m__law_told0 [.int 0,G,.non]=some (.lst us)) (hp:pl (.lst us)=true) (hd:dep (.lst us)≤60) (hl:us.length<16000000) :
    B_law_1 m__law_told0 (eM s0 c G rows s4 (.F (.lst us)) s6 s7 s8 s9 s10)=some (.nx (eM s0 c G rows (.O (.L (us++[.non]))) (.F (.lst us)) s6 s7 s8 s9 s10)):=by
  have t1:orB (notB (fB (un1 (isiF .list) (fun env=>getP env 4)))) (fB (op2 neF (fun env=>getP env 4) (fun env=>getF env 5))) (eM s0 c G rows (.O (.L us)) (.F (.lst us)) s6 s7 s8 s9 s10)=some false:=
    orB_v (p:=false) (q:=false) (not_v (b:=true) (fB_v rfl)) fun _=>fB_v (ne_same rfl rfl hp hd)
  exact (seq_v (setO_v ((call_v (cons_v rfl (cons_v rfl (cons_v rfl nil_v)))).trans h))).trans ((seq_v ((ifE_v t1).trans rfl)).trans (app_v rfl rfl hl))
theorem num_ok (s0:Slot) (c:Int) (G:D) (rows:List D) (s4 s5 s6 s7 s9 s10:Slot) (k:Int) (h:m__law_told [.int 1,G,.int k]=some (flagsD (Str.ofString "NoNumber"))) :
    B_law_2 m__law_told m__law_only (eM s0 c G rows s4 s5 s6 s7 (.F (.int k)) s9 s10)=some (.nx (eM s0 c G rows s4 s5 s6 s7 (.F (.int k)) s9 s10)):=
  (ifE_v (fB_v (ne_same ((call_v (cons_v rfl (cons_v rfl (cons_v rfl nil_v)))).trans h) ((call_v (cons_v rfl nil_v)).trans only_n) (pl_flags _) (dep_flags _)))).trans rfl
theorem thing_ok (s0:Slot) (c:Int) (G:D) (rows:List D) (s4 s5 s6 s7 s8 s9:Slot) (d:D) (h:m__law_told [.int 2,G,d]=some (flagsD (Str.ofString "NoHiding"))) :
    B_law_4 m__law_told m__law_only (eM s0 c G rows s4 s5 s6 s7 s8 s9 (.F d))=some (.nx (eM s0 c G rows s4 s5 s6 s7 s8 s9 (.F d))):=
  (ifE_v (fB_v (ne_same ((call_v (cons_v rfl (cons_v rfl (cons_v rfl nil_v)))).trans h) ((call_v (cons_v rfl nil_v)).trans only_h) (pl_flags _) (dep_flags _)))).trans rfl
section
variable {R C:Nat} {fl:List Nat} {ru:Str}
theorem at_ok (hp:PL R C fl ru) (rows:List (List Sh)) (hr:rows=allH R C ru fl fl.length) (hne:rows≠[]) (s0:Slot) (c:Int) (s4 s5 s6 s7 s8 s10:Slot) (i:Nat) (hi:i<8) :
    ∃ t8,B_law_3 m__law_stir m__law_told (eM s0 c (gD R C fl ru) (rows.map hidD) s4 s5 s6 s7 s8 (.F (.int i)) s10)=some (.nx (eM s0 c (gD R C fl ru) (rows.map hidD) s4 s5 s6 s7 t8 (.F (.int i)) s10)):=by
  obtain ⟨z,hz⟩:=stir_ok c (310+i) (by omega) (by omega)
  have hl:0<rows.length:=List.length_pos_iff.mpr hne
  have len1:un1 lenD (fun env=>getF env 3) (eM s0 c (gD R C fl ru) (rows.map hidD) s4 s5 s6 s7 s8 (.F (.int i)) s10)=some (.int rows.length):=(len_v rfl).trans (by rw [List.length_map])
  have m1:op2 modI (fun env=>((fCons (fun env=>getF env 1) (fCons (op2 addI (fC (.int 310)) (fun env=>getF env 9)) fNil)) env).bind m__law_stir) (un1 lenD (fun env=>getF env 3)) (eM s0 c (gD R C fl ru) (rows.map hidD) s4 s5 s6 s7 s8 (.F (.int i)) s10)=some (.int (z%(rows.length:Int))):=
    (op2_v ((call_v (cons_v rfl (cons_v rfl nil_v))).trans hz) len1).trans (mod_in (by omega))
  have l1:fLst (fCons (fC (.int 0)) (fCons (op2 subI (un1 lenD (fun env=>getF env 3)) (fC (.int 1))) (fCons (op2 modI (fun env=>((fCons (fun env=>getF env 1) (fCons (op2 addI (fC (.int 310)) (fun env=>getF env 9)) fNil)) env).bind m__law_stir) (un1 lenD (fun env=>getF env 3))) fNil))) (eM s0 c (gD R C fl ru) (rows.map hidD) s4 s5 s6 s7 s8 (.F (.int i)) s10)=some (.lst ([0,(rows.length:Int)-1,z%(rows.length:Int)].map .int)):=
    lst_v (cons_v rfl (cons_v ((op2_v len1 rfl).trans rfl) (cons_v m1 nil_v)))
  obtain ⟨j,hj,hjx⟩:∃ j:Nat,j<rows.length∧op2 idxD (fLst (fCons (fC (.int 0)) (fCons (op2 subI (un1 lenD (fun env=>getF env 3)) (fC (.int 1))) (fCons (op2 modI (fun env=>((fCons (fun env=>getF env 1) (fCons (op2 addI (fC (.int 310)) (fun env=>getF env 9)) fNil)) env).bind m__law_stir) (un1 lenD (fun env=>getF env 3))) fNil)))) (op2 minI (fun env=>getF env 9) (fC (.int 2))) (eM s0 c (gD R C fl ru) (rows.map hidD) s4 s5 s6 s7 s8 (.F (.int i)) s10)=some (.int j):=by
    have e1:=Int.emod_nonneg z (show (rows.length:Int)≠0 by omega)
    have e2:=Int.emod_lt_of_pos z (show (0:Int)<rows.length by omega)
    have hm:op2 minI (fun env=>getF env 9) (fC (.int 2)) (eM s0 c (gD R C fl ru) (rows.map hidD) s4 s5 s6 s7 s8 (.F (.int i)) s10)=some (.int (if (2:Int)<i then 2 else i)):=rfl
    by_cases h2:(2:Int)<i
    · rw [if_pos h2] at hm
      exact ⟨(z%(rows.length:Int)).toNat,by omega,(idx_v (i:=2) l1 hm rfl).trans (by rw [Int.toNat_of_nonneg e1])⟩
    · rw [if_neg h2] at hm
      have:i=0∨i=1∨i=2:=by omega
      rcases this with rfl | rfl | rfl
      · exact ⟨0,hl,(idx_v (i:=0) l1 hm rfl)⟩
      · exact ⟨rows.length-1,by omega,(idx_v (i:=1) l1 hm rfl).trans (by rw [show (((rows.length-1:Nat)):Int)=(rows.length:Int)-1 by omega])⟩
      · exact ⟨(z%(rows.length:Int)).toNat,by omega,(idx_v (i:=2) l1 hm rfl).trans (by rw [Int.toNat_of_nonneg e1])⟩
  obtain ⟨g,hg⟩:∃ g,rows[j]?=some g:=⟨_,List.getElem?_eq_getElem hj⟩
  have a1:(rows.map hidD)[j]?=some (hidD g):=by rw [List.getElem?_map,hg];rfl
  have i1:op2 idxD (fun env=>getF env 3) (fun env=>getF env 8) (eM s0 c (gD R C fl ru) (rows.map hidD) s4 s5 s6 s7 (.F (.int j)) (.F (.int i)) s10)=some (hidD g):=idx_v (i:=(j:Int)) rfl rfl (atI_nat a1)
  have t1:=told1 (hp.at j g (by rw [← hr];exact hg))
  have t2:=told2 (hp.num j g (by rw [← hr];exact hg))
  have q1:orB (fB (op2 neF (fun env=>((fCons (fC (.int 1)) (fCons (fun env=>getF env 2) (fCons (fun env=>getF env 8) fNil))) env).bind m__law_told) (op2 idxD (fun env=>getF env 3) (fun env=>getF env 8)))) (fB (op2 neF (fun env=>((fCons (fC (.int 2)) (fCons (fun env=>getF env 2) (fCons (op2 idxD (fun env=>getF env 3) (fun env=>getF env 8)) fNil))) env).bind m__law_told) (fun env=>getF env 8))) (eM s0 c (gD R C fl ru) (rows.map hidD) s4 s5 s6 s7 (.F (.int j)) (.F (.int i)) s10)=some false:=
    orB_v (p:=false) (q:=false) (fB_v (ne_same ((call_v (cons_v rfl (cons_v rfl (cons_v rfl nil_v)))).trans t1) i1 (pl_hid g) (by have:=dep_hid g;omega))) fun _=>fB_v ((op2_v ((call_v (cons_v rfl (cons_v rfl (cons_v i1 nil_v)))).trans t2) rfl).trans ((ne_v _ _).trans (by simp)))
  exact ⟨_,(seq_v (set_v hjx)).trans ((ifE_v q1).trans rfl)⟩
theorem cut_last (g:List Sh):cutTupW (hidD g) none (some (-1))=some (hidD (g.take (g.length-1))):=by
  show some (D.tup (((g.map Sh.d).drop 0).take ((-1+((g.map Sh.d).length:Int)).toNat-0)))=_
  unfold hidD
  rw [List.drop_zero,List.length_map,List.map_take,show (-1+(g.length:Int)).toNat-0=g.length-1 by omega]
theorem one_ok (s0:Slot) (c:Int) (s2 s3 s4 s5 s6 s7 s8 s9 s10:Slot):∃ t2 t3 t4 t5 t6 t7 t8 t9 t10,B_law_5 m__law_game m__law_all m_how_many m__law_whole m__law_only m__law_told0 m__law_stir m__law_told m__law_odd [s0,.F (.int c),s2,s3,s4,s5,s6,s7,s8,s9,s10]=some (.nx [s0,.F (.int c),t2,t3,t4,t5,t6,t7,t8,t9,t10]):=by
  obtain ⟨R,C,fl,ru,h1,hp⟩:=game_ok c
  have a1:=hp.all
  have a2:=hp.many
  have a3:=hp.told0
  have hlen:=hp.len
  have ain:=fun d=>hp.num_no d
  have aout:=fun k=>hp.at_no k
  have sm:=allH_sm R C ru fl hp.ten fl.length (Nat.le_refl _)
  have atk:=fun rows hr hne=>at_ok hp rows hr hne
  obtain ⟨rows,hr⟩:∃ rows,rows=allH R C ru fl fl.length:=⟨_,rfl⟩
  rw [← hr] at a1 a2 a3 hlen sm
  have ain:∀ d,dep d≤50→pl d=true→(∀ x∈rows,d≠hidD x)→_:=fun d hd hq hn=>ain d hd hq (by rw [← hr];exact hn)
  have aout:∀ k:Int,(k<0∨(rows.length:Int)≤k)→_:=fun k hk=>aout k (by rw [← hr];exact hk)
  have atk:=atk rows hr
  obtain ⟨us,hus⟩:∃ us:List D,(if 1000<rows.length then flagsD (Str.ofString "TooMany") else .lst (rows.map hidD))=.lst us:=by
    by_cases z:1000<rows.length
    · rw [if_pos z];exact ⟨_,rfl⟩
    · rw [if_neg z];exact ⟨_,rfl⟩
  have hus2:pl (.lst us)=true∧dep (.lst us)≤60∧us.length<16000000:=by
    by_cases z:1000<rows.length
    · rw [if_pos z] at hus;rw [← hus]
      refine ⟨pl_flags _,dep_flags _,?_⟩
      have e:(flagsB (Str.ofString "TooMany")).map D.bl=us:=D.lst.inj hus
      rw [← e,List.length_map];decide
    · rw [if_neg z] at hus;rw [← hus]
      have e:rows.map hidD=us:=D.lst.inj hus
      refine ⟨pl_rows _,Nat.le_trans (dep_rows _) (by decide),?_⟩
      rw [← e,List.length_map];omega
  rw [hus] at a3
  have e1:setF 2 (fun env=>((fCons (fun env=>getF env 1) fNil) env).bind m__law_game) [s0,.F (.int c),s2,s3,s4,s5,s6,s7,s8,s9,s10]=some (.nx [s0,.F (.int c),.F (gD R C fl ru),s3,s4,s5,s6,s7,s8,s9,s10]):=set_v ((call_v (cons_v rfl nil_v)).trans h1)
  have e2:setF 3 (fun env=>((fCons (op2 idxD (fun env=>getF env 2) (fC (.int 0))) (fCons (op2 idxD (fun env=>getF env 2) (fC (.int 1))) (fCons (op2 idxD (fun env=>getF env 2) (fC (.int 2))) fNil))) env).bind m__law_all) [s0,.F (.int c),.F (gD R C fl ru),s3,s4,s5,s6,s7,s8,s9,s10]=some (.nx (eM s0 c (gD R C fl ru) (rows.map hidD) s4 s5 s6 s7 s8 s9 s10)):=set_v ((call_v (cons_v rfl (cons_v rfl (cons_v rfl nil_v)))).trans a1)
  have e3:setF 4 (fun env=>((fCons (op2 idxD (fun env=>getF env 2) (fC (.int 0))) (fCons (op2 idxD (fun env=>getF env 2) (fC (.int 1))) (fCons (op2 idxD (fun env=>getF env 2) (fC (.int 2))) fNil))) env).bind m_how_many) (eM s0 c (gD R C fl ru) (rows.map hidD) s4 s5 s6 s7 s8 s9 s10)=some (.nx (eM s0 c (gD R C fl ru) (rows.map hidD) (.F (.int rows.length)) s5 s6 s7 s8 s9 s10)):=set_v ((call_v (cons_v rfl (cons_v rfl (cons_v rfl nil_v)))).trans a2)
  have len1:∀ s4 s5 s6 s7 s8 s9 s10,un1 lenD (fun env=>getF env 3) (eM s0 c (gD R C fl ru) (rows.map hidD) s4 s5 s6 s7 s8 s9 s10)=some (.int rows.length):=fun _ _ _ _ _ _ _=>(len_v rfl).trans (by rw [List.length_map])
  have t4:orB (notB (fB (fun env=>((fCons (fun env=>getF env 4) fNil) env).bind m__law_whole))) (fB (op2 neF (fun env=>getF env 4) (un1 lenD (fun env=>getF env 3)))) (eM s0 c (gD R C fl ru) (rows.map hidD) (.F (.int rows.length)) s5 s6 s7 s8 s9 s10)=some false:=
    orB_v (p:=false) (q:=false) (not_v (b:=true) (fB_v ((call_v (cons_v rfl nil_v)).trans rfl))) fun _=>fB_v ((op2_v rfl (len1 _ _ _ _ _ _ _)).trans ((ne_v _ _).trans (by simp)))
  have e5:setF 5 (iteFn (fB (op2 leI (un1 lenD (fun env=>getF env 3)) (fC (.int 1000)))) (fun env=>getF env 3) (fun env=>((fCons (fC (.str (Str.ofString "many"))) fNil) env).bind m__law_only)) (eM s0 c (gD R C fl ru) (rows.map hidD) (.F (.int rows.length)) s5 s6 s7 s8 s9 s10)=some (.nx (eM s0 c (gD R C fl ru) (rows.map hidD) (.F (.int rows.length)) (.F (.lst us)) s6 s7 s8 s9 s10)):=by
    refine set_v (ite_v (b:=decide ((rows.length:Int)≤1000)) (fB_v ((op2_v (len1 _ _ _ _ _ _ _) rfl).trans rfl)) (fun hb=>?_) fun hb=>?_)
    · have hb:=of_decide_eq_true hb
      rw [if_neg (by omega)] at hus
      rw [← hus];rfl
    · have hb:=of_decide_eq_false hb
      rw [if_pos (by omega)] at hus
      rw [← hus];exact (call_v (cons_v rfl nil_v)).trans only_m
  obtain ⟨e6,g6,t4',t6',rfl⟩:=loop_all (t:=tgN 6) (body:=B_law_1 m__law_told0) (fun e=>∃ s4 s6,e=eM s0 c (gD R C fl ru) (rows.map hidD) s4 (.F (.lst us)) s6 s7 s8 s9 s10) (rangeL 0 2) (eM s0 c (gD R C fl ru) (rows.map hidD) (.F (.int rows.length)) (.F (.lst us)) s6 s7 s8 s9 s10) ⟨_,_,rfl⟩ fun d hd e ⟨s4,s6,he⟩=>by
    subst he
    exact ⟨_,tg_v (e0:=eM s0 c (gD R C fl ru) (rows.map hidD) s4 (.F (.lst us)) (.F d) s7 s8 s9 s10) rfl (turn_ok s0 c _ _ us s4 (.F d) s7 s8 s9 s10 a3 hus2.1 hus2.2.1 hus2.2.2),_,_,rfl⟩
  obtain ⟨z,hz⟩:=stir_ok c 300 (by decide) (by decide)
  obtain ⟨far,hf0,e7⟩:∃ far:Int,0<far∧setF 7 (op2 addI (fC (.int 1)) (op2 modI (fun env=>((fCons (fun env=>getF env 1) (fCons (fC (.int 300)) fNil)) env).bind m__law_stir) (op2 powI (fC (.int 10)) (fC (.int 12))))) (eM s0 c (gD R C fl ru) (rows.map hidD) t4' (.F (.lst us)) t6' s7 s8 s9 s10)=some (.nx (eM s0 c (gD R C fl ru) (rows.map hidD) t4' (.F (.lst us)) t6' (.F (.int far)) s8 s9 s10)):=by
    have p1:op2 powI (fC (.int 10)) (fC (.int 12)) (eM s0 c (gD R C fl ru) (rows.map hidD) t4' (.F (.lst us)) t6' s7 s8 s9 s10)=some (.int (10 ^ 12)):=(op2_v rfl rfl).trans (pow_in (big_in (by decide) (by decide)) (by decide) (by decide))
    refine ⟨1+z%(10 ^ 12),by have:=Int.emod_nonneg z (show (10 ^ 12:Int)≠0 by decide);omega,set_v ((op2_v rfl ((op2_v ((call_v (cons_v rfl (cons_v rfl nil_v))).trans hz) p1).trans (mod_in (by decide)))).trans (add_v _ _))⟩
  obtain ⟨e8,g8,t8',rfl⟩:=loop_all (t:=tgN 8) (body:=B_law_2 m__law_told m__law_only) (fun e=>∃ s8,e=eM s0 c (gD R C fl ru) (rows.map hidD) t4' (.F (.lst us)) t6' (.F (.int far)) s8 s9 s10) ([-1,0-far,(rows.length:Int),(rows.length:Int)+far].map .int) (eM s0 c (gD R C fl ru) (rows.map hidD) t4' (.F (.lst us)) t6' (.F (.int far)) s8 s9 s10) ⟨_,rfl⟩ fun d hd e ⟨s8,he⟩=>by
    subst he
    obtain ⟨k,hk,rfl⟩:=List.mem_map.mp hd
    have hk:k<0∨(rows.length:Int)≤k:=by
      simp only [List.mem_cons,List.not_mem_nil,or_false] at hk
      rcases hk with rfl | rfl | rfl | rfl<;>omega
    exact ⟨_,tg_v (e0:=eM s0 c (gD R C fl ru) (rows.map hidD) t4' (.F (.lst us)) t6' (.F (.int far)) (.F (.int k)) s9 s10) rfl (num_ok s0 c _ _ _ _ _ _ s9 s10 k (told1x (by unfold cs_;exact List.mem_cons_of_mem _ List.mem_cons_self) (aout k hk))),_,rfl⟩
  have i8:itL (fLst (fCons (un1 negI (fC (.int 1))) (fCons (op2 subI (fC (.int 0)) (fun env=>getF env 7)) (fCons (un1 lenD (fun env=>getF env 3)) (fCons (op2 addI (un1 lenD (fun env=>getF env 3)) (fun env=>getF env 7)) fNil))))) (eM s0 c (gD R C fl ru) (rows.map hidD) t4' (.F (.lst us)) t6' (.F (.int far)) s8 s9 s10)=some ([-1,0-far,(rows.length:Int),(rows.length:Int)+far].map .int):=
    itL_v (lst_v (cons_v rfl (cons_v ((op2_v rfl rfl).trans rfl) (cons_v (len1 _ _ _ _ _ _ _) (cons_v ((op2_v (len1 _ _ _ _ _ _ _) rfl).trans (add_v _ _)) nil_v)))))
  have nn:∀ s4 s5 s6 s7 s8 s9 s10,op2 neF (fun env=>getF env 3) (fLst fNil) (eM s0 c (gD R C fl ru) (rows.map hidD) s4 s5 s6 s7 s8 s9 s10)=some (.bl !(rows.map hidD).isEmpty):=fun _ _ _ _ _ _ _=>ne_d rfl rfl (ok_r (by unfold dep deps;omega) (by rw [pl_rows];rfl)) (eqD_nil _)
  obtain ⟨t8,t9,g9⟩:∃ t8 t9,forF (itR1 (op2 mulI (fC (.int 8)) (un1 intD (op2 neF (fun env=>getF env 3) (fLst fNil))))) (tgN 9) (B_law_3 m__law_stir m__law_told) (eM s0 c (gD R C fl ru) (rows.map hidD) t4' (.F (.lst us)) t6' (.F (.int far)) t8' s9 s10)=some (.nx (eM s0 c (gD R C fl ru) (rows.map hidD) t4' (.F (.lst us)) t6' (.F (.int far)) t8 t9 s10)):=by
    by_cases z:rows=[]
    · have i9:itR1 (op2 mulI (fC (.int 8)) (un1 intD (op2 neF (fun env=>getF env 3) (fLst fNil)))) (eM s0 c (gD R C fl ru) (rows.map hidD) t4' (.F (.lst us)) t6' (.F (.int far)) t8' s9 s10)=some (rangeL 0 0):=itR1_v (n:=0) ((op2_v rfl ((un1_v (nn _ _ _ _ _ _ _)).trans (show intD (.bl !(rows.map hidD).isEmpty)=some (.int 0) by rw [z];rfl))).trans (mul_in (by decide) (by decide) (by decide) (by decide))) (by decide)
      exact ⟨_,_,(for_v i9).trans rfl⟩
    · have i9:itR1 (op2 mulI (fC (.int 8)) (un1 intD (op2 neF (fun env=>getF env 3) (fLst fNil)))) (eM s0 c (gD R C fl ru) (rows.map hidD) t4' (.F (.lst us)) t6' (.F (.int far)) t8' s9 s10)=some (rangeL 0 8):=itR1_v (n:=8) ((op2_v rfl ((un1_v (nn _ _ _ _ _ _ _)).trans (show intD (.bl !(rows.map hidD).isEmpty)=some (.int 1) by cases rows with | nil=>exact absurd rfl z | cons a b=>rfl))).trans (mul_in (by decide) (by decide) (by decide) (by decide))) (by decide)
      obtain ⟨e9,g9,t8,t9,rfl⟩:=loop_all (t:=tgN 9) (body:=B_law_3 m__law_stir m__law_told) (fun e=>∃ s8 s9,e=eM s0 c (gD R C fl ru) (rows.map hidD) t4' (.F (.lst us)) t6' (.F (.int far)) s8 s9 s10) (rangeL 0 8) (eM s0 c (gD R C fl ru) (rows.map hidD) t4' (.F (.lst us)) t6' (.F (.int far)) t8' s9 s10) ⟨_,_,rfl⟩ fun d hd e ⟨s8,s9,he⟩=>by
        subst he
        obtain ⟨i,hi,rfl⟩:=mem_rng.mp hd
        obtain ⟨t8,u⟩:=atk z s0 c t4' (.F (.lst us)) t6' (.F (.int far)) s8 s10 i (by omega)
        exact ⟨_,tg_v (e0:=eM s0 c (gD R C fl ru) (rows.map hidD) t4' (.F (.lst us)) t6' (.F (.int far)) s8 (.F (.int i)) s10) rfl u,_,_,rfl⟩
      exact ⟨_,_,(for_v i9).trans g9⟩
  obtain ⟨o1,p1,q1,n1⟩:=odd_ok c
  have nonil:∀ x∈rows,∃ s r,x=s::r:=fun x hx=>by
    have:=(sm x hx).1
    have:=hp.l0
    cases x with
    | nil=>simp at *;omega
    | cons s r=>exact ⟨s,r,rfl⟩
  obtain ⟨d4,hd4,k4⟩:∃ d4:D,iteFn (fB (op2 neF (fun env=>getF env 3) (fLst fNil))) (slF cutTupW (op2 idxD (fun env=>getF env 3) (fC (.int 0))) oNone (oSome (un1 negI (fC (.int 1))))) (fC (.int 5)) (eM s0 c (gD R C fl ru) (rows.map hidD) t4' (.F (.lst us)) t6' (.F (.int far)) t8 t9 s10)=some d4∧dep d4≤50∧pl d4=true∧∀ x∈rows,d4≠hidD x:=by
    by_cases z:rows=[]
    · exact ⟨.int 5,ite_v (b:=false) (fB_v ((nn _ _ _ _ _ _ _).trans (by rw [z];rfl))) (fun h=>(by cases h)) fun _=>rfl,by simp [dep],rfl,fun x hx=>by rw [z] at hx;cases hx⟩
    · obtain ⟨g,r,hg⟩:∃ g r,rows=g::r:=by
        cases rows with
        | nil=>exact absurd rfl z
        | cons a b=>exact ⟨a,b,rfl⟩
      have x1:op2 idxD (fun env=>getF env 3) (fC (.int 0)) (eM s0 c (gD R C fl ru) (rows.map hidD) t4' (.F (.lst us)) t6' (.F (.int far)) t8 t9 s10)=some (hidD g):=idx_v (i:=((0:Nat):Int)) rfl rfl (atI_nat (by rw [hg];rfl))
      have x2:slF cutTupW (op2 idxD (fun env=>getF env 3) (fC (.int 0))) oNone (oSome (un1 negI (fC (.int 1)))) (eM s0 c (gD R C fl ru) (rows.map hidD) t4' (.F (.lst us)) t6' (.F (.int far)) t8 t9 s10)=some (hidD (g.take (g.length-1))):=by
        unfold slF;rw [x1];exact cut_last g
      refine ⟨hidD (g.take (g.length-1)),ite_v (b:=true) (fB_v ((nn _ _ _ _ _ _ _).trans (by rw [hg];rfl))) (fun _=>x2) (fun h=>(by cases h)),Nat.le_trans (dep_hid _) (by decide),pl_hid _,fun x hx e=>?_⟩
      have e:=congrArg List.length (hid_inj e)
      have l1:=(sm x hx).1
      have l2:=(sm g (by rw [hg];exact List.mem_cons_self)).1
      have:=hp.l0
      rw [List.length_take] at e;omega
  have last:∀ d∈[D.non,.tup [],.lst ((rows.map hidD).take 1),d4,o1,.bl true],dep d≤50∧pl d=true∧∀ x∈rows,d≠hidD x:=fun d hd=>by
    simp only [List.mem_cons,List.not_mem_nil,or_false] at hd
    rcases hd with rfl | rfl | rfl | rfl | rfl | rfl
    · exact ⟨by simp [dep],rfl,fun x _ e=>by unfold hidD at e;cases e⟩
    · refine ⟨by unfold dep deps;omega,rfl,fun x hx e=>?_⟩
      obtain ⟨s,r,rfl⟩:=nonil x hx
      unfold hidD at e;cases e
    · refine ⟨?_,?_,fun x _ e=>by unfold hidD at e;cases e⟩
      · rw [← List.map_take];exact Nat.le_trans (dep_rows _) (by decide)
      · rw [← List.map_take];exact pl_rows _
    · exact k4
    · refine ⟨Nat.le_trans q1.1 (by decide),q1.2.1,fun x hx e=>?_⟩
      obtain ⟨s,r,rfl⟩:=nonil x hx
      exact n1 s _ e
    · exact ⟨by simp [dep],rfl,fun x _ e=>by unfold hidD at e;cases e⟩
  have i10:itL (fLst (fCons (fC .non) (fCons (fTup fNil) (fCons (un1 listD (slF cutLst (fun env=>getF env 3) oNone (oSome (fC (.int 1))))) (fCons (iteFn (fB (op2 neF (fun env=>getF env 3) (fLst fNil))) (slF cutTupW (op2 idxD (fun env=>getF env 3) (fC (.int 0))) oNone (oSome (un1 negI (fC (.int 1))))) (fC (.int 5))) (fCons (fun env=>((fCons (fun env=>getF env 1) fNil) env).bind m__law_odd) (fCons (fC (.bl true)) fNil))))))) (eM s0 c (gD R C fl ru) (rows.map hidD) t4' (.F (.lst us)) t6' (.F (.int far)) t8 t9 s10)=some [D.non,.tup [],.lst ((rows.map hidD).take 1),d4,o1,.bl true]:=
    itL_v (lst_v (cons_v rfl (cons_v rfl (cons_v (listL_v (cutL_v 1 rfl)) (cons_v hd4 (cons_v ((call_v (cons_v rfl nil_v)).trans p1) (cons_v rfl nil_v)))))))
  obtain ⟨e10,g10,t10,rfl⟩:=loop_all (t:=tgN 10) (body:=B_law_4 m__law_told m__law_only) (fun e=>∃ s10,e=eM s0 c (gD R C fl ru) (rows.map hidD) t4' (.F (.lst us)) t6' (.F (.int far)) t8 t9 s10) [D.non,.tup [],.lst ((rows.map hidD).take 1),d4,o1,.bl true] (eM s0 c (gD R C fl ru) (rows.map hidD) t4' (.F (.lst us)) t6' (.F (.int far)) t8 t9 s10) ⟨_,rfl⟩ fun d hd e ⟨s10,he⟩=>by
    subst he
    obtain ⟨y1,y2,y3⟩:=last d hd
    exact ⟨_,tg_v (e0:=eM s0 c (gD R C fl ru) (rows.map hidD) t4' (.F (.lst us)) t6' (.F (.int far)) t8 t9 (.F d)) rfl (thing_ok s0 c _ _ _ _ _ _ _ _ d (told2x (by unfold cs_;exact List.mem_cons_of_mem _ (List.mem_cons_of_mem _ List.mem_cons_self)) (ain d y1 y2 y3))),_,rfl⟩
  exact ⟨_,_,_,_,_,_,_,_,_,(seq_v e1).trans ((seq_v e2).trans ((seq_v e3).trans ((seq_v ((ifE_v t4).trans rfl)).trans ((seq_v e5).trans ((seq_v ((for_v (itR1_v (n:=2) rfl (by decide))).trans g6)).trans ((seq_v e7).trans ((seq_v ((for_v i8).trans g8)).trans ((seq_v g9).trans ((for_v i10).trans g10)))))))))⟩
end
theorem law_true (ns:List Int) (hl:ns.length≤63):m_law [.lst (ns.map .int)]=some (.bl true):=by
  obtain ⟨e2,g1,t1,t2,t3,t4,t5,t6,t7,t8,t9,t10,rfl⟩:=loop_all (t:=tgN 1) (body:=B_law_5 m__law_game m__law_all m_how_many m__law_whole m__law_only m__law_told0 m__law_stir m__law_told m__law_odd) (fun e=>∃ s1 s2 s3 s4 s5 s6 s7 s8 s9 s10,e=[.F (.lst (ns.map .int)),s1,s2,s3,s4,s5,s6,s7,s8,s9,s10]) ((0::ns.take 8).map .int) (startE 11 [.lst (ns.map .int)]) ⟨.un,.un,.un,.un,.un,.un,.un,.un,.un,.un,rfl⟩ fun d hd e ⟨s1,s2,s3,s4,s5,s6,s7,s8,s9,s10,he⟩=>by
    subst he
    obtain ⟨c,_,rfl⟩:=List.mem_map.mp hd
    obtain ⟨t2,t3,t4,t5,t6,t7,t8,t9,t10,u⟩:=one_ok (.F (.lst (ns.map .int))) c s2 s3 s4 s5 s6 s7 s8 s9 s10
    exact ⟨_,u,_,_,_,_,_,_,_,_,_,_,rfl⟩
  refine run_v ((seq_v ((for_v (itL_v ?_)).trans g1)).trans rfl)
  exact (addL_v (xs:=[.int 0]) (ys:=(ns.map .int).take 8) rfl (cutL_v 8 rfl) (by simp;omega)).trans (by rw [← List.map_take];rfl)
end K04
namespace K04
open PySem PySem.Spec PyProof.Rows L2 Mi Xc
abbrev pg:Program:=PySem.Challenge.pw_fleethide_k04_hidings_by_number
def st__law_stir:Stmt:=pg.main.body.getD 38 (.Pass ⟨0,0,0,0⟩)
def st__law_drawn:Stmt:=pg.main.body.getD 39 (.Pass ⟨0,0,0,0⟩)
def st__law_game:Stmt:=pg.main.body.getD 49 (.Pass ⟨0,0,0,0⟩)
def st__law_ships:Stmt:=pg.main.body.getD 45 (.Pass ⟨0,0,0,0⟩)
def st__law_cells:Stmt:=pg.main.body.getD 44 (.Pass ⟨0,0,0,0⟩)
def st__law_halo:Stmt:=pg.main.body.getD 46 (.Pass ⟨0,0,0,0⟩)
def st__law_free:Stmt:=pg.main.body.getD 48 (.Pass ⟨0,0,0,0⟩)
def st__law_all:Stmt:=pg.main.body.getD 47 (.Pass ⟨0,0,0,0⟩)
def st_rows_between:Stmt:=pg.main.body.getD 22 (.Pass ⟨0,0,0,0⟩)
def st_columns_between:Stmt:=pg.main.body.getD 23 (.Pass ⟨0,0,0,0⟩)
def st_keep:Stmt:=pg.main.body.getD 24 (.Pass ⟨0,0,0,0⟩)
def st_may_follow:Stmt:=pg.main.body.getD 25 (.Pass ⟨0,0,0,0⟩)
def st_hidings_among:Stmt:=pg.main.body.getD 29 (.Pass ⟨0,0,0,0⟩)
def st_all_cells:Stmt:=pg.main.body.getD 19 (.Pass ⟨0,0,0,0⟩)
def st_is_tuple_of:Stmt:=pg.main.body.getD 17 (.Pass ⟨0,0,0,0⟩)
def st_is_whole:Stmt:=pg.main.body.getD 15 (.Pass ⟨0,0,0,0⟩)
def st_is_size:Stmt:=pg.main.body.getD 16 (.Pass ⟨0,0,0,0⟩)
def st_is_cell:Stmt:=pg.main.body.getD 18 (.Pass ⟨0,0,0,0⟩)
def st_is_ship:Stmt:=pg.main.body.getD 20 (.Pass ⟨0,0,0,0⟩)
def st_ships_of:Stmt:=pg.main.body.getD 21 (.Pass ⟨0,0,0,0⟩)
def st_all_hidings:Stmt:=pg.main.body.getD 30 (.Pass ⟨0,0,0,0⟩)
def st_how_many:Stmt:=pg.main.body.getD 33 (.Pass ⟨0,0,0,0⟩)
def st__law_whole:Stmt:=pg.main.body.getD 40 (.Pass ⟨0,0,0,0⟩)
def st__law_only:Stmt:=pg.main.body.getD 42 (.Pass ⟨0,0,0,0⟩)
def st_if_not_too_many:Stmt:=pg.main.body.getD 31 (.Pass ⟨0,0,0,0⟩)
def st_hidings:Stmt:=pg.main.body.getD 34 (.Pass ⟨0,0,0,0⟩)
def st__law_told0:Stmt:=pg.main.body.getD 50 (.Pass ⟨0,0,0,0⟩)
def st_one_at:Stmt:=pg.main.body.getD 32 (.Pass ⟨0,0,0,0⟩)
def st_hiding_at:Stmt:=pg.main.body.getD 35 (.Pass ⟨0,0,0,0⟩)
def st_is_hiding:Stmt:=pg.main.body.getD 26 (.Pass ⟨0,0,0,0⟩)
def st_number_of:Stmt:=pg.main.body.getD 36 (.Pass ⟨0,0,0,0⟩)
def st__law_told:Stmt:=pg.main.body.getD 50 (.Pass ⟨0,0,0,0⟩)
def st__law_odd:Stmt:=pg.main.body.getD 43 (.Pass ⟨0,0,0,0⟩)
def st_law:Stmt:=pg.main.body.getD 51 (.Pass ⟨0,0,0,0⟩)
structure Tx (K:Fg) (mg:Str→Option Value):Prop where
  z_ValueError:mg "ValueError"=none
  z_all:mg "all"=none
  z_bool:mg "bool"=none
  z_enumerate:mg "enumerate"=none
  z_int:mg "int"=none
  z_isinstance:mg "isinstance"=none
  z_len:mg "len"=none
  z_list:mg "list"=none
  z_max:mg "max"=none
  z_min:mg "min"=none
  z_range:mg "range"=none
  z_sorted:mg "sorted"=none
  z_tuple:mg "tuple"=none
  e_GREATEST:∃ v u,mg "GREATEST"=some u∧RelV v u∧∀ Z,Rep K Z c_GREATEST v
  e_MOST_TOLD:∃ v u,mg "MOST_TOLD"=some u∧RelV v u∧∀ Z,Rep K Z c_MOST_TOLD v
  e_WAYS:∃ v u,mg "WAYS"=some u∧RelV v u∧∀ Z,Rep K Z c_WAYS v
section
variable {P:Program} {w:World} {K:Fg} {mg:Str→Option Value} {base:Heap}
theorem sc__law_stir:FnScope [Str.ofString "cell",Str.ofString "k",Str.ofString "number"] [Str.ofString "cell",Str.ofString "k"] (defScope st__law_stir):=⟨rfl,rfl,rfl,by decide +kernel,rfl,by decide +kernel,by decide +kernel⟩
theorem ok__law_stir {f:Addr} {fd:FuncData} (F:Fun K "_law_stir" "_law_stir" st__law_stir f fd) (T:Tx K mg) :FnOk P w K mg base CX0 1 f fd [Str.ofString "cell",Str.ofString "k"] (spD K 2 .cl m__law_stir):=by
  refine okD F sc__law_stir (fb:=F__law_stir ) (fun cdv A outer s H E hr=>?_) (fun ds d _ e=>e)
  have hN:=sc__law_stir.nd
  exact (s_cons (s_set 2 (m_mul (m_add (m_add (m_mod (m_var 0) (m_pow m_int m_int)) (m_mul m_int (m_var 1))) m_int) m_int) hN) (s_cons (s_set 2 (m_mod (m_var 2) m_int) hN) (s_one (s_ret (m_fdiv (m_mod (m_pow (m_add (m_pow (m_var 2) m_int) (m_mul m_int (m_var 1))) m_int) m_int) m_int)))))
theorem sc__law_drawn:FnScope [Str.ofString "cell",Str.ofString "sizes",Str.ofString "found",Str.ofString "rest",Str.ofString "k"] [Str.ofString "cell",Str.ofString "sizes"] (defScope st__law_drawn):=⟨rfl,rfl,rfl,by decide +kernel,rfl,by decide +kernel,by decide +kernel⟩
theorem ok__law_drawn {f:Addr} {fd:FuncData} (F:Fun K "_law_drawn" "_law_drawn" st__law_drawn f fd) (T:Tx K mg) (k__law_stir:∀ j,1≤j→Cal P w K mg base j "_law_stir" 2 .cl m__law_stir):FnOk P w K mg base CX0 2 f fd [Str.ofString "cell",Str.ofString "sizes"] (spD K 2 .nw m__law_drawn):=by
  refine okD F sc__law_drawn (fb:=F__law_drawn m__law_stir) (fun cdv A outer s H E hr=>?_) (fun ds d _ e=>e)
  have hN:=sc__law_drawn.nd
  have K__law_stir:=k__law_stir 1 (by decide)
  exact (s_cons (s_setO 2 (m_lst l_nil) hN) (s_cons (s_set 3 (m_var 0) hN) (s_cons (s_for PassesOwn.never rfl (i_range1 T.z_range (m_len T.z_len (m_var 1))) (g_name 4 hN) (s_one (s_if (b_w (w_or (b_lt (m_var 0) (m_pow m_int m_int)) (w_or1 (b_eq hr (m_var 3) m_int)))) (s_one (s_app 2 (m_mod (m_call K__law_stir hr (l_cons (m_var 0) (l_cons (m_var 4) l_nil))) (m_idx (m_var 1) (m_var 4))))) (s_cons (s_app 2 (m_mod (m_var 3) (m_idx (m_var 1) (m_var 4)))) (s_one (s_set 3 (m_fdiv (m_var 3) (m_idx (m_var 1) (m_var 4))) hN)))))) (s_one (s_retO 2)))))
theorem sc__law_game:FnScope [Str.ofString "cell",Str.ofString "way",Str.ofString "rows",Str.ofString "columns",Str.ofString "first",Str.ofString "second",Str.ofString "third",Str.ofString "rule",Str.ofString "sheet",Str.ofString "fleet"] [Str.ofString "cell"] (defScope st__law_game):=⟨rfl,rfl,rfl,by decide +kernel,rfl,by decide +kernel,by decide +kernel⟩
theorem ok__law_game {f:Addr} {fd:FuncData} (F:Fun K "_law_game" "_law_game" st__law_game f fd) (T:Tx K mg) (k__law_drawn:∀ j,2≤j→Cal P w K mg base j "_law_drawn" 2 .nw m__law_drawn):FnOk P w K mg base CX0 3 f fd [Str.ofString "cell"] (spD K 1 .cl m__law_game):=by
  refine okD F sc__law_game (fb:=F__law_game m__law_drawn) (fun cdv A outer s H E hr=>?_) (fun ds d _ e=>e)
  have hN:=sc__law_game.nd
  have K__law_drawn:=k__law_drawn 2 (by decide)
  exact (s_cons (s_unL rfl (m_cl (m_call K__law_drawn hr (l_cons (m_var 0) (l_cons (m_cl (m_lst (l_cons m_int (l_cons m_int (l_cons m_int (l_cons m_int (l_cons m_int (l_cons m_int (l_cons m_int l_nil))))))))) l_nil)))) (gs_cons 1 hN (gs_cons 2 hN (gs_cons 3 hN (gs_cons 4 hN (gs_cons 5 hN (gs_cons 6 hN (gs_cons 7 hN gs_nil)))))))) (s_cons (s_set 8 (m_idx (m_lst (l_cons (m_tup (l_cons (m_add m_int (m_var 2)) (l_cons (m_add m_int (m_var 3)) l_nil))) (l_cons (m_tup (l_cons (m_add m_int (m_mod (m_var 2) m_int)) (l_cons (m_add m_int (m_mod (m_var 3) m_int)) l_nil))) (l_cons (m_tup (l_cons (m_add m_int (m_mod (m_var 2) m_int)) (l_cons (m_add m_int (m_mod (m_var 3) m_int)) l_nil))) l_nil)))) (m_min T.z_min rfl (m_var 1) m_int)) hN) (s_cons (s_if (b_eq hr (m_var 1) m_int) (s_one (s_set 8 (m_tup (l_cons m_int (l_cons (m_add m_int (m_var 3)) l_nil))) hN)) s_nil) (s_cons (s_set 9 (m_idx (m_lst (l_cons (m_tup (l_cons (m_add m_int (m_var 4)) l_nil)) (l_cons (m_tup (l_cons (m_add m_int (m_mod (m_var 4) m_int)) (l_cons (m_add m_int (m_mod (m_var 5) m_int)) l_nil))) (l_cons (m_tup (l_cons (m_add m_int (m_mod (m_var 4) m_int)) (l_cons (m_add m_int (m_mod (m_var 5) m_int)) (l_cons (m_add m_int (m_mod (m_var 6) m_int)) l_nil)))) l_nil)))) (m_mod (m_var 1) m_int)) hN) (s_cons (s_if (b_eq hr (m_var 1) m_int) (s_one (s_set 9 (m_tup (l_cons (m_add m_int (m_mod (m_var 4) m_int)) (l_cons (m_add m_int (m_mod (m_var 5) m_int)) (l_cons (m_add m_int (m_mod (m_var 6) m_int)) l_nil)))) hN)) s_nil) (s_cons (s_set 9 (m_tuple T.z_tuple (m_rev (m_sorted T.z_sorted (m_var 9)))) hN) (s_one (s_ret (m_tup (l_cons (m_var 8) (l_cons (m_var 9) (l_cons (m_idx (m_lst (l_cons m_str (l_cons m_str (l_cons m_str l_nil)))) (m_var 7)) l_nil))))))))))))
theorem sc__law_ships:FnScope [Str.ofString "sheet",Str.ofString "length",Str.ofString "found",Str.ofString "row",Str.ofString "column"] [Str.ofString "sheet",Str.ofString "length"] (defScope st__law_ships):=⟨rfl,rfl,rfl,by decide +kernel,rfl,by decide +kernel,by decide +kernel⟩
theorem ok__law_ships {f:Addr} {fd:FuncData} (F:Fun K "_law_ships" "_law_ships" st__law_ships f fd) (T:Tx K mg) :FnOk P w K mg base CX0 1 f fd [Str.ofString "sheet",Str.ofString "length"] (spD K 2 .nw m__law_ships):=by
  refine okD F sc__law_ships (fb:=F__law_ships ) (fun cdv A outer s H E hr=>?_) (fun ds d _ e=>e)
  have hN:=sc__law_ships.nd
  exact (s_cons (s_setO 2 (m_lst l_nil) hN) (s_cons (s_for PassesOwn.never rfl (i_range1 T.z_range (m_idx (m_var 0) m_int)) (g_name 3 hN) (s_one (s_for PassesOwn.never rfl (i_range1 T.z_range (m_idx (m_var 0) m_int)) (g_name 4 hN) (s_cons (s_if (b_le (m_add (m_var 4) (m_var 1)) (m_idx (m_var 0) m_int)) (s_one (s_app 2 (m_tup (l_cons (m_var 3) (l_cons (m_var 4) (l_cons m_str (l_cons (m_var 1) l_nil))))))) s_nil) (s_one (s_if (b_w (w_and (b_le (m_add (m_var 3) (m_var 1)) (m_idx (m_var 0) m_int)) (w_and1 (b_gt (m_var 1) m_int)))) (s_one (s_app 2 (m_tup (l_cons (m_var 3) (l_cons (m_var 4) (l_cons m_str (l_cons (m_var 1) l_nil))))))) s_nil)))))) (s_one (s_retO 2))))
theorem sc__law_cells:FnScope [Str.ofString "ship",Str.ofString "row",Str.ofString "column",Str.ofString "way",Str.ofString "length",Str.ofString "found",Str.ofString "k"] [Str.ofString "ship"] (defScope st__law_cells):=⟨rfl,rfl,rfl,by decide +kernel,rfl,by decide +kernel,by decide +kernel⟩
theorem ok__law_cells {f:Addr} {fd:FuncData} (F:Fun K "_law_cells" "_law_cells" st__law_cells f fd) (T:Tx K mg) :FnOk P w K mg base CX0 1 f fd [Str.ofString "ship"] (spD K 1 .nw m__law_cells):=by
  refine okD F sc__law_cells (fb:=F__law_cells ) (fun cdv A outer s H E hr=>?_) (fun ds d _ e=>e)
  have hN:=sc__law_cells.nd
  exact (s_cons (s_un rfl (m_var 0) (gs_cons 1 hN (gs_cons 2 hN (gs_cons 3 hN (gs_cons 4 hN gs_nil))))) (s_cons (s_setO 5 (m_lst l_nil) hN) (s_cons (s_for PassesOwn.never rfl (i_range1 T.z_range (m_var 4)) (g_name 6 hN) (s_one (s_app 5 (m_tup (l_cons (m_add (m_var 1) (m_mul (m_var 6) (m_intc T.z_int (m_eq hr (m_var 3) m_str)))) (l_cons (m_add (m_var 2) (m_mul (m_var 6) (m_intc T.z_int (m_eq hr (m_var 3) m_str)))) l_nil)))))) (s_one (s_retO 5)))))
theorem sc__law_halo:FnScope [Str.ofString "rule",Str.ofString "ship",Str.ofString "found",Str.ofString "steps",Str.ofString "row",Str.ofString "column",Str.ofString "down",Str.ofString "right"] [Str.ofString "rule",Str.ofString "ship"] (defScope st__law_halo):=⟨rfl,rfl,rfl,by decide +kernel,rfl,by decide +kernel,by decide +kernel⟩
theorem ok__law_halo {f:Addr} {fd:FuncData} (F:Fun K "_law_halo" "_law_halo" st__law_halo f fd) (T:Tx K mg) (k__law_cells:∀ j,1≤j→Cal P w K mg base j "_law_cells" 1 .nw m__law_cells):FnOk P w K mg base CX0 2 f fd [Str.ofString "rule",Str.ofString "ship"] (spD K 2 .nd m__law_halo):=by
  refine okD F sc__law_halo (fb:=F__law_halo m__law_cells) (fun cdv A outer s H E hr=>?_) (fun ds d _ e=>e)
  have hN:=sc__law_halo.nd
  have K__law_cells:=k__law_cells 1 (by decide)
  exact (s_cons (s_setQ 2 m_dnew hN) (s_cons (s_set 3 (m_cl (m_lst (l_cons (m_tup (l_cons m_int (l_cons m_int l_nil))) l_nil))) hN) (s_cons (s_if (b_ne hr (m_var 0) m_str) (s_one (s_set 3 (m_cl (m_addL (m_var 3) (m_lst (l_cons (m_tup (l_cons m_int (l_cons m_int l_nil))) (l_cons (m_tup (l_cons m_int (l_cons m_int l_nil))) (l_cons (m_tup (l_cons m_int (l_cons (m_neg m_int) l_nil))) (l_cons (m_tup (l_cons (m_neg m_int) (l_cons m_int l_nil))) l_nil))))))) hN)) s_nil) (s_cons (s_if (b_eq hr (m_var 0) m_str) (s_one (s_set 3 (m_cl (m_addL (m_var 3) (m_lst (l_cons (m_tup (l_cons m_int (l_cons m_int l_nil))) (l_cons (m_tup (l_cons m_int (l_cons (m_neg m_int) l_nil))) (l_cons (m_tup (l_cons (m_neg m_int) (l_cons m_int l_nil))) (l_cons (m_tup (l_cons (m_neg m_int) (l_cons (m_neg m_int) l_nil))) l_nil))))))) hN)) s_nil) (s_cons (s_for PassesOwn.never rfl (i_list (m_cl (m_call K__law_cells hr (l_cons (m_var 1) l_nil)))) (g_tup rfl (gs_cons 4 hN (gs_cons 5 hN gs_nil))) (s_one (s_for PassesOwn.never rfl (i_list (m_var 3)) (g_tup rfl (gs_cons 6 hN (gs_cons 7 hN gs_nil))) (s_one (s_put 2 hr (l_cons (m_add (m_var 4) (m_var 6)) (l_cons (m_add (m_var 5) (m_var 7)) l_nil))))))) (s_one (s_retQ 2)))))))
theorem sc__law_free:FnScope [Str.ofString "halo",Str.ofString "ground",Str.ofString "one",Str.ofString "cell"] [Str.ofString "halo",Str.ofString "ground"] (defScope st__law_free):=⟨rfl,rfl,rfl,by decide +kernel,rfl,by decide +kernel,by decide +kernel⟩
theorem ok__law_free {f:Addr} {fd:FuncData} (F:Fun K "_law_free" "_law_free" st__law_free f fd) (T:Tx K mg) :FnOk P w K mg base CX0 1 f fd [Str.ofString "halo",Str.ofString "ground"] (spD K 2 .cl m__law_free):=by
  refine okD F sc__law_free (fb:=F__law_free ) (fun cdv A outer s H E hr=>?_) (fun ds d _ e=>e)
  have hN:=sc__law_free.nd
  exact (s_cons (s_for PassesOwn.never rfl (i_list (m_var 0)) (g_name 2 hN) (s_one (s_for PassesOwn.never rfl (i_list (m_var 1)) (g_name 3 hN) (s_one (s_if (b_inQ hr (m_var 3) (m_var 2)) (s_one (s_ret m_bl)) s_nil))))) (s_one (s_ret m_bl)))
theorem sc__law_all:FnScope [Str.ofString "sheet",Str.ofString "fleet",Str.ofString "rule",Str.ofString "rows",Str.ofString "place",Str.ofString "length",Str.ofString "ships",Str.ofString "halos",Str.ofString "grounds",Str.ofString "longer",Str.ofString "hiding",Str.ofString "halo",Str.ofString "k",Str.ofString "later"] [Str.ofString "sheet",Str.ofString "fleet",Str.ofString "rule"] (defScope st__law_all):=⟨rfl,rfl,rfl,by decide +kernel,rfl,by decide +kernel,by decide +kernel⟩
theorem ok__law_all {f:Addr} {fd:FuncData} (F:Fun K "_law_all" "_law_all" st__law_all f fd) (T:Tx K mg) (k__law_ships:∀ j,1≤j→Cal P w K mg base j "_law_ships" 2 .nw m__law_ships) (k__law_halo:∀ j,2≤j→Cal P w K mg base j "_law_halo" 2 .nd m__law_halo) (k__law_cells:∀ j,1≤j→Cal P w K mg base j "_law_cells" 1 .nw m__law_cells) (k__law_free:∀ j,1≤j→Cal P w K mg base j "_law_free" 2 .cl m__law_free):FnOk P w K mg base CX0 3 f fd [Str.ofString "sheet",Str.ofString "fleet",Str.ofString "rule"] (spD K 3 .nw m__law_all):=by
  refine okD F sc__law_all (fb:=F__law_all m__law_ships m__law_halo m__law_cells m__law_free) (fun cdv A outer s H E hr=>?_) (fun ds d _ e=>e)
  have hN:=sc__law_all.nd
  have K__law_ships:=k__law_ships 2 (by decide)
  have K__law_halo:=k__law_halo 2 (by decide)
  have K__law_cells:=k__law_cells 2 (by decide)
  have K__law_free:=k__law_free 2 (by decide)
  exact (s_cons (s_set 3 (m_cl (m_lst (l_cons (m_tup (l_cons (m_tup l_nil) (l_cons (m_cl (m_lst l_nil)) l_nil))) l_nil))) hN) (s_cons (s_for PassesOwn.never rfl (i_enum T.z_enumerate (m_var 1)) (g_tup rfl (gs_cons 4 hN (gs_cons 5 hN gs_nil))) (s_cons (s_set 6 (m_cl (m_call K__law_ships hr (l_cons (m_var 0) (l_cons (m_var 5) l_nil)))) hN) (s_cons (s_setC 7 (c_comp (Nc:=[Str.ofString "ship",Str.ofString "rule"]) (own:=[Str.ofString "ship"]) (caps:=[2]) (tgN_ok 0) rfl (i_list (m_var 6)) rfl rfl (fun _ _ _ _ _ _=>have hN:=(by decide +kernel:List.Nodup ([Str.ofString "ship",Str.ofString "rule"]:List Str));(blk_last (fun _ _ z=>z) (g_name 0 hN) ts_nil (m_cld (m_call K__law_halo hr (l_cons (m_var 1) (l_cons (m_var 0) l_nil))))))) hN) (s_cons (s_setC 8 (c_comp (Nc:=[Str.ofString "ship"]) (own:=[Str.ofString "ship"]) (caps:=[]) (tgN_ok 0) rfl (i_list (m_var 6)) rfl rfl (fun _ _ _ _ _ _=>have hN:=(by decide +kernel:List.Nodup ([Str.ofString "ship"]:List Str));(blk_last (fun _ _ z=>z) (g_name 0 hN) ts_nil (m_cl (m_call K__law_cells hr (l_cons (m_var 0) l_nil)))))) hN) (s_cons (s_setO 9 (m_lst l_nil) hN) (s_cons (s_for PassesOwn.never rfl (i_list (m_var 3)) (g_tup rfl (gs_cons 10 hN (gs_cons 11 hN gs_nil))) (s_one (s_for PassesOwn.never rfl (i_range1 T.z_range (m_len T.z_len (m_var 6))) (g_name 12 hN) (s_cons (s_set 13 (m_or (m_eq hr (m_var 4) m_int) (m_or (m_ne hr (m_idx (m_var 1) (m_sub (m_var 4) m_int)) (m_var 5)) (m_one (m_ltT hr (m_idx (m_var 10) (m_neg m_int)) (m_idx (m_var 6) (m_var 12)))))) hN) (s_one (s_if (b_w (w_and (b_val (m_var 13)) (w_and1 (b_val (m_call K__law_free hr (l_cons (m_var 11) (l_cons (m_idx (m_var 8) (m_var 12)) l_nil))))))) (s_one (s_app 9 (m_tup (l_cons (m_addT (m_var 10) (m_tup (l_cons (m_idx (m_var 6) (m_var 12)) l_nil))) (l_cons (m_cl (m_addL (m_var 11) (m_lst (l_cons (m_idx (m_var 7) (m_var 12)) l_nil)))) l_nil))))) s_nil)))))) (s_frz 9 (s_one (s_set 3 (m_var 9) hN))))))))) (s_one (s_ret (m_comp (Nc:=[Str.ofString "hiding",Str.ofString "halo"]) (own:=[Str.ofString "hiding",Str.ofString "halo"]) (caps:=[]) (tgT_ok [0,1]) rfl (i_list (m_var 3)) rfl rfl (fun _ _ _ _ _ _=>have hN:=(by decide +kernel:List.Nodup ([Str.ofString "hiding",Str.ofString "halo"]:List Str));(blk_last (fun _ _ z=>z) (g_tup rfl (gs_cons 0 hN (gs_cons 1 hN gs_nil))) ts_nil (m_var 0))))))))
theorem sc_rows_between:FnScope [Str.ofString "one",Str.ofString "other",Str.ofString "one_last",Str.ofString "other_last"] [Str.ofString "one",Str.ofString "other"] (defScope st_rows_between):=⟨rfl,rfl,rfl,by decide +kernel,rfl,by decide +kernel,by decide +kernel⟩
theorem ok_rows_between {f:Addr} {fd:FuncData} (F:Fun K "rows_between" "rows_between" st_rows_between f fd) (T:Tx K mg) :FnOk P w K mg base CX0 1 f fd [Str.ofString "one",Str.ofString "other"] (spD K 2 .cl m_rows_between):=by
  refine okD F sc_rows_between (fb:=F_rows_between ) (fun cdv A outer s H E hr=>?_) (fun ds d _ e=>e)
  have hN:=sc_rows_between.nd
  exact (s_cons (s_set 2 (m_ite (b_eq hr (m_idx (m_var 0) m_int) m_str) (m_sub (m_add (m_idx (m_var 0) m_int) (m_idx (m_var 0) m_int)) m_int) (m_idx (m_var 0) m_int)) hN) (s_cons (s_set 3 (m_ite (b_eq hr (m_idx (m_var 1) m_int) m_str) (m_sub (m_add (m_idx (m_var 1) m_int) (m_idx (m_var 1) m_int)) m_int) (m_idx (m_var 1) m_int)) hN) (s_one (s_ret (m_max3 T.z_max rfl (m_sub (m_idx (m_var 1) m_int) (m_var 2)) (m_sub (m_idx (m_var 0) m_int) (m_var 3)) m_int)))))
theorem sc_columns_between:FnScope [Str.ofString "one",Str.ofString "other",Str.ofString "one_last",Str.ofString "other_last"] [Str.ofString "one",Str.ofString "other"] (defScope st_columns_between):=⟨rfl,rfl,rfl,by decide +kernel,rfl,by decide +kernel,by decide +kernel⟩
theorem ok_columns_between {f:Addr} {fd:FuncData} (F:Fun K "columns_between" "columns_between" st_columns_between f fd) (T:Tx K mg) :FnOk P w K mg base CX0 1 f fd [Str.ofString "one",Str.ofString "other"] (spD K 2 .cl m_columns_between):=by
  refine okD F sc_columns_between (fb:=F_columns_between ) (fun cdv A outer s H E hr=>?_) (fun ds d _ e=>e)
  have hN:=sc_columns_between.nd
  exact (s_cons (s_set 2 (m_ite (b_eq hr (m_idx (m_var 0) m_int) m_str) (m_sub (m_add (m_idx (m_var 0) m_int) (m_idx (m_var 0) m_int)) m_int) (m_idx (m_var 0) m_int)) hN) (s_cons (s_set 3 (m_ite (b_eq hr (m_idx (m_var 1) m_int) m_str) (m_sub (m_add (m_idx (m_var 1) m_int) (m_idx (m_var 1) m_int)) m_int) (m_idx (m_var 1) m_int)) hN) (s_one (s_ret (m_max3 T.z_max rfl (m_sub (m_idx (m_var 1) m_int) (m_var 2)) (m_sub (m_idx (m_var 0) m_int) (m_var 3)) m_int)))))
theorem sc_keep:FnScope [Str.ofString "rule",Str.ofString "one",Str.ofString "other",Str.ofString "rows",Str.ofString "columns"] [Str.ofString "rule",Str.ofString "one",Str.ofString "other"] (defScope st_keep):=⟨rfl,rfl,rfl,by decide +kernel,rfl,by decide +kernel,by decide +kernel⟩
theorem ok_keep {f:Addr} {fd:FuncData} (F:Fun K "keep" "keep" st_keep f fd) (T:Tx K mg) (k_rows_between:∀ j,1≤j→Cal P w K mg base j "rows_between" 2 .cl m_rows_between) (k_columns_between:∀ j,1≤j→Cal P w K mg base j "columns_between" 2 .cl m_columns_between):FnOk P w K mg base CX0 2 f fd [Str.ofString "rule",Str.ofString "one",Str.ofString "other"] (spD K 3 .cl m_keep):=by
  refine okD F sc_keep (fb:=F_keep m_rows_between m_columns_between) (fun cdv A outer s H E hr=>?_) (fun ds d _ e=>e)
  have hN:=sc_keep.nd
  have K_rows_between:=k_rows_between 1 (by decide)
  have K_columns_between:=k_columns_between 1 (by decide)
  exact (s_cons (s_set 3 (m_call K_rows_between hr (l_cons (m_var 1) (l_cons (m_var 2) l_nil))) hN) (s_cons (s_set 4 (m_call K_columns_between hr (l_cons (m_var 1) (l_cons (m_var 2) l_nil))) hN) (s_cons (s_if (b_eq hr (m_var 0) m_str) (s_one (s_ret (m_gt (m_add (m_var 3) (m_var 4)) m_int))) s_nil) (s_cons (s_if (b_eq hr (m_var 0) m_str) (s_one (s_ret (m_gt (m_add (m_var 3) (m_var 4)) m_int))) s_nil) (s_one (s_ret (m_gt (m_max T.z_max rfl (m_var 3) (m_var 4)) m_int)))))))
theorem sc_may_follow:FnScope [Str.ofString "rule",Str.ofString "ship",Str.ofString "other"] [Str.ofString "rule",Str.ofString "ship",Str.ofString "other"] (defScope st_may_follow):=⟨rfl,rfl,rfl,by decide +kernel,rfl,by decide +kernel,by decide +kernel⟩
theorem ok_may_follow {f:Addr} {fd:FuncData} (F:Fun K "may_follow" "may_follow" st_may_follow f fd) (T:Tx K mg) (k_keep:∀ j,2≤j→Cal P w K mg base j "keep" 3 .cl m_keep):FnOk P w K mg base CX0 3 f fd [Str.ofString "rule",Str.ofString "ship",Str.ofString "other"] (spD K 3 .cl m_may_follow):=by
  refine okD F sc_may_follow (fb:=F_may_follow m_keep) (fun cdv A outer s H E hr=>?_) (fun ds d _ e=>e)
  have hN:=sc_may_follow.nd
  have K_keep:=k_keep 2 (by decide)
  exact (s_cons (s_if (b_w (w_and (b_eq hr (m_idx (m_var 2) m_int) (m_idx (m_var 1) m_int)) (w_and1 (b_leT hr (m_var 2) (m_var 1))))) (s_one (s_ret m_bl)) s_nil) (s_one (s_ret (m_call K_keep hr (l_cons (m_var 0) (l_cons (m_var 1) (l_cons (m_var 2) l_nil)))))))
theorem sc_hidings_among:FnScope [Str.ofString "rule",Str.ofString "choices",Str.ofString "first",Str.ofString "rest",Str.ofString "found",Str.ofString "ship",Str.ofString "left"] [Str.ofString "rule",Str.ofString "choices"] (defScope st_hidings_among):=⟨rfl,rfl,rfl,by decide +kernel,rfl,by decide +kernel,by decide +kernel⟩
theorem ok_hidings_among {f:Addr} {fd:FuncData} (F:Fun K "hidings_among" "hidings_among" st_hidings_among f fd) (T:Tx K mg) (k_may_follow:∀ j,3≤j→Cal P w K mg base j "may_follow" 3 .cl m_may_follow) (hmg:mg "hidings_among"=some (.ref f)) (hkp:PySem.W.keepIn K (.ref f)=true) (hbd:Binds K fd [Str.ofString "rule",Str.ofString "choices"] []):∀ n,FnOk P w K mg base CX0 (3+n) f fd [Str.ofString "rule",Str.ofString "choices"] (spD K 2 .nw (mR_hidings_among n))
  | 0=>fn_never
  | n+1=>by
    have K_hidings_among:Cal P w K mg base (3+n) "hidings_among" 2 .nw (mR_hidings_among n):=⟨f,fd,[Str.ofString "rule",Str.ofString "choices"],rfl,ok_hidings_among F T k_may_follow hmg hkp hbd n,hmg,hkp,hbd⟩
    refine okD F sc_hidings_among (fb:=F_hidings_among m_may_follow (mR_hidings_among n)) (fun cdv A outer s H E hr=>?_) (fun ds d _ e=>e)
    have hN:=sc_hidings_among.nd
    have K_may_follow:=k_may_follow (3+n) (by omega)
    exact (s_cons (s_star 2 3 rfl (m_var 1) hN) (s_cons (s_if (b_not (b_tru (m_var 3))) (s_one (s_ret (m_comp (Nc:=[Str.ofString "ship"]) (own:=[Str.ofString "ship"]) (caps:=[]) (tgN_ok 0) rfl (i_list (m_var 2)) rfl rfl (fun _ _ _ _ _ _=>have hN:=(by decide +kernel:List.Nodup ([Str.ofString "ship"]:List Str));(blk_last (fun _ _ z=>z) (g_name 0 hN) ts_nil (m_tup (l_cons (m_var 0) l_nil))))))) s_nil) (s_cons (s_setO 4 (m_lst l_nil) hN) (s_cons (s_for PassesOwn.never rfl (i_list (m_var 2)) (g_name 5 hN) (s_cons (s_setC 6 (c_comp (Nc:=[Str.ofString "others",Str.ofString "rule",Str.ofString "ship"]) (own:=[Str.ofString "others"]) (caps:=[0,5]) (tgN_ok 0) rfl (i_list (m_var 3)) rfl rfl (fun _ _ _ _ _ _=>have hN:=(by decide +kernel:List.Nodup ([Str.ofString "others",Str.ofString "rule",Str.ofString "ship"]:List Str));(blk_last (fun _ _ z=>z) (g_name 0 hN) ts_nil (m_cl (m_comp (Nc:=[Str.ofString "other",Str.ofString "rule",Str.ofString "ship"]) (own:=[Str.ofString "other"]) (caps:=[1,2]) (tgN_ok 0) rfl (i_list (m_var 0)) rfl rfl (fun _ _ _ _ _ _=>have hN:=(by decide +kernel:List.Nodup ([Str.ofString "other",Str.ofString "rule",Str.ofString "ship"]:List Str));(blk_last (fun _ _ z=>z) (g_name 0 hN) (ts_one (fun _ _ z=>z) (b_val (m_call K_may_follow hr (l_cons (m_var 1) (l_cons (m_var 2) (l_cons (m_var 0) l_nil)))))) (m_var 0)))))))) hN) (s_one (s_aug 4 (m_comp (Nc:=[Str.ofString "others",Str.ofString "ship"]) (own:=[Str.ofString "others"]) (caps:=[5]) (tgN_ok 0) rfl (i_list (m_cl (m_call K_hidings_among hr (l_cons (m_var 0) (l_cons (m_var 6) l_nil))))) rfl rfl (fun _ _ _ _ _ _=>have hN:=(by decide +kernel:List.Nodup ([Str.ofString "others",Str.ofString "ship"]:List Str));(blk_last (fun _ _ z=>z) (g_name 0 hN) ts_nil (m_addT (m_tup (l_cons (m_var 1) l_nil)) (m_var 0))))) hN)))) (s_one (s_retO 4))))))
theorem sc_all_cells:FnScope [Str.ofString "sheet",Str.ofString "rows",Str.ofString "columns"] [Str.ofString "sheet"] (defScope st_all_cells):=⟨rfl,rfl,rfl,by decide +kernel,rfl,by decide +kernel,by decide +kernel⟩
theorem ok_all_cells {f:Addr} {fd:FuncData} (F:Fun K "all_cells" "all_cells" st_all_cells f fd) (T:Tx K mg) :FnOk P w K mg base CX0 1 f fd [Str.ofString "sheet"] (spD K 1 .nw m_all_cells):=by
  refine okD F sc_all_cells (fb:=F_all_cells ) (fun cdv A outer s H E hr=>?_) (fun ds d _ e=>e)
  have hN:=sc_all_cells.nd
  exact (s_cons (s_un rfl (m_var 0) (gs_cons 1 hN (gs_cons 2 hN gs_nil))) (s_one (s_ret (m_comp (Nc:=[Str.ofString "row",Str.ofString "column",Str.ofString "columns"]) (own:=[Str.ofString "row",Str.ofString "column"]) (caps:=[2]) (tgN_ok 0) rfl (i_range1 T.z_range (m_var 1)) rfl rfl (fun _ _ _ _ _ _=>have hN:=(by decide +kernel:List.Nodup ([Str.ofString "row",Str.ofString "column",Str.ofString "columns"]:List Str));(blk_more (fun _ _ z=>z) rfl (g_name 0 hN) ts_nil (i_range1 T.z_range (m_var 2)) (tgN_ok 1) (blk_last (fun _ _ z=>z) (g_name 1 hN) ts_nil (m_tup (l_cons (m_var 0) (l_cons (m_var 1) l_nil))))))))))
theorem sc_is_tuple_of:FnScope [Str.ofString "thing",Str.ofString "many"] [Str.ofString "thing",Str.ofString "many"] (defScope st_is_tuple_of):=⟨rfl,rfl,rfl,by decide +kernel,rfl,by decide +kernel,by decide +kernel⟩
theorem ok_is_tuple_of {f:Addr} {fd:FuncData} (F:Fun K "is_tuple_of" "is_tuple_of" st_is_tuple_of f fd) (T:Tx K mg) :FnOk P w K mg base CX0 1 f fd [Str.ofString "thing",Str.ofString "many"] (spD K 2 .cl m_is_tuple_of):=by
  refine okD F sc_is_tuple_of (fb:=F_is_tuple_of ) (fun cdv A outer s H E hr=>?_) (fun ds d _ e=>e)
  have hN:=sc_is_tuple_of.nd
  exact (s_one (s_ret (m_and (m_isi .tuple T.z_isinstance T.z_tuple (m_var 0)) (m_one (m_eq hr (m_len T.z_len (m_var 0)) (m_var 1))))))
theorem sc_is_whole:FnScope [Str.ofString "thing"] [Str.ofString "thing"] (defScope st_is_whole):=⟨rfl,rfl,rfl,by decide +kernel,rfl,by decide +kernel,by decide +kernel⟩
theorem ok_is_whole {f:Addr} {fd:FuncData} (F:Fun K "is_whole" "is_whole" st_is_whole f fd) (T:Tx K mg) :FnOk P w K mg base CX0 1 f fd [Str.ofString "thing"] (spD K 1 .cl m_is_whole):=by
  refine okD F sc_is_whole (fb:=F_is_whole ) (fun cdv A outer s H E hr=>?_) (fun ds d _ e=>e)
  have hN:=sc_is_whole.nd
  exact (s_one (s_ret (m_and (m_isi .int T.z_isinstance T.z_int (m_var 0)) (m_one (m_not (m_isi .bool T.z_isinstance T.z_bool (m_var 0)))))))
theorem sc_is_size:FnScope [Str.ofString "thing"] [Str.ofString "thing"] (defScope st_is_size):=⟨rfl,rfl,rfl,by decide +kernel,rfl,by decide +kernel,by decide +kernel⟩
theorem ok_is_size {f:Addr} {fd:FuncData} (F:Fun K "is_size" "is_size" st_is_size f fd) (T:Tx K mg) (k_is_whole:∀ j,1≤j→Cal P w K mg base j "is_whole" 1 .cl m_is_whole):FnOk P w K mg base CX0 2 f fd [Str.ofString "thing"] (spD K 1 .cl m_is_size):=by
  obtain ⟨v_GREATEST,u_GREATEST,g_GREATEST,rv_GREATEST,r_GREATEST⟩:=T.e_GREATEST
  refine okD F sc_is_size (fb:=F_is_size m_is_whole) (fun cdv A outer s H E hr=>?_) (fun ds d _ e=>e)
  have hN:=sc_is_size.nd
  have K_is_whole:=k_is_whole 1 (by decide)
  exact (s_one (s_ret (m_and (m_call K_is_whole hr (l_cons (m_var 0) l_nil)) (m_one (m_chain op_le op_le d_le d_le m_int (m_var 0) (m_glob g_GREATEST rv_GREATEST r_GREATEST))))))
theorem sc_is_cell:FnScope [Str.ofString "sheet",Str.ofString "thing",Str.ofString "row",Str.ofString "column"] [Str.ofString "sheet",Str.ofString "thing"] (defScope st_is_cell):=⟨rfl,rfl,rfl,by decide +kernel,rfl,by decide +kernel,by decide +kernel⟩
theorem ok_is_cell {f:Addr} {fd:FuncData} (F:Fun K "is_cell" "is_cell" st_is_cell f fd) (T:Tx K mg) (k_is_tuple_of:∀ j,1≤j→Cal P w K mg base j "is_tuple_of" 2 .cl m_is_tuple_of) (k_is_whole:∀ j,1≤j→Cal P w K mg base j "is_whole" 1 .cl m_is_whole):FnOk P w K mg base CX0 2 f fd [Str.ofString "sheet",Str.ofString "thing"] (spD K 2 .cl m_is_cell):=by
  refine okD F sc_is_cell (fb:=F_is_cell m_is_tuple_of m_is_whole) (fun cdv A outer s H E hr=>?_) (fun ds d _ e=>e)
  have hN:=sc_is_cell.nd
  have K_is_tuple_of:=k_is_tuple_of 1 (by decide)
  have K_is_whole:=k_is_whole 1 (by decide)
  exact (s_cons (s_if (b_not (b_val (m_call K_is_tuple_of hr (l_cons (m_var 1) (l_cons m_int l_nil))))) (s_one (s_ret m_bl)) s_nil) (s_cons (s_un rfl (m_var 1) (gs_cons 2 hN (gs_cons 3 hN gs_nil))) (s_one (s_ret (m_and (m_call K_is_whole hr (l_cons (m_var 2) l_nil)) (m_and (m_call K_is_whole hr (l_cons (m_var 3) l_nil)) (m_and (m_chain op_le op_lt d_le d_lt m_int (m_var 2) (m_idx (m_var 0) m_int)) (m_one (m_chain op_le op_lt d_le d_lt m_int (m_var 3) (m_idx (m_var 0) m_int))))))))))
theorem sc_is_ship:FnScope [Str.ofString "sheet",Str.ofString "thing",Str.ofString "row",Str.ofString "column",Str.ofString "way",Str.ofString "length"] [Str.ofString "sheet",Str.ofString "thing"] (defScope st_is_ship):=⟨rfl,rfl,rfl,by decide +kernel,rfl,by decide +kernel,by decide +kernel⟩
theorem ok_is_ship {f:Addr} {fd:FuncData} (F:Fun K "is_ship" "is_ship" st_is_ship f fd) (T:Tx K mg) (k_is_tuple_of:∀ j,1≤j→Cal P w K mg base j "is_tuple_of" 2 .cl m_is_tuple_of) (k_is_size:∀ j,2≤j→Cal P w K mg base j "is_size" 1 .cl m_is_size) (k_is_cell:∀ j,2≤j→Cal P w K mg base j "is_cell" 2 .cl m_is_cell):FnOk P w K mg base CX0 3 f fd [Str.ofString "sheet",Str.ofString "thing"] (spD K 2 .cl m_is_ship):=by
  obtain ⟨v_WAYS,u_WAYS,g_WAYS,rv_WAYS,r_WAYS⟩:=T.e_WAYS
  refine okD F sc_is_ship (fb:=F_is_ship m_is_tuple_of m_is_size m_is_cell) (fun cdv A outer s H E hr=>?_) (fun ds d _ e=>e)
  have hN:=sc_is_ship.nd
  have K_is_tuple_of:=k_is_tuple_of 2 (by decide)
  have K_is_size:=k_is_size 2 (by decide)
  have K_is_cell:=k_is_cell 2 (by decide)
  exact (s_cons (s_if (b_not (b_val (m_call K_is_tuple_of hr (l_cons (m_var 1) (l_cons m_int l_nil))))) (s_one (s_ret m_bl)) s_nil) (s_cons (s_un rfl (m_var 1) (gs_cons 2 hN (gs_cons 3 hN (gs_cons 4 hN (gs_cons 5 hN gs_nil))))) (s_cons (s_if (b_w (w_or (b_nin hr (m_var 4) (m_glob g_WAYS rv_WAYS r_WAYS)) (w_or (b_not (b_val (m_call K_is_size hr (l_cons (m_var 5) l_nil)))) (w_or1 (b_not (b_val (m_call K_is_cell hr (l_cons (m_var 0) (l_cons (m_tup (l_cons (m_var 2) (l_cons (m_var 3) l_nil))) l_nil))))))))) (s_one (s_ret m_bl)) s_nil) (s_cons (s_if (b_eq hr (m_var 4) m_str) (s_one (s_ret (m_and (m_gt (m_var 5) m_int) (m_one (m_le (m_add (m_var 2) (m_var 5)) (m_idx (m_var 0) m_int)))))) s_nil) (s_one (s_ret (m_le (m_add (m_var 3) (m_var 5)) (m_idx (m_var 0) m_int))))))))
theorem sc_ships_of:FnScope [Str.ofString "sheet",Str.ofString "length",Str.ofString "ships"] [Str.ofString "sheet",Str.ofString "length"] (defScope st_ships_of):=⟨rfl,rfl,rfl,by decide +kernel,rfl,by decide +kernel,by decide +kernel⟩
theorem ok_ships_of {f:Addr} {fd:FuncData} (F:Fun K "ships_of" "ships_of" st_ships_of f fd) (T:Tx K mg) (k_all_cells:∀ j,1≤j→Cal P w K mg base j "all_cells" 1 .nw m_all_cells) (k_is_ship:∀ j,3≤j→Cal P w K mg base j "is_ship" 2 .cl m_is_ship):FnOk P w K mg base CX0 4 f fd [Str.ofString "sheet",Str.ofString "length"] (spD K 2 .nw m_ships_of):=by
  obtain ⟨v_WAYS,u_WAYS,g_WAYS,rv_WAYS,r_WAYS⟩:=T.e_WAYS
  refine okD F sc_ships_of (fb:=F_ships_of m_all_cells m_is_ship) (fun cdv A outer s H E hr=>?_) (fun ds d _ e=>e)
  have hN:=sc_ships_of.nd
  have K_all_cells:=k_all_cells 3 (by decide)
  have K_is_ship:=k_is_ship 3 (by decide)
  exact (s_cons (s_setC 2 (c_comp (Nc:=[Str.ofString "row",Str.ofString "column",Str.ofString "way",Str.ofString "length"]) (own:=[Str.ofString "row",Str.ofString "column",Str.ofString "way"]) (caps:=[1]) (tgT_ok [0,1]) rfl (i_list (m_cl (m_call K_all_cells hr (l_cons (m_var 0) l_nil)))) rfl rfl (fun _ _ _ _ _ _=>have hN:=(by decide +kernel:List.Nodup ([Str.ofString "row",Str.ofString "column",Str.ofString "way",Str.ofString "length"]:List Str));(blk_more (fun _ _ z=>z) rfl (g_tup rfl (gs_cons 0 hN (gs_cons 1 hN gs_nil))) ts_nil (i_tup (m_glob g_WAYS rv_WAYS r_WAYS)) (tgN_ok 2) (blk_last (fun _ _ z=>z) (g_name 2 hN) ts_nil (m_tup (l_cons (m_var 0) (l_cons (m_var 1) (l_cons (m_var 2) (l_cons (m_var 3) l_nil))))))))) hN) (s_one (s_ret (m_comp (Nc:=[Str.ofString "ship",Str.ofString "sheet"]) (own:=[Str.ofString "ship"]) (caps:=[0]) (tgN_ok 0) rfl (i_list (m_var 2)) rfl rfl (fun _ _ _ _ _ _=>have hN:=(by decide +kernel:List.Nodup ([Str.ofString "ship",Str.ofString "sheet"]:List Str));(blk_last (fun _ _ z=>z) (g_name 0 hN) (ts_one (fun _ _ z=>z) (b_val (m_call K_is_ship hr (l_cons (m_var 1) (l_cons (m_var 0) l_nil))))) (m_var 0)))))))
theorem sc_all_hidings:FnScope [Str.ofString "sheet",Str.ofString "fleet",Str.ofString "rule"] [Str.ofString "sheet",Str.ofString "fleet",Str.ofString "rule"] (defScope st_all_hidings):=⟨rfl,rfl,rfl,by decide +kernel,rfl,by decide +kernel,by decide +kernel⟩
theorem ok_all_hidings {f:Addr} {fd:FuncData} (F:Fun K "all_hidings" "all_hidings" st_all_hidings f fd) (T:Tx K mg) (k_hidings_among:∀ j,6≤j→Cal P w K mg base j "hidings_among" 2 .nw m_hidings_among) (k_ships_of:∀ j,4≤j→Cal P w K mg base j "ships_of" 2 .nw m_ships_of):FnOk P w K mg base CX0 7 f fd [Str.ofString "sheet",Str.ofString "fleet",Str.ofString "rule"] (spD K 3 .nw m_all_hidings):=by
  refine okD F sc_all_hidings (fb:=F_all_hidings m_hidings_among m_ships_of) (fun cdv A outer s H E hr=>?_) (fun ds d _ e=>e)
  have hN:=sc_all_hidings.nd
  have K_hidings_among:=k_hidings_among 6 (by decide)
  have K_ships_of:=k_ships_of 6 (by decide)
  exact (s_one (s_ret (m_call K_hidings_among hr (l_cons (m_var 2) (l_cons (m_cl (m_comp (Nc:=[Str.ofString "length",Str.ofString "sheet"]) (own:=[Str.ofString "length"]) (caps:=[0]) (tgN_ok 0) rfl (i_tup (m_var 1)) rfl rfl (fun _ _ _ _ _ _=>have hN:=(by decide +kernel:List.Nodup ([Str.ofString "length",Str.ofString "sheet"]:List Str));(blk_last (fun _ _ z=>z) (g_name 0 hN) ts_nil (m_cl (m_call K_ships_of hr (l_cons (m_var 1) (l_cons (m_var 0) l_nil)))))))) l_nil)))))
theorem sc_how_many:FnScope [Str.ofString "sheet",Str.ofString "fleet",Str.ofString "rule"] [Str.ofString "sheet",Str.ofString "fleet",Str.ofString "rule"] (defScope st_how_many):=⟨rfl,rfl,rfl,by decide +kernel,rfl,by decide +kernel,by decide +kernel⟩
theorem ok_how_many {f:Addr} {fd:FuncData} (F:Fun K "how_many" "how_many" st_how_many f fd) (T:Tx K mg) (k_all_hidings:∀ j,7≤j→Cal P w K mg base j "all_hidings" 3 .nw m_all_hidings):FnOk P w K mg base CX0 8 f fd [Str.ofString "sheet",Str.ofString "fleet",Str.ofString "rule"] (spD K 3 .cl m_how_many):=by
  refine okD F sc_how_many (fb:=F_how_many m_all_hidings) (fun cdv A outer s H E hr=>?_) (fun ds d _ e=>e)
  have hN:=sc_how_many.nd
  have K_all_hidings:=k_all_hidings 7 (by decide)
  exact (s_one (s_ret (m_len T.z_len (m_call K_all_hidings hr (l_cons (m_var 0) (l_cons (m_var 1) (l_cons (m_var 2) l_nil)))))))
theorem sc__law_whole:FnScope [Str.ofString "thing"] [Str.ofString "thing"] (defScope st__law_whole):=⟨rfl,rfl,rfl,by decide +kernel,rfl,by decide +kernel,by decide +kernel⟩
theorem ok__law_whole {f:Addr} {fd:FuncData} (F:Fun K "_law_whole" "_law_whole" st__law_whole f fd) (T:Tx K mg) :FnOk P w K mg base CX0 1 f fd [Str.ofString "thing"] (spD K 1 .cl m__law_whole):=by
  refine okD F sc__law_whole (fb:=F__law_whole ) (fun cdv A outer s H E hr=>?_) (fun ds d _ e=>e)
  have hN:=sc__law_whole.nd
  exact (s_one (s_ret (m_and (m_isi .int T.z_isinstance T.z_int (m_var 0)) (m_one (m_not (m_isi .bool T.z_isinstance T.z_bool (m_var 0)))))))
theorem sc__law_only:FnScope [Str.ofString "word",Str.ofString "words"] [Str.ofString "word"] (defScope st__law_only):=⟨rfl,rfl,rfl,by decide +kernel,rfl,by decide +kernel,by decide +kernel⟩
theorem ok__law_only {f:Addr} {fd:FuncData} (F:Fun K "_law_only" "_law_only" st__law_only f fd) (T:Tx K mg) :FnOk P w K mg base CX0 1 f fd [Str.ofString "word"] (spD K 1 .nw m__law_only):=by
  refine okD F sc__law_only (fb:=F__law_only ) (fun cdv A outer s H E hr=>?_) (fun ds d _ e=>e)
  have hN:=sc__law_only.nd
  exact (s_cons (s_set 1 (m_cl (m_lst (l_cons m_str (l_cons m_str (l_cons m_str (l_cons m_str (l_cons m_str (l_cons m_str (l_cons m_str (l_cons m_str (l_cons m_str (l_cons m_str l_nil)))))))))))) hN) (s_one (s_ret (m_addL (m_comp (Nc:=[Str.ofString "one",Str.ofString "word"]) (own:=[Str.ofString "one"]) (caps:=[0]) (tgN_ok 0) rfl (i_list (m_var 1)) rfl rfl (fun _ _ _ _ _ _=>have hN:=(by decide +kernel:List.Nodup ([Str.ofString "one",Str.ofString "word"]:List Str));(blk_last (fun _ _ z=>z) (g_name 0 hN) ts_nil (m_eq hr (m_var 0) (m_var 1))))) (m_lst (l_cons m_bl l_nil))))))
theorem sc_if_not_too_many:FnScope [Str.ofString "found"] [Str.ofString "found"] (defScope st_if_not_too_many):=⟨rfl,rfl,rfl,by decide +kernel,rfl,by decide +kernel,by decide +kernel⟩
theorem ok_if_not_too_many {f:Addr} {fd:FuncData} (F:Fun K "if_not_too_many" "if_not_too_many" st_if_not_too_many f fd) (T:Tx K mg) (xc_TooMany:XC P w K mg base 1 "TooMany") :FnOk P w K mg base (CXM P w) 3 f fd [Str.ofString "found"] (spXM mg K m_if_not_too_many):=by
  obtain ⟨v_MOST_TOLD,u_MOST_TOLD,g_MOST_TOLD,rv_MOST_TOLD,r_MOST_TOLD⟩:=T.e_MOST_TOLD
  refine okXM F sc_if_not_too_many (fb:=F_if_not_too_many ) (fun cdv A outer s H E hr=>?_) (fun ds d e=>e)
  have hN:=sc_if_not_too_many.nd
  have hr2:=hr.mono (show (2:Nat)≤2 by decide)
  exact (x_cons (x_if (b_gt (m_len T.z_len (m_pv 0)) (m_glob g_MOST_TOLD rv_MOST_TOLD r_MOST_TOLD)) (x_one (x_raise1 xc_TooMany hr2 (l_cons m_str l_nil))) (xs_of s_nil)) (x_one (x_of (s_retO 0))))
theorem sc_hidings:FnScope [Str.ofString "sheet",Str.ofString "fleet",Str.ofString "rule"] [Str.ofString "sheet",Str.ofString "fleet",Str.ofString "rule"] (defScope st_hidings):=⟨rfl,rfl,rfl,by decide +kernel,rfl,by decide +kernel,by decide +kernel⟩
theorem ok_hidings {f:Addr} {fd:FuncData} (F:Fun K "hidings" "hidings" st_hidings f fd) (T:Tx K mg)  (k_if_not_too_many:∀ j,3≤j→CalXM P w K mg base j "if_not_too_many" m_if_not_too_many) (k_all_hidings:∀ j,7≤j→Cal P w K mg base j "all_hidings" 3 .nw m_all_hidings):FnOk P w K mg base (CXM P w) 8 f fd [Str.ofString "sheet",Str.ofString "fleet",Str.ofString "rule"] (spX mg K 3 .nw m_hidings):=by
  refine okXr F sc_hidings (fb:=F_hidings m_if_not_too_many m_all_hidings) (fun cdv A outer s H E hr=>?_) (fun ds d _ e=>e)
  have hN:=sc_hidings.nd
  have K_if_not_too_many:=k_if_not_too_many 7 (by decide)
  have K_all_hidings:=k_all_hidings 7 (by decide)
  exact (x_one (x_ret (px_callM K_if_not_too_many hr (m_call K_all_hidings hr (l_cons (m_var 0) (l_cons (m_var 1) (l_cons (m_var 2) l_nil)))))))
theorem sc__law_told0:FnScope [Str.ofString "way",Str.ofString "game",Str.ofString "thing",Str.ofString "sheet",Str.ofString "fleet",Str.ofString "rule",Str.ofString "found",Str.ofString "e"] [Str.ofString "way",Str.ofString "game",Str.ofString "thing"] (defScope st__law_told0):=⟨rfl,rfl,rfl,by decide +kernel,rfl,by decide +kernel,by decide +kernel⟩
theorem ok__law_told0 {f:Addr} {fd:FuncData} (F:Fun K "_law_told" "_law_told" st__law_told0 f fd) (T:Tx K mg)  (tx:TrX P w K mg base cs_) (k_hidings:∀ j,8≤j→CalX P w K mg base j "hidings" 3 .nw m_hidings):FnOk P w K mg base CX0 9 f fd [Str.ofString "way",Str.ofString "game",Str.ofString "thing"] (spD K 3 .nw m__law_told0):=by
  refine okX0 F sc__law_told0 (fb:=F__law_told0 m_hidings) (fun cdv A outer s H E hr=>?_) (fun ds d _ e=>e)
  have hN:=sc__law_told0.nd
  have K_hidings:=k_hidings 8 (by decide)
  exact (x0_cons (x_top (x_of (s_un rfl (m_var 1) (gs_cons 3 hN (gs_cons 4 hN (gs_cons 5 hN gs_nil)))))) (x0_cons (x_top (x_of (s_set 6 m_non hN))) (x0_cons (x0_tryO 7 6 tx hr (by decide) ⟨rfl,rfl,rfl⟩ hN (by decide) (fun _=>(x_one (x_if (b_eq hr (m_var 0) m_int) (x_one (x_setO 6 (px_call K_hidings hr (pl_of (l_cons (m_var 3) (l_cons (m_var 4) (l_cons (m_var 5) l_nil))))) hN)) (x_one x_never))))) (x0_one (x_top (x_of (s_retO 6)))))))
theorem sc_one_at:FnScope [Str.ofString "found",Str.ofString "number"] [Str.ofString "found",Str.ofString "number"] (defScope st_one_at):=⟨rfl,rfl,rfl,by decide +kernel,rfl,by decide +kernel,by decide +kernel⟩
theorem ok_one_at {f:Addr} {fd:FuncData} (F:Fun K "one_at" "one_at" st_one_at f fd) (T:Tx K mg) (xc_NoNumber:XC P w K mg base 1 "NoNumber") (k_is_whole:∀ j,1≤j→Cal P w K mg base j "is_whole" 1 .cl m_is_whole):FnOk P w K mg base (CXM P w) 3 f fd [Str.ofString "found",Str.ofString "number"] (spX mg K 2 .cl m_one_at):=by
  refine okX F sc_one_at (fb:=F_one_at m_is_whole) (fun cdv A outer s H E hr=>?_) (fun ds d _ e=>e)
  have hN:=sc_one_at.nd
  have hr2:=hr.mono (show (2:Nat)≤2 by decide)
  have K_is_whole:=k_is_whole 2 (by decide)
  exact (x_cons (x_if (b_w (w_or (b_not (b_val (m_call K_is_whole hr (l_cons (m_var 1) l_nil)))) (w_or1 (b_not (b_chain op_le op_lt d_le d_lt m_int (m_var 1) (m_len T.z_len (m_var 0))))))) (x_one (x_raise1 xc_NoNumber hr2 (l_cons m_str l_nil))) (xs_of s_nil)) (x_one (x_of (s_ret (m_idx (m_var 0) (m_var 1))))))
theorem sc_hiding_at:FnScope [Str.ofString "sheet",Str.ofString "fleet",Str.ofString "rule",Str.ofString "number"] [Str.ofString "sheet",Str.ofString "fleet",Str.ofString "rule",Str.ofString "number"] (defScope st_hiding_at):=⟨rfl,rfl,rfl,by decide +kernel,rfl,by decide +kernel,by decide +kernel⟩
theorem ok_hiding_at {f:Addr} {fd:FuncData} (F:Fun K "hiding_at" "hiding_at" st_hiding_at f fd) (T:Tx K mg)  (k_one_at:∀ j,3≤j→CalX P w K mg base j "one_at" 2 .cl m_one_at) (k_all_hidings:∀ j,7≤j→Cal P w K mg base j "all_hidings" 3 .nw m_all_hidings):FnOk P w K mg base (CXM P w) 8 f fd [Str.ofString "sheet",Str.ofString "fleet",Str.ofString "rule",Str.ofString "number"] (spX mg K 4 .cl m_hiding_at):=by
  refine okX F sc_hiding_at (fb:=F_hiding_at m_one_at m_all_hidings) (fun cdv A outer s H E hr=>?_) (fun ds d _ e=>e)
  have hN:=sc_hiding_at.nd
  have K_one_at:=k_one_at 7 (by decide)
  have K_all_hidings:=k_all_hidings 7 (by decide)
  exact (x_one (x_ret (px_call K_one_at hr (pl_of (l_cons (m_cl (m_call K_all_hidings hr (l_cons (m_var 0) (l_cons (m_var 1) (l_cons (m_var 2) l_nil))))) (l_cons (m_var 3) l_nil))))))
theorem sc_is_hiding:FnScope [Str.ofString "sheet",Str.ofString "fleet",Str.ofString "rule",Str.ofString "thing"] [Str.ofString "sheet",Str.ofString "fleet",Str.ofString "rule",Str.ofString "thing"] (defScope st_is_hiding):=⟨rfl,rfl,rfl,by decide +kernel,rfl,by decide +kernel,by decide +kernel⟩
theorem ok_is_hiding {f:Addr} {fd:FuncData} (F:Fun K "is_hiding" "is_hiding" st_is_hiding f fd) (T:Tx K mg) (k_is_tuple_of:∀ j,1≤j→Cal P w K mg base j "is_tuple_of" 2 .cl m_is_tuple_of) (k_is_ship:∀ j,3≤j→Cal P w K mg base j "is_ship" 2 .cl m_is_ship) (k_may_follow:∀ j,3≤j→Cal P w K mg base j "may_follow" 3 .cl m_may_follow):FnOk P w K mg base CX0 4 f fd [Str.ofString "sheet",Str.ofString "fleet",Str.ofString "rule",Str.ofString "thing"] (spD K 4 .cl m_is_hiding):=by
  refine okD F sc_is_hiding (fb:=F_is_hiding m_is_tuple_of m_is_ship m_may_follow) (fun cdv A outer s H E hr=>?_) (fun ds d _ e=>e)
  have hN:=sc_is_hiding.nd
  have K_is_tuple_of:=k_is_tuple_of 3 (by decide)
  have K_is_ship:=k_is_ship 3 (by decide)
  have K_may_follow:=k_may_follow 3 (by decide)
  exact (s_cons (s_if (b_not (b_val (m_call K_is_tuple_of hr (l_cons (m_var 3) (l_cons (m_len T.z_len (m_var 1)) l_nil))))) (s_one (s_ret m_bl)) s_nil) (s_cons (s_if (b_not (b_val (m_all T.z_all rfl (m_comp (Nc:=[Str.ofString "ship",Str.ofString "sheet"]) (own:=[Str.ofString "ship"]) (caps:=[0]) (tgN_ok 0) rfl (i_tup (m_var 3)) rfl rfl (fun _ _ _ _ _ _=>have hN:=(by decide +kernel:List.Nodup ([Str.ofString "ship",Str.ofString "sheet"]:List Str));(blk_last (fun _ _ z=>z) (g_name 0 hN) ts_nil (m_call K_is_ship hr (l_cons (m_var 1) (l_cons (m_var 0) l_nil))))))))) (s_one (s_ret m_bl)) s_nil) (s_cons (s_if (b_ne hr (m_comp (Nc:=[Str.ofString "ship"]) (own:=[Str.ofString "ship"]) (caps:=[]) (tgN_ok 0) rfl (i_tup (m_var 3)) rfl rfl (fun _ _ _ _ _ _=>have hN:=(by decide +kernel:List.Nodup ([Str.ofString "ship"]:List Str));(blk_last (fun _ _ z=>z) (g_name 0 hN) ts_nil (m_idx (m_var 0) m_int)))) (m_list T.z_list (m_var 1))) (s_one (s_ret m_bl)) s_nil) (s_one (s_ret (m_all T.z_all rfl (m_comp (Nc:=[Str.ofString "at",Str.ofString "ship",Str.ofString "other",Str.ofString "thing",Str.ofString "rule"]) (own:=[Str.ofString "at",Str.ofString "ship",Str.ofString "other"]) (caps:=[3,2]) (tgT_ok [0,1]) rfl (i_enum T.z_enumerate (m_var 3)) rfl rfl (fun _ _ _ _ _ _=>have hN:=(by decide +kernel:List.Nodup ([Str.ofString "at",Str.ofString "ship",Str.ofString "other",Str.ofString "thing",Str.ofString "rule"]:List Str));(blk_more (fun _ _ z=>z) rfl (g_tup rfl (gs_cons 0 hN (gs_cons 1 hN gs_nil))) ts_nil (i_tup (m_slT (m_var 3) (o_some (m_add (m_var 0) m_int)) o_none)) (tgN_ok 2) (blk_last (fun _ _ z=>z) (g_name 2 hN) ts_nil (m_call K_may_follow hr (l_cons (m_var 4) (l_cons (m_var 1) (l_cons (m_var 2) l_nil))))))))))))))
theorem sc_number_of:FnScope [Str.ofString "sheet",Str.ofString "fleet",Str.ofString "rule",Str.ofString "thing"] [Str.ofString "sheet",Str.ofString "fleet",Str.ofString "rule",Str.ofString "thing"] (defScope st_number_of):=⟨rfl,rfl,rfl,by decide +kernel,rfl,by decide +kernel,by decide +kernel⟩
theorem ok_number_of {f:Addr} {fd:FuncData} (F:Fun K "number_of" "number_of" st_number_of f fd) (T:Tx K mg) (xc_NoHiding:XC P w K mg base 1 "NoHiding") (k_is_hiding:∀ j,4≤j→Cal P w K mg base j "is_hiding" 4 .cl m_is_hiding) (k_all_hidings:∀ j,7≤j→Cal P w K mg base j "all_hidings" 3 .nw m_all_hidings):FnOk P w K mg base (CXM P w) 8 f fd [Str.ofString "sheet",Str.ofString "fleet",Str.ofString "rule",Str.ofString "thing"] (spX mg K 4 .cl m_number_of):=by
  refine okX F sc_number_of (fb:=F_number_of m_is_hiding m_all_hidings) (fun cdv A outer s H E hr=>?_) (fun ds d _ e=>e)
  have hN:=sc_number_of.nd
  have hr2:=hr.mono (show (2:Nat)≤7 by decide)
  have K_is_hiding:=k_is_hiding 7 (by decide)
  have K_all_hidings:=k_all_hidings 7 (by decide)
  exact (x_cons (x_if (b_not (b_val (m_call K_is_hiding hr (l_cons (m_var 0) (l_cons (m_var 1) (l_cons (m_var 2) (l_cons (m_var 3) l_nil))))))) (x_one (x_raise1 xc_NoHiding hr2 (l_cons m_str l_nil))) (xs_of s_nil)) (x_one (x_of (s_ret (m_index hr (m_cl (m_call K_all_hidings hr (l_cons (m_var 0) (l_cons (m_var 1) (l_cons (m_var 2) l_nil))))) (m_var 3))))))
theorem sc__law_told:FnScope [Str.ofString "way",Str.ofString "game",Str.ofString "thing",Str.ofString "sheet",Str.ofString "fleet",Str.ofString "rule",Str.ofString "found",Str.ofString "e"] [Str.ofString "way",Str.ofString "game",Str.ofString "thing"] (defScope st__law_told):=⟨rfl,rfl,rfl,by decide +kernel,rfl,by decide +kernel,by decide +kernel⟩
theorem ok__law_told {f:Addr} {fd:FuncData} (F:Fun K "_law_told" "_law_told" st__law_told f fd) (T:Tx K mg)  (tx:TrX P w K mg base cs_) (k_hiding_at:∀ j,8≤j→CalX P w K mg base j "hiding_at" 4 .cl m_hiding_at) (k_number_of:∀ j,8≤j→CalX P w K mg base j "number_of" 4 .cl m_number_of):FnOk P w K mg base CX0 9 f fd [Str.ofString "way",Str.ofString "game",Str.ofString "thing"] (spD K 3 .cl m__law_told):=by
  refine okX0 F sc__law_told (fb:=F__law_told m_hiding_at m_number_of) (fun cdv A outer s H E hr=>?_) (fun ds d _ e=>e)
  have hN:=sc__law_told.nd
  have K_hiding_at:=k_hiding_at 8 (by decide)
  have K_number_of:=k_number_of 8 (by decide)
  exact (x0_cons (x_top (x_of (s_un rfl (m_var 1) (gs_cons 3 hN (gs_cons 4 hN (gs_cons 5 hN gs_nil)))))) (x0_cons (x_top (x_of (s_set 6 m_non hN))) (x0_cons (x0_tryT 7 6 tx hr (by decide) ⟨rfl,rfl,rfl⟩ hN (by decide) (fun _=>(x_one (x_if (b_eq hr (m_var 0) m_int) (x_one x_never) (x_one (x_if (b_eq hr (m_var 0) m_int) (x_one (x_set 6 (px_call K_hiding_at hr (pl_of (l_cons (m_var 3) (l_cons (m_var 4) (l_cons (m_var 5) (l_cons (m_var 2) l_nil)))))) hN)) (x_one (x_set 6 (px_call K_number_of hr (pl_of (l_cons (m_var 3) (l_cons (m_var 4) (l_cons (m_var 5) (l_cons (m_var 2) l_nil)))))) hN)))))))) (x0_one (x_top (x_of (s_ret (m_var 6))))))))
theorem sc__law_odd:FnScope [Str.ofString "cell",Str.ofString "way",Str.ofString "digit",Str.ofString "deep",Str.ofString "plain",Str.ofString "parts"] [Str.ofString "cell"] (defScope st__law_odd):=⟨rfl,rfl,rfl,by decide +kernel,rfl,by decide +kernel,by decide +kernel⟩
theorem ok__law_odd {f:Addr} {fd:FuncData} (F:Fun K "_law_odd" "_law_odd" st__law_odd f fd) (T:Tx K mg) (k__law_drawn:∀ j,2≤j→Cal P w K mg base j "_law_drawn" 2 .nw m__law_drawn):FnOk P w K mg base CX0 3 f fd [Str.ofString "cell"] (spD K 1 .cl m__law_odd):=by
  refine okD F sc__law_odd (fb:=F__law_odd m__law_drawn) (fun cdv A outer s H E hr=>?_) (fun ds d _ e=>e)
  have hN:=sc__law_odd.nd
  have K__law_drawn:=k__law_drawn 2 (by decide)
  exact (s_cons (s_unL rfl (m_cl (m_call K__law_drawn hr (l_cons (m_var 0) (l_cons (m_cl (m_lst (l_cons m_int (l_cons m_int (l_cons m_int l_nil))))) l_nil)))) (gs_cons 1 hN (gs_cons 2 hN (gs_cons 3 hN gs_nil)))) (s_cons (s_set 4 (m_cl (m_lst (l_cons m_int (l_cons (m_neg m_int) (l_cons m_int (l_cons (m_var 2) (l_cons m_int (l_cons m_int (l_cons m_bl (l_cons m_bl (l_cons m_non (l_cons m_str (l_cons m_str (l_cons m_str (l_cons m_str (l_cons (m_pow m_int m_int) (l_cons (m_sub m_int (m_pow m_int m_int)) l_nil))))))))))))))))) hN) (s_cons (s_if (b_lt (m_var 1) m_int) (s_one (s_ret (m_idx (m_var 4) (m_var 1)))) s_nil) (s_cons (s_setC 5 (c_comp (Nc:=[Str.ofString "k",Str.ofString "plain",Str.ofString "digit"]) (own:=[Str.ofString "k"]) (caps:=[4,2]) (tgN_ok 0) rfl (i_range1 T.z_range (m_var 3)) rfl rfl (fun _ _ _ _ _ _=>have hN:=(by decide +kernel:List.Nodup ([Str.ofString "k",Str.ofString "plain",Str.ofString "digit"]:List Str));(blk_last (fun _ _ z=>z) (g_name 0 hN) ts_nil (m_idx (m_var 1) (m_mod (m_add (m_var 2) (m_mul (m_var 0) (m_var 0))) m_int))))) hN) (s_cons (s_if (b_gt (m_var 3) m_int) (s_one (s_set 5 (m_cl (m_lst (l_cons (m_tuple T.z_tuple (m_slL (m_var 5) o_none (o_some m_int))) (l_cons (m_cl (m_list T.z_list (m_slL (m_var 5) (o_some m_int) o_none))) (l_cons (m_idx (m_var 5) m_int) l_nil))))) hN)) s_nil) (s_one (s_ret (m_idx (m_lst (l_cons (m_tuple T.z_tuple (m_var 5)) (l_cons (m_var 5) (l_cons (m_tup (l_cons (m_var 5) (l_cons (m_tuple T.z_tuple (m_var 5)) l_nil))) (l_cons (m_tuple T.z_tuple (m_slL (m_var 5) o_none (o_some m_int))) l_nil))))) (m_sub (m_var 1) m_int)))))))))
theorem sc_law:FnScope [Str.ofString "script",Str.ofString "cell",Str.ofString "game",Str.ofString "rows",Str.ofString "found",Str.ofString "due",Str.ofString "turn",Str.ofString "far",Str.ofString "number",Str.ofString "k",Str.ofString "thing"] [Str.ofString "script"] (defScope st_law):=⟨rfl,rfl,rfl,by decide +kernel,rfl,by decide +kernel,by decide +kernel⟩
theorem ok_law {f:Addr} {fd:FuncData} (F:Fun K "law" "law" st_law f fd) (T:Tx K mg) (k__law_game:∀ j,3≤j→Cal P w K mg base j "_law_game" 1 .cl m__law_game) (k__law_all:∀ j,3≤j→Cal P w K mg base j "_law_all" 3 .nw m__law_all) (k_how_many:∀ j,8≤j→Cal P w K mg base j "how_many" 3 .cl m_how_many) (k__law_whole:∀ j,1≤j→Cal P w K mg base j "_law_whole" 1 .cl m__law_whole) (k__law_only:∀ j,1≤j→Cal P w K mg base j "_law_only" 1 .nw m__law_only) (k__law_told0:∀ j,9≤j→Cal P w K mg base j "_law_told" 3 .nw m__law_told0) (k__law_stir:∀ j,1≤j→Cal P w K mg base j "_law_stir" 2 .cl m__law_stir) (k__law_told:∀ j,9≤j→Cal P w K mg base j "_law_told" 3 .cl m__law_told) (k__law_odd:∀ j,3≤j→Cal P w K mg base j "_law_odd" 1 .cl m__law_odd):FnOk P w K mg base CX0 10 f fd [Str.ofString "script"] (spD K 1 .cl m_law):=by
  refine okD F sc_law (fb:=F_law m__law_game m__law_all m_how_many m__law_whole m__law_only m__law_told0 m__law_stir m__law_told m__law_odd) (fun cdv A outer s H E hr=>?_) (fun ds d _ e=>e)
  have hN:=sc_law.nd
  have K__law_game:=k__law_game 9 (by decide)
  have K__law_all:=k__law_all 9 (by decide)
  have K_how_many:=k_how_many 9 (by decide)
  have K__law_whole:=k__law_whole 9 (by decide)
  have K__law_only:=k__law_only 9 (by decide)
  have K__law_told0:=k__law_told0 9 (by decide)
  have K__law_stir:=k__law_stir 9 (by decide)
  have K__law_told:=k__law_told 9 (by decide)
  have K__law_odd:=k__law_odd 9 (by decide)
  exact (s_cons (s_for PassesOwn.never rfl (i_list (m_cl (m_addL (m_lst (l_cons m_int l_nil)) (m_slL (m_var 0) o_none (o_some m_int))))) (g_name 1 hN) (s_cons (s_set 2 (m_call K__law_game hr (l_cons (m_var 1) l_nil)) hN) (s_cons (s_set 3 (m_cl (m_call K__law_all hr (l_cons (m_idx (m_var 2) m_int) (l_cons (m_idx (m_var 2) m_int) (l_cons (m_idx (m_var 2) m_int) l_nil))))) hN) (s_cons (s_set 4 (m_call K_how_many hr (l_cons (m_idx (m_var 2) m_int) (l_cons (m_idx (m_var 2) m_int) (l_cons (m_idx (m_var 2) m_int) l_nil)))) hN) (s_cons (s_if (b_w (w_or (b_not (b_val (m_call K__law_whole hr (l_cons (m_var 4) l_nil)))) (w_or1 (b_ne hr (m_var 4) (m_len T.z_len (m_var 3)))))) (s_one (s_ret m_bl)) s_nil) (s_cons (s_set 5 (m_ite (b_le (m_len T.z_len (m_var 3)) m_int) (m_var 3) (m_cl (m_call K__law_only hr (l_cons m_str l_nil)))) hN) (s_cons (s_for PassesOwn.never rfl (i_range1 T.z_range m_int) (g_name 6 hN) (s_cons (s_setO 4 (m_call K__law_told0 hr (l_cons m_int (l_cons (m_var 2) (l_cons m_non l_nil)))) hN) (s_cons (s_if (b_w (w_or (b_not (b_val (m_isi .list T.z_isinstance T.z_list (m_pv 4)))) (w_or1 (b_ne hr (m_pv 4) (m_var 5))))) (s_one (s_ret m_bl)) s_nil) (s_one (s_app 4 m_non))))) (s_cons (s_set 7 (m_add m_int (m_mod (m_call K__law_stir hr (l_cons (m_var 1) (l_cons m_int l_nil))) (m_pow m_int m_int))) hN) (s_cons (s_for PassesOwn.never rfl (i_list (m_cl (m_lst (l_cons (m_neg m_int) (l_cons (m_sub m_int (m_var 7)) (l_cons (m_len T.z_len (m_var 3)) (l_cons (m_add (m_len T.z_len (m_var 3)) (m_var 7)) l_nil))))))) (g_name 8 hN) (s_one (s_if (b_ne hr (m_call K__law_told hr (l_cons m_int (l_cons (m_var 2) (l_cons (m_var 8) l_nil)))) (m_call K__law_only hr (l_cons m_str l_nil))) (s_one (s_ret m_bl)) s_nil))) (s_cons (s_for PassesOwn.never rfl (i_range1 T.z_range (m_mul m_int (m_intc T.z_int (m_ne hr (m_var 3) (m_lst l_nil))))) (g_name 9 hN) (s_cons (s_set 8 (m_idx (m_lst (l_cons m_int (l_cons (m_sub (m_len T.z_len (m_var 3)) m_int) (l_cons (m_mod (m_call K__law_stir hr (l_cons (m_var 1) (l_cons (m_add m_int (m_var 9)) l_nil))) (m_len T.z_len (m_var 3))) l_nil)))) (m_min T.z_min rfl (m_var 9) m_int)) hN) (s_one (s_if (b_w (w_or (b_ne hr (m_call K__law_told hr (l_cons m_int (l_cons (m_var 2) (l_cons (m_var 8) l_nil)))) (m_idx (m_var 3) (m_var 8))) (w_or1 (b_ne hr (m_call K__law_told hr (l_cons m_int (l_cons (m_var 2) (l_cons (m_idx (m_var 3) (m_var 8)) l_nil)))) (m_var 8))))) (s_one (s_ret m_bl)) s_nil)))) (s_one (s_for PassesOwn.never rfl (i_list (m_cl (m_lst (l_cons m_non (l_cons (m_tup l_nil) (l_cons (m_cl (m_list T.z_list (m_slL (m_var 3) o_none (o_some m_int)))) (l_cons (m_ite (b_ne hr (m_var 3) (m_lst l_nil)) (m_slW (m_idx (m_var 3) m_int) o_none (o_some (m_neg m_int))) m_int) (l_cons (m_call K__law_odd hr (l_cons (m_var 1) l_nil)) (l_cons m_bl l_nil))))))))) (g_name 10 hN) (s_one (s_if (b_ne hr (m_call K__law_told hr (l_cons m_int (l_cons (m_var 2) (l_cons (m_var 10) l_nil)))) (m_call K__law_only hr (l_cons m_str l_nil))) (s_one (s_ret m_bl)) s_nil)))))))))))))) (s_one (s_ret m_bl)))
def st_HideError:Stmt:=pg.main.body.getD 1 (.Pass ⟨0,0,0,0⟩)
def st_init:Stmt:=(clsB st_HideError).getD 0 (.Pass ⟨0,0,0,0⟩)
def st__law_flags:Stmt:=pg.main.body.getD 41 (.Pass ⟨0,0,0,0⟩)
theorem sc_init:FnScope [Str.ofString "self",Str.ofString "words",Str.ofString "cell"] [Str.ofString "self",Str.ofString "words",Str.ofString "cell"] (defScope st_init):=⟨rfl,rfl,rfl,by decide +kernel,rfl,by decide +kernel,by decide +kernel⟩
theorem ok_init {f HE:Addr} {oc kV dV doc pm cdv ct:Value} {od an:Option Addr} {osl:Array (Option Value)} (lk:K.lookup f=some ⟨oc,od,.func (PySem.W.fnOf "__init__" "HideError.__init__" (defArgs st_init) (defBody st_init) (defScope st_init) dV kV doc pm an cdv ct),osl⟩) (hcd:PySem.W.codeIn K cdv "HideError.__init__"=true) (hv:mg "ValueError"=none) :
    FnOk P w K mg base CX0 1 f (PySem.W.fnOf "__init__" "HideError.__init__" (defArgs st_init) (defBody st_init) (defScope st_init) dV kV doc pm an cdv ct) [Str.ofString "self",Str.ofString "words",Str.ofString "cell"] (spI K HE f):=by
  refine fn_of lk hcd sc_init (fun vs H Q E ⟨e,C,wd,cv,h,_⟩=>by rw [h];rfl) fun A outer s H vs Q E hr ⟨e,C,wd,cv,h,ec,hx,q⟩=>?_
  subst h
  refine ⟨_,pss_cons (ps_expr (pe_vinit hv (pa_cons (pe_var (i:=0) rfl (.inl rfl) (by decide) (by decide)) (pa_cons (pe_var (i:=1) rfl (.inl rfl) (by decide) (by decide)) pa_nil rfl) rfl) rfl rfl rfl rfl) rfl) (pss_one (ps_cell (pe_var (i:=0) rfl (.inl rfl) (by decide) (by decide)) (pe_var (i:=2) rfl (.inl rfl) (by decide) (by decide)) rfl)),?_⟩
  exact ⟨.ref e,rfl,wd,rfl,e,wd,C,HE,f,rfl,hx,ec,cv,rfl,.ref e,rfl,e,C,HE,f,rfl,hx,ec,fun dx h1 h2=>q dx h1 h2⟩
theorem init_b1 {dV kV doc pm cdv ct:Value} {an od:Option Addr} {dT:Addr} {n:Nat} {t0:Tok} {sl:Array (Option Value)} (hd:dV=.ref dT) (ld:K.lookup dT=some ⟨.type "tuple",od,.seq #[.str (Str.ofString "") t0,.none] n,sl⟩):Binds K (PySem.W.fnOf "__init__" "HideError.__init__" (defArgs st_init) (defBody st_init) (defScope st_init) dV kV doc pm an cdv ct) [Str.ofString "self",Str.ofString "words",Str.ofString "cell"] [.none]:=by
  subst hd
  intro s us X hl
  have hl':us.length=2:=by simpa using hl
  match us,hl' with
  | [a,b],_=>exact BindsTo.of_defaults (T:=dT) (items:=#[.str (Str.ofString "") t0,.none]) (n:=n) rfl (X _ _ ld) rfl rfl rfl
theorem init_b2 {dV kV doc pm cdv ct:Value} {an od:Option Addr} {dT:Addr} {n:Nat} {t0:Tok} {sl:Array (Option Value)} (hd:dV=.ref dT) (ld:K.lookup dT=some ⟨.type "tuple",od,.seq #[.str (Str.ofString "") t0,.none] n,sl⟩):Binds K (PySem.W.fnOf "__init__" "HideError.__init__" (defArgs st_init) (defBody st_init) (defScope st_init) dV kV doc pm an cdv ct) [Str.ofString "self",Str.ofString "words",Str.ofString "cell"] []:=by
  subst hd
  intro s us X hl
  have hl':us.length=3:=by simpa using hl
  match us,hl' with
  | [a,b,c],_=>first | exact BindsTo.of_eq rfl | exact BindsTo.of_defaults (T:=dT) (items:=#[.str (Str.ofString "") t0,.none]) (n:=n) rfl (X _ _ ld) rfl rfl rfl
theorem sc_flags:FnScope [Str.ofString "e",Str.ofString "flags"] [Str.ofString "e"] (defScope st__law_flags):=⟨rfl,rfl,rfl,by decide +kernel,rfl,by decide +kernel,by decide +kernel⟩
theorem ok_flags {f HE:Addr} {fd:FuncData} (F:Fun K "_law_flags" "_law_flags" st__law_flags f fd) (hi:mg "isinstance"=none) (hv:mg "ValueError"=none) {D1 D2 D3 D4 D5 D6 D7 D8 D9 D10:Addr} (m1:mg "NoHiding"=some (.ref D1)) (m2:mg "NoNumber"=some (.ref D2)) (m3:mg "TooMany"=some (.ref D3)) (m4:mg "NoCell"=some (.ref D4)) (m5:mg "NoShot"=some (.ref D5)) (m6:mg "NothingLeft"=some (.ref D6)) (m7:mg "NoCounts"=some (.ref D7)) (m8:mg "Over"=some (.ref D8)) (m9:mg "NoText"=some (.ref D9)) (m10:mg "NoRow"=some (.ref D10)) :
    FnH P w K mg base 1 f fd [Str.ofString "e"] (spF K mg HE):=by
  obtain ⟨oc,od,kV,doc,pm,an,cdv,ct,osl,rfl,lk,hcd⟩:=F.ex
  refine fn_ofH lk hcd sc_flags (fun vs H Q E ⟨v,C,c,h,_⟩=>by rw [h];rfl) fun A outer s H vs Q hsp=>?_
  have hN:=sc_flags.nd
  have cat:∀ {X:Cx},OpR X (binaryOp .Add) rCat:=op_cat
  refine ⟨_,pss_cons (ps_set hN (i:=1) rfl (.inl rfl) (pe_lst (pa_cons (pe_isX (i:=0) hi m1) (pa_cons (pe_isX (i:=0) hi m2) (pa_cons (pe_isX (i:=0) hi m3) (pa_cons (pe_isX (i:=0) hi m4) pa_nil rfl) rfl) rfl) rfl)) rfl (.inr rfl)) (pss_cons (ps_set hN (i:=1) rfl (.inl rfl) (pe_op cat (pe_var (i:=1) rfl (.inl rfl) (by decide) (by decide)) (pe_lst (pa_cons (pe_isX (i:=0) hi m5) (pa_cons (pe_isX (i:=0) hi m6) (pa_cons (pe_isX (i:=0) hi m7) (pa_cons (pe_isX (i:=0) hi m8) pa_nil rfl) rfl) rfl) rfl))) rfl (.inr rfl)) (pss_one (ps_ret (pe_op cat (pe_var (i:=1) rfl (.inl rfl) (by decide) (by decide)) (pe_lst (pa_cons (pe_isX (i:=0) hi m9) (pa_cons (pe_isX (i:=0) hi m10) (pa_cons (pe_isV (i:=0) hi hv) pa_nil rfl) rfl) rfl)))))),?_⟩
  exact flags_read m1 m2 m3 m4 m5 m6 m7 m8 m9 m10 hsp
end
end K04
namespace K04
open PySem PySem.Spec PyProof.Rows L2 Mi Xc
open PySem.W (nsIn findIn keepIn codeIn mg_of mg_none_of)
theorem all_mk {l:PySem.W.OpenLaw} {w:World} {K:PySem.W.Frag} {h:Heap} {mg:Str→Option Value} {fa:Addr} (X:K.In h) (G:h.Ns mainGlobals mg) (hfa:mg "law"=some (.ref fa))
    {f0 f1 f2 f3 f4 f5 f6 f7 f8 f9 f10 f11 f12 f13 f14 f15 f16 f17 f18 f19 f20 f21 f22 f23 f24 f25 f26 f27 f28 f29 f30 f31 f32 f33:Addr}
    (h0:AtF K "_law_stir" st__law_stir f0)
    (h1:AtF K "_law_drawn" st__law_drawn f1)
    (h2:AtF K "_law_game" st__law_game f2)
    (h3:AtF K "_law_ships" st__law_ships f3)
    (h4:AtF K "_law_cells" st__law_cells f4)
    (h5:AtF K "_law_halo" st__law_halo f5)
    (h6:AtF K "_law_free" st__law_free f6)
    (h7:AtF K "_law_all" st__law_all f7)
    (h8:AtF K "rows_between" st_rows_between f8)
    (h9:AtF K "columns_between" st_columns_between f9)
    (h10:AtF K "keep" st_keep f10)
    (h11:AtF K "may_follow" st_may_follow f11)
    (h12:AtF K "hidings_among" st_hidings_among f12)
    (h13:AtF K "all_cells" st_all_cells f13)
    (h14:AtF K "is_tuple_of" st_is_tuple_of f14)
    (h15:AtF K "is_whole" st_is_whole f15)
    (h16:AtF K "is_size" st_is_size f16)
    (h17:AtF K "is_cell" st_is_cell f17)
    (h18:AtF K "is_ship" st_is_ship f18)
    (h19:AtF K "ships_of" st_ships_of f19)
    (h20:AtF K "all_hidings" st_all_hidings f20)
    (h21:AtF K "how_many" st_how_many f21)
    (h22:AtF K "_law_whole" st__law_whole f22)
    (h23:AtF K "_law_only" st__law_only f23)
    (h24:AtF K "if_not_too_many" st_if_not_too_many f24)
    (h25:AtF K "hidings" st_hidings f25)
    (h26:AtF K "one_at" st_one_at f26)
    (h27:AtF K "hiding_at" st_hiding_at f27)
    (h28:AtF K "is_hiding" st_is_hiding f28)
    (h29:AtF K "number_of" st_number_of f29)
    (h30:AtF K "_law_told" st__law_told f30)
    (h31:AtF K "_law_odd" st__law_odd f31)
    (h32:AtF K "law" st_law f32)
    (h33:AtF K "_law_flags" st__law_flags f33)
    (z_ValueError:nsIn K mainGlobals "ValueError"=some none)
    (z_all:nsIn K mainGlobals "all"=some none)
    (z_bool:nsIn K mainGlobals "bool"=some none)
    (z_enumerate:nsIn K mainGlobals "enumerate"=some none)
    (z_int:nsIn K mainGlobals "int"=some none)
    (z_isinstance:nsIn K mainGlobals "isinstance"=some none)
    (z_len:nsIn K mainGlobals "len"=some none)
    (z_list:nsIn K mainGlobals "list"=some none)
    (z_max:nsIn K mainGlobals "max"=some none)
    (z_min:nsIn K mainGlobals "min"=some none)
    (z_range:nsIn K mainGlobals "range"=some none)
    (z_sorted:nsIn K mainGlobals "sorted"=some none)
    (z_tuple:nsIn K mainGlobals "tuple"=some none)
    {t_GREATEST:Tok} (a_GREATEST:nsIn K mainGlobals "GREATEST"=some (some (.int 8 t_GREATEST)))
    {t_MOST_TOLD:Tok} (a_MOST_TOLD:nsIn K mainGlobals "MOST_TOLD"=some (some (.int 1000 t_MOST_TOLD)))
    {ad_WAYS:Addr} {od_WAYS:Option Addr} {n_WAYS:Nat} {sl_WAYS:Array (Option Value)} {t0_WAYS t1_WAYS:Tok} (a_WAYS:nsIn K mainGlobals "WAYS"=some (some (.ref ad_WAYS))) (l_WAYS:K.lookup ad_WAYS=some ⟨.type "tuple",od_WAYS,.seq #[(.str (Str.ofString "along") t0_WAYS),(.str (Str.ofString "down") t1_WAYS)] n_WAYS,sl_WAYS⟩)
    {fI dT:Addr} {cH c0 c1 c2 c3 c4 c5 c6 c7 c8 c9:Nat} (xH:AtC K "HideError" cH bmV)
    (x0:AtC K "NoHiding" c0 (.ref cH::bmV))
    (x1:AtC K "NoNumber" c1 (.ref cH::bmV))
    (x2:AtC K "TooMany" c2 (.ref cH::bmV))
    (x3:AtC K "NoCell" c3 (.ref cH::bmV))
    (x4:AtC K "NoShot" c4 (.ref cH::bmV))
    (x5:AtC K "NothingLeft" c5 (.ref cH::bmV))
    (x6:AtC K "NoCounts" c6 (.ref cH::bmV))
    (x7:AtC K "Over" c7 (.ref cH::bmV))
    (x8:AtC K "NoText" c8 (.ref cH::bmV))
    (x9:AtC K "NoRow" c9 (.ref cH::bmV))
    (r2:AtR K c2 fI)
    (r1:AtR K c1 fI)
    (r0:AtR K c0 fI)
    {kV_i dc_i pm_i cd_i ct_i:Value} {od_i an_i odT:Option Addr} {sl_i slT:Array (Option Value)} {nT:Nat} {tT:Tok} (xl_init:K.lookup fI=some ⟨.type "function",od_i,.func (PySem.W.fnOf "__init__" "HideError.__init__" (defArgs st_init) (defBody st_init) (defScope st_init) (.ref dT) kV_i dc_i pm_i an_i cd_i ct_i),sl_i⟩) (xc_init:codeIn K cd_i "HideError.__init__"=true) (xl_dT:K.lookup dT=some ⟨.type "tuple",odT,.seq #[.str (Str.ofString "") tT,.none] nT,slT⟩)
    (lt:cH<c0∧c0<c1∧c1<c2∧c2<c3∧c3<c4∧c4<c5∧c5<c6∧c6<c7∧c7<c8∧c8<c9)
    : ∃ fd:FuncData,(∀ (s:Shared) (v:Value),BindsTo s fd ⟨[v],[]⟩ [("script",v)])∧∀ base:Heap,K.In base→base.Ns mainGlobals mg→FnOk l.prog w K mg base CX0 10 fa fd ["script"] (spD K 1 .cl m_law):=by
  obtain ⟨oc,kV,dc,pm,cd,ct,od,an,sl,aL,lL,cL,kL⟩:=h32
  have e:=hfa.symm.trans (mg_of X G aL)
  cases e
  have T:Tx K mg:=⟨mg_none_of X G z_ValueError,mg_none_of X G z_all,mg_none_of X G z_bool,mg_none_of X G z_enumerate,mg_none_of X G z_int,mg_none_of X G z_isinstance,mg_none_of X G z_len,mg_none_of X G z_list,mg_none_of X G z_max,mg_none_of X G z_min,mg_none_of X G z_range,mg_none_of X G z_sorted,mg_none_of X G z_tuple,⟨(.int 8),_,mg_of X G a_GREATEST,⟨_,rfl⟩,fun _=>rfl⟩,⟨(.int 1000),_,mg_of X G a_MOST_TOLD,⟨_,rfl⟩,fun _=>rfl⟩,⟨.ref ad_WAYS,_,mg_of X G a_WAYS,rfl,fun _=>⟨ad_WAYS,[(.str (Str.ofString "along")),(.str (Str.ofString "down"))],rfl,.inr ⟨_,_,_,l_WAYS,rfl,rfl,(show (2:Nat)≤sizeLine by decide),(.cons ⟨_,rfl⟩ (.cons ⟨_,rfl⟩ .nil))⟩,⟨_,_,rfl,⟨rfl,by decide +kernel⟩,⟨_,_,rfl,⟨rfl,by decide +kernel⟩,rfl⟩⟩⟩⟩⟩
  refine ⟨PySem.W.fnOf "law" "law" (defArgs st_law) (defBody st_law) (defScope st_law) .none kV dc pm an cd ct,fun s v=>.of_eq rfl,fun base _ _=>?_⟩
  have OI:FnOk l.prog w K mg base CX0 1 fI _ _ (spI K cH fI):=ok_init xl_init xc_init (mg_none_of X G z_ValueError)
  have e2:=x2.ec r2 xl_init
  have XC_TooMany:XC l.prog w K mg base 1 "TooMany":=⟨c2,cH,fI,_,x2.g X G,e2,OI,init_b1 rfl xl_dT,init_b2 rfl xl_dT⟩
  have e1:=x1.ec r1 xl_init
  have XC_NoNumber:XC l.prog w K mg base 1 "NoNumber":=⟨c1,cH,fI,_,x1.g X G,e1,OI,init_b1 rfl xl_dT,init_b2 rfl xl_dT⟩
  have e0:=x0.ec r0 xl_init
  have XC_NoHiding:XC l.prog w K mg base 1 "NoHiding":=⟨c0,cH,fI,_,x0.g X G,e0,OI,init_b1 rfl xl_dT,init_b2 rfl xl_dT⟩
  have CL2:ClF K mg cH "TooMany" c2:=clf_of e2 r2.2.2.2.2.1 r2.2.2.2.2.2.1 r2.2.2.2.2.2.2 (ot_cons (x0.ot X G (ad_ne (by omega)) (ad_ne (by omega)) (by decide)) (ot_cons (x1.ot X G (ad_ne (by omega)) (ad_ne (by omega)) (by decide)) (ot_cons (x2.oe X G (ad_ne (by omega))) (ot_cons (x3.ot X G (ad_ne (by omega)) (ad_ne (by omega)) (by decide)) (ot_cons (x4.ot X G (ad_ne (by omega)) (ad_ne (by omega)) (by decide)) (ot_cons (x5.ot X G (ad_ne (by omega)) (ad_ne (by omega)) (by decide)) (ot_cons (x6.ot X G (ad_ne (by omega)) (ad_ne (by omega)) (by decide)) (ot_cons (x7.ot X G (ad_ne (by omega)) (ad_ne (by omega)) (by decide)) (ot_cons (x8.ot X G (ad_ne (by omega)) (ad_ne (by omega)) (by decide)) (ot_cons (x9.ot X G (ad_ne (by omega)) (ad_ne (by omega)) (by decide)) ot_nil))))))))))
  have CL1:ClF K mg cH "NoNumber" c1:=clf_of e1 r1.2.2.2.2.1 r1.2.2.2.2.2.1 r1.2.2.2.2.2.2 (ot_cons (x0.ot X G (ad_ne (by omega)) (ad_ne (by omega)) (by decide)) (ot_cons (x1.oe X G (ad_ne (by omega))) (ot_cons (x2.ot X G (ad_ne (by omega)) (ad_ne (by omega)) (by decide)) (ot_cons (x3.ot X G (ad_ne (by omega)) (ad_ne (by omega)) (by decide)) (ot_cons (x4.ot X G (ad_ne (by omega)) (ad_ne (by omega)) (by decide)) (ot_cons (x5.ot X G (ad_ne (by omega)) (ad_ne (by omega)) (by decide)) (ot_cons (x6.ot X G (ad_ne (by omega)) (ad_ne (by omega)) (by decide)) (ot_cons (x7.ot X G (ad_ne (by omega)) (ad_ne (by omega)) (by decide)) (ot_cons (x8.ot X G (ad_ne (by omega)) (ad_ne (by omega)) (by decide)) (ot_cons (x9.ot X G (ad_ne (by omega)) (ad_ne (by omega)) (by decide)) ot_nil))))))))))
  have CL0:ClF K mg cH "NoHiding" c0:=clf_of e0 r0.2.2.2.2.1 r0.2.2.2.2.2.1 r0.2.2.2.2.2.2 (ot_cons (x0.oe X G (ad_ne (by omega))) (ot_cons (x1.ot X G (ad_ne (by omega)) (ad_ne (by omega)) (by decide)) (ot_cons (x2.ot X G (ad_ne (by omega)) (ad_ne (by omega)) (by decide)) (ot_cons (x3.ot X G (ad_ne (by omega)) (ad_ne (by omega)) (by decide)) (ot_cons (x4.ot X G (ad_ne (by omega)) (ad_ne (by omega)) (by decide)) (ot_cons (x5.ot X G (ad_ne (by omega)) (ad_ne (by omega)) (by decide)) (ot_cons (x6.ot X G (ad_ne (by omega)) (ad_ne (by omega)) (by decide)) (ot_cons (x7.ot X G (ad_ne (by omega)) (ad_ne (by omega)) (by decide)) (ot_cons (x8.ot X G (ad_ne (by omega)) (ad_ne (by omega)) (by decide)) (ot_cons (x9.ot X G (ad_ne (by omega)) (ad_ne (by omega)) (by decide)) ot_nil))))))))))
  obtain ⟨_,F33,k33,g33⟩:=h33.fn X G
  have b33:=F33.binds (ps:=["e"]) fun _ _ _ _ _ _ us hl=>match us,hl with | [_],_=>rfl
  have TX:TrX l.prog w K mg base cs_:=by
    have GH:=xH.g X G
    obtain ⟨_,_,_,_,_,_,_,_,_,_,_,_,_,_,_,lH⟩:=xH
    exact ⟨cH,_,_,_,_,_,_,_,_,_,_,_,_,_,_,f33,_,GH,lH,(ct_cons (x2.g X G) CL2 (ct_cons (x1.g X G) CL1 (ct_cons (x0.g X G) CL0 ct_nil))),ok_flags F33 (mg_none_of X G z_isinstance) (mg_none_of X G z_ValueError) (x0.g X G) (x1.g X G) (x2.g X G) (x3.g X G) (x4.g X G) (x5.g X G) (x6.g X G) (x7.g X G) (x8.g X G) (x9.g X G),g33,k33,b33⟩
  obtain ⟨_,F0,k0,g0⟩:=h0.fn X G
  have b0:=F0.binds (ps:=["cell","k"]) fun _ _ _ _ _ _ us hl=>match us,hl with | [_,_],_=>rfl
  have C0:=cal_of (ok__law_stir (P:=l.prog) (w:=w) (base:=base) F0 T ) k0 g0 b0
  obtain ⟨_,F1,k1,g1⟩:=h1.fn X G
  have b1:=F1.binds (ps:=["cell","sizes"]) fun _ _ _ _ _ _ us hl=>match us,hl with | [_,_],_=>rfl
  have C1:=cal_of (ok__law_drawn (P:=l.prog) (w:=w) (base:=base) F1 T C0) k1 g1 b1
  obtain ⟨_,F2,k2,g2⟩:=h2.fn X G
  have b2:=F2.binds (ps:=["cell"]) fun _ _ _ _ _ _ us hl=>match us,hl with | [_],_=>rfl
  have C2:=cal_of (ok__law_game (P:=l.prog) (w:=w) (base:=base) F2 T C1) k2 g2 b2
  obtain ⟨_,F3,k3,g3⟩:=h3.fn X G
  have b3:=F3.binds (ps:=["sheet","length"]) fun _ _ _ _ _ _ us hl=>match us,hl with | [_,_],_=>rfl
  have C3:=cal_of (ok__law_ships (P:=l.prog) (w:=w) (base:=base) F3 T ) k3 g3 b3
  obtain ⟨_,F4,k4,g4⟩:=h4.fn X G
  have b4:=F4.binds (ps:=["ship"]) fun _ _ _ _ _ _ us hl=>match us,hl with | [_],_=>rfl
  have C4:=cal_of (ok__law_cells (P:=l.prog) (w:=w) (base:=base) F4 T ) k4 g4 b4
  obtain ⟨_,F5,k5,g5⟩:=h5.fn X G
  have b5:=F5.binds (ps:=["rule","ship"]) fun _ _ _ _ _ _ us hl=>match us,hl with | [_,_],_=>rfl
  have C5:=cal_of (ok__law_halo (P:=l.prog) (w:=w) (base:=base) F5 T C4) k5 g5 b5
  obtain ⟨_,F6,k6,g6⟩:=h6.fn X G
  have b6:=F6.binds (ps:=["halo","ground"]) fun _ _ _ _ _ _ us hl=>match us,hl with | [_,_],_=>rfl
  have C6:=cal_of (ok__law_free (P:=l.prog) (w:=w) (base:=base) F6 T ) k6 g6 b6
  obtain ⟨_,F7,k7,g7⟩:=h7.fn X G
  have b7:=F7.binds (ps:=["sheet","fleet","rule"]) fun _ _ _ _ _ _ us hl=>match us,hl with | [_,_,_],_=>rfl
  have C7:=cal_of (ok__law_all (P:=l.prog) (w:=w) (base:=base) F7 T C3 C5 C4 C6) k7 g7 b7
  obtain ⟨_,F8,k8,g8⟩:=h8.fn X G
  have b8:=F8.binds (ps:=["one","other"]) fun _ _ _ _ _ _ us hl=>match us,hl with | [_,_],_=>rfl
  have C8:=cal_of (ok_rows_between (P:=l.prog) (w:=w) (base:=base) F8 T ) k8 g8 b8
  obtain ⟨_,F9,k9,g9⟩:=h9.fn X G
  have b9:=F9.binds (ps:=["one","other"]) fun _ _ _ _ _ _ us hl=>match us,hl with | [_,_],_=>rfl
  have C9:=cal_of (ok_columns_between (P:=l.prog) (w:=w) (base:=base) F9 T ) k9 g9 b9
  obtain ⟨_,F10,k10,g10⟩:=h10.fn X G
  have b10:=F10.binds (ps:=["rule","one","other"]) fun _ _ _ _ _ _ us hl=>match us,hl with | [_,_,_],_=>rfl
  have C10:=cal_of (ok_keep (P:=l.prog) (w:=w) (base:=base) F10 T C8 C9) k10 g10 b10
  obtain ⟨_,F11,k11,g11⟩:=h11.fn X G
  have b11:=F11.binds (ps:=["rule","ship","other"]) fun _ _ _ _ _ _ us hl=>match us,hl with | [_,_,_],_=>rfl
  have C11:=cal_of (ok_may_follow (P:=l.prog) (w:=w) (base:=base) F11 T C10) k11 g11 b11
  obtain ⟨_,F12,k12,g12⟩:=h12.fn X G
  have b12:=F12.binds (ps:=["rule","choices"]) fun _ _ _ _ _ _ us hl=>match us,hl with | [_,_],_=>rfl
  have C12:=cal_of (ok_hidings_among (P:=l.prog) (w:=w) (base:=base) F12 T C11 g12 k12 b12 3) k12 g12 b12
  obtain ⟨_,F13,k13,g13⟩:=h13.fn X G
  have b13:=F13.binds (ps:=["sheet"]) fun _ _ _ _ _ _ us hl=>match us,hl with | [_],_=>rfl
  have C13:=cal_of (ok_all_cells (P:=l.prog) (w:=w) (base:=base) F13 T ) k13 g13 b13
  obtain ⟨_,F14,k14,g14⟩:=h14.fn X G
  have b14:=F14.binds (ps:=["thing","many"]) fun _ _ _ _ _ _ us hl=>match us,hl with | [_,_],_=>rfl
  have C14:=cal_of (ok_is_tuple_of (P:=l.prog) (w:=w) (base:=base) F14 T ) k14 g14 b14
  obtain ⟨_,F15,k15,g15⟩:=h15.fn X G
  have b15:=F15.binds (ps:=["thing"]) fun _ _ _ _ _ _ us hl=>match us,hl with | [_],_=>rfl
  have C15:=cal_of (ok_is_whole (P:=l.prog) (w:=w) (base:=base) F15 T ) k15 g15 b15
  obtain ⟨_,F16,k16,g16⟩:=h16.fn X G
  have b16:=F16.binds (ps:=["thing"]) fun _ _ _ _ _ _ us hl=>match us,hl with | [_],_=>rfl
  have C16:=cal_of (ok_is_size (P:=l.prog) (w:=w) (base:=base) F16 T C15) k16 g16 b16
  obtain ⟨_,F17,k17,g17⟩:=h17.fn X G
  have b17:=F17.binds (ps:=["sheet","thing"]) fun _ _ _ _ _ _ us hl=>match us,hl with | [_,_],_=>rfl
  have C17:=cal_of (ok_is_cell (P:=l.prog) (w:=w) (base:=base) F17 T C14 C15) k17 g17 b17
  obtain ⟨_,F18,k18,g18⟩:=h18.fn X G
  have b18:=F18.binds (ps:=["sheet","thing"]) fun _ _ _ _ _ _ us hl=>match us,hl with | [_,_],_=>rfl
  have C18:=cal_of (ok_is_ship (P:=l.prog) (w:=w) (base:=base) F18 T C14 C16 C17) k18 g18 b18
  obtain ⟨_,F19,k19,g19⟩:=h19.fn X G
  have b19:=F19.binds (ps:=["sheet","length"]) fun _ _ _ _ _ _ us hl=>match us,hl with | [_,_],_=>rfl
  have C19:=cal_of (ok_ships_of (P:=l.prog) (w:=w) (base:=base) F19 T C13 C18) k19 g19 b19
  obtain ⟨_,F20,k20,g20⟩:=h20.fn X G
  have b20:=F20.binds (ps:=["sheet","fleet","rule"]) fun _ _ _ _ _ _ us hl=>match us,hl with | [_,_,_],_=>rfl
  have C20:=cal_of (ok_all_hidings (P:=l.prog) (w:=w) (base:=base) F20 T C12 C19) k20 g20 b20
  obtain ⟨_,F21,k21,g21⟩:=h21.fn X G
  have b21:=F21.binds (ps:=["sheet","fleet","rule"]) fun _ _ _ _ _ _ us hl=>match us,hl with | [_,_,_],_=>rfl
  have C21:=cal_of (ok_how_many (P:=l.prog) (w:=w) (base:=base) F21 T C20) k21 g21 b21
  obtain ⟨_,F22,k22,g22⟩:=h22.fn X G
  have b22:=F22.binds (ps:=["thing"]) fun _ _ _ _ _ _ us hl=>match us,hl with | [_],_=>rfl
  have C22:=cal_of (ok__law_whole (P:=l.prog) (w:=w) (base:=base) F22 T ) k22 g22 b22
  obtain ⟨_,F23,k23,g23⟩:=h23.fn X G
  have b23:=F23.binds (ps:=["word"]) fun _ _ _ _ _ _ us hl=>match us,hl with | [_],_=>rfl
  have C23:=cal_of (ok__law_only (P:=l.prog) (w:=w) (base:=base) F23 T ) k23 g23 b23
  obtain ⟨_,F24,k24,g24⟩:=h24.fn X G
  have b24:=F24.binds (ps:=["found"]) fun _ _ _ _ _ _ us hl=>match us,hl with | [_],_=>rfl
  have C24:=calxm_of (ok_if_not_too_many (P:=l.prog) (w:=w) (base:=base) F24 T XC_TooMany ) k24 g24 b24
  obtain ⟨_,F25,k25,g25⟩:=h25.fn X G
  have b25:=F25.binds (ps:=["sheet","fleet","rule"]) fun _ _ _ _ _ _ us hl=>match us,hl with | [_,_,_],_=>rfl
  have C25:=calx_of (ok_hidings (P:=l.prog) (w:=w) (base:=base) F25 T C24 C20) k25 g25 b25
  obtain ⟨_,F30,k30,g30⟩:=h30.fn X G
  have b30:=F30.binds (ps:=["way","game","thing"]) fun _ _ _ _ _ _ us hl=>match us,hl with | [_,_,_],_=>rfl
  have D30:=cal_of (ok__law_told0 (P:=l.prog) (w:=w) (base:=base) F30 T TX C25) k30 g30 b30
  obtain ⟨_,F26,k26,g26⟩:=h26.fn X G
  have b26:=F26.binds (ps:=["found","number"]) fun _ _ _ _ _ _ us hl=>match us,hl with | [_,_],_=>rfl
  have C26:=calx_of (ok_one_at (P:=l.prog) (w:=w) (base:=base) F26 T XC_NoNumber C15) k26 g26 b26
  obtain ⟨_,F27,k27,g27⟩:=h27.fn X G
  have b27:=F27.binds (ps:=["sheet","fleet","rule","number"]) fun _ _ _ _ _ _ us hl=>match us,hl with | [_,_,_,_],_=>rfl
  have C27:=calx_of (ok_hiding_at (P:=l.prog) (w:=w) (base:=base) F27 T C26 C20) k27 g27 b27
  obtain ⟨_,F28,k28,g28⟩:=h28.fn X G
  have b28:=F28.binds (ps:=["sheet","fleet","rule","thing"]) fun _ _ _ _ _ _ us hl=>match us,hl with | [_,_,_,_],_=>rfl
  have C28:=cal_of (ok_is_hiding (P:=l.prog) (w:=w) (base:=base) F28 T C14 C18 C11) k28 g28 b28
  obtain ⟨_,F29,k29,g29⟩:=h29.fn X G
  have b29:=F29.binds (ps:=["sheet","fleet","rule","thing"]) fun _ _ _ _ _ _ us hl=>match us,hl with | [_,_,_,_],_=>rfl
  have C29:=calx_of (ok_number_of (P:=l.prog) (w:=w) (base:=base) F29 T XC_NoHiding C28 C20) k29 g29 b29
  have C30:=cal_of (ok__law_told (P:=l.prog) (w:=w) (base:=base) F30 T TX C27 C29) k30 g30 b30
  obtain ⟨_,F31,k31,g31⟩:=h31.fn X G
  have b31:=F31.binds (ps:=["cell"]) fun _ _ _ _ _ _ us hl=>match us,hl with | [_],_=>rfl
  have C31:=cal_of (ok__law_odd (P:=l.prog) (w:=w) (base:=base) F31 T C1) k31 g31 b31
  exact ok_law (fun_mk (st:=st_law) lL cL kL) T  C2 C7 C21 C22 C23 D30 C0 C30 C31
theorem walk_top {l:PySem.W.OpenLaw} {q:Program} {loose:List Str} {XP:(Str→Option Value)→Heap→Prop} {YP:World→Heap→Prop} {d:DefRec} {K:Params→PySem.W.Frag} (hn:l.most=some 63) (hdf:d.params.defaults=[])
    (hY:∀ (w:World) (h:Heap),YP w h→(K w.params).In h)
    (F:∀ (w:World) (mg:Str→Option Value) (fa:Addr) (h:Heap),(K w.params).In h→h.Ns mainGlobals mg→mg d.name=some (.ref fa)→
      ∃ fd:FuncData,(∀ (s:Shared) (u:Value),BindsTo s fd ⟨[u],[]⟩ [("script",u)])∧∀ base:Heap,(K w.params).In base→base.Ns mainGlobals mg→FnOk l.prog w (K w.params) mg base CX0 10 fa fd ["script"] (spD (K w.params) 1 .cl m_law)) :
    PySem.W.WalkO q loose XP YP l.row.toRowW d [] (fun f vs=>PySem.call f vs):=
  L2.walk_of (n:=63) (k:=10) (x:="script") (CX:=fun _=>CX0) (sp:=fun w=>spD (K w.params) 1 .cl m_law) hn (by decide) hdf ⟨rfl,by decide,by decide⟩ hY F
    (fun w H a ns hl _ hS=>⟨H,[.lst (ns.map .int)],.bl true,rfl,fun _ _ z=>z,⟨_,_,rfl,⟨a,_,rfl,hS,Reps.ints ns⟩,rfl⟩,law_true ns hl,fun v Z' H' _ g=>g⟩) fun _ _ _ _ _ z=>z
end K04
namespace PySem.W.Fast
theorem tw17061561249450328670:True:=⟨⟩
theorem tw18271517737375267546:True:=⟨⟩
theorem tw4463459289988093164:True:=⟨⟩
theorem tw12605768572742881076:True:=⟨⟩
theorem tw6713086294643484509:True:=⟨⟩
theorem tw9860028155601227228:True:=⟨⟩
theorem tw13750892512068335944:True:=⟨⟩
theorem tw2431920423590072493:True:=⟨⟩
theorem tw17086566306862597842:True:=⟨⟩
theorem tw9605721829410717147:True:=⟨⟩
theorem tw16816851668855756200:True:=⟨⟩
theorem tw13166026181737704002:True:=⟨⟩
theorem tw4538445600085835737:True:=⟨⟩
theorem tw15603117679603442551:True:=⟨⟩
theorem tw1477224953741938637:True:=⟨⟩
theorem tw12429448395888733635:True:=⟨⟩
theorem tw1267051823321030808:True:=⟨⟩
theorem tw10953761510117095634:True:=⟨⟩
theorem tw14375452958144223607:True:=⟨⟩
theorem tw11493356087518121223:True:=⟨⟩
theorem tw7180599693837387341:True:=⟨⟩
theorem tw17043994059106772860:True:=⟨⟩
theorem tw13347555306691171942:True:=⟨⟩
theorem tw12499163901121372316:True:=⟨⟩
theorem tw18408090332589653527:True:=⟨⟩
theorem tw9768539761011135446:True:=⟨⟩
theorem tw14846598657550132170:True:=⟨⟩
theorem tw14674256600313498356:True:=⟨⟩
theorem tw13581497834609526216:True:=⟨⟩
theorem tw2549900017326597643:True:=⟨⟩
theorem tw3284782444371299366:True:=⟨⟩
theorem tw17426577239782152589:True:=⟨⟩
theorem tw607746382828989444:True:=⟨⟩
theorem tw1973510082212100290:True:=⟨⟩
theorem tw4753782979501170954:True:=⟨⟩
theorem tw7871238136392080577:True:=⟨⟩
theorem tw210429648475006058:True:=⟨⟩
theorem tw558308530726502843:True:=⟨⟩
theorem tw15913524469200680534:True:=⟨⟩
theorem tw8710119230592695887:True:=⟨⟩
theorem tw15497863163123927629:True:=⟨⟩
theorem tw4199454659035831139:True:=⟨⟩
theorem tw8691082939902575587:True:=⟨⟩
theorem tw12350917480483105223:True:=⟨⟩
theorem tw14636350394675791974:True:=⟨⟩
theorem tw806464563912971098:True:=⟨⟩
theorem tw12817163490799735689:True:=⟨⟩
theorem tw15586564869888909787:True:=⟨⟩
theorem tw15654994642653438081:True:=⟨⟩
theorem tw15920097057689067938:True:=⟨⟩
theorem tw15746298095714909497:True:=⟨⟩
theorem tw13821694463853934508:True:=⟨⟩
theorem tw7264839182940386485:True:=⟨⟩
theorem tw3585418433639968354:True:=⟨⟩
theorem tw8853498547086088399:True:=⟨⟩
theorem tw16000538338800559218:True:=⟨⟩
theorem tw5595237407205816020:True:=⟨⟩
theorem tw14827454362252135643:True:=⟨⟩
theorem tw9180048992040758214:True:=⟨⟩
theorem tw16636873373731718066:True:=⟨⟩
theorem tw7805795351674238924:True:=⟨⟩
theorem tw15905846612261692546:True:=⟨⟩
theorem tw14240243221598981636:True:=⟨⟩
theorem tw4023678829707198980:True:=⟨⟩
theorem tw9485594145569618829:True:=⟨⟩
theorem tw6754250667620954710:True:=⟨⟩
theorem tw18148257841649816435:True:=⟨⟩
theorem tw6862251805495405786:True:=⟨⟩
theorem tw15745617917931238270:True:=⟨⟩
theorem tw3659518035970990203:True:=⟨⟩
theorem tw7243257997553677488:True:=⟨⟩
theorem tw15874068596831642865:True:=⟨⟩
theorem tw4643955739490746315:True:=⟨⟩
theorem tw6787030401540934757:True:=⟨⟩
theorem tw540883314320087314:True:=⟨⟩
theorem tw2742548631712709013:True:=⟨⟩
theorem tw13285869372324113535:True:=⟨⟩
theorem tw13639286674956588848:True:=⟨⟩
theorem tw5349630742027019387:True:=⟨⟩
theorem tw7177308297471683112:True:=⟨⟩
theorem tw11009500719028332327:True:=⟨⟩
theorem tw14344401653456958919:True:=⟨⟩
theorem tw7299025125157523780:True:=⟨⟩
theorem tw13431003392155341091:True:=⟨⟩
theorem tw2681924050722345778:True:=⟨⟩
theorem tw2275719793421356028:True:=⟨⟩
theorem tw1012341974231051438:True:=⟨⟩
theorem tw13205150010598338358:True:=⟨⟩
theorem tw6477666936077238438:True:=⟨⟩
theorem tw12972433198298443494:True:=⟨⟩
theorem tw11503269489820372233:True:=⟨⟩
theorem tw8758728804267689017:True:=⟨⟩
theorem tw12345649441760056987:True:=⟨⟩
theorem tw6503922416833319905:True:=⟨⟩
theorem tw14314350976644220446:True:=⟨⟩
theorem tw15795599613214348328:True:=⟨⟩
theorem tw5065712878303448224:True:=⟨⟩
theorem tw14130815093478707087:True:=⟨⟩
theorem tw3593148258947365106:True:=⟨⟩
theorem tw13093112213655791065:True:=⟨⟩
theorem tw2651570983604860744:True:=⟨⟩
theorem tw3772179723379731938:True:=⟨⟩
theorem tw10992495910579115503:True:=⟨⟩
theorem tw14895047169490220148:True:=⟨⟩
theorem tw7980980925048748424:True:=⟨⟩
theorem tw5465657528466743739:True:=⟨⟩
theorem tw13537934367002995575:True:=⟨⟩
theorem tw5184045012281990322:True:=⟨⟩
theorem tw7873553921250135309:True:=⟨⟩
theorem tw26846043198331226:True:=⟨⟩
theorem tw10461435652275575392:True:=⟨⟩
theorem tw2406339126240700786:True:=⟨⟩
theorem tw17202812507805746523:True:=⟨⟩
theorem tw10221443140701421985:True:=⟨⟩
theorem tw1505141620220139961:True:=⟨⟩
theorem tw6452831054680863674:True:=⟨⟩
theorem tw10025371516203943118:True:=⟨⟩
theorem tw14223626877847020270:True:=⟨⟩
theorem tw6672188727900477811:True:=⟨⟩
theorem tw13610621238748407369:True:=⟨⟩
theorem tw296413047730542230:True:=⟨⟩
theorem tw16410144572458437991:True:=⟨⟩
theorem tw1716026421023642876:True:=⟨⟩
theorem tw2510456100810034591:True:=⟨⟩
theorem tw2475931888655528698:True:=⟨⟩
theorem tw16579535791441318445:True:=⟨⟩
theorem tw6001094866463093720:True:=⟨⟩
theorem tw5901101940714233324:True:=⟨⟩
theorem tw8808442366310488717:True:=⟨⟩
theorem tw3104636425472257890:True:=⟨⟩
theorem tw2410319352316386093:True:=⟨⟩
theorem tw5332805923681760703:True:=⟨⟩
theorem tw10472507050454062187:True:=⟨⟩
theorem tw3541699062900087784:True:=⟨⟩
theorem tw12129985659726183621:True:=⟨⟩
theorem tw15414347841389478301:True:=⟨⟩
theorem tw10427928453853091048:True:=⟨⟩
theorem tw16154817587124500514:True:=⟨⟩
theorem tw11897483282514765645:True:=⟨⟩
theorem tw448518769662225360:True:=⟨⟩
theorem tw16876930740506229962:True:=⟨⟩
theorem tw9559035576926354036:True:=⟨⟩
theorem tw12876165928099772531:True:=⟨⟩
theorem tw12475144561980694298:True:=⟨⟩
theorem tw7675523043040546003:True:=⟨⟩
theorem tw17288101777023486478:True:=⟨⟩
theorem tw5659101729302418427:True:=⟨⟩
theorem tw1993050284082436458:True:=⟨⟩
theorem tw809197014986065094:True:=⟨⟩
theorem tw14438804872769780458:True:=⟨⟩
theorem tw16539144572544230498:True:=⟨⟩
theorem tw9416522892859791385:True:=⟨⟩
theorem tw9463049552078162944:True:=⟨⟩
theorem tw839455591563830072:True:=⟨⟩
theorem tw3736277249463178443:True:=⟨⟩
theorem tw8357839809344996147:True:=⟨⟩
theorem tw3264443547526954295:True:=⟨⟩
theorem tw12842073787088411619:True:=⟨⟩
theorem tw7699202911811497959:True:=⟨⟩
theorem tw17301329719369174222:True:=⟨⟩
theorem tw8203472123499997842:True:=⟨⟩
theorem tw16353683118079481969:True:=⟨⟩
theorem tw6059698595013324097:True:=⟨⟩
theorem tw7858688355983056940:True:=⟨⟩
theorem tw15835874328000460126:True:=⟨⟩
theorem tw4494549648370514922:True:=⟨⟩
theorem tw8524148566423430780:True:=⟨⟩
theorem tw7989808893250703600:True:=⟨⟩
theorem tw1512010038106454160:True:=⟨⟩
theorem tw7888361131542910107:True:=⟨⟩
theorem tw9132529670477233886:True:=⟨⟩
theorem tw16747467349366297451:True:=⟨⟩
theorem tw1618853295821864654:True:=⟨⟩
theorem tw12584720609903502855:True:=⟨⟩
theorem tw4107648664782984968:True:=⟨⟩
theorem tw11302097995123233126:True:=⟨⟩
theorem tw9309775006352471679:True:=⟨⟩
theorem tw15430958299428337121:True:=⟨⟩
theorem tw12240302279248148046:True:=⟨⟩
theorem tw15074359989725971682:True:=⟨⟩
theorem tw6403284721759880217:True:=⟨⟩
theorem tw15532390650648318822:True:=⟨⟩
theorem tw3289571269451487296:True:=⟨⟩
theorem tw438542850136078187:True:=⟨⟩
theorem tw13301482458438361586:True:=⟨⟩
theorem tw17148264550425082692:True:=⟨⟩
theorem tw1762201646596476134:True:=⟨⟩
theorem tw2319593953006732166:True:=⟨⟩
theorem tw16719078766755305348:True:=⟨⟩
theorem tw3404065944042511784:True:=⟨⟩
theorem tw8890998623708038597:True:=⟨⟩
theorem tw10669156246134915090:True:=⟨⟩
theorem tw12000889152210250538:True:=⟨⟩
theorem tw7038192194871770215:True:=⟨⟩
theorem tw9052122107024233768:True:=⟨⟩
theorem tw4579761636792457373:True:=⟨⟩
theorem tw12721552294156184165:True:=⟨⟩
theorem tw3252788607368882048:True:=⟨⟩
theorem tw9613069507955677065:True:=⟨⟩
theorem tw12231192669121190073:True:=⟨⟩
theorem tw8722028772487847949:True:=⟨⟩
theorem tw7814908075363694967:True:=⟨⟩
theorem tw12207499013234149883:True:=⟨⟩
theorem tw7338344200748165649:True:=⟨⟩
theorem tw5254748791351572907:True:=⟨⟩
theorem tw11331355542973260122:True:=⟨⟩
theorem tw6136463818036589940:True:=⟨⟩
theorem tw3676890757926050164:True:=⟨⟩
theorem tw13751168125843397465:True:=⟨⟩
theorem tw3982450906349358413:True:=⟨⟩
theorem tw9991091840967976267:True:=⟨⟩
theorem tw4346580010014668943:True:=⟨⟩
theorem tw448636818008264243:True:=⟨⟩
theorem tw14640334184483881482:True:=⟨⟩
theorem tw7819892661599132407:True:=⟨⟩
theorem tw909566977873174141:True:=⟨⟩
theorem tw14108600996754389093:True:=⟨⟩
theorem tw15609396074276078400:True:=⟨⟩
theorem tw14081770556661147794:True:=⟨⟩
theorem tw13064821610349727068:True:=⟨⟩
theorem tw13900358726052525435:True:=⟨⟩
theorem tw14488844666926401807:True:=⟨⟩
theorem tw1783172483864729734:True:=⟨⟩
theorem tw4796253526726269150:True:=⟨⟩
theorem tw11078129972113539533:True:=⟨⟩
theorem tw10049248644744934832:True:=⟨⟩
theorem tw15636741999951195027:True:=⟨⟩
theorem tw2326671915038805163:True:=⟨⟩
theorem tw16835341143402118612:True:=⟨⟩
theorem tw17791035023950832393:True:=⟨⟩
theorem tw14017539197670182519:True:=⟨⟩
theorem tw14582419010317554816:True:=⟨⟩
theorem tw731041503023112312:True:=⟨⟩
theorem tw11417215508483911253:True:=⟨⟩
theorem tw14701555486721092561:True:=⟨⟩
theorem tw3488468815952593214:True:=⟨⟩
theorem tw15483147365493425573:True:=⟨⟩
theorem tw1238048322312970660:True:=⟨⟩
theorem tw14005490802500218750:True:=⟨⟩
theorem tw9248286728256945484:True:=⟨⟩
theorem tw17536073951434059386:True:=⟨⟩
theorem tw5463025871459622233:True:=⟨⟩
theorem tw6421039099598200362:True:=⟨⟩
theorem tw18020303397219331475:True:=⟨⟩
theorem tw9008702357771018045:True:=⟨⟩
theorem tw7136644345696986786:True:=⟨⟩
theorem tw7264831118772951082:True:=⟨⟩
theorem tw9715435784900381415:True:=⟨⟩
theorem tw11203902083905712111:True:=⟨⟩
theorem tw4366392611407908790:True:=⟨⟩
theorem tw6286446152521468708:True:=⟨⟩
theorem tw1847198185649285327:True:=⟨⟩
theorem tw1680837049688120902:True:=⟨⟩
theorem tw11201918781688482305:True:=⟨⟩
theorem tw13960396677822191513:True:=⟨⟩
theorem tw15012911748041357233:True:=⟨⟩
theorem tw13505920834821265415:True:=⟨⟩
theorem tw14691572318049385131:True:=⟨⟩
theorem tw7557502057878164923:True:=⟨⟩
theorem tw12433817856524951323:True:=⟨⟩
theorem tw12768025716592220585:True:=⟨⟩
theorem tw1142070444612308393:True:=⟨⟩
theorem tw10124176012367148129:True:=⟨⟩
theorem tw12547366718521174028:True:=⟨⟩
theorem tw18384803427654563633:True:=⟨⟩
theorem tw13775057822950349572:True:=⟨⟩
theorem tw146187640772668675:True:=⟨⟩
theorem tw6812002182480319716:True:=⟨⟩
theorem tw10045394668985816178:True:=⟨⟩
theorem tw939748319264848094:True:=⟨⟩
theorem tw17546119311551396706:True:=⟨⟩
theorem tw11555332892669679739:True:=⟨⟩
theorem tw15900364938252402941:True:=⟨⟩
theorem tw10324238387363027635:True:=⟨⟩
theorem tw733442144377515489:True:=⟨⟩
theorem tw14419805067779926952:True:=⟨⟩
theorem tw2839254226340769190:True:=⟨⟩
theorem tw5041941599732993014:True:=⟨⟩
theorem tw11916048622647883649:True:=⟨⟩
theorem tw1945540749737665603:True:=⟨⟩
theorem tw5808422392066523403:True:=⟨⟩
theorem tw6118941700221486718:True:=⟨⟩
theorem tw17465514925254237563:True:=⟨⟩
theorem tw3518704495292282161:True:=⟨⟩
theorem tw711798102690029347:True:=⟨⟩
theorem tw18345369476894532342:True:=⟨⟩
theorem tw1049452917565172699:True:=⟨⟩
theorem tw7370562862896954793:True:=⟨⟩
theorem tw7548671716570293217:True:=⟨⟩
theorem tw8495782081104756338:True:=⟨⟩
theorem tw10206757468025816556:True:=⟨⟩
theorem tw17852457589311805252:True:=⟨⟩
theorem tw9608728683049707821:True:=⟨⟩
theorem tw5745056539646525211:True:=⟨⟩
theorem tw16176534020853290046:True:=⟨⟩
theorem tw3562677262859835155:True:=⟨⟩
theorem tw3440265213874880361:True:=⟨⟩
theorem tw2631167702717740890:True:=⟨⟩
theorem tw18017051917872211781:True:=⟨⟩
theorem tw16357311738257595549:True:=⟨⟩
theorem tw8548980295045392302:True:=⟨⟩
theorem tw15324952405900685095:True:=⟨⟩
theorem tw8092116380881987619:True:=⟨⟩
theorem tw6631088330484810267:True:=⟨⟩
theorem tw6106297286492883385:True:=⟨⟩
theorem tw10400977939266481587:True:=⟨⟩
theorem tw916702916904437426:True:=⟨⟩
theorem tw13538595379907618063:True:=⟨⟩
theorem tw16173797698185369089:True:=⟨⟩
theorem tw6731545111366542556:True:=⟨⟩
theorem tw6234609861616800763:True:=⟨⟩
theorem tw13966741968142180712:True:=⟨⟩
theorem tw14476694911056523201:True:=⟨⟩
theorem tw2291348832023595857:True:=⟨⟩
theorem tw11711982027782292972:True:=⟨⟩
theorem tw17039470127572065574:True:=⟨⟩
theorem tw255401123681284093:True:=⟨⟩
theorem tw792308051763208477:True:=⟨⟩
theorem tw2550571259523761127:True:=⟨⟩
theorem tw15459933974790600679:True:=⟨⟩
theorem tw2213292951921311720:True:=⟨⟩
theorem tw4765095591309800410:True:=⟨⟩
theorem tw6490717105628004344:True:=⟨⟩
theorem tw16393884649956418307:True:=⟨⟩
theorem tw4228371416164731141:True:=⟨⟩
theorem tw16802554775957180490:True:=⟨⟩
theorem tw9255675611760746794:True:=⟨⟩
theorem tw4020614379716447253:True:=⟨⟩
theorem tw16350158503275207594:True:=⟨⟩
theorem tw13930991058499106200:True:=⟨⟩
theorem tw15195346770014908687:True:=⟨⟩
theorem tw5242159517516896278:True:=⟨⟩
theorem tw11332680929046574501:True:=⟨⟩
theorem tw17703100617408621437:True:=⟨⟩
theorem tw16066749118254395865:True:=⟨⟩
theorem tw7112794249072733443:True:=⟨⟩
theorem tw8693900034693620071:True:=⟨⟩
theorem tw8556567916725013797:True:=⟨⟩
theorem tw4525457898664792108:True:=⟨⟩
theorem tw15870418566625576411:True:=⟨⟩
theorem tw1356778513998234796:True:=⟨⟩
theorem tw4566718519007063821:True:=⟨⟩
theorem tw4926395208349020953:True:=⟨⟩
theorem tw4255753758547691808:True:=⟨⟩
theorem tw2665619638403677865:True:=⟨⟩
theorem tw5316370617875031912:True:=⟨⟩
theorem tw1158269373670126150:True:=⟨⟩
theorem tw6852789437210746823:True:=⟨⟩
theorem tw12066435293657767694:True:=⟨⟩
theorem tw6968215932923769191:True:=⟨⟩
theorem tw9735900883384680125:True:=⟨⟩
theorem tw5058957326062708665:True:=⟨⟩
theorem tw16355033725881682384:True:=⟨⟩
theorem tw15550185823005884807:True:=⟨⟩
theorem tw16330657620540042890:True:=⟨⟩
theorem tw7840140046581511647:True:=⟨⟩
theorem tw10467591557225740290:True:=⟨⟩
theorem tw5703615728287686368:True:=⟨⟩
theorem tw16663292355098722902:True:=⟨⟩
theorem tw13287426141425319360:True:=⟨⟩
theorem tw9340250554748648137:True:=⟨⟩
theorem tw577514109161719039:True:=⟨⟩
theorem tw3060906191261037443:True:=⟨⟩
theorem tw15250927882363095664:True:=⟨⟩
theorem tw17940495404436592425:True:=⟨⟩
theorem tw4583599932298923276:True:=⟨⟩
theorem tw15051047467753441546:True:=⟨⟩
theorem tw995169953745877686:True:=⟨⟩
theorem tw14837913727914510099:True:=⟨⟩
theorem tw6509443904769585346:True:=⟨⟩
theorem tw2182775093769201288:True:=⟨⟩
theorem tw10827616506490161515:True:=⟨⟩
theorem tw12950024670985747542:True:=⟨⟩
theorem tw11568242717104752803:True:=⟨⟩
theorem tw4049150047131499091:True:=⟨⟩
theorem tw2194572374148919772:True:=⟨⟩
theorem tw11449591103822274188:True:=⟨⟩
theorem tw16104041603496374028:True:=⟨⟩
theorem tw6049332506335109592:True:=⟨⟩
theorem tw17826829615505540484:True:=⟨⟩
theorem tw6839327169436215501:True:=⟨⟩
end PySem.W.Fast
open PySem PySem.W PyProof.Rows
local macro_rules | `(tactic| walk_at "at") => `(tactic| (refine' Mi.at_mk ?a ?l ?c ?k; (case a => k_is); (case l => k_is); (case c => k_is); (case k => k_is)))
local macro_rules | `(tactic| walk_at "cl") => `(tactic| (refine' Mi.atc_mk ?a ?l; (case a => k_is); (case l => k_is)))
local macro_rules | `(tactic| walk_at "rz") => `(tactic| (refine' ⟨?a, ?b, ?c, ?d, ?e, ?f, ?g⟩; (case a => k_is); (case b => k_is); (case c => k_is); (case d => k_is); (case e => k_is); (case f => k_is); (case g => k_is)))
set_option maxRecDepth 100000 in
set_option maxHeartbeats 0 in
theorem PySem.Challenge.cw_fleethide_k04_hidings_by_number_holds : PySem.Challenge.rw_fleethide_k04_hidings_by_number.Holds := by
  w_on
  o_law
  k_head
  (case hw=>w_witness2)
  k_fill
  refine K04.walk_top (l:=PySem.Challenge.rw_fleethide_k04_hidings_by_number) rfl rfl (fun w h Y=>PySem.W.kIn_of Y) ?F
  case F=>
    intro w mg fa h KX G hmg
    refine' K04.all_mk KX G hmg ?h0 ?h1 ?h2 ?h3 ?h4 ?h5 ?h6 ?h7 ?h8 ?h9 ?h10 ?h11 ?h12 ?h13 ?h14 ?h15 ?h16 ?h17 ?h18 ?h19 ?h20 ?h21 ?h22 ?h23 ?h24 ?h25 ?h26 ?h27 ?h28 ?h29 ?h30 ?h31 ?h32 ?h33 ?z_ValueError ?z_all ?z_bool ?z_enumerate ?z_int ?z_isinstance ?z_len ?z_list ?z_max ?z_min ?z_range ?z_sorted ?z_tuple ?ga_GREATEST ?ga_MOST_TOLD ?ga_WAYS ?gl_WAYS ?xH ?x0 ?x1 ?x2 ?x3 ?x4 ?x5 ?x6 ?x7 ?x8 ?x9 ?r2 ?r1 ?r0 ?xl_init ?xc_init ?xl_dT ?lt
    (case h0=>walk_at "at")
    (case h1=>walk_at "at")
    (case h2=>walk_at "at")
    (case h3=>walk_at "at")
    (case h4=>walk_at "at")
    (case h5=>walk_at "at")
    (case h6=>walk_at "at")
    (case h7=>walk_at "at")
    (case h8=>walk_at "at")
    (case h9=>walk_at "at")
    (case h10=>walk_at "at")
    (case h11=>walk_at "at")
    (case h12=>walk_at "at")
    (case h13=>walk_at "at")
    (case h14=>walk_at "at")
    (case h15=>walk_at "at")
    (case h16=>walk_at "at")
    (case h17=>walk_at "at")
    (case h18=>walk_at "at")
    (case h19=>walk_at "at")
    (case h20=>walk_at "at")
    (case h21=>walk_at "at")
    (case h22=>walk_at "at")
    (case h23=>walk_at "at")
    (case h24=>walk_at "at")
    (case h25=>walk_at "at")
    (case h26=>walk_at "at")
    (case h27=>walk_at "at")
    (case h28=>walk_at "at")
    (case h29=>walk_at "at")
    (case h30=>walk_at "at")
    (case h31=>walk_at "at")
    (case h32=>walk_at "at")
    (case h33=>walk_at "at")
    (case z_ValueError=>k_is)
    (case z_all=>k_is)
    (case z_bool=>k_is)
    (case z_enumerate=>k_is)
    (case z_int=>k_is)
    (case z_isinstance=>k_is)
    (case z_len=>k_is)
    (case z_list=>k_is)
    (case z_max=>k_is)
    (case z_min=>k_is)
    (case z_range=>k_is)
    (case z_sorted=>k_is)
    (case z_tuple=>k_is)
    (case ga_GREATEST=>k_is)
    (case ga_MOST_TOLD=>k_is)
    (case ga_WAYS=>k_is)
    (case gl_WAYS=>k_is)
    (case xH=>walk_at "cl")
    (case x0=>walk_at "cl")
    (case x1=>walk_at "cl")
    (case x2=>walk_at "cl")
    (case x3=>walk_at "cl")
    (case x4=>walk_at "cl")
    (case x5=>walk_at "cl")
    (case x6=>walk_at "cl")
    (case x7=>walk_at "cl")
    (case x8=>walk_at "cl")
    (case x9=>walk_at "cl")
    (case r2=>walk_at "rz")
    (case r1=>walk_at "rz")
    (case r0=>walk_at "rz")
    (case xl_init=>k_is)
    (case xc_init=>k_is)
    (case xl_dT=>k_is)
    (case lt=>decide)
