
import PyProof.Rows.All
import Wide.All
import OpenK.AllK
import Wide.FinOn
import Lean
import PyProof.EqAt
import PyProof.EqKinds
import PyProof.TupleCall
import PyProof.SetScanFacts
import PyProof.SetRoads
import PyProof.SetNew
import PyProof.TupleKey
import PyProof.DictFindH
import PyProof.Rows.SetFrom
import KE.KDictOf
import PyProof.AttrMissHeap
import PyProof.MeetsDictList
import PyProof.FString5
import KE.KUnpackStar
import PyProof.StationsW
import PyProof.RulesDel
import PyProof.RulesAs
import PyProof.InstStoreFacts
import PyProof.ExcInit
import PyProof.ExcClass3
import PyProof.ExcBaseAll.ValueError
import PyProof.ExcArgsOwn
import PySem.Challenge.RW_fleethide_k09_what_fits
set_option Elab.async false
set_option linter.all false
set_option maxRecDepth 100000
set_option maxHeartbeats 4000000
set_option hygiene false
local macro_rules
|`(@1)=>`((by decide))
|`(@2)=>`((model X.prog X.w))
abbrev S2:=PySem.Value->PySem.Shared->Prop
abbrev S3:=List (PySem.Addr×PySem.Obj)
abbrev S4:=Array (Option PySem.Value)
abbrev S5:=PySem.Str->Option PySem.Value
abbrev S6:=List (PySem.Str×PySem.Addr)
abbrev S7:=List (Int×Int)
abbrev S8:=List PySem.Comprehension
abbrev S9:=List PySem.Value
abbrev S_:=Option PySem.Value
abbrev Ta:=Option PySem.Addr
abbrev Tb:=List PySem.Str
abbrev Tc:=List PySem.Addr
abbrev Td:=List PySem.Expr
abbrev Te:=List PySem.Stmt
abbrev Tf:=List Nat
abbrev Tg:=List Int
abbrev Ti:=Int×Int
abbrev Tj:=PySem.W.Frag
abbrev Tn:=PySem.Value
abbrev To:=PySem.Shared
abbrev Tp:=PySem.Program
abbrev Tq:=PySem.Around
abbrev Tr:=PySem.Heap
abbrev Ts:=PySem.World
abbrev Tt:=PySem.FuncData
abbrev Tu:=PySem.Scope
abbrev Tv:=PySem.Addr
abbrev Tz:=PySem.Expr
abbrev TC:=PySem.Stmt
def a_:=@Option.bind_eq_some_iff
def b_:=@PySem.wpAny_bind
def c_:=@List.length_map
def d_:=@PySem.Heap.get?_push_of_some
def e_:=@List.mem_cons_of_mem
def f_:=@List.mem_cons_self
def g_:=@if_pos
def h_:=@List.getElem?_eq_some_iff
def i_:=@List.getElem?_eq_getElem
def j_:=@if_neg
def k_:=@PySem.Heap.lt_size
def l_:=@List.getElem?_set_ne
def m_:=@Nat.le_refl
def n_:=@Nat.lt_of_lt_of_le
def o_:=@PySem.wpAny_pure
def p_:=@List.mem_cons
def q_:=@List.size_toArray
def r_:=@List.getElem?_set_self
def s_:=@PySem.Heap.get?_push_size
def t_:=@decide_eq_true
def u_:=@List.getElem?_map
def v_:=@List.mem_map
def w_:=@Nat.le_trans
def x_:=@Nat.ne_of_lt
def y_:=@decide_eq_true_eq
def z_:=@List.length_cons
def A_:=@List.getElem?_eq_none
def B_:=@decide_eq_false
def C_:=@List.mem_singleton
def D_:=@PySem.Heap.get?_update_other
def E_:=@List.length_append
def F_:=@Bool.and_eq_true
def G_:=@List.getElem?_append_right
def H_:=@PySem.PassesOwn.never
def I_:=@List.contains_cons
def J_:=@PySem.wpAny_loadPart_at
def K_:=@PySem.wpAny_holding
def L_:=@List.length_nil
def M_:=@List.length_filter_le
def N_:=@List.map_cons
def O_:=@List.pairwise_cons
def PY:=@List.filter_cons
def PZ:=@List.getElem?_append_left
def P0:=@Option.map_eq_some_iff
def P1:=@PySem.wpAny_field
def P2:=@Nat.ne_of_gt
def P3:=@List.map_map
def P4:=@PySem.wpAny_mono
def P5:=@Bool.false_eq_true
def P6:=@PySem.sizeLine_eq
def P7:=@Nat.le_add_right
def P8:=@Bool.eq_iff_iff
def P9:=@List.append_nil
def P_:=@List.map_append
def Qb:=@Nat.zero_add
def Qc:=@Nat.le_of_not_lt
def Qd:=@List.not_mem_nil
def Qe:=@List.flatMap_cons
def Qf:=@PySem.Heap.get?_none_of_le
def Qg:=@PySem.Obj.data_mapFields
def Qh:=@List.mem_filter
def Qi:=@List.all_eq_true
def Qj:=@PySem.mem_of_lookup
def Qk:=@PySem.wpAny_isSubtype_exc
def Ql:=@List.mem_map_of_mem
def Qm:=@List.mem_append_right
def Qn:=@PySem.Heap.get?_update_self
def Qo:=@Ne.symm
def Qp:=@List.getElem?_replicate
def Qq:=@PySem.Heap.size_push
def Qr:=@PySem.W.mg_none_of
def Qs:=@PySem.W.kia_one
def Qt:=@List.lookup_cons
def Qu:=@List.take_length
def Qw:=@Bool.or_true
def Qx:=@Nat.lt_succ_of_lt
def Qy:=@PySem.wpAny_standAt
def Qz:=@List.mem_append
def QA:=@Bool.false_ne_true
def QB:=@PySem.wpAny_setField_rec
def QC:=@Option.bind_some
def QD:=@PySem.wpAny_callSpecial?_slot
def QE:=@List.pairwise_append
def QF:=@PyProof.Rows.callWith_type1
def QG:=@PySem.wpAny_truthy_bool
def QH:=@Int.toNat_natCast
def QI:=@of_decide_eq_true
def QJ:=@List.getD_eq_getElem?_getD
def QK:=@PySem.Obj.isFreed_of_fields
def QL:=@List.pairwise_flatMap
def QM:=@PySem.wpAny_Call_Name_kw
def QN:=@Int.emod_lt_of_pos
def QO:=@congrArg
def QP:=@PySem.W.looks_findIn
def QQ:=@Nat.mul_le_mul
def QR:=@PySem.wpAny_pyIter_list
def QS:=@Int.eq_ofNat_of_zero_le
def QU:=@List.pairwise_map
def QV:=@if_false
def QW:=@Nat.lt_irrefl
def QY:=@List.length_take
def QZ:=@PySem.wpAny_call_entry
def Q0:=@List.mem_flatMap
def Q2:=@List.mem_range
def Q3:=@PySem.F.slot_tuple_iterator_next
def Q4:=@PySem.F.excBase_ValueError
def Q5:=@List.drop_eq_getElem_cons
def Q6:=@Int.emod_nonneg
def Q7:=@List.mem_of_getElem?
def Q8:=@PySem.wpAny_newObj_type
def Q9:=@PySem.AutoSeq1.wpAny_loadPart'
def Q_:=@List.Pairwise.imp_of_mem
def Ra:=@Function.comp_apply
def Rb:=@PySem.F.plainAttrs_list
def Rc:=@List.map_flatMap
def Re:=@List.pairwise_singleton
def Rf:=@PySem.W.callWith_K
def Rg:=@PySem.W.cellsFrom_some
def Rh:=@PyProof.Rows.boot_isinstance
def Ri:=@List.nil_append
def Rj:=@List.dropLast_concat_getLast
def Rk:=@List.length_replicate
def Rn:=@PySem.F.slot_enumerate_next
def Ro:=@Nat.le_of_ble_eq_true
def Rp:=@List.length_range
def Rq:=@List.ext_getElem?
def Rt:=@PySem.wpAny_newFunctionEnv_cells
def Ru:=@Bool.and_false
def Rv:=@Nat.zero_le
def Rw:=@PySem.wpAny_setField
def Rx:=@or_false
def Ry:=@Array.getElem?_eq_some_iff
def Rz:=@PySem.codeAny_mono
def RA:=@PySem.Heap.size_update
def RB:=@List.cons_append
def RC:=@List.filterMap_cons
def RD:=@List.getElem?_range
def RE:=@PySem.F.plain_extend_loop
def RF:=@PySem.F.args_tuple_add_2
def RG:=@PySem.wpAny_comprehension_free
def RH:=@PySem.wpAny_execs_nil
def RI:=@PySem.wpAny_passesOwn
def RJ:=@List.nodup_cons
def RK:=@List.of_mem_zip
def RL:=@PySem.wpAny_specialOf
def RM:=@PyProof.Rows.get?_update_seq
def RN:=@PySem.wpAny_pyIter_tuple
def RO:=@beq_iff_eq
def RP:=@List.zip_cons_cons
def RQ:=@PySem.tupleKind_room_in1
def RS:=@PySem.F.entry_tuple_add
def RT:=@decide_eq_false_iff_not
def RV:=@List.take_sublist
def RW:=@PySem.F.slot_tuple_add
def RX:=@PyProof.Rows.boot_list
def RY:=@List.append_assoc
def RZ:=@List.take_of_length_le
def R0:=@PySem.codeAny_call_function
def R6:=@List.take_append_drop
def R7:=@PySem.wpAny_execs_cons
def R8:=@PyProof.Rows.callWith_builtin1
def R9:=@List.getElem_mem
def R_:=@List.flatMap_map
def Sa:=@PySem.wpAny_attempt
def Sb:=@PySem.codeAny_call_builtin
def Sd:=@PySem.codeAny_builtin
def Se:=@PySem.wpAny_loadPart'
def Sf:=@PySem.F.slot_zip_next
def Sg:=@beq_eq_false_iff_ne
def Si:=@List.filter_eq_self
def Sj:=@List.map_congr_left
def Sk:=@Nat.le_of_lt
def Sl:=@PySem.wpAny_call
def Sm:=@PySem.W.codeRec_of
def Sn:=@Nat.lt_of_le_of_lt
def So:=@PySem.wpAny_rule
def Sq:=@PySem.Code.quiet_builtin
def Sr:=@PySem.wpAny_seqItems
def Ss:=@List.nodup_nil
def Su:=@List.take_succ
def Sv:=@List.perm_ext_iff_of_nodup
def Sw:=@PyProof.Rows.assign_Tuple
def Sx:=@List.pairwise_iff_getElem
def Sy:=@List.getElem?_zip_eq_some
def Sz:=@PySem.slot_list_getitem
def SA:=@if_true
def SB:=@List.reverse_cons
def SC:=@PySem.W.kitx_dict
def SE:=@Nat.le_succ
def SG:=@PySem.wpAny_pyIter_enum
def SH:=@Function.comp_def
def SI:=@List.take_add_one
def SJ:=@Bool.and_true
def SL:=@List.map_take
def SM:=@beq_self_eq_true
def SN:=@Nat.lt_succ_self
def SO:=@List.append_inj'
def SQ:=@List.any_eq_true
def SR:=@Nat.mul_succ
def SS:=@Bool.true_or
def SU:=@List.all_map
def SV:=@Nat.pow_succ
def SW:=@List.length_set
def SY:=@List.forIn_cons
def SZ:=@List.cons.injEq
def S0:=@Bool.false_and
def S1:=@exists_eq_left
theorem glG{G:Prop}(h:∀Q:Prop,(G->Q)->Q):G:=h G id
namespace St
open PySem
def s5:Nat->Nat
 | 0=>0
 | n+1=>5*s5 n+1
def g5:Nat->Nat->Nat
 | 0,x=>x
 | n+1,x=>5*g5 n x+1
def Pz(mask:Nat)(p:SetTable.Probe):SetTable.Probe:=
 if p.more>0 then {p with j:=p.j+1,more:=p.more-1}else
 {p with j:=(SetTable.leap mask p.i p.perturb).1,more:=SetTable.runEnd mask (SetTable.leap mask p.i p.perturb).1-(SetTable.leap mask p.i p.perturb).1,i:=(SetTable.leap mask p.i p.perturb).1,perturb:=(SetTable.leap mask p.i p.perturb).2}
def it(mask:Nat)(p:SetTable.Probe):Nat->SetTable.Probe
 | 0=>p
 | m+1=>Pz mask (it mask p m)
def st(mask i pert:Nat):SetTable.Probe:={j:=i,more:=SetTable.runEnd mask i-i,i:=i,perturb:=pert,dummy:=none}
def lp(mask:Nat):Nat->Nat×Nat->Nat×Nat
 | 0,q=>q
 | n+1,q=>lp mask n (SetTable.leap mask q.1 q.2)
structure Ok(t:SetTable)(hs:List Int):Prop where
 dum:t.dummies=#[]
 pw:∃k,t.mask+1=2 ^ k
 up:t.place.toList.Pairwise (· < ·)
 le:∀x∈t.place.toList,x<=t.mask
 len:t.place.size=hs.length
 lt:t.place.size<=t.mask
 ch:∀q∈t.place.toList.zip hs,∃m,(it t.mask (t.probeStart q.2) m).j=q.1/\∀m'<m,(it t.mask (t.probeStart q.2) m').j∈t.place.toList
def taken(ow:Array (Option Nat))(j:Nat):Prop:=∃k,ow[j]?=some (some k)
structure Lay(mask:Nat)(done:List Int)(ow:Array (Option Nat)):Prop where
 sz:ow.size=mask+1
 bd:∀(j k:Nat),ow[j]?=some (some k)->k<done.length
 on:∀k<done.length,∃j:Nat,ow[j]?=some (some k)
 inj:∀(j j' k:Nat),ow[j]?=some (some k)->ow[j']?=some (some k)->j=j'
 ch:∀(j k:Nat)(h:Int),ow[j]?=some (some k)->done[k]?=some h->∃m,(it mask (st mask (SetTable.bits h%(mask+1)) (SetTable.bits h)) m).j=j/\∀m'<m,taken ow (it mask (st mask (SetTable.bits h%(mask+1)) (SetTable.bits h)) m').j
def lv(mask:Nat)(ow:Array (Option Nat)):List (Nat×Nat):=(List.range (mask+1)).filterMap λj=>(ow.getD j none).map (j,·)
structure SK{prog:Program}{w:World}{K:Type}[DecidableEq K](knd:HeapKind prog w K):Prop where
 cls:∀{A:Around}{E:Value->Shared->Prop}{s:Shared}{k:K}{a:Addr}{Q:Bool->Shared->Prop},knd.is s.heap k a->Q false s->wpAny (model prog w) A (ofAClassStatement 8 (.ref a)) Q E s
 hbv:∀{A:Around}{E:Value->Shared->Prop}{s:Shared}{k:K}{a:Addr}{Q:Bool->Shared->Prop},knd.is s.heap k a->(∀b,Q b s)->wpAny (model prog w) A (hashByValue 8 (.ref a)) Q E s
def Fy:Tf:=[7,31,127,511,2047,8191]
section
variable {prog:Tp}{w:Ts}{K:Type}[DecidableEq K]{knd:HeapKind prog w K}{A:Tq}{E:S2}{s:To}
def ent(knd:HeapKind prog w K)(x:K×Tv):Int×Tn:=(knd.hash x.1,.ref x.2)
structure Tab(knd:HeapKind prog w K)(es:Array (Int×Value))(t:SetTable)(xs:List (K×Addr)):Prop where
 perm:es.toList.Perm (xs.map (ent knd))
 ok:Ok t (es.toList.map (·.1))
 msk:t.mask∈Fy
 nf:t.place.size*5<t.mask*3
end
section
variable {prog:Tp}{w:Ts}{K:Type}[DecidableEq K]{knd:HeapKind prog w K}{A:Tq}{E:S2}{s:To}
end
end St
abbrev PySem.Shared.sz(s:PySem.Shared):Nat:=s.heap.objs.size
namespace L2
open PySem PySem.Spec PyProof.Rows
abbrev Key:=Sum Int Str
abbrev TH:=List Key
abbrev TF:=List TH
def oS:Key->Tn->Bool
 | .inl k,v=>Value.isInt k v
 | .inr x,v=>Value.isStrOf x v
def MS(w:Ts):Key->Int
 | .inl k=>hashInt k
 | .inr x=>hashStr w x
theorem bI:∀{k:Key}{v:Tn},oS k v=true->(∃i t,k=Sum.inl i/\v=Value.int i t)\/(∃x t,k=Sum.inr x/\v=Value.str x t)
 | .inl i,v,h=>by
  obtain⟨t,e⟩:=Value.isInt_shape (k:=i) (v:=v) h;exact .inl ⟨i,t,rfl,e⟩
 | .inr x,v,h=>by
  obtain⟨t,e⟩:=Value.isStrOf_shape (x:=x) (v:=v) h;exact .inr ⟨x,t,rfl,e⟩
theorem xW(i:Int)(t:Tok):oS (.inl i) (.int i t)=true:=by simp[oS,Value.isInt]
theorem yg(x:Str)(t:Tok):oS (.inr x) (.str x t)=true:=by simp[oS,Value.isStrOf]
theorem HH(a b:Int):decide ((Sum.inl a:Key)=Sum.inl b)=(a==b):=by
 by_cases e:a=b
 .subst e;simp
 .have h:¬(Sum.inl a:Key)=Sum.inl b:=λq=>e (Sum.inl.inj q);rw[B_ h];exact(Sg.mpr e).symm
theorem GG(a b:Str):decide ((Sum.inr a:Key)=Sum.inr b)=decide (a=b):=by
 by_cases e:a=b
 .subst e;simp
 .have h:¬(Sum.inr a:Key)=Sum.inr b:=λq=>e (Sum.inr.inj q);rw[B_ h,B_ e]
theorem GW(a:Int)(b:Str):decide ((Sum.inl a:Key)=Sum.inr b)=false:=B_ (λq=>nomatch q)
theorem Hg(a:Str)(b:Int):decide ((Sum.inr a:Key)=Sum.inl b)=false:=B_ (λq=>nomatch q)
def cm(prog:Tp)(w:Ts):PySem.KeyKind prog w Key where
 is:=oS
 hash:=MS w
 inj:=λv a b ha hb=>by
  rcases bI ha with ⟨i,t,rfl,rfl⟩ | ⟨x,t,rfl,rfl⟩
  .rcases bI hb with ⟨j,u,rfl,e⟩ | ⟨y,u,rfl,e⟩
   .injection e with e1 _;rw[e1]
   .exact nomatch e
  .rcases bI hb with ⟨j,u,rfl,e⟩ | ⟨y,u,rfl,e⟩
   .exact nomatch e
   .injection e with e1 _;rw[e1]
 byValue:=λk v h=>by
  rcases bI h with ⟨i,t,rfl,rfl⟩ | ⟨x,t,rfl,rfl⟩<;>rfl
 pyHash:=λhv h=>by
  rcases bI hv with ⟨i,t,rfl,rfl⟩ | ⟨x,t,rfl,rfl⟩
  .exact wpAny_pyHash_int h
  .exact wpAny_pyHash_str h
 eqBool:=λhu hv h=>by
  rcases bI hu with ⟨i,t,rfl,rfl⟩ | ⟨x,t,rfl,rfl⟩
  .rcases bI hv with ⟨j,u,rfl,rfl⟩ | ⟨y,u,rfl,rfl⟩
   .rw[HH]at h;exact wpAny_eqBool_int h
   .rw[GW]at h;exact SeqAt.EqAt.int_str i t y u _ _ _ _ h
  .rcases bI hv with ⟨j,u,rfl,rfl⟩ | ⟨y,u,rfl,rfl⟩
   .rw[Hg]at h;exact SeqAt.EqAt.str_int x t j u _ _ _ _ h
   .rw[GG]at h;exact wpAny_eqBool_str h
 «strs»:=λk x t v h=>by
  rcases bI h with ⟨i,u,rfl,e⟩ | ⟨y,u,rfl,e⟩
  .exact nomatch e
  .injection e with e1 _
   subst e1;cases v<;>rfl
theorem sF(prog:Tp)(w:Ts)(i:Int)(t:Tok):(cm prog w).is (.inl i) (.int i t)=true:=xW i t
theorem so(prog:Tp)(w:Ts)(x:Str)(t:Tok):(cm prog w).is (.inr x) (.str x t)=true:=yg x t
inductive V where
 | non | bl (b:Bool) | int (i:Int) | str (x:Str) | byt (b:Array UInt8) | flt (b:UInt64) | ref (a:Addr) | ty (n:String)
 deriving DecidableEq
abbrev TQ:=List V
def RelV:V->Tn->Prop
 | .non,u=>u=Value.none
 | .bl b,u=>u=Value.bool b
 | .int i,u=>∃t,u=Value.int i t
 | .str x,u=>∃t,u=Value.str x t
 | .byt b,u=>∃t,u=Value.bytes b t
 | .flt b,u=>∃t,u=Value.float b t
 | .ref a,u=>u=Value.ref a
 | .ty n,u=>u=Value.type n
abbrev aC:TQ->S9->Prop:=Paired RelV
theorem aC.length(r:aC xs us):xs.length=us.length:=Paired.length r
theorem aC.get:∀{xs:TQ}{us:S9}{i:Nat}{x:V},aC xs us->xs[i]?=some x->∃u,us[i]?=some u/\RelV x u
 | _,_,_,_,.nil,e=>by simp at e
 | _,_,0,_,.cons r _,e=>by simp at e;subst e;exact⟨_,rfl,r⟩
 | _,_,i+1,x,.cons _ t,e=>by
  obtain⟨u,h1,h2⟩:=aC.get (i:=i) (x:=x) t (by simpa using e);exact⟨u,by simpa using h1,h2⟩
theorem aC.set(r:RelV x u):∀{xs:TQ}{us:S9}(i:Nat),aC xs us->aC (xs.set i x) (us.set i u)
 | _,_,_,.nil=>.nil
 | _,_,0,.cons _ t=>.cons r t
 | _,_,i+1,.cons q t=>.cons q (aC.set r i t)
theorem aC.append:∀{xs ys:TQ}{us ws:S9},aC xs us->aC ys ws->aC (xs++ys) (us++ws)
 | _,_,_,_,.nil,s=>s
 | _,_,_,_,.cons r t,s=>.cons r (aC.append t s)
theorem aC.take:∀{xs:TQ}{us:S9}(n:Nat),aC xs us->aC (xs.take n) (us.take n)
 | _,_,0,_=>.nil
 | _,_,_+1,.nil=>.nil
 | _,_,n+1,.cons r t=>.cons r (aC.take n t)
theorem aC.drop:∀{xs:TQ}{us:S9}(n:Nat),aC xs us->aC (xs.drop n) (us.drop n)
 | _,_,0,r=>r
 | _,_,_+1,.nil=>.nil
 | _,_,n+1,.cons _ t=>aC.drop n t
def Kv:Option V->S_->Prop
 | some v,some u=>RelV v u
 | none,none=>True
 | _,_=>False
def KV:List (κ×V)->List (κ×Tn)->Prop:=Paired λ(p:κ×V) (q:κ×Tn)=>p.1=q.1/\RelV p.2 q.2
def kV:Key->V
 | .inl i=>.int i
 | .inr x=>.str x
inductive HO where
  | lst (xs:List V)
  | tup (xs:List V)
  | dK (jJ:List (Key×V)) | dT (jJ:List (List Key×V))
  | set (S:Int->Bool) (n:Nat)
  | ins (C dx:Addr) (fs:List (Str×V))
  | own (x:Addr)
  | xd (fs:List (Str×V))
  | met (f x:Addr)
  | rng (lo hi:Int)
  | frz (o:Obj) (u:HO)
  | tbl (ps:Array Value)
  | ext (φ:Heap->Prop)
abbrev Hp:=Tv->Option HO
def upd(H:Hp)(a:Tv)(o:HO):Hp:=λb=>if b=a then some o else H b
theorem aw:upd H a o a=some o:=by unfold upd;rw[g_ rfl]
theorem ay(h:b≠a):upd H a o b=H b:=by unfold upd;rw[j_ h]
theorem cK{H:Hp}{a b:Tv}{o:HO}(h:H a=some o)(h':H b=none):a≠b:=by
 intro e;subst e;rw[h]at h';cases h'
section
variable (P:Tp)(w:Ts)
def bO(H:Hp)(h:Tr)(a:Tv):HO->Prop
 | .lst xs=>xs.length<=sizeLine/\∃(bo:S9)(n:Nat),aC xs bo/\h.get? a=some {cls:=.type "list",data:=.seq bo.toArray n}
 | .tup xs=>xs.length<=sizeLine/\∃bo:S9,aC xs bo/\IsTup h a bo.toArray
 | .dK jJ=>jJ.length<=sizeLine/\(a==sysModules)=false/\∃vs,KV jJ vs/\h.DictOf (cm P w) a vs
 | .dT jJ=>jJ.length<=sizeLine/\(a==sysModules)=false/\∃xs:List (TH×Tv×Tn),
   Paired (λ(p:TH×V) (q:TH×Tv×Tn)=>p.1=q.1/\H q.2.1=some (.tup (p.1.map kV))/\RelV p.2 q.2.2) jJ xs/\
   ∃o es ep,h.get? a=some o/\o.ExactDict/\o.data=.dict es ep/\es.toList=xs.map (entryOfKey (tupleKind (cm P w)))/\(xs.map (·.1)).Nodup
 | .set S n=>h.SetOf (intKind P w) a S n
 | .ins C dx fs=>H dx=some (.own a)/\fs.length<=1000/\dx≠a/\h.get? a=some (PySem.W.instObj C dx)/\
   ∃mA,h.Ns1 dx mA/\(∀f,Kv (fs.lookup f) (mA f))/\PySem.Within mA (fs.map (·.1))
 | .own _=>∃o,h.get? a=some o
 | .xd fs=>∃mA,h.Ns1 a mA/\∀f,Kv (fs.lookup f) (mA f)
 | .rng lo hi=>∃t u v,h.get? a=some {cls:=.type "range",data:=.fields #[.int lo t,.int hi u,.int 1 v]}
 | .frz o u=>h.get? a=some o/\bO H h a u
 | .tbl ps=>h.get? a=some {cls:=.none,data:=.fields ps}
 | .met f x=>h.get? a=some (PySem.W.methodObj (.ref f) (.ref x))
 | .ext φ=>φ h/\(∃o,h.get? a=some o)/\∀h1 h2:Tr,φ h1->(∀o,h1.get? a=some o->h2.get? a=some o)->φ h2
def kY(H:Hp)(h:Tr):Prop:=∀a o,H a=some o->bO P w H h a o
end
section
variable {P:Tp}{w:Ts}{H H':Hp}{h h':Tr}{a:Tv}{o:HO}
theorem bO.lt(x:bO P w H h a o):a<h.objs.size:=by
 cases o with
 | lst xs=>obtain⟨_,_,_,_,e⟩:=x;exact k_ e
 | tup xs=>obtain⟨_,_,_,p⟩:=x;exact p.lt
 | dK jJ=>obtain⟨_,_,_,_,o,_,_,e,_⟩:=x;exact k_ e
 | dT jJ=>obtain⟨_,_,_,_,o,_,_,e,_⟩:=x;exact k_ e
 | set S n=>obtain⟨o,_,_,_,e,_⟩:=x;exact k_ e
 | ins C dx fs=>obtain⟨_,_,_,e,_⟩:=x;exact k_ e
 | own y=>obtain⟨_,e⟩:=x;exact k_ e
 | xd fs=>obtain⟨_,⟨_,_,_,e,_⟩,_⟩:=x;exact k_ e
 | rng lo hi=>obtain⟨_,_,_,e⟩:=x;exact k_ e
 | frz ob u=>obtain⟨e,_⟩:=x;exact k_ e
 | tbl ps=>exact k_ (show h.get? a=some _ from x)
 | met f y=>exact k_ (show h.get? a=some _ from x)
 | ext φ=>obtain⟨_,⟨_,e⟩,_⟩:=x;exact k_ e
theorem Paired.mapP:∀{l₁:List α}{l₂:List β},Paired F l₁ l₂->(∀a b,F a b->G a b)->Paired G l₁ l₂
 | _,_,.nil,_=>.nil
 | _,_,.cons r t,f=>.cons (f _ _ r) (Paired.mapP t f)
theorem bO.stay(x:bO P w H h a o)(k:∀b u,(b=a\/H b=some (.own a))->h.get? b=some u->h'.get? b=some u)
  (ho:∀b,H b=some (.own a)->H' b=some (.own a)) (ht:∀b xs,H b=some (.tup xs)->H' b=some (.tup xs)):bO P w H' h' a o:=by
 induction o with
 | lst xs=>obtain⟨z,bo,n,r,e⟩:=x;exact⟨z,bo,n,r,k _ _ (.inl rfl) e⟩
 | tup xs=>obtain⟨z,bo,r,ob,e,c⟩:=x;exact⟨z,bo,r,ob,k _ _ (.inl rfl) e,c⟩
 | dK jJ=>obtain⟨z,y,vs,r,ob,es,ep,e,c⟩:=x;exact⟨z,y,vs,r,ob,es,ep,k _ _ (.inl rfl) e,c⟩
 | dT jJ=>
  obtain⟨z,y,xs,r,ob,es,ep,e,c⟩:=x;exact⟨z,y,xs,Paired.mapP r λp q z=>⟨z.1,ht _ _ z.2.1,z.2.2⟩,ob,es,ep,k _ _ (.inl rfl) e,c⟩
 | set S n=>obtain⟨ob,es,ep,t,e,c⟩:=x;exact⟨ob,es,ep,t,k _ _ (.inl rfl) e,c⟩
 | ins C dx fs=>
  obtain⟨d,z,ne,e,mA,⟨od,es,ep,e2,c⟩,r⟩:=x;exact⟨ho _ d,z,ne,k _ _ (.inl rfl) e,mA,⟨od,es,ep,k _ _ (.inr d) e2,c⟩,r⟩
 | own y=>obtain⟨ob,e⟩:=x;exact⟨ob,k _ _ (.inl rfl) e⟩
 | xd fs=>obtain⟨mA,⟨od,es,ep,e,c⟩,r⟩:=x;exact⟨mA,⟨od,es,ep,k _ _ (.inl rfl) e,c⟩,r⟩
 | rng lo hi=>obtain⟨t,u,v,e⟩:=x;exact⟨t,u,v,k _ _ (.inl rfl) e⟩
 | frz ob u ih=>obtain⟨e,q⟩:=x;exact⟨k _ _ (.inl rfl) e,ih q⟩
 | tbl ps=>
  have e:h.get? a=some {cls:=.none,data:=.fields ps}:=x;show h'.get? a=some {cls:=.none,data:=.fields ps};exact k a _ (.inl rfl) e
 | met f y=>
  have e:h.get? a=some (PySem.W.methodObj (.ref f) (.ref y)):=x;show h'.get? a=some (PySem.W.methodObj (.ref f) (.ref y));exact k a _ (.inl rfl) e
 | ext φ=>obtain⟨p,⟨o,e⟩,st⟩:=x;exact⟨st _ _ p λo q=>k _ _ (.inl rfl) q,⟨o,k _ _ (.inl rfl) e⟩,st⟩
theorem kY.lt(x:kY P w H h)(e:H a=some o):a<h.objs.size:=(x a o e).lt
theorem kY.fresh(x:kY P w H h)(e:h.objs.size<=a):H a=none:=by
 cases q:H a with
 | none=>rfl
 | some u=>exact absurd (n_ (x.lt q) e) (QW _)
theorem kY.kept(x:kY P w H h)(k:∀b u,h.get? b=some u->h'.get? b=some u):kY P w H h':=λa o e=>
 (x a o e).stay (λb u _ q=>k b u q) (λ_ q=>q) λ_ _ q=>q
theorem kY.laid(x:kY P w H h)(k:∀b u,h.get? b=some u->h'.get? b=some u)(hp:h.objs.size<=a)(new:bO P w (upd H a o) h' a o):kY P w (upd H a o) h':=λb u e=>by
 have hn:=x.fresh hp
 by_cases hb:b=a
 .subst hb;rw[aw]at e;cases e;exact new
 .rw[ay hb]at e;exact(x b u e).stay (λc v _ q=>k c v q) (λc q=>by rw[ay (cK q hn)];exact q) λc xs q=>by rw[ay (cK q hn)];exact q
end
def Rd(H:Hp)(a:Tv)(u:HO):Prop:=H a=some u\/∃o,H a=some (.frz o u)
theorem Rd.ok(r:Rd H a u)(x:kY P w H h):bO P w H h a u:=by
 rcases r with r | ⟨o,r⟩
 .exact x a u r
 .obtain⟨_,q⟩:=x a _ r;exact q
def LN:Option HO->Prop
 | some (.lst _)=>True
 | some (.dK _)=>True
 | some (.dT _)=>True
 | some (.set _ _)=>True
 | some (.ins _ _ _)=>True
 | some (.ext _)=>True
 | _=>False
section
variable {P:Tp}{w:Ts}{H:Hp}{h h':Tr}{x e:Tv}{o':HO}
theorem kY.write(ok:kY P w H h)(mu:LN (H x))(he:e=x\/H e=some (.own x))(k:∀b u,b≠e->h.get? b=some u->h'.get? b=some u)(Ir:∃u,h'.get? e=some u)
  (new:bO P w (upd H x o') h' x o'):kY P w (upd H x o') h':=λb u q=>by
 have KB:∀c y,H c=some (.own y)->c≠x:=λc y r z=>by subst z;rw[r]at mu;exact mu
 have ntup:∀c xs,H c=some (.tup xs)->c≠x:=λc xs r z=>by subst z;rw[r]at mu;exact mu
 by_cases hb:b=x
 .subst hb;rw[aw]at q;cases q;exact new
 .rw[ay hb]at q
  by_cases BS:b=e
  .have q':H b=some (.own x):=by
    rcases he with z | z
    .exact absurd (BS.trans z) hb
    .rw[BS];exact z
   rw[q]at q';cases q';obtain⟨v,hv⟩:=Ir;exact⟨v,by rw[BS];exact hv⟩
  .refine(ok b u q).stay (λc v hc r=>k c v ?_ r) (λc r=>by rw[ay (KB c b r)];exact r) λc xs r=>by rw[ay (ntup c xs r)];exact r
   rcases hc with rfl | hc
   .exact BS
   .rintro rfl;rcases he with z | z
    .exact KB c b hc z
    .rw[hc]at z;cases z;exact hb rfl
end
structure Un(fs ex:List Addr)(H H':Hp)(h h':Heap):Prop where
 keep:∀b o,h.get? b=some o->H b=none->b∉fs->b∉ex->h'.get? b=some o
 slot:∀b o,h.get? b=some o->H b=none->b∈fs->b∉ex->∃sl,h'.get? b=some {o with slots:=sl}
 free:∀b o,h.get? b=some o->H b=none->b∉ex->H' b=none
 there:∀b o,h.get? b=some o->b∉ex->∃o',h'.get? b=some o'
 tups:∀b xs,H b=some (.tup xs)->H' b=some (.tup xs)
 frzs:∀b o u,H b=some (.frz o u)->H' b=some (.frz o u)
 tbls:∀b ps,H b=some (.tbl ps)->∃more,H' b=some (.tbl (ps++more))
section
variable {fs KC ex ex':Tc}{H H1 H2:Hp}{h h1 h2 h':Tr}{a x e:Tv}{o:HO}
theorem Un.any(u:Un fs ex H H1 h h1)(q:h.get? b=some ob)(n:H b=none)(hx:b∉ex):∃sl,h1.get? b=some {ob with slots:=sl}:=by
 by_cases hb:b∈fs
 .exact u.slot b ob q n hb hx
 .exact⟨ob.slots,u.keep b ob q n hb hx⟩
theorem Un.trans(a:Un fs ex H H1 h h1)(b:Un fs ex H1 H2 h1 h2):Un fs ex H H2 h h2 where
 keep:=λc ob q n hc hx=>b.keep c ob (a.keep c ob q n hc hx) (a.free c ob q n hx) hc hx
 slot:=λc ob q n hc hx=>by
  obtain⟨sl,e1⟩:=a.slot c ob q n hc hx;obtain⟨KD,e2⟩:=b.slot c _ e1 (a.free c ob q n hx) hc hx;exact⟨KD,e2⟩
 free:=λc ob q n hx=>by
  obtain⟨o',e1⟩:=a.there c ob q hx;exact b.free c o' e1 (a.free c ob q n hx) hx
 there:=λc ob q hx=>by
  obtain⟨o',e1⟩:=a.there c ob q hx;exact b.there c o' e1 hx
 tups:=λc xs q=>b.tups c xs (a.tups c xs q)
 frzs:=λc ob xs q=>b.frzs c ob xs (a.frzs c ob xs q)
 tbls:=λc ps q=>by
  obtain⟨m1,e1⟩:=a.tbls c ps q;obtain⟨m2,e2⟩:=b.tbls c _ e1;exact⟨m1++m2,by rw[e2,Array.append_assoc]⟩
theorem Un.kept(k:∀b u,h.get? b=some u->h'.get? b=some u):Un fs ex H H h h':=
 ⟨λb ob q _ _ _=>k b ob q,λb ob q _ _ _=>⟨ob.slots,k b ob q⟩,λ_ _ _ n _=>n,λb ob q _=>⟨ob,k b ob q⟩,λ_ _ q=>q,λ_ _ _ q=>q,λ_ ps q=>⟨#[],by rw[q];simp⟩⟩
theorem Un.refl:Un fs ex H H h h:=Un.kept λ_ _ q=>q
theorem Un.laid(k:∀b u,h.get? b=some u->h'.get? b=some u)(hp:h.objs.size<=a)(hn:H a=none):Un fs ex H (upd H a o) h h' where
 keep:=λb u q _ _ _=>k b u q
 slot:=λb u q _ _ _=>⟨u.slots,k b u q⟩
 free:=λb u q n _=>by rw[ay (x_ (n_ (k_ q) hp))];exact n
 there:=λb u q _=>⟨u,k b u q⟩
 tups:=λb xs q=>by rw[ay (cK q hn)];exact q
 frzs:=λb u xs q=>by rw[ay (cK q hn)];exact q
 tbls:=λb ps q=>⟨#[],by rw[ay (cK q hn),q];simp⟩
theorem Un.write(mu:LN (H x))(he:e=x\/H e=some (.own x))(k:∀b u,b≠e->h.get? b=some u->h'.get? b=some u)(Ir:∃u,h'.get? e=some u):Un fs ex H (upd H x o) h h':=by
 have hx:∀b,H b=none->b≠x:=λb n z=>by subst z;rw[n]at mu;exact mu
 have hb:∀b,H b=none->b≠e:=λb n z=>by
  subst z;rcases he with r | r
  .exact hx b n r
  .rw[n]at r;cases r
 have hm:∀b u,H b=some u->¬LN (some u)->b≠x:=λb u q nm z=>by subst z;rw[q]at mu;exact nm mu
 refine⟨λb u q n _ _=>k b u (hb b n) q,λb u q n _ _=>⟨u.slots,k b u (hb b n) q⟩,λb u q n _=>by rw[ay (hx b n)];exact n,λb u q _=>?_,
  λb xs q=>by rw[ay (hm b _ q λz=>z)];exact q,λb u xs q=>by rw[ay (hm b _ q λz=>z)];exact q,λb ps q=>⟨#[],by rw[ay (hm b _ q λz=>z),q];simp⟩⟩
 by_cases BS:b=e
 .subst BS;exact Ir
 .exact⟨u,k b u BS q⟩
end
def Lz(h:Tr)(H:Hp):Tc:=(List.range h.objs.size).filter λa=>(H a).isSome
def p'(h:Tr)(H:Hp):Tr:=PySem.W.hideAll h (Lz h H)
theorem yd(h:Tr)(H:Hp):(p' h H).objs.size=h.objs.size:=PySem.W.hideAll_size _ _
theorem y8(e:h.get? b=some o)(n:H b=none):(p' h H).get? b=some o:=
 PySem.W.hideAll_get _ e λhm=>by
  have q:(H b).isSome=true:=(Qh.mp hm).2;rw[n]at q;simp at q
theorem BZ(e:(p' h H).get? b=some o):h.get? b=some o/\H b=none:=by
 have e':h.get? b=some o:=PySem.W.of_hideAll (Lz h H) e;refine⟨e',?_⟩;cases q:H b with
 | none=>rfl
 | some x=>
  have hm:b∈Lz h H:=Qh.mpr ⟨Q2.mpr (k_ e'),by simp[q]⟩;have z:(p' h H).get? b=none:=PySem.W.hideAll_none (Lz h H) hm;rw[z]at e;cases e
def B2(g h:Tr)(L:Tv):S3:=(List.range h.objs.size).filterMap λa=>if a=L\/(g.get? a).isSome=true then none else(h.get? a).map λo=>(a,o)
def rest(g h:Tr)(L d:Tv):S3:=(B2 g h L).filter λp=>decide (p.1≠d)
structure Mod(K:PySem.W.Frag)(mg:Str->Option Value)(base:Heap):Prop where
 kin:K.In base
 glob:base.Ns mainGlobals mg
 blt:∃mb,base.Ns builtinsNs mb/\∀x:Str,x≠"__name__"->mb x=bootBuiltins x
 nolimit:base.NoLimit
structure Cx where
 prog:Program
 w:World
 K:PySem.W.Frag
 mg:Str->Option Value
 base:Heap
 A:Around
 N:List Str
 s₀:Shared
 H₀:Hp
 env:Env
 outer:List Env
 stack:List Env
 ex:List Addr
 fn:Str->Bool
 calm:Bool
 pn:List (Addr×Obj)
 xe:Value->Shared->Prop
def kS(l:List Env):Tc:=l.filterMap (·.frame)
abbrev Cx.fs(X:Cx):Tc:=kS X.outer
def vZ(sc:Tu)(x:Str):Prop:=sc.names.lookup x=some .local\/sc.names.lookup x=some .cell\/sc.names.lookup x=some .free
def Loc(sc:Tu)(x:Str):Prop:=sc.names.lookup x=some .local\/sc.names.lookup x=some .cell
def Look(env:Env)(h:Tr)(m:S5)(x:Str)(u:Tn):Prop:=
 (env.kindOf x=some .local/\m x=some u)\/((env.kindOf x=some .cell\/env.kindOf x=some .free)/\∃c,env.cells.lookup x=some c/\h.IsCell c (some u))
structure Cx.Ok(X:Cx):Prop where
 mod:Mod X.K X.mg X.base
 kind:X.env.scope.kind=.function
 glob:X.env.globals=mainGlobals
 blt:X.env.builtins=builtinsNs
 above:X.s₀.heap.objs.size<=X.env.locals
 inj:∀x y c,X.env.cells.lookup x=some c->X.env.cells.lookup y=some c->x=y
 has:∀x,(X.env.kindOf x=some .cell\/X.env.kindOf x=some .free)->∃c,X.env.cells.lookup x=some c
 cab:∀x c,X.fn x=true->X.env.cells.lookup x=some c->X.s₀.heap.objs.size<=c
 hd:X.calm=true->X.A.handled=none
 frames:X.A.frames=some X.stack
 stk:X.stack=X.outer\/(X.stack=X.env::X.outer/\X.env.frame=some X.env.locals)
 exf:∀b∈X.ex,b≠X.env.locals/\∀x c,X.env.cells.lookup x=some c->c≠b
 bs:∀b o,X.base.get? b=some o->X.s₀.heap.get? b=some o/\X.H₀ b=none
 bsz:X.base.objs.size<=X.s₀.heap.objs.size
 noex:∀b o,X.base.get? b=some o->b∉X.ex
 exfs:∀b∈X.ex,b∉X.fs
 funs:X.s₀.heap.FunFrames X.base X.outer
 frf:∀b∈X.fs,X.H₀ b=none
structure Inv(X:Cx)(pins:List (Addr×Obj))(σ:List (Option V))(H:Hp)(s:Shared):Prop where
 ok:X.Ok
 os:s.os=X.s₀.os
 bare:AllBare s.gens
 base:Un X.fs X.ex X.H₀ H X.s₀.heap s.heap
 loc:∃m,s.heap.Ns X.env.locals m/\∀(i:Nat)(x:Str)(v:V),X.N[i]?=some x->σ[i]?=some (some v)->vZ X.env.scope x->∃u,RelV v u/\Look X.env s.heap m x u
 cell:∀x c,X.env.cells.lookup x=some c->∃v,s.heap.IsCell c v
 free:H X.env.locals=none
 freeC:∀x c,X.env.cells.lookup x=some c->H c=none
 pin:∀p∈X.pn++pins,s.heap.get? p.1=some p.2/\H p.1=none/\p.1≠X.env.locals/\p.1∉X.fs/\∀v,p.2.data≠.cell v
 hok:kY X.prog X.w H s.heap
 len:σ.length=X.N.length
section
variable {X:Cx}{pins:S3}{σ:List (Option V)}{H H':Hp}{s:To}{h':Tr}
theorem Cx.Ok.nofr(ok:X.Ok)(e:X.base.get? b=some o):b∉X.fs:=λhb=>by
 have:=(ok.funs.mem hb).1;rw[e]at this;cases this
theorem Inv.bs(I:Inv X pins σ H s):∀b o,X.base.get? b=some o->s.heap.get? b=some o/\H b=none:=λb o e=>
 ⟨I.base.keep b o (I.ok.bs b o e).1 (I.ok.bs b o e).2 (I.ok.nofr e) (I.ok.noex b o e),I.base.free b o (I.ok.bs b o e).1 (I.ok.bs b o e).2 (I.ok.noex b o e)⟩
theorem Inv.bk(I:Inv X pins σ H s):∀b o,X.base.get? b=some o->s.heap.get? b=some o:=λb o e=>(I.bs b o e).1
theorem Inv.mod(I:Inv X pins σ H s):Mod X.K X.mg X.base:=I.ok.mod
theorem Inv.kIn(I:Inv X pins σ H s):X.K.In s.heap:=I.ok.mod.kin.keeps I.bk
theorem Inv.fr(I:Inv X pins σ H s):∃m,Fr X.base X.env.locals s.heap m:=
 let ⟨m,hn,_⟩:=I.loc
 ⟨m,hn,I.bk,w_ I.ok.bsz I.ok.above⟩
theorem Inv.lt(I:Inv X pins σ H s):X.env.locals<s.heap.objs.size:=let ⟨_,hn,_⟩:=I.loc;hn.lt
theorem Inv.sz(I:Inv X pins σ H s):X.s₀.heap.objs.size<=s.heap.objs.size:=w_ I.ok.above (Sk I.lt)
theorem Inv.nofs(I:Inv X pins σ H s)(h:s.heap.objs.size<=a):a∉X.fs:=λhb=>by
 obtain⟨_,o,ho,_⟩:=I.ok.funs.mem hb;exact absurd (n_ (k_ ho) (w_ I.sz h)) (QW _)
theorem Inv.cne(I:Inv X pins σ H s):∀x c,X.env.cells.lookup x=some c->c≠X.env.locals:=λx c e z=>by
 obtain⟨v,o,ho,hd⟩:=I.cell x c e;obtain⟨m,⟨o',es,ep,ub,KF,_⟩,_⟩:=I.loc;rw[z,ub]at ho;cases ho;rw[KF]at hd;cases hd
theorem Inv.funs(I:Inv X pins σ H s):s.heap.FunFrames X.base X.outer:=by
 have all:∀(l:List Env),(∀b∈kS l,b∈X.fs)->X.s₀.heap.FunFrames X.base l->s.heap.FunFrames X.base l:=by
  intro l
  induction l with
  | nil=>intro _ _;trivial
  | cons env r ih=>
   intro hs hl;obtain⟨hk,⟨L,o,hf,hn,ho,hd⟩,hr⟩:=hl;have hL:L∈X.fs:=hs L (by unfold kS;rw[RC,hf];exact f_);obtain⟨sl,e⟩:=I.base.slot L o ho (I.ok.frf L hL) hL λz=>I.ok.exfs L z hL;exact⟨hk,⟨L,_,hf,hn,e,hd⟩,ih (λb hb=>hs b (by unfold kS;rw[RC,hf];exact e_ _ hb)) hr⟩
 exact all X.outer (λ_ hb=>hb) I.ok.funs
theorem Inv.stack(I:Inv X pins σ H s):s.heap.FunFrames X.base X.stack:=by
 rcases I.ok.stk with e | ⟨e,hf⟩
 .rw[e];exact I.funs
 .rw[e];obtain⟨m,hn,_⟩:=I.loc;refine .cons (by rw[I.ok.kind];decide) hf hn ?_ I.funs;exact Qf (w_ I.ok.bsz I.ok.above)
theorem Inv.stkSub(I:Inv X pins σ H s):∀b∈kS X.stack,b∈X.env.locals::X.fs:=λb hb=>by
 rcases I.ok.stk with e | ⟨e,hf⟩
 .rw[e]at hb;exact e_ _ hb
 .rw[e]at hb;unfold kS at hb;rw[RC,hf]at hb;exact hb
theorem Inv.stkFree(I:Inv X pins σ H s):∀b∈kS X.stack,H b=none:=λb hb=>by
 rcases p_.mp (I.stkSub b hb)with e | hb
 .rw[e];exact I.free
 .obtain⟨_,o,ho,_⟩:=I.ok.funs.mem hb;exact I.base.free b o ho (I.ok.frf b hb) λz=>I.ok.exfs b z hb
theorem Inv.step{g':Array GenState}{t':Nat}{d':Drawn}{ch:Tc}(I:Inv X pins σ H s)
  (hch:∀b∈ch,(b∈X.ex\/X.s₀.heap.objs.size<=b)/\b≠X.env.locals/\(∀x c,X.env.cells.lookup x=some c->c≠b)/\∀p∈X.pn++pins,p.1≠b)
  (keep:∀b o,b≠X.env.locals->b∉X.fs->b∉ch->s.heap.get? b=some o->H b=none->h'.get? b=some o)
  (slot:∀b o,b≠X.env.locals->b∈X.fs->b∉ch->s.heap.get? b=some o->H b=none->∃sl,h'.get? b=some {o with slots:=sl}) (free:∀b o,b∉ch->s.heap.get? b=some o->H b=none->H' b=none)
  (there:∀b o,b∉ch->s.heap.get? b=some o->∃o',h'.get? b=some o')
  (tups:∀b xs,H b=some (.tup xs)->H' b=some (.tup xs)) (frzs:∀b o u,H b=some (.frz o u)->H' b=some (.frz o u)) (tbls:∀b ps,H b=some (.tbl ps)->∃more,H' b=some (.tbl (ps++more)))
  (ns:∀m,s.heap.Ns X.env.locals m->h'.Ns X.env.locals m) (hok:kY X.prog X.w H' h') (hg:AllBare g') :
  Inv X pins σ H' {s with heap:=h',gens:=g',drawn:=d',toks:=t'}:=by
 have OL:∀b o,X.s₀.heap.get? b=some o->b≠X.env.locals:=λb o e=>x_ (n_ (k_ e) I.ok.above);have LP:∀b o,X.s₀.heap.get? b=some o->b∉X.ex->b∉ch:=λb o e hx hb=>by
  rcases(hch b hb).1 with z | z
  .exact hx z
  .exact absurd (n_ (k_ e) z) (QW _)
 have cellK:∀x c,X.env.cells.lookup x=some c->∀v,s.heap.IsCell c v->h'.IsCell c v:=λx c e v aA=>by
  obtain⟨o,ho,hd⟩:=aA;have KG:c∉ch:=λz=>(hch c z).2.2.1 x c e rfl
  by_cases hc:c∈X.fs
  .obtain⟨sl,q⟩:=slot c o (I.cne x c e) hc KG ho (I.freeC x c e);exact⟨_,q,hd⟩
  .exact⟨o,keep c o (I.cne x c e) hc KG ho (I.freeC x c e),hd⟩
 refine⟨I.ok,I.os,hg,⟨λb o e n hb hx=>?_,λb o e n hb hx=>?_,λb o e n hx=>?_,λb o e hx=>?_,λb xs e=>tups b xs (I.base.tups b xs e),λb o xs e=>frzs b o xs (I.base.frzs b o xs e),λb ps e=>?_⟩,?_,λx c e=>?_,?_,λx c e=>?_,λp hp=>?_,hok,I.len⟩
 .exact keep b o (OL b o e) hb (LP b o e hx) (I.base.keep b o e n hb hx) (I.base.free b o e n hx)
 .obtain⟨sl,e1⟩:=I.base.slot b o e n hb hx;obtain⟨KD,e2⟩:=slot b _ (OL b o e) hb (LP b o e hx) e1 (I.base.free b o e n hx);exact⟨KD,e2⟩
 .obtain⟨o',e1⟩:=I.base.there b o e hx;exact free b o' (LP b o e hx) e1 (I.base.free b o e n hx)
 .obtain⟨o',e1⟩:=I.base.there b o e hx;exact there b o' (LP b o e hx) e1
 .obtain⟨m1,e1⟩:=I.base.tbls b ps e;obtain⟨m2,e2⟩:=tbls b _ e1;exact⟨m1++m2,by rw[e2,Array.append_assoc]⟩
 .obtain⟨m,hn,hl⟩:=I.loc;refine⟨m,ns m hn,λi x v e1 e2 e3=>?_⟩;obtain⟨u,r,l⟩:=hl i x v e1 e2 e3;refine⟨u,r,?_⟩;rcases l with l | ⟨k,c,e,z⟩
  .exact .inl l
  .exact .inr ⟨k,c,e,cellK x c e _ z⟩
 .obtain⟨v,z⟩:=I.cell x c e;exact⟨v,cellK x c e v z⟩
 .obtain⟨m,⟨o,_,_,ho,_⟩,_⟩:=I.loc;exact free _ o (λz=>(hch _ z).2.1 rfl) ho I.free
 .obtain⟨v,o,ho,hd⟩:=I.cell x c e;exact free c o (λz=>(hch c z).2.2.1 x c e rfl) ho (I.freeC x c e)
 .obtain⟨e,n,ne,nf,d⟩:=I.pin p hp;have KG:p.1∉ch:=λz=>(hch p.1 z).2.2.2 p hp rfl;exact⟨keep p.1 p.2 ne nf KG e n,free p.1 p.2 KG e n,ne,nf,d⟩
theorem Inv.un{t':Nat}(I:Inv X pins σ H s)(u:Un X.fs [] H H' s.heap h')(hok:kY X.prog X.w H' h'):Inv X pins σ H' {s with heap:=h',toks:=t'}:=by
 obtain⟨m,⟨o,es,ep,ho,r⟩,_⟩:=id I.loc;obtain⟨sl,hL⟩:=u.any ho I.free (by simp);exact I.step (g':=s.gens) (d':=s.drawn) (ch:=[]) (λ_ z=>nomatch z) (λb o _ hb _ e n=>u.keep b o e n hb (by simp)) (λb o _ hb _ e n=>u.slot b o e n hb (by simp)) (λb o _ e n=>u.free b o e n (by simp)) (λb o _ e=>u.there b o e (by simp)) u.tups u.frzs u.tbls (λm' hm=>by
  obtain⟨o',KH,Nb,ub,r'⟩:=hm;rw[ho]at ub;cases ub;exact⟨_,KH,Nb,hL,r'⟩) hok I.bare
theorem Inv.call{g':Array GenState}{t':Nat}{d':Drawn}{ch:Tc}(I:Inv X pins σ H s)(u:Un (kS X.stack) ch H H' s.heap h')(hok:kY X.prog X.w H' h')(hg:AllBare g')
  (hch:∀b∈ch,(b∈X.ex\/X.s₀.heap.objs.size<=b)/\b≠X.env.locals/\(∀x c,X.env.cells.lookup x=some c->c≠b)/\∀p∈X.pn++pins,p.1≠b) :
  Inv X pins σ H' {s with heap:=h',gens:=g',drawn:=d',toks:=t'}:=by
 obtain⟨m,⟨o,es,ep,ho,r⟩,_⟩:=id I.loc;obtain⟨sl,hL⟩:=u.any ho I.free λz=>(hch _ z).2.1 rfl;exact I.step (ch:=ch) hch (λb o hL hb hc e n=>u.keep b o e n (λz=>(p_.mp (I.stkSub b z)).elim hL hb) hc) (λb o _ _ hc e n=>u.any e n hc) (λb o hc e n=>u.free b o e n hc) (λb o hc e=>u.there b o e hc) u.tups u.frzs u.tbls (λm' hm=>by
  obtain⟨o',KH,Nb,ub,r'⟩:=hm;rw[ho]at ub;cases ub;exact⟨_,KH,Nb,hL,r'⟩) hok hg
theorem Inv.turned{t':Nat}{it:Tv}(I:Inv X pins σ H s)(k:∀b o,b≠it->s.heap.get? b=some o->h'.get? b=some o)(hn:H it=none)(hL:it≠X.env.locals)
  (h1:it∈X.ex\/X.s₀.heap.objs.size<=it) (h2:∀x c,X.env.cells.lookup x=some c->c≠it) (h3:∀p∈X.pn++pins,p.1≠it):Inv X pins σ H {s with heap:=h',toks:=t'}:=by
 have KI:∀b u,H b=some u->b≠it:=λb u e z=>by rw[z,hn]at e;cases e
 refine I.step (g':=s.gens) (d':=s.drawn) (ch:=[it]) (λb hb=>?_) (λb o _ _ hc e _=>k b o (λz=>hc (by simp[z])) e) (λb o _ _ hc e _=>⟨o.slots,k b o (λz=>hc (by simp[z])) e⟩) (λ_ _ _ _ n=>n)
  (λb o hc e=>⟨o,k b o (λz=>hc (by simp[z])) e⟩) (λ_ _ e=>e) (λ_ _ _ e=>e) (λb ps e=>⟨#[],by rw[e];simp⟩) (λm hm=>?_) (λb u e=>?_) I.bare
 .have e:b=it:=by simpa using hb
  subst e;exact⟨h1,hL,h2,h3⟩
 .obtain⟨o,es,ep,ho,r⟩:=hm;exact⟨o,es,ep,k _ o (Qo hL) ho,r⟩
 .refine(I.hok b u e).stay (λc v hc q=>k c v ?_ q) (λ_ q=>q) λ_ _ q=>q;rcases hc with z | z
  .rw[z];exact KI b u e
  .exact KI c _ z
theorem Inv.tok(I:Inv X pins σ H s)(t:Nat):Inv X pins σ H {s with toks:=t}:=I.un (h':=s.heap) (t':=t) Un.refl I.hok
theorem Inv.kept(I:Inv X pins σ H s)(k:∀b u,s.heap.get? b=some u->h'.get? b=some u):Inv X pins σ H {s with heap:=h',toks:=t'}:=I.un (Un.kept k) (I.hok.kept k)
theorem Inv.laid(I:Inv X pins σ H s)(k:∀b u,s.heap.get? b=some u->h'.get? b=some u)(hp:s.heap.objs.size<=a)(new:bO X.prog X.w (upd H a o) h' a o) :
  Inv X pins σ (upd H a o) {s with heap:=h',toks:=t'}:=I.un (Un.laid k hp (I.hok.fresh hp)) (I.hok.laid k hp new)
theorem Inv.write(I:Inv X pins σ H s)(mu:LN (H x))(he:e=x\/H e=some (.own x))(k:∀b u,b≠e->s.heap.get? b=some u->h'.get? b=some u)(Ir:∃u,h'.get? e=some u)
  (new:bO X.prog X.w (upd H x o) h' x o):Inv X pins σ (upd H x o) {s with heap:=h',toks:=t'}:=I.un (Un.write mu he k Ir) (I.hok.write mu he k Ir new)
theorem Inv.pins_of(I:Inv X pins σ H s)(h:∀p∈pins',s.heap.get? p.1=some p.2/\H p.1=none/\p.1≠X.env.locals/\p.1∉X.fs/\∀v,p.2.data≠.cell v):Inv X pins' σ H s:=
 ⟨I.ok,I.os,I.bare,I.base,I.loc,I.cell,I.free,I.freeC,λp hp=>(Qz.mp hp).elim (λz=>I.pin p (List.mem_append_left _ z)) (h p),I.hok,I.len⟩
theorem rZ{N:Tb}(hN:N.Nodup){i j:Nat}{x:Str}(a:N[i]?=some x)(b:N[j]?=some x):i=j:=by
 obtain⟨h1,e1⟩:=h_.mp a;obtain⟨h2,e2⟩:=h_.mp b;exact(List.getElem_inj hN).mp (e1.trans e2.symm)
theorem nV{M:Model}{A:Tq}{E:S2}{i:Nat}{x:Str}{v:V}{u:Tn}{Q:Unit->To->Prop}(I:Inv X pins σ H s)(hN:X.N.Nodup)(hi:X.N[i]?=some x)(hx:Loc X.env.scope x)(r:RelV v u)
  (h:∀s',Inv X pins (σ.set i (some v)) H s'->(∃a,Heap.SameBut a s.heap s'.heap/\(a=X.env.locals\/X.env.cells.lookup x=some a))->Q () s') (hf:X.fn x=true\/X.env.scope.names.lookup x=some .local:=by first | exact .inl rfl | exact .inr rfl | assumption):wpAny M A (storeName X.env x u) Q E s:=by
 obtain⟨m,hn,hl⟩:=id I.loc;have vz:(X.env.scope.kind==.class||(X.env.scope.kind==.module&&X.env.locals != X.env.globals))=false:=by rw[I.ok.kind];rfl
 have HL:i < σ.length:=by rw[I.len];exact(h_.mp hi).1
 have cne:=I.cne;have tracked:∀{a:Tv}{h':Tr},(∃o,s.heap.get? a=some o/\H a=none)->Heap.SameBut a s.heap h'->kY X.prog X.w H h':=λ{a h'} ha hs b ob e=>by
  obtain⟨_,_,FA⟩:=ha;refine(I.hok b ob e).stay (λc w' hc q=>(hs.2 c ?_).trans q) (λ_ q=>q) λ_ _ q=>q;rintro rfl;rcases hc with rfl | hc
  .rw[FA]at e;cases e
  .rw[FA]at hc;cases hc
 rcases hx with hk | hk
 .refine wpAny_storeName_local hk hn (λh' HM hs=>?_) vz;obtain⟨oL,_,_,hoL,_⟩:=id hn;refine h _ ⟨I.ok,I.os,I.bare,⟨λb o e n hb hx=>?_,λb o e n hb hx=>?_,I.base.free,λb o e hx=>?_,I.base.tups,I.base.frzs,I.base.tbls⟩,⟨_,HM,λj y v' e1 e2 e3=>?_⟩,λy c e=>?_,I.free,I.freeC,λp hp=>?_,tracked ⟨oL,hoL,I.free⟩ hs,by simpa using I.len⟩ ⟨_,hs,.inl rfl⟩
  .exact(hs.2 b (x_ (n_ (k_ e) I.ok.above))).trans (I.base.keep b o e n hb hx)
  .obtain⟨sl,e1⟩:=I.base.slot b o e n hb hx;exact⟨sl,(hs.2 b (x_ (n_ (k_ e) I.ok.above))).trans e1⟩
  .obtain⟨o',e1⟩:=I.base.there b o e hx;exact⟨o',(hs.2 b (x_ (n_ (k_ e) I.ok.above))).trans e1⟩
  .by_cases hj:j=i
   .subst hj;rw[hi]at e1;cases e1;rw[r_ HL]at e2;cases e2;exact⟨u,r,.inl ⟨hk,by simp⟩⟩
   .rw[l_ (Qo hj)]at e2;obtain⟨u',r',q⟩:=hl j y v' e1 e2 e3;refine⟨u',r',?_⟩;rcases q with ⟨k,e⟩ | ⟨k,c,e,z⟩
    .refine .inl ⟨k,?_⟩;have:y≠x:=λe=>hj (rZ hN e1 (e▸hi));simp[this,e]
    .exact .inr ⟨k,c,e,z.sameBut hs (cne y c e)⟩
  .obtain⟨w',z⟩:=I.cell y c e;exact⟨w',z.sameBut hs (cne y c e)⟩
  .obtain⟨e,n,ne,nf,d⟩:=I.pin p hp;exact⟨(hs.2 p.1 ne).trans e,n,ne,nf,d⟩
 .have Nd:X.fn x=true:=by
   rcases hf with z | z
   .exact z
   .rw[z]at hk;cases hk
  obtain⟨c,hc⟩:=I.ok.has x (.inl hk);obtain⟨w',z⟩:=I.cell x c hc;refine wpAny_storeName_cell I.ok.kind hk hc z (λh' LQ hs=>?_);obtain⟨oc,OM,hocd⟩:=id z;refine h {s with heap:=h'} ⟨I.ok,I.os,I.bare,⟨λb o e n hb hx=>?_,λb o e n hb hx=>?_,I.base.free,λb o e hx=>?_,I.base.tups,I.base.frzs,I.base.tbls⟩,⟨m,hn.sameBut hs (Qo (cne x c hc)),λj y v' e1 e2 e3=>?_⟩,λy c' e=>?_,I.free,I.freeC,λp hp=>?_,tracked ⟨oc,OM,I.freeC x c hc⟩ hs,by simpa using I.len⟩ ⟨c,hs,.inr hc⟩
  .exact(hs.2 b (x_ (n_ (k_ e) (I.ok.cab x c Nd hc)))).trans (I.base.keep b o e n hb hx)
  .obtain⟨sl,e1⟩:=I.base.slot b o e n hb hx;exact⟨sl,(hs.2 b (x_ (n_ (k_ e) (I.ok.cab x c Nd hc)))).trans e1⟩
  .obtain⟨o',e1⟩:=I.base.there b o e hx;exact⟨o',(hs.2 b (x_ (n_ (k_ e) (I.ok.cab x c Nd hc)))).trans e1⟩
  .by_cases hj:j=i
   .subst hj;rw[hi]at e1;cases e1;rw[r_ HL]at e2;cases e2;exact⟨u,r,.inr ⟨.inl hk,c,hc,LQ⟩⟩
   .rw[l_ (Qo hj)]at e2;obtain⟨u',r',q⟩:=hl j y v' e1 e2 e3;refine⟨u',r',?_⟩;rcases q with q | ⟨k,c',e,z'⟩
    .exact .inl q
    .refine .inr ⟨k,c',e,z'.sameBut hs ?_⟩;rintro rfl;exact hj (rZ hN e1 (I.ok.inj _ _ _ e hc▸hi))
  .by_cases BU:c'=c
   .subst BU;exact⟨_,LQ⟩
   .obtain⟨w2,z2⟩:=I.cell y c' e;exact⟨w2,z2.sameBut hs BU⟩
  .obtain⟨e,n,ne,nf,d⟩:=I.pin p hp;refine⟨(hs.2 p.1 ?_).trans e,n,ne,nf,d⟩;intro q;rw[q,OM]at e;have q':oc=p.2:=Option.some.inj e;exact d w' (by rw[<- q'];exact hocd)
theorem g9(I:Inv X pins σ H s)(hN:X.N.Nodup)(hi:X.N[i]?=some x)(hx:Loc X.env.scope x)(r:RelV v u)
  (h:∀s',Inv X pins (σ.set i (some v)) H s'->Q () s') (hf:X.fn x=true\/X.env.scope.names.lookup x=some .local:=by first | exact .inl rfl | exact .inr rfl | assumption):wpAny M A (storeName X.env x u) Q E s:=
 nV I hN hi hx r (λs' I' _=>h s' I') hf
theorem Inv.call'(I:Inv X pins σ H s)(ho:s'.os=s.os)(u:Un (kS X.stack) ch H H' s.heap s'.heap)(hok:kY X.prog X.w H' s'.heap)(hg:AllBare s'.gens)
  (hch:∀b∈ch,(b∈X.ex\/X.s₀.heap.objs.size<=b)/\b≠X.env.locals/\(∀x c,X.env.cells.lookup x=some c->c≠b)/\∀p∈X.pn++pins,p.1≠b):Inv X pins σ H' s':=by
 obtain⟨h',g',d',t',o'⟩:=s';have e:o'=s.os:=ho;subst e;exact I.call (g':=g') (t':=t') (d':=d') u hok hg hch
end
abbrev XK:=Tn->Ta->Hp->Prop
abbrev St:=List (Option V)
abbrev VK:=V->Hp->Prop
abbrev TE:=St->Hp->VK->Prop
abbrev TT:=St->Hp->(Bool->Hp->Prop)->Prop
abbrev TA:=St->Hp->(TQ->Hp->Prop)->Prop
structure Ends where
 nx:St->Hp->Prop
 rt:VK
 bk:St->Hp->Prop:=λ_ _=>False
 ct:St->Hp->Prop:=λ_ _=>False
abbrev TS:=Ends->St->Hp->Prop
def EP(X:Cx)(pins:S3)(σ:St)(Q:VK)(u:Tn)(s':To):Prop:=∃v H',Inv X pins σ H' s'/\RelV v u/\Q v H'
def TP(X:Cx)(pins:S3)(σ:St)(Q:Bool->Hp->Prop)(b:Bool)(s':To):Prop:=∃H',Inv X pins σ H' s'/\Q b H'
def AP(X:Cx)(pins:S3)(σ:St)(Q:TQ->Hp->Prop)(us:S9)(s':To):Prop:=∃vs H',Inv X pins σ H' s'/\aC vs us/\Q vs H'
def SP(X:Cx)(pins:S3)(D:Ends)(f:Flow)(s':To):Prop:=
 match f with
 | .next=>∃σ' H',Inv X pins σ' H' s'/\D.nx σ' H'
 | .brk=>∃σ' H',Inv X pins σ' H' s'/\D.bk σ' H'
 | .cont=>∃σ' H',Inv X pins σ' H' s'/\D.ct σ' H'
 | .ret u=>∃v σ' H',Inv X pins σ' H' s'/\RelV v u/\D.rt v H'
def PE(X:Cx)(e:Tz)(t:TE):Prop:=
 ∀(pins:S3)(s:To)(σ:St)(H:Hp)(Q:VK),Inv X pins σ H s->t σ H Q->wpAny @2 X.A (eval e X.env) (EP X pins σ Q) X.xe s
def PT(X:Cx)(e:Tz)(t:TT):Prop:=
 ∀(pins:S3)(s:To)(σ:St)(H:Hp)(Q:Bool->Hp->Prop),Inv X pins σ H s->t σ H Q->wpAny @2 X.A (isTrue e X.env (eval e X.env)) (TP X pins σ Q) X.xe s
def PW(X:Cx)(e:Tz)(t:TT):Prop:=
 ∀(whole:Sem Tn)(pins:S3)(s:To)(σ:St)(H:Hp)(Q:Bool->Hp->Prop),Inv X pins σ H s->t σ H Q->wpAny @2 X.A (isTrue e X.env whole) (TP X pins σ Q) X.xe s
theorem PW.pt(h:PW X e t):PT X e t:=h _
def PA(X:Cx)(es:Td)(t:TA):Prop:=
 ∀(pos:Pos)(pins:S3)(s:To)(σ:St)(H:Hp)(Q:TQ->Hp->Prop),Inv X pins σ H s->t σ H Q->wpAny @2 X.A (spliced (backTo pos (starEach es X.env))) (AP X pins σ Q) X.xe s
def PS(X:Cx)(st:TC)(t:TS):Prop:=
 ∀(pins:S3)(s:To)(σ:St)(H:Hp)(D:Ends),Inv X pins σ H s->t D σ H->wpAny @2 X.A (exec st X.env) (SP X pins D) X.xe s
def PSs(X:Cx)(st:Te)(t:TS):Prop:=
 ∀(pins:S3)(s:To)(σ:St)(H:Hp)(D:Ends),Inv X pins σ H s->t D σ H->wpAny @2 X.A (execs st X.env) (SP X pins D) X.xe s
theorem bx(h:wpAny M A t Q E s)(hQ:∀a s,Q a s->Q' a s):wpAny M A t Q' E s:=P4 h hQ λ_ _ x=>x
section
variable {X:Cx}
def y0(i:Nat):TE:=λσ H Q=>∃v,σ[i]?=some (some v)/\Q v H
def tC(v:V):TE:=λ_ H Q=>Q v H
theorem bV(hN:X.N[i]?=some x)(hv:vZ X.env.scope x)(hd:(x==("__debug__":Str))=false:=by decide)(eC:(x==("__classdict__":Str))=false:=by decide):PE X (.Name x pos) (y0 i):=by
 intro pins s σ H Q I h;obtain⟨v,e,h⟩:=h;obtain⟨m,hn,hl⟩:=I.loc;obtain⟨u,r,l⟩:=hl i x v hN e hv;have fin:EP X pins σ Q u s:=⟨v,H,I,r,h⟩;rcases l with ⟨hk,hm⟩ | ⟨hk,c,hc,mN⟩
 .exact wpAny_Name (wpAny_loadName_local I.ok.kind hk hn hm fin) hd
 .rcases hk with hk | hk
  .exact wpAny_Name (wpAny_loadName_cell I.ok.kind hk hc mN fin) hd
  .exact wpAny_Name (wpAny_loadName_free I.ok.kind hk hc mN fin eC) hd
theorem zQ{i j pos}:PE X (.Constant (.int i) j pos) (tC (.int i)):=λ_ _ _ H _ I h=>wpAny_Constant_int ⟨.int i,H,I.tok _,⟨_,rfl⟩,h⟩
theorem E2{b j pos}:PE X (.Constant (.bool b) j pos) (tC (.bl b)):=λ_ _ _ H _ I h=>Constant_bool ⟨.bl b,H,I,rfl,h⟩
theorem Am{j pos}:PE X (.Constant .none j pos) (tC .non):=λ_ _ _ H _ I h=>Constant_none ⟨.non,H,I,rfl,h⟩
theorem G9{x j pos}:PE X (.Constant (.str x) j pos) (tC (.str x)):=λ_ _ _ H _ I h=>Calls.Constant_str ⟨.str x,H,I.tok _,⟨_,rfl⟩,h⟩
def Gl(X:Cx)(x:Str):Prop:=X.env.kindOf x=some .globalImplicit
theorem ij(I:Inv X pins σ H s)(hg:Gl X x)(hm:X.mg x=some u)(h:Q u s)
  (hd:(x==("__debug__":Str))=false:=by decide):wpAny @2 X.A (eval (.Name x pos) X.env) Q E s:=
 Calls.Name_function_global I.ok.kind hg (Calls.loadGlobal_global (by rw[I.ok.glob];exact I.mod.glob.keeps I.bk) hm h) hd
theorem fY(I:Inv X pins σ H s)(hg:Gl X x)(hm:X.mg x=none)(hv:bootBuiltins x=some u)(h:Q u s)
  (hn:x≠"__name__":=by decide) (hd:(x==("__debug__":Str))=false:=by decide):wpAny @2 X.A (eval (.Name x pos) X.env) Q E s:=by
 obtain⟨mb,h1,h2⟩:=I.mod.blt;exact Calls.Name_function_global I.ok.kind hg (Calls.loadGlobal_builtin (by rw[I.ok.glob];exact I.mod.glob.keeps I.bk) hm (by rw[I.ok.blt];exact h1.keeps I.bk) ((h2 x hn).trans hv) h) hd
theorem vP(hg:Gl X x)(hm:X.mg x=some u)(r:RelV v u)(hd:(x==("__debug__":Str))=false:=by decide):PE X (.Name x pos) (tC v):=
 λ_ _ _ H _ I h=>ij I hg hm ⟨v,H,I,r,h⟩ hd
theorem Dv(hg:Gl X x)(hm:X.mg x=none)(hv:bootBuiltins x=some u)(r:RelV v u)(hn:x≠"__name__":=by decide)(hd:(x==("__debug__":Str))=false:=by decide):PE X (.Name x pos) (tC v):=
 λ_ _ _ H _ I h=>fY I hg hm hv ⟨v,H,I,r,h⟩ hn hd
variable {a b:Tz}{ta tb:TE}{pos:Pos}
def tB(t:TE):TT:=λσ H Q=>t σ H λx H1=>∃c,x=.bl c/\Q c H1
theorem F3(h:PE X e t)(he:∀whole,isTrue e X.env whole=(do let v <- whole;standAt e.pos;holding [v] (truthy v)):=by intro _;rfl):PT X e (tB t):=by
 intro pins s σ H Q I hw;refine isTrue_plain (bx (h pins s σ H _ I hw) λv s1 aA=>?_) (he _);obtain⟨x,H1,I1,r1,q1⟩:=aA;obtain⟨d,rfl,q⟩:=q1;cases r1;exact QG ⟨H1,I1,q⟩
variable {tA tB':TT}{rest:Td}
def Mv(t u:TT):TT:=λσ H Q=>t σ H λc H1=>if c=true then u σ H1 Q else Q false H1
def PK(t u:TT):TT:=λσ H Q=>t σ H λc H1=>if c=true then Q true H1 else u σ H1 Q
def M8(t:TT):TT:=λσ H Q=>t σ H λc H1=>Q (!c) H1
theorem DK(ha:PT X a tA):PW X (.BoolOp .And [a] pos) tA:=by
 intro wh pins s σ H Q I h;refine isTrue_and (bx (ha pins s σ H Q I h) λc s1 e=>?_);cases c with
 | true=>exact isTrue_and_nil e
 | false=>exact e
theorem GV(ha:PT X a tA):PW X (.BoolOp .Or [a] pos) tA:=by
 intro wh pins s σ H Q I h;refine isTrue_or (bx (ha pins s σ H Q I h) λc s1 e=>?_);cases c with
 | false=>exact isTrue_or_nil e
 | true=>exact e
theorem F4(ha:PT X a tA)(hb:PW X (.BoolOp .And (b::rest) pos) tB'):PW X (.BoolOp .And (a::b::rest) pos) (Mv tA tB'):=by
 intro wh pins s σ H Q I h;refine isTrue_and (bx (ha pins s σ H _ I h) λc s1 aA=>?_);obtain⟨H1,I1,q1⟩:=aA;cases c with
 | true=>exact hb wh pins s1 σ H1 Q I1 q1
 | false=>exact⟨H1,I1,q1⟩
theorem IQ(ha:PT X a tA)(hb:PW X (.BoolOp .Or (b::rest) pos) tB'):PW X (.BoolOp .Or (a::b::rest) pos) (PK tA tB'):=by
 intro wh pins s σ H Q I h;refine isTrue_or (bx (ha pins s σ H _ I h) λc s1 aA=>?_);obtain⟨H1,I1,q1⟩:=aA;cases c with
 | true=>exact⟨H1,I1,q1⟩
 | false=>exact hb wh pins s1 σ H1 Q I1 q1
theorem Hu(ha:PT X a tA):PT X (.UnaryOp .Not a pos) (M8 tA):=by
 intro pins s σ H Q I h;exact isTrue_not (ha pins s σ H (λc H1=>Q (!c) H1) I h)
def Jp(ta tb:TE):TE:=λσ H Q=>ta σ H λx H1=>∃c,x=.bl c/\if c=true then tb σ H1 Q else Q (.bl false) H1
def MO(ta tb:TE):TE:=λσ H Q=>ta σ H λx H1=>∃c,x=.bl c/\if c=true then Q (.bl true) H1 else tb σ H1 Q
def J'(ta:TE):TE:=λσ H Q=>ta σ H λx H1=>∃c,x=.bl c/\Q (.bl (!c)) H1
theorem F2{op}(h:PE X a t):PE X (.BoolOp op [a] pos) t:=λpins s σ H Q I hw=>BoolOp_one (h pins s σ H Q I hw)
theorem Hl(ha:PE X a ta)(hb:PE X (.BoolOp .And (b::rest) pos) tb):PE X (.BoolOp .And (a::b::rest) pos) (Jp ta tb):=by
 intro pins s σ H Q I h;refine BoolOp_and (bx (ha pins s σ H _ I h) λv s1 aA=>?_);obtain⟨x,H1,I1,r1,q1⟩:=aA;obtain⟨c,rfl,q1⟩:=q1;cases r1;refine QG ?_;cases c with
 | true=>exact hb pins s1 σ H1 Q I1 q1
 | false=>exact⟨.bl false,H1,I1,rfl,q1⟩
theorem J8(ha:PE X a ta)(hb:PE X (.BoolOp .Or (b::rest) pos) tb):PE X (.BoolOp .Or (a::b::rest) pos) (MO ta tb):=by
 intro pins s σ H Q I h;refine BoolOp_or (bx (ha pins s σ H _ I h) λv s1 aA=>?_);obtain⟨x,H1,I1,r1,q1⟩:=aA;obtain⟨c,rfl,q1⟩:=q1;cases r1;refine QG ?_;cases c with
 | false=>exact hb pins s1 σ H1 Q I1 q1
 | true=>exact⟨.bl true,H1,I1,rfl,q1⟩
theorem Gm(ha:PE X a ta):PE X (.UnaryOp .Not a pos) (J' ta):=by
 intro pins s σ H Q I h;refine UnaryOp_ (bx (ha pins s σ H _ I h) λv s1 aA=>?_);obtain⟨x,H1,I1,r1,q1⟩:=aA;obtain⟨c,rfl,q1⟩:=q1;cases r1;exact not_of (QG ⟨.bl (!c),H1,I1,rfl,q1⟩)
def Pn(t:TT)(ta tb:TE):TE:=λσ H Q=>t σ H λc H1=>if c=true then ta σ H1 Q else tb σ H1 Q
theorem Ax(hc:PT X c tA)(ha:PE X a ta)(hb:PE X b tb):PE X (.IfExp c a b pos) (Pn tA ta tb):=by
 intro pins s σ H Q I h;refine wpAny_IfExp (bx (hc pins s σ H _ I h) λd s1 aA=>?_);obtain⟨H1,I1,q1⟩:=aA;cases d with
 | true=>exact ha pins s1 σ H1 Q I1 q1
 | false=>exact hb pins s1 σ H1 Q I1 q1
end
def cR(K:Tj)(H:Hp)(a:Tv)(xs:TQ):Prop:=
 Rd H a (.lst xs)\/
  ∃(o:Obj)(bo:Array Tn)(n:Nat),K.lookup a=some o/\o.cls=.type "list"/\o.dict=none/\o.data=.seq bo n/\bo.size<=sizeLine/\aC xs bo.toList
def cX(K:Tj)(H:Hp)(a:Tv)(xs:TQ):Prop:=
 Rd H a (.tup xs)\/
  ∃(o:Obj)(bo:Array Tn)(n:Nat),K.lookup a=some o/\o.cls=.type "tuple"/\o.data=.seq bo n/\bo.size<=sizeLine/\aC xs bo.toList
def MN:Tn->Option V
 | .none=>some .non
 | .bool b=>some (.bl b)
 | .int i _=>some (.int i)
 | .str x _=>some (.str x)
 | .bytes b _=>some (.byt b)
 | .float b _=>some (.flt b)
 | .ref a=>some (.ref a)
 | .type n=>some (.ty n)
 | _=>none
theorem RelV.abs(r:RelV x u):MN u=some x:=by
 cases x with
 | non=>cases r;rfl
 | bl _=>cases r;rfl
 | int _=>obtain⟨t,rfl⟩:=r;rfl
 | str _=>obtain⟨t,rfl⟩:=r;rfl
 | byt _=>obtain⟨t,rfl⟩:=r;rfl
 | flt _=>obtain⟨t,rfl⟩:=r;rfl
 | ref _=>cases r;rfl
 | ty _=>cases r;rfl
theorem RelV.inj(r:RelV x u)(q:RelV y u):x=y:=Option.some.inj (r.abs.symm.trans q.abs)
theorem aC.inj:∀{xs ys:TQ}{us:S9},aC xs us->aC ys us->xs=ys
 | _,_,_,.nil,.nil=>rfl
 | _,_,_,.cons r t,.cons r' t'=>by rw[r.inj r',aC.inj t t']
section
variable {X:Cx}{pins:S3}{σ:St}{H:Hp}{s:To}{a:Tv}{xs ys:TQ}
theorem cR.of{K:Tj}(h:H a=some (.lst xs)):cR K H a xs:=.inl (.inl h)
theorem cX.of{K:Tj}(h:H a=some (.tup xs)):cX K H a xs:=.inl (.inl h)
theorem Inv.list(I:Inv X pins σ H s)(h:cR X.K H a xs):∃bo:S9,aC xs bo/\PlainL s.heap a bo.toArray/\xs.length<=sizeLine:=by
 rcases h with h | ⟨o,bo,n,hk,hc,hd,hs,hz,r⟩
 .obtain⟨z,bo,n,r,e⟩:=h.ok I.hok;exact⟨bo,r,⟨_,n,e,rfl,rfl,rfl⟩,z⟩
 .refine⟨bo.toList,r,⟨o,n,I.kIn a o hk,hc,hd,by simpa using hs⟩,?_⟩;have e:=r.length;simp only[Array.length_toList]at e
  lia
theorem Inv.tuple(I:Inv X pins σ H s)(h:cX X.K H a xs):∃bo:S9,aC xs bo/\IsTup s.heap a bo.toArray/\xs.length<=sizeLine:=by
 rcases h with h | ⟨o,bo,n,hk,hc,hs,hz,r⟩
 .obtain⟨z,bo,r,p⟩:=h.ok I.hok;exact⟨bo,r,p,z⟩
 .refine⟨bo.toList,r,⟨o,I.kIn a o hk,hc,n,by simpa using hs⟩,?_⟩;have e:=r.length;simp only[Array.length_toList]at e
  lia
theorem Inv.list_inj(I:Inv X pins σ H s)(h:cR X.K H a xs)(h':cR X.K H a ys):xs=ys:=by
 obtain⟨bo,r,⟨o,n,e,_,_,d⟩,_⟩:=I.list h;obtain⟨its',r',⟨o',n',e',_,_,d'⟩,_⟩:=I.list h';rw[e]at e';cases e';rw[d]at d'
 injection d' with d1 _
 have:bo=its':=by simpa using QO Array.toList d1
 subst this;exact r.inj r'
theorem Inv.tuple_inj(I:Inv X pins σ H s)(h:cX X.K H a xs)(h':cX X.K H a ys):xs=ys:=by
 obtain⟨bo,r,⟨o,e,_,n,d⟩,_⟩:=I.tuple h;obtain⟨its',r',⟨o',e',_,n',d'⟩,_⟩:=I.tuple h';rw[e]at e';cases e';rw[d]at d'
 injection d' with d1 _
 have:bo=its':=by simpa using QO Array.toList d1
 subst this;exact r.inj r'
end
abbrev Cx.wish(X:Cx)(E:S2):Cx:={X with xe:=E}
abbrev Cx.nox(X:Cx):Cx:=X.wish λ_ _=>False
theorem Cx.Ok.wish{X:Cx}(ok:X.Ok)(E:S2):(X.wish E).Ok:=
 ⟨ok.mod,ok.kind,ok.glob,ok.blt,ok.above,ok.inj,ok.has,ok.cab,ok.hd,ok.frames,ok.stk,ok.exf,ok.bs,ok.bsz,ok.noex,ok.exfs,ok.funs,ok.frf⟩
theorem Cx.Ok.unwish{X:Cx}{E:S2}(ok:(X.wish E).Ok):X.Ok:=
 ⟨ok.mod,ok.kind,ok.glob,ok.blt,ok.above,ok.inj,ok.has,ok.cab,ok.hd,ok.frames,ok.stk,ok.exf,ok.bs,ok.bsz,ok.noex,ok.exfs,ok.funs,ok.frf⟩
section
variable {X:Cx}{pins:S3}{σ:St}{H:Hp}{s:To}{E:S2}
theorem Inv.wish(I:Inv X pins σ H s)(E:S2):Inv (X.wish E) pins σ H s:=⟨I.ok.wish E,I.os,I.bare,I.base,I.loc,I.cell,I.free,I.freeC,I.pin,I.hok,I.len⟩
theorem Inv.unwish(I:Inv (X.wish E) pins σ H s):Inv X pins σ H s:=⟨I.ok.unwish,I.os,I.bare,I.base,I.loc,I.cell,I.free,I.freeC,I.pin,I.hok,I.len⟩
theorem SP.unwish(h:SP (X.wish E) pins D f s'):SP X pins D f s':=by
 cases f with
 | next=>obtain⟨σ',H',I,q⟩:=h;exact⟨σ',H',I.unwish,q⟩
 | brk=>obtain⟨σ',H',I,q⟩:=h;exact⟨σ',H',I.unwish,q⟩
 | cont=>obtain⟨σ',H',I,q⟩:=h;exact⟨σ',H',I.unwish,q⟩
 | ret u=>obtain⟨v,σ',H',I,r,q⟩:=h;exact⟨v,σ',H',I.unwish,r,q⟩
theorem PT.nox(h:PT X.nox e t):PT X e t:=λpins s σ H Q I hw=>
 P4 (h pins s σ H Q (I.wish _) hw) (λ_ _ ⟨H',I',q⟩=>⟨H',I'.unwish,q⟩) λ_ _ z=>False.elim z
theorem PSs.nox{st:Te}{t:TS}(h:PSs X.nox st t):PSs X st t:=λpins s σ H D I hw=>
 P4 (h pins s σ H D (I.wish _) hw) (λ_ _ q=>q.unwish) λ_ _ z=>False.elim z
end
section
variable {X:Cx}{st:TC}{rest:Te}{t u:TS}{e:Tz}{te:TE}{pos:Pos}
def tNext:TS:=λD σ H=>D.nx σ H
def Ea(t u:TS):TS:=λD σ H=>t {D with nx:=u D} σ H
theorem wY:PSs X [] tNext:=λ_ _ σ H _ I h=>RH ⟨σ,H,I,h⟩
theorem d9(h1:PS X st t)(h2:PSs X rest u):PSs X (st::rest) (Ea t u):=by
 intro pins s σ H D I h;refine R7 (bx (h1 pins s σ H {D with nx:=u D} I h) λf s1 q=>?_);cases f with
 | next=>
  obtain⟨σ',H',I',q⟩:=q;exact h2 pins s1 σ' H' D I' q
 | ret v=>exact q
 | brk=>exact q
 | cont=>exact q
theorem fP(h1:PS X st t):PSs X [st] t:=by
 intro pins s σ H D I h;refine R7 (bx (h1 pins s σ H D I h) λf s1 q=>?_);cases f with
 | next=>exact RH q
 | ret v=>exact q
 | brk=>exact q
 | cont=>exact q
theorem Inv.quiet(I:Inv X pins σ H s):interactive X.env=false:=by simp[interactive,I.ok.kind]
def A9(te:TE):TS:=λD σ H=>te σ H λ_ H1=>D.nx σ H1
theorem jo(he:PE X e te)(hs:swapsWith e none pos.line X.env=pure false:=by rfl):PS X (.Expr e pos) (A9 te):=by
 intro pins s σ H D I h;exact wpAny_Expr_any (bx (he pins s σ H _ I h) λv s1 ⟨x,H1,I1,r1,q1⟩=>⟨σ,H1,I1,q1⟩) I.quiet hs
def Hj(te:TE):TS:=λD σ H=>te σ H D.rt
theorem kc(he:PE X e te):PS X (.Return (some e) pos) (Hj te):=by
 intro pins s σ H D I h;exact wpAny_Return_some (bx (he pins s σ H _ I h) λv s1 ⟨x,H1,I1,r1,q1⟩=>⟨x,σ,H1,I1,r1,q1⟩)
def JW(c:TT)(t u:TS):TS:=λD σ H=>c σ H λb H1=>if b=true then t D σ H1 else u D σ H1
theorem zW(hc:PT X c tc)(ha:PSs X a t)(hb:PSs X b u):PS X (.If c a b pos) (JW tc t u):=by
 intro pins s σ H D I h;refine wpAny_If (bx (hc pins s σ H _ I h) λd s1 aA=>?_);obtain⟨H1,I1,q1⟩:=aA;cases d with
 | true=>exact ha pins s1 σ H1 D I1 q1
 | false=>exact hb pins s1 σ H1 D I1 q1
end
abbrev TG:=V->St->Hp->(St->Hp->Prop)->Prop
abbrev TGs:=TQ->St->Hp->(St->Hp->Prop)->Prop
def PG(X:Cx)(target:Tz)(t:TG):Prop:=
 ∀(pins:S3)(s:To)(σ:St)(H:Hp)(v:V)(u:Tn)(Q:St->Hp->Prop),Inv X pins σ H s->RelV v u->t v σ H Q->
  wpAny @2 X.A (assign target X.env u) (λ_ s'=>∃σ' H',Inv X pins σ' H' s'/\Q σ' H') X.xe s
def xc(X:Cx)(ts:Td)(t:TGs):Prop:=
 ∀(pins:S3)(s:To)(σ:St)(H:Hp)(vs:TQ)(us:S9)(Q:St->Hp->Prop),Inv X pins σ H s->aC vs us->t vs σ H Q->
  wpAny @2 X.A (assignInOrder ((assignEach ts X.env).map (·.2)) us) (λ_ s'=>∃σ' H',Inv X pins σ' H' s'/\Q σ' H') X.xe s
abbrev TSet:=V->V->V->Hp->(Hp->Prop)->Prop
def Iy(X:Cx)(t:TSet):Prop:=
 ∀(pins:S3)(s:To)(σ:St)(H:Hp)(o i v:V)(ov iv u:Tn)(Q:Hp->Prop),Inv X pins σ H s->RelV o ov->RelV i iv->RelV v u->t o i v H Q->
  wpAny @2 X.A (setItem ov iv u) (λ_ s'=>∃H',Inv X pins σ H' s'/\Q H') X.xe s
abbrev TIp:=V->V->Hp->VK->Prop
def OG(X:Cx)(op:Operator)(t:TIp):Prop:=
 ∀(pins:S3)(s:To)(σ:St)(H:Hp)(x y:V)(v u:Tn)(Q:VK),Inv X pins σ H s->RelV x v->RelV y u->t x y H Q->
  wpAny @2 X.A (inplaceOp op v u) (EP X pins σ Q) X.xe s
section
variable {X:Cx}{pos:Pos}
def l'(i:Nat):TG:=λv σ H Q=>Q (σ.set i (some v)) H
theorem lr(hN:X.N.Nodup)(hi:X.N[i]?=some x)(hx:Loc X.env.scope x)(hf:X.fn x=true\/X.env.scope.names.lookup x=some .local:=by first | exact .inl rfl | exact .inr rfl | assumption):PG X (.Name x pos) (l' i):=by
 intro pins s σ H v u Q I r h;exact wpAny_assign_Name (g9 I hN hi hx r (λs' I'=>⟨_,H,I',h⟩) hf)
def gNil:TGs:=λvs σ H Q=>vs=[]/\Q σ H
def E8(t:TG)(u:TGs):TGs:=λvs σ H Q=>∃v r,vs=v::r/\t v σ H λσ' H'=>u r σ' H' Q
theorem Cu:xc X [] gNil:=by
 intro pins s σ H vs us Q I r h;obtain⟨e,h⟩:=h;subst e;cases r;exact assignInOrder_nil ⟨σ,H,I,h⟩
theorem rT(h1:PG X e t)(h2:xc X es u)
  (hs:(assignEach (e::es) X.env).map (·.2)=assign e X.env::(assignEach es X.env).map (·.2):=by rfl):xc X (e::es) (E8 t u):=by
 intro pins s σ H vs us Q I r h;obtain⟨v,vr,e1,h⟩:=h;subst e1;cases r with
 | cons r rr=>
  rw[hs];refine assignInOrder_cons (bx (h1 pins s σ H _ _ _ I r h) λ_ s1 aA=>?_);obtain⟨σ1,H1,I1,q1⟩:=aA;exact h2 pins s1 σ1 H1 _ _ Q I1 rr q1
def M4(K:Tj)(n:Nat)(t:TGs):TG:=λv σ H Q=>∃a xs,v=.ref a/\cX K H a xs/\xs.length=n/\t xs σ H Q
theorem FO(hc:X.calm=true)(h:xc X es t)
  (hn:(assignEach es X.env).length=n:=by rfl) (gq:(assignEach es X.env).findIdx? (·.1)=none:=by rfl):PG X (.Tuple es k pos) (M4 X.K n t):=by
 intro pins s σ H v u Q I r hw;obtain⟨a,xs,e1,hq,hl,hw⟩:=hw;subst e1;cases r;obtain⟨bo,rv,ht,hz⟩:=I.tuple hq;refine assign_Tuple_tuple (I.ok.hd hc) ht (by simp[hn,<- hl,rv.length]) gq λh' hx=>?_;have I1:Inv X pins σ H {s with heap:=h'}:=I.kept (t':=s.toks) λb o e=>hx b o (x_ (k_ e)) e;exact h pins _ σ H xs _ Q I1 (by simpa using rv) hw
def MT(to ti:TE)(t:TSet):TG:=λv σ H Q=>to σ H λo H1=>ti σ H1 λi H2=>t o i v H2 λH3=>Q σ H3
theorem GI(ho:PE X o to)(hi:PE X i ti)(hs:Iy X t)
  (ha:∀v,assign (.Subscript o i pos) X.env v=(do
   let ov <- holding [v] (eval o X.env)
   let iv <- holding [v,ov] (eval i X.env)
   standAt pos
   holding [v,ov,iv] (setItem ov iv v)
   release [v,ov,iv] []):=by intro _;rfl):PG X (.Subscript o i pos) (MT to ti t):=by
 intro pins s σ H v u Q I r h;rw[ha];refine b_ (K_ (bx (ho pins s σ H _ I h) λov s1 aA=>?_));obtain⟨x,H1,I1,r1,q1⟩:=aA;refine b_ (K_ (bx (hi pins s1 σ H1 _ I1 q1) λiv s2 aA=>?_));obtain⟨y,H2,I2,r2,q2⟩:=aA;refine b_ (Qy (b_ (K_ (bx (hs pins s2 σ H2 x y v ov iv u _ I2 r1 r2 r q2) λ_ s3 aA=>?_))));obtain⟨H3,I3,q3⟩:=aA;exact wpAny_release ⟨σ,H3,I3,q3⟩
def uM(te:TE)(g:TG):TS:=λD σ H=>te σ H λx H1=>g x σ H1 D.nx
theorem qK(he:PE X e te)(hg:PG X tg g)(hs:swapsWithSole [tg] e pos.line X.env=pure false:=by rfl)(hw:swappedStores [tg] e X.env=pure none:=by rfl)
  (h1:(assignEach [tg] X.env).map (·.2)=[assign tg X.env]:=by rfl):PS X (.Assign [tg] e pos) (uM te g):=by
 intro pins s σ H D I h;refine wpAny_Assign_stores (bx (he pins s σ H _ I h) λv s1 aA=>?_) hs hw;obtain⟨x,H1,I1,r1,q1⟩:=aA;rw[h1];exact bx (hg pins s1 σ H1 x v _ I1 r1 q1) λ_ s2 q=>q
theorem gP(hN:X.N.Nodup)(hi:X.N[i]?=some x)(hx:Loc X.env.scope x)(he:PE X e te)(hs:swapsWith e (some (.Name x pos')) pos.line X.env=pure false:=by rfl)(hf:X.fn x=true\/X.env.scope.names.lookup x=some .local:=by first | exact .inl rfl | exact .inr rfl | assumption) :
  PS X (.Assign [.Name x pos'] e pos) (uM te (l' i)):=by
 intro pins s σ H D I h;refine wpAny_Assign_Name (bx (he pins s σ H _ I h) λv s1 aA=>?_) hs;obtain⟨y,H1,I1,r1,q1⟩:=aA;exact g9 I1 hN hi hx r1 (λs2 I2=>⟨_,H1,I2,q1⟩) hf
def MQ(i:Nat)(te:TE)(ti:TIp):TS:=λD σ H=>∃x,σ[i]?=some (some x)/\te σ H λy H1=>ti x y H1 λz H2=>D.nx (σ.set i (some z)) H2
theorem Gq(hN:X.N.Nodup)(hi:X.N[i]?=some x)(hx:Loc X.env.scope x)(he:PE X e te)(ho:OG X op ti)(hf:X.fn x=true\/X.env.scope.names.lookup x=some .local:=by first | exact .inl rfl | exact .inr rfl | assumption) :
  PS X (.AugAssign (.Name x pos') op e pos) (MQ i te ti):=by
 intro pins s σ H D I h;obtain⟨v,e1,h⟩:=h;obtain⟨m,hn,hl⟩:=I.loc;have vis:vZ X.env.scope x:=by rcases hx with k | k;exact .inl k;exact .inr (.inl k)
 obtain⟨u,r,l⟩:=hl i x v hi e1 vis;refine wpAny_AugAssign_Name ?_;have go:wpAny @2 X.A (eval e X.env) (λw s₂=>wpAny @2 X.A (inplaceOp op u w) (λr s₃=>wpAny @2 X.A (storeName X.env x r) (λ_=>SP X pins D .next) X.xe s₃) X.xe s₂) X.xe s:=by
  refine bx (he pins s σ H _ I h) λw s1 aA=>?_;obtain⟨y,H1,I1,r1,q1⟩:=aA;refine bx (ho pins s1 σ H1 v y u w _ I1 r r1 q1) λz s2 aA=>?_;obtain⟨zv,H2,I2,r2,q2⟩:=aA;exact g9 I2 hN hi hx r2 (λs3 I3=>⟨_,H2,I3,q2⟩) hf
 rcases l with ⟨hk,hm⟩ | ⟨hk,c,hc,mN⟩
 .exact wpAny_loadName_local I.ok.kind hk hn hm go
 .rcases hk with hk | hk
  .exact wpAny_loadName_cell I.ok.kind hk hc mN go
  .rcases hx with k | k
   .have:X.env.scope.names.lookup x=some .free:=hk;rw[k]at this;cases this
   .have:X.env.scope.names.lookup x=some .free:=hk;rw[k]at this;cases this
end
section
variable {X:Cx}{pos:Pos}
end
structure It where
 go:Nat->Hp->Prop
 yld:Nat->Hp->V->Hp->Prop
 stop:Nat->Hp->Prop
def fH(X:Cx)(pins:S3)(H:Hp)(b:Tv):Prop:=
 H b=none/\b≠X.env.locals/\b∉X.fs/\(b∈X.ex\/X.s₀.heap.objs.size<=b)/\(∀x c,X.env.cells.lookup x=some c->c≠b)/\∀p∈X.pn++pins,p.1≠b
theorem Inv.fpOk(I:Inv X pins σ H s)(hb:s.heap.objs.size<=b)(hn:H' b=none):fH X pins H' b:=by
 refine⟨hn,P2 (n_ I.lt hb),I.nofs hb,.inr (w_ I.sz hb),λx c e z=>?_,λp hp z=>?_⟩
 .obtain⟨v,q⟩:=I.cell x c e;exact absurd (n_ q.lt (by rw[z];exact hb)) (QW _)
 .exact absurd (n_ (k_ (I.pin p hp).1) (by rw[z];exact hb)) (QW _)
structure Turn(P:Program)(w:World)(K:PySem.W.Frag)(tg:Expr)(J:It)(fp:List Addr)(it:Addr)(tn:Nat->Heap->Prop):Prop where
 mem:it∈fp
 obj:∀i h,tn i h->∀b∈fp,∃o,h.get? b=some o/\∀v,o.data≠.cell v
 keep:∀i h h',tn i h->(∀b∈fp,∀o,h.get? b=some o->h'.get? b=some o)->tn i h'
 item:∀(X:Cx),X.prog=P->X.w=w->X.K=K->X.calm=true->∀(i:Nat)(pins:List (Addr×Obj))(s:Shared)(σ:St)(H:Hp)(E:Value->Shared->Prop),Inv X pins σ H s->(∀b∈fp,fH X pins H b)->tn i s.heap->J.go i H->
  wpAny (model P w) X.A (pyNext (.ref it)) (λr s1=>∃u,r=some u/\
   wpAny (model P w) X.A (letOwnedTupleGo tg (.ref it) u) (λ_ s2=>∃x H',Inv X pins σ H' s2/\RelV x u/\J.yld i H x H'/\tn (i+1) s2.heap/\∀b∈fp,H' b=none) E s1) E s
 done:∀(X:Cx),X.prog=P->X.w=w->X.K=K->X.calm=true->∀(i:Nat)(pins:List (Addr×Obj))(s:Shared)(σ:St)(H:Hp)(E:Value->Shared->Prop),Inv X pins σ H s->(∀b∈fp,fH X pins H b)->tn i s.heap->J.stop i H->
  wpAny (model P w) X.A (pyNext (.ref it)) (λr s1=>r=none/\Inv X pins σ H s1) E s
 self:∀(A:Around)(i:Nat)(s:Shared)(Q:Value->Shared->Prop)(E:Value->Shared->Prop),tn i s.heap->Q (.ref it) s->wpAny (model P w) A (pyIter (.ref it)) Q E s
abbrev TI:=St->Hp->(It->Hp->Prop)->Prop
def Ox(X:Cx)(pins:S3)(σ:St)(tg:Tz)(R:It->Hp->Prop)(KJ:Tn)(s2:To):Prop:=
 ∃(it:Tv)(fp:Tc)(tn:Nat->Tr->Prop)(J:It)(H':Hp),KJ=.ref it/\Inv X pins σ H' s2/\Turn X.prog X.w X.K tg J fp it tn/\tn 0 s2.heap/\(∀b∈fp,fH X pins H' b)/\R J H'
def PI(X:Cx)(tg iter:Tz)(wi:TI):Prop:=
 ∀(pins:S3)(s:To)(σ:St)(H:Hp)(R:It->Hp->Prop),Inv X pins σ H s->wi σ H R->
  wpAny @2 X.A (eval iter X.env) (λv s1=>wpAny @2 X.A (pyIter v) (Ox X pins σ tg R) X.xe s1) X.xe s
theorem Bo(ho:s.heap.get? it=some o)(hc:o.cls=.type n)(hd:o.data=.fields vs)
    (hn:["enumerate","zip","dict_itemiterator","dict_reverseitemiterator","odict_iterator","itertools.zip_longest","itertools.pairwise"].contains n=false) (hQ:Q () s):wpAny M A (letOwnedTupleGo tg (.ref it) u) Q E s:=by
  unfold letOwnedTupleGo;cases tg<;>first
    | exact o_ hQ
    | (cases u<;>first
        | exact o_ hQ
        | (refine b_ (wpAny_load ho ?_)
           rw[hc,hd];show wpAny M A (if(["enumerate","zip","dict_itemiterator","dict_reverseitemiterator","odict_iterator","itertools.zip_longest","itertools.pairwise"].contains n&&vs[0]?==some (rawInt _))=true then _ else _) Q E s;rw[j_ (by intro h;rw[hn,S0]at h;cases h)];exact o_ hQ))
def MH(K:Tj)(a:Tv):It:=
 ⟨λi H=>∃xs x,cR K H a xs/\xs[i]?=some x,λi H x H'=>H'=H/\∀xs,cR K H a xs->xs[i]?=some x,λi H=>∃xs,cR K H a xs/\xs.length<=i⟩
def MY(K:Tj)(a:Tv):It:=
 ⟨λi H=>∃xs x,cX K H a xs/\xs[i]?=some x,λi H x H'=>H'=H/\∀xs,cX K H a xs->xs[i]?=some x,λi H=>∃xs,cX K H a xs/\xs.length<=i⟩
def LK(lo:Int)(n:Nat):It:=⟨λi _=>i<n,λi H x H'=>H'=H/\x=.int (lo+i),λi _=>n<=i⟩
theorem yo{P:Tp}{w:Ts}{K:Tj}{tg:Tz}(a it:Tv):Turn P w K tg (MH K a) [it] it (λi h=>h.IsListIter it a i) where
 mem:=by simp
 obj:=λi h st b hb=>by
  have e:b=it:=by simpa using hb
  subst e;obtain⟨o,e,c,d⟩:=st;exact⟨o,e,λv z=>by rw[d]at z;cases z⟩
 keep:=λi h h' st k=>st.at λo e=>k it (by simp) o e
 item:=by
  intro X hP hw hK hc i pins s σ H E I hf st hg;subst hP hw hK;obtain⟨xs,x,hq,hx⟩:=hg;obtain⟨bo,rv,p,hz⟩:=I.list hq;obtain⟨u,hu,ru⟩:=rv.get hx;obtain⟨f0,f1,f2,f3,f4,f5⟩:=hf it (by simp);refine wpAny_pyNext_list_item st p.isList (x:=u) (by simpa using hu) λh' FC sb=>?_;have I1:Inv X pins σ H {s with heap:=h'}:=I.turned (t':=s.toks) (λb o hb e=>(sb.2 b hb).trans e) f0 f1 f3 f4 f5;obtain⟨o,e,c,d⟩:=id FC;exact⟨u,rfl,Bo (s:={s with heap:=h'}) e c d @1 ⟨x,H,I1,ru,⟨rfl,λys hy=>by rw[I.list_inj hy hq];exact hx⟩,FC,λb hb=>(hf b hb).1⟩⟩
 done:=by
  intro X hP hw hK hc i pins s σ H E I hf st hg;subst hP hw hK;obtain⟨xs,hq,hx⟩:=hg;obtain⟨bo,rv,p,hz⟩:=I.list hq;obtain⟨f0,f1,f2,f3,f4,f5⟩:=hf it (by simp);have hl:=rv.length;exact wpAny_pyNext_list_end (I.ok.hd hc) st p.isList (by simp;lia) λh' eb=>⟨rfl,I.turned (t':=s.toks) (λb o hb e=>eb b o hb e) f0 f1 f3 f4 f5⟩
 self:=λ_ _ _ _ _ st h=>wpAny_pyIter_listiter st h
theorem uZ{P:Tp}{w:Ts}{K:Tj}{tg:Tz}(a it:Tv):Turn P w K tg (MY K a) [it] it (λi h=>h.IsTupleIter it a i) where
 mem:=by simp
 obj:=λi h st b hb=>by
  have e:b=it:=by simpa using hb
  subst e;obtain⟨o,e,c,d⟩:=st;exact⟨o,e,λv z=>by rw[d]at z;cases z⟩
 keep:=λi h h' st k=>st.at λo e=>k it (by simp) o e
 item:=by
  intro X hP hw hK hc i pins s σ H E I hf st hg;subst hP hw hK;obtain⟨xs,x,hq,hx⟩:=hg;obtain⟨bo,rv,p,hz⟩:=I.tuple hq;obtain⟨u,hu,ru⟩:=rv.get hx;obtain⟨f0,f1,f2,f3,f4,f5⟩:=hf it (by simp);refine wpAny_pyNext_tuple_item st (show s.heap.IsTuple a bo.toArray from p) (x:=u) (by simpa using hu) λh' FC sb=>?_;have I1:Inv X pins σ H {s with heap:=h'}:=I.turned (t':=s.toks) (λb o hb e=>(sb.2 b hb).trans e) f0 f1 f3 f4 f5;obtain⟨o,e,c,d⟩:=id FC;exact⟨u,rfl,Bo (s:={s with heap:=h'}) e c d @1 ⟨x,H,I1,ru,⟨rfl,λys hy=>by rw[I.tuple_inj hy hq];exact hx⟩,FC,λb hb=>(hf b hb).1⟩⟩
 done:=by
  intro X hP hw hK hc i pins s σ H E I hf st hg;subst hP hw hK;obtain⟨xs,hq,hx⟩:=hg;obtain⟨bo,rv,p,hz⟩:=I.tuple hq;obtain⟨f0,f1,f2,f3,f4,f5⟩:=hf it (by simp);have hl:=rv.length;exact wpAny_pyNext_tuple_end (I.ok.hd hc) st (show s.heap.IsTuple a bo.toArray from p) (by simp;lia) λh' eb=>⟨rfl,I.turned (t':=s.toks) (λb o hb e=>eb b o hb e) f0 f1 f3 f4 f5⟩
 self:=λ_ _ _ _ _ st h=>wpAny_pyIter_tupleiter st h
theorem uH{P:Tp}{w:Ts}{K:Tj}{tg:Tz}(it:Tv)(lo:Int)(n:Nat):Turn P w K tg (LK lo n) [it] it (λi h=>IsRangeIter h it (lo+(i:Nat)*1) ((n:Int)-(i:Nat)) 1) where
 mem:=by simp
 obj:=λi h st b hb=>by
  have e:b=it:=by simpa using hb
  subst e;exact⟨_,st,λv z=>by
   have z':Data.fields _=Data.cell v:=z;cases z'⟩
 keep:=λi h h' st k=>k it (by simp) _ st
 item:=by
  intro X hP hw hK hc i pins s σ H E I hf st hg;subst hP hw hK;obtain⟨f0,f1,f2,f3,f4,f5⟩:=hf it (by simp);have W:=Walks.range (prog:=X.prog) (w:=X.w) (I.ok.hd hc) it lo 1 n;refine W.item i s _ _ hg st λv h' tk hv FC kk=>?_;obtain⟨t,rfl⟩:=hv;have I1:Inv X pins σ H {s with heap:=h',toks:=tk}:=I.turned (λb o hb e=>kk b o (by simpa using hb) e) f0 f1 f3 f4 f5;refine⟨_,rfl,Bo (s:={s with heap:=h',toks:=tk}) (n:="range_iterator") FC rfl rfl @1 ⟨.int (lo+i),H,I1,⟨t,?_⟩,⟨rfl,rfl⟩,FC,λb hb=>(hf b hb).1⟩⟩;rw[Int.mul_one]
 done:=by
  intro X hP hw hK hc i pins s σ H E I hf st hg;subst hP hw hK;obtain⟨f0,f1,f2,f3,f4,f5⟩:=hf it (by simp);exact wpAny_pyNext_range_end (I.ok.hd hc) st (by have:n<=i:=hg;lia) λh' eb=>⟨rfl,I.turned (t':=s.toks) (λb o hb e=>eb b o hb e) f0 f1 f3 f4 f5⟩
 self:=λ_ _ _ _ _ st h=>wpAny_pyIter_rangeiter st h
section
variable {X:Cx}{tg:Tz}
def JD(K:Tj)(tl:TE):TI:=λσ H R=>tl σ H λx H1=>∃a,x=.ref a/\(∃xs,cR K H1 a xs)/\R (MH K a) H1
def Mz(K:Tj)(tl:TE):TI:=λσ H R=>tl σ H λx H1=>∃a,x=.ref a/\(∃xs,cX K H1 a xs)/\R (MY K a) H1
theorem Ef{l:Tz}{tl:TE}(hl:PE X l tl):PI X tg l (JD X.K tl):=by
 intro pins s σ H R I h;refine bx (hl pins s σ H _ I h) λv s1 aA=>?_;obtain⟨x,H1,I1,r1,q1⟩:=aA;obtain⟨a,e,⟨xs,hq⟩,q⟩:=q1;subst e;cases r1;obtain⟨bo,rv,p,hz⟩:=I1.list hq;refine QR p.isList ?_;refine⟨s1.heap.objs.size,[s1.heap.objs.size],_,_,H1,rfl,I1.kept (t':=s1.toks) λb o e=>d_ _ e,yo a _,⟨_,s_ _ rfl,rfl,rfl⟩,λb hb=>?_,q⟩;have e:b=s1.heap.objs.size:=by simpa using hb
 subst e;exact I1.fpOk (m_ _) (I1.hok.fresh (m_ _))
theorem Hv{l:Tz}{tl:TE}(hl:PE X l tl):PI X tg l (Mz X.K tl):=by
 intro pins s σ H R I h;refine bx (hl pins s σ H _ I h) λv s1 aA=>?_;obtain⟨x,H1,I1,r1,q1⟩:=aA;obtain⟨a,e,⟨xs,hq⟩,q⟩:=q1;subst e;cases r1;obtain⟨bo,rv,p,hz⟩:=I1.tuple hq;refine RN (show s1.heap.IsTuple a bo.toArray from p) ?_;refine⟨s1.heap.objs.size,[s1.heap.objs.size],_,_,H1,rfl,I1.kept (t':=s1.toks) λb o e=>d_ _ e,uZ a _,⟨_,s_ _ rfl,rfl,rfl⟩,λb hb=>?_,q⟩;have e:b=s1.heap.objs.size:=by simpa using hb
 subst e;exact I1.fpOk (m_ _) (I1.hok.fresh (m_ _))
theorem Aw{pins:S3}{σ:St}{H:Hp}{s:To}{R:It->Hp->Prop}{E:S2}{lo hi:Int}{t u v:Tok}{tk:Nat}(I:Inv X pins σ H s)(h1:-(2 ^ 62)<=lo)(h2:lo<2 ^ 62)(h3:-(2 ^ 62)<=hi)(h4:hi<2 ^ 62)
  (q:R (LK lo (hi-lo).toNat) H):wpAny @2 X.A (pyIter (.ref s.heap.objs.size)) (Ox X pins σ tg R) E {s with heap:=s.heap.push {cls:=.type "range",data:=.fields #[.int lo t,.int hi u,.int 1 v]},toks:=tk}:=by
 refine wpAny_pyIter_range (IsRange.new ..) (small_one h1 h2 h3 h4) ?_;have I1:Inv X pins σ H {s with heap:=s.heap.push {cls:=.type "range",data:=.fields #[.int lo t,.int hi u,.int 1 v]},toks:=tk}:=I.kept λb o e=>d_ _ e;refine⟨(s.heap.push {cls:=.type "range",data:=.fields #[.int lo t,.int hi u,.int 1 v]}).objs.size,[(s.heap.push {cls:=.type "range",data:=.fields #[.int lo t,.int hi u,.int 1 v]}).objs.size],_,_,H,rfl,
  I1.kept (t':=tk) λb o e=>d_ _ e,uH _ lo (hi-lo).toNat,?_,λb hb=>?_,q⟩
 .have e1:lo+((0:Nat):Int)*1=lo:=by simp
  have e2:(((hi-lo).toNat:Nat):Int)-((0:Nat):Int)=Builtin.Range.rangeSize lo hi 1:=by rw[rangeSize_one];split<;>lia
  show IsRangeIter _ _ (lo+((0:Nat):Int)*1) ((((hi-lo).toNat:Nat):Int)-((0:Nat):Int)) 1;rw[e1,e2];exact s_ _ rfl
 .have e:b=(s.heap.push {cls:=.type "range",data:=.fields #[.int lo t,.int hi u,.int 1 v]}).objs.size:=by simpa using hb
  subst e;exact I1.fpOk (m_ _) (I1.hok.fresh (m_ _))
def Ja(ta:TA):TI:=λσ H R=>ta σ H λvs H1=>∃j:Int,vs=[.int j]/\-(2 ^ 62)<=j/\j<2 ^ 62/\R (LK 0 j.toNat) H1
theorem xi{a:Tz}{ta:TA}{p pos:Pos}(hg:Gl X "range")(hm:X.mg "range"=none)(ha:PA X [a] ta)(hs:starEach [a] X.env=[(false,eval a X.env)]:=by rfl):PI X tg (.Call (.Name "range" p) [a] [] pos) (Ja ta):=by
 intro pins s σ H R I h;refine Call_ (fY I hg hm boot_range (QF (bx (ha pos pins s σ H _ I h) λus s1 aA=>?_) hs rfl));obtain⟨vs,H1,I1,r1,q1⟩:=aA;obtain⟨j,e,q1,q2,q⟩:=q1;subst e;cases r1 with
 | cons r rr=>
  cases rr;obtain⟨t,rfl⟩:=r;exact call_range_1 (Aw I1 (by lia) (by lia) q1 q2 (by simpa using q))
def Mg(wi:TI)(g:TG)(tb:TS):TS:=λD σ H=>wi σ H λJ H1=>∃W:Nat->Nat->St->Hp->Prop,(∃m,W 0 m σ H1)/\∀i m σ H,W i m σ H->
 (J.stop i H/\D.nx σ H)\/(J.go i H/\∃N:St->Hp->Prop,(∀σ' H',N σ' H'->∃m',m'<m/\W (i+1) m' σ' H')/\∀x H',J.yld i H x H'->g x σ H' λσ2 H2=>tb {D with nx:=N,ct:=N,bk:=D.nx} σ2 H2)
def ki(fp:Tc)(h:Tr):S3:=fp.filterMap λb=>(h.get? b).map λo=>(b,o)
theorem iS(hb:b∈fp)(e:h.get? b=some o):(b,o)∈ki fp h:=List.mem_filterMap.mpr ⟨b,hb,by rw[e];rfl⟩
theorem yi(hp:p∈ki fp h):p.1∈fp/\h.get? p.1=some p.2:=by
 obtain⟨b,hb,e⟩:=List.mem_filterMap.mp hp;cases q:h.get? b with
 | none=>rw[q]at e;cases e
 | some o=>
  rw[q]at e;have e':(b,o)=p:=Option.some.inj e;subst e';exact⟨hb,q⟩
theorem Inv.pinned(I:Inv X pins σ H s)(hf:∀b∈fp,fH X pins H b)(ho:∀b∈fp,∃o,s.heap.get? b=some o/\∀v,o.data≠.cell v):Inv X (pins++ki fp s.heap) σ H s:=
 I.pins_of λp hp=>(Qz.mp hp).elim (λz=>I.pin p (Qm _ z)) λz=>by
  obtain⟨hb,e⟩:=yi z;obtain⟨f0,f1,f2,_⟩:=hf p.1 hb;obtain⟨o,e',d⟩:=ho p.1 hb;rw[e]at e';cases e';exact⟨e,f0,f1,f2,d⟩
theorem Inv.unpinned(I:Inv X (pins++pl) σ H s):Inv X pins σ H s:=I.pins_of λp hp=>I.pin p (Qm _ (List.mem_append_left _ hp))
theorem GU(hp:PassesOwn @2 X.A X.env X.xe)(hc:X.calm=true)(hi:PI X tg iter wi)(hg:PG X tg g)(hb:PSs X body tb)
  (hs:∀x,foldedSetIterable iter X.env x=pure x:=by intro _;rfl):PS X (.For tg iter body [] pos) (Mg wi g tb):=by
 intro pins s σ H D I h;refine wpAny_For (bx (hi pins s σ H _ I h) λv s1 h1=>bx h1 λKJ s2 h2=>?_) hs;obtain⟨it,fp,tn,J,H2,e,I2,T,ON,f2,W,⟨m0,w0⟩,turn⟩:=h2;subst e;have vA:∀{H':Hp},(∀b∈fp,H' b=none)->∀b∈fp,fH X pins H' b:=λhn b hb=>⟨hn b hb,(f2 b hb).2⟩;refine codeAny_forLoop_any (λn s'=>∃i σ' H',Inv X pins σ' H' s'/\tn i s'.heap/\(∀b∈fp,H' b=none)/\W i n σ' H') ?_ m0 ⟨0,σ,H2,I2,ON,λb hb=>(f2 b hb).1,w0⟩;rintro n s3 ⟨i,σ3,H3,I3,st3,LR,w3⟩;rcases turn i n σ3 H3 w3 with ⟨stop,qn⟩ | ⟨go,N,hN,step⟩
 .refine RI hp (bx (T.done X rfl rfl rfl hc i pins s3 σ3 H3 X.xe I3 (vA LR) st3 stop) λr s4 aA=>?_);obtain⟨hr,I4⟩:=aA;subst hr;exact RH ⟨σ3,H3,I4,qn⟩
 .refine RI hp (bx (T.item X rfl rfl rfl hc i pins s3 σ3 H3 X.xe I3 (vA LR) st3 go) λr s4 aA=>?_);obtain⟨u,hr,h4⟩:=aA;subst hr;refine RI hp (bx h4 λ_ s5 aA=>?_);obtain⟨x,H5,I5,r5,y5,Ng,fr5⟩:=aA;have I5':=I5.pinned (vA fr5) (T.obj _ _ Ng);refine RI hp (bx (hg _ s5 σ3 H5 x u _ I5' r5 (step x H5 y5)) λ_ s6 aA=>?_);obtain⟨σ6,H6,I6,q6⟩:=aA;refine RI hp (bx (hb _ s6 σ6 H6 _ I6 q6) λf s7 q7=>?_);have again:∀{σ7:St}{H7:Hp},Inv X (pins++ki fp s5.heap) σ7 H7 s7->N σ7 H7->∃m,m<n/\∃i σ' H',Inv X pins σ' H' s7/\tn i s7.heap/\(∀b∈fp,H' b=none)/\W i m σ' H':=λ{σ7 H7} I7 n7=>by
   obtain⟨m',hm,w7⟩:=hN σ7 H7 n7;refine⟨m',hm,i+1,σ7,H7,I7.unpinned,T.keep _ _ _ Ng λb hb o e=>(I7.pin (b,o) (Qm _ (Qm _ (iS hb e)))).1,λb hb=>?_,w7⟩;obtain⟨o,e,d⟩:=T.obj _ _ Ng b hb;exact(I7.pin (b,o) (Qm _ (Qm _ (iS hb e)))).2.1
  cases f with
  | next=>obtain⟨σ7,H7,I7,n7⟩:=q7;exact again I7 n7
  | cont=>obtain⟨σ7,H7,I7,n7⟩:=q7;exact again I7 n7
  | brk=>obtain⟨σ7,H7,I7,q7⟩:=q7;exact⟨σ7,H7,I7.unpinned,q7⟩
  | ret v=>obtain⟨x7,σ7,H7,I7,r7,q7⟩:=q7;exact⟨x7,σ7,H7,I7.unpinned,r7,q7⟩
end
abbrev R2:=V->V->Hp->VK->Prop
def iy(X:Cx)(f:Tn->Tn->Sem Tn)(r:R2):Prop:=
 ∀(pins:S3)(s:To)(σ:St)(H:Hp)(x y:V)(v u:Tn)(Q:VK),Inv X pins σ H s->RelV x v->RelV y u->r x y H Q->
  wpAny @2 X.A (f v u) (EP X pins σ Q) X.xe s
def MB(X:Cx)(f:Tn->Sem Tn)(r:V->Hp->VK->Prop):Prop:=
 ∀(pins:S3)(s:To)(σ:St)(H:Hp)(x:V)(v:Tn)(Q:VK),Inv X pins σ H s->RelV x v->r x H Q->
  wpAny @2 X.A (f v) (EP X pins σ Q) X.xe s
def dG(X:Cx)(f:Tn)(r:TQ->Hp->VK->Prop):Prop:=
 ∀(pins:S3)(s:To)(σ:St)(H:Hp)(xs:TQ)(us:S9)(Q:VK),Inv X pins σ H s->aC xs us->r xs H Q->
  wpAny @2 X.A (call f us) (EP X pins σ Q) X.xe s
def M7(X:Cx)(r:V->Hp->(Bool->Hp->Prop)->Prop):Prop:=
 ∀(pins:S3)(s:To)(σ:St)(H:Hp)(x:V)(v:Tn)(Q:Bool->Hp->Prop),Inv X pins σ H s->RelV x v->r x H Q->
  wpAny @2 X.A (truthy v) (TP X pins σ Q) X.xe s
def EM(r:R2)(ta tb:TE):TE:=λσ H Q=>ta σ H λx H1=>tb σ H1 λy H2=>r x y H2 Q
def Pr(r:V->Hp->VK->Prop)(ta:TE):TE:=λσ H Q=>ta σ H λx H1=>r x H1 Q
def rI(C:Int->Int->Prop)(g:Int->Int->V):R2:=λx y H Q=>∃i j,x=.int i/\y=.int j/\C i j/\Q (g i j) H
def yn(g:Int->Int->V):R2:=λx y H Q=>∃i j,x=.int i/\y=.int j/\Q (g i j) H
def rU(g:Int->V):V->Hp->VK->Prop:=λx H Q=>∃i,x=.int i/\Q (g i) H
section
variable {X:Cx}{a b c:Tz}{ta tb tc:TE}{pos:Pos}
theorem HB(ha:PE X a ta)(hb:PE X b tb){pins:S3}{s:To}{σ:St}{H:Hp}{R:V->V->Hp->Prop}(I:Inv X pins σ H s)
  (h:ta σ H λx H1=>tb σ H1 λy H2=>R x y H2) {Q:S2} {f:Tn->Tn->Sem Tn}
  (hf:∀v u s2 x y H2,Inv X pins σ H2 s2->RelV x v->RelV y u->R x y H2->wpAny @2 X.A (f v u) Q X.xe s2) :
  wpAny @2 X.A (eval a X.env) (λv s₁=>wpAny @2 X.A (eval b X.env) (λu s₂=>wpAny @2 X.A (f v u) Q X.xe s₂) X.xe s₁) X.xe s:=by
 refine bx (ha pins s σ H _ I h) λv s1 aA=>?_;obtain⟨x,H1,I1,r1,q1⟩:=aA;refine bx (hb pins s1 σ H1 _ I1 q1) λu s2 aA=>?_;obtain⟨y,H2,I2,r2,q2⟩:=aA;exact hf v u s2 x y H2 I2 r1 r2 q2
theorem A3{op:Operator}{r:R2}(ho:iy X (binaryOp op) r)(ha:PE X a ta)(hb:PE X b tb):PE X (.BinOp a op b pos) (EM r ta tb):=by
 intro pins s σ H Q I h;exact wpAny_BinOp (HB ha hb I h λv u s2 x y H2 I2 rx ry q=>ho pins s2 σ H2 x y v u Q I2 rx ry q)
theorem EV(ho:MB X (unaryOp op) r)(ha:PE X a ta):PE X (.UnaryOp op a pos) (Pr r ta):=by
 intro pins s σ H Q I h;exact UnaryOp_ (bx (ha pins s σ H _ I h) λv s1 ⟨x,H1,I1,r1,q1⟩=>ho pins s1 σ H1 x v Q I1 r1 q1)
theorem Lo{f:Tn->Tn->Sem Tn}{C:Int->Int->Prop}{g:Int->Int->Int}
  (rule:∀(i j:Int)(t u:Tok)(s:To)(Q:S2)(E:S2),C i j->Q (.int (g i j) s.toks) {s with toks:=s.toks+1}->wpAny @2 X.A (f (.int i t) (.int j u)) Q E s) :
  iy X f (rI C λi j=>.int (g i j)):=by
 intro pins s σ H x y v u Q I rx ry h;obtain⟨i,j,rfl,rfl,hc,q⟩:=h;obtain⟨t,rfl⟩:=rx;obtain⟨t',rfl⟩:=ry;exact rule i j t t' s _ _ hc ⟨.int (g i j),H,I.tok _,⟨_,rfl⟩,q⟩
theorem JN{f:Tn->Tn->Sem Tn}{g:Int->Int->Int}
  (rule:∀(i j:Int)(t u:Tok)(s:To)(Q:S2)(E:S2),Q (.int (g i j) s.toks) {s with toks:=s.toks+1}->wpAny @2 X.A (f (.int i t) (.int j u)) Q E s) :
  iy X f (yn λi j=>.int (g i j)):=by
 intro pins s σ H x y v u Q I rx ry h;obtain⟨i,j,rfl,rfl,q⟩:=h;obtain⟨t,rfl⟩:=rx;obtain⟨t',rfl⟩:=ry;exact rule i j t t' s _ _ ⟨.int (g i j),H,I.tok _,⟨_,rfl⟩,q⟩
theorem FM{f:Tn->Tn->Sem Tn}{g:Int->Int->Bool}
  (rule:∀(i j:Int)(t u:Tok)(s:To)(Q:S2)(E:S2),Q (.bool (g i j)) s->wpAny @2 X.A (f (.int i t) (.int j u)) Q E s) :
  iy X f (yn λi j=>.bl (g i j)):=by
 intro pins s σ H x y v u Q I rx ry h;obtain⟨i,j,rfl,rfl,q⟩:=h;obtain⟨t,rfl⟩:=rx;obtain⟨t',rfl⟩:=ry;exact rule i j t t' s _ _ ⟨.bl (g i j),H,I,rfl,q⟩
def IZ(i j:Int):Prop:=0<j/\j<1073741824
theorem FU:iy X (binaryOp .Add) (yn λi j=>.int (i+j)):=JN λ_ _ _ _ _ _ _ q=>add_int q
theorem Hm:iy X (binaryOp .Sub) (yn λi j=>.int (i-j)):=JN λ_ _ _ _ _ _ _ q=>sub_int q
theorem CQ:iy X (binaryOp .FloorDiv) (rI IZ λi j=>.int (i/j)):=Lo λi j _ _ _ _ _ hc q=>by
 have h1:(0:Int)<j:=hc.1;have h2:j<1073741824:=hc.2;exact floordiv_int (by lia) (by rw[Int.fdiv_eq_ediv_of_nonneg i (by lia)];exact q) (.inl (PyProof.noPylong_small (by lia)))
theorem Ge:iy X (binaryOp .Mod) (rI (λ_ j=>0<j) λi j=>.int (i%j)):=Lo λi j _ _ _ _ _ hc q=>by
 have h1:(0:Int)<j:=hc;exact mod_int' (by lia) (by rw[Int.fmod_eq_emod_of_nonneg i (by lia)];exact q)
theorem Me{f:Tn->Sem Tn}{g:Int->Int}
  (rule:∀(i:Int)(t:Tok)(s:To)(Q:S2)(E:S2),Q (.int (g i) s.toks) {s with toks:=s.toks+1}->wpAny @2 X.A (f (.int i t)) Q E s) :
  MB X f (rU λi=>.int (g i)):=by
 intro pins s σ H x v Q I rx h;obtain⟨i,rfl,q⟩:=h;obtain⟨t,rfl⟩:=rx;exact rule i t s _ _ ⟨.int (g i),H,I.tok _,⟨_,rfl⟩,q⟩
theorem zY:MB X (unaryOp .USub) (rU λi=>.int (-i)):=Me λ_ _ _ _ _ q=>neg_int q
end
section
variable {X:Cx}{a b c:Tz}{ta tb tc:TE}{pos:Pos}
theorem zH:iy X (compareOp .Lt) (yn λi j=>.bl (decide (i<j))):=FM λ_ _ _ _ _ _ _ q=>lt_int q
theorem oK:iy X (compareOp .LtE) (yn λi j=>.bl (decide (i<=j))):=FM λ_ _ _ _ _ _ _ q=>le_int q
theorem Fw:iy X (compareOp .Gt) (yn λi j=>.bl (decide (j<i))):=FM λ_ _ _ _ _ _ _ q=>gt_int q
theorem eg(b:Tz)(h:op≠.In:=by decide)(h2:op≠.NotIn:=by decide):behindInMarks op b=false:=by
 have e1:(op==CmpOp.In)=false:=by cases op<;>first | rfl | exact absurd rfl h
 have e2:(op==CmpOp.NotIn)=false:=by cases op<;>first | rfl | exact absurd rfl h2
 cases b<;>simp[behindInMarks,e1,e2]
theorem Cj{op:CmpOp}{r:R2}(ho:iy X (compareOp op) r)(ha:PE X a ta)(hb:PE X b tb)(hm:behindInMarks op b=false):PE X (.Compare a [op] [b] pos) (EM r ta tb):=by
 intro pins s σ H Q I h;exact wpAny_Compare1 (HB ha hb I h λv u s2 x y H2 I2 rx ry q=>ho pins s2 σ H2 x y v u Q I2 rx ry q) hm
def JS(t:TE):TT:=λσ H Q=>t σ H λx H'=>∃k,x=.bl k/\Q k H'
theorem DS(ho:iy X (compareOp op) r)(ha:PE X a ta)(hb:PE X b tb)(hm:behindInMarks op b=false):PT X (.Compare a [op] [b] pos) (JS (EM r ta tb)):=by
 intro pins s σ H Q I h;refine wpAny_isTrue_Compare1 (bx (ha pins s σ H _ I h) λv s1 ⟨x,H1,I1,r1,q1⟩=>bx (hb pins s1 σ H1 _ I1 q1) λu s2 ⟨y,H2,I2,r2,q2⟩=>
  bx (ho pins s2 σ H2 x y v u _ I2 r1 r2 q2) λc s3 ⟨z,H3,I3,r3,k,e,q3⟩=>?_) hm
 subst e;cases r3;exact QG ⟨H3,I3,q3⟩
def zg(r r':R2)(ta tb tc:TE):TE:=λσ H Q=>ta σ H λx H1=>tb σ H1 λy H2=>r x y H2 λz H3=>∃k,z=.bl k/\
 (if k=true then tc σ H3 λw' H4=>r' y w' H4 Q else Q (.bl false) H3)
theorem Ay(ho:iy X (compareOp op) r)(ub:iy X (compareOp op') r')(ha:PE X a ta)(hb:PE X b tb)(hc:PE X c tc)
  (hm:lastMarks [op,op'] [b,c]=false:=by with_unfolding_all rfl):PE X (.Compare a [op,op'] [b,c] pos) (zg r r' ta tb tc):=by
 intro pins s σ H Q I h;refine Compare_chain (bx (ha pins s σ H _ I h) λv s1 ⟨x,H1,I1,r1,q1⟩=>chain_link (bx (hb pins s1 σ H1 _ I1 q1) λu s2 ⟨y,H2,I2,r2,q2⟩=>
  bx (ho pins s2 σ H2 x y v u _ I2 r1 r2 q2) λd s3 ⟨z,H3,I3,r3,k,e,q3⟩=>?_)) hm
 subst e;cases r3;refine QG ?_;cases k with
 | false=>exact ite_ff ⟨.bl false,H3,I3,rfl,q3⟩
 | true=>exact ite_tt (chain_last (bx (hc pins s3 σ H3 _ I3 q3) λw' s4 ⟨z',H4,I4,r4,q4⟩=>ub pins s4 σ H4 y z' u w' Q I4 r2 r4 q4))
def IL(K:Tj)(x:V)(H:Hp)(k:Bool):Prop:=
 match x with
 | .non=>k=false
 | .bl b=>k=b
 | .int i=>k=(i != 0)
 | .str y=>y.length<=sizeLine/\k=((y.length:Int) != 0)
 | .byt y=>y.size<=sizeLine/\k=((y.size:Int) != 0)
 | .ref p=>(∃xs,cR K H p xs/\k=!xs.isEmpty)\/(∃xs,cX K H p xs/\k=!xs.isEmpty)\/∃jJ,H p=some (.dK jJ)/\k=!jJ.isEmpty
 | _=>False
theorem uI(r:KV jJ vs):(!vs.isEmpty)=!jJ.isEmpty:=by
 cases r<;>rfl
theorem lP(r:aC xs bo):(!bo.toArray.isEmpty)=!xs.isEmpty:=by
 cases r<;>simp
theorem lU:(sizeLine:Nat)<2 ^ 63:=by rw[P6];decide
theorem GF:M7 X (λx H Q=>∃k,IL X.K x H k/\Q k H):=by
 intro pins s σ H x v Q I rx h;obtain⟨k,e,q⟩:=h;have hl:=lU;have hs:sizeLine=16777216:=P6;cases x with
 | non=>
  cases rx;have e':k=false:=e;subst e';exact truthy_none ⟨H,I,q⟩
 | bl b=>
  cases rx;have e':k=b:=e;subst e';exact QG ⟨H,I,q⟩
 | int i=>
  obtain⟨t,rfl⟩:=rx;have e':k=(i != 0):=e;subst e';exact PySem.P.truthy_int ⟨H,I,q⟩
 | str y=>
  obtain⟨t,rfl⟩:=rx;obtain⟨hy,e'⟩:y.length<=sizeLine/\k=((y.length:Int) != 0):=e;subst e';exact PySem.P.truthy_str (by lia) ⟨H,I.tok _,q⟩
 | byt y=>
  obtain⟨t,rfl⟩:=rx;obtain⟨hy,e'⟩:y.size<=sizeLine/\k=((y.size:Int) != 0):=e;subst e';exact PySem.W.truthy_bytes (by lia) ⟨H,I.tok _,q⟩
 | ref p=>
  cases rx;have e':(∃xs,cR X.K H p xs/\k=!xs.isEmpty)\/(∃xs,cX X.K H p xs/\k=!xs.isEmpty)\/∃jJ,H p=some (.dK jJ)/\k=!jJ.isEmpty:=e;rcases e' with ⟨xs,hx,e'⟩ | ⟨xs,hx,e'⟩ | ⟨jJ,hx,e'⟩
  .subst e';obtain⟨bo,r,pl,hz⟩:=I.list hx;have hlen:=r.length;exact wpAny_truthy_list pl.isList (by simp only[q_];lia) ⟨H,I.tok _,by rw[lP r];exact q⟩
  .subst e';obtain⟨bo,r,pl,hz⟩:=I.tuple hx;have hlen:=r.length;exact truthy_tuple pl (by simp only[q_];lia) ⟨H,I.tok _,by rw[lP r];exact q⟩
  .subst e';obtain⟨hz,hS,vs,r,m⟩:jJ.length<=sizeLine/\(p==sysModules)=false/\∃vs,KV jJ vs/\s.heap.DictOf (cm X.prog X.w) p vs:=I.hok p _ hx;have hlen:jJ.length=vs.length:=Paired.length r;exact wpAny_truthy_dict hS m (by lia) ⟨H,I.tok _,by rw[uI r];exact q⟩
 | _=>exact(show False from e).elim
theorem Bq(ha:PE X a ta)(he:∀whole,isTrue a X.env whole=(do let v <- whole;standAt a.pos;holding [v] (truthy v))) :
  PT X a (λσ H Q=>ta σ H λx H'=>∃k,IL X.K x H' k/\Q k H'):=by
 intro pins s σ H Q I h;exact isTrue_plain (bx (ha pins s σ H _ I h) λv s1 ⟨x,H1,I1,r1,q1⟩=>GF pins s1 σ H1 x v Q I1 r1 q1) (he _)
theorem vals1(r:aC [x] us):∃u,us=[u]/\RelV x u:=by
 cases r with
 | cons r1 r2=>cases r2;exact⟨_,rfl,r1⟩
theorem vals2(r:aC [x,y] us):∃u w',us=[u,w']/\RelV x u/\RelV y w':=by
 cases r with
 | cons r1 r2=>
  cases r2 with
  | cons r3 r4=>cases r4;exact⟨_,_,rfl,r1,r3⟩
theorem xq(hc:X.calm=true):dG X (.builtin "max") (λxs H Q=>∃i j,xs=[.int i,.int j]/\Q (.int (if j>i then j else i)) H):=by
 intro pins s σ H xs us Q I r h;obtain⟨i,j,rfl,q⟩:=h;obtain⟨u,w',rfl,⟨t,rfl⟩,⟨t',rfl⟩⟩:=vals2 r;refine max_two_ints (I.ok.hd hc) λh' tk k=>⟨_,H,I.kept k,?_,q⟩
 by_cases hj:j>i
 .rw[g_ hj,g_ hj];exact⟨_,rfl⟩
 .rw[j_ hj,j_ hj];exact⟨_,rfl⟩
theorem xk(hc:X.calm=true):dG X (.builtin "min") (λxs H Q=>∃i j,xs=[.int i,.int j]/\Q (.int (if j<i then j else i)) H):=by
 intro pins s σ H xs us Q I r h;obtain⟨i,j,rfl,q⟩:=h;obtain⟨u,w',rfl,⟨t,rfl⟩,⟨t',rfl⟩⟩:=vals2 r;refine min_two_ints (I.ok.hd hc) λh' tk k=>⟨_,H,I.kept k,?_,q⟩
 by_cases hj:j<i
 .rw[g_ hj,g_ hj];exact⟨_,rfl⟩
 .rw[j_ hj,j_ hj];exact⟨_,rfl⟩
theorem xF:dG X (.type "int") (λxs H Q=>(∃i,xs=[.int i]/\Q (.int i) H)\/∃k,xs=[.bl k]/\Q (.int (if k then 1 else 0)) H):=by
 intro pins s σ H xs us Q I r h;rcases h with ⟨i,rfl,q⟩ | ⟨k,rfl,q⟩
 .obtain⟨u,rfl,t,rfl⟩:=vals1 r;exact call_int_int ⟨.int i,H,I,⟨_,rfl⟩,q⟩
 .obtain⟨u,rfl,r1⟩:=vals1 r;cases r1;exact call_int_bool ⟨.int (if k then 1 else 0),H,I.tok _,⟨_,rfl⟩,q⟩
end
structure ObjM(h:Heap)(x dx C:Addr)(mA:Str->Option Value):Prop where
 obj:h.get? x=some (PySem.W.instObj C dx)
 ns:h.Ns1 dx mA
 ne:dx≠x
section
variable {prog:Tp}{w:Ts}{A:Tq}{E:S2}{s:To}{K:Tj}{x dx C f:Tv}{mA:S5}{name:Str}{v:Tn}
end
section
variable {P:Tp}{w:Ts}{H H':Hp}{h h':Tr}{a C dx:Tv}{fs KC:List (Str×V)}
end
structure Cls(K:PySem.W.Frag)(C:Addr):Prop where
 pg:PySem.W.plainGet K C Str.empty=true
 hd:PySem.W.hasDictIn K C=true
 po:PySem.W.plainOver K C=true
 sa:PySem.W.findIn K (.ref C) "__setattr__"=some (some (.builtin "object.__setattr__"))
structure Con(K:PySem.W.Frag)(C:Addr)(f:Str)(v:V)(u:Value):Prop where
 at_:PySem.W.findIn K (.ref C) f=some (some u)
 rel:RelV v u
 get:PySem.W.specialIn K u "__get__"=some none
 cp:PySem.W.copiedNames.contains f=false
structure Meth(K:PySem.W.Frag)(C:Addr)(m:Str)(f:Addr):Prop where
 at_:PySem.W.findIn K (.ref C) m=some (some (.ref f))
 fn:PySem.W.isFn K (.ref f)=true
 kp:PySem.W.keepIn K (.ref f)=true
section
variable {X:Cx}{pins:S3}{σ:St}{H:Hp}{s:To}{a C dx:Tv}{fs:List (Str×V)}{f:Str}{v:V}{A:Tq}{E:S2}
end
section
variable {X:Cx}{o e value:Tz}{f:Str}{pos pos' tpos:Pos}{ta tv:TE}
end
section
variable {X:Cx}{pins:S3}{σ:St}{H:Hp}{s:To}{A:Tq}{E:S2}{Q:S2}{c:Tn}{b:Bool}
inductive mO(K:PySem.W.Frag)(H:Hp):V->Value->Prop where
 | non:mO K H .non (.type "NoneType")
 | bl (x:Bool):mO K H (.bl x) (.type "bool")
 | int (i:Int):mO K H (.int i) (.type "int")
 | str (x:Str):mO K H (.str x) (.type "str")
 | flt (x:UInt64):mO K H (.flt x) (.type "float")
 | lst {a:Addr} {xs:List V} (e:H a=some (.lst xs)):mO K H (.ref a) (.type "list")
 | frz {a:Addr} {o:Obj} {xs:List V} (e:H a=some (.frz o (.lst xs))):mO K H (.ref a) (.type "list")
 | tup {a:Addr} {xs:List V} (e:H a=some (.tup xs)):mO K H (.ref a) (.type "tuple")
 | dK {a:Addr} {jJ:List (Key×V)} (e:H a=some (.dK jJ)):mO K H (.ref a) (.type "dict")
 | dT {a:Addr} {jJ:List (List Key×V)} (e:H a=some (.dT jJ)):mO K H (.ref a) (.type "dict")
 | ins {a C dx:Addr} {fs:List (Str×V)} (e:H a=some (.ins C dx fs)) (cl:Cls K C) (ha:PySem.W.findIn K (.ref C) "__class__"=some (some (.builtin "object.__class__")))
   (hn:PySem.W.specialIn K (.builtin "object.__class__") "__get__"=some (some (.builtin "getset_descriptor.__get__"))) (HN:PySem.W.takesIn K (.builtin "object.__class__")=some true)
   (hm:PySem.W.mroIn K C (.type "object")=some true):mO K H (.ref a) (.ref C)
end
structure bG(k:Nat)(A:Around):Prop where
 hd:A.handled=none
 dp:A.depth+3*k+5<recursionLimit
 un:A.units+16*k+200<cLine
theorem bG.mono(r:bG k A)(h:j<=k):bG j A:=⟨r.hd,by have:=r.dp;lia,by have:=r.un;lia⟩
theorem bG.deeper(r:bG (k+1) A)(env:Env):bG k (A.deeper env):=
 ⟨r.hd,by have:=r.dp;show A.depth+1+3*k+5<_;lia,by have:=r.un;show A.units+3+16*k+200<_;lia⟩
theorem ux{A:Tq}{C:Tv}{us:S9}{kw:List (Str×Tn)}:(A.under (.builtin "type.__call__" ⟨.ref C::us,kw⟩)).depth=A.depth+1:=by
 first | rfl | simp[Around.under,Code.weight,Code.isCreation,Code.isGuard,Code.isCaller,Code.frames,Code.isFrame,guardIds]
theorem u7{A:Tq}{C:Tv}{us:S9}{kw:List (Str×Tn)}:(A.under (.builtin "type.__call__" ⟨.ref C::us,kw⟩)).units=A.units+1:=by
 first | rfl | simp[Around.under,Code.cUnits,Code.frames,Code.isFrame]
theorem bG.make(r:bG (k+1) A)(C:Tv)(us:S9)(kw:List (Str×Tn)):bG k (A.under (.builtin "type.__call__" ⟨.ref C::us,kw⟩)):=
 ⟨r.hd,by have:=r.dp;rw[ux];lia,by have:=r.un;rw[u7];lia⟩
theorem bG.depth(r:bG k A):A.depth<recursionLimit:=by have:=r.dp;lia
theorem bG.units(r:bG k A):A.units+64<cLine:=by have:=r.un;lia
def tNil:TA:=λ_ H Q=>Q [] H
def dI(ta:TE)(tr:TA):TA:=λσ H Q=>ta σ H λx H1=>tr σ H1 λxs H2=>Q (x::xs) H2
section
variable {X:Cx}{e:Tz}{es:Td}{te:TE}{t:TA}{pos:Pos}
theorem bS:PA X [] tNil:=λ_ _ _ _ H Q I h=>Calls.spliced_nil ⟨[],H,I,.nil,h⟩
theorem aJ(ha:PE X e te)(hr:PA X es t)(hs:starEach (e::es) X.env=(false,eval e X.env)::starEach es X.env:=by rfl):PA X (e::es) (dI te t):=by
 intro pos pins s σ H Q I h;rw[hs];show wpAny _ _ (spliced ((false,eval e X.env)::backTo pos (starEach es X.env))) _ _ s;refine Calls.spliced_cons (bx (ha pins s σ H _ I h) λu s1 aA=>?_);obtain⟨x,H1,I1,r1,q1⟩:=aA;exact bx (hr pos pins s1 σ H1 _ I1 q1) λus s2 ⟨xs,H2,I2,r2,q2⟩=>⟨x::xs,H2,I2,.cons r1 r2,q2⟩
def MF(t:TA):TE:=λσ H Q=>t σ H λxs H1=>xs.length<=sizeLine/\∀p,H1 p=none->Q (.ref p) (upd H1 p (.tup xs))
def Ek(t:TA):TE:=λσ H Q=>t σ H λxs H1=>xs.length<=sizeLine/\∀p,H1 p=none->Q (.ref p) (upd H1 p (.lst xs))
theorem GJ{x1}(h:PA X es t):PE X (.Tuple es x1 pos) (MF t):=by
 intro pins s σ H Q I hq;refine wpAny_Tuple_spliced (bx (h pos pins s σ H _ I hq) λus s1 ⟨xs,H1,I1,r,z,q⟩=>⟨by rw[<- r.length];exact z,?_⟩);have hf:H1 s1.heap.objs.size=none:=I1.hok.fresh (m_ _);refine⟨.ref s1.heap.objs.size,upd H1 s1.heap.objs.size (.tup xs),I1.laid (t':=s1.toks) (λb u e=>d_ _ e) (m_ _) ?_,rfl,q _ hf⟩;exact⟨z,us,r,⟨_,s_ _ rfl,rfl,_,rfl⟩⟩
theorem qT(h:PA X es t):PE X (.List es pos) (Ek t):=by
 intro pins s σ H Q I hq;refine wpAny_List_spliced (bx (h pos pins s σ H _ I hq) λus s1 ⟨xs,H1,I1,r,z,q⟩=>⟨by rw[<- r.length];exact z,?_⟩);have hf:H1 s1.heap.objs.size=none:=I1.hok.fresh (m_ _);refine⟨.ref s1.heap.objs.size,upd H1 s1.heap.objs.size (.lst xs),I1.laid (t':=s1.toks) (λb u e=>d_ _ e) (m_ _) ?_,rfl,q _ hf⟩;exact⟨z,us,0,r,s_ _ rfl⟩
end
abbrev Sp:=TQ->Hp->VK->XK->Prop
abbrev CXT:=List Env->Hp->To->XK->S2
structure tU(P:Program)(w:World)(K:PySem.W.Frag)(mg:Str->Option Value)(base:Heap)(A:Around)(outer:List Env)(s:Shared)(H:Hp):Prop where
 frames:A.frames=some outer
 mod:Mod K mg base
 bs:∀b o,base.get? b=some o->s.heap.get? b=some o/\H b=none
 bsz:base.objs.size<=s.heap.objs.size
 funs:s.heap.FunFrames base outer
 frf:∀b∈kS outer,H b=none
 hok:kY P w H s.heap
 bare:AllBare s.gens
def CE(outer:List Env)(P:Tp)(w:Ts)(H:Hp)(s:To)(Q:VK)(u:Tn)(s':To):Prop:=
 ∃v H',s'.os=s.os/\AllBare s'.gens/\Un (kS outer) [] H H' s.heap s'.heap/\kY P w H' s'.heap/\RelV v u/\Q v H'
def CR(CX:CXT)(outer:List Env)(P:Tp)(w:Ts)(H:Hp)(s:To)(Q:VK)(E:XK)(r:Result)(s':To):Prop:=
 match r with
 | .ok (.ret u)=>CE outer P w H s Q u s'
 | .ok _=>False
 | .error e=>CX outer H s E e s'
structure dM(P:Program)(w:World)(K:PySem.W.Frag)(mg:Str->Option Value)(base:Heap)(CX:CXT)(k:Nat)(f:Addr)(fd:FuncData)(ps:List Str)(sp:Sp):Prop where
 len:∀vs H Q E,sp vs H Q E->vs.length=ps.length
 run:∀(A:Around)(outer:List Env)(s:Shared)(H:Hp)(args:Args)(us:List Value)(vs:List V)(Q:VK)(E:XK),bG k A->tU P w K mg base A outer s H->BindsTo s fd args (ps.zip us)->aC vs us->sp vs H Q E->
  codeAny (model P w) A (.call (.ref f) args) (CR CX outer P w H s Q E) s
theorem dM.mono{P:Tp}{w:Ts}{K:Tj}{mg:S5}{base:Tr}{CX:CXT}{j k:Nat}{f:Tv}{fd:Tt}{ps:Tb}{sp:Sp}(F:dM P w K mg base CX j f fd ps sp)(h:j<=k) :
  dM P w K mg base CX k f fd ps sp:=⟨F.len,λA outer s H args us vs Q E hr=>F.run A outer s H args us vs Q E (hr.mono h)⟩
theorem tU.make{P:Tp}{w:Ts}{K:Tj}{mg:S5}{base:Tr}{A:Tq}{outer:List Env}{s:To}{H:Hp}(e:tU P w K mg base A outer s H)(C:Tv)(us:S9)(kw:List (Str×Tn)) :
  tU P w K mg base (A.under (.builtin "type.__call__" ⟨.ref C::us,kw⟩)) outer s H:=⟨by first | exact e.frames | (simpa [Around.under,Code.envs,Code.isFrame,pushEnvs]using e.frames),e.mod,e.bs,e.bsz,e.funs,e.frf,e.hok,e.bare⟩
section
variable {X:Cx}{pins:S3}{σ:St}{H:Hp}{s s':To}
theorem Inv.env0(I:Inv X pins σ H s):tU X.prog X.w X.K X.mg X.base X.A X.stack s H:=
 ⟨I.ok.frames,I.ok.mod,I.bs,w_ I.ok.bsz I.sz,I.stack,I.stkFree,I.hok,I.bare⟩
theorem Inv.after(I:Inv X pins σ H s)(h:CE X.stack X.prog X.w H s Q u s'):EP X pins σ Q u s':=by
 obtain⟨v,H',os,bare,un,hok,r,q⟩:=h;obtain⟨hh,g,d,t,os'⟩:=s';obtain rfl:os'=s.os:=os;exact⟨v,H',I.call (h':=hh) (g':=g) (d':=d) (t':=t) (ch:=[]) un hok bare (λb z=>absurd z (by simp)),r,q⟩
end
def Fu(sp:Sp)(dvs:TQ)(E:XK)(t:TA):TE:=λσ H Q=>t σ H λvs H1=>sp (vs++dvs) H1 Q E
def Binds(K:Tj)(fd:Tt)(ps:Tb)(ds:S9):Prop:=
 ∀(s:To)(us:S9),K.In s.heap->(us++ds).length=ps.length->BindsTo s fd ⟨us,[]⟩ (ps.zip (us++ds))
theorem Binds.all{K:Tj}{fd:Tt}{ps:Tb}(h:∀us:S9,us.length=ps.length->bindArgs fd ⟨us,[]⟩=pure (ps.zip us)):Binds K fd ps []:=λs us _ hl=>by
 rw[P9]at hl ⊢;exact .of_eq (h us hl)
def u4(CX:CXT)(X:Cx)(E:XK):Prop:=∀(pins:S3)(σ:St)(H:Hp)(s:To)(e:Tn)(s':To),Inv X pins σ H s->CX X.stack H s E e s'->X.xe e s'
section
variable {X:Cx}{CX:CXT}{k:Nat}{f C:Tv}{fd:Tt}{ps:Tb}{sp:Sp}{dvs:TQ}{ds:S9}{E:XK}{x m:Str}{p pos apos:Pos}{e o:Tz}{es:Td}{ta:TE}{t:TA}
theorem Ha(F:dM X.prog X.w X.K X.mg X.base CX k f fd ps sp)(hr:bG k X.A)(hb:Binds X.K fd ps ds)(hd:aC dvs ds)(hx:u4 CX X E)
  (I:Inv X pins σ H s) (r:aC vs us) (h:sp (vs++dvs) H Q E):wpAny @2 X.A (call (.ref f) us) (EP X pins σ Q) X.xe s:=by
 have r2:aC (vs++dvs) (us++ds):=r.append hd;have hl:(us++ds).length=ps.length:=by rw[<- r2.length];exact F.len _ _ _ _ h
 refine Sl (Rz (F.run X.A X.stack s H ⟨us,[]⟩ (us++ds) (vs++dvs) Q E hr I.env0 (hb s us I.kIn hl) r2 h) λr s' hq=>?_);cases r with
 | error e=>exact hx pins σ H s e s' I hq
 | ok fl=>
  cases fl with
  | ret u=>exact I.after hq
  | next=>exact False.elim hq
  | brk=>exact False.elim hq
  | cont=>exact False.elim hq
theorem DC(F:dM X.prog X.w X.K X.mg X.base CX k f fd ps sp)(hr:bG k X.A)(hg:Gl X x)(hm:X.mg x=some (.ref f))(hk:PySem.W.keepIn X.K (.ref f)=true)(hb:Binds X.K fd ps ds)(hd:aC dvs ds)(hx:u4 CX X E)
  (ha:PA X (e::es) t) (jG:(x==("__debug__":Str))=false:=by decide) (he:starEach (e::es) X.env=(false,eval e X.env)::starEach es X.env:=by rfl) (gI:(backTo pos (starEach es X.env)).any (·.1)=false:=by rfl) :
  PE X (.Call (.Name x p) (e::es) [] pos) (Fu sp dvs E t):=by
 intro pins s σ H Q I h;refine QM (ij I hg hm ?_ jG);refine Rf (h₀:=X.base) I.ok.mod.kin hk (bx (ha pos pins s σ H _ I h) λus s1 ⟨vs,H1,I1,r,q⟩=>⟨I1.kIn,?_⟩) he gI;exact Ha F hr hb hd hx I1 r q
structure Mk(K:PySem.W.Frag)(C f:Addr):Prop where
 makes:PySem.W.makesIn K C=true
 init:PySem.W.findIn K (.ref C) "__init__"=some (some (.ref f))
 fn:PySem.W.isFn K (.ref f)=true
 kp:PySem.W.keepIn K (.ref C)=true
end
section
variable {X:Cx}{CX:CXT}{k:Nat}{f C:Tv}{fd:Tt}{ps ks:Tb}{sp:Sp}{E:XK}{x m:Str}{p pos apos kpos:Pos}{e o:Tz}{es:Td}{kws:List Keyword}{te ta:TE}{t tk:TA}{nm:Option Str}
structure KBinds(K:PySem.W.Frag)(fd:FuncData)(ps ks:List Str)(g:List Value->List Value->List Value)(gV:List V->List V->List V):Prop where
 to:∀(s:Shared)(us ws:List Value),K.In s.heap->(g us ws).length=ps.length->BindsTo s fd ⟨us,ks.zip ws⟩ (ps.zip (g us ws))
 rel:∀{vs:List V}{us:List Value}{zs:List V}{ws:List Value},aC vs us->aC zs ws->aC (gV vs zs) (g us ws)
variable {g:S9->S9->S9}{gV:TQ->TQ->TQ}
end
structure bW(N P:List Str)(sc:Scope):Prop where
 kind:sc.kind=.function
 co:sc.isCoroutine=false
 gen:sc.isGenerator=false
 nd:N.Nodup
 pre:N.take P.length=P
 par:∀x∈P,sc.names.lookup x=some .local\/sc.names.lookup x=some .cell
 nofree:∀y∈sc.names,y.2≠.free
theorem n0{kindOf:Str->Option NameKind}{x:Str}:∀{binds:List (Str×Tn)}{m:S5},(∀v,(x,v)∉binds)->bindL kindOf binds m x=m x
 | [],_,_=>rfl
 | (n,v)::r,m,h=>by
  unfold bindL;rw[n0 λw hw=>h w (e_ _ hw)]
  split
  .have:x≠n:=by rintro rfl;exact h v f_
   simp[this]
  .rfl
theorem oX{kindOf:Str->Option NameKind}{x:Str}:∀{binds:List (Str×Tn)}{m:S5},(∀v,(x,v)∉binds)->bindC kindOf binds m x=m x
 | [],_,_=>rfl
 | (n,v)::r,m,h=>by
  unfold bindC;rw[oX λw hw=>h w (e_ _ hw)]
  split
  .rfl
  .have:x≠n:=by rintro rfl;exact h v f_
   simp[this]
theorem oE{kindOf:Str->Option NameKind}{x:Str}{v:Tn}:∀{P:Tb}{vs:S9}{i:Nat}{m:S5},P.Nodup->P[i]?=some x->vs[i]?=some v->kindOf x=some .local->
  bindL kindOf (P.zip vs) m x=some v
 | [],_,_,_,_,h,_,_=>by simp at h
 | _::_,[],_,_,_,_,h,_=>by simp at h
 | p::P,w::vs,0,m,nd,h1,h2,hk=>by
  simp at h1 h2;subst h1;subst h2;show bindL kindOf ((p,w)::P.zip vs) m p=_;unfold bindL;rw[n0 λv hv=>(RJ.mp nd).1 (RK hv).1,g_ hk];simp
 | p::P,w::vs,i+1,m,nd,h1,h2,hk=>by
  show bindL kindOf ((p,w)::P.zip vs) m x=_;unfold bindL;exact oE (i:=i) (RJ.mp nd).2 (by simpa using h1) (by simpa using h2) hk
theorem oU{kindOf:Str->Option NameKind}{x:Str}{v:Tn}:∀{P:Tb}{vs:S9}{i:Nat}{m:S5},P.Nodup->P[i]?=some x->vs[i]?=some v->kindOf x≠some .local->
  bindC kindOf (P.zip vs) m x=some v
 | [],_,_,_,_,h,_,_=>by simp at h
 | _::_,[],_,_,_,_,h,_=>by simp at h
 | p::P,w::vs,0,m,nd,h1,h2,hk=>by
  simp at h1 h2;subst h1;subst h2;show bindC kindOf ((p,w)::P.zip vs) m p=_;unfold bindC;rw[oX λv hv=>(RJ.mp nd).1 (RK hv).1,j_ hk];simp
 | p::P,w::vs,i+1,m,nd,h1,h2,hk=>by
  show bindC kindOf ((p,w)::P.zip vs) m x=_;unfold bindC;exact oU (i:=i) (RJ.mp nd).2 (by simpa using h1) (by simpa using h2) hk
def start(N:Tb)(vs:TQ):St:=vs.map some++List.replicate (N.length-vs.length) none
def ft(CX:CXT)(P:Tp)(w:Ts)(K:Tj)(mg:S5)(base:Tr)(N:Tb)(qual:Str)(scope:Tu)(f:Tv)(cd:Tn)(A:Tq)(outer:List Env)(s:To)(H:Hp)(E:XK):Cx where
 prog:=P
 w:=w
 K:=K
 mg:=mg
 base:=base
 A:=A.deeper (envOfC qual scope s.heap.objs.size f cd)
 N:=N
 s₀:=s
 H₀:=H
 env:=envOfC qual scope s.heap.objs.size f cd
 outer:=outer
 stack:=envOfC qual scope s.heap.objs.size f cd::outer
 ex:=[]
 calm:=true
 fn:=λ_=>true
 pn:=[]
 xe:=λe s'=>wpAny (model P w) (A.deeper (envOfC qual scope s.heap.objs.size f cd)) (leaving (envOfC qual scope s.heap.objs.size f cd) e) (λ_ KL=>CX outer H s E e KL) (λe' KL=>CX outer H s E e' KL) s'
theorem sy{sc:Tu}{n:Nat}{x:Str}(h:sc.names.lookup x=some .cell):∃c,(cellsFrom n sc.names []).lookup x=some c:=by
 have q:=Rg sc.names n [] (.inl h);exact Option.isSome_iff_exists.mp q
theorem jT{CX:CXT}{P:Tp}{w:Ts}{K:Tj}{mg:S5}{base:Tr}{N ps:Tb}{qual:Str}{scope:Tu}{f:Tv}{cd:Tn}{A:Tq}{outer:List Env}{s s1:To}{H:Hp}{E:XK}{us:S9}{vs:TQ}
  (S:bW N ps scope) (hd:A.handled=none) (e0:tU P w K mg base A outer s H) (hl:vs.length=ps.length) (r:aC vs us)
  (x:InCallC s s.heap.objs.size (bindL (envOfC qual scope s.heap.objs.size f cd).kindOf (ps.zip us) λ_=>none) (cellsFrom (s.heap.objs.size+1) scope.names []) (bindC (envOfC qual scope s.heap.objs.size f cd).kindOf (ps.zip us) λ_=>none) s1) :
  Inv (ft CX P w K mg base N qual scope f cd A outer s H E) [] (start N vs) H s1:=by
 have gI:ps.length<=N.length:=by have:=QO List.length S.pre;rw[QY]at this;lia
 obtain⟨h1,tk,rfl,hk⟩:=x.done;have KM:∀b:Tv,b∉(ft CX P w K mg base N qual scope f cd A outer s H E).ex:=λb z=>absurd (show b∈([]:Tc)from z) (by simp);refine⟨⟨e0.mod,S.kind,rfl,rfl,m_ _,λy z c h1 h2=>?_,λy hy=>?_,λy c _ h=>?_,λ_=>hd,Around.frames_deeper e0.frames,.inr ⟨rfl,rfl⟩,λb z=>absurd z (KM b),e0.bs,e0.bsz,λb _ _=>KM b,λb z=>absurd z (KM b),e0.funs,e0.frf⟩,
  rfl,e0.bare,Un.kept hk,⟨_,x.toInCall.ns,λi y v h1 h2 h3=>?_⟩,λy c h=>⟨_,x.cell y c h⟩,e0.hok.fresh (m_ _),λy c h=>?_,λp hp=>absurd (show p∈([]:S3)from hp) (by simp),e0.hok.kept hk,?_⟩
 .exact name_of_addr x.apart (Qj h1) (Qj h2)
 .have hy:scope.names.lookup y=some .cell\/scope.names.lookup y=some .free:=hy;rcases hy with hy | hy
  .exact sy hy
  .exact absurd rfl (S.nofree _ (Qj hy))
 .exact Sk (x.above y c (Qj h))
 .have hi:i<vs.length:=by
   unfold start at h2
   by_cases hi:i<vs.length
   .exact hi
   .rw[G_ (by simpa using hi)]at h2;rw[Qp]at h2
    split at h2<;>cases h2
  have ha:vs[i]?=some v:=by
   unfold start at h2;rw[PZ (by simpa using hi),u_]at h2;cases e:vs[i]? with
   | none=>rw[e]at h2;cases h2
   | some a=>rw[e]at h2;cases h2;rfl
  obtain⟨u,hu,rv⟩:=r.get ha;have hp:ps[i]?=some y:=by
   rw[<- S.pre,List.getElem?_take_of_lt (by lia)];exact h1
  have OO:ps.Nodup:=by rw[<- S.pre];exact S.nd.sublist (RV _ _)
  refine⟨u,rv,?_⟩;rcases S.par y (Q7 hp)with k | k
  .exact .inl ⟨k,oE OO hp hu k⟩
  .obtain⟨c,e⟩:=sy (n:=s.heap.objs.size+1) k;refine .inr ⟨.inl k,c,e,?_⟩;have q:=x.cell y c e;rw[oU OO hp hu (by show scope.names.lookup y≠_;rw[k];decide)]at q;exact q
 .exact e0.hok.fresh (Sk (x.above y c (Qj h)))
 .unfold start;show _=N.length;rw[E_,c_,Rk]
  lia
theorem zl{CX:CXT}{P:Tp}{w:Ts}{K:Tj}{mg:S5}{base:Tr}{k:Nat}{f:Tv}{name qual:Str}{params:Arguments}{body:Te}{scope:Tu}{dV kV doc pm bK ct oc:Tn}{an od:Ta}
  {rm:S4} {N ps:Tb} {sp:Sp} (lk:K.lookup f=some ⟨oc,od,.func (PySem.W.fnOf name qual params body scope dV kV doc pm an bK ct),rm⟩) (eC:PySem.W.codeIn K bK qual=true) (S:bW N ps scope)
  (len:∀vs H Q E,sp vs H Q E->vs.length=ps.length)
  (hbody:∀(A:Tq)(outer:List Env)(s:To)(H:Hp)(vs:TQ)(Q:VK)(E:XK),bG k (A.deeper (envOfC qual scope s.heap.objs.size f bK))->sp vs H Q E->
   ∃t,PSs (ft CX P w K mg base N qual scope f bK A outer s H E) body t/\t {nx:=λ_ H'=>Q .non H',rt:=Q} (start N vs) H) :
  dM P w K mg base CX (k+1) f (PySem.W.fnOf name qual params body scope dV kV doc pm an bK ct) ps sp:=by
 refine⟨len,λA outer s H args us vs Q E hr e0 hb r lE=>?_⟩;have hl:=len _ _ _ _ lE;have KX:K.In s.heap:=e0.mod.kin.keeps λb o e=>(e0.bs b o e).1;have lim:s.heap.NoLimit:=e0.mod.nolimit.keeps λb o e=>(e0.bs b o e).1;have cx:∀y∈ps.zip us,scope.names.lookup y.1=some .local\/(scope.names.lookup y.1=some .cell/\((cellsFrom (s.heap.objs.size+1) scope.names []).lookup y.1).isSome=true):=λ⟨n,v⟩ hy=>by
  rcases S.par n (RK hy).1 with q | q
  .exact .inl q
  .exact .inr ⟨q,Rg _ _ _ (.inl q)⟩
 refine R0 hr.depth (KX _ _ lk) rfl S.co S.gen rfl (Sm KX eC) (hb _ _ _ _ ?_);refine Rt S.kind cx λenv he s1 x=>?_;subst he;refine⟨lim.keeps x.toInCall.keep,codeAny_func ?_⟩;obtain⟨t,ht,hq⟩:=hbody A outer s H vs Q E (hr.deeper _) lE;have I:Inv (ft CX P w K mg base N qual scope f bK A outer s H E) [] (start N vs) H s1:=jT S hr.hd e0 hl r x;refine P4 (ht [] s1 (start N vs) H _ I hq) (λfl s' hs=>?_) λe s' hs=>hs;have fin:∀{σ':St}{H':Hp}{v:V}{u:Tn},Inv (ft CX P w K mg base N qual scope f bK A outer s H E) [] σ' H' s'->RelV v u->Q v H'->CE outer P w H s Q u s':=
  λ{σ' H' v u} J rv q=>⟨v,H',J.os,J.bare,J.base,J.hok,rv,q⟩
 cases fl with
 | ret u=>
  obtain⟨v,σ',H',J,rv,q⟩:=hs;exact fin J rv q
 | next=>
  obtain⟨σ',H',J,q⟩:=hs;exact fin (v:=V.non) (u:=Value.none) J rfl q
 | brk=>
  obtain⟨_,_,_,q⟩:=hs;exact False.elim q
 | cont=>
  obtain⟨_,_,_,q⟩:=hs;exact False.elim q
section
variable {X:Cx}{x:Str}{p pos:Pos}{e:Tz}{es:Td}{t:TA}{id T:String}{r:TQ->Hp->VK->Prop}
def Lv(r:TQ->Hp->VK->Prop)(t:TA):TE:=λσ H Q=>t σ H λvs H1=>r vs H1 Q
theorem fF(hc:dG X (.builtin id) r)(hg:Gl X x)(hm:X.mg x=none)(hv:bootBuiltins x=some (.builtin id))(ha:PA X (e::es) t)(hn:x≠"__name__":=by decide)(jG:(x==("__debug__":Str))=false:=by decide)
  (he:starEach (e::es) X.env=(false,eval e X.env)::starEach es X.env:=by rfl) (gI:(backTo pos (starEach es X.env)).any (·.1)=false:=by rfl):PE X (.Call (.Name x p) (e::es) [] pos) (Lv r t):=by
 intro pins s σ H Q I h;refine QM (fY I hg hm hv ?_ hn jG);exact R8 (bx (ha pos pins s σ H _ I h) λus s1 ⟨vs,H1,I1,r1,q1⟩=>hc pins s1 σ H1 vs us Q I1 r1 q1) he gI
theorem yy(hc:dG X (.type T) r)(hg:Gl X x)(hm:X.mg x=none)(hv:bootBuiltins x=some (.type T))(ha:PA X (e::es) t)(hn:x≠"__name__":=by decide)(jG:(x==("__debug__":Str))=false:=by decide)
  (he:starEach (e::es) X.env=(false,eval e X.env)::starEach es X.env:=by rfl) (gI:(backTo pos (starEach es X.env)).any (·.1)=false:=by rfl):PE X (.Call (.Name x p) (e::es) [] pos) (Lv r t):=by
 intro pins s σ H Q I h;refine QM (fY I hg hm hv ?_ hn jG);exact QF (bx (ha pos pins s σ H _ I h) λus s1 ⟨vs,H1,I1,r1,q1⟩=>hc pins s1 σ H1 vs us Q I1 r1 q1) he gI
end
end L2
namespace HT
open PySem PyProof.Rows
theorem zO(A:Tq)(s:To)(a:Int)(t:Tok)(c:Int)(u:Tok)(prog:Tp)(w:Ts)(E:S2)(Q:S2)(h:Q (.bool (decide (a<c))) s) :
  wpAny (model prog w) A (richCompare .Lt (.int a t) (.int c u)) Q E s:=
 (PyProof.Rows.lt_int h:wpAny (model prog w) A (compareOp .Lt (.int a t) (.int c u)) Q E s)
section
open PySem.SeqAt
open PySem.AutoSeq1 (wpAny_loadPart')
open PySem.MeetsSeq PySem.MeetsSeq2 PySem.MeetsSeq3
end
section
variable {prog:Tp}{w:Ts}{A:Tq}{E:S2}{s:To}
theorem Dc(ht:IsTup s.heap t vs.toArray)(hb:IsTup s.heap b ws.toArray)(hv:vs≠[])
  (h1:ws=[]->Q (.ref t) s) (h2:ws≠[]->Q (.ref s.heap.objs.size) {s with heap:=s.heap.push {cls:=.type "tuple",data:=.seq (vs++ws).toArray}})
  (hsz:vs.length+ws.length<=sizeLine):wpAny (model prog w) A (binaryOp .Add (.ref t) (.ref b)) Q E s:=by
 obtain⟨⟨cls,dd,data,sl⟩,ho,hc,n,hd⟩:=id ht;obtain⟨⟨Et,tV,data2,w5⟩,yC,w6,n2,hd2⟩:=id hb;simp only at hc hd w6 hd2;subst hc hd w6 hd2;have e:vs.toArray++ws.toArray=(vs++ws).toArray:=by simp
 by_cases hw:ws=[]
 .exact concat_meets ⟨_,ho,rfl⟩ ⟨_,yC,rfl⟩ noFill_tuple_add seq_tuple_add RW RS (RF _ _)
   (tuple_addW1 t b vs.toArray ws.toArray n n2 dd tV sl w5 (by simpa using hv) (by simp[hw])) ⟨ho,yC,h1 hw⟩
 .refine concat_meets ⟨_,ho,rfl⟩ ⟨_,yC,rfl⟩ noFill_tuple_add seq_tuple_add RW RS (RF _ _)
   (tuple_addW2 t b vs.toArray ws.toArray n n2 dd tV sl w5 (by simpa using hv) (by simpa using hw) (by rw[q_,q_];exact hsz)) ⟨ho,yC,?_⟩
  rw[e];exact h2 hw
def nX(n d:Nat):Option Int->Nat
 | none=>d
 | some v=>if v<0 then(v+(n:Int)).toNat else min v.toNat n
theorem AH(n d:Nat):nX n d none=d:=rfl
theorem Di(n d k:Nat):nX n d (some (k:Int))=min k n:=by
 show(if(k:Int)<0 then((k:Int)+(n:Int)).toNat else min (k:Int).toNat n)=min k n;rw[j_ (by lia),QH]
end
end HT
namespace L2
open PySem PySem.Spec PyProof.Rows
abbrev TO:=St->Hp->(Option Int->Hp->Prop)->Prop
def PO(X:Cx)(e:Option Tz)(t:TO):Prop:=
 ∀(pins:S3)(s:To)(σ:St)(H:Hp)(Q:Option Int->Hp->Prop),Inv X pins σ H s->t σ H Q->
  wpAny @2 X.A (evalPart e X.env) (λu s'=>∃o H',Inv X pins σ H' s'/\IsPart u o/\Q o H') X.xe s
def tNoPart:TO:=λ_ H Q=>Q none H
def I9(t:TE):TO:=λσ H Q=>t σ H λx H1=>∃i,x=.int i/\Q (some i) H1
section
variable {X:Cx}{e:Tz}{te:TE}{lo hi:Option Tz}{tl th:TO}{pos p2:Pos}
theorem B4:PO X none tNoPart:=by
 intro pins s σ H Q I h;rw[evalPart_none];exact o_ ⟨none,H,I,.none,h⟩
theorem wq(h:PE X e te):PO X (some e) (I9 te):=by
 intro pins s σ H Q I hw;rw[evalPart_some];refine bx (h pins s σ H _ I hw) λu s1 aA=>?_;obtain⟨x,H1,I1,r1,q1⟩:=aA;obtain⟨i,rfl,q⟩:=q1;obtain⟨t,rfl⟩:=r1;exact⟨some i,H1,I1,.int i t,q⟩
def OF(X:Cx)(r:V->Option Int->Option Int->Hp->VK->Prop):Prop:=
 ∀(pins:S3)(s:To)(σ:St)(H:Hp)(x:V)(v vl vu:Tn)(lo hi:Option Int)(sl:Tv)(Q:VK),Inv X pins σ H s->RelV x v->s.heap.IsSliceOf sl vl vu .none->IsPart vl lo->IsPart vu hi->r x lo hi H Q->
  ∃T id,typeLookup (.type T) "__getitem__"=pure (some (.builtin id))/\s.TypeIs v T/\wpAny @2 X.A (getItem v (.ref sl)) (EP X pins σ Q) X.xe s
def PC(r:V->Option Int->Option Int->Hp->VK->Prop)(te:TE)(tl th:TO):TE:=λσ H Q=>te σ H λx H1=>tl σ H1 λl H2=>th σ H2 λu H3=>r x l u H3 Q
theorem A0(hr:OF X r)(he:PE X e te)(hl:PO X lo tl)(hu:PO X hi th):PE X (.Subscript e (.Slice lo hi none p2) pos) (PC r te tl th):=by
 intro pins s σ H Q I h;refine Subscript_ (bx (he pins s σ H _ I h) λv s1 aA=>?_);obtain⟨x,H1,I1,r1,q1⟩:=aA;refine wpAny_Slice (bx (hl pins s1 σ H1 _ I1 q1) λvl s2 ⟨l,H2,I2,pl,q2⟩=>bx (hu pins s2 σ H2 _ I2 q2) λvu s3 aA=>?_);obtain⟨u,H3,I3,pu,q3⟩:=aA;rw[evalPart_none];refine o_ ?_;have I4:Inv X pins σ H3 {s3 with heap:=s3.heap.push {cls:=.type "slice",data:=.fields #[vl,vu,.none]}}:=I3.kept (t':=s3.toks) λb ob q=>d_ _ q;obtain⟨T,id,hT,ht,hg⟩:=hr pins {s3 with heap:=s3.heap.push {cls:=.type "slice",data:=.fields #[vl,vu,.none]}} σ H3 x v vl vu l u s3.heap.objs.size Q I4 r1 (Heap.IsSliceOf.new ..) pl pu q3;show wpAny @2 X.A (subscriptTail e (.Slice lo hi none p2) v (.ref s3.heap.objs.size)) (EP X pins σ Q) X.xe {s3 with heap:=s3.heap.push {cls:=.type "slice",data:=.fields #[vl,vu,.none]}};exact tail_any (ops:=[.ref s3.heap.objs.size,v]) ht hT hg (by with_unfolding_all rfl)
def xP(xs:TQ)(lo hi:Option Int):TQ:=(xs.drop (HT.nX xs.length 0 lo)).take (HT.nX xs.length xs.length hi-HT.nX xs.length 0 lo)
theorem sP(xs:TQ)(lo hi:Option Int):(xP xs lo hi).length<=xs.length:=by
 unfold xP;rw[QY,List.length_drop]
 lia
def IP(K:Tj):R2:=λx y H Q=>∃a b xs ys,x=.ref a/\y=.ref b/\cX K H a xs/\cX K H b ys/\xs≠[]/\xs.length+ys.length<=sizeLine/\
 (ys=[]->Q (.ref a) H)/\(ys≠[]->∀p,H p=none->Q (.ref p) (upd H p (.tup (xs++ys))))
theorem aC.nil_iff(r:aC xs us):us=[]↔xs=[]:=by
 cases r with
 | nil=>simp
 | cons _ _=>simp
theorem Dw:iy X (binaryOp .Add) (IP X.K):=by
 intro pins s σ H x y v u Q I rx ry h;obtain⟨a,b,xs,ys,rfl,rfl,ha,hb,hx,hz,q1,q2⟩:=h;cases rx;cases ry;obtain⟨bo,r1,p1,_⟩:=I.tuple ha;obtain⟨nQ,r2,p2,_⟩:=I.tuple hb;refine HT.Dc p1 p2 (λz=>hx (r1.nil_iff.mp z)) (λz=>⟨.ref a,H,I,rfl,q1 (r2.nil_iff.mp z)⟩) (λz=>?_) (by rw[<- r1.length,<- r2.length];exact hz);refine⟨.ref s.heap.objs.size,_,I.laid (t':=s.toks) (o:=.tup (xs++ys)) (λb ob q=>d_ _ q) (m_ _) ?_,rfl,q2 (λw=>z (r2.nil_iff.mpr w)) _ (I.hok.fresh (m_ _))⟩;exact⟨by rw[E_];exact hz,_,r1.append r2,IsTup.new _ _⟩
end
def xK(n:Nat)(i:Int):Option Nat:=if 0<=i then(if i<n then some i.toNat else none)else if -(n:Int)<=i then some (i+n).toNat else none
def atI(xs:List α)(i:Int):Option α:=(xK xs.length i).bind λj=>xs[j]?
theorem vS(h:xK n i=some j):seqIndex? i n=some j/\j<n/\-(n:Int)<=i/\i<n:=by
 unfold xK at h
 by_cases h0:0<=i
 .rw[g_ h0]at h
  by_cases h1:i<n
  .rw[g_ h1]at h;have e:i.toNat=j:=Option.some.inj h;exact⟨by rw[seqIndex_of h0 h1,e],by lia,by lia,h1⟩
  .rw[j_ h1]at h;cases h
 .rw[j_ h0]at h
  by_cases h1:-(n:Int)<=i
  .rw[g_ h1]at h;have e:(i+n).toNat=j:=Option.some.inj h;exact⟨by rw[seqIndex_neg (by lia) h1,e],by lia,h1,by lia⟩
  .rw[j_ h1]at h;cases h
theorem wD(h:atI xs i=some v):∃j,seqIndex? i xs.length=some j/\xs[j]?=some v/\j<xs.length/\-(xs.length:Int)<=i/\i<xs.length:=by
 unfold atI at h;cases e:xK xs.length i with
 | none=>rw[e]at h;cases h
 | some j=>
  rw[e]at h;obtain⟨h1,h2,h3,h4⟩:=vS e;exact⟨j,h1,h,h2,h3,h4⟩
theorem Be(xs:List α)(v:α):atI (xs++[v]) (-1)=some v:=by
 have hl:(xs++[v]).length=xs.length+1:=by simp
 have e:xK (xs++[v]).length (-1)=some xs.length:=by
  unfold xK;rw[hl,j_ @1,g_ (by lia)];congr 1
  lia
 unfold atI;rw[e];show(xs++[v])[xs.length]?=some v;simp
def wu(b:Tz):Prop:=∀o i,subscripted b false o i=operate [o,i] (getItem o i)
def G7(X:Cx)(r:R2):Prop:=
 ∀(value slice:Tz)(pins:S3)(s:To)(σ:St)(H:Hp)(x y:V)(v u:Tn)(Q:VK),Inv X pins σ H s->RelV x v->RelV y u->r x y H Q->
  subscripted slice false v u=operate [v,u] (getItem v u)->wpAny @2 X.A (subscriptTail value slice v u) (EP X pins σ Q) X.xe s
def Pp(X:Cx)(id:String)(r:V->TQ->Hp->VK->Prop):Prop:=
 ∀(pins:S3)(s:To)(σ:St)(H:Hp)(x:V)(xs:TQ)(v:Tn)(us:S9)(Q:VK),Inv X pins σ H s->RelV x v->aC xs us->r x xs H Q->
  wpAny @2 X.A (call (.builtin id) (v::us)) (EP X pins σ Q) X.xe s
section
variable {X:Cx}{a b:Tz}{ta tb:TE}{pos:Pos}
theorem G7.or(h:G7 X r)(h':G7 X r'):G7 X (λx y H Q=>r x y H Q\/r' x y H Q):=by
 intro value slice pins s σ H x y v u Q I rx ry q hs;rcases q with q | q
 .exact h value slice pins s σ H x y v u Q I rx ry q hs
 .exact h' value slice pins s σ H x y v u Q I rx ry q hs
theorem J3(hr:G7 X r)(ha:PE X a ta)(hb:PE X b tb)(hs:wu b):PE X (.Subscript a b pos) (EM r ta tb):=by
 intro pins s σ H Q I h;exact Subscript_ (HB ha hb I h λv u s2 x y H2 I2 rx ry q=>hr a b pins s2 σ H2 x y v u Q I2 rx ry q (hs _ _))
def Ks(K:Tj):R2:=λx y H Q=>∃p xs i v,x=.ref p/\y=.int i/\cR K H p xs/\atI xs i=some v/\Q v H
def IB(K:Tj):R2:=λx y H Q=>∃p xs i v,x=.ref p/\y=.int i/\cX K H p xs/\atI xs i=some v/\Q v H
theorem CJ:G7 X (Ks X.K):=by
 intro value slice pins s σ H x y v u Q I rx ry h hs;obtain⟨p,xs,i,z,rfl,rfl,hq,he,q⟩:=h;cases rx;obtain⟨t,rfl⟩:=ry;obtain⟨bo,r,pl,hz⟩:=I.list hq;obtain⟨j,h1,h2,h3,h4,h5⟩:=wD he;obtain⟨w,ew,yJ⟩:=r.get h2;have hl:=r.length;have hn:=lU;have fin:EP X pins σ Q w s:=⟨z,H,I,yJ,q⟩
 by_cases h0:0<=i
 .have hj:i.toNat=j:=by
   rw[seqIndex_of h0 h5]at h1;exact Option.some.inj h1
  exact item_listR pl.isList h0 (by lia) (by rw[hj];simpa using ew) fin hs
 .have hj:(i+(bo.toArray.size:Int)).toNat=j:=by
   rw[seqIndex_neg (by lia) h4]at h1;rw[q_,<- hl];exact Option.some.inj h1
  exact subscriptTail_builtinR (x:=w) pl.isList.typeIs Sz.lookup
   (wpAny_getItem_list_neg (Q:=λr s'=>r=w/\EP X pins σ Q r s') pl.isList (by lia) (by rw[q_]<;>lia) (by lia) (by rw[hj];simpa using ew) ⟨rfl,fin⟩) hs
theorem G5:G7 X (IB X.K):=by
 intro value slice pins s σ H x y v u Q I rx ry h hs;obtain⟨p,xs,i,z,rfl,rfl,hq,he,q⟩:=h;cases rx;obtain⟨t,rfl⟩:=ry;obtain⟨bo,r,pl,hz⟩:=I.tuple hq;obtain⟨j,h1,h2,h3,h4,h5⟩:=wD he;obtain⟨w,ew,yJ⟩:=r.get h2;have hl:=r.length;have hn:=lU;have fin:EP X pins σ Q w s:=⟨z,H,I,yJ,q⟩;exact subscriptTail_builtinR (x:=w) pl.typeIs slot_tuple_getitem.lookup
  (getItem_tuple (j:=j) (Q:=λr s'=>r=w/\EP X pins σ Q r s') pl (by lia) (by lia) (by rw[q_,<- hl];exact h1) (by simpa using ew) ⟨rfl,fin⟩) hs
theorem vy(bo:S9)(n j:Nat)(u:Tn):Obj.mapSeq (·.setIfInBounds j u) {cls:=.type "list",data:=.seq bo.toArray n}={cls:=.type "list",data:=.seq (bo.set j u).toArray n}:=by
 simp[Obj.mapSeq]
theorem Inv.lst{pins:S3}{σ:St}{H:Hp}{s:To}{p:Tv}{xs:TQ}(I:Inv X pins σ H s)(h:H p=some (.lst xs)) :
  ∃(bo:S9)(n:Nat),aC xs bo/\s.heap.get? p=some {cls:=.type "list",data:=.seq bo.toArray n}/\xs.length<=sizeLine:=by
 obtain⟨z,bo,n,r,e⟩:=I.hok p _ h;exact⟨bo,n,r,e,z⟩
theorem Inv.lstUpd{pins:S3}{σ:St}{H:Hp}{s:To}{p:Tv}{xs ys:TQ}{bo its':S9}{n n':Nat}{f:Obj->Obj}(I:Inv X pins σ H s)(h:H p=some (.lst xs))
  (ho:s.heap.get? p=some {cls:=.type "list",data:=.seq bo.toArray n}) (hf:f {cls:=.type "list",data:=.seq bo.toArray n}={cls:=.type "list",data:=.seq its'.toArray n'}) (r:aC ys its') (hz:ys.length<=sizeLine) (t:Nat) :
  Inv X pins σ (upd H p (.lst ys)) {s with heap:=s.heap.update p f,toks:=t}:=by
 have e:(s.heap.update p f).get? p=some {cls:=.type "list",data:=.seq its'.toArray n'}:=by
  rw[Qn f ho (by rw[hf]<;>rfl),hf]
 refine I.write (x:=p) (e:=p) (by rw[h];trivial) (.inl rfl) (λb u hb q=>(D_ _ _ (Qo hb)).trans q) ⟨_,e⟩ ?_;exact⟨hz,its',n',r,e⟩
def rSetL:V->V->V->Hp->(Hp->Prop)->Prop:=λo i v H Q=>∃p xs k j,o=.ref p/\i=.int k/\H p=some (.lst xs)/\xK xs.length k=some j/\Q (upd H p (.lst (xs.set j v)))
theorem set_list:Iy X rSetL:=by
 intro pins s σ H o i v ov iv u Q I ro ri rv h;obtain⟨p,xs,k,j,rfl,rfl,hp,hj,q⟩:=h;cases ro;obtain⟨t,rfl⟩:=ri;obtain⟨bo,n,r,ho,hz⟩:=I.lst hp;obtain⟨h1,h2,h3,h4⟩:=vS hj;have hl:=r.length;have hn:=lU;have I':Inv X pins σ (upd H p (.lst (xs.set j v))) {s with heap:=s.heap.update p (Obj.mapSeq (·.setIfInBounds j u))}:=
  I.lstUpd hp ho (vy bo n j u) (r.set rv j) (by rw[SW];exact hz) s.toks
 by_cases h0:0<=k
 .have hk:k.toNat=j:=by
   rw[seqIndex_of h0 h4]at h1;exact Option.some.inj h1
  exact PySem.W.ki_setAt ho h0 (by lia) (by rw[q_,<- hl];exact h4) (by rw[hk];exact⟨_,I',q⟩)
 .have hk:(k+(bo.toArray.size:Int)).toNat=j:=by
   rw[seqIndex_neg (by lia) h3]at h1;rw[q_,<- hl];exact Option.some.inj h1
  exact PySem.W.ki_setBack ho (by lia) (by rw[q_,<- hl];exact h3) (by lia) (by rw[hk];exact⟨_,I',q⟩)
theorem qP(lo hi:Option Int)(n:Nat):(sliceBounds lo hi none n).1=((HT.nX n 0 lo:Nat):Int)/\(sliceBounds lo hi none n).2.1=((HT.nX n n hi:Nat):Int)/\(sliceBounds lo hi none n).2.2=1:=by
 refine⟨?_,?_,rfl⟩
 .cases lo with
  | none=>simp[sliceBounds,HT.nX]
  | some i=>
   simp only[sliceBounds,HT.nX,Option.getD_none,show(1:Int)>0 by decide,SA]
   by_cases h:i<0
   .simp only[h,SA]<;>lia
   .simp only[h,QV]<;>lia
 .cases hi with
  | none=>simp[sliceBounds,HT.nX]
  | some i=>
   simp only[sliceBounds,HT.nX,Option.getD_none,show(1:Int)>0 by decide,SA]
   by_cases h:i<0
   .simp only[h,SA]<;>lia
   .simp only[h,QV]<;>lia
theorem nG(bo:S9)(lo hi:Option Int):slicePick bo.toArray lo hi none=((bo.drop (HT.nX bo.length 0 lo)).take (HT.nX bo.length bo.length hi-HT.nX bo.length 0 lo)).toArray:=by
 obtain⟨h1,h2,h3⟩:=qP lo hi bo.toArray.size;unfold slicePick;rw[h1,h2,h3];simp only[sliceRange_one,pick_run,q_]<;>rfl
def MW(K:Tj):V->Option Int->Option Int->Hp->VK->Prop:=λx lo hi H Q=>∃a xs,x=.ref a/\cR K H a xs/\∀p,H p=none->Q (.ref p) (upd H p (.lst (xP xs lo hi)))
theorem DT:OF X (MW X.K):=by
 intro pins s σ H x v vl vu lo hi sl Q I rx hs pl pu h;obtain⟨a,xs,rfl,hx,q⟩:=h;cases rx;obtain⟨bo,r,ht,hz⟩:=I.list hx;have hlen:=r.length;refine⟨"list",_,Sz.lookup,ht.isList.typeIs,?_⟩;refine wpAny_getItem_list_slice ht.isList hs pl pu .none (by simp) ?_ (by rw[q_]<;>lia);rw[nG,<- hlen];refine⟨.ref s.heap.objs.size,_,I.laid (t':=s.toks) (o:=.lst (xP xs lo hi)) (λb ob q=>d_ _ q) (m_ _) ?_,rfl,q _ (I.hok.fresh (m_ _))⟩;exact⟨w_ (sP xs lo hi) hz,_,0,(r.drop (HT.nX xs.length 0 lo)).take (HT.nX xs.length xs.length hi-HT.nX xs.length 0 lo),s_ _ rfl⟩
theorem qd:dG X (.builtin "len") (λxs H Q=>∃p ys,xs=[.ref p]/\(cR X.K H p ys\/cX X.K H p ys)/\Q (.int ys.length) H):=by
 intro pins s σ H xs us Q I r h;obtain⟨p,ys,rfl,hq,q⟩:=h;obtain⟨u,rfl,rx⟩:=vals1 r;cases rx;have hn:=lU;rcases hq with hq | hq
 .obtain⟨bo,r',pl,hz⟩:=I.list hq;have hlen:=r'.length;exact Calls.call_len_list pl.isList (by simp only[q_]<;>lia) ⟨.int ys.length,H,I.tok _,⟨s.toks+1,by rw[q_,hlen]⟩,q⟩
 .obtain⟨bo,r',pl,hz⟩:=I.tuple hq;have hlen:=r'.length;exact len_tuple pl (by simp only[q_]<;>lia) ⟨.int ys.length,H,I.tok _,⟨s.toks+1,by rw[q_,hlen]⟩,q⟩
theorem qD:dG X (.type "list") (λxs H Q=>∃p ys,xs=[.ref p]/\(cR X.K H p ys\/cX X.K H p ys)/\∀l,H l=none->Q (.ref l) (upd H l (.lst ys))):=by
 intro pins s σ H xs us Q I r h;obtain⟨p,ys,rfl,hq,q⟩:=h;obtain⟨u,rfl,rx⟩:=vals1 r;cases rx;have fin:∀(bo:S9),aC ys bo->ys.length<=sizeLine->∀(h':Tr)(c':Nat),(∀b o',s.heap.get? b=some o'->h'.get? b=some o')->
   h'.get? s.heap.objs.size=some {cls:=.type "list",dict:=none,data:=.seq bo.toArray c',slots:=#[]}->EP X pins σ Q (.ref s.heap.objs.size) {s with heap:=h'}:=λbo r' hz h' c' kp e=>
  ⟨.ref s.heap.objs.size,_,I.laid (t':=s.toks) kp (m_ _) (show bO X.prog X.w _ h' _ (.lst ys)from⟨hz,bo,c',r',e⟩),rfl,q _ (I.hok.fresh (m_ _))⟩
 rcases hq with hq | hq
 .obtain⟨bo,r',pl,hz⟩:=I.list hq;have hlen:=r'.length;obtain⟨o,ho,hc,n,hd⟩:=pl.isList;exact call_list_seq p (.inl rfl) ho hc hd (λh' c' kp e=>fin bo r' hz h' c' kp e) (by simp only[q_]<;>lia)
 .obtain⟨bo,r',pl,hz⟩:=I.tuple hq;have hlen:=r'.length;obtain⟨o,ho,hc,n,hd⟩:=pl;exact call_list_seq p (.inr rfl) ho hc hd (λh' c' kp e=>fin bo r' hz h' c' kp e) (by simp only[q_]<;>lia)
theorem nB:dG X (.type "tuple") (λxs H Q=>∃p ys,xs=[.ref p]/\((cR X.K H p ys/\∀l,H l=none->Q (.ref l) (upd H l (.tup ys)))\/(cX X.K H p ys/\Q (.ref p) H))):=by
 intro pins s σ H xs us Q I r h;obtain⟨p,ys,rfl,h⟩:=h;obtain⟨u,rfl,rx⟩:=vals1 r;cases rx;rcases h with ⟨hq,q⟩ | ⟨hq,q⟩
 .obtain⟨bo,r',pl,hz⟩:=I.list hq;have hlen:=r'.length;refine call_tuple_list pl.isList (λh' kp=>?_) (by simp only[q_]<;>lia);have I1:Inv X pins σ H {s with heap:=h'}:=I.kept (t':=s.toks) kp;have I2:Inv X pins σ (upd H h'.objs.size (.tup ys)) {s with heap:=h'.push {cls:=.type "tuple",data:=.seq bo.toArray}}:=
   I1.laid (t':=s.toks) (λb o e=>d_ _ e) (m_ _) (show bO X.prog X.w _ _ _ (.tup ys)from⟨hz,bo,r',IsTup.new _ _⟩)
  exact⟨.ref h'.objs.size,_,I2,rfl,q _ (I1.hok.fresh (m_ _))⟩
 .obtain⟨bo,r',pl,hz⟩:=I.tuple hq;exact call_tuple_same pl ⟨.ref p,H,I,rfl,q⟩
def OK(K:Tj)(T:String)(x:V)(H:Hp):Prop:=match x with
 | .str _=>T="str"
 | .int _=>T="int"
 | .ref p=>(T="list"/\∃xs,cR K H p xs)\/(T="tuple"/\∃o,K.lookup p=some o/\o.cls=.type "tuple"/\o.dict=none)\/
   (T="dict"/\((∃jJ,H p=some (.dK jJ))\/∃jJ,H p=some (.dT jJ)))\/(T="set"/\∃S n,H p=some (.set S n))
 | _=>False
theorem F9(I:Inv X pins σ H s)(r:RelV x v)(ty:OK X.K T x H) :
  s.TypeIs v T/\∀a,v=.ref a->∃ob,s.heap.get? a=some ob/\ob.dict=none:=by
 cases x with
 | str z=>
  obtain⟨t,rfl⟩:=r;cases(show T="str" from ty);exact⟨typeIs_str s z t,λ_ e=>nomatch e⟩
 | int i=>
  obtain⟨t,rfl⟩:=r;cases(show T="int" from ty);exact⟨typeIs_int s i t,λ_ e=>nomatch e⟩
 | ref p=>
  cases r;rcases ty with ⟨rfl,xs,hq⟩ | ⟨rfl,o,hk,hc,hd⟩ | ⟨rfl,hk⟩ | ⟨rfl,S,n,hk⟩
  .obtain⟨bo,_,pl,_⟩:=I.list hq;refine⟨pl.isList.typeIs,λa e=>?_⟩;cases e;obtain⟨o,n,e,c,hd,_⟩:=pl;exact⟨o,e,hd⟩
  .refine⟨⟨o,I.kIn p o hk,hc⟩,λa e=>?_⟩;cases e;exact⟨o,I.kIn _ o hk,hd⟩
  .have z:∃o,s.heap.get? p=some o/\o.ExactDict:=by
    rcases hk with ⟨jJ,hk⟩ | ⟨jJ,hk⟩
    .obtain⟨_,_,_,_,o,_,_,e,ex,_⟩:=I.hok p _ hk;exact⟨o,e,ex⟩
    .obtain⟨_,_,_,_,o,_,_,e,ex,_⟩:=I.hok p _ hk;exact⟨o,e,ex⟩
   obtain⟨o,e,ex⟩:=z;refine⟨⟨o,e,ex.1⟩,λa e2=>?_⟩;cases e2;exact⟨o,e,ex.2.1⟩
  .obtain⟨o,_,_,_,e,ex,_⟩:=I.hok p _ hk;refine⟨⟨o,e,ex.1⟩,λa e2=>?_⟩;cases e2;exact⟨o,e,ex.2.1⟩
 | _=>exact False.elim ty
def MA(K:Tj)(T:String)(r:V->TQ->Hp->VK->Prop)(to:TE)(t:TA):TE:=λσ H Q=>to σ H λx H1=>OK K T x H1/\t σ H1 λxs H2=>r x xs H2 Q
variable {o e:Tz}{es:Td}{to:TE}{t:TA}{name:Str}{apos bU:Pos}{T id:String}{r:V->TQ->Hp->VK->Prop}
theorem vW(pa:PlainAttrs T)(slot:Slot T name id)(hty:typeOf (.builtin id)=pure (.type "method_descriptor"))(hm:Pp X id r)(ho:PE X o to)(ha:PA X (e::es) t)
  (jH:attributeBase o name X.env (eval o X.env)=eval o X.env:=by rfl)
  (qX:((backTo bU (starEach (e::es) X.env)).all (λx=>!x.1)&&(backToKw bU (keywordEach [] X.env)).all (λx=>x.1.isSome)
   && decide ((e::es).length+([]:List Keyword).length+(if([]:List Keyword).isEmpty then 0 else 1)<30))=true:=by rfl)
  (jI:(apos.endLine==bU.line)=true:=by rfl) (hs:starEach (e::es) X.env=(false,eval e X.env)::starEach es X.env:=by rfl) (hplain:(backTo bU (starEach es X.env)).any (·.1)=false:=by rfl) :
  PE X (.Call (.Attribute o name apos) (e::es) [] bU) (MA X.K T r to t):=by
 intro pins s σ H Q I h;refine wpAny_Call_method_late jH qX jI rfl (bx (ho pins s σ H _ I h) λv s1 aA=>?_);obtain⟨x,H1,I1,r1,ty,q1⟩:=aA;obtain⟨h1,h2⟩:=F9 I1 r1 ty;refine⟨T,id,pa,slot,hty,h1,h2,?_⟩;have hA:=ha bU pins s1 σ H1 _ I1 q1;rw[hs]at hA ⊢;refine Calls.callWith_builtin (by show(false||(backTo bU (starEach es X.env)).any (·.1))=false;rw[hplain]<;>rfl) (Calls.evalArgs_plain ?_);exact bx hA λus s2 ⟨vs,H2,I2,r2,q2⟩=>hm pins s2 σ H2 x vs v us Q I2 r1 r2 q2
end
def Mh(X:Cx)(id:String)(r:V->TQ->Hp->VK->Prop):Prop:=
 ∀(pins:S3)(s:To)(σ:St)(H:Hp)(x:V)(xs:TQ)(v:Tn)(us:S9)(Q:VK),Inv X pins σ H s->RelV x v->aC xs us->r x xs H Q->
  wpAny @2 X.A (call (.builtin id) (v::us)) (EP X pins σ Q) X.xe s
theorem aC.one:∀{x:V}{us:S9},aC [x] us->∃u,us=[u]/\RelV x u
 | _,_,.cons r .nil=>⟨_,rfl,r⟩
theorem aC.two:∀{x y:V}{us:S9},aC [x,y] us->∃u v,us=[u,v]/\RelV x u/\RelV y v
 | _,_,_,.cons r (.cons q .nil)=>⟨_,_,rfl,r,q⟩
section
variable {X:Cx}{pins:S3}{σ:St}{H:Hp}{s:To}{l b:Tv}{xs ys zs:TQ}
theorem Inv.lset{bo its':S9}{n:Nat}{f:Array Tn->Array Tn}{t':Nat}(I:Inv X pins σ H s)(hH:H l=some (.lst xs))
  (e:s.heap.get? l=some {cls:=.type "list",data:=.seq bo.toArray n}) (hf:f bo.toArray=its'.toArray) (hv:aC ys its') (hz:ys.length<=sizeLine) :
  Inv X pins σ (upd H l (.lst ys)) {s with heap:=s.heap.update l (Obj.mapSeq f),toks:=t'}:=by
 have q:=PySem.IsL.update e f;rw[hf]at q;refine I.write (x:=l) (e:=l) (by rw[hH];exact trivial) (.inl rfl) (λb' u hb hu=>(D_ s.heap (Obj.mapSeq f) (Qo hb)).trans hu) ⟨_,q⟩ ?_;exact⟨hz,its',_,hv,q⟩
theorem Inv.lnew(I:Inv X pins σ H s)(hv:aC ys bo)(hz:ys.length<=sizeLine) :
  Inv X pins σ (upd H s.heap.objs.size (.lst ys)) {s with heap:=s.heap.push {cls:=.type "list",data:=.seq bo.toArray},toks:=t'}:=
 I.laid (λ_ _ q=>d_ _ q) (m_ _) ⟨hz,bo,0,hv,s_ _ rfl⟩
theorem Inv.fresh(I:Inv X pins σ H s):H s.heap.objs.size=none:=I.hok.fresh (m_ _)
theorem Inv.lstM(I:Inv X pins σ H s)(hH:H l=some (.lst xs)):xs.length<=sizeLine/\∃(bo:S9)(n:Nat),aC xs bo/\xs.length=bo.length/\s.heap.get? l=some {cls:=.type "list",data:=.seq bo.toArray n}:=by
 obtain⟨z,bo,n,r,e⟩:=I.hok l _ hH;exact⟨z,bo,n,r,r.length,e⟩
theorem rL(h:n<=sizeLine):Builtin.List.listTooLong n=false:=by
 unfold Builtin.List.listTooLong;exact B_ (by lia)
end
section
variable {X:Cx}
def rAppend:V->TQ->Hp->VK->Prop:=λx vs H Q=>∃l xs y,x=.ref l/\vs=[y]/\H l=some (.lst xs)/\xs.length<sizeLine/\Q .non (upd H l (.lst (xs++[y])))
theorem kf:Mh X "list.append" rAppend:=by
 intro pins s σ H x vs v us Q I rx rv h;obtain⟨l,xs,y,rfl,rfl,hH,hz,q⟩:=h;cases rx;obtain⟨u,rfl,ru⟩:=rv.one;obtain⟨z,bo,n,r,hl,e⟩:=I.lstM hH;refine call_meets F.slot_list_append ⟨_,e,rfl⟩ F.entry_list_append (F.args_list_append_2 _ _) (PySem.list_append l bo.toArray n u (by rw[q_];lia)) ⟨e,?_⟩;refine⟨.non,_,I.lset (its':=bo++[u]) hH e (by simp) (r.append (.cons ru .nil)) ?_,rfl,q⟩;rw[E_,List.length_singleton]
 lia
def rExtend:V->TQ->Hp->VK->Prop:=λx vs H Q=>∃l b xs zs,x=.ref l/\vs=[.ref b]/\H l=some (.lst xs)/\H b=some (.lst zs)/\xs.length+zs.length<=sizeLine/\Q .non (upd H l (.lst (xs++zs)))
theorem yb:Mh X "list.extend" rExtend:=by
 intro pins s σ H x vs v us Q I rx rv h;obtain⟨l,b,xs,zs,rfl,rfl,hH,hB,hz,q⟩:=h;cases rx;obtain⟨u,rfl,ru⟩:=rv.one;cases ru;obtain⟨z,bo,n,r,hl,e⟩:=I.lstM hH;obtain⟨z2,nQ,n2,r2,LS,e2⟩:=I.lstM hB;have hsz:bo.toArray.size+nQ.toArray.size<=sizeLine:=by rw[q_,q_];lia
 have By:¬(!bo.toArray.isEmpty&&Builtin.List.listTooLong (bo.toArray.size+nQ.toArray.size))=true:=by
  rw[rL hsz,Ru];exact QA
 refine call_meets F.slot_list_extend ⟨_,e,rfl⟩ F.entry_list_extend (F.args_list_extend_2 _ _)
  (AutoSeq1.list_extend_list_list_0 l bo.toArray n b nQ.toArray n2 By (by rw[q_];lia) (by lia)) ⟨e,e2,?_⟩
 refine⟨.non,_,I.lset (its':=bo++nQ) hH e (by simp) (r.append r2) ?_,rfl,q⟩;rw[E_]
 lia
def rCat:R2:=λx y H Q=>∃l b xs zs,x=.ref l/\y=.ref b/\H l=some (.lst xs)/\H b=some (.lst zs)/\xs.length+zs.length<=sizeLine/\∀p,H p=none->Q (.ref p) (upd H p (.lst (xs++zs)))
theorem GX:iy X (binaryOp .Add) rCat:=by
 intro pins s σ H x y v u Q I rx ry h;obtain⟨l,b,xs,zs,rfl,rfl,hH,hB,hz,q⟩:=h;cases rx;cases ry;obtain⟨z,bo,n,r,hl,e⟩:=I.lstM hH;obtain⟨z2,nQ,n2,r2,LS,e2⟩:=I.lstM hB;refine PySem.P.add_list e e2 ?_ (by rw[q_,q_];lia);have ea:bo.toArray++nQ.toArray=(bo++nQ).toArray:=by simp
 rw[ea];exact⟨.ref _,_,I.lnew (t':=s.toks) (r.append r2) (by rw[E_];lia),rfl,q _ I.fresh⟩
end
section
variable {prog:Tp}{w:Ts}{A:Tq}{E:S2}{s:To}
end
section
variable {X:Cx}
end
end L2
namespace Att
open PySem PySem.W PySem.Calls PyProof.Rows
theorem kU:∀(ns:Tg)(vs:S9),WellAll P h vs (ns.map WData.int)->IntsAre vs ns:=by
 intro ns
 induction ns with
 | nil=>
  intro vs w;rw[List.map_nil]at w;cases w;exact .nil
 | cons n ns ih=>
  intro vs w;rw[N_]at w;cases w with
  | cons a b=>
   cases a;exact .cons _ _ (ih _ b)
theorem xU{l:OpenLaw}{n:Nat}(hn:l.most=some n){P:Params}{h:Tr}{args:List WData}{vals:S9}
  (nR:l.row.toRowW.claim.pre args=true) (Nh:WellAll P h vals args) :
  ∃a vs ns,vals=[Value.ref a]/\args=[WData.list (ns.map WData.int)]/\h.get? a=some {cls:=.type "list",data:=.seq vs.toArray}/\IntsAre vs ns/\ns.length<=n:=by
 have hsh:WShape.hasAll [] args [.list .int]=true:=(pre_splitW nR).1;have hc:l.pre.holds [] {args:=args}=true:=(pre_splitW nR).2;obtain⟨d,r,rfl,h1,h2⟩:=hasAllW_cons hsh;obtain rfl:=hasAllW_nil h2;obtain⟨xs,rfl,h3⟩:=hasW_list h1;obtain⟨ns,rfl⟩:=items_int h3;have hlen:ns.length<=n:=by
  unfold OpenLaw.pre at hc;have h4:(WTm.not (.lt (.lit (.int (n:Int))) (.len (.arg 0)))).holds [] {args:=[.list (ns.map .int)]}=true:=by
   have h4:=(holds_andW hc).1;rw[hn]at h4;exact h4
  have h5:=condW_of h4 (w_not (w_lt w_lit (w_len_list (w_arg rfl))));rw[c_]at h5;refine Qc λq=>?_;have q':(n:Int)<((ns.length:Nat):Int):=by lia
  first
   | (rw[t_ q']at h5;exact absurd h5 @1)
   | (simp at h5;lia)
 cases Nh with
 | cons w1 w2=>
  cases w2;cases w1 with
  | list ho qY=>exact⟨_,_,ns,rfl,rfl,ho,kU ns _ qY,hlen⟩
theorem xO(l:OpenLaw)(args:List WData):l.row.toRowW.claim.post args (.bool true) args=true:=
 postW_of (r:=l.row.toRowW) (X:=(true==true))
  (show WShape.has [] (.bool true) .bool=true by first | rfl | decide | simp[WShape.has,WShape.arms,WShape.armsAll])
  (show(WTm.eq .res (.lit (.bool true))).value [] {args:=args,res:=some (.bool true),after:=args}=some (.bool (true==true))from w_eq_bool (w_res rfl) w_lit) rfl
theorem sX{l:OpenLaw}{n:Nat}{q:Tp}{loose:Tb}{XP:S5->Tr->Prop}{YP:Ts->Tr->Prop}{d:DefRec}
  (hn:l.most=some n) (KN:d.params.defaults=[])
  (call:∀(w:Ts)(s₀ s₁:To)(mg mb:S5)(fa:Tv)(o:Obj)(pm cd doc:Tn)(a:Tv)(vs:S9)(ns:Tg),
   Ground q loose [] XP w s₀ mg mb s₁.heap->YP w s₁.heap->
   s₁.heap.get? fa=some o->o.data=.func (docDef d.name d.params d.body d.scope pm cd doc)->s₁.heap.CodeRec cd d.name->mg d.name=some (.ref fa)->
   s₁.heap.get? a=some {cls:=.type "list",data:=.seq vs.toArray}->IntsAre vs ns->ns.length<=n->s₁.gens=#[]->
   codeAny (model l.prog w) callerA (.call (.ref fa) ⟨[.ref a],[]⟩) (λr s'=>r=.ok (.ret (.bool true))/\OldK s₁.heap s'.heap/\s'.os=s₁.os/\AllBare s'.gens) s₁) :
  WalkO q loose XP YP l.row.toRowW d [] (λf vs=>PySem.call f vs):=by
 intro w s₀ s₁ mg mb G Y fa o pm cd doc dV kV ho hd eC hD hmg hg args vals as nR hlay hrd Nh Ni;obtain rfl:dV=.none:=Dflts.none hD KN;obtain rfl:kV=.none:=Dflts.noKw hD;obtain⟨a,vs,ns,rfl,rfl,HP,hints,hlen⟩:=xU hn nR Nh;refine enter_call (Rz (call w s₀ s₁ mg mb fa o pm cd doc a vs ns G Y ho (fd_plain hd) eC hmg HP hints hlen hg) λr s' hq=>?_);obtain⟨rfl,h2,h3,h4⟩:=hq;exact⟨.inl ⟨.bool true,.bool true,[],rfl,λ_=>rfl,.bool true,xO l _,λ_=>⟨List.Pairwise.nil,λ_ hm=>(nomatch hm)⟩⟩,h2,h3,h4⟩
section
variable {prog:Tp}{w:Ts}{A:Tq}{E:S2}{s:To}{K:Frag}
end
end Att
namespace L2
open PySem PySem.Spec PyProof.Rows
theorem fE:∀{vs:S9}{ns:Tg},IntsAre vs ns->aC (ns.map V.int) vs
 | _,_,.nil=>.nil
 | _,_,.cons n t h=>.cons ⟨t,rfl⟩ (fE h)
def Hb(H:Hp):Prop:=∀b,H b=none\/∃o xs,H b=some (.frz o (.lst xs))
theorem Av{P:Tp}{w:Ts}{K:Tj}{mg mb:S5}{CX:CXT}{k:Nat}{fa a:Tv}{fd:Tt}{x:Str}{sp:Sp}{s₁:To}{vs:S9}{ns:Tg}
  (KX:K.In s₁.heap) (FD:s₁.heap.Ns mainGlobals mg) (hb:s₁.heap.Ns builtinsNs mb) (Nj:∀x:Str,x≠"__name__"->mb x=bootBuiltins x) (hlim:s₁.heap.NoLimit) (hg:s₁.gens=#[])
  (ha:s₁.heap.get? a=some {cls:=.type "list",data:=.seq vs.toArray}) (hi:IntsAre vs ns) (hl:ns.length<=sizeLine) (hr:bG k callerA)
  (F:∀base:Tr,K.In base->base.Ns mainGlobals mg->dM P w K mg base CX k fa fd [x] sp) (hbind:∀(s:To)(u:Tn),BindsTo s fd ⟨[u],[]⟩ [(x,u)])
  (lE:∀H:Hp,Hb H->cR K H a (ns.map V.int)->sp [.ref a] H (λv _=>v=.bl true) λ_ _ _=>False)
  (hCX:∀H e s',CX [] H s₁ (λ_ _ _=>False) e s'->False) :
  codeAny (model P w) callerA (.call (.ref fa) ⟨[.ref a],[]⟩) (λr s'=>r=.ok (.ret (.bool true))/\OldK s₁.heap s'.heap/\s'.os=s₁.os/\AllBare s'.gens) s₁:=by
 have rv:=fE hi;have lenV:=hi.length;have core:∀H:Hp,Hb H->cR K H a (ns.map V.int)->kY P w H s₁.heap->(∀b,H b≠none->b=a)->(H a≠none->K.lookup a=none)->
   codeAny (model P w) callerA (.call (.ref fa) ⟨[.ref a],[]⟩) (λr s'=>r=.ok (.ret (.bool true))/\OldK s₁.heap s'.heap/\s'.os=s₁.os/\AllBare s'.gens) s₁:=by
  intro H hO hS hok hA hK;have w8:∀{b:Tv}{o:Obj},s₁.heap.get? b=some o->H b=none->(p' s₁.heap H).get? b=some o:=λe n=>y8 e n;have KM:∀{b:Tv}{o:Obj}{es:Array DictEntry}{ep:Nat},s₁.heap.get? b=some o->o.data=.dict es ep->H b=none:=λ{b o es ep} e d=>by
   cases q:H b with
   | none=>rfl
   | some u=>
    have e':b=a:=hA b (by rw[q];simp);subst e';rw[ha]at e;cases e;have d':Data.seq vs.toArray _=Data.dict es ep:=d;cases d'
  have LU:∀{b:Tv}{m:S5},s₁.heap.Ns b m->(p' s₁.heap H).Ns b m:=λ{b m} ⟨o,es,ep,e,d,r⟩=>⟨o,es,ep,w8 e (KM e d),d,r⟩;have OP:K.In (p' s₁.heap H):=λb o e=>w8 (KX b o e) (by
   cases q:H b with
   | none=>rfl
   | some u=>
    have e':b=a:=hA b (by rw[q];simp);subst e';rw[hK (by rw[q];simp)]at e;cases e)
  have hM:Mod K mg (p' s₁.heap H):=⟨OP,LU FD,⟨mb,LU hb,Nj⟩,let ⟨mc,h1,h2⟩:=hlim;⟨mc,LU h1,h2⟩⟩;have e0:tU P w K mg (p' s₁.heap H) callerA [] s₁ H:=⟨rfl,hM,λb o e=>BZ e,Nat.le_of_eq (yd _ _),trivial,λb hb=>absurd (show b∈([]:Tc)from hb) (by simp),hok,.of_eq hg⟩;refine Rz ((F _ OP (LU FD)).run callerA [] s₁ H ⟨[.ref a],[]⟩ [.ref a] [.ref a] _ _ hr e0 (hbind s₁ (.ref a)) (.cons rfl .nil) (lE H hO hS)) λr s' h=>?_;cases r with
  | error e=>exact(hCX H e s' h).elim
  | ok fl=>
   cases fl with
   | next=>exact False.elim h
   | brk=>exact False.elim h
   | cont=>exact False.elim h
   | ret u=>
    obtain⟨v,H',os,bare,un,hok',r',q⟩:=h;have q':v=.bl true:=q;subst q';obtain rfl:u=Value.bool true:=r';refine⟨rfl,OldK.of_keep λb o e=>?_,os,bare⟩;cases q:H b with
    | none=>exact un.keep b o e q (by intro z;exact absurd (show b∈([]:Tc)from z) (by simp)) (by simp)
    | some u=>
     rcases hO b with z | ⟨ob,xs,z⟩
     .rw[q]at z;cases z
     .have z2:=un.frzs b ob _ z;obtain⟨e1,_⟩:=hok b _ z;obtain⟨e2,_⟩:=hok' b _ z2;rw[e]at e1;cases e1;exact e2
 cases hk:K.lookup a with
 | some o=>
  have e:=KX a o hk;rw[ha]at e;cases e;refine core (λ_=>none) (λ_=>.inl rfl) (.inr ⟨_,vs.toArray,_,hk,rfl,rfl,rfl,by rw[q_,lenV];exact hl,by simpa using rv⟩) (λb u z=>by have z':(none:Option HO)=some u:=z;cases z') (λb z=>absurd rfl z) λz=>absurd rfl z
 | none=>
  refine core (λb=>if b=a then some (.frz {cls:=.type "list",data:=.seq vs.toArray} (.lst (ns.map V.int)))else none) (λb=>?_) (.inl (.inr ⟨{cls:=.type "list",data:=.seq vs.toArray},g_ rfl⟩)) (λb u z=>?_) (λb z=>?_) λ_=>hk
  .by_cases hb:b=a
   .exact .inr ⟨_,_,g_ hb⟩
   .exact .inl (j_ hb)
  .by_cases hb:b=a
   .have z':=(g_ hb).symm.trans z;cases z';subst hb;exact⟨ha,by rw[c_];exact hl,vs,_,rv,ha⟩
   .have z':=(j_ hb).symm.trans z;cases z'
  .by_cases hb:b=a
   .exact hb
   .exact absurd (j_ hb) z
theorem Eb{l:PySem.W.OpenLaw}{n k:Nat}{q:Tp}{loose:Tb}{XP:S5->Tr->Prop}{YP:Ts->Tr->Prop}{d:DefRec}{K:Params->Tj}{CX:Ts->CXT}{sp:Ts->Sp}{x:Str}
  (hn:l.most=some n) (hn2:n<=sizeLine) (KN:d.params.defaults=[]) (hr:bG k callerA)
  (hY:∀(w:Ts)(h:Tr),YP w h->(K w.params).In h)
  (F:∀(w:Ts)(mg:S5)(fa:Tv)(h:Tr),(K w.params).In h->h.Ns mainGlobals mg->mg d.name=some (.ref fa)->
   ∃fd:Tt,(∀(s:To)(u:Tn),BindsTo s fd ⟨[u],[]⟩ [(x,u)])/\
    ∀base:Tr,(K w.params).In base->base.Ns mainGlobals mg->dM l.prog w (K w.params) mg base (CX w) k fa fd [x] (sp w))
  (lE:∀(w:Ts)(H:Hp)(a:Tv)(ns:Tg),ns.length<=n->Hb H->cR (K w.params) H a (ns.map V.int)->sp w [.ref a] H (λv _=>v=.bl true) λ_ _ _=>False)
  (hCX:∀(w:Ts)(H:Hp)(s:To)(e:Tn)(s':To),CX w [] H s (λ_ _ _=>False) e s'->False) :
  PySem.W.WalkO q loose XP YP l.row.toRowW d [] (λf vs=>PySem.call f vs):=by
 refine Att.sX hn KN λw s₀ s₁ mg mb fa o pm cd doc a vs ns G Y ho hd eC hmg HP hints hlen hg=>?_;have KX:=hY w _ Y;obtain⟨fd,hb,hF⟩:=F w mg fa _ KX G.T.g hmg;exact Av KX G.T.g G.T.b G.T.builtins G.T.nolimit hg HP hints (w_ hlen hn2) hr hF hb (λH hO hS=>lE w H a ns hlen hO hS) λH e s'=>hCX w H s₁ e s'
def cj(s:TC):Arguments:=match s with
 | .FunctionDef _ a _ _ _ _ _ _ _ _=>a
 | _=>{posonlyargs:=[],args:=[],vararg:=none,kwonlyargs:=[],kw_defaults:=[],kwarg:=none,defaults:=[]}
def bp(s:TC):Te:=match s with
 | .FunctionDef _ _ b _ _ _ _ _ _ _=>b
 | _=>[]
def az(s:TC):Tu:=match s with
 | .FunctionDef _ _ _ _ _ _ sc _ _ _=>sc
 | _=>{kind:=.function,names:=[],isGenerator:=false,isCoroutine:=false}
abbrev kO:CXT:=λ_ _ _ _ _ _=>False
abbrev E0:XK:=λ_ _ _=>False
theorem IF:u4 kO X E0:=λ_ _ _ _ _ _ _ h=>h.elim
structure yK(K:PySem.W.Frag)(x qual:Str)(st:Stmt)(f:Addr)(fd:FuncData):Prop where
 ex:∃(oc:Value)(od:Option Addr)(kV doc pm:Value)(an:Option Addr)(bK ct:Value)(rm:Array (Option Value)),
  fd=PySem.W.fnOf x qual (cj st) (bp st) (az st) .none kV doc pm an bK ct/\K.lookup f=some ⟨oc,od,.func fd,rm⟩/\PySem.W.codeIn K bK qual=true
 kp:PySem.W.keepIn K (.ref f)=true
section
variable {P:Tp}{w:Ts}{K:Tj}{mg:S5}{base:Tr}
theorem yK.ok{x qual:Str}{st:TC}{f:Tv}{fd:Tt}{N ps:Tb}{k:Nat}{sp:Sp}(F:yK K x qual st f fd)(S:bW N ps (az st))(len:∀vs H Q E,sp vs H Q E->vs.length=ps.length)
  (hbody:∀(bK:Tn)(A:Tq)(outer:List Env)(s:To)(H:Hp)(vs:TQ)(Q:VK)(E:XK),bG k (A.deeper (envOfC qual (az st) s.heap.objs.size f bK))->sp vs H Q E->
   ∃t,PSs (ft kO P w K mg base N qual (az st) f bK A outer s H E).nox (bp st) t/\t {nx:=λ_ H'=>Q .non H',rt:=Q} (start N vs) H):dM P w K mg base kO (k+1) f fd ps sp:=by
 obtain⟨oc,od,kV,doc,pm,an,bK,ct,rm,rfl,lk,eC⟩:=F.ex;refine zl lk eC S len λA outer s H vs Q E hr lE=>?_;obtain⟨t,h,q⟩:=hbody bK A outer s H vs Q E hr lE;exact⟨t,h.nox,q⟩
theorem yK.binds{x qual:Str}{st:TC}{f:Tv}{fd:Tt}{ps:Tb}(F:yK K x qual st f fd)
  (h:∀(kV doc pm:Tn)(an:Ta)(bK ct:Tn)(us:S9),us.length=ps.length->bindArgs (PySem.W.fnOf x qual (cj st) (bp st) (az st) .none kV doc pm an bK ct) ⟨us,[]⟩=pure (ps.zip us)):Binds K fd ps []:=by
 obtain⟨oc,od,kV,doc,pm,an,bK,ct,rm,rfl,lk,eC⟩:=F.ex;exact .all (h kV doc pm an bK ct)
theorem AC{x qual:Str}{st:TC}{f:Tv}{oc:Tn}{od an:Ta}{rm:S4}{kV doc pm bK ct:Tn}(l:K.lookup f=some ⟨oc,od,.func (PySem.W.fnOf x qual (cj st) (bp st) (az st) .none kV doc pm an bK ct),rm⟩)
  (c:PySem.W.codeIn K bK qual=true) (k:PySem.W.keepIn K (.ref f)=true):yK K x qual st f (PySem.W.fnOf x qual (cj st) (bp st) (az st) .none kV doc pm an bK ct):=⟨⟨oc,od,kV,doc,pm,an,bK,ct,rm,rfl,l,c⟩,k⟩
end
theorem wa(hr:bG k A):A.units+1<cLine:=Sn (Nat.add_le_add_left (by decide:1<=64) _) hr.units
theorem oO(h:n<=1000):n<sizeLine:=Sn h @1
section
variable {X:Cx}
end
theorem qF{A B:Prop}(h:B):if false=true then A else B:=by
 rw[j_ QA];exact h
theorem pH{A B:Prop}(h:A):if true=true then A else B:=by
 rw[g_ rfl];exact h
def aE(H H':Hp):Prop:=∀b o,H b=some o->H' b=some o
theorem aE.refl(H:Hp):aE H H:=λ_ _ h=>h
theorem aE.trans(a:aE H H1)(b:aE H1 H2):aE H H2:=λc o h=>b c o (a c o h)
theorem aE.free(e:aE H H')(h:H' l=Option.none):H l=Option.none:=by
 cases q:H l with
 | none=>rfl
 | some o=>
  rw[e l o q]at h;cases h
theorem aE.seq{K:Tj}{H H':Hp}{a:Tv}{xs:TQ}(e:aE H H')(h:cR K H a xs):cR K H' a xs:=by
 rcases h with (h | ⟨o,h⟩) | h
 .exact .inl (.inl (e _ _ h))
 .exact .inl (.inr ⟨o,e _ _ h⟩)
 .exact .inr h
section
variable {κ:Type}[DecidableEq κ]
end
theorem Kh{P:Tp}{w:Ts}{k:Key}{u:Tn}(r:RelV (kV k) u):(cm P w).is k u=true:=by
 cases k with
 | inl i=>obtain⟨t,e⟩:=(show ∃t,u=Value.int i t from r);subst e;exact sF P w i t
 | inr x=>obtain⟨t,e⟩:=(show ∃t,u=Value.str x t from r);subst e;exact so P w x t
theorem oQ{P:Tp}{w:Ts}:∀{ks:TH}{us:S9},aC (ks.map kV) us->ItemsAre (cm P w) ks us
 | [],_,r=>by rw[List.map_nil]at r;cases r;exact .nil
 | k::ks,_,r=>by
  rw[N_]at r;cases r with
  | cons h t=>exact .cons (Kh h) (oQ t)
section
variable {P:Tp}{w:Ts}{H:Hp}{h:Tr}{a:Tv}
end
section
variable {X:Cx}{pins:S3}{σ:St}{H:Hp}{s:To}{a:Tv}{y v:V}{u r:Tn}{o:Option V}{A:Tq}{E:S2}
theorem Inv.big(I:Inv X pins σ H s):sysModules<s.heap.objs.size:=by
 have h:mainGlobals<s.heap.objs.size:=(I.mod.glob.keeps I.bk).lt;exact Nat.lt_trans @1 h
end
section
variable {X:Cx}{pins:S3}{σ:St}{H:Hp}{s:To}{a:Tv}{jJ:List (Key×V)}{k:Key}{u:Tn}{A:Tq}{E:S2}
end
def Gz(i:Tz):Prop:=∀ov iv,subscripted i false ov iv=operate [ov,iv] (getItem ov iv)
theorem DH{prog:Tp}{w:Ts}{A:Tq}{E:S2}{s:To}{env:Env}{value slice:Tz}{pos:Pos}{T id:String}{Q:S2}
  (hl:typeLookup (.type T) "__getitem__"=pure (some (.builtin id))) (hs:Gz slice)
  (h:wpAny (model prog w) A (eval value env) (λo s₁=>wpAny (model prog w) A (eval slice env) (λi s₂=>s₂.TypeIs o T/\wpAny (model prog w) A (getItem o i) Q E s₂) E s₁) E s) :
  wpAny (model prog w) A (eval (.Subscript value slice pos) env) Q E s:=by
 refine Subscript_ (P4 h (λo s₁ h₁=>P4 h₁ (λi s₂ h₂=>?_) λ_ _ x=>x) λ_ _ x=>x);obtain⟨hT,h₂⟩:=h₂;unfold subscriptTail;refine b_ ?_;rw[getitemInPython_of_ne hT.not_modules];refine b_ (RL hT hl ?_);have fin:wpAny (model prog w) A (subscripted slice false o i) (λr s₃=>wpAny (model prog w) A (letTemporaryGo value o r >>= λ_=>pure r) Q E s₃) E s₂:=by
  rw[hs o i];exact wpAny_operating (P4 h₂ (λr s₃ h₃=>b_ (wpAny_letTemporaryGo (o_ h₃))) λ_ _ x=>x)
 first
  | exact o_ (b_ fin)
  | exact b_ (o_ (b_ fin))
  | exact b_ fin
section
variable {X:Cx}{o i e value:Tz}{pos pos' tpos:Pos}{td ty tv:TE}
end
section
variable {X:Cx}{pos:Pos}
end
structure M1(X:Cx)(o:Expr)(m:Str)(apos:Pos)(e:Expr)(bU:Pos):Prop where
 base:attributeBase o m X.env (eval o X.env)=eval o X.env
 few:((backTo bU (starEach [e] X.env)).all (λx=>!x.1)&&(backToKw bU (keywordEach [] X.env)).all (λx=>x.1.isSome)
  && decide (([e]:List Expr).length+([]:List Keyword).length+(if([]:List Keyword).isEmpty then 0 else 1)<30))=true
 line:(apos.endLine==bU.line)=true
 trees:backTo bU (starEach [e] X.env)=[(false,eval e X.env)]
structure M2(X:Cx)(o:Expr)(m:Str)(apos:Pos)(e f:Expr)(bU:Pos):Prop where
 base:attributeBase o m X.env (eval o X.env)=eval o X.env
 few:((backTo bU (starEach [e,f] X.env)).all (λx=>!x.1)&&(backToKw bU (keywordEach [] X.env)).all (λx=>x.1.isSome)
  && decide (([e,f]:List Expr).length+([]:List Keyword).length+(if([]:List Keyword).isEmpty then 0 else 1)<30))=true
 line:(apos.endLine==bU.line)=true
 trees:backTo bU (starEach [e,f] X.env)=[(false,eval e X.env),(false,eval f X.env)]
section
variable {X:Cx}{pins:S3}{σ:St}{H:Hp}{s:To}{a:Tv}{y d:V}{u r:Tn}{o:Option V}{A:Tq}{E:S2}
end
section
variable {X:Cx}{o e f:Tz}{apos bU:Pos}{td ty tx:TE}
end
section
variable {X:Cx}{pins:S3}{σ:St}{H:Hp}{s:To}{a:Tv}{jJ:List (Key×V)}{A:Tq}{E:S2}
end
section
variable {X:Cx}{pins:S3}{σ:St}{H:Hp}{s:To}{a:Tv}{y:V}{u:Tn}{A:Tq}{E:S2}
end
end L2
namespace St
open PySem L2
section
variable {prog:Tp}{w:Ts}{A:Tq}{E:S2}{s:To}{R:Result->To->Prop}
end
section
variable {prog:Tp}{w:Ts}{A:Tq}{E:S2}{s:To}{R:Result->To->Prop}
section
variable {K:Type}[DecidableEq K]{knd:HeapKind prog w K}
end
end
end St
namespace Mi
open PySem PySem.Spec PyProof.Rows L2
inductive D where
 | non | bl (b:Bool) | int (i:Int) | str (x:Str) | tup (ds:List D) | lst (ds:List D) | dct (ks:List (Int×Int))
  | st (ps:List (Int×Int)) | ln (n:Nat)
  | mp (th:Str->Int) (ks:List (List Key)) (ds:List D)
 deriving Inhabited
abbrev TN:=Option D
abbrev TM:=List D
abbrev TK:=Option TM
def kk(p:Ti):TH:=[.inl p.1,.inl p.2]
abbrev Fg:=Tj
def MD(x:Ti×Tv):Int×Tn:=(reduceHash (Builtin.Tuple.tupleHashOf [hashInt x.1.1,hashInt x.1.2]),.ref x.2)
def Gs(a:Tv)(ps:S7)(bs:Tc)(h:Tr):Prop:=
 ∃o es ep t,h.get? a=some o/\o.ExactSet/\o.data=.set es ep t/\es.toList.Perm ((ps.zip bs).map MD)/\St.Ok t (es.toList.map (·.1))/\t.mask∈St.Fy/\t.place.size*5<t.mask*3/\ps.Nodup
def Mj(x:Ti×Tv):DictEntry:=⟨reduceHash (Builtin.Tuple.tupleHashOf [hashInt x.1.1,hashInt x.1.2]),.ref x.2,.bool true⟩
def FZ(a:Tv)(ps:S7)(bs:Tc)(h:Tr):Prop:=
 ∃o es ep,h.get? a=some o/\o.ExactDict/\o.data=.dict es ep/\es.toList=(ps.zip bs).map Mj/\ps.Nodup/\(a==sysModules)=false/\ps.length<=16000000
def Ad(K:Fg)(H:Hp)(ps:S7)(bs:Tc):Prop:=bs.length=ps.length/\∀(i:Nat) p b,ps[i]?=some p->bs[i]?=some b->cX K H b [.int p.1,.int p.2]
def ym(K:Fg)(Z H:Hp)(a:Tv)(ks:S7):Prop:=∃bs,H a=some (.ext (FZ a ks bs))/\Ad K Z ks bs
def IG(a:Tv)(n:Nat)(h:Tr):Prop:=∃o es ep,h.get? a=some o/\o.ExactDict/\o.data=.dict es ep/\es.size=n/\(a==sysModules)=false
def hK(th:Str->Int):Key->Int
 | .inl k=>hashInt k
 | .inr x=>th x
def Hn(th:Str->Int)(x:TH×Tv×Tn):DictEntry:=⟨reduceHash (Builtin.Tuple.tupleHashOf (x.1.map (hK th))),.ref x.2.1,x.2.2⟩
def iz(ks:TF)(bs:Tc)(us:S9):List (TH×Tv×Tn):=ks.zip (bs.zip us)
def cI(th:Str->Int)(a:Tv)(ks:TF)(bs:Tc)(vs:TQ)(h:Tr):Prop:=
 ∃o es ep us,h.get? a=some o/\o.ExactDict/\o.data=.dict es ep/\aC vs us/\es.toList=(iz ks bs us).map (Hn th)/\ks.Nodup/\(a==sysModules)=false/\ks.length<=16000000/\bs.length=ks.length/\us.length=ks.length
def gG(K:Fg)(H:Hp)(ks:TF)(bs:Tc):Prop:=∀(i:Nat) k b,ks[i]?=some k->bs[i]?=some b->cX K H b (k.map kV)
mutual
def Rep(K:Fg)(H:Hp):D->V->Prop
 | .non,v=>v=.non
 | .bl b,v=>v=.bl b
 | .int i,v=>v=.int i
 | .str x,v=>v=.str x/\PyData.strOk x=true
 | .tup ds,v=>∃a vs,v=.ref a/\cX K H a vs/\av K H ds vs
 | .lst ds,v=>∃a vs,v=.ref a/\cR K H a vs/\av K H ds vs
 | .dct ks,v=>∃a,v=.ref a/\ym K H H a ks
 | .st ps,v=>∃a bs,v=.ref a/\bs.length=ps.length/\H a=some (.ext (Gs a ps bs))/\∀(i:Nat) p b,ps[i]?=some p->bs[i]?=some b->cX K H b [.int p.1,.int p.2]
 | .ln n,v=>∃a,v=.ref a/\H a=some (.ext (IG a n))
 | .mp th ks ds,v=>∃a bs vs,v=.ref a/\H a=some (.ext (cI th a ks bs vs))/\gG K H ks bs/\av K H ds vs
def av(K:Fg)(H:Hp):TM->TQ->Prop
 | [],vs=>vs=[]
 | d::ds,vs=>∃v r,vs=v::r/\Rep K H d v/\av K H ds r
end
theorem fL{K:Fg}{H H':Hp}{a:Tv}{xs:TQ}(e:aE H H')(h:cX K H a xs):cX K H' a xs:=by
 rcases h with (h | ⟨o,h⟩) | h
 .exact .inl (.inl (e _ _ h))
 .exact .inl (.inr ⟨o,e _ _ h⟩)
 .exact .inr h
theorem gG.mono{K:Fg}{H H':Hp}(s:aE H H'){ks:TF}{bs:Tc}(h:gG K H ks bs):gG K H' ks bs:=λi k b h1 h2=>fL s (h i k b h1 h2)
theorem Ad.mono{K:Fg}{H H':Hp}(s:aE H H'){ps:S7}{bs:Tc}(h:Ad K H ps bs):Ad K H' ps bs:=⟨h.1,λi p b h1 h2=>fL s (h.2 i p b h1 h2)⟩
theorem ym.mono{K:Fg}{Z Z' H H':Hp}(z:aE Z Z')(s:aE H H'){a:Tv}{ks:S7}(h:ym K Z H a ks):ym K Z' H' a ks:=let ⟨bs,e,r⟩:=h;⟨bs,s _ _ e,r.mono z⟩
mutual
theorem Rep.mono{K:Fg}{H H':Hp}(s:aE H H'):∀(d:D){v:V},Rep K H d v->Rep K H' d v
 | .non,_,h=>h
 | .bl _,_,h=>h
 | .int _,_,h=>h
 | .str _,_,h=>h
 | .tup ds,_,⟨a,vs,e,q,r⟩=>⟨a,vs,e,fL s q,av.mono s ds r⟩
 | .lst ds,_,⟨a,vs,e,q,r⟩=>⟨a,vs,e,s.seq q,av.mono s ds r⟩
 | .dct ks,_,⟨a,e,q⟩=>⟨a,e,q.mono s s⟩
 | .st ps,_,⟨a,bs,e,l,q,r⟩=>⟨a,bs,e,l,s _ _ q,λi p b h1 h2=>fL s (r i p b h1 h2)⟩
 | .ln n,_,⟨a,e,q⟩=>⟨a,e,s _ _ q⟩
 | .mp th ks ds,_,⟨a,bs,vs,e,q,r,t⟩=>⟨a,bs,vs,e,s _ _ q,r.mono s,av.mono s ds t⟩
theorem av.mono{K:Fg}{H H':Hp}(s:aE H H'):∀(ds:TM){vs:TQ},av K H ds vs->av K H' ds vs
 | [],_,h=>h
 | d::ds,_,⟨v,r,e,h,q⟩=>⟨v,r,e,Rep.mono s d h,av.mono s ds q⟩
end
theorem av.len{K:Fg}{H:Hp}:∀{ds:TM}{vs:TQ},av K H ds vs->ds.length=vs.length
 | [],_,h=>by cases(show _=[]from h);rfl
 | d::ds,_,⟨v,r,e,_,q⟩=>by subst e;simp[av.len q]
theorem av.get{K:Fg}{H:Hp}:∀{ds:TM}{vs:TQ}{i:Nat}{d:D},av K H ds vs->ds[i]?=some d->∃v,vs[i]?=some v/\Rep K H d v
 | [],_,_,_,_,e=>by simp at e
 | d::ds,_,0,_,⟨v,r,e,h,q⟩,e2=>by subst e;simp at e2;subst e2;exact⟨v,rfl,h⟩
 | d::ds,_,i+1,_,⟨v,r,e,h,q⟩,e2=>by subst e;simpa using av.get (i:=i) q (by simpa using e2)
theorem av.getV{K:Fg}{H:Hp}{ds:TM}{vs:TQ}{i:Nat}{v:V}(h:av K H ds vs)(e:vs[i]?=some v):∃d,ds[i]?=some d/\Rep K H d v:=by
 have hl:=h.len;have hi:i<vs.length:=(h_.mp e).1;have hd:ds[i]?=some (ds[i]'(by lia)):=by simp[hl,hi]
 obtain⟨w,e2,r⟩:=h.get hd;rw[e]at e2;cases e2;exact⟨_,hd,r⟩
theorem av.app{K:Fg}{H:Hp}:∀{ds es:TM}{vs us:TQ},av K H ds vs->av K H es us->av K H (ds++es) (vs++us)
 | [],_,_,_,h,q=>by cases(show _=[]from h);exact q
 | d::ds,_,_,_,⟨v,r,e,h,q⟩,q2=>by subst e;exact⟨v,_,rfl,h,av.app q q2⟩
theorem av.one{K:Fg}{H:Hp}{d:D}{v:V}(h:Rep K H d v):av K H [d] [v]:=⟨v,[],rfl,h,rfl⟩
theorem av.cons{K:Fg}{H:Hp}{d:D}{v:V}{ds:TM}{vs:TQ}(h:Rep K H d v)(r:av K H ds vs):av K H (d::ds) (v::vs):=⟨v,vs,rfl,h,r⟩
theorem av.set{K:Fg}{H:Hp}{d:D}{v:V}(h:Rep K H d v):∀{ds:TM}{vs:TQ}(i:Nat),av K H ds vs->av K H (ds.set i d) (vs.set i v)
 | [],_,_,q=>by cases(show _=[]from q);rfl
 | d::ds,_,0,⟨w,r,e,_,q⟩=>by subst e;exact⟨v,r,rfl,h,q⟩
 | d::ds,_,i+1,⟨w,r,e,z,q⟩=>by subst e;exact⟨w,_,rfl,z,av.set h i q⟩
theorem av.drop{K:Fg}{H:Hp}:∀{ds:TM}{vs:TQ}(n:Nat),av K H ds vs->av K H (ds.drop n) (vs.drop n)
 | _,_,0,q=>q
 | [],_,_+1,q=>by cases(show _=[]from q);rfl
 | _::_,_,n+1,⟨w,r,e,z,q⟩=>by subst e;exact av.drop n q
theorem av.take{K:Fg}{H:Hp}:∀{ds:TM}{vs:TQ}(n:Nat),av K H ds vs->av K H (ds.take n) (vs.take n)
 | _,_,0,q=>rfl
 | [],_,_+1,q=>by cases(show _=[]from q);rfl
 | _::_,_,n+1,⟨w,r,e,z,q⟩=>by subst e;exact⟨w,_,rfl,z,av.take n q⟩
theorem av.rev{K:Fg}{H:Hp}:∀{ds:TM}{vs:TQ},av K H ds vs->av K H ds.reverse vs.reverse
 | [],_,q=>by cases(show _=[]from q);rfl
 | _::_,_,⟨w,r,e,z,q⟩=>by subst e;simp only[SB];exact(av.rev q).app (av.one z)
theorem av.ints{K:Fg}{H:Hp}:∀(ns:Tg),av K H (ns.map D.int) (ns.map V.int)
 | []=>rfl
 | n::ns=>⟨_,_,rfl,rfl,av.ints ns⟩
abbrev Nf(Z Z':Hp):Prop:=∀a ob u,Z' a=some (.frz ob u)->Z a=some (.frz ob u)
abbrev NF(o:HO):Prop:=∀ob u,o≠.frz ob u
theorem Ij:NF (.lst xs):=λ_ _ z=>by cases z
theorem Pv:NF (.tup xs):=λ_ _ z=>by cases z
theorem Lx:NF (.ext φ):=λ_ _ z=>by cases z
theorem my(n:Nf Z Z')(hf:NF o):Nf Z (upd Z' p o):=λa ob u e=>by
 by_cases hb:a=p
 .subst hb;rw[aw]at e;cases e;exact absurd rfl (hf ob u)
 .rw[ay hb]at e;exact n a ob u e
structure Ex(Z H Z' H':Hp):Prop where
 h:aE H H'
 z:aE Z Z'
 zh:aE Z' H'
 fr:∀a,H a≠none->Z a=none->Z' a=none
 nf:Nf Z Z'
theorem Ex.refl(s:aE Z H):Ex Z H Z H:=⟨aE.refl _,aE.refl _,s,λ_ _ h=>h,λ_ _ _ h=>h⟩
theorem l7(s:aE H H')(h:H a≠none):H' a≠none:=by
 cases e:H a with
 | none=>exact absurd e h
 | some o=>rw[s a o e];simp
theorem Ex.trans(x:Ex Z H Z1 H1)(y:Ex Z1 H1 Z2 H2):Ex Z H Z2 H2:=
 ⟨x.h.trans y.h,x.z.trans y.z,y.zh,λa h e=>y.fr a (l7 x.h h) (x.fr a h e),λa o u h=>x.nf a o u (y.nf a o u h)⟩
theorem Ex.transB(x:Ex Z B Z1 H1)(y:Ex Z1 B Z2 H2):Ex Z B Z2 H2:=
 ⟨y.h,x.z.trans y.z,y.zh,λa h e=>y.fr a h (x.fr a h e),λa o u h=>x.nf a o u (y.nf a o u h)⟩
theorem Ex.part(b:aE B H)(x:Ex Z H Z' H'):Ex Z B Z' H':=⟨b.trans x.h,x.z,x.zh,λa h e=>x.fr a (l7 b h) e,x.nf⟩
theorem cw(h:H p=none):aE H (upd H p o):=λb u e=>by rw[ay (cK e h)];exact e
theorem GZ(s:aE Z H)(h:H p=none):aE (upd Z p o) (upd H p o):=λb u e=>by
 by_cases hb:b=p
 .subst hb;rw[aw]at e ⊢;exact e
 .rw[ay hb]at e ⊢;exact s b u e
theorem dO(s:aE Z H)(h:Z p=none):aE Z (upd H p o):=λb u e=>by
 rw[ay (cK e h)];exact s b u e
theorem qg(s:aE Z H)(h:H p=some o):aE (upd Z p o) H:=λb u e=>by
 by_cases hb:b=p
 .subst hb;rw[aw]at e;cases e;exact h
 .rw[ay hb]at e;exact s b u e
theorem Ex.new(s:aE Z H)(h:H p=none)(hf:NF o:=by first | exact Pv | exact Ij | exact Lx):Ex Z H (upd Z p o) (upd H p o):=
 ⟨cw h,cw (s.free h),GZ s h,λa ha e=>by rw[ay (λz=>ha (by rw[z];exact h))];exact e,my (λ_ _ _ h=>h) hf⟩
theorem Ex.newL(s:aE Z H)(h:H p=none):Ex Z H Z (upd H p o):=
 ⟨cw h,aE.refl _,dO s (s.free h),λ_ _ e=>e,λ_ _ _ h=>h⟩
def xA(K:Fg)(Z H:Hp)(a:Tv)(th:Str->Int)(ks:TF)(ds:TM):Prop:=∃bs vs,H a=some (.ext (cI th a ks bs vs))/\gG K Z ks bs/\av K Z ds vs
theorem xA.mono{K:Fg}{Z Z' H H':Hp}(z:aE Z Z')(s:aE H H'){a:Tv}{th:Str->Int}{ks:TF}{ds:TM}(h:xA K Z H a th ks ds):xA K Z' H' a th ks ds:=let ⟨bs,vs,e,r,t⟩:=h;⟨bs,vs,s _ _ e,r.mono z,av.mono z ds t⟩
inductive Gr where | pk | cl | nw | nd | nm
def Gd(K:Fg)(Z' H H':Hp):Gr->D->V->Prop
 | .pk,d,v=>Rep K Z' d v\/(∃a vs ds,v=.ref a/\d=.lst ds/\H' a=some (.lst vs)/\av K Z' ds vs)\/(∃a ks,v=.ref a/\d=.dct ks/\ym K Z' H' a ks)\/∃a th ks ds,v=.ref a/\d=.mp th ks ds/\xA K Z' H' a th ks ds
 | .cl,d,v=>Rep K Z' d v
 | .nw,d,v=>∃a vs ds,v=.ref a/\d=.lst ds/\H a=none/\H' a=some (.lst vs)/\Z' a=none/\av K Z' ds vs
 | .nd,d,v=>∃a ks,v=.ref a/\d=.dct ks/\H a=none/\ym K Z' H' a ks/\Z' a=none
 | .nm,d,v=>∃a th ks ds,v=.ref a/\d=.mp th ks ds/\H a=none/\xA K Z' H' a th ks ds/\Z' a=none
section
variable {K:Fg}{Z Z' H H':Hp}{g:Gr}{d:D}{v:V}
theorem Gd.pk(h:Gd K Z' H H' g d v):Gd K Z' H3 H' .pk d v:=by
 cases g with
 | pk=>exact h
 | cl=>exact .inl h
 | nw=>obtain⟨a,vs,ds,e1,e2,_,e3,_,r⟩:=h;exact .inr (.inl ⟨a,vs,ds,e1,e2,e3,r⟩)
 | nd=>obtain⟨a,ks,e1,e2,_,e3,_⟩:=h;exact .inr (.inr (.inl ⟨a,ks,e1,e2,e3⟩))
 | nm=>obtain⟨a,th,ks,ds,e1,e2,_,e3,_⟩:=h;exact .inr (.inr (.inr ⟨a,th,ks,ds,e1,e2,e3⟩))
theorem Gd.rep(s:aE Z' H')(h:Gd K Z' H H' g d v):Rep K H' d v:=by
 rcases(h.pk (H3:=H))with h | ⟨a,vs,ds,rfl,rfl,e,r⟩ | ⟨a,ks,rfl,rfl,e⟩ | ⟨a,th,ks,ds,rfl,rfl,bs,vs,e,r,t⟩
 .exact Rep.mono s d h
 .exact⟨a,vs,rfl,cR.of e,av.mono s ds r⟩
 .exact⟨a,rfl,e.mono s (aE.refl _)⟩
 .exact⟨a,bs,vs,rfl,e,r.mono s,av.mono s ds t⟩
theorem Gd.lst{ds:TM}(s:aE Z' H')(h:Gd K Z' H H' g (.lst ds) v):∃a vs,v=.ref a/\cR K H' a vs/\av K Z' ds vs:=by
 rcases(h.pk (H3:=H))with ⟨a,vs,e,q,r⟩ | ⟨a,vs,KO,rfl,e,e2,r⟩ | ⟨_,_,_,e,_⟩ | ⟨_,_,_,_,_,e,_⟩
 .exact⟨a,vs,e,s.seq q,r⟩
 .cases e;exact⟨a,vs,rfl,cR.of e2,r⟩
 .cases e
 .cases e
theorem Gd.mp(s:aE Z' H')(h:Gd K Z' H H' g (.mp th ks ds) v):∃a,v=.ref a/\xA K Z' H' a th ks ds:=by
 rcases(h.pk (H3:=H))with ⟨a,bs,vs,e,q,r,t⟩ | ⟨_,_,_,_,e,_⟩ | ⟨_,_,_,e,_⟩ | ⟨a,Iu,tW,KO,rfl,e,q⟩
 .exact⟨a,e,bs,vs,s _ _ q,r,t⟩
 .cases e
 .cases e
 .cases e;exact⟨a,rfl,q⟩
theorem Gd.tup{ds:TM}(s:aE Z' H')(h:Gd K Z' H H' g (.tup ds) v):∃a vs,v=.ref a/\cX K H' a vs/\av K Z' ds vs:=by
 rcases(h.pk (H3:=H))with ⟨a,vs,e,q,r⟩ | ⟨a,vs,KO,rfl,e,e2,r⟩ | ⟨_,_,_,e,_⟩ | ⟨_,_,_,_,_,e,_⟩
 .exact⟨a,vs,e,fL s q,r⟩
 .cases e
 .cases e
 .cases e
theorem Gd.int{i:Int}(h:Gd K Z' H H' g (.int i) v):v=.int i:=by
 rcases(h.pk (H3:=H))with h | ⟨_,_,_,_,e,_⟩ | ⟨_,_,_,e,_⟩ | ⟨_,_,_,_,_,e,_⟩
 .exact h
 .cases e
 .cases e
 .cases e
theorem Gd.bl(h:Gd K Z' H H' g (.bl b) v):v=.bl b:=by
 rcases(h.pk (H3:=H))with h | ⟨_,_,_,_,e,_⟩ | ⟨_,_,_,e,_⟩ | ⟨_,_,_,_,_,e,_⟩
 .exact h
 .cases e
 .cases e
 .cases e
theorem Gd.later(x:Ex Z' H' Z2 H2)(h:Gd K Z' H H' g d v):Gd K Z2 H3 H2 .pk d v:=by
 rcases(h.pk (H3:=H))with h | ⟨a,vs,ds,e1,e2,e3,r⟩ | ⟨a,ks,e1,e2,e3⟩ | ⟨a,th,ks,ds,e1,e2,e3⟩
 .exact .inl (Rep.mono x.z d h)
 .exact .inr (.inl ⟨a,vs,ds,e1,e2,x.h _ _ e3,av.mono x.z ds r⟩)
 .exact .inr (.inr (.inl ⟨a,ks,e1,e2,e3.mono x.z x.h⟩))
 .exact .inr (.inr (.inr ⟨a,th,ks,ds,e1,e2,e3.mono x.z x.h⟩))
end
inductive tX where
 | L (ds:List D) | T (ks:List (Int×Int)) | M (th:Str->Int) (ks:List (List Key)) (ds:List D)
def cP(K:Fg)(Z:Hp)(a:Tv):tX->HO->Prop
 | .L ds,o=>∃vs,o=.lst vs/\av K Z ds vs
 | .T ks,o=>∃bs,o=.ext (FZ a ks bs)/\Ad K Z ks bs
 | .M th ks ds,o=>∃bs vs,o=.ext (cI th a ks bs vs)/\gG K Z ks bs/\av K Z ds vs
def tX.d:tX->D
 | .L ds=>.lst ds
 | .T ks=>.dct ks
 | .M th ks ds=>.mp th ks ds
theorem cP.l{K:Fg}{Z:Hp}{a:Tv}{ds:TM}{vs:TQ}(h:av K Z ds vs):cP K Z a (.L ds) (.lst vs):=⟨vs,rfl,h⟩
theorem cP.mono{K:Fg}{Z Z':Hp}(s:aE Z Z'){a:Tv}{w:tX}{o:HO}(h:cP K Z a w o):cP K Z' a w o:=by
 cases w with
 | L ds=>obtain⟨vs,e,r⟩:=h;exact⟨vs,e,av.mono s ds r⟩
 | T ks=>obtain⟨bs,e,r⟩:=h;exact⟨bs,e,r.mono s⟩
 | M th ks ds=>obtain⟨bs,vs,e,r,t⟩:=h;exact⟨bs,vs,e,r.mono s,av.mono s ds t⟩
theorem cP.rep{K:Fg}{Z:Hp}{w:tX}{o:HO}{a:Tv}(h:cP K Z a w o)(e:Z a=some o):Rep K Z w.d (.ref a):=by
 cases w with
 | L ds=>obtain⟨vs,rfl,r⟩:=h;exact⟨a,vs,rfl,cR.of e,r⟩
 | T ks=>obtain⟨bs,rfl,r⟩:=h;exact⟨a,rfl,bs,e,r⟩
 | M th ks ds=>obtain⟨bs,vs,rfl,r,t⟩:=h;exact⟨a,bs,vs,rfl,e,r,t⟩
theorem cP.nf{K:Fg}{Z:Hp}{w:tX}{o:HO}{a:Tv}(h:cP K Z a w o):NF o:=by
 cases w with
 | L ds=>obtain⟨vs,rfl,r⟩:=h;exact Ij
 | T ks=>obtain⟨bs,rfl,r⟩:=h;exact Lx
 | M th ks ds=>obtain⟨bs,vs,rfl,r,t⟩:=h;exact Lx
inductive Slot where
 | un | F (d:D) | O (w:tX)
def pX(K:Fg)(Z H:Hp):Slot->Option V->Prop
 | .un,_=>True
 | .F d,x=>∃v,x=some v/\Rep K Z d v
 | .O w,x=>∃a o,x=some (.ref a)/\H a=some o/\Z a=none/\cP K Z a w o
abbrev En:=List Slot
abbrev TJ:=En->TK
structure Rl(K:Fg)(B Z H:Hp)(env:En)(σ:L2.St):Prop where
 bh:aE B H
 zh:aE Z H
 len:env.length=σ.length
 sl:∀(i:Nat) s,env[i]?=some s->∃x,σ[i]?=some x/\pX K Z H s x
 ob:∀(i:Nat) ds a,env[i]?=some (.O ds)->σ[i]?=some (some (.ref a))->B a=none
 ap:∀(i j:Nat) ds es a,i≠j->env[i]?=some (.O ds)->env[j]?=some (.O es)->σ[i]?=some (some (.ref a))->σ[j]?≠some (some (.ref a))
section
variable {K:Fg}{B Z H Z' H':Hp}{env:En}{σ:L2.St}
theorem pX.ext(e:Ex Z H Z' H')(h:pX K Z H s x):pX K Z' H' s x:=by
 cases s with
 | un=>trivial
 | F d=>obtain⟨v,e1,r⟩:=h;exact⟨v,e1,Rep.mono e.z d r⟩
 | O w=>obtain⟨a,o,e1,e2,e3,r⟩:=h;exact⟨a,o,e1,e.h _ _ e2,e.fr a (by rw[e2];simp) e3,r.mono e.z⟩
theorem Rl.ext(R:Rl K B Z H env σ)(e:Ex Z H Z' H'):Rl K B Z' H' env σ:=
 ⟨R.bh.trans e.h,e.zh,R.len,λi s h=>let ⟨x,h1,h2⟩:=R.sl i s h;⟨x,h1,h2.ext e⟩,R.ob,R.ap⟩
theorem Rl.setF(R:Rl K B Z H env σ)(i:Nat)(r:Rep K Z d v):Rl K B Z H (env.set i (.F d)) (σ.set i (some v)):=by
 refine⟨R.bh,R.zh,by simp[R.len],λj s h=>?_,λj ds a h h2=>?_,λj k ds es a hne h1 h2 h3 h4=>?_⟩
 .by_cases hj:i=j
  .subst hj
   by_cases hl:i<env.length
   .rw[r_ hl]at h;cases h;exact⟨some v,r_ (by rw[<- R.len];exact hl),v,rfl,r⟩
   .rw[A_ (by simpa using Qc hl)]at h;cases h
  .rw[l_ hj]at h ⊢;exact R.sl j s h
 .by_cases hj:i=j
  .subst hj
   by_cases hl:i<env.length
   .rw[r_ hl]at h;cases h
   .rw[A_ (by simpa using Qc hl)]at h;cases h
  .rw[l_ hj]at h h2;exact R.ob j ds a h h2
 .have KP:∀{j:Nat}{ds:tX},(env.set i (.F d))[j]?=some (.O ds)->i≠j:=λ{j ds} h z=>by
   subst z
   by_cases hl:i<env.length
   .rw[r_ hl]at h;cases h
   .rw[A_ (by simpa using Qc hl)]at h;cases h
  have n1:=KP h1;have n2:=KP h2;rw[l_ n1]at h1 h3;rw[l_ n2]at h2 h4;exact R.ap j k ds es a hne h1 h2 h3 h4
theorem Rl.setO(R:Rl K B Z H env σ)(i:Nat)(hb:B a=none)(hz:Z a=none)(hh:H a=some vs)(r:cP K Z a ds vs)
  (hn:∀(j:Nat) es,j≠i->env[j]?=some (.O es)->σ[j]?≠some (some (.ref a))):Rl K B Z H (env.set i (.O ds)) (σ.set i (some (.ref a))):=by
 have atI:∀{s:Slot},(env.set i (.O ds))[i]?=some s->s=.O ds/\(σ.set i (some (V.ref a)))[i]?=some (some (.ref a)):=λ{s} h=>by
  by_cases hl:i<env.length
  .rw[r_ hl]at h;cases h;exact⟨rfl,r_ (by rw[<- R.len];exact hl)⟩
  .rw[A_ (by simpa using Qc hl)]at h;cases h
 refine⟨R.bh,R.zh,by simp[R.len],λj s h=>?_,λj es b h h2=>?_,λj k es fs b hne h1 h2 h3 h4=>?_⟩
 .by_cases hj:i=j
  .subst hj;obtain⟨e1,e2⟩:=atI h;subst e1;exact⟨_,e2,a,vs,rfl,hh,hz,r⟩
  .rw[l_ hj]at h ⊢;exact R.sl j s h
 .by_cases hj:i=j
  .subst hj;obtain⟨_,e2⟩:=atI h;rw[e2]at h2;cases h2;exact hb
  .rw[l_ hj]at h h2;exact R.ob j es b h h2
 .by_cases hj:i=j
  .subst hj;obtain⟨_,e2⟩:=atI h1;rw[e2]at h3;cases h3;rw[l_ hne]at h2 h4;exact hn k fs (Qo hne) h2 h4
  .by_cases hk:i=k
   .subst hk;obtain⟨_,e2⟩:=atI h2;rw[e2]at h4;cases h4;rw[l_ hj]at h1 h3;exact hn j es (Qo hj) h1 h3
   .rw[l_ hj]at h1 h3;rw[l_ hk]at h2 h4;exact R.ap j k es fs b hne h1 h2 h3 h4
theorem Rl.wr(R:Rl K B Z H env σ)(hi:env[i]?=some (.O ds))(ha:σ[i]?=some (some (.ref a)))(r:cP K Z a es vs) :
  Rl K B Z (upd H a vs) (env.set i (.O es)) σ/\Ex Z B Z (upd H a vs):=by
 have hb:=R.ob i ds a hi ha;obtain⟨x,e1,b,us,e2,e3,hz,_⟩:=R.sl i _ hi;rw[ha]at e1;cases e1;cases e2;have hl:i<env.length:=(h_.mp hi).1;have sb:aE B (upd H a vs):=dO R.bh hb;have sz:aE Z (upd H a vs):=dO R.zh hz;refine⟨⟨sb,sz,by simp[R.len],λj s h=>?_,λj fs b h h2=>?_,λj k fs gs b hne h1 h2 h3 h4=>?_⟩,⟨sb,aE.refl _,sz,λ_ _ e=>e,λ_ _ _ h=>h⟩⟩
 .by_cases hj:i=j
  .subst hj;rw[r_ hl]at h;cases h;exact⟨_,ha,a,vs,rfl,aw,hz,r⟩
  .rw[l_ hj]at h;obtain⟨x,e1,q⟩:=R.sl j s h;refine⟨x,e1,?_⟩;cases s with
   | un=>trivial
   | F d=>exact q
   | O fs=>
    obtain⟨b,us',e4,e5,e6,q⟩:=q;refine⟨b,us',e4,?_,e6,q⟩;rw[ay (λz=>?_)]
    .exact e5
    .subst z;subst e4;exact R.ap i j ds fs b hj hi h ha e1
 .by_cases hj:i=j
  .subst hj;rw[ha]at h2;cases h2;exact hb
  .rw[l_ hj]at h;exact R.ob j fs b h h2
 .have old:∀{j:Nat}{fs:tX},(env.set i (.O es))[j]?=some (.O fs)->∃KC,env[j]?=some (.O KC):=λ{j fs} h=>by
   by_cases hj:i=j
   .subst hj;exact⟨ds,hi⟩
   .rw[l_ hj]at h;exact⟨fs,h⟩
  obtain⟨KC,KQ⟩:=old h1;obtain⟨gs',h2'⟩:=old h2;exact R.ap j k KC gs' b hne KQ h2' h3 h4
theorem Rl.frz{ds:tX}(R:Rl K B Z H env σ){i:Nat}(hi:env[i]?=some (.O ds)):∃Z',Rl K B Z' H (env.set i (.F ds.d)) σ/\Ex Z B Z' H:=by
 obtain⟨x,e1,a,vs,e2,e3,hz,r⟩:=R.sl i _ hi;subst e2;have hb:=R.ob i ds a hi e1;have hl:i<env.length:=(h_.mp hi).1;have s1:aE Z (upd Z a vs):=cw hz;have s2:aE (upd Z a vs) H:=qg R.zh e3;refine⟨upd Z a vs,⟨R.bh,s2,by simp[R.len],λj s h=>?_,λj fs b h h2=>?_,λj k fs gs b hne h1 h2 h3 h4=>?_⟩,⟨R.bh,s1,s2,λb hbn e=>?_,my (λ_ _ _ h=>h) r.nf⟩⟩
 .by_cases hj:i=j
  .subst hj;rw[r_ hl]at h;cases h;exact⟨_,e1,_,rfl,(r.mono s1).rep aw⟩
  .rw[l_ hj]at h;obtain⟨y,e4,q⟩:=R.sl j s h;refine⟨y,e4,?_⟩;cases s with
   | un=>trivial
   | F d=>obtain⟨v,e5,q⟩:=q;exact⟨v,e5,Rep.mono s1 d q⟩
   | O fs=>
    obtain⟨b,us',e5,e6,e7,q⟩:=q;refine⟨b,us',e5,e6,?_,q.mono s1⟩;rw[ay (λz=>?_)]
    .exact e7
    .subst z;subst e5;exact R.ap i j ds fs b hj hi h e1 e4
 .by_cases hj:i=j
  .subst hj;rw[r_ hl]at h;cases h
  .rw[l_ hj]at h;exact R.ob j fs b h h2
 .have KP:∀{j:Nat}{es:tX},(env.set i (.F ds.d))[j]?=some (.O es)->i≠j:=λ{j es} h z=>by
   subst z;rw[r_ hl]at h;cases h
  have n1:=KP h1;have n2:=KP h2;rw[l_ n1]at h1;rw[l_ n2]at h2;exact R.ap j k fs gs b hne h1 h2 h3 h4
 .rw[ay (λz=>hbn (by rw[z];exact hb))];exact e
end
abbrev Fe:=En->TN
abbrev Fb:=En->Option Bool
abbrev T1:Fb:=λ_=>some true
abbrev Fes:=En->TK
def T(K:Fg)(g:Gr)(f:Fe):TE:=λσ H Q=>∃env B Z d,Rl K B Z H env σ/\f env=some d/\∀v Z' H',Ex Z H Z' H'->Gd K Z' H H' g d v->Q v H'
def TB(K:Fg)(f:Fb):TT:=λσ H Q=>∃env B Z b,Rl K B Z H env σ/\f env=some b/\∀Z' H',Ex Z H Z' H'->Q b H'
def TL(K:Fg)(f:Fes):TA:=λσ H Q=>∃env B Z ds,Rl K B Z H env σ/\f env=some ds/\∀vs Z' H',Ex Z H Z' H'->av K Z' ds vs->Q vs H'
def PD(X:Cx)(g:Gr)(e:Tz)(f:Fe):Prop:=PE X e (T X.K g f)
def PB(X:Cx)(e:Tz)(f:Fb):Prop:=PT X e (TB X.K f)
def FX(X:Cx)(e:Tz)(f:Fb):Prop:=PW X e (TB X.K f)
structure PL(X:Cx)(es:List Expr)(f:Fes):Prop where
 p:PA X es (TL X.K f)
 l:∀env ds,f env=some ds->ds.length=es.length
section
variable {X:Cx}
theorem PE.imp(h:PE X e t)(i:∀σ H Q,t' σ H Q->t σ H Q):PE X e t':=λpins s σ H Q I q=>h pins s σ H Q I (i σ H Q q)
theorem PT.imp(h:PT X e t)(i:∀σ H Q,t' σ H Q->t σ H Q):PT X e t':=λpins s σ H Q I q=>h pins s σ H Q I (i σ H Q q)
theorem PW.imp(h:PW X e t)(i:∀σ H Q,t' σ H Q->t σ H Q):PW X e t':=λwh pins s σ H Q I q=>h wh pins s σ H Q I (i σ H Q q)
theorem PA.imp(h:PA X e t)(i:∀σ H Q,t' σ H Q->t σ H Q):PA X e t':=λpos pins s σ H Q I q=>h pos pins s σ H Q I (i σ H Q q)
def fC(d:D):Fe:=λ_=>some d
abbrev TZ:Fe:=fC (.int 4)
abbrev TY:Fe:=fC (.int 3)
abbrev TV:Fe:=fC (.int 2)
abbrev TU:Fe:=fC (.int 1)
abbrev TR:Fe:=fC (.int 0)
theorem zG{K:Fg}{g:D}{v:V}{σ:L2.St}{H:Hp}{Q:VK}(h:T K .cl (fC g) σ H Q)(r:∀Z,Rep K Z g v):Q v H:=by
 obtain⟨env,B,Z,d,R,e,k⟩:=h;cases e;exact k v Z H (Ex.refl R.zh) (r Z)
theorem aj{i j pos}:PD X .cl (.Constant (.int i) j pos) (fC (.int i)):=PE.imp zQ λ_ _ _ h=>zG h λ_=>rfl
theorem ny{b j pos}:PD X .cl (.Constant (.bool b) j pos) (fC (.bl b)):=PE.imp E2 λ_ _ _ h=>zG h λ_=>rfl
theorem Jt{j pos}:PD X .cl (.Constant .none j pos) (fC .non):=PE.imp Am λ_ _ _ h=>zG h λ_=>rfl
theorem bf{x j pos}(hk:PyData.strOk x=true:=by decide +kernel):PD X .cl (.Constant (.str x) j pos) (fC (.str x)):=PE.imp G9 λ_ _ _ h=>zG h λ_=>⟨rfl,hk⟩
theorem pT(hm:X.mg x=some u)(rv:RelV v u)(r:∀Z,Rep X.K Z d v)(hg:Gl X x:=by rfl)(hd:(x==("__debug__":Str))=false:=by decide) :
  PD X .cl (.Name x pos) (fC d):=PE.imp (vP hg hm rv hd) λ_ _ _ h=>zG h r
def da(env:En)(i:Nat):TN:=match env[i]? with | some (.F d)=>some d | _=>none
def xD(env:En)(i:Nat):TN:=match env[i]? with | some (.F d)=>some d | some (.O w)=>some w.d | _=>none
theorem aa(i:Nat)(hN:X.N[i]?=some x:=by rfl)(hv:vZ X.env.scope x:=by first | exact Or.inl rfl | exact Or.inr (Or.inl rfl) | exact Or.inr (Or.inr rfl))(hd:(x==("__debug__":Str))=false:=by decide)
  (eC:(x==("__classdict__":Str))=false:=by decide):PD X .cl (.Name x pos) (λenv=>da env i):=PE.imp (bV hN hv hd eC) λσ H Q h=>by
 obtain⟨env,B,Z,d,R,e,k⟩:=h;dsimp only[da]at e
 split at e
 .rename_i d' h1;cases e;obtain⟨x,h2,v,h3,r⟩:=R.sl i _ h1;subst h3;exact⟨v,h2,k v Z H (Ex.refl R.zh) r⟩
 .cases e
theorem Jg(i:Nat)(hN:X.N[i]?=some x:=by rfl)(hv:vZ X.env.scope x:=by first | exact Or.inl rfl | exact Or.inr (Or.inl rfl) | exact Or.inr (Or.inr rfl))(hd:(x==("__debug__":Str))=false:=by decide)
  (eC:(x==("__classdict__":Str))=false:=by decide):PD X .pk (.Name x pos) (λenv=>xD env i):=PE.imp (bV hN hv hd eC) λσ H Q h=>by
 obtain⟨env,B,Z,d,R,e,k⟩:=h;dsimp only[xD]at e
 split at e
 .rename_i d' h1;cases e;obtain⟨x,h2,v,h3,r⟩:=R.sl i _ h1;subst h3;exact⟨v,h2,k v Z H (Ex.refl R.zh) (.inl r)⟩
 .rename_i ds h1;cases e;obtain⟨x,h2,a,vs,h3,h4,h5,r⟩:=R.sl i _ h1;subst h3;refine⟨_,h2,k _ Z H (Ex.refl R.zh) ?_⟩;cases ds with
  | L ds=>obtain⟨us,rfl,r⟩:=r;exact .inr (.inl ⟨a,us,ds,rfl,rfl,h4,r⟩)
  | T ks=>obtain⟨bs,rfl,r⟩:=r;exact .inr (.inr (.inl ⟨a,ks,rfl,rfl,bs,h4,r⟩))
  | M th ks ds=>obtain⟨bs,vs,rfl,r,t⟩:=r;exact .inr (.inr (.inr ⟨a,th,ks,ds,rfl,rfl,bs,vs,h4,r,t⟩))
 .cases e
theorem bH(h:PD X .nw e f):PD X .cl e f:=PE.imp h λσ H Q aA=>by
 obtain⟨env,B,Z,d,R,e,k⟩:=aA;refine⟨env,B,Z,d,R,e,λv Z' H' x g=>?_⟩;obtain⟨a,vs,ds,rfl,rfl,h1,h2,h3,r⟩:=g;have s1:aE Z' (upd Z' a (.lst vs)):=cw h3;exact k _ (upd Z' a (.lst vs)) H' ⟨x.h,x.z.trans s1,qg x.zh h2,λb hb e=>by rw[ay (λz=>hb (by rw[z];exact h1))];exact x.fr b hb e,my x.nf Ij⟩ ⟨a,vs,rfl,cR.of aw,av.mono s1 ds r⟩
theorem Fj(h:PD X .nm e f):PD X .cl e f:=PE.imp h λσ H Q aA=>by
 obtain⟨env,B,Z,d,R,e,k⟩:=aA;refine⟨env,B,Z,d,R,e,λv Z' H' x g=>?_⟩;obtain⟨a,th,ks,ds,rfl,rfl,h1,⟨bs,vs,h2,hp,r⟩,h3⟩:=g;have s1:aE Z' (upd Z' a (.ext (cI th a ks bs vs))):=cw h3;exact k _ (upd Z' a (.ext (cI th a ks bs vs))) H' ⟨x.h,x.z.trans s1,qg x.zh h2,λb hb e=>by rw[ay (λz=>hb (by rw[z];exact h1))];exact x.fr b hb e,my x.nf Lx⟩ ⟨a,bs,vs,rfl,aw,hp.mono s1,av.mono s1 ds r⟩
def fNil:Fes:=λ_=>some []
def ae(f:Fe)(fs:Fes):Fes:=λenv=>(f env).bind λd=>(fs env).bind λds=>some (d::ds)
theorem aq:PL X [] fNil:=⟨PA.imp bS λσ H Q ⟨env,B,Z,ds,R,e,k⟩=>by cases e;exact k [] Z H (Ex.refl R.zh) rfl,λenv ds e=>by cases e;rfl⟩
theorem lR(h:ae f fs env=some ds):∃d r,f env=some d/\fs env=some r/\ds=d::r:=by
 unfold ae at h;refine glG λ_ kq=>?_;obtain⟨d,h1,h2⟩:=a_.mp h;obtain⟨r,h3,h4⟩:=a_.mp h2;cases h4;exact kq (⟨d,r,h1,h3,rfl⟩)
theorem af(h:PD X .cl e f)(hs:PL X es fs)(gq:starEach (e::es) X.env=(false,eval e X.env)::starEach es X.env:=by rfl):PL X (e::es) (ae f fs):=by
 refine⟨PA.imp (aJ h hs.p gq) λσ H Q ⟨env,B,Z,ds,R,e,k⟩=>?_,λenv ds e=>?_⟩
 .obtain⟨d,r,h1,h2,rfl⟩:=lR e;refine⟨env,B,Z,d,R,h1,λv Z1 H1 x1 g1=>⟨env,B,Z1,r,R.ext x1,h2,λvs Z2 H2 x2 g2=>?_⟩⟩;exact k (v::vs) Z2 H2 (x1.trans x2) ⟨v,vs,rfl,Rep.mono x2.z d g1,g2⟩
 .obtain⟨d,r,h1,h2,rfl⟩:=lR e;simp[hs.l env r h2]
def bt(fs:Fes):Fe:=λenv=>(fs env).bind λds=>some (.tup ds)
def bP(fs:Fes):Fe:=λenv=>(fs env).bind λds=>some (.lst ds)
theorem be{x1 pos}(h:PL X es fs)(hl:es.length<=1000:=by decide):PD X .cl (.Tuple es x1 pos) (bt fs):=PE.imp (GJ h.p) λσ H Q aA=>by
 refine glG λ_ kq=>?_;obtain⟨env,B,Z,d,R,e,k⟩:=aA;obtain⟨ds,h1,h2⟩:=a_.mp e;cases h2;refine kq (⟨env,B,Z,ds,R,h1,λvs Z1 H1 x1 r=>⟨?_,λp hp=>?_⟩⟩)
 all_goals clear kq
 .rw[<- r.len,h.l env ds h1];exact Sk (oO hl)
 .have s1:aE Z1 (upd Z1 p (.tup vs)):=cw (x1.zh.free hp);exact k _ (upd Z1 p (.tup vs)) _ (x1.trans (Ex.new x1.zh hp)) ⟨p,vs,rfl,cX.of aw,av.mono s1 ds r⟩
theorem bN{pos}(h:PL X es fs)(hl:es.length<=1000:=by decide):PD X .nw (.List es pos) (bP fs):=PE.imp (qT h.p) λσ H Q aA=>by
 refine glG λ_ kq=>?_;obtain⟨env,B,Z,d,R,e,k⟩:=aA;obtain⟨ds,h1,h2⟩:=a_.mp e;cases h2;refine kq (⟨env,B,Z,ds,R,h1,λvs Z1 H1 x1 r=>⟨?_,λp hp=>?_⟩⟩)
 all_goals clear kq
 .rw[<- r.len,h.l env ds h1];exact Sk (oO hl)
 .exact k _ Z1 _ (x1.trans (Ex.newL x1.zh hp)) ⟨p,vs,ds,rfl,rfl,x1.h.free hp,aw,x1.zh.free hp,r⟩
theorem rj[Decidable c](h:(if c then some a else none)=some d):c/\a=d:=by
 by_cases hc:c
 .rw[g_ hc]at h;exact⟨hc,Option.some.inj h⟩
 .rw[j_ hc]at h;cases h
def au(b:D->D->TN)(fa fb:Fe):Fe:=λenv=>(fa env).bind λx=>(fb env).bind λy=>b x y
theorem tm(h:au b fa fb env=some d):∃x y,fa env=some x/\fb env=some y/\b x y=some d:=by
 unfold au at h;refine glG λ_ kq=>?_;obtain⟨x,h1,h2⟩:=a_.mp h;obtain⟨y,h3,h4⟩:=a_.mp h2;exact kq (⟨x,y,h1,h3,h4⟩)
theorem Gd.frm{K:Fg}{Z' H0 H H':Hp}{g:Gr}{d:D}{v:V}(s:aE H0 H)(h:Gd K Z' H H' g d v):Gd K Z' H0 H' g d v:=by
 cases g with
 | pk=>exact h
 | cl=>exact h
 | nw=>obtain⟨a,vs,ds,e1,e2,e3,e4⟩:=h;exact⟨a,vs,ds,e1,e2,s.free e3,e4⟩
 | nd=>obtain⟨a,ks,e1,e2,e3,e4⟩:=h;exact⟨a,ks,e1,e2,s.free e3,e4⟩
 | nm=>obtain⟨a,th,ks,ds,e1,e2,e3,e4⟩:=h;exact⟨a,th,ks,ds,e1,e2,s.free e3,e4⟩
def cQ(K:Fg)(g:Gr)(b:D->D->TN)(r:R2):Prop:=
 ∀{Z H:Hp}{x y:V}{dx dy d:D}{Q:VK},aE Z H->Gd K Z H H .pk dx x->Gd K Z H H .pk dy y->b dx dy=some d->(∀v Z' H',Ex Z H Z' H'->Gd K Z' H H' g d v->Q v H')->r x y H Q
theorem hZ{K:Fg}{g ga gb:Gr}{b:D->D->TN}{r:R2}(hb:cQ K g b r){fa fb:Fe}{σ:L2.St}{H:Hp}{Q:VK}(h:T K g (au b fa fb) σ H Q):EM r (T K ga fa) (T K gb fb) σ H Q:=by
 refine glG λ_ kq=>?_;obtain⟨env,B,Z,d,R,e,k⟩:=h;obtain⟨dx,dy,h1,h2,h3⟩:=tm e;refine kq (⟨env,B,Z,dx,R,h1,λv Z1 H1 x1 g1=>⟨env,B,Z1,dy,R.ext x1,h2,λu Z2 H2 x2 g2=>?_⟩⟩)
 all_goals clear kq
 refine hb x2.zh (g1.later x2) (show Gd K Z2 H2 H2 .pk dy u from g2.pk) h3 λw Z3 H3 x3 g3=>?_;exact k w Z3 H3 ((x1.trans x2).trans x3) (Gd.frm (x1.h.trans x2.h) g3)
theorem rV(ho:iy X (binaryOp op) r)(hd:cQ X.K g b r)(ha:PD X ga l fa)(hb:PD X gb rr fb) :
  PD X g (.BinOp l op rr pos) (au b fa fb):=PE.imp (A3 ho ha hb) λ_ _ _ h=>hZ hd h
theorem oV(ho:iy X (compareOp op) r)(hd:cQ X.K g b r)(ha:PD X ga l fa)(hb:PD X gb rr fb)(hm:behindInMarks op rr=false:=by rfl) :
  PD X g (.Compare l [op] [rr] pos) (au b fa fb):=PE.imp (Cj ho ha hb hm) λ_ _ _ h=>hZ hd h
def Ow:D->Option Bool
 | .bl b=>some b
 | _=>none
def fB(f:Fe):Fb:=λenv=>(f env).bind Ow
theorem Bv(h:Ow d=some b):d=.bl b:=by
 cases d<;>cases h;rfl
theorem Fk{K:Fg}{g:Gr}{f:Fe}{σ:L2.St}{H:Hp}{Q:Bool->Hp->Prop}(h:TB K (fB f) σ H Q):T K g f σ H (λx H'=>∃k,x=.bl k/\Q k H'):=by
 refine glG λ_ kq=>?_;obtain⟨env,B,Z,b,R,e,k⟩:=h;obtain⟨d,h1,h2⟩:=a_.mp e;cases Bv h2;exact kq (⟨env,B,Z,_,R,h1,λv Z' H' x g=>⟨b,g.bl,k Z' H' x⟩⟩)
theorem jz(ho:iy X (compareOp op) r)(hd:cQ X.K .cl b r)(ha:PD X ga l fa)(hb:PD X gb rr fb)(hm:behindInMarks op rr=false:=by rfl) :
  PB X (.Compare l [op] [rr] pos) (fB (au b fa fb)):=PT.imp (DS ho ha hb hm) λ_ _ _ h=>hZ hd (Fk h)
theorem fw(h:PD X g e f)(he:∀whole,isTrue e X.env whole=(do let v <- whole;standAt e.pos;holding [v] (truthy v)):=by intro _;rfl):PB X e (fB f):=
 PT.imp (F3 h he) λ_ _ _ h=>Fk h
def iF(g:Int->Int->D):D->D->TN
 | .int i,.int j=>some (g i j)
 | _,_=>none
theorem jE{K:Fg}{g:Int->Int->V}{g':Int->Int->D}(hg:∀Z i j,Rep K Z (g' i j) (g i j)):cQ K .cl (iF g') (yn g):=λ{Z H x y dx dy d Q} s h1 h2 e k=>by
 cases dx<;>try cases e
 all_goals (cases dy<;>cases e)
 exact⟨_,_,h1.int,h2.int,k _ Z H (Ex.refl s) (hg _ _ _)⟩
def Kt(c:Int->Int->Bool)(g:Int->Int->D):D->D->TN
 | .int i,.int j=>if c i j then some (g i j)else none
 | _,_=>none
theorem ql{K:Fg}{C:Int->Int->Prop}{c:Int->Int->Bool}{g:Int->Int->V}{g':Int->Int->D}(hc:∀i j,c i j=true->C i j)(hg:∀Z i j,Rep K Z (g' i j) (g i j)):cQ K .cl (Kt c g') (rI C g):=λ{Z H x y dx dy d Q} s h1 h2 e k=>by
 cases dx<;>try cases e
 all_goals (cases dy<;>try cases e)
 rename_i i j;have e':(if c i j=true then some (g' i j)else none)=some d:=e
 by_cases BU:c i j=true
 .rw[g_ BU]at e';cases e';exact⟨_,_,h1.int,h2.int,hc _ _ BU,k _ Z H (Ex.refl s) (hg _ _ _)⟩
 .rw[j_ BU]at e';cases e'
abbrev addI:=iF λi j=>.int (i+j)
abbrev subI:=iF λi j=>.int (i-j)
abbrev ltI:=iF λi j=>.bl (decide (i<j))
abbrev leI:=iF λi j=>.bl (decide (i<=j))
abbrev gtI:=iF λi j=>.bl (decide (j<i))
def big(i:Int):Bool:=decide (i.natAbs<2 ^ 4096)
abbrev mulI:=Kt (λi j=>(big i&&big j)) λi j=>.int (i*j)
abbrev fdivI:=Kt (λ_ j=>decide (0<j/\j<1073741824)) λi j=>.int (i/j)
abbrev modI:=Kt (λ_ j=>decide (0<j)) λi j=>.int (i%j)
abbrev powI:=Kt (λi j=>big i&&decide (0<=j/\j<=1000)) λi j=>.int (i ^ j.toNat)
theorem JG{K:Fg}:cQ K .cl addI (yn λi j=>.int (i+j)):=jE (by intro _ _ _;rfl)
theorem IK{K:Fg}:cQ K .cl subI (yn λi j=>.int (i-j)):=jE (by intro _ _ _;rfl)
theorem HK{K:Fg}:cQ K .cl ltI (yn λi j=>.bl (decide (i<j))):=jE (by intro _ _ _;rfl)
theorem xx{K:Fg}:cQ K .cl leI (yn λi j=>.bl (decide (i<=j))):=jE (by intro _ _ _;rfl)
theorem Kn{K:Fg}:cQ K .cl gtI (yn λi j=>.bl (decide (j<i))):=jE (by intro _ _ _;rfl)
theorem Hd{K:Fg}:cQ K .cl fdivI (rI IZ λi j=>.int (i/j)):=ql (λi j h=>QI h) (by intro _ _ _;rfl)
theorem Ji{K:Fg}:cQ K .cl modI (rI (λ_ j=>0<j) λi j=>.int (i%j)):=ql (λi j h=>QI h) (by intro _ _ _;rfl)
theorem mB(h:big i=true):Builtin.Int.intBits i<=4096:=by
 have h':i.natAbs<2 ^ 4096:=QI h;unfold Builtin.Int.intBits
 split
 .lia
 .rename_i hz;have hn:i.natAbs≠0:=by simpa using hz
  have:=(Nat.log2_lt hn).mpr h'
  lia
def EX(i j:Int):Prop:=big i=true/\big j=true
theorem CC:iy X (binaryOp .Mult) (rI EX λi j=>.int (i*j)):=Lo λ_ _ _ _ _ _ _ hc q=>mul_int q (.of_bits (w_ (mB hc.1) @1) (w_ (mB hc.2) @1))
theorem IJ{K:Fg}:cQ K .cl mulI (rI EX λi j=>.int (i*j)):=ql (λi j h=>by
 simp only[F_]at h;exact h) (by intro _ _ _;rfl)
def E9(i j:Int):Prop:=big i=true/\0<=j/\j<=1000
theorem Df:iy X (binaryOp .Pow) (rI E9 λi j=>.int (i ^ j.toNat)):=Lo λi j _ _ _ _ _ hc q=>pow_int hc.2.1 (by
 have h1:(Builtin.Int.intBits i:Int)<=4096:=by have:=mB hc.1;lia
 have h2:(Builtin.Int.intBits i:Int)*j<=4096*1000:=Int.mul_le_mul h1 hc.2.2 hc.2.1 @1;exact Int.le_trans h2 @1) q
theorem Kc{K:Fg}:cQ K .cl powI (rI E9 λi j=>.int (i ^ j.toNat)):=ql (λi j h=>by
 simp only[F_,y_]at h;exact⟨h.1,h.2.1,h.2.2⟩) (by intro _ _ _;rfl)
variable {l r c:Tz}{fa fb fc:Fe}{ga gb gc:Gr}{pos:Pos}
theorem a8(ha:PD X ga l fa)(hb:PD X gb r fb):PD X .cl (.BinOp l .Add r pos) (au addI fa fb):=rV FU JG ha hb
theorem iI(ha:PD X ga l fa)(hb:PD X gb r fb):PD X .cl (.BinOp l .Sub r pos) (au subI fa fb):=rV Hm IK ha hb
theorem oR(ha:PD X ga l fa)(hb:PD X gb r fb):PD X .cl (.BinOp l .Mult r pos) (au mulI fa fb):=rV CC IJ ha hb
theorem AA(ha:PD X ga l fa)(hb:PD X gb r fb):PD X .cl (.BinOp l .FloorDiv r pos) (au fdivI fa fb):=rV CQ Hd ha hb
theorem cE(ha:PD X ga l fa)(hb:PD X gb r fb):PD X .cl (.BinOp l .Mod r pos) (au modI fa fb):=rV Ge Ji ha hb
theorem wL(ha:PD X ga l fa)(hb:PD X gb r fb):PD X .cl (.BinOp l .Pow r pos) (au powI fa fb):=rV Df Kc ha hb
theorem JK(ha:PD X ga l fa)(hb:PD X gb r fb):PD X .cl (.Compare l [.LtE] [r] pos) (au leI fa fb):=oV oK xx ha hb (eg _)
theorem CG(ha:PD X ga l fa)(hb:PD X gb r fb):PD X .cl (.Compare l [.Gt] [r] pos) (au gtI fa fb):=oV Fw Kn ha hb (eg _)
theorem Mm(ha:PD X ga l fa)(hb:PD X gb r fb):PB X (.Compare l [.Lt] [r] pos) (fB (au ltI fa fb)):=jz zH HK ha hb (eg _)
theorem Jk(ha:PD X ga l fa)(hb:PD X gb r fb):PB X (.Compare l [.LtE] [r] pos) (fB (au leI fa fb)):=jz oK xx ha hb (eg _)
theorem GP(ha:PD X ga l fa)(hb:PD X gb r fb):PB X (.Compare l [.Gt] [r] pos) (fB (au gtI fa fb)):=jz Fw Kn ha hb (eg _)
def bC(g:D->TN)(f:Fe):Fe:=λenv=>(f env).bind g
def mY:D->TN
 | .int i=>some (.int (-i))
 | _=>none
theorem lQ(ha:PD X ga l fa):PD X .cl (.UnaryOp .USub l pos) (bC mY fa):=PE.imp (EV zY ha) λσ H Q aA=>by
 refine glG λ_ kq=>?_;obtain⟨env,B,Z,d,R,e,k⟩:=aA;obtain⟨x,h1,h2⟩:=a_.mp e;refine kq (⟨env,B,Z,x,R,h1,λv Z1 H1 x1 g1=>?_⟩)
 all_goals clear kq
 cases x<;>cases h2;exact⟨_,g1.int,k _ Z1 H1 x1 rfl⟩
def iQ(f g:Fe):Fe:=λenv=>(f env).bind λx=>match x with | .bl true=>g env | .bl false=>some (.bl false) | _=>none
def GC(f g:Fe):Fe:=λenv=>(f env).bind λx=>match x with | .bl true=>some (.bl true) | .bl false=>g env | _=>none
def Ga:D->TN
 | .bl b=>some (.bl !b)
 | _=>none
variable {rest:Td}{fr:Fe}{gr:Gr}
theorem lV{op}(ha:PD X ga l fa):PD X ga (.BoolOp op [l] pos) fa:=F2 ha
theorem kr(ha:PD X ga l fa)(hb:PD X .cl (.BoolOp .And (r::rest) pos) fr):PD X .cl (.BoolOp .And (l::r::rest) pos) (iQ fa fr):=PE.imp (Hl ha hb) λσ H Q aA=>by
 refine glG λ_ kq=>?_;obtain⟨env,B,Z,d,R,e,k⟩:=aA;obtain⟨x,h1,h2⟩:=a_.mp e;refine kq (⟨env,B,Z,x,R,h1,λv Z1 H1 x1 g1=>?_⟩)
 all_goals clear kq
 cases x with
 | bl b=>
  refine⟨b,g1.bl,?_⟩;cases b with
  | true=>exact pH ⟨env,B,Z1,d,R.ext x1,h2,λu Z2 H2 x2 g2=>k u Z2 H2 (x1.trans x2) g2⟩
  | false=>cases h2;exact qF (k _ Z1 H1 x1 rfl)
 | _=>cases h2
theorem Iz(ha:PD X ga l fa)(hb:PD X .cl (.BoolOp .Or (r::rest) pos) fr):PD X .cl (.BoolOp .Or (l::r::rest) pos) (GC fa fr):=PE.imp (J8 ha hb) λσ H Q aA=>by
 refine glG λ_ kq=>?_;obtain⟨env,B,Z,d,R,e,k⟩:=aA;obtain⟨x,h1,h2⟩:=a_.mp e;refine kq (⟨env,B,Z,x,R,h1,λv Z1 H1 x1 g1=>?_⟩)
 all_goals clear kq
 cases x with
 | bl b=>
  refine⟨b,g1.bl,?_⟩;cases b with
  | false=>exact qF ⟨env,B,Z1,d,R.ext x1,h2,λu Z2 H2 x2 g2=>k u Z2 H2 (x1.trans x2) g2⟩
  | true=>cases h2;exact pH (k _ Z1 H1 x1 rfl)
 | _=>cases h2
theorem Fp(ha:PD X ga l fa):PD X .cl (.UnaryOp .Not l pos) (bC Ga fa):=PE.imp (Gm ha) λσ H Q aA=>by
 refine glG λ_ kq=>?_;obtain⟨env,B,Z,d,R,e,k⟩:=aA;obtain⟨x,h1,h2⟩:=a_.mp e;refine kq (⟨env,B,Z,x,R,h1,λv Z1 H1 x1 g1=>?_⟩)
 all_goals clear kq
 cases x<;>cases h2;exact⟨_,g1.bl,k _ Z1 H1 x1 rfl⟩
def nM(f g:Fb):Fb:=λenv=>(f env).bind λx=>if x=true then g env else some false
def vK(f g:Fb):Fb:=λenv=>(f env).bind λx=>if x=true then some true else g env
def nN(f:Fb):Fb:=λenv=>(f env).bind λx=>some !x
variable {ta tb:Fb}
theorem pG(ha:PB X l ta):FX X (.BoolOp .And [l] pos) ta:=DK ha
theorem wb(ha:PB X l ta):FX X (.BoolOp .Or [l] pos) ta:=GV ha
theorem w_and(ha:PB X l ta)(hb:FX X (.BoolOp .And (r::rest) pos) tb):FX X (.BoolOp .And (l::r::rest) pos) (nM ta tb):=PW.imp (F4 ha hb) λσ H Q aA=>by
 refine glG λ_ kq=>?_;obtain⟨env,B,Z,d,R,e,k⟩:=aA;obtain⟨x,h1,h2⟩:=a_.mp e;refine kq (⟨env,B,Z,x,R,h1,λZ1 H1 x1=>?_⟩)
 all_goals clear kq
 cases x with
 | true=>rw[g_ rfl]at h2;exact pH ⟨env,B,Z1,d,R.ext x1,h2,λZ2 H2 x2=>k Z2 H2 (x1.trans x2)⟩
 | false=>rw[j_ (by simp)]at h2;cases h2;exact qF (k Z1 H1 x1)
theorem w_or(ha:PB X l ta)(hb:FX X (.BoolOp .Or (r::rest) pos) tb):FX X (.BoolOp .Or (l::r::rest) pos) (vK ta tb):=PW.imp (IQ ha hb) λσ H Q aA=>by
 refine glG λ_ kq=>?_;obtain⟨env,B,Z,d,R,e,k⟩:=aA;obtain⟨x,h1,h2⟩:=a_.mp e;refine kq (⟨env,B,Z,x,R,h1,λZ1 H1 x1=>?_⟩)
 all_goals clear kq
 cases x with
 | false=>rw[j_ (by simp)]at h2;exact qF ⟨env,B,Z1,d,R.ext x1,h2,λZ2 H2 x2=>k Z2 H2 (x1.trans x2)⟩
 | true=>rw[g_ rfl]at h2;cases h2;exact pH (k Z1 H1 x1)
theorem Ff(h:FX X l ta):PB X l ta:=PW.pt h
theorem mH(ha:PB X l ta):PB X (.UnaryOp .Not l pos) (nN ta):=PT.imp (Hu ha) λσ H Q aA=>by
 refine glG λ_ kq=>?_;obtain⟨env,B,Z,d,R,e,k⟩:=aA;obtain⟨x,h1,h2⟩:=a_.mp e;cases h2;exact kq (⟨env,B,Z,x,R,h1,λZ1 H1 x1=>k Z1 H1 x1⟩)
def iteFn(t:Fb)(f g:Fe):Fe:=λenv=>(t env).bind λb=>if b=true then f env else g env
theorem sL(ht:PB X t ta)(ha:PD X g l fa)(hb:PD X g r fb):PD X g (.IfExp t l r pos) (iteFn ta fa fb):=PE.imp (Ax ht ha hb) λσ H Q aA=>by
 refine glG λ_ kq=>?_;obtain⟨env,B,Z,d,R,e,k⟩:=aA;obtain⟨x,h1,h2⟩:=a_.mp e;refine kq (⟨env,B,Z,x,R,h1,λZ1 H1 x1=>?_⟩)
 all_goals clear kq
 cases x with
 | true=>rw[g_ rfl]at h2;exact pH ⟨env,B,Z1,d,R.ext x1,h2,λv Z2 H2 x2 g2=>k v Z2 H2 (x1.trans x2) (g2.frm x1.h)⟩
 | false=>rw[j_ (by simp)]at h2;exact qF ⟨env,B,Z1,d,R.ext x1,h2,λv Z2 H2 x2 g2=>k v Z2 H2 (x1.trans x2) (g2.frm x1.h)⟩
def Gi(b b':D->D->TN)(fa fb fc:Fe):Fe:=λenv=>(fa env).bind λx=>(fb env).bind λy=>(b x y).bind λz=>match z with
 | .bl true=>(fc env).bind λw=>b' y w
 | .bl false=>some (.bl false)
 | _=>none
theorem BX{K:Fg}{b b':D->D->TN}{r r':R2}(hb:cQ K .cl b r)(hb':cQ K .cl b' r'){σ:L2.St}{H:Hp}{Q:VK}(h:T K .cl (Gi b b' fa fb fc) σ H Q):zg r r' (T K ga fa) (T K gb fb) (T K gc fc) σ H Q:=by
 refine glG λ_ kq=>?_;obtain⟨env,B,Z,d,R,e,k⟩:=h;obtain⟨dx,h1,e⟩:=a_.mp e;obtain⟨dy,h2,e⟩:=a_.mp e;obtain⟨dz,h3,e⟩:=a_.mp e;refine kq (⟨env,B,Z,dx,R,h1,λv Z1 H1 x1 g1=>⟨env,B,Z1,dy,R.ext x1,h2,λu Z2 H2 x2 g2=>?_⟩⟩)
 all_goals clear kq
 refine hb x2.zh (g1.later x2) (show Gd K Z2 H2 H2 .pk dy u from g2.pk) h3 λz Z3 H3 x3 g3=>?_;cases dz with
 | bl t=>
  refine⟨t,g3.bl,?_⟩;cases t with
  | false=>cases e;exact qF (k _ Z3 H3 ((x1.trans x2).trans x3) rfl)
  | true=>
   obtain⟨dw,h4,h5⟩:=a_.mp e;refine pH ⟨env,B,Z3,dw,((R.ext x1).ext x2).ext x3,h4,λw Z4 H4 x4 g4=>?_⟩;refine hb' x4.zh (show Gd K Z4 H4 H4 .pk dy u from Gd.later x4 (Gd.later (H3:=H3) x3 g2)) (show Gd K Z4 H4 H4 .pk dw w from g4.pk) h5 λq Z5 H5 x5 g5=>?_;exact k q Z5 H5 (((x1.trans x2).trans x3).trans (x4.trans x5)) g5
 | _=>cases e
theorem qx(ho:iy X (compareOp op) r1)(ub:iy X (compareOp op') r2)(hd:cQ X.K .cl b r1)(KF:cQ X.K .cl b' r2)(ha:PD X ga l fa)(hb:PD X gb r fb)(hc:PD X gc c fc)
  (hm:lastMarks [op,op'] [r,c]=false:=by with_unfolding_all rfl):PD X .cl (.Compare l [op,op'] [r,c] pos) (Gi b b' fa fb fc):=PE.imp (Ay ho ub ha hb hc hm) λ_ _ _ h=>BX hd KF h
end
section
variable {X:Cx}{l r c:Tz}{fa fb fc:Fe}{ga gb gc:Gr}{pos p:Pos}
def aM:D->D->TN
 | .lst ds,.int i=>atI ds i
 | .tup ds,.int i=>atI ds i
 | _,_=>none
theorem av.atI{K:Fg}{H:Hp}{ds:TM}{vs:TQ}{i:Int}{d:D}(h:av K H ds vs)(e:L2.atI ds i=some d):∃v,L2.atI vs i=some v/\Rep K H d v:=by
 unfold L2.atI at e ⊢;rw[<- h.len];refine glG λ_ kq=>?_;obtain⟨j,h1,h2⟩:=a_.mp e;obtain⟨v,h3,h4⟩:=h.get h2;exact kq (⟨v,by rw[h1];exact h3,h4⟩)
theorem Kq{K:Fg}:cQ K .cl aM (λx y H Q=>Ks K x y H Q\/IB K x y H Q):=λ{Z H x y dx dy d Q} s h1 h2 e k=>by
 cases dx<;>try cases e
 all_goals (cases dy<;>try cases e)
 .rename_i ds i;refine glG λ_ kq=>?_;obtain⟨a,vs,rfl,hq,rr⟩:=h1.tup s;obtain⟨v,e1,e2⟩:=rr.atI e;exact kq (.inr ⟨a,vs,i,v,rfl,h2.int,hq,e1,k v Z H (Ex.refl s) e2⟩)
 .rename_i ds i;refine glG λ_ kq=>?_;obtain⟨a,vs,rfl,hq,rr⟩:=h1.lst s;obtain⟨v,e1,e2⟩:=rr.atI e;exact kq (.inl ⟨a,vs,i,v,rfl,h2.int,hq,e1,k v Z H (Ex.refl s) e2⟩)
theorem aP(ha:PD X ga l fa)(hb:PD X gb r fb)(hs:wu r:=by intro _ _;rfl):PD X .cl (.Subscript l r pos) (au aM fa fb):=PE.imp (J3 (CJ.or G5) ha hb hs) λ_ _ _ h=>hZ Kq h
abbrev Fo:=En->Option (Option Int)
def PV(K:Fg)(f:Fo):TO:=λσ H Q=>∃env B Z o,Rl K B Z H env σ/\f env=some o/\∀Z' H',Ex Z H Z' H'->Q o H'
def Lq(X:Cx)(e:Option Tz)(f:Fo):Prop:=PO X e (PV X.K f)
theorem PO.imp(h:PO X e t)(i:∀σ H Q,t' σ H Q->t σ H Q):PO X e t':=λpins s σ H Q I q=>h pins s σ H Q I (i σ H Q q)
def oNone:Fo:=λ_=>some none
def jc(f:Fe):Fo:=λenv=>(f env).bind λd=>match d with | .int i=>some (some i) | _=>none
theorem uC:Lq X none oNone:=PO.imp B4 λσ H Q ⟨env,B,Z,o,R,e,k⟩=>by cases e;exact k Z H (Ex.refl R.zh)
theorem u6(h:PD X ga l fa):Lq X (some l) (jc fa):=PO.imp (wq h) λσ H Q aA=>by
 refine glG λ_ kq=>?_;obtain⟨env,B,Z,o,R,e,k⟩:=aA;obtain⟨d,h1,h2⟩:=a_.mp e;refine kq (⟨env,B,Z,d,R,h1,λv Z' H' x g=>?_⟩)
 all_goals clear kq
 cases d<;>cases h2;exact⟨_,g.int,k Z' H' x⟩
def cutD(ds:TM)(lo hi:Option Int):TM:=(ds.drop (HT.nX ds.length 0 lo)).take (HT.nX ds.length ds.length hi-HT.nX ds.length 0 lo)
theorem av.cut{K:Fg}{H:Hp}{ds:TM}{vs:TQ}(h:av K H ds vs)(lo hi:Option Int):av K H (cutD ds lo hi) (xP vs lo hi):=by
 unfold cutD xP;rw[<- h.len];exact(h.drop _).take _
def CI(b:D->Option Int->Option Int->TN)(f:Fe)(lo hi:Fo):Fe:=λenv=>(f env).bind λx=>(lo env).bind λi=>(hi env).bind λj=>b x i j
def gW:D->Option Int->Option Int->TN
 | .lst ds,lo,hi=>some (.lst (cutD ds lo hi))
 | _,_,_=>none
variable {lo hi:Option Tz}{fl fh:Fo}{p2:Pos}
theorem Ba(ha:PD X ga l fa)(hl:Lq X lo fl)(hh:Lq X hi fh):PD X .nw (.Subscript l (.Slice lo hi none p2) pos) (CI gW fa fl fh):=PE.imp (A0 DT ha hl hh) λσ H Q aA=>by
 refine glG λ_ kq=>?_;obtain⟨env,B,Z,d,R,e,k⟩:=aA;obtain⟨x,h1,e⟩:=a_.mp e;obtain⟨i,h2,e⟩:=a_.mp e;obtain⟨j,h3,e⟩:=a_.mp e;cases x<;>cases e;rename_i ds;refine kq (⟨env,B,Z,_,R,h1,λv Z1 H1 x1 g1=>⟨env,B,Z1,i,R.ext x1,h2,λZ2 H2 x2=>⟨env,B,Z2,j,(R.ext x1).ext x2,h3,λZ3 H3 x3=>?_⟩⟩⟩)
 all_goals clear kq
 obtain⟨a,vs,rfl,hq,rr⟩:=Gd.lst x3.zh (Gd.later (H3:=H3) x3 (Gd.later (H3:=H3) x2 g1));refine⟨a,vs,rfl,hq,λq hp=>?_⟩;have x0:=(x1.trans x2).trans x3;exact k _ Z3 _ (x0.trans (Ex.newL x3.zh hp)) ⟨q,_,_,rfl,rfl,x0.h.free hp,aw,x3.zh.free hp,rr.cut i j⟩
def nk:D->D->TN
 | .lst xs,.lst ys=>if xs.length+ys.length<=16000000 then some (.lst (xs++ys))else none
 | _,_=>none
theorem GM(h:n<=16000000):n<=sizeLine:=by rw[P6];lia
theorem HJ{K:Fg}:cQ K .nw nk (λx y H Q=>∃l b xs zs,x=.ref l/\y=.ref b/\cR K H l xs/\cR K H b zs/\xs.length+zs.length<=sizeLine/\∀p,H p=none->Q (.ref p) (upd H p (.lst (xs++zs)))):=λ{Z H x y dx dy d Q} s h1 h2 e k=>by
 cases dx<;>try cases e
 all_goals (cases dy<;>try cases e)
 rename_i xs ys;obtain⟨hl,rfl⟩:=rj e
 .obtain⟨a,vs,rfl,q1,r1⟩:=h1.lst s;obtain⟨b,us,rfl,q2,r2⟩:=h2.lst s;refine⟨a,b,vs,us,rfl,rfl,q1,q2,by rw[<- r1.len,<- r2.len];exact GM hl,λp hp=>?_⟩;exact k _ Z _ (Ex.newL s hp) ⟨p,_,_,rfl,rfl,hp,aw,s.free hp,r1.app r2⟩
def iD(K:Fg)(g:Gr)(b:D->TN)(r:TQ->Hp->VK->Prop):Prop:=
 ∀{Z H:Hp}{x:V}{dx d:D}{Q:VK},aE Z H->Gd K Z H H .pk dx x->b dx=some d->(∀v Z' H',Ex Z H Z' H'->Gd K Z' H H' g d v->Q v H')->r [x] H Q
theorem lW{K:Fg}{g:Gr}{b:D->TN}{rr:TQ->Hp->VK->Prop}(hb:iD K g b rr){σ:L2.St}{H:Hp}{Q:VK}(h:T K g (bC b fa) σ H Q):Lv rr (dI (T K ga fa) tNil) σ H Q:=by
 refine glG λ_ kq=>?_;obtain⟨env,B,Z,d,R,e,k⟩:=h;obtain⟨x,h1,h2⟩:=a_.mp e;refine kq (⟨env,B,Z,x,R,h1,λv Z1 H1 x1 g1=>?_⟩)
 all_goals clear kq
 exact hb x1.zh (show Gd K Z1 H1 H1 .pk x v from g1.pk) h2 λw Z2 H2 x2 g2=>k w Z2 H2 (x1.trans x2) (g2.frm x1.h)
variable {x:Str}{id TT:String}{g:Gr}{b:D->TN}{rr:TQ->Hp->VK->Prop}
theorem wx(hc:dG X (.builtin id) rr)(hd:iD X.K g b rr)(hv:bootBuiltins x=some (.builtin id))(hm:X.mg x=none)(ha:PD X ga l fa)(hn:x≠"__name__":=by decide)(jG:(x==("__debug__":Str))=false:=by decide)(hg:Gl X x:=by rfl)
  (he:starEach [l] X.env=[(false,eval l X.env)]:=by rfl):PD X g (.Call (.Name x p) [l] [] pos) (bC b fa):=PE.imp (fF hc hg hm hv (aJ ha bS he) hn jG he rfl) λ_ _ _ h=>lW hd h
theorem yS(hc:dG X (.type TT) rr)(hd:iD X.K g b rr)(hv:bootBuiltins x=some (.type TT))(hm:X.mg x=none)(ha:PD X ga l fa)(hn:x≠"__name__":=by decide)(jG:(x==("__debug__":Str))=false:=by decide)(hg:Gl X x:=by rfl)
  (he:starEach [l] X.env=[(false,eval l X.env)]:=by rfl):PD X g (.Call (.Name x p) [l] [] pos) (bC b fa):=PE.imp (yy hc hg hm hv (aJ ha bS he) hn jG he rfl) λ_ _ _ h=>lW hd h
def cC:D->TN
 | .lst ds=>some (.int ds.length)
 | .tup ds=>some (.int ds.length)
 | _=>none
theorem Jo{K:Fg}:iD K .cl cC (λxs H Q=>∃p ys,xs=[.ref p]/\(cR K H p ys\/cX K H p ys)/\Q (.int ys.length) H):=λ{Z H x dx d Q} s h e k=>by
 cases dx<;>cases e
 .obtain⟨a,vs,rfl,q,r⟩:=h.tup s;exact⟨a,vs,rfl,.inr q,k _ Z H (Ex.refl s) (by rw[r.len];rfl)⟩
 .obtain⟨a,vs,rfl,q,r⟩:=h.lst s;exact⟨a,vs,rfl,.inl q,k _ Z H (Ex.refl s) (by rw[r.len];rfl)⟩
theorem eH(hm:X.mg "len"=none)(ha:PD X ga l fa)(hg:Gl X "len":=by rfl)(he:starEach [l] X.env=[(false,eval l X.env)]:=by rfl):PD X .cl (.Call (.Name "len" p) [l] [] pos) (bC cC fa):=
 wx qd Jo PySem.boot_len hm ha @1 @1 hg he
def wV:D->TN
 | .lst ds=>some (.lst ds)
 | .tup ds=>some (.lst ds)
 | _=>none
theorem HC{K:Fg}:iD K .nw wV (λxs H Q=>∃p ys,xs=[.ref p]/\(cR K H p ys\/cX K H p ys)/\∀l,H l=none->Q (.ref l) (upd H l (.lst ys))):=λ{Z H x dx d Q} s h e k=>by
 cases dx<;>cases e
 .obtain⟨a,vs,rfl,q,r⟩:=h.tup s;exact⟨a,vs,rfl,.inr q,λp hp=>k _ Z _ (Ex.newL s hp) ⟨p,_,_,rfl,rfl,hp,aw,s.free hp,r⟩⟩
 .obtain⟨a,vs,rfl,q,r⟩:=h.lst s;exact⟨a,vs,rfl,.inl q,λp hp=>k _ Z _ (Ex.newL s hp) ⟨p,_,_,rfl,rfl,hp,aw,s.free hp,r⟩⟩
theorem FT(hm:X.mg "list"=none)(ha:PD X ga l fa)(hg:Gl X "list":=by rfl)(he:starEach [l] X.env=[(false,eval l X.env)]:=by rfl):PD X .nw (.Call (.Name "list" p) [l] [] pos) (bC wV fa):=
 yS qD HC RX hm ha @1 @1 hg he
def kh:D->TN
 | .lst ds=>some (.tup ds)
 | .tup ds=>some (.tup ds)
 | _=>none
theorem CB{K:Fg}:iD K .cl kh (λxs H Q=>∃p ys,xs=[.ref p]/\((cR K H p ys/\∀l,H l=none->Q (.ref l) (upd H l (.tup ys)))\/(cX K H p ys/\Q (.ref p) H))):=λ{Z H x dx d Q} s h e k=>by
 cases dx<;>cases e
 .rename_i ds;rcases h with h | ⟨_,_,_,_,e,_⟩ | ⟨_,_,_,e,_⟩ | ⟨_,_,_,_,_,e,_⟩
  .obtain⟨a,vs,rfl,q,r⟩:=id h;exact⟨a,vs,rfl,.inr ⟨fL s q,k _ Z H (Ex.refl s) h⟩⟩
  .cases e
  .cases e
  .cases e
 .obtain⟨a,vs,rfl,q,r⟩:=h.lst s;refine⟨a,vs,rfl,.inl ⟨q,λp hp=>?_⟩⟩;have s1:aE Z (upd Z p (.tup vs)):=cw (s.free hp);exact k _ _ _ (Ex.new s hp) ⟨p,_,rfl,cX.of aw,av.mono s1 _ r⟩
theorem Dm(hm:X.mg "tuple"=none)(ha:PD X ga l fa)(hg:Gl X "tuple":=by rfl)(he:starEach [l] X.env=[(false,eval l X.env)]:=by rfl):PD X .cl (.Call (.Name "tuple" p) [l] [] pos) (bC kh fa):=
 yS nB CB PyProof.Rows.boot_tuple hm ha @1 @1 hg he
def intD:D->TN
 | .int i=>some (.int i)
 | .bl b=>some (.int (if b then 1 else 0))
 | _=>none
theorem Jx{K:Fg}:iD K .cl intD (λxs H Q=>(∃i,xs=[.int i]/\Q (.int i) H)\/∃k,xs=[.bl k]/\Q (.int (if k then 1 else 0)) H):=λ{Z H x dx d Q} s h e k=>by
 cases dx<;>cases e
 .cases h.bl;exact .inr ⟨_,rfl,k _ Z H (Ex.refl s) rfl⟩
 .cases h.int;exact .inl ⟨_,rfl,k _ Z H (Ex.refl s) rfl⟩
theorem vp(hm:X.mg "int"=none)(ha:PD X ga l fa)(hg:Gl X "int":=by rfl)(he:starEach [l] X.env=[(false,eval l X.env)]:=by rfl):PD X .cl (.Call (.Name "int" p) [l] [] pos) (bC intD fa):=
 yS xF Jx PyProof.Rows.boot_int hm ha @1 @1 hg he
def wQ(K:Fg)(g:Gr)(b:D->D->TN)(r:TQ->Hp->VK->Prop):Prop:=cQ K g b (λx y H Q=>r [x,y] H Q)
theorem ve{K:Fg}{g:Gr}{b:D->D->TN}{rr:TQ->Hp->VK->Prop}(hb:wQ K g b rr){σ:L2.St}{H:Hp}{Q:VK}(h:T K g (au b fa fb) σ H Q):Lv rr (dI (T K ga fa) (dI (T K gb fb) tNil)) σ H Q:=hZ hb h
variable {b2:D->D->TN}
theorem Fv(hc:dG X (.builtin id) rr)(hd:wQ X.K g b2 rr)(hv:bootBuiltins x=some (.builtin id))(hm:X.mg x=none)(ha:PD X ga l fa)(hb:PD X gb r fb)(hn:x≠"__name__":=by decide)(jG:(x==("__debug__":Str))=false:=by decide)(hg:Gl X x:=by rfl)
  (he:starEach [l,r] X.env=(false,eval l X.env)::starEach [r] X.env:=by rfl) (vB:starEach [r] X.env=[(false,eval r X.env)]:=by rfl) (gI:(backTo pos (starEach [r] X.env)).any (·.1)=false:=by rfl):PD X g (.Call (.Name x p) [l,r] [] pos) (au b2 fa fb):=
 PE.imp (fF hc hg hm hv (aJ ha (aJ hb bS vB) he) hn jG he gI) λ_ _ _ h=>ve hd h
abbrev maxI:=iF λi j=>.int (if j>i then j else i)
abbrev minI:=iF λi j=>.int (if j<i then j else i)
theorem II{K:Fg}:wQ K .cl maxI (λxs H Q=>∃i j,xs=[.int i,.int j]/\Q (.int (if j>i then j else i)) H):=λ{Z H x y dx dy d Q} s h1 h2 e k=>by
 cases dx<;>try cases e
 all_goals (cases dy<;>cases e)
 cases h1.int;cases h2.int;exact⟨_,_,rfl,k _ Z H (Ex.refl s) rfl⟩
theorem JO{K:Fg}:wQ K .cl minI (λxs H Q=>∃i j,xs=[.int i,.int j]/\Q (.int (if j<i then j else i)) H):=λ{Z H x y dx dy d Q} s h1 h2 e k=>by
 cases dx<;>try cases e
 all_goals (cases dy<;>cases e)
 cases h1.int;cases h2.int;exact⟨_,_,rfl,k _ Z H (Ex.refl s) rfl⟩
theorem Jq(hm:X.mg "max"=none)(bF:X.calm=true)(ha:PD X ga l fa)(hb:PD X gb r fb)(hg:Gl X "max":=by rfl)(he:starEach [l,r] X.env=(false,eval l X.env)::starEach [r] X.env:=by rfl)(vB:starEach [r] X.env=[(false,eval r X.env)]:=by rfl)(gI:(backTo pos (starEach [r] X.env)).any (·.1)=false:=by rfl) :
  PD X .cl (.Call (.Name "max" p) [l,r] [] pos) (au maxI fa fb):=Fv (xq bF) II PyProof.Rows.boot_max hm ha hb @1 @1 hg he vB gI
theorem JZ(hm:X.mg "min"=none)(bF:X.calm=true)(ha:PD X ga l fa)(hb:PD X gb r fb)(hg:Gl X "min":=by rfl)(he:starEach [l,r] X.env=(false,eval l X.env)::starEach [r] X.env:=by rfl)(vB:starEach [r] X.env=[(false,eval r X.env)]:=by rfl)(gI:(backTo pos (starEach [r] X.env)).any (·.1)=false:=by rfl) :
  PD X .cl (.Call (.Name "min" p) [l,r] [] pos) (au minI fa fb):=Fv (xk bF) JO PyProof.Rows.boot_min hm ha hb @1 @1 hg he vB gI
def AY(K:Fg)(n:Nat)(g:Gr)(m:TM->TN):Sp:=λvs H Q _=>∃Z ds d,ds.length=n/\aE Z H/\av K Z ds vs/\m ds=some d/\∀v Z' H',Ex Z H Z' H'->Gd K Z' H H' g d v->Q v H'
structure KR(P:Program)(w:World)(K:Fg)(mg:Str->Option Value)(base:Heap)(k:Nat)(x:Str)(n:Nat)(g:Gr)(m:List D->Option D):Prop where
 ex:∃f fd ps,ps.length=n/\dM P w K mg base kO k f fd ps (AY K n g m)/\mg x=some (.ref f)/\PySem.W.keepIn K (.ref f)=true/\Binds K fd ps []
variable {m:TM->TN}{k n:Nat}{es:Td}{fs:Fes}
theorem yQ(C:KR X.prog X.w X.K X.mg X.base k x n g m)(hr:bG k X.A)(hl:PL X (l::es) fs)(hn:(l::es).length=n:=by rfl)(hg:Gl X x:=by rfl)(jG:(x==("__debug__":Str))=false:=by decide)
  (he:starEach (l::es) X.env=(false,eval l X.env)::starEach es X.env:=by rfl) (gI:(backTo pos (starEach es X.env)).any (·.1)=false:=by rfl):PD X g (.Call (.Name x p) (l::es) [] pos) (λenv=>(fs env).bind m):=by
 obtain⟨f,fd,ps,OQ,F,hm,hk,hb⟩:=C.ex;refine PE.imp (DC F hr hg hm hk hb .nil IF hl.p jG he gI) λσ H Q aA=>?_;refine glG λ_ kq=>?_;obtain⟨env,B,Z,d,R,e,kk⟩:=aA;obtain⟨ds,h1,h2⟩:=a_.mp e;refine kq (⟨env,B,Z,ds,R,h1,λvs Z1 H1 x1 r=>?_⟩)
 all_goals clear kq
 show AY X.K n g m (vs++[]) H1 Q E0;rw[P9];exact⟨Z1,ds,d,by rw[hl.l env ds h1];exact hn,x1.zh,r,h2,λv Z' H' x2 g2=>kk v Z' H' (x1.trans x2) (g2.frm x1.h)⟩
end
inductive Out where
 | nx (env:En) | rt (d:D) | bk (env:En) | ct (env:En)
abbrev Fs:=En->Option Out
def tf(K:Fg)(rg:Gr)(B Z:Hp)(E:Ends):Out->Prop
 | .nx env'=>∀σ' Z' H',Ex Z B Z' H'->Rl K B Z' H' env' σ'->E.nx σ' H'
 | .bk env'=>∀σ' Z' H',Ex Z B Z' H'->Rl K B Z' H' env' σ'->E.bk σ' H'
 | .ct env'=>∀σ' Z' H',Ex Z B Z' H'->Rl K B Z' H' env' σ'->E.ct σ' H'
 | .rt d=>∀v Z' H',Ex Z B Z' H'->Gd K Z' B H' rg d v->E.rt v H'
def Iq(K:Fg)(rg:Gr)(f:Fs):TS:=λE σ H=>∃env B Z o,Rl K B Z H env σ/\f env=some o/\tf K rg B Z E o
def SD(X:Cx)(rg:Gr)(st:TC)(f:Fs):Prop:=PS X st (Iq X.K rg f)
def uk(X:Cx)(rg:Gr)(st:Te)(f:Fs):Prop:=PSs X st (Iq X.K rg f)
section
variable {X:Cx}{rg:Gr}{st:TC}{rn:Te}{f g:Fs}{pos:Pos}
theorem PS.imp(h:PS X st t)(i:∀E σ H,t' E σ H->t E σ H):PS X st t':=λpins s σ H E I q=>h pins s σ H E I (i E σ H q)
theorem PSs.imp(h:PSs X rn t)(i:∀E σ H,t' E σ H->t E σ H):PSs X rn t':=λpins s σ H E I q=>h pins s σ H E I (i E σ H q)
theorem tf.later{K:Fg}{B Z Z1 H1:Hp}{E:Ends}{o:Out}(x:Ex Z B Z1 H1)(h:tf K rg B Z E o):tf K rg B Z1 E o:=by
 cases o with
 | nx e=>exact λσ' Z' H' y=>h σ' Z' H' (x.transB y)
 | bk e=>exact λσ' Z' H' y=>h σ' Z' H' (x.transB y)
 | ct e=>exact λσ' Z' H' y=>h σ' Z' H' (x.transB y)
 | rt e=>exact λv Z' H' y=>h v Z' H' (x.transB y)
def nxF:Fs:=λenv=>some (.nx env)
def aF(f g:Fs):Fs:=λenv=>(f env).bind λo=>match o with | .nx e=>g e | o=>some o
theorem bZ:uk X rg [] nxF:=PSs.imp wY λE σ H ⟨env,B,Z,o,R,e,k⟩=>by cases e;exact k σ Z H ⟨R.bh,aE.refl _,R.zh,λ_ _ h=>h,λ_ _ _ h=>h⟩ R
theorem ao(h1:SD X rg st f)(h2:uk X rg rn g):uk X rg (st::rn) (aF f g):=PSs.imp (d9 h1 h2) λE σ H aA=>by
 refine glG λ_ kq=>?_;obtain⟨env,B,Z,o,R,e,k⟩:=aA;obtain⟨o1,e1,e2⟩:=a_.mp e;refine kq (⟨env,B,Z,o1,R,e1,?_⟩)
 all_goals clear kq
 cases o1 with
 | nx Eu=>exact λσ' Z' H' x R'=>⟨Eu,B,Z',o,R',e2,k.later x⟩
 | rt d=>cases e2;exact k
 | bk d=>cases e2;exact k
 | ct d=>cases e2;exact k
theorem aB(h1:SD X rg st f):uk X rg [st] f:=fP h1
def sg(i:Nat):Fs:=λenv=>match env[i]? with
 | some (.O w)=>some (.nx (env.set i (.F w.d)))
 | some (.F d)=>some (.nx env)
 | _=>none
theorem Bb(i:Nat)(h:uk X rg rn g):uk X rg rn (aF (sg i) g):=PSs.imp h λE σ H aA=>by
 obtain⟨env,B,Z,o,R,e,k⟩:=aA;obtain⟨o1,e1,e2⟩:=a_.mp e;unfold sg at e1
 split at e1
 .rename_i ds hi;cases e1;obtain⟨Z',R',x⟩:=R.frz hi;exact⟨_,B,Z',o,R',e2,k.later x⟩
 .cases e1;exact⟨env,B,Z,o,R,e2,k⟩
 .cases e1
def bw(f:Fe):Fs:=λenv=>(f env).bind λd=>some (.rt d)
theorem aV{e:Tz}{f:Fe}(h:PD X rg e f):SD X rg (.Return (some e) pos) (bw f):=PS.imp (kc h) λE σ H aA=>by
 refine glG λ_ kq=>?_;obtain⟨env,B,Z,o,R,e,k⟩:=aA;obtain⟨d,e1,e2⟩:=a_.mp e;cases e2;exact kq (⟨env,B,Z,d,R,e1,λv Z' H' x g=>k v Z' H' (x.part R.bh) (g.frm R.bh)⟩)
def pE(i:Nat):Fs:=λenv=>match env[i]? with
 | some (.O (.L ds))=>some (.rt (.lst ds))
 | _=>none
theorem iO(i:Nat)(hN:X.N[i]?=some x:=by rfl)(hv:vZ X.env.scope x:=by first | exact Or.inl rfl | exact Or.inr (Or.inl rfl) | exact Or.inr (Or.inr rfl))(hd:(x==("__debug__":Str))=false:=by decide)
  (eC:(x==("__classdict__":Str))=false:=by decide):SD X .nw (.Return (some (.Name x p)) pos) (pE i):=PS.imp (kc (bV hN hv hd eC)) λE σ H aA=>by
 obtain⟨env,B,Z,o,R,e,k⟩:=aA;unfold pE at e
 split at e
 .rename_i ds hi;cases e;obtain⟨y,e1,a,o,e2,e3,e4,vs,rfl,r⟩:=R.sl i _ hi;subst e2;exact⟨_,e1,k _ Z H ⟨R.bh,aE.refl _,R.zh,λ_ _ h=>h,λ_ _ _ h=>h⟩ ⟨a,vs,ds,rfl,rfl,R.ob i _ a hi e1,e3,e4,r⟩⟩
 .cases e
def iW(t:Fb)(f g:Fs):Fs:=λenv=>(t env).bind λb=>if b=true then f env else g env
theorem dZ(hc:PB X c t)(ha:uk X rg a f)(hb:uk X rg b g):SD X rg (.If c a b pos) (iW t f g):=PS.imp (zW hc ha hb) λE σ H aA=>by
 refine glG λ_ kq=>?_;obtain⟨env,B,Z,o,R,e,k⟩:=aA;obtain⟨x,e1,e2⟩:=a_.mp e;refine kq (⟨env,B,Z,x,R,e1,λZ1 H1 x1=>?_⟩)
 all_goals clear kq
 cases x with
 | true=>rw[g_ rfl]at e2;exact pH ⟨env,B,Z1,o,R.ext x1,e2,k.later (x1.part R.bh)⟩
 | false=>rw[j_ (by simp)]at e2;exact qF ⟨env,B,Z1,o,R.ext x1,e2,k.later (x1.part R.bh)⟩
def setF(i:Nat)(f:Fe):Fs:=λenv=>(f env).bind λd=>some (.nx (env.set i (.F d)))
def setO(i:Nat)(f:Fe):Fs:=λenv=>(f env).bind λd=>match d with | .lst ds=>some (.nx (env.set i (.O (.L ds)))) | _=>none
theorem y7{f:Fe}{i:Nat}{E:Ends}{σ:L2.St}{H:Hp}(h:Iq X.K rg (setF i f) E σ H):uM (T X.K .cl f) (l' i) E σ H:=by
 refine glG λ_ kq=>?_;obtain⟨env,B,Z,o,R,e,k⟩:=h;obtain⟨d,e1,e2⟩:=a_.mp e;cases e2;exact kq (⟨env,B,Z,d,R,e1,λv Z' H' x g=>k _ Z' H' (x.part R.bh) ((R.ext x).setF i g)⟩)
theorem xh{f:Fe}{i:Nat}{E:Ends}{σ:L2.St}{H:Hp}(h:Iq X.K rg (setO i f) E σ H):uM (T X.K .nw f) (l' i) E σ H:=by
 refine glG λ_ kq=>?_;obtain⟨env,B,Z,o,R,e,k⟩:=h;obtain⟨d,e1,e2⟩:=a_.mp e;cases d<;>cases e2;rename_i ds;refine kq (⟨env,B,Z,_,R,e1,λv Z' H' x g=>?_⟩)
 all_goals clear kq
 obtain⟨a,vs,KO,rfl,e3,h1,h2,h3,r⟩:=g;cases e3;refine k _ Z' H' (x.part R.bh) ((R.ext x).setO i (R.bh.free h1) h3 h2 ⟨vs,rfl,r⟩ λj es hj hje hja=>?_);obtain⟨y,e4,b,us,e5,e6,_⟩:=R.sl j _ hje;rw[hja]at e4;cases e4;cases e5;rw[h1]at e6;cases e6
section
variable {x:Str}{e:Tz}{fe:Fe}{pos':Pos}
theorem a9(i:Nat)(he:PD X .cl e fe)(hN:X.N.Nodup)(hi:X.N[i]?=some x:=by rfl)(hx:Loc X.env.scope x:=by first | exact Or.inl rfl | exact Or.inr rfl)(hs:swapsWith e (some (.Name x pos')) pos.line X.env=pure false:=by rfl)
  (hf:X.fn x=true\/X.env.scope.names.lookup x=some .local:=by first | exact .inl rfl | exact .inr rfl | assumption):SD X rg (.Assign [.Name x pos'] e pos) (setF i fe):=PS.imp (gP hN hi hx he hs hf) λE σ H h=>y7 h
theorem eU(i:Nat)(he:PD X .nw e fe)(hN:X.N.Nodup)(hi:X.N[i]?=some x:=by rfl)(hx:Loc X.env.scope x:=by first | exact Or.inl rfl | exact Or.inr rfl)(hs:swapsWith e (some (.Name x pos')) pos.line X.env=pure false:=by rfl)
  (hf:X.fn x=true\/X.env.scope.names.lookup x=some .local:=by first | exact .inl rfl | exact .inr rfl | assumption):SD X rg (.Assign [.Name x pos'] e pos) (setO i fe):=PS.imp (gP hN hi hx he hs hf) λE σ H h=>xh h
end
def g8(i:Nat)(f:Fe):Fs:=λenv=>match env[i]? with
 | some (.O (.L ds))=>(f env).bind λd=>if ds.length<16000000 then some (.nx (env.set i (.O (.L (ds++[d])))))else none
 | _=>none
theorem ky(i:Nat)(he:PD X .cl e fe)(hN:X.N[i]?=some x:=by rfl)(hv:vZ X.env.scope x:=by first | exact Or.inl rfl | exact Or.inr (Or.inl rfl) | exact Or.inr (Or.inr rfl))
  (hd:(x==("__debug__":Str))=false:=by decide) (eC:(x==("__classdict__":Str))=false:=by decide) (gq:starEach [e] X.env=[(false,eval e X.env)]:=by rfl)
  (jH:attributeBase (.Name x px) "append" X.env (eval (.Name x px) X.env)=eval (.Name x px) X.env:=by rfl)
  (qX:((backTo bU (starEach [e] X.env)).all (λx=>!x.1)&&(backToKw bU (keywordEach [] X.env)).all (λx=>x.1.isSome)
   && decide (([e]:Td).length+([]:List Keyword).length+(if([]:List Keyword).isEmpty then 0 else 1)<30))=true:=by rfl)
  (jI:(apos.endLine==bU.line)=true:=by rfl)
  (hs:swapsWith (.Call (.Attribute (.Name x px) "append" apos) [e] [] bU) none pos.line X.env=pure false:=by rfl) :
  SD X rg (.Expr (.Call (.Attribute (.Name x px) "append" apos) [e] [] bU) pos) (g8 i fe):=by
 refine PS.imp (jo (vW Rb PySem.F.slot_list_append PySem.F.type_list_append kf (bV hN hv hd eC) (aJ he bS gq) jH qX jI gq rfl) hs) λE σ H aA=>?_;obtain⟨env,B,Z,o,R,e,k⟩:=aA;unfold g8 at e
 split at e
 .rename_i ds hi;obtain⟨d,e1,e2⟩:=a_.mp e;obtain⟨hl,rfl⟩:=rj e2
  .obtain⟨y,e3,a,o,e4,e5,e6,vs,rfl,r⟩:=R.sl i _ hi;subst e4;refine⟨_,e3,.inl ⟨rfl,vs,cR.of e5⟩,env,B,Z,d,R,e1,λv Z1 H1 x1 g1=>?_⟩;have R1:=R.ext x1;have r1:=av.mono x1.z ds r;have ha:=x1.h _ _ e5;refine⟨a,vs,v,rfl,rfl,ha,by rw[<- r.len,P6];lia,?_⟩;obtain⟨R2,x2⟩:=R1.wr hi e3 (cP.l (r1.app (av.one g1)));exact k σ Z1 _ ((x1.part R.bh).transB x2) R2
 .cases e
def rM(i:Nat)(fk fe:Fe):Fs:=λenv=>(fe env).bind λd=>match env[i]? with
 | some (.O (.L ds))=>(fk env).bind λkd=>match kd with
  | .int j=>(xK ds.length j).bind λn=>some (.nx (env.set i (.O (.L (ds.set n d)))))
  | _=>none
 | _=>none
theorem v9(i:Nat)(he:PD X .cl e fe)(hk:PD X gk ke fk)(hN:X.N[i]?=some x:=by rfl)(hv:vZ X.env.scope x:=by first | exact Or.inl rfl | exact Or.inr (Or.inl rfl) | exact Or.inr (Or.inr rfl))
  (hd:(x==("__debug__":Str))=false:=by decide) (eC:(x==("__classdict__":Str))=false:=by decide)
  (ha:∀v,assign (.Subscript (.Name x px) ke p2) X.env v=(do
   let ov <- holding [v] (eval (.Name x px) X.env)
   let iv <- holding [v,ov] (eval ke X.env)
   standAt p2
   holding [v,ov,iv] (setItem ov iv v)
   release [v,ov,iv] []):=by intro _;rfl)
  (hs:swapsWithSole [.Subscript (.Name x px) ke p2] e pos.line X.env=pure false:=by rfl) (hw:swappedStores [.Subscript (.Name x px) ke p2] e X.env=pure none:=by rfl)
  (h1:(assignEach [.Subscript (.Name x px) ke p2] X.env).map (·.2)=[assign (.Subscript (.Name x px) ke p2) X.env]:=by rfl) :
  SD X rg (.Assign [.Subscript (.Name x px) ke p2] e pos) (rM i fk fe):=by
 refine PS.imp (qK he (GI (bV hN hv hd eC) hk set_list ha) hs hw h1) λE σ H aA=>?_;refine glG λ_ kq=>?_;obtain⟨env,B,Z,o,R,e,k⟩:=aA;obtain⟨d,e1,e⟩:=a_.mp e;refine kq (⟨env,B,Z,d,R,e1,λv Z1 H1 x1 g1=>?_⟩)
 all_goals clear kq
 split at e
 .rename_i ds hi;refine glG λ_ kq=>?_;obtain⟨kd,e2,e⟩:=a_.mp e;cases kd<;>try cases e
  rename_i j;obtain⟨n,e3,e⟩:=a_.mp e;cases e;have R1:=R.ext x1;obtain⟨y,e4,a,o,e5,e6,e7,vs,rfl,r⟩:=R1.sl i _ hi;subst e5;refine kq (⟨_,e4,env,B,Z1,_,R1,e2,λkv Z2 H2 x2 g2=>?_⟩)
  all_goals clear kq
  have R2:=R1.ext x2;refine⟨a,vs,j,n,rfl,g2.int,x2.h _ _ e6,by rw[<- r.len];exact e3,?_⟩;obtain⟨R3,x3⟩:=R2.wr hi e4 (cP.l ((av.mono x2.z ds r).set (Rep.mono x2.z d g1) n));exact k σ Z2 _ (((x1.trans x2).part R.bh).transB x3) R3
 .cases e
end
abbrev Ft:=D->En->Option En
def Py(K:Fg)(t:Ft):TG:=λv σ H Q=>∃env B Z d env',Rl K B Z H env σ/\Rep K Z d v/\t d env=some env'/\∀σ',Rl K B Z H env' σ'->Q σ' H
def GD(X:Cx)(tg:Tz)(t:Ft):Prop:=PG X tg (Py X.K t)
section
variable {X:Cx}{rg:Gr}
theorem PG.imp(h:PG X e t)(i:∀v σ H Q,t' v σ H Q->t v σ H Q):PG X e t':=λpins s σ H v u Q I r q=>h pins s σ H v u Q I r (i v σ H Q q)
def bu(i:Nat):Ft:=λd env=>some (env.set i (.F d))
theorem aN(i:Nat)(hN:X.N.Nodup)(hi:X.N[i]?=some x:=by rfl)(hx:Loc X.env.scope x:=by first | exact Or.inl rfl | exact Or.inr rfl)
  (hf:X.fn x=true\/X.env.scope.names.lookup x=some .local:=by first | exact .inl rfl | exact .inr rfl | assumption):GD X (.Name x pos) (bu i):=PG.imp (lr hN hi hx hf) λv σ H Q aA=>by
 obtain⟨env,B,Z,d,env',R,r,e,k⟩:=aA;cases e;exact k _ (R.setF i r)
def er:Tf->TM->En->Option En
 | [],[],env=>some env
 | i::is,d::ds,env=>er is ds (env.set i (.F d))
 | _,_,_=>none
def Na(K:Fg)(is:Tf):TGs:=λvs σ H Q=>∃env B Z ds env',Rl K B Z H env σ/\av K Z ds vs/\er is ds env=some env'/\∀σ',Rl K B Z H env' σ'->Q σ' H
def Hk(X:Cx)(KS:Td)(is:Tf):Prop:=xc X KS (Na X.K is)
theorem xc.imp(h:xc X e t)(i:∀v σ H Q,t' v σ H Q->t v σ H Q):xc X e t':=λpins s σ H v u Q I r q=>h pins s σ H v u Q I r (i v σ H Q q)
theorem bL:Hk X [] []:=xc.imp Cu λv σ H Q aA=>by
 obtain⟨env,B,Z,ds,env',R,r,e,k⟩:=aA;cases ds with
 | nil=>cases e;exact⟨r,k _ R⟩
 | cons d ds=>cases e
theorem ax(i:Nat)(hN:X.N.Nodup)(h:Hk X KS is)(hi:X.N[i]?=some x:=by rfl)(hx:Loc X.env.scope x:=by first | exact Or.inl rfl | exact Or.inr rfl)
  (hf:X.fn x=true\/X.env.scope.names.lookup x=some .local:=by first | exact .inl rfl | exact .inr rfl | assumption)
  (hs:(assignEach (.Name x pos::KS) X.env).map (·.2)=assign (.Name x pos) X.env::(assignEach KS X.env).map (·.2):=by rfl):Hk X (.Name x pos::KS) (i::is):=xc.imp (rT (lr hN hi hx hf) h hs) λv σ H Q aA=>by
 obtain⟨env,B,Z,ds,env',R,r,e,k⟩:=aA;cases ds with
 | nil=>cases e
 | cons d ds=>
  obtain⟨w,rr,e1,r1,r2⟩:=r;exact⟨w,rr,e1,env.set i (.F d),B,Z,ds,env',R.setF i r1,r2,e,k⟩
def kE(is:Tf):Ft:=λd env=>match d with
 | .tup ds=>er is ds env
 | _=>none
theorem iM:∀{is:Tf}{ds:TM}{env env':En},er is ds env=some env'->ds.length=is.length
 | [],[],_,_,_=>rfl
 | i::is,d::ds,_,_,h=>by simp[iM (ds:=ds) h]
 | [],_::_,_,_,h=>by cases h
 | _::_,[],_,_,h=>by cases h
theorem fM(hc:X.calm=true)(h:Hk X es is)(hn:(assignEach es X.env).length=is.length:=by rfl)(gq:(assignEach es X.env).findIdx? (·.1)=none:=by rfl):GD X (.Tuple es k pos) (kE is):=
 PG.imp (FO hc h hn gq) λv σ H Q aA=>by
  refine glG λ_ kq=>?_;obtain⟨env,B,Z,d,env',R,r,e,k⟩:=aA;cases d<;>try cases e
  rename_i ds;obtain⟨a,vs,e1,hq,rr⟩:=r;exact kq (⟨a,vs,e1,fL R.zh hq,by rw[<- rr.len];exact iM e,env,B,Z,ds,env',R,rr,e,k⟩)
def cu(t:Ft)(body:Fs):TM->Fs
 | [],env=>some (.nx env)
 | d::ds,env=>(t d env).bind λe1=>(body e1).bind λo=>match o with
  | .nx e2=>cu t body ds e2
  | .ct e2=>cu t body ds e2
  | .bk e2=>some (.nx e2)
  | .rt d=>some (.rt d)
abbrev Fi:=En->TK
def Walk(K:Fg)(Z1:Hp)(ds:TM)(J:It):Prop:=∀(Z' H':Hp),aE Z1 Z'->aE Z' H'->∀i,
 (i<ds.length->J.go i H'/\∀x H'',J.yld i H' x H''->∃Z'' d,Ex Z' H' Z'' H''/\ds[i]?=some d/\Rep K Z'' d x)/\(ds.length<=i->J.stop i H')
def PN(K:Fg)(f:Fi):TI:=λσ H R=>∃env B Z ds,Rl K B Z H env σ/\f env=some ds/\∀J Z1 H1,Ex Z H Z1 H1->Walk K Z1 ds J->R J H1
def ID(X:Cx)(tg iter:Tz)(f:Fi):Prop:=PI X tg iter (PN X.K f)
theorem PI.imp(h:PI X tg e t)(i:∀σ H R,t' σ H R->t σ H R):PI X tg e t':=λpins s σ H R I q=>h pins s σ H R I (i σ H R q)
def cS(f:Fe):Fi:=λenv=>(f env).bind λd=>match d with | .lst ds=>some ds | _=>none
def xN(f:Fe):Fi:=λenv=>(f env).bind λd=>match d with | .tup ds=>some ds | _=>none
theorem yk{K:Fg}{Z1:Hp}{a:Tv}{vs:TQ}{ds:TM}(q:cR K Z1 a vs)(rr:av K Z1 ds vs):Walk K Z1 ds (MH K a):=λZ' H' s1 s2 i=>by
 have q':=(s1.trans s2).seq q;refine⟨λhi=>⟨⟨vs,vs[i]'(by rw[<- rr.len];exact hi),q',by simp[<- rr.len,hi]⟩,λx H'' y=>?_⟩,λhi=>⟨vs,q',by rw[<- rr.len];exact hi⟩⟩;refine glG λ_ kq=>?_;obtain⟨e,y⟩:=y;obtain⟨d,h1,h2⟩:=rr.getV (y vs q');subst e;exact kq (⟨Z',d,Ex.refl s2,h1,Rep.mono s1 d h2⟩)
theorem AM{K:Fg}{Z1:Hp}{a:Tv}{vs:TQ}{ds:TM}(q:cX K Z1 a vs)(rr:av K Z1 ds vs):Walk K Z1 ds (MY K a):=λZ' H' s1 s2 i=>by
 have q':=fL (s1.trans s2) q;refine⟨λhi=>⟨⟨vs,vs[i]'(by rw[<- rr.len];exact hi),q',by simp[<- rr.len,hi]⟩,λx H'' y=>?_⟩,λhi=>⟨vs,q',by rw[<- rr.len];exact hi⟩⟩;refine glG λ_ kq=>?_;obtain⟨e,y⟩:=y;obtain⟨d,h1,h2⟩:=rr.getV (y vs q');subst e;exact kq (⟨Z',d,Ex.refl s2,h1,Rep.mono s1 d h2⟩)
theorem aU(h:PD X .cl l f):ID X tg l (cS f):=PI.imp (Ef h) λσ H R aA=>by
 refine glG λ_ kq=>?_;obtain⟨env,B,Z,ds,Rr,e,k⟩:=aA;obtain⟨d,e1,e2⟩:=a_.mp e;cases d<;>cases e2;refine kq (⟨env,B,Z,_,Rr,e1,λv Z1 H1 x1 g1=>?_⟩)
 all_goals clear kq
 obtain⟨a,vs,e,q,r⟩:=g1;exact⟨a,e,⟨vs,x1.zh.seq q⟩,k _ Z1 H1 x1 (yk q r)⟩
theorem o8(h:PD X .cl l f):ID X tg l (xN f):=PI.imp (Hv h) λσ H R aA=>by
 refine glG λ_ kq=>?_;obtain⟨env,B,Z,ds,Rr,e,k⟩:=aA;obtain⟨d,e1,e2⟩:=a_.mp e;cases d<;>cases e2;refine kq (⟨env,B,Z,_,Rr,e1,λv Z1 H1 x1 g1=>?_⟩)
 all_goals clear kq
 obtain⟨a,vs,e,q,r⟩:=g1;exact⟨a,e,⟨vs,fL x1.zh q⟩,k _ Z1 H1 x1 (AM q r)⟩
def aI(lo:Int)(n:Nat):TM:=(List.range n).map λi=>.int (lo+(i:Nat))
theorem Ab{K:Fg}{Z1:Hp}(lo:Int)(n:Nat):Walk K Z1 (aI lo n) (LK lo n):=λZ' H' s1 s2 i=>by
 have hl:(aI lo n).length=n:=by simp[aI]
 rw[hl];refine⟨λhi=>⟨hi,λx H'' y=>?_⟩,λh=>h⟩;obtain⟨e,y⟩:=y;subst e;subst y;exact⟨Z',.int (lo+i),Ex.refl s2,by simp[aI,hi],rfl⟩
def z6(j:Int):Bool:=decide (-4000000000000000000<j/\j<4000000000000000000)
def fg(f:Fe):Fi:=λenv=>(f env).bind λd=>match d with
 | .int j=>if z6 j then some (aI 0 j.toNat)else none
 | _=>none
theorem bJ(hm:X.mg "range"=none)(h:PD X ga l f)(hg:Gl X "range":=by rfl)(hs:starEach [l] X.env=[(false,eval l X.env)]:=by rfl):ID X tg (.Call (.Name "range" p) [l] [] pos) (fg f):=
 PI.imp (xi hg hm (aJ h bS hs) hs) λσ H R aA=>by
  obtain⟨env,B,Z,ds,Rr,e,k⟩:=aA;obtain⟨d,e1,e2⟩:=a_.mp e;cases d<;>try cases e2
  rename_i j;obtain⟨hj,rfl⟩:=rj e2
  .have hj':=QI hj;refine⟨env,B,Z,_,Rr,e1,λv Z1 H1 x1 g1=>⟨j,by rw[g1.int],by omega,by omega,k _ Z1 H1 x1 (Ab 0 j.toNat)⟩⟩
def dY(fi:Fi)(t:Ft)(body:Fs):Fs:=λenv=>(fi env).bind λds=>cu t body ds env
theorem cO(hp:PassesOwn @2 X.A X.env X.xe)(hc:X.calm=true)(hi:ID X tg iter fi)(hg:GD X tg t)(hb:uk X rg body fb)
  (hs:∀x,foldedSetIterable iter X.env x=pure x:=by intro _;rfl):SD X rg (.For tg iter body [] pos) (dY fi t fb):=PS.imp (GU hp hc hi hg hb hs) λE σ H aA=>by
 refine glG λ_ kq=>?_;obtain⟨env,B,Z,o,R,e,k⟩:=aA;obtain⟨ds,e1,e2⟩:=a_.mp e;refine kq (⟨env,B,Z,ds,R,e1,λJ Z1 H1 x1 wk=>?_⟩)
 all_goals clear kq
 let In:Nat->L2.St->Hp->Prop:=λi σ H=>∃env' Z',Ex Z B Z' H/\aE Z1 Z'/\Rl X.K B Z' H env' σ/\cu t fb (ds.drop i) env'=some o
 refine⟨λi m σ H=>m=ds.length-i/\i<=ds.length/\In i σ H,⟨ds.length,by simp,Rv _,env,Z1,x1.part R.bh,aE.refl _,R.ext x1,by simpa using e2⟩,?_⟩;rintro i m σ2 H2 ⟨rfl,hi,env',Z',x2,s2,R2,e3⟩;obtain⟨w1,w2⟩:=wk Z' H2 s2 R2.zh i
 by_cases kZ:i<ds.length
 .obtain⟨go,yl⟩:=w1 kZ;refine .inr ⟨go,In (i+1),λσ' H' n=>⟨ds.length-(i+1),by omega,rfl,kZ,n⟩,λx H3 y=>?_⟩;refine glG λ_ kq=>?_;obtain⟨Z3,d,x3,hd,r3⟩:=yl x H3 y;have Nk:ds.drop i=d::ds.drop (i+1):=by
   obtain⟨h1,h2⟩:=h_.mp hd;rw[Q5 h1,h2]
  rw[Nk]at e3;unfold cu at e3;obtain⟨OR,e4,e5⟩:=a_.mp e3;obtain⟨o1,e6,e7⟩:=a_.mp e5;have R3:=R2.ext x3;have x4:=x2.transB (x3.part R2.bh);refine kq (⟨env',B,Z3,d,OR,R3,r3,e4,λσ4 R4=>⟨OR,B,Z3,o1,R4,e6,?_⟩⟩)
  all_goals clear kq
  cases o1 with
  | nx LV=>exact λσ5 Z5 H5 x5 R5=>⟨LV,Z5,x4.transB x5,(s2.trans x3.z).trans x5.z,R5,e7⟩
  | ct LV=>exact λσ5 Z5 H5 x5 R5=>⟨LV,Z5,x4.transB x5,(s2.trans x3.z).trans x5.z,R5,e7⟩
  | bk LV=>cases e7;exact λσ5 Z5 H5 x5 R5=>k σ5 Z5 H5 (x4.transB x5) R5
  | rt d=>cases e7;exact λv Z5 H5 x5 g5=>k v Z5 H5 (x4.transB x5) g5
 .refine .inl ⟨w2 (by omega),?_⟩;rw[List.drop_eq_nil_of_le (by omega)]at e3;cases e3;exact k σ2 Z' H2 x2 R2
def yH(is:Tf)(f:Fe):Fs:=λenv=>(f env).bind λd=>(kE is d env).bind λe=>some (.nx e)
theorem uG(hc:X.calm=true)(he:PD X .cl e fe)(h:Hk X es is)(hn:(assignEach es X.env).length=is.length:=by rfl)(gq:(assignEach es X.env).findIdx? (·.1)=none:=by rfl)
  (hs:swapsWithSole [.Tuple es k p2] e pos.line X.env=pure false:=by rfl) (hw:swappedStores [.Tuple es k p2] e X.env=pure none:=by rfl) (h1:(assignEach [.Tuple es k p2] X.env).map (·.2)=[assign (.Tuple es k p2) X.env]:=by rfl) :
  SD X rg (.Assign [.Tuple es k p2] e pos) (yH is fe):=PS.imp (qK he (fM hc h hn gq) hs hw h1) λE σ H aA=>by
 refine glG λ_ kq=>?_;obtain⟨env,B,Z,o,R,e,k⟩:=aA;obtain⟨d,e1,e⟩:=a_.mp e;obtain⟨en,e2,e⟩:=a_.mp e;cases e;refine kq (⟨env,B,Z,d,R,e1,λv Z1 H1 x1 g1=>⟨env,B,Z1,d,en,R.ext x1,g1,e2,λσ' R'=>k σ' Z1 H1 (x1.part R.bh) R'⟩⟩)
def bM(n:Nat)(ds:TM):En:=ds.map .F++List.replicate (n-ds.length) .un
def bD(f:Fs)(n:Nat)(ds:TM):TN:=(f (bM n ds)).bind λo=>match o with | .rt d=>some d | _=>none
theorem Rl.start{K:Fg}{Z H:Hp}{N:Tb}{ds:TM}{vs:TQ}(s:aE Z H)(r:av K Z ds vs):Rl K H Z H (bM N.length ds) (start N vs):=by
 have hl:=r.len;have noO:∀(i:Nat)(es:tX),(bM N.length ds)[i]?≠some (.O es):=λi es h=>by
  unfold bM at h
  by_cases hi:i<ds.length
  .rw[PZ (by simpa using hi),u_]at h;cases q:ds[i]? with
   | none=>rw[q]at h;cases h
   | some d=>rw[q]at h;cases h
  .rw[G_ (by simpa using hi),Qp]at h
   split at h<;>cases h
 refine⟨aE.refl _,s,by simp[bM,L2.start,hl],λi sl h=>?_,λi es a h=>absurd h (noO i es),λi j es _ a _ h=>absurd h (noO i es)⟩;unfold bM at h;unfold L2.start
 by_cases hi:i<ds.length
 .rw[PZ (by simpa using hi),u_]at h;cases q:ds[i]? with
  | none=>rw[q]at h;cases h
  | some d=>
   rw[q]at h;cases h;obtain⟨v,h1,h2⟩:=r.get q;exact⟨some v,by rw[PZ (by simpa [<- hl]using hi),u_,h1];rfl,v,rfl,h2⟩
 .rw[G_ (by simpa using hi),Qp]at h
  split at h
  .rename_i hk;cases h;refine⟨none,?_,trivial⟩;rw[G_ (by simpa [<- hl]using hi),Qp,g_ (by simpa [hl]using hk)]
  .cases h
end
section
variable {P:Tp}{w:Ts}{K:Fg}{mg:S5}{base:Tr}
theorem OA{x qual:Str}{st:TC}{f:Tv}{fd:Tt}{N ps:Tb}{k:Nat}{g:Gr}{m:TM->TN}{fb:Fs}(F:yK K x qual st f fd)(S:bW N ps (az st))
  (hb:∀(bK:Tn)(A:Tq)(outer:List Env)(s:To)(H:Hp)(E:XK),bG k (A.deeper (envOfC qual (az st) s.sz f bK))->uk (ft kO P w K mg base N qual (az st) f bK A outer s H E).nox g (bp st) fb)
  (hm:∀ds d,ds.length=ps.length->m ds=some d->bD fb N.length ds=some d):dM P w K mg base kO (k+1) f fd ps (AY K ps.length g m):=by
 refine F.ok S (λvs H Q E ⟨Z,ds,d,hl,_,r,_⟩=>by rw[<- r.len];exact hl) λbK A outer s H vs Q E hr aA=>?_;obtain⟨Z,ds,d,hl,s1,r,e,kk⟩:=aA;refine⟨_,hb bK A outer s H E hr,?_⟩;obtain⟨o,e1,e2⟩:=a_.mp (hm ds d hl e);refine⟨_,H,Z,o,Rl.start s1 r,e1,?_⟩;cases o with
 | rt d'=>cases e2;exact kk
 | nx _=>cases e2
 | bk _=>cases e2
 | ct _=>cases e2
end
mutual
def toPy:D->PyData
 | .non=>.none
 | .bl b=>.bool b
 | .int i=>.int i
 | .str x=>.str x
 | .tup ds=>.tuple (dF ds)
 | .lst ds=>.list (dF ds)
 | .dct _=>.none
 | .st _=>.none
 | .ln _=>.none
 | .mp _ _ _=>.none
def dF:TM->List PyData
 | []=>[]
 | d::ds=>toPy d::dF ds
end
mutual
def pl:D->Bool
 | .tup ds=>gA ds
 | .lst ds=>gA ds
 | .dct _=>false
 | .st _=>false
 | .ln _=>false
 | .mp _ _ _=>false
 | _=>true
def gA:TM->Bool
 | []=>true
 | d::ds=>pl d&&gA ds
end
mutual
def fS:D->D->Bool
 | .non,.non=>true
 | .bl a,.bl b=>a==b
 | .bl a,.int j=>(if a then 1 else 0)==j
 | .int i,.bl b=>i==(if b then 1 else 0)
 | .int i,.int j=>i==j
 | .str x,.str y=>x==y
 | .tup xs,.tup ys=>jF xs ys
 | .lst xs,.lst ys=>jF xs ys
 | _,_=>false
def jF:TM->TM->Bool
 | [],[]=>true
 | x::xs,y::ys=>fS x y&&jF xs ys
 | _,_=>false
end
mutual
theorem lb:∀(d e:D),pl d=true->pl e=true->PyData.eqv (toPy d) (toPy e)=fS d e
 | .non,e,_,h=>by cases e<;>first | (simp[pl]at h;done) | simp[toPy,PyData.eqv,fS]
 | .bl b,e,_,h=>by cases e<;>first | (simp[pl]at h;done) | simp[toPy,PyData.eqv,fS]
 | .int i,e,_,h=>by cases e<;>first | (simp[pl]at h;done) | simp[toPy,PyData.eqv,fS]
 | .str x,e,_,h=>by cases e<;>first | (simp[pl]at h;done) | simp[toPy,PyData.eqv,fS]
 | .tup ds,e,h1,h=>by
  unfold pl at h1;cases e
  case tup es=>unfold pl at h;simp[toPy,PyData.eqv,fS,gY ds es h1 h]
  case lst es=>unfold pl at h;simp[toPy,PyData.eqv,fS,gY ds es h1 h]
  all_goals first | (simp[pl]at h;done) | simp[toPy,PyData.eqv,fS]
 | .lst ds,e,h1,h=>by
  unfold pl at h1;cases e
  case tup es=>unfold pl at h;simp[toPy,PyData.eqv,fS,gY ds es h1 h]
  case lst es=>unfold pl at h;simp[toPy,PyData.eqv,fS,gY ds es h1 h]
  all_goals first | (simp[pl]at h;done) | simp[toPy,PyData.eqv,fS]
theorem gY:∀(ds es:TM),gA ds=true->gA es=true->PyData.eqvAll (dF ds) (dF es)=jF ds es
 | [],es,_,_=>by cases es<;>simp[dF,PyData.eqvAll,jF]
 | d::ds,es,h1,h2=>by
  unfold gA at h1;rw[F_]at h1;cases es with
  | nil=>simp[dF,PyData.eqvAll,jF]
  | cons e es=>
   unfold gA at h2;rw[F_]at h2;simp[dF,PyData.eqvAll,jF,lb d e h1.1 h2.1,gY ds es h1.2 h2.2]
end
mutual
def dh:D->Nat
 | .tup ds=>fR ds+1
 | .lst ds=>fR ds+1
 | _=>0
def fR:TM->Nat
 | []=>0
 | d::ds=>max (dh d) (fR ds)
end
mutual
theorem dj:∀(d:D),(toPy d).depth=dh d
 | .non=>by simp[toPy,PyData.depth,dh]
 | .bl b=>by simp[toPy,PyData.depth,dh]
 | .int i=>by simp[toPy,PyData.depth,dh]
 | .str x=>by simp[toPy,PyData.depth,dh]
 | .tup ds=>by simp[toPy,PyData.depth,dh,iL ds]
 | .lst ds=>by simp[toPy,PyData.depth,dh,iL ds]
 | .dct ks=>by simp[toPy,PyData.depth,dh]
 | .st ks=>by simp[toPy,PyData.depth,dh]
 | .ln ks=>by simp[toPy,PyData.depth,dh]
 | .mp _ _ _=>by simp[toPy,PyData.depth,dh]
theorem iL:∀(ds:TM),PyData.depthAll (dF ds)=fR ds
 | []=>by simp[dF,PyData.depthAll,fR]
 | d::ds=>by simp[dF,PyData.depthAll,fR,dj d,iL ds]
end
section
variable {X:Cx}{pins:S3}{σ:L2.St}{H:Hp}{s:To}
mutual
theorem dE(I:Inv X pins σ H s):∀(d:D){x:V}{v:Tn},pl d=true->Rep X.K H d x->RelV x v->∃as,Reads s.heap v (toPy d) as
 | .non,_,_,_,h,r=>by cases(show _=V.non from h);cases r;exact⟨_,.none⟩
 | .bl b,_,_,_,h,r=>by cases(show _=V.bl b from h);cases r;exact⟨_,.bool b⟩
 | .int i,_,_,_,h,r=>by cases(show _=V.int i from h);obtain⟨t,rfl⟩:=r;exact⟨_,.int i t⟩
 | .str y,_,_,_,h,r=>by obtain⟨h,_⟩:=h;subst h;obtain⟨t,rfl⟩:=r;exact⟨_,.str y t⟩
 | .tup ds,_,_,hp,h,r=>by
  unfold pl at hp;refine glG λ_ kq=>?_;obtain⟨a,vs,e,q,rr⟩:=h;subst e;cases r;obtain⟨bo,rv,⟨o,ho,hc,n,hd⟩,_⟩:=I.tuple q;obtain⟨as,ra⟩:=jN I ds hp rr rv;exact kq (⟨as,.tuple ho hc hd (by simpa [toPy]using ra)⟩)
 | .lst ds,_,_,hp,h,r=>by
  unfold pl at hp;refine glG λ_ kq=>?_;obtain⟨a,vs,e,q,rr⟩:=h;subst e;cases r;obtain⟨bo,rv,pl,_⟩:=I.list q;obtain⟨o,ho,hc,n,hd⟩:=pl.isList;obtain⟨as,ra⟩:=jN I ds hp rr rv;exact kq (⟨_,.list ho hc hd (by simpa [toPy]using ra)⟩)
 | .dct ks,_,_,hp,_,_=>by unfold pl at hp;cases hp
 | .st ks,_,_,hp,_,_=>by unfold pl at hp;cases hp
 | .ln ks,_,_,hp,_,_=>by unfold pl at hp;cases hp
 | .mp _ _ _,_,_,hp,_,_=>by unfold pl at hp;cases hp
theorem jN(I:Inv X pins σ H s):∀(ds:TM){vs:TQ}{us:S9},gA ds=true->av X.K H ds vs->aC vs us->∃as,ReadsAll s.heap us (dF ds) as
 | [],_,_,_,h,r=>by cases(show _=[]from h);cases r;exact⟨_,by simpa [dF]using ReadsAll.nil⟩
 | d::ds,_,_,hp,h,r=>by
  unfold gA at hp;rw[F_]at hp;obtain⟨v,vr,e,h1,h2⟩:=h;subst e;cases r with
  | cons r1 r2=>
   refine glG λ_ kq=>?_;obtain⟨as,q1⟩:=dE I d hp.1 h1 r1;obtain⟨bs,q2⟩:=jN I ds hp.2 h2 r2;exact kq (⟨_,by simpa [dF]using ReadsAll.cons q1 q2⟩)
end
mutual
theorem fX:∀(d:D){x:V},Rep X.K H d x->(toPy d).canLay0=true
 | .non,_,_=>by simp[toPy,PyData.canLay0]
 | .bl b,_,_=>by simp[toPy,PyData.canLay0]
 | .int i,_,_=>by simp[toPy,PyData.canLay0]
 | .str y,_,h=>by simp[toPy,PyData.canLay0,h.2]
 | .tup ds,_,⟨a,vs,e,q,rr⟩=>by simp[toPy,PyData.canLay0,pU ds rr]
 | .lst ds,_,⟨a,vs,e,q,rr⟩=>by simp[toPy,PyData.canLay0,pU ds rr]
 | .dct ks,_,_=>by simp[toPy,PyData.canLay0]
 | .st ks,_,_=>by simp[toPy,PyData.canLay0]
 | .ln ks,_,_=>by simp[toPy,PyData.canLay0]
 | .mp _ _ _,_,_=>by simp[toPy,PyData.canLay0]
theorem pU:∀(ds:TM){vs:TQ},av X.K H ds vs->PyData.canLayAll0 (dF ds)=true
 | [],_,_=>by simp[dF,PyData.canLayAll0]
 | d::ds,_,⟨v,vr,e,h1,h2⟩=>by simp[dF,PyData.canLayAll0,fX d h1,pU ds h2]
end
def fy(d e:D):Bool:=(pl d&&pl e)&&(decide (dh d<=60)||decide (dh e<=60))
def Cf(K:Fg)(neg:Bool):R2:=λx y H Q=>∃dx dy,Rep K H dx x/\Rep K H dy y/\fy dx dy=true/\Q (.bl (if neg then !fS dx dy else fS dx dy)) H
theorem uX(h:u+64<cLine)(h2:a<=60\/b<=60):u+min a b<cLine:=by lia
theorem sr(h:fy d e=true):dh d<=60\/dh e<=60:=by unfold fy at h;rw[F_]at h;simpa using h.2
theorem sk(h:fy d e=true):pl d=true/\pl e=true:=by unfold fy at h;rw[F_,F_]at h;exact h.1
theorem yW(hu:X.A.units+64<cLine):iy X (compareOp .Eq) (Cf X.K false):=by
 intro pins s σ H x y v u Q I rx ry h;refine glG λ_ kq=>?_;obtain⟨dx,dy,h1,h2,hd,q⟩:=h;obtain⟨p1,p2⟩:=sk hd;obtain⟨as,r1⟩:=dE I dx p1 h1 rx;obtain⟨bs,r2⟩:=dE I dy p2 h2 ry;refine kq (SeqAt.compareEq_reads r1 r2 (fX dx h1) (fX dy h2) (by rw[dj,dj];exact uX hu (sr hd)) ?_)
 all_goals clear kq
 rw[lb _ _ p1 p2];exact⟨.bl _,H,I,rfl,q⟩
theorem yZ(hu:X.A.units+64<cLine):iy X (compareOp .NotEq) (Cf X.K true):=by
 intro pins s σ H x y v u Q I rx ry h;refine glG λ_ kq=>?_;obtain⟨dx,dy,h1,h2,hd,q⟩:=h;obtain⟨p1,p2⟩:=sk hd;obtain⟨as,r1⟩:=dE I dx p1 h1 rx;obtain⟨bs,r2⟩:=dE I dy p2 h2 ry;refine kq (SeqAt.compareNe_reads r1 r2 (fX dx h1) (fX dy h2) (by rw[dj,dj];exact uX hu (sr hd)) ?_)
 all_goals clear kq
 rw[lb _ _ p1 p2];exact⟨.bl _,H,I,rfl,q⟩
def eI:D->D->TN:=λa b=>if fy a b=true then some (.bl (fS a b))else none
def nY:D->D->TN:=λa b=>if fy a b=true then some (.bl !fS a b)else none
theorem JJ{K:Fg}:cQ K .cl eI (Cf K false):=λ{Z H x y dx dy d Q} s h1 h2 e k=>by
 obtain⟨hd,rfl⟩:=rj e;exact⟨dx,dy,h1.rep s,h2.rep s,hd,k _ Z H (Ex.refl s) rfl⟩
theorem J5{K:Fg}:cQ K .cl nY (Cf K true):=λ{Z H x y dx dy d Q} s h1 h2 e k=>by
 obtain⟨hd,rfl⟩:=rj e;exact⟨dx,dy,h1.rep s,h2.rep s,hd,k _ Z H (Ex.refl s) rfl⟩
variable {l r c:Tz}{fa fb fc:Fe}{ga gb gc:Gr}{pos p p2:Pos}{k:Nat}
theorem sd(hr:bG k X.A)(ha:PD X ga l fa)(hb:PD X gb r fb):PD X .cl (.Compare l [.Eq] [r] pos) (au eI fa fb):=oV (yW hr.units) JJ ha hb (eg _)
theorem ME(hr:bG k X.A)(ha:PD X ga l fa)(hb:PD X gb r fb):PD X .cl (.Compare l [.NotEq] [r] pos) (au nY fa fb):=oV (yZ hr.units) J5 ha hb (eg _)
theorem iB(hr:bG k X.A)(ha:PD X ga l fa)(hb:PD X gb r fb):PB X (.Compare l [.Eq] [r] pos) (fB (au eI fa fb)):=jz (yW hr.units) JJ ha hb (eg _)
theorem uv(hr:bG k X.A)(ha:PD X ga l fa)(hb:PD X gb r fb):PB X (.Compare l [.NotEq] [r] pos) (fB (au nY fa fb)):=jz (yZ hr.units) J5 ha hb (eg _)
def inD(d:D)(es:TM):Bool:=es.any λe=>fS e d
def mx(neg:Bool):D->D->TN
 | d,.lst es=>if dh d<=60/\(pl d&&gA es)=true then some (.bl (if neg then !inD d es else inD d es))else none
 | d,.tup es=>if dh d<=60/\(pl d&&gA es)=true then some (.bl (if neg then !inD d es else inD d es))else none
 | _,_=>none
def IS(K:Fg)(neg:Bool):R2:=λx y H Q=>∃dx es p ys,Rep K H dx x/\y=.ref p/\(cR K H p ys\/cX K H p ys)/\av K H es ys/\(dh dx<=60/\(pl dx&&gA es)=true)/\Q (.bl (if neg then !inD dx es else inD dx es)) H
noncomputable def iC(h:Tr)(d:PyData)(y:Tn):Bool:=@decide (∃e as,Reads h y e as/\e.canLay0=true/\PyData.eqv e d=true) (Classical.propDecidable _)
theorem se(r:Reads h y e as)(c:e.canLay0=true):iC h d y=PyData.eqv e d:=by
 unfold iC;cases q:PyData.eqv e d with
 | true=>exact @t_ _ (Classical.propDecidable _) ⟨e,as,r,c,q⟩
 | false=>
  refine @B_ _ (Classical.propDecidable _) λaA=>?_;obtain⟨e',as',r',c',q'⟩:=aA;rw[SeqAt.Reads.unique e' e y as' as c' r' r]at q';rw[q]at q';cases q'
theorem jY(I:Inv X pins σ H s)(dx:D)(hx:pl dx=true):∀{es:TM}{ys:TQ}{us:S9},gA es=true->av X.K H es ys->aC ys us->us.any (iC s.heap (toPy dx))=inD dx es
 | [],_,_,_,h,r=>by cases(show _=[]from h);cases r;rfl
 | e::es,_,_,hp,h,r=>by
  unfold gA at hp;rw[F_]at hp;obtain⟨v,vr,z,h1,h2⟩:=h;subst z;cases r with
  | cons r1 r2=>
   obtain⟨as,q⟩:=dE I e hp.1 h1 r1;have ih:=jY I dx hx hp.2 h2 r2;unfold inD at ih ⊢;rw[List.any_cons,List.any_cons,ih,se q (fX e h1),lb _ _ hp.1 hx]
theorem mv(I:Inv X pins σ H s)(hx:Rep X.K H dx x)(rx:RelV x v)(hu:A.units+64<cLine)(hd:dh dx<=60)(HQ:pl dx=true):∀{es:TM}{ys:TQ}{us:S9},gA es=true->av X.K H es ys->aC ys us->
  ∀u∈us,SeqAt.EqAt A s u v (iC s.heap (toPy dx) u)
 | [],_,_,_,h,r,u,hm=>by cases(show _=[]from h);cases r;cases hm
 | e::es,_,_,hp,h,r,u,hm=>by
  unfold gA at hp;rw[F_]at hp;obtain⟨w,vr,z,h1,h2⟩:=h;subst z;cases r with
  | cons r1 r2=>
   rcases p_.mp hm with rfl | hm
   .obtain⟨as,q⟩:=dE I e hp.1 h1 r1;obtain⟨bs,q2⟩:=dE I dx HQ hx rx;rw[se q (fX e h1)];exact SeqAt.eqAt_reads _ _ A s _ _ as bs q q2 (fX e h1) (fX dx hx) (by rw[dj,dj];exact uX hu (.inr hd))
   .exact mv I hx rx hu hd HQ hp.2 h2 r2 u hm
theorem uh(hu:X.A.units+66<cLine)(neg:Bool):iy X (compareOp (if neg then .NotIn else .In)) (IS X.K neg):=by
 intro pins s σ H x y v u Q I rx ry h;obtain⟨dx,es,p,ys,h1,rfl,h2,rr,⟨hd,OS⟩,q⟩:=h;rw[F_]at OS;obtain⟨HQ,LW⟩:=OS;cases ry;have OU:X.A.in1.units+64<cLine:=by show X.A.units+1+64<cLine;lia
 rcases h2 with h2 | h2
 .obtain⟨bo,r',pl,hz⟩:=I.list h2;have ha:=jY I dx HQ LW rr r';have qY:∀y,y∈bo.toArray->SeqAt.EqAt X.A.in1 s y v (iC s.heap (toPy dx) y):=λy hy=>mv I h1 rx OU hd HQ LW rr r' y (by simpa using hy);have fin:EP X pins σ Q (.bool (if neg then !bo.toArray.any (iC s.heap (toPy dx))else bo.toArray.any (iC s.heap (toPy dx)))) s:=⟨_,H,I,(by rw[List.any_toArray,ha]<;>rfl),q⟩;cases neg with
  | false=>exact SeqAt.in_listAt _ pl.isList qY fin
  | true=>exact SeqAt.notIn_listAt _ pl.isList qY fin
 .obtain⟨bo,r',pl,hz⟩:=I.tuple h2;have ha:=jY I dx HQ LW rr r';have qY:∀y,y∈bo.toArray->SeqAt.EqAt X.A.in1 s y v (iC s.heap (toPy dx) y):=λy hy=>mv I h1 rx OU hd HQ LW rr r' y (by simpa using hy);have fin:EP X pins σ Q (.bool (if neg then !bo.toArray.any (iC s.heap (toPy dx))else bo.toArray.any (iC s.heap (toPy dx)))) s:=⟨_,H,I,(by rw[List.any_toArray,ha]<;>rfl),q⟩;cases neg with
  | false=>exact SeqAt.in_tupleAt _ (show s.heap.IsTuple p bo.toArray from pl) qY fin
  | true=>exact SeqAt.notIn_tupleAt _ (show s.heap.IsTuple p bo.toArray from pl) qY fin
theorem Gn{K:Fg}{neg:Bool}:cQ K .cl (mx neg) (IS K neg):=λ{Z H x y dx dy d Q} s h1 h2 e k=>by
 cases dy<;>try cases e
 .obtain⟨hd,rfl⟩:=rj e;obtain⟨a,vs,rfl,q,r⟩:=h2.tup s;exact⟨dx,_,a,vs,h1.rep s,rfl,.inr q,av.mono s _ r,hd,k _ Z H (Ex.refl s) rfl⟩
 .obtain⟨hd,rfl⟩:=rj e;obtain⟨a,vs,rfl,q,r⟩:=h2.lst s;exact⟨dx,_,a,vs,h1.rep s,rfl,.inl q,av.mono s _ r,hd,k _ Z H (Ex.refl s) rfl⟩
theorem pM(r:bG k A):A.units+66<cLine:=by have:=r.un;lia
theorem Mo(hr:bG k X.A)(ha:PD X ga l fa)(hb:PD X gb r fb)(hm:behindInMarks .In r=false:=by rfl):PD X .cl (.Compare l [.In] [r] pos) (au (mx false) fa fb):=oV (uh (pM hr) false) Gn ha hb hm
theorem Ct(hr:bG k X.A)(ha:PD X ga l fa)(hb:PD X gb r fb)(hm:behindInMarks .In r=false:=by rfl):PB X (.Compare l [.In] [r] pos) (fB (au (mx false) fa fb)):=jz (uh (pM hr) false) Gn ha hb hm
theorem JV(hr:bG k X.A)(ha:PD X ga l fa)(hb:PD X gb r fb)(hm:behindInMarks .NotIn r=false:=by rfl):PB X (.Compare l [.NotIn] [r] pos) (fB (au (mx true) fa fb)):=jz (uh (pM hr) true) Gn ha hb hm
inductive Ty where | int | bool | str | tuple | list
def Ty.nm:Ty->String
 | .int=>"int" | .bool=>"bool" | .str=>"str" | .tuple=>"tuple" | .list=>"list"
def Ly:Ty->D->Bool
 | .int,.int _=>true
 | .int,.bl _=>true
 | .bool,.bl _=>true
 | .str,.str _=>true
 | .tuple,.tup _=>true
 | .list,.lst _=>true
 | _,_=>false
def Pu:D->String
 | .non=>"NoneType" | .bl _=>"bool" | .int _=>"int" | .str _=>"str" | .tup _=>"tuple" | .lst _=>"list" | .dct _=>"dict" | .st _=>"set" | .ln _=>"dict" | .mp _ _ _=>"dict"
theorem CS{K:Fg}(T:Ty)(d:D):PySem.W.kitOne K (.type (Pu d)) (.type T.nm)=some (Ly T d):=by
 cases T<;>cases d<;>rfl
theorem AK(T:Ty):dG X (.builtin "isinstance") (λxs H Q=>∃x d,xs=[x,.ty T.nm]/\Rep X.K H d x/\Q (.bl (Ly T d)) H):=by
 intro pins s σ H xs us Q I r h;obtain⟨x,d,rfl,hd,q⟩:=h;obtain⟨u,w,rfl,rx,rt⟩:=r.two;cases(show w=Value.type T.nm from rt);have e:=CS (K:=X.K) T d;have fin:∀tk,EP X pins σ Q (.bool (Ly T d)) {s with toks:=tk}:=λtk=>⟨.bl _,H,I.tok tk,rfl,q⟩;cases d with
 | non=>cases(show x=V.non from hd);cases(show u=Value.none from rx);exact Qs PySem.W.kitx_none I.kIn True.intro e (λz=>nomatch z) fin
 | bl b=>cases(show x=V.bl b from hd);cases(show u=Value.bool b from rx);exact Qs PySem.W.kitx_bool I.kIn True.intro e (λz=>nomatch z) fin
 | int i=>cases(show x=V.int i from hd);obtain⟨t,z⟩:=(show ∃t,u=Value.int i t from rx);cases z;exact Qs PySem.W.kitx_int I.kIn True.intro e (λz=>nomatch z) fin
 | str y=>obtain⟨hd,_⟩:=hd;subst hd;obtain⟨t,z⟩:=(show ∃t,u=Value.str y t from rx);cases z;exact Qs PySem.W.kitx_str I.kIn True.intro e (λz=>nomatch z) fin
 | tup ds=>
  refine glG λ_ kq=>?_;obtain⟨a,vs,e1,hq,rr⟩:=hd;subst e1;cases(show u=Value.ref a from rx);obtain⟨bo,_,⟨o,h1,h2,_⟩,_⟩:=I.tuple hq;exact kq (Qs PySem.W.kitx_tuple I.kIn ⟨o,h1,h2⟩ e (λz=>nomatch z) fin)
 | lst ds=>
  refine glG λ_ kq=>?_;obtain⟨a,vs,e1,hq,rr⟩:=hd;subst e1;cases(show u=Value.ref a from rx);obtain⟨bo,_,pl,_⟩:=I.list hq;obtain⟨o,h1,h2,_⟩:=pl.isList;exact kq (Qs PySem.W.kitx_list I.kIn ⟨o,h1,h2⟩ e (λz=>nomatch z) fin)
 | dct ks=>
  refine glG λ_ kq=>?_;obtain⟨a,e1,hq⟩:=hd;subst e1;cases(show u=Value.ref a from rx);obtain⟨bs,hq,_⟩:=hq;obtain⟨⟨o,es,ep,h1,h2,_⟩,_⟩:=(show bO X.prog X.w H s.heap a (.ext (FZ a ks bs))from I.hok a _ hq);exact kq (Qs SC I.kIn ⟨o,h1,h2.1⟩ e (λz=>nomatch z) fin)
 | st ps=>
  refine glG λ_ kq=>?_;obtain⟨a,bs,e1,_,hq,_⟩:=hd;subst e1;cases(show u=Value.ref a from rx);obtain⟨⟨o,es,ep,t,h1,h2,_⟩,_⟩:=(show bO X.prog X.w H s.heap a (.ext (Gs a ps bs))from I.hok a _ hq);exact kq (Qs PySem.W.kitx_set I.kIn ⟨o,h1,h2.1⟩ e (λz=>nomatch z) fin)
 | ln n=>
  refine glG λ_ kq=>?_;obtain⟨a,e1,hq⟩:=hd;subst e1;cases(show u=Value.ref a from rx);obtain⟨⟨o,es,ep,h1,h2,_⟩,_⟩:=(show bO X.prog X.w H s.heap a (.ext (IG a n))from I.hok a _ hq);exact kq (Qs SC I.kIn ⟨o,h1,h2.1⟩ e (λz=>nomatch z) fin)
 | mp th ks ds=>
  refine glG λ_ kq=>?_;obtain⟨a,bs,vs,e1,hq,_⟩:=hd;subst e1;cases(show u=Value.ref a from rx);obtain⟨⟨o,es,ep,us,h1,h2,_⟩,_⟩:=(show bO X.prog X.w H s.heap a (.ext (cI th a ks bs vs))from I.hok a _ hq);exact kq (Qs SC I.kIn ⟨o,h1,h2.1⟩ e (λz=>nomatch z) fin)
def vc(T:Ty):D->TN:=λd=>some (.bl (Ly T d))
theorem DG(T:Ty):bootBuiltins (Str.ofString T.nm)=some (.type T.nm):=by
 cases T
 .exact PyProof.Rows.boot_int
 .exact PyProof.Rows.boot_bool
 .exact PyProof.Rows.boot_str
 .exact PyProof.Rows.boot_tuple
 .exact RX
theorem oj(T:Ty)(hm:X.mg "isinstance"=none)(hm2:X.mg (Str.ofString T.nm)=none)(ha:PD X ga l fa)(hg:Gl X "isinstance":=by rfl)(KU:Gl X (Str.ofString T.nm):=by rfl)
  (hn:(Str.ofString T.nm)≠"__name__":=by decide) (jG:((Str.ofString T.nm)==("__debug__":Str))=false:=by decide)
  (he:starEach [l,.Name (Str.ofString T.nm) p2] X.env=(false,eval l X.env)::starEach [.Name (Str.ofString T.nm) p2] X.env:=by rfl) :
  PD X .cl (.Call (.Name "isinstance" p) [l,.Name (Str.ofString T.nm) p2] [] pos) (bC (vc T) fa):=by
 refine PE.imp (fF (AK T) hg hm Rh (aJ ha (aJ (Dv KU hm2 (DG T) (show RelV (.ty T.nm) (.type T.nm)from rfl) hn jG) bS rfl) he) @1 @1 he rfl) λσ H Q aA=>?_;refine glG λ_ kq=>?_;obtain⟨env,B,Z,d,R,e,k⟩:=aA;obtain⟨x,h1,h2⟩:=a_.mp e;cases h2;exact kq (⟨env,B,Z,x,R,h1,λv Z1 H1 x1 g1=>⟨v,x,rfl,g1.rep x1.zh,k _ Z1 H1 x1 rfl⟩⟩)
end
section
variable {elt:Tz}{gens:S8}{scope:Tu}{pos:Pos}{d:Nat}{tg iter:Tz}{ifs:Td}{it acc:Tn}{env:Env}
def wI(ce tg iter:Tz)(ifs:Td)(d:Nat)(it acc:Tn)(env:Env)(em:Sem Unit):Sem Fin:=do
  standAt iter.pos
  match <- pyNext it with
  | none=>pure (.done .next)
  | some v=>
   letOwnedTupleGo tg it v
   assign tg env v
   let ok <- forIn ifs true λc r=>if r=true then do let ok <- isTrue c env (eval c env);pure (ForInStep.yield ok)else pure (ForInStep.yield r)
   if ok then em
   again (.compLoop ce d it acc env)
def wg(ce tg iter b9:Tz)(ifs:Td)(d:Nat)(it acc:Tn)(env:Env):Sem Fin:=do
  standAt iter.pos
  match <- pyNext it with
  | none=>pure (.done .next)
  | some v=>
   letOwnedTupleGo tg it v
   assign tg env v
   let ok <- forIn ifs true λc r=>if r=true then do let ok <- isTrue c env (eval c env);pure (ForInStep.yield ok)else pure (ForInStep.yield r)
   if ok=true then(do
    let x <- eval b9 env
    standAt b9.pos
    let x <- foldedSetIterable b9 env x
    let i' <- holding [x] (pyIter x)
    let _ <- runOwn (.compStart ce (d+1) i' acc env) env
    again (.compLoop ce d it acc env))
   else again (.compLoop ce d it acc env)
theorem yq(h:gens[d]?=some ⟨tg,iter,ifs,0⟩)(h2:gens[d+1]?=none):compTurn (.ListComp elt gens scope pos) d it acc env=wI (.ListComp elt gens scope pos) tg iter ifs d it acc env (do let _ <- call (.builtin "list.append") [acc,<- eval elt env]):=by
 unfold compTurn;simp only[h,h2]
 rfl
theorem xG(h:gens[d]?=some ⟨tg,iter,ifs,0⟩)(h2:gens[d+1]?=some ⟨vC,b9,k6,0⟩):compTurn (.ListComp elt gens scope pos) d it acc env=wg (.ListComp elt gens scope pos) tg iter b9 ifs d it acc env:=by
 unfold compTurn;simp only[h,h2]
 rfl
end
def i0(lk:Str->Ta):List (Str×NameKind)->S6->Option S6
 | [],acc=>some acc
 | (n,k)::r,acc=>if(k==.free)=true then(lk n).bind λc=>i0 lk r ((n,c)::acc)else i0 lk r acc
theorem jL:∀(names:List (Str×NameKind))(acc cl:S6),i0 (λx=>env.cells.lookup x) names acc=some cl->
  (forIn names acc λ(x:Str×NameKind) (r:S6)=>(do if x.2==.free then(do let c <- cellOf env x.1;pure (ForInStep.yield ((x.1,c)::r)))else pure (ForInStep.yield r)):Sem S6)=pure cl
 | [],acc,cl,h=>by cases h;rfl
 | (n,k)::r,acc,cl,h=>by
  rw[SY];unfold i0 at h
  by_cases hk:(k==NameKind.free)=true
  .rw[g_ hk]at h;obtain⟨c,h1,h2⟩:=a_.mp h;have KQ:cellOf env n=pure c:=by unfold cellOf;rw[show env.cells.lookup n=some c from h1]
   simp only[hk,SA,KQ,pure_bind];exact jL r _ cl h2
  .rw[j_ hk]at h;simp only[hk,QV,pure_bind];exact jL r _ cl h
theorem iV(h:i0 (λx=>env.cells.lookup x) scope.names []=some cl):closureFor scope env=pure cl:=by
 have:=jL scope.names [] cl h;unfold closureFor;simp only;rw[this]
 rfl
theorem gU:∀{names:List (Str×NameKind)}{acc cl:S6},i0 lk names acc=some cl->(∀p∈acc,lk p.1=some p.2)->∀p∈cl,lk p.1=some p.2
 | [],acc,cl,h,ha=>by cases h;exact ha
 | (n,k)::r,acc,cl,h,ha=>by
  unfold i0 at h
  split at h
  .obtain⟨c,h1,h2⟩:=a_.mp h;exact gU h2 λp hp=>by
    rcases p_.mp hp with rfl | hp
    .exact h1
    .exact ha p hp
  .exact gU h ha
theorem jb:∀{names:List (Str×NameKind)}{acc cl:S6},i0 lk names acc=some cl->∀x,((x,NameKind.free)∈names\/∃c,(x,c)∈acc)->∃c,(x,c)∈cl
 | [],acc,cl,h,x,hx=>by
  cases h;rcases hx with hx | hx
  .cases hx
  .exact hx
 | (n,k)::r,acc,cl,h,x,hx=>by
  unfold i0 at h
  split at h
  .rename_i hk;obtain⟨c,h1,h2⟩:=a_.mp h;refine jb h2 x ?_;rcases hx with hx | ⟨c',hx⟩
   .rcases p_.mp hx with e | hx
    .cases e;exact .inr ⟨c,f_⟩
    .exact .inl hx
   .exact .inr ⟨c',e_ _ hx⟩
  .rename_i hk;refine jb h x ?_;rcases hx with hx | hx
   .rcases p_.mp hx with e | hx
    .cases e;exact absurd rfl hk
    .exact .inl hx
   .exact .inr hx
theorem ff:∀{cl:S6},(x,c)∈cl->∃c',cl.lookup x=some c'
 | [],h=>by cases h
 | (y,b)::r,h=>by
  by_cases e:(x==y)=true
  .exact⟨b,by simp[Qt,e]⟩
  .rcases p_.mp h with z | z
   .cases z;exact absurd (SM x) e
   .obtain⟨c',h'⟩:=ff z;exact⟨c',by simp[Qt,e,h']⟩
theorem dA{scope:Tu}{env:Env}:∀{names:List (Str×NameKind)}{x:Str}{k:NameKind},
  (names.map λ(n,k)=>if(k==NameKind.free&&env.scope.kind==.function&&env.kindOf n==some .cell)then(n,NameKind.cell)else(n,k)).lookup x=some k->k=.cell\/k=.free->(x,NameKind.free)∈names\/(x,NameKind.cell)∈names
 | [],x,k,h,_=>by simp at h
 | (n,q)::r,x,k,h,hk=>by
  simp only[N_]at h
  by_cases hc:(q==NameKind.free&&env.scope.kind==.function&&env.kindOf n==some .cell)=true
  .rw[g_ hc]at h;simp only[Qt]at h;cases e:x==n with
   | true=>
    have e':=eq_of_beq e;subst e';simp only[F_,RO]at hc;exact .inl (by rw[hc.1.1];exact f_)
   | false=>
    rw[e]at h;rcases dA (scope:=scope) h hk with z | z
    .exact .inl (e_ _ z)
    .exact .inr (e_ _ z)
  .rw[j_ hc]at h;simp only[Qt]at h;cases e:x==n with
   | true=>
    rw[e]at h;have e':=eq_of_beq e;subst e';cases h;rcases hk with rfl | rfl
    .exact .inr f_
    .exact .inl f_
   | false=>
    rw[e]at h;rcases dA (scope:=scope) h hk with z | z
    .exact .inl (e_ _ z)
    .exact .inr (e_ _ z)
def ek(X:Cx)(scope:Tu)(cl:S6)(Nc:Tb)(C:Tv)(s:To)(H:Hp)(ex:Tc)(pn:S3):Cx:=
 {X with N:=Nc,s₀:=s,H₀:=H,env:=compEnvC scope cl C X.env,outer:=X.stack,stack:=X.stack,ex:=ex,fn:=λ_=>false,pn:=pn,xe:=λ_ _=>False}
def qB(n:Nat)(caps:Tf)(σ:L2.St):L2.St:=List.replicate n none++caps.map λj=>(σ[j]?).getD none
def dk(n:Nat)(caps:Tf)(env:En):En:=List.replicate n .un++caps.map λj=>match env[j]? with | some (.F d)=>.F d | _=>.un
def ot(X:Cx)(scope:Tu)(caps:Tf):Bool:=caps.all λj=>match X.N[j]? with
 | some x=>(X.env.scope.names.lookup x==some .cell||X.env.scope.names.lookup x==some .free)&&scope.names.lookup x==some .free
 | none=>false
theorem gp{env:Env}:∀{names:List (Str×NameKind)}{x:Str},names.lookup x=some .free->
  (names.map λ(n,k)=>if(k==NameKind.free&&env.scope.kind==.function&&env.kindOf n==some .cell)then(n,NameKind.cell)else(n,k)).lookup x=some .free\/
  (names.map λ(n,k)=>if(k==NameKind.free&&env.scope.kind==.function&&env.kindOf n==some .cell)then(n,NameKind.cell)else(n,k)).lookup x=some .cell
 | [],x,h=>by simp at h
 | (n,q)::r,x,h=>by
  simp only[N_];simp only[Qt]at h;cases e:x==n with
  | true=>
   rw[e]at h;cases h
   by_cases hc:(NameKind.free==NameKind.free&&env.scope.kind==.function&&env.kindOf n==some .cell)=true
   .rw[g_ hc];simp[Qt,e]
   .rw[j_ hc];simp[Qt,e]
  | false=>
   rw[e]at h
   by_cases hc:(q==NameKind.free&&env.scope.kind==.function&&env.kindOf n==some .cell)=true
   .rw[g_ hc];simp only[Qt,e];exact gp h
   .rw[j_ hc];simp only[Qt,e];exact gp h
section
variable {X:Cx}{pins:S3}{σ:L2.St}{H:Hp}{s:To}{scope:Tu}{cl:S6}{Nc own:Tb}{caps:Tf}{fp:Tc}
theorem iu(I:Inv X pins σ H s)(h1:b≠X.env.locals)(h2:b∉X.fs):b∉kS X.stack:=λhb=>(p_.mp (I.stkSub b hb)).elim h1 h2
theorem sN{h1:Tr}{tk:Nat}{m:S5}(I:Inv X pins σ H s)(jK:i0 (λx=>X.env.cells.lookup x) scope.names []=some cl)(cx:scope.kind=.function)(hnc:∀y∈scope.names,y.2≠.cell)
  (hfp:∀b∈fp,fH X pins H b) (yD:∀b∈fp,b<s.sz) (hN:Nc.map some=own.map some++caps.map (λj=>X.N[j]?)) (mP:ot X scope caps=true)
  (FD:h1.Ns s.sz m) (hk:∀b o,s.heap.get? b=some o->h1.get? b=some o) :
  Inv (ek X scope cl Nc s.sz s H fp (X.pn++pins)) [] (qB own.length caps σ) H {s with heap:=h1,toks:=tk}:=by
 have mem:=gU jK (λp hp=>by cases hp);have low:∀x c,cl.lookup x=some c->X.env.cells.lookup x=some c:=λx c h=>mem (x,c) (Qj h);have cellAt:∀x c,cl.lookup x=some c->c<s.sz:=λx c h=>by
  obtain⟨v,q⟩:=I.cell x c (low x c h);exact q.lt
 refine⟨⟨I.ok.mod,cx,I.ok.glob,I.ok.blt,m_ _,λx y c h1 h2=>I.ok.inj x y c (low x c h1) (low y c h2),λx hx=>?_,λx c hf _=>absurd (show false=true from hf) QA,I.ok.hd,I.ok.frames,.inl rfl,λb hb=>⟨x_ (yD b hb),λx c h=>(hfp b hb).2.2.2.2.1 x c (low x c h)⟩,
   I.bs,w_ I.ok.bsz I.sz,λb o e hb=>?_,λb hb hf=>iu I (hfp b hb).2.1 (hfp b hb).2.2.1 hf,I.stack,I.stkFree⟩,
  rfl,I.bare,Un.kept hk,⟨m,FD,λi x v e1 e2 e3=>?_⟩,λx c h=>?_,I.hok.fresh (m_ _),λx c h=>I.freeC x c (low x c h),λp hp=>?_,I.hok.kept hk,?_⟩
 .have Bz:(relabel scope X.env).names.lookup x=some .cell\/(relabel scope X.env).names.lookup x=some .free:=hx;have hmem:(x,NameKind.free)∈scope.names:=by
   rcases Bz with h | h
   .rcases dA (scope:=scope) h (.inl rfl)with z | z
    .exact z
    .exact absurd rfl (hnc _ z)
   .rcases dA (scope:=scope) h (.inr rfl)with z | z
    .exact z
    .exact absurd rfl (hnc _ z)
  obtain⟨c,hc⟩:=jb jK x (.inl hmem);exact ff hc
 .rcases(hfp b hb).2.2.2.1 with z | z
  .exact I.ok.noex b o e z
  .exact absurd (n_ (k_ e) (w_ I.ok.bsz z)) (QW _)
 .have BV:own.length<=i:=by
   by_cases hi:i<own.length
   .unfold qB at e2;rw[PZ (by simpa using hi),Qp,g_ hi]at e2;cases e2
   .lia
  unfold qB at e2;rw[G_ (by simpa using BV),u_]at e2;simp only[Rk]at e2;cases hj:caps[i-own.length]? with
  | none=>rw[hj]at e2;cases e2
  | some j=>
   rw[hj]at e2;have LX:(σ[j]?).getD none=some v:=Option.some.inj e2;have hσ:σ[j]?=some (some v):=by
    cases q:σ[j]? with
    | none=>rw[q]at LX;cases LX
    | some o=>rw[q]at LX;exact QO some LX
   have hx:X.N[j]?=some x:=by
    have h1:(Nc.map some)[i]?=some (some x):=by rw[u_,show Nc[i]?=some x from e1];rfl
    rw[hN,G_ (by simpa using BV),u_]at h1;simp only[c_]at h1;rw[hj]at h1;exact Option.some.inj h1
   have hc1:=Qi.mp mP j (Q7 hj);rw[hx]at hc1;simp only[F_,Bool.or_eq_true,RO]at hc1;obtain⟨hc1,w6⟩:=hc1;obtain⟨m0,hn0,OV⟩:=I.loc;obtain⟨u,ru,lk⟩:=OV j x v hx hσ (.inr hc1);refine⟨u,ru,.inr ?_⟩;have lk2:∃c,X.env.cells.lookup x=some c/\s.heap.IsCell c (some u):=by
    rcases lk with ⟨h1,_⟩ | ⟨_,c,h1,h2⟩
    .have KQ:X.env.scope.names.lookup x=some .local:=h1;rcases hc1 with z | z<;>· rw[KQ]at z;cases z
    .exact⟨c,h1,h2⟩
   obtain⟨c,h1c,h2c⟩:=lk2;obtain⟨c',LQ⟩:=jb jK x (.inl (Qj w6));obtain⟨c'',KW⟩:=ff LQ;have e4:=low x c'' KW;rw[h1c]at e4;cases e4;refine⟨?_,c,KW,?_⟩
   .rcases gp (env:=X.env) w6 with z | z
    .exact .inr z
    .exact .inl z
   .obtain⟨o,ho,hd⟩:=h2c;exact⟨o,hk c o ho,hd⟩
 .obtain⟨v,o,ho,hd⟩:=I.cell x c (low x c h);exact⟨v,o,hk c o ho,hd⟩
 .have hp':p∈X.pn++pins:=by simpa [ek]using hp
  obtain⟨h1,h2,h3,h4,h5⟩:=I.pin p hp';exact⟨hk _ _ h1,h2,x_ (k_ h1),iu I h3 h4,h5⟩
 .have:=QO List.length hN;simp only[c_,E_]at this;simp only[qB,E_,Rk,c_];exact this.symm
end
def cY(is:Tf)(env:En):Bool:=is.all λi=>match env[i]? with | some .un=>true | _=>false
def ez(t:Ft)(c:Fb)(k:TJ)(env:En):TM->TK
 | []=>some []
 | d::ds=>(t d env).bind λe1=>(c e1).bind λb=>(if b=true then k e1 else some []).bind λxs=>(ez t c k env ds).bind λys=>some (xs++ys)
structure mQ(is:List Nat)(t:Ft):Prop where
 len:∀{d:D}{env env':En},t d env=some env'->env'.length=env.length
 oth:∀{d:D}{env env':En},t d env=some env'->∀(j:Nat),j∉is->env'[j]?=env[j]?
 noO:∀{d:D}{env env':En},t d env=some env'->∀(j:Nat)(ds:tX),env'[j]?=some (.O ds)->env[j]?=some (.O ds)
theorem wN{env:En}{i:Nat}{d:D}{j:Nat}{ds:tX}(h:(env.set i (.F d))[j]?=some (.O ds)):env[j]?=some (.O ds):=by
 by_cases e:i=j
 .subst e
  by_cases hl:i<env.length
  .rw[r_ hl]at h;cases h
  .rw[A_ (by simpa using Qc hl)]at h;cases h
 .rw[l_ e]at h;exact h
theorem bc(i:Nat):mQ [i] (bu i):=⟨λh=>by cases h;simp,λh j hj=>by cases h;exact l_ (λz=>hj (by simp[z])),λh j ds hj=>by cases h;exact wN hj⟩
theorem il:∀{is:Tf}{ds:TM}{env env':En},er is ds env=some env'->env'.length=env.length/\(∀(j:Nat),j∉is->env'[j]?=env[j]?)/\∀(j:Nat)(es:tX),env'[j]?=some (.O es)->env[j]?=some (.O es)
 | [],[],env,env',h=>by cases h;exact⟨rfl,λ_ _=>rfl,λ_ _ h=>h⟩
 | i::is,d::ds,env,env',h=>by
  obtain⟨h1,h2,h3⟩:=il (ds:=ds) h;refine⟨by simpa using h1,λj hj=>?_,λj es hj=>wN (h3 j es hj)⟩;rw[h2 j λz=>hj (e_ _ z)];exact l_ λz=>hj (by simp[z])
 | [],_::_,_,_,h=>by cases h
 | _::_,[],_,_,h=>by cases h
theorem qy(h:kE is d env=some env'):∃ds,er is ds env=some env':=by
 cases d with
 | tup ds=>exact⟨ds,h⟩
 | _=>cases h
theorem iU(is:Tf):mQ is (kE is):=
 ⟨λh=>let ⟨_,q⟩:=qy h;(il q).1,λh=>let ⟨_,q⟩:=qy h;(il q).2.1,λh=>let ⟨_,q⟩:=qy h;(il q).2.2⟩
theorem Rl.forget{K:Fg}{B Z H:Hp}{e1 env:En}{σ:L2.St}{is:Tf}(R:Rl K B Z H e1 σ)(hl:e1.length=env.length)(ho:∀(j:Nat),j∉is->e1[j]?=env[j]?)(hu:cY is env=true):Rl K B Z H env σ:=by
 have key:∀(j:Nat) s,env[j]?=some s->s=.un\/e1[j]?=some s:=λj s h=>by
  by_cases hj:j∈is
  .have:=Qi.mp hu j hj;rw[h]at this;cases s with
   | un=>exact .inl rfl
   | F d=>cases this
   | O ds=>cases this
  .exact .inr ((ho j hj).trans h)
 have HR:∀(j:Nat) ds,env[j]?=some (.O ds)->e1[j]?=some (.O ds):=λj ds h=>by
  rcases key j _ h with z | z
  .cases z
  .exact z
 refine⟨R.bh,R.zh,hl.symm.trans R.len,λj s h=>?_,λj ds a h=>R.ob j ds a (HR j ds h),λi j ds es a hne h1 h2=>R.ap i j ds es a hne (HR i ds h1) (HR j es h2)⟩;rcases key j s h with rfl | z
 .have hj:j < σ.length:=by rw[<- R.len,hl];exact(h_.mp h).1
  exact⟨σ[j],by simp[hj],trivial⟩
 .exact R.sl j s z
theorem Rl.other{K:Fg}{B Z H:Hp}{env:En}{σ:L2.St}{a:Tv}{o:HO}(R:Rl K B Z H env σ)(hb:B a=none)(hz:Z a=none)(nO:∀(i:Nat) ds,env[i]?≠some (.O ds)):Rl K B Z (upd H a o) env σ:=
 ⟨dO R.bh hb,dO R.zh hz,R.len,λj s h=>by
  obtain⟨x,e,q⟩:=R.sl j s h;refine⟨x,e,?_⟩;cases s with
  | un=>trivial
  | F d=>exact q
  | O ds=>exact absurd h (nO j ds),R.ob,R.ap⟩
abbrev Qv:=Tv->Hp->Hp->TM->TQ->Prop
def QT:Qv:=λ_ _ _ _ _=>True
structure LY(qv:Qv):Prop where
 nil:∀{a B H},qv a B H [] []
 mon:∀{a B H H' pre vs},(∀b o,b≠a->H b=some o->H' b=some o)->qv a B H pre vs->qv a B H' pre vs
 base:∀{a B B' H pre vs},aE B B'->qv a B' H pre vs->qv a B H pre vs
theorem Hx:LY QT:=⟨trivial,λ_ _=>trivial,λ_ _=>trivial⟩
abbrev Qa:=Hp->Hp->Hp->TM->Prop
structure Ew(a:Addr)(qa:Qa):Prop where
 ne:∀{B Z H pre},qa B Z H pre->H a≠none
 mon:∀{B Z H Z' H' pre},Ex Z H Z' H'->qa B Z H pre->qa B Z' H' pre
structure Ac(X:Cx)(qa:Qa)(pins:List (Addr×Obj))(a:Addr)(B Z H:Hp)(env:En)(σ:L2.St)(pre:List D)(s:Shared):Prop where
 I:Inv X pins σ H s
 R:Rl X.K B Z H env σ
 nO:∀(i:Nat) ds,env[i]?≠some (.O ds)
 hb:B a=none
 hz:Z a=none
 ac:qa B Z H pre
abbrev qL(K:Fg)(qv:Qv)(a:Tv):Qa:=λB Z H pre=>∃vs,H a=some (.lst vs)/\av K Z pre vs/\qv a B H pre vs
theorem EZ{K:Fg}{qv:Qv}{a:Tv}(qo:LY qv):Ew a (qL K qv a):=⟨λ⟨vs,h,_⟩ z=>(by rw[z]at h;cases h),λx ⟨vs,h,r,q⟩=>⟨vs,x.h _ _ h,av.mono x.z _ r,qo.mon (λb o _ h=>x.h b o h) q⟩⟩
abbrev MP(X:Cx)(qv:Qv)(pins:S3)(a:Tv)(B Z H:Hp)(env:En)(σ:L2.St)(pre:TM)(s:To):Prop:=Ac X (qL X.K qv a) pins a B Z H env σ pre s
abbrev BdT:=(To->Prop)->S2->To->Prop
def xT(X:Cx)(qa:Qa)(a:Tv)(Bd:BdT)(k:TJ):Prop:=∀(pins:S3)(s:To)(σ:L2.St)(H B Z:Hp)(env:En)(pre xs:TM)(P:To->Prop)(E:S2),
 Ac X qa pins a B Z H env σ pre s->k env=some xs->pre.length+xs.length<=16000000->(∀s' σ' H' Z',Ac X qa pins a B Z' H' env σ' (pre++xs) s'->Ex Z B Z' H'->P s')->Bd P E s
abbrev Act(X:Cx)(qv:Qv)(a:Tv)(Bd:BdT)(k:TJ):Prop:=xT X (qL X.K qv a) a Bd k
def Ms(X:Cx)(em:Sem Unit):BdT:=λP E s=>wpAny @2 X.A em (λ_ s'=>P s') E s
structure BA(P:Program)(w:World)(ce:Expr):Prop where
 lp:∀{A:Around}{d:Nat}{it acc:Value}{env:Env}{Q:Fin->Shared->Prop}{E:Value->Shared->Prop}{s:Shared},wpAny (model P w) A ((compTurn ce d it acc env).onRaise (λx=>do noteFrame x env;theTreesLotGoes x)) Q E s->wpAny (model P w) (A.under (.compLoop ce d it acc env)) ((model P w).den (.compLoop ce d it acc env)) Q E s
 st:∀{A:Around}{d:Nat}{it acc:Value}{env:Env}{Q:Fin->Shared->Prop}{E:Value->Shared->Prop}{s:Shared},wpAny (model P w) A ((compStart ce d it acc env).onRaise (λx=>do noteFrame x env;standAt theWindowsPlace)) Q E s->wpAny (model P w) (A.under (.compStart ce d it acc env)) ((model P w).den (.compStart ce d it acc env)) Q E s
theorem MM{P:Tp}{w:Ts}{elt:Tz}{gens:S8}{scope:Tu}{pos:Pos}:BA P w (.ListComp elt gens scope pos):=⟨λh=>h,λh=>h⟩
def Tw(X:Cx)(ce:Tz)(d:Nat)(it:Tv)(acc:Tn)(tg:Tz)(ifs:Td)(Bd:BdT):Prop:=∀(s:To)(Q:Fin->To->Prop)(E:S2),
   wpAny @2 X.A (pyNext (.ref it)) (λr s1=>match r with
    | none=>Q (.done .next) s1
    | some v=>wpAny @2 X.A (letOwnedTupleGo tg (.ref it) v) (λ_ s2=>wpAny @2 X.A (assign tg X.env v) (λ_ s3=>
      wpAny @2 X.A (forIn ifs true λc r=>if r=true then do let ok <- isTrue c X.env (eval c X.env);pure (ForInStep.yield ok)else pure (ForInStep.yield r)) (λok s4=>
       if ok=true then Bd (λs5=>Q (.again (.compLoop ce d (.ref it) acc X.env)) s5) E s4 else Q (.again (.compLoop ce d (.ref it) acc X.env)) s4) E s3) E s2) E s1) E s->
   wpAny @2 X.A (compTurn ce d (.ref it) acc X.env) Q E s
section
variable {X:Cx}{a:Tv}{elt:Tz}{fe:Fe}
def aG(f:Fe):TJ:=λenv=>(f env).bind λd=>some [d]
abbrev GS(X:Cx)(a:Tv)(elt:Tz):BdT:=Ms X (do let _ <- call (.builtin "list.append") [.ref a,<- eval elt X.env])
theorem AE(hx:∀e s,¬X.xe e s)(h:PD X .cl elt fe):Act X QT a (GS X a elt) (aG fe):=by
 intro pins s σ H B Z env pre xs P E A e hl hP;refine glG λ_ kq=>?_;obtain⟨d,e1,e2⟩:=a_.mp e;cases e2;obtain⟨vs,hv,rr,_⟩:=A.ac;refine kq (b_ (P4 (h pins s σ H _ A.I ⟨env,B,Z,d,A.R,e1,λv Z1 H1 x1 g1=>(show ∃Z1,Ex Z H Z1 H1/\Rep X.K Z1 d v from⟨Z1,x1,g1⟩)⟩) (λu s1 aA=>?_) λe s z=>(hx e s z).elim))
 all_goals clear kq
 obtain⟨v,H1,I1,r1,Z1,x1,g1⟩:=aA;have hne:H a≠none:=by rw[hv];simp
 refine b_ (P4 (kf pins s1 σ H1 (.ref a) [v] (.ref a) [u] (λy H2=>H2=upd H1 a (.lst (vs++[v]))) I1 rfl (.cons r1 .nil) ⟨a,vs,v,rfl,rfl,x1.h _ _ hv,by rw[<- rr.len,P6];simp at hl;lia,rfl⟩) (λw s2 aA=>?_) λe s z=>(hx e s z).elim);obtain⟨y,H2,I2,r2,q⟩:=aA;subst q;have hz1:=x1.fr a hne A.hz;have R1:=A.R.ext x1;refine o_ (hP s2 σ _ Z1 ⟨I2,R1.other A.hb hz1 A.nO,A.nO,A.hb,hz1,vs++[v],aw,(av.mono x1.z pre rr).app (av.one g1),trivial⟩ ?_);exact⟨dO R1.bh A.hb,x1.z,dO R1.zh hz1,λb hb e=>x1.fr b (l7 A.R.bh hb) e,x1.nf⟩
def BP(X:Cx)(ifs:Td)(c:Fb):Prop:=∀(pins:S3)(s:To)(σ:L2.St)(H:Hp)(Q:Bool->Hp->Prop)(E:S2),Inv X pins σ H s->TB X.K c σ H Q->
 wpAny @2 X.A (forIn ifs true λc r=>if r=true then do let ok <- isTrue c X.env (eval c X.env);pure (ForInStep.yield ok)else pure (ForInStep.yield r)) (TP X pins σ Q) E s
theorem bj:BP X [] T1:=λpins s σ H Q E I aA=>by
 obtain⟨env,B,Z,b,R,e,k⟩:=aA;cases e;exact wpAny_tests_nil ⟨H,I,k Z H (Ex.refl R.zh)⟩
theorem hV(hx:∀e s,¬X.xe e s)(h:PB X c f):BP X [c] f:=λpins s σ H Q E I q=>
 wpAny_tests_one (P4 (h pins s σ H Q I q) (λ_ _ z=>z) λe s z=>(hx e s z).elim)
theorem kg{ce:Tz}{qa:Qa}(co:BA X.prog X.w ce)(qo:Ew a qa)
  (hx:∀e s,¬X.xe e s) (bF:X.calm=true) (T:Turn X.prog X.w X.K tg J fp it tn) (hg:GD X tg t) (ht:mQ is t) (yE:BP X ifs c) (mR:xT X qa a Bd k)
  (BB:Tw X ce dd it acc tg ifs Bd) (A:Ac X qa pins a B Z H env σ pre s) (hfp:∀b∈fp,fH X pins H b) (htn:tn 0 s.heap) (hw:Walk X.K Z ds J) (hu:cY is env=true)
  (BC:ez t c k env ds=some xs) (hl:pre.length+xs.length<=16000000) (hR:∀s' σ' H' Z',Ac X qa pins a B Z' H' env σ' (pre++xs) s'->Ex Z B Z' H'->(∀b∈fp,H' b=none)->R (.ok .next) s') :
  codeAny @2 X.A (.compLoop ce dd (.ref it) acc X.env) R s:=by
 have vA:∀{H':Hp},(∀b∈fp,H' b=none)->∀b∈fp,fH X pins H' b:=λhn b hb=>⟨hn b hb,(hfp b hb).2⟩;refine codeAny_loop rfl (λn s'=>∃i σ' H' Z' pre' rest,Ac X qa pins a B Z' H' env σ' pre' s'/\tn i s'.heap/\(∀b∈fp,H' b=none)/\n=ds.length-i/\i<=ds.length/\Ex Z B Z' H'/\ez t c k env (ds.drop i)=some rest/\pre'++rest=pre++xs)
  (λn s1 hI=>?_) ds.length ⟨0,σ,H,Z,pre,xs,A,htn,λb hb=>(hfp b hb).1,by simp,Rv _,⟨A.R.bh,aE.refl _,A.R.zh,λ_ _ h=>h,λ_ _ _ h=>h⟩,by simpa using BC,rfl⟩
 obtain⟨i,σ1,H1,Z1,Ey,rest,A1,OW,Nl,rfl,hi,x1,yF,nR⟩:=hI;refine co.lp (wpAny_noted (BB s1 _ _ ?_));obtain⟨w1,w2⟩:=hw Z1 H1 x1.z A1.R.zh i
 by_cases kZ:i<ds.length
 .obtain⟨go,yl⟩:=w1 kZ;refine bx (T.item X rfl rfl rfl bF i pins s1 σ1 H1 _ A1.I (vA Nl) OW go) λr s2 aA=>?_;obtain⟨u,hr,h2⟩:=aA;subst hr;refine bx h2 λ_ s3 aA=>?_;refine glG λ_ kq=>?_;obtain⟨x,H3,I3,r3,y3,Nm,LR⟩:=aA;obtain⟨Z3,d,x3,hd,rep3⟩:=yl x H3 y3;have Nk:ds.drop i=d::ds.drop (i+1):=by
   obtain⟨h1,h2⟩:=h_.mp hd;rw[Q5 h1,h2]
  rw[Nk]at yF;unfold ez at yF;obtain⟨e1,g1,yF⟩:=a_.mp yF;obtain⟨b,g2,yF⟩:=a_.mp yF;obtain⟨ys,g3,yF⟩:=a_.mp yF;obtain⟨zs,g4,yF⟩:=a_.mp yF;cases yF;have I3':=I3.pinned (vA LR) (T.obj _ _ Nm);have hne:=qo.ne A1.ac;have hz3:=x3.fr a hne A1.hz;have R3:=A1.R.ext x3;refine kq (P4 (hg _ s3 σ1 H3 x u (λσ4 H4=>H4=H3/\Rl X.K B Z3 H3 e1 σ4) I3' r3 ⟨env,B,Z3,d,e1,R3,rep3,g1,λσ4 R4=>⟨rfl,R4⟩⟩) (λ_ s4 aA=>?_) λe s z=>(hx e s z).elim)
  all_goals clear kq
  obtain⟨σ4,H4,I4,h4,R4⟩:=aA;subst h4;have FE:∀(s7:To)(σ7:L2.St)(H7 Z7:Hp)(Ez:TM),Ac X qa (pins++ki fp s3.heap) a B Z7 H7 e1 σ7 Ez s7->Ex Z B Z7 H7->Ez++zs=pre++xs->
    ∃m,m<ds.length-i/\∃i σ' H' Z' pre' rest,Ac X qa pins a B Z' H' env σ' pre' s7/\tn i s7.heap/\(∀b∈fp,H' b=none)/\m=ds.length-i/\i<=ds.length/\Ex Z B Z' H'/\ez t c k env (ds.drop i)=some rest/\pre'++rest=pre++xs:=by
   intro s7 σ7 H7 Z7 Ez A7 x7 h7;have KY:∀b∈fp,∀o,s3.heap.get? b=some o->s7.heap.get? b=some o/\H7 b=none:=λb hb o e=>
    let q:=A7.I.pin (b,o) (Qm _ (Qm _ (iS hb e)))
    ⟨q.1,q.2.1⟩
   refine⟨ds.length-(i+1),by lia,i+1,σ7,H7,Z7,Ez,zs,⟨A7.I.unpinned,A7.R.forget (ht.len g1) (ht.oth g1) hu,A1.nO,A7.hb,A7.hz,A7.ac⟩,T.keep _ _ _ Nm λb hb o e=>(KY b hb o e).1,λb hb=>?_,rfl,kZ,x7,g4,h7⟩;obtain⟨o,e,_⟩:=T.obj _ _ Nm b hb;exact(KY b hb o e).2
  refine bx (yE _ s4 σ4 H4 (λb' H5=>b'=b/\∃Z5,Ex Z3 H4 Z5 H5) _ I4 ⟨e1,B,Z3,b,R4,g2,λZ5 H5 x5=>⟨rfl,Z5,x5⟩⟩) λok s5 aA=>?_;obtain⟨H5,I5,hok,Z5,x5⟩:=aA;subst hok;have hne4:H4 a≠none:=l7 x3.h hne;have hz5:=x5.fr a hne4 hz3;have x35:=x3.trans x5;have A5:Ac X qa (pins++ki fp s3.heap) a B Z5 H5 e1 σ4 Ey s5:=⟨I5,R4.ext x5,λj es h=>A1.nO j es (ht.noO g1 j es h),A1.hb,hz5,qo.mon x35 A1.ac⟩;have xB:Ex Z B Z5 H5:=x1.transB (x35.part A1.R.bh);cases ok with
  | false=>
   rw[j_ (by simp)]at g3;cases g3;rw[j_ (by simp)];exact⟨rfl,FE s5 σ4 H5 Z5 Ey A5 xB (by simpa using nR)⟩
  | true=>
   rw[g_ rfl]at g3;rw[g_ rfl];have hlen:=QO List.length nR;simp only[E_]at hlen;exact mR _ s5 σ4 H5 B Z5 e1 Ey ys _ _ A5 g3 (by lia) λs7 σ7 H7 Z7 A7 x7=>⟨rfl,FE s7 σ7 H7 Z7 (Ey++ys) A7 (xB.transB x7) (by rw[RY];exact nR)⟩
 .have hii:i=ds.length:=by lia
  subst hii;rw[List.drop_eq_nil_of_le (by lia)]at yF;cases yF;rw[P9]at nR;refine bx (T.done X rfl rfl rfl bF _ pins s1 σ1 H1 _ A1.I (vA Nl) OW (w2 (m_ _))) λr s2 aA=>?_;obtain⟨hr,I2⟩:=aA;subst hr;exact hR s2 σ1 H1 Z1 ⟨I2,A1.R,A1.nO,A1.hb,A1.hz,by rw[<- nR];exact A1.ac⟩ x1 Nl
end
section
variable {P:Tp}{w:Ts}{A:Tq}{elt:Tz}{gens:S8}{scope:Tu}{pos:Pos}{d:Nat}{tg iter:Tz}{ifs:Td}{it acc:Tn}{env:Env}{R:Result->To->Prop}{s:To}
theorem qW{ce:Tz}(co:BA P w ce)(hc:(clausesOf ce)[d]?=some ⟨tg,iter,ifs,0⟩)(h0:codeAny (model P w) A (.compLoop ce d it acc env) R s)
    (h1:wpAny (model P w) A (pyIter it) (λNn s'=>codeAny (model P w) A (.compLoop ce d Nn acc env) R s') (notedBy (model P w) A env λx s'=>R (.error x) s') s) :
    codeAny (model P w) A (.compStart ce d it acc env) R s:=by
  refine codeAny_of_tree (co.st (wpAny_notedAt ?_));unfold compStart;rw[hc];show wpAny (model P w) A (ask >>= _) _ _ s;refine b_ (wpAny_askSetting (wpAny_ite ?_))<;>skip
  split
  . first
      | exact b_ (o_ (o_ ⟨rfl,h0⟩))
      | exact o_ ⟨rfl,h0⟩
  . refine b_ (So ?_)
    first
      | exact b_ (Qy (b_ (P4 h1 (λNn s' q=>o_ ⟨rfl,q⟩) λ_ _ x=>x)))
      | (show wpAny (model P w) A (standAt iter.pos >>= _) _ _ s
         exact b_ (Qy (b_ (P4 h1 (λNn s' q=>o_ ⟨rfl,q⟩) λ_ _ x=>x))))
end
section
variable {X:Cx}{a:Tv}{elt:Tz}{gens:S8}{scope:Tu}{pos:Pos}{d:Nat}{tg iter vC b9:Tz}{ifs k6:Td}{it:Tv}
theorem wy{ce:Tz}{em:Sem Unit}(ht:compTurn ce d (.ref it) (.ref a) X.env=wI ce tg iter ifs d (.ref it) (.ref a) X.env em):Tw X ce d it (.ref a) tg ifs (Ms X em):=by
 intro s Q E hw;rw[ht];unfold wI;refine b_ (Qy (b_ (bx hw λr s1 q1=>?_)));cases r with
 | none=>exact o_ q1
 | some v=>
  refine b_ (bx q1 λ_ s2 q2=>b_ (bx q2 λ_ s3 q3=>b_ (bx q3 λok s4 q4=>?_)));cases ok with
  | false=>exact o_ (show Q (.again (.compLoop ce d (.ref it) (.ref a) X.env)) s4 from by rw[j_ (by simp)]at q4;exact q4)
  | true=>
   rw[g_ rfl]at q4;exact b_ (bx q4 λ_ s5 q5=>o_ q5)
def Ap(X:Cx)(a:Tv)(ce:Tz)(d:Nat)(b9:Tz):BdT:=λP E s=>
 wpAny @2 X.A (eval b9 X.env) (λx s5=>wpAny @2 X.A (pyIter x) (λi' s6=>
  codeAny @2 X.A (.compStart ce (d+1) i' (.ref a) X.env) (λr s7=>match r with | .ok _=>P s7 | .error e=>cameBackBy @2 X.A X.env E e s7) s6) E s5) E s
theorem vT{ce:Tz}(ht:compTurn ce d (.ref it) (.ref a) X.env=wg ce tg iter b9 ifs d (.ref it) (.ref a) X.env)(hs:∀x,foldedSetIterable b9 X.env x=pure x):Tw X ce d it (.ref a) tg ifs (Ap X a ce d b9):=by
 intro s Q E hw;rw[ht];unfold wg;refine b_ (Qy (b_ (bx hw λr s1 q1=>?_)));cases r with
 | none=>exact o_ q1
 | some v=>
  refine b_ (bx q1 λ_ s2 q2=>b_ (bx q2 λ_ s3 q3=>b_ (bx q3 λok s4 q4=>?_)));cases ok with
  | false=>exact o_ (show Q (.again (.compLoop ce d (.ref it) (.ref a) X.env)) s4 from by rw[j_ (by simp)]at q4;exact q4)
  | true=>
   rw[g_ rfl]at q4;refine b_ (bx q4 λx s5 q5=>b_ (Qy (b_ (wpAny_of_eq (hs x) (b_ (K_ (bx q5 λi' s6 q6=>?_)))))));refine b_ (wpAny_runOwn (Rz q6 λr s7 q7=>?_));cases r with
   | ok f=>exact o_ q7
   | error e=>exact q7
def fx(fi:Fi)(is:Tf)(t:Ft)(c:Fb)(k:TJ):TJ:=λenv=>(fi env).bind λds=>if cY is env=true then ez t c k env ds else none
theorem rK{ce:Tz}{qa:Qa}(co:BA X.prog X.w ce)(qo:Ew a qa)(hx:∀e s,¬X.xe e s)(bF:X.calm=true)(h2:(clausesOf ce)[d+1]?=some ⟨vC,b9,k6,0⟩)
  (hi:ID X vC b9 fi) (hg:GD X vC t) (ht:mQ is t) (yE:BP X k6 c) (mR:xT X qa a Bd k)
  (BB:∀it,Tw X ce (d+1) it (.ref a) vC k6 Bd) :
  xT X qa a (Ap X a ce d b9) (fx fi is t c k):=by
 intro pins s σ H B Z env pre xs P E Aq e hl hP;obtain⟨ds,e1,e2⟩:=a_.mp e;have hu:cY is env=true:=by
  by_cases hu:cY is env=true
  .exact hu
  .rw[j_ hu]at e2;cases e2
 rw[g_ hu]at e2;refine P4 (hi pins s σ H (λJ H1=>∃Z1,Ex Z H Z1 H1/\Walk X.K Z1 ds J) Aq.I ⟨env,B,Z,ds,Aq.R,e1,λJ Z1 H1 x1 wk=>⟨Z1,x1,wk⟩⟩) (λx s5 q5=>?_) λe s z=>(hx e s z).elim;refine P4 q5 (λi' s6 aA=>?_) λe s z=>(hx e s z).elim;obtain⟨it,fp,tn,J,H6,hit,I6,T,OX,fp6,Z6,x6,wk⟩:=aA;subst hit;have A6:Ac X qa pins a B Z6 H6 env σ pre s6:=⟨I6,Aq.R.ext x6,Aq.nO,Aq.hb,x6.fr a (qo.ne Aq.ac) Aq.hz,qo.mon x6 Aq.ac⟩;have go:=kg co qo (a:=a) hx bF T hg ht yE mR (BB it) A6 fp6 OX wk hu e2 hl
  (R:=λr s7=>match r with | .ok _=>P s7 | .error e=>cameBackBy @2 X.A X.env E e s7)
  λs' σ' H' Z' A' x' _=>hP s' σ' H' Z' A' ((x6.part Aq.R.bh).transB x')
 exact qW co h2 go (T.self _ 0 _ _ _ OX go)
end
structure KZ(X:Cx)(qa:Qa)(a:Addr)(ce:Expr)(d:Nat)(tg:Expr)(ifs:List Expr)(t:Ft)(c:Fb)(k:En->Option (List D)):Prop where
 g:GD X tg t
 ts:BP X ifs c
 ex:∃Bd,xT X qa a Bd k/\∀it,Tw X ce d it (.ref a) tg ifs Bd
abbrev Hq(X:Cx)(qv:Qv)(a:Tv)(elt:Tz)(gens:S8)(scope:Tu)(pos:Pos)(d:Nat)(tg:Tz)(ifs:Td)(t:Ft)(c:Fb)(k:TJ):Prop:=KZ X (qL X.K qv a) a (.ListComp elt gens scope pos) d tg ifs t c k
section
variable {X:Cx}{a:Tv}{elt:Tz}{gens:S8}{scope:Tu}{pos:Pos}{d:Nat}{tg iter vC b9:Tz}{ifs k6:Td}{t t':Ft}{c c':Fb}{k:TJ}{fe:Fe}{fi:Fi}{is:Tf}{qv:Qv}
theorem aH(hx:∀e s,¬X.xe e s)(hg:GD X tg t)(yE:BP X ifs c)(he:PD X .cl elt fe)(h:gens[d]?=some ⟨tg,iter,ifs,0⟩:=by rfl)(h2:gens[d+1]?=none:=by rfl):Hq X QT a elt gens scope pos d tg ifs t c (aG fe):=
 ⟨hg,yE,_,AE hx he,λ_=>wy (yq h h2)⟩
theorem rH(hx:∀e s,¬X.xe e s)(bF:X.calm=true)(hg:GD X tg t)(yE:BP X ifs c)(hi:ID X vC b9 fi)(ht:mQ is t')(b:Hq X QT a elt gens scope pos (d+1) vC k6 t' c' k)
  (h:gens[d]?=some ⟨tg,iter,ifs,0⟩:=by rfl) (h2:gens[d+1]?=some ⟨vC,b9,k6,0⟩:=by rfl) (hs:∀x,foldedSetIterable b9 X.env x=pure x:=by intro _;rfl):Hq X QT a elt gens scope pos d tg ifs t c (fx fi is t' c' k):=by
 obtain⟨Bd,mR,BB⟩:=b.ex;exact⟨hg,yE,_,rK MM (EZ Hx) hx bF h2 hi b.g ht b.ts mR BB,λ_=>vT (xG h h2) hs⟩
end
def aO(fi:Fi)(is:Tf)(t:Ft)(c:Fb)(k:TJ)(n:Nat)(caps:Tf):Fe:=λenv=>(fi env).bind λds=>if cY is (dk n caps env)=true then(ez t c k (dk n caps env) ds).bind λxs=>if xs.length<=16000000 then some (.lst xs)else none else none
theorem ml(h:aO fi is t c k n caps env=some d) :
  ∃ds xs,fi env=some ds/\cY is (dk n caps env)=true/\ez t c k (dk n caps env) ds=some xs/\xs.length<=16000000/\d=.lst xs:=by
 obtain⟨ds,e1,e2⟩:=a_.mp h
 by_cases hu:cY is (dk n caps env)=true
 .rw[g_ hu]at e2;refine glG λ_ kq=>?_;obtain⟨xs,e3,e4⟩:=a_.mp e2;obtain⟨e5,e6⟩:=rj e4;exact kq (⟨ds,xs,e1,hu,e3,e5,e6.symm⟩)
 .rw[j_ hu]at e2;cases e2
theorem jm(n:Nat)(caps:Tf)(env:En):∀(i:Nat) ds,(dk n caps env)[i]?≠some (.O ds):=λi ds h=>by
 unfold dk at h
 by_cases hi:i<n
 .rw[PZ (by simpa using hi),Qp,g_ hi]at h;cases h
 .rw[G_ (by simpa using hi),u_]at h;cases q:caps[i-(List.replicate n Slot.un).length]? with
  | none=>rw[q]at h;cases h
  | some j=>
   rw[q]at h;simp only[Option.map_some,Option.some.injEq]at h
   split at h<;>cases h
theorem Rl.cap{K:Fg}{B Z H H':Hp}{env:En}{σ:L2.St}(R:Rl K B Z H env σ)(n:Nat)(caps:Tf)(s1:aE H H')(s2:aE Z H'):Rl K H Z H' (dk n caps env) (qB n caps σ):=by
 refine⟨s1,s2,by simp[dk,qB],λi s h=>?_,λi ds a h=>absurd h (jm n caps env i ds),λi j ds es a _ h=>absurd h (jm n caps env i ds)⟩;unfold dk at h;unfold qB
 by_cases hi:i<n
 .rw[PZ (by simpa using hi),Qp,g_ hi]at h ⊢;cases h;exact⟨none,rfl,trivial⟩
 .rw[G_ (by simpa using hi),u_]at h ⊢;simp only[Rk]at h ⊢;cases q:caps[i-n]? with
  | none=>rw[q]at h;cases h
  | some j=>
   rw[q]at h;simp only[Option.map_some,Option.some.injEq]at h ⊢;refine⟨_,rfl,?_⟩
   split at h
   .rename_i dd hj;subst h;obtain⟨x,h1,v,h2,r⟩:=R.sl j _ hj;rw[h1,h2];exact⟨v,rfl,r⟩
   .subst h;trivial
section
variable {X:Cx}{elt:Tz}{rest:S8}{scope:Tu}{pos:Pos}{tg iter:Tz}{ifs:Td}{t:Ft}{c:Fb}{k:TJ}{fi:Fi}{is caps:Tf}{cl:S6}{Nc own:Tb}
theorem oA{qv:Qv}(qo:LY qv)(ht:mQ is t)(bF:X.calm=true)(jK:i0 (λx=>X.env.cells.lookup x) scope.names []=some cl)(cx:scope.kind=.function)(hnc:∀y∈scope.names,y.2≠.cell)
  (hN:Nc.map some=own.map some++caps.map (λj=>X.N[j]?)) (mP:ot X scope caps=true)
  (hb:∀C s H ex pn a,Hq (ek X scope cl Nc C s H ex pn) qv a elt (⟨tg,iter,ifs,0⟩::rest) scope pos 0 tg ifs t c k)
  {pins:S3} {σ:L2.St} {s2:To} {H2 B Z2:Hp} {env:En} {ds xs:TM} {E:S2} {RR:Tn->Tv->Result->To->Prop} {it:Tv} {fp:Tc} {tn:Nat->Tr->Prop} {J:It}
  (I2:Inv X pins σ H2 s2) (R2:Rl X.K B Z2 H2 env σ) (T:Turn X.prog X.w X.K tg J fp it tn) (BD:tn 0 s2.heap) (qZ:∀b∈fp,fH X pins H2 b) (wk:Walk X.K Z2 ds J) (hu:cY is (dk own.length caps env)=true)
  (BC:ez t c k (dk own.length caps env) ds=some xs) (hl:xs.length<=16000000)
  (Np:∀a C H' Z' s' vs m,Inv X pins σ H' s'->s'.heap.Ns C m->fH X pins H' C->Ex Z2 H2 Z' H'->H2 a=none->H' a=some (.lst vs)->Z' a=none->av X.K Z' xs vs->qv a H2 H' xs vs->RR (.ref a) C (.ok .next) s') :
  wpAny @2 X.A (newList []) (λacc s₃=>wpAny @2 X.A (newFunctionEnv scope X.env.globals cl [] X.env.qual none .none (some X.env)) (λHS s₄=>
   codeAny @2 X.A (.compStart (.ListComp elt (⟨tg,iter,ifs,0⟩::rest) scope pos) 0 (.ref it) acc {HS with scope:=relabel scope X.env}) (RR acc HS.locals) s₄) E s₃) E s2:=by
 refine Q8 ?_ (by size_fits);have hf:H2 s2.sz=none:=I2.hok.fresh (m_ _);have I3:Inv X pins σ (upd H2 s2.sz (.lst [])) {s2 with heap:=s2.heap.push {cls:=.type "list",dict:=none,data:=.seq ([]:S9).toArray}}:=
  I2.laid (λb u e=>d_ _ e) (m_ _) (show bO X.prog X.w _ _ _ (.lst [])from⟨by simp,[],0,.nil,s_ _ rfl⟩)
 generalize yL:({s2 with heap:=s2.heap.push {cls:=.type "list",dict:=none,data:=.seq ([]:S9).toArray}}:To)=s3 at I3 ⊢;have K0:∀b o,s2.heap.get? b=some o->s3.heap.get? b=some o:=λb o e=>by rw[<- yL];exact d_ _ e
 have K2:s3.sz=s2.sz+1:=by rw[<- yL];exact Qq _ _
 have yD:∀b∈fp,b<s2.sz:=λb hb=>let ⟨o,e,_⟩:=T.obj _ _ BD b hb;k_ e;have K3:∀b∈fp,fH X pins (upd H2 s2.sz (.lst [])) b:=λb hb=>⟨by rw[ay (x_ (yD b hb))];exact(qZ b hb).1,(qZ b hb).2⟩;refine wpAny_newFunctionEnv hnc (by intro y hy;simp at hy) (λh1 FD Nq=>?_) cx;have K4:∀b o,s3.heap.get? b=some o->h1.get? b=some o:=λb o e=>Nq.extBut b o (x_ (k_ e)) (d_ _ e);have I4:=sN (tk:=s3.toks+([]:List (Str×Tn)).length) I3 jK cx hnc K3 (λb hb=>by rw[K2];exact Qx (yD b hb)) hN mP FD K4;generalize hXc:ek X scope cl Nc s3.sz s3 (upd H2 s2.sz (.lst [])) fp (X.pn++pins)=Xc at I4;have bb:Hq Xc qv s2.sz elt (⟨tg,iter,ifs,0⟩::rest) scope pos 0 tg ifs t c k:=by rw[<- hXc];exact hb _ _ _ _ _ _
 obtain⟨Bd,mR,BB⟩:=bb.ex;have eP:Xc.prog=X.prog:=by rw[<- hXc];rfl
 have eW:Xc.w=X.w:=by rw[<- hXc];rfl
 have eK:Xc.K=X.K:=by rw[<- hXc];rfl
 have eA:Xc.A=X.A:=by rw[<- hXc];rfl
 have eE:Xc.env=compEnvC scope cl s3.sz X.env:=by rw[<- hXc];rfl
 have hx:∀e s,¬Xc.xe e s:=λe s z=>by rw[<- hXc]at z;exact z
 have BU:Xc.calm=true:=by rw[<- hXc];exact bF
 have T':Turn Xc.prog Xc.w Xc.K tg J fp it tn:=by rw[eP,eW,eK];exact T
 have A4:MP Xc qv [] s2.sz H2 Z2 (upd H2 s2.sz (.lst [])) (dk own.length caps env) (qB own.length caps σ) [] {s3 with heap:=h1,toks:=s3.toks+([]:List (Str×Tn)).length}:=
  ⟨I4,by rw[eK];exact R2.cap _ _ (cw hf) (dO R2.zh (R2.zh.free hf)),jm _ _ _,hf,R2.zh.free hf,[],aw,rfl,qo.nil⟩
 have Nr:∀b∈fp,fH Xc [] (upd H2 s2.sz (.lst [])) b:=λb hb=>by
  obtain⟨f1,f2,f3,f4,f5,f6⟩:=K3 b hb;have mem:=gU jK (λp hp=>by cases hp);rw[<- hXc];refine⟨f1,?_,iu I3 f2 f3,.inl hb,λx c h=>f5 x c (mem (x,c) (Qj h)),λp hp=>f6 p (by simpa [ek]using hp)⟩;show b≠s3.sz;rw[K2];exact x_ (Qx (yD b hb))
 have K5:tn 0 ({s3 with heap:=h1,toks:=s3.toks+([]:List (Str×Tn)).length}:To).heap:=T.keep _ _ _ BD λb _ o e=>K4 b o (K0 b o e);have go:=kg MM (EZ qo) hx BU T' bb.g ht bb.ts mR (BB it) A4 Nr K5 (by rw[eK];exact wk) hu BC (by simpa using hl) λs' σ' H' Z' A' x' fr'=>by
  obtain⟨vs,hv,rr,qq⟩:=A'.ac;have base:=A'.I.base;obtain⟨mC,K6,_⟩:=A'.I.loc;have hok:=A'.I.hok;have hos:=A'.I.os;have free:=A'.I.free;rw[eE]at K6 free;rw[eP,eW]at hok;rw[eK]at rr;have u1:Un (kS X.stack) fp H2 (upd H2 s2.sz (.lst [])) s2.heap s3.heap:=Un.laid K0 (m_ _) hf;have u2:Un (kS X.stack) fp (upd H2 s2.sz (.lst [])) H' s3.heap s'.heap:=by rw[<- hXc]at base;exact base
  have HU:s'.os=s2.os:=by rw[<- hXc]at hos;exact hos.trans (by rw[<- yL];rfl)
  have I':Inv X pins σ H' s':=I2.call' HU (u1.trans u2) hok A'.I.bare λb hb=>⟨(qZ b hb).2.2.2.1,(qZ b hb).2.1,(qZ b hb).2.2.2.2.1,(qZ b hb).2.2.2.2.2⟩;exact Np s2.sz s3.sz H' Z' s' vs mC I' K6 (I3.fpOk (m_ _) free) x' hf hv A'.hz (by simpa using rr) (by simpa using qq)
 rw[eP,eW,eA,eE]at go;exact qW MM rfl go (T.self _ 0 _ _ _ K5 go)
theorem bA(ht:mQ is t)(bF:X.calm=true)(hi:ID X tg iter fi)(jK:i0 (λx=>X.env.cells.lookup x) scope.names []=some cl)(hN:Nc.map some=own.map some++caps.map (λj=>X.N[j]?))
  (hb:∀C s H ex pn a,Hq (ek X scope cl Nc C s H ex pn) QT a elt (⟨tg,iter,ifs,0⟩::rest) scope pos 0 tg ifs t c k)
  (mP:ot X scope caps=true:=by rfl) (cx:scope.kind=.function:=by rfl) (hnc:∀y∈scope.names,y.2≠.cell:=by decide +kernel) (K7:∀x∈scope.names,x.2=.local->scope.names.lookup x.1=some .local:=by decide +kernel)
  (hs:∀x,foldedSetIterable iter X.env x=pure x:=by intro _;rfl) :
  PD X .nw (.ListComp elt (⟨tg,iter,ifs,0⟩::rest) scope pos) (aO fi is t c k own.length caps):=by
 intro pins s σ H Q I hT;obtain⟨env,B,Z,d,R,e,kk⟩:=hT;obtain⟨ds,xs,e1,hu,BC,hl,rfl⟩:=ml e;rw[eval_ListComp];refine RG rfl hs (iV jK) cx K7 ?_;refine bx (hi pins s σ H (λJ H1=>∃Z1,Ex Z H Z1 H1/\Walk X.K Z1 ds J) I ⟨env,B,Z,ds,R,e1,λJ Z1 H1 x1 wk=>⟨Z1,x1,wk⟩⟩) λx s1 q1=>bx q1 λKJ s2 aA=>?_;obtain⟨it,fp,tn,J,H2,hit,I2,T,BD,qZ,Z2,x2,wk⟩:=aA;subst hit;refine oA Hx ht bF jK cx hnc hN mP hb I2 (R.ext x2) T BD qZ wk hu BC hl λa C H' Z' s' vs m I' ns fpC x' hf hv hz rr _=>?_;refine⟨m,ns,λh' hs'=>?_⟩;obtain⟨f1,f2,f3,f4,f5,f6⟩:=fpC;refine⟨.ref a,H',I'.turned (λb o hb e=>hs'.extBut b o hb e) f1 f2.symm.symm f4 f5 f6,rfl,kk _ Z' H' (x2.trans x') ⟨a,vs,xs,rfl,rfl,x2.h.free hf,hv,hz,rr⟩⟩
end
section
variable {P:Tp}{w:Ts}{A:Tq}{E:S2}
theorem EY(hne:l≠it):∀(n i:Nat)(s:To)(Q:S9->To->Prop),s.heap.IsListIter it l i->s.heap.IsList l items->i+n<=items.size->
  (∀h',h'.IsListIter it l (i+n)->Heap.SameBut it s.heap h'->Q ((items.toList.drop i).take n) {s with heap:=h'})->wpAny (model P w) A (draw (.ref it) n) Q E s:=by
 intro n
 induction n with
 | zero=>intro i s Q hit hl hle hQ;exact o_ (show Q [] s from by simpa using hQ s.heap (by simpa using hit) (Heap.SameBut.refl ..))
 | succ n ih=>
  intro i s Q hit hl hle hQ;have kZ:i<items.size:=by lia
  refine(show wpAny (model P w) A (pyNext (.ref it) >>= _) Q E s from b_ (wpAny_pyNext_list_item hit hl (x:=items[i]) (by simp[kZ]) λh1 HV Nt=>?_));refine b_ (K_ (ih (i+1) _ _ HV (hl.extBut Nt.extBut hne) (by lia) λh2 hit2 FF=>o_ ?_));have q:=hQ h2 (by rw[show i+(n+1)=i+1+n by lia];exact hit2) (Nt.trans FF);have hd:items.toList.drop i=items[i]::items.toList.drop (i+1):=by simp[Q5,kZ]
  rw[hd,List.take_succ_cons]at q;exact q
theorem CW(hh:A.handled=none)(hl:s.heap.IsList l items)(hQ:∀h',Heap.ExtBut s.sz s.heap h'->Q items.toList {s with heap:=h'}) :
  wpAny (model P w) A (unpackItems (.ref l) items.size none) Q E s:=by
 have kZ:l≠s.sz:=by obtain⟨o,ho,_⟩:=hl;exact x_ (k_ ho)
 unfold unpackItems;refine b_ ?_
 .unfold notIterableAtAll;refine b_ (RL hl.typeIs PySem.slot_list_iter.lookup (o_ ?_));simp only[P5,QV];have Nu:(s.heap.push {cls:=.type "list_iterator",data:=.fields #[.ref l,rawInt 0]}).IsList l items:=by obtain⟨o,ho,r⟩:=hl;exact⟨o,d_ _ ho,r⟩
  refine b_ (K_ (QR hl (b_ (K_ (EY kZ items.size 0 _ _ ⟨_,s_ _ rfl,rfl,rfl⟩ Nu (by lia) λh1 HV Nt=>?_)))));have qY:((items.toList.drop 0).take items.size)=items.toList:=by rw[List.drop_zero];exact RZ (by simp)
  rw[qY,j_ (by simp)];refine b_ (K_ (wpAny_pyNext_list_end hh HV (Nu.extBut Nt.extBut kZ) (by simp) λh2 vB=>?_));simp only[Option.isSome_none,P5,QV];exact o_ (hQ h2 λb o hb e=>vB b o hb (Nt.extBut b o hb (d_ _ e)))
end
section
variable {X:Cx}{rg:Gr}
def My(K:Tj)(n:Nat)(t:TGs):TG:=λv σ H Q=>∃a xs,v=.ref a/\cR K H a xs/\xs.length=n/\t xs σ H Q
theorem FQ(hc:X.calm=true)(h:xc X es t)(hn:(assignEach es X.env).length=n:=by rfl)(gq:(assignEach es X.env).findIdx? (·.1)=none:=by rfl):PG X (.Tuple es k pos) (My X.K n t):=by
 intro pins s σ H v u Q I r hw;obtain⟨a,xs,e1,hq,hl,hw⟩:=hw;subst e1;cases r;obtain⟨bo,rv,pl,hz⟩:=I.list hq;have hlen:=rv.length;rw[Sw];refine b_ (Qy ?_);unfold unpack;rw[gq,hn,show n=bo.toArray.size by rw[q_];lia];refine b_ (K_ (CW (I.ok.hd hc) pl.isList λh' hx=>?_));have I1:Inv X pins σ H {s with heap:=h'}:=I.kept λb o e=>hx b o (x_ (k_ e)) e;exact h pins _ σ H xs _ Q I1 (by simpa using rv) hw
def OD(is:Tf):Ft:=λd env=>match d with
 | .lst ds=>er is ds env
 | _=>none
theorem Kz(hc:X.calm=true)(h:Hk X es is)(hn:(assignEach es X.env).length=is.length:=by rfl)(gq:(assignEach es X.env).findIdx? (·.1)=none:=by rfl):GD X (.Tuple es k pos) (OD is):=
 PG.imp (FQ hc h hn gq) λv σ H Q aA=>by
  refine glG λ_ kq=>?_;obtain⟨env,B,Z,d,env',R,r,e,k⟩:=aA;cases d<;>try cases e
  rename_i ds;obtain⟨a,vs,e1,hq,rr⟩:=r;exact kq (⟨a,vs,e1,R.zh.seq hq,by rw[<- rr.len];exact iM e,env,B,Z,ds,env',R,rr,e,k⟩)
def Hr(is:Tf)(f:Fe):Fs:=λenv=>(f env).bind λd=>(OD is d env).bind λe=>some (.nx e)
theorem E7(hc:X.calm=true)(he:PD X .cl e fe)(h:Hk X es is)(hn:(assignEach es X.env).length=is.length:=by rfl)(gq:(assignEach es X.env).findIdx? (·.1)=none:=by rfl)
  (hs:swapsWithSole [.Tuple es k p2] e pos.line X.env=pure false:=by rfl) (hw:swappedStores [.Tuple es k p2] e X.env=pure none:=by rfl) (h1:(assignEach [.Tuple es k p2] X.env).map (·.2)=[assign (.Tuple es k p2) X.env]:=by rfl) :
  SD X rg (.Assign [.Tuple es k p2] e pos) (Hr is fe):=PS.imp (qK he (Kz hc h hn gq) hs hw h1) λE σ H aA=>by
 refine glG λ_ kq=>?_;obtain⟨env,B,Z,o,R,e,k⟩:=aA;obtain⟨d,e1,e⟩:=a_.mp e;obtain⟨en,e2,e⟩:=a_.mp e;cases e;refine kq (⟨env,B,Z,d,R,e1,λv Z1 H1 x1 g1=>⟨env,B,Z1,d,en,R.ext x1,g1,e2,λσ' R'=>k σ' Z1 H1 (x1.part R.bh) R'⟩⟩)
variable {l r:Tz}{fa fb:Fe}{ga gb:Gr}{pos p:Pos}
theorem CK:iy X (binaryOp .Add) (λx y H Q=>∃l b xs zs,x=.ref l/\y=.ref b/\cR X.K H l xs/\cR X.K H b zs/\xs.length+zs.length<=sizeLine/\∀p,H p=none->Q (.ref p) (upd H p (.lst (xs++zs)))):=by
 intro pins s σ H x y v u Q I rx ry h;refine glG λ_ kq=>?_;obtain⟨l,b,xs,zs,rfl,rfl,hH,hB,hz,q⟩:=h;cases rx;cases ry;obtain⟨bo,r,⟨o,n,e,c1,c2,c3⟩,_⟩:=I.list hH;obtain⟨nQ,r2,⟨o2,n2,e2,d1,d2,d3⟩,_⟩:=I.list hB;obtain⟨cls,dd,dt,sl⟩:=o;obtain⟨Et,tV,dt2,w5⟩:=o2;simp only at c1 c2 c3 d1 d2 d3;subst c1 c2 c3 d1 d2 d3;have h1:=r.length;have h2:=r2.length;have hsz:bo.toArray.size+nQ.toArray.size<=sizeLine:=by simp only[q_];lia
 refine kq (concat_meets ⟨_,e,rfl⟩ ⟨_,e2,rfl⟩ noFill_list_add seq_list_add PySem.F.slot_list_add PySem.F.entry_list_add (PySem.F.args_list_add_2 _ _) (list_addW l b bo.toArray nQ.toArray n n2 none none sl w5 hsz) ⟨e,e2,?_⟩)
 all_goals clear kq
 rw[show bo.toArray++nQ.toArray=(bo++nQ).toArray by simp];exact⟨.ref _,_,I.lnew (r.append r2) (by rw[E_];lia),rfl,q _ I.fresh⟩
theorem jM(ha:PD X ga l fa)(hb:PD X gb r fb):PD X .nw (.BinOp l .Add r pos) (au nk fa fb):=rV CK HJ ha hb
end
section
variable {X:Cx}{rg:Gr}{elt:Tz}{rest:S8}{scope:Tu}{pos spos py:Pos}{tg iter:Tz}{ifs:Td}{t:Ft}{c:Fb}{k:TJ}{fi:Fi}{is caps:Tf}{cl:S6}{Nc own:Tb}{y:Str}
structure FG(X:Cx)(qv:Qv)(e:Expr)(f:Fe):Prop where
 ex:∀(y:Str)(py spos:Pos)(i:Nat),swapsWith e (some (.Name y py)) spos.line X.env=pure true->X.N.Nodup->X.N[i]?=some y->Loc X.env.scope y->(X.fn y=true\/X.env.scope.names.lookup y=some .local)->
  ∀(pins:List (Addr×Obj))(s:Shared)(σ:L2.St)(H:Hp)(E:Ends),Inv X pins σ H s->(∃env B Z d,Rl X.K B Z H env σ/\f env=some d/\∀v Z' H',Ex Z H Z' H'->Gd X.K Z' H H' .nw d v->(∃a xs vs,v=.ref a/\d=.lst xs/\H' a=some (.lst vs)/\qv a H H' xs vs)->E.nx (σ.set i (some v)) H')->
   wpAny @2 X.A (exec (.Assign [.Name y py] e spos) X.env) (SP X pins E) X.xe s
abbrev ES(X:Cx)(e:Tz)(f:Fe):Prop:=FG X QT e f
theorem gM(ht:mQ is t)(bF:X.calm=true)(hi:ID X tg iter fi)(jK:i0 (λx=>X.env.cells.lookup x) scope.names []=some cl)(hN:Nc.map some=own.map some++caps.map (λj=>X.N[j]?))
  (hb:∀C s H ex pn a,Hq (ek X scope cl Nc C s H ex pn) qv a elt (⟨tg,iter,ifs,0⟩::rest) scope pos 0 tg ifs t c k)
  (mP:ot X scope caps=true:=by rfl) (cx:scope.kind=.function:=by rfl) (hnc:∀y∈scope.names,y.2≠.cell:=by decide +kernel) (K7:∀x∈scope.names,x.2=.local->scope.names.lookup x.1=some .local:=by decide +kernel)
  (hs:∀x,foldedSetIterable iter X.env x=pure x:=by intro _;rfl) (qo:LY qv:=by exact Hx) :
  FG X qv (.ListComp elt (⟨tg,iter,ifs,0⟩::rest) scope pos) (aO fi is t c k own.length caps):=by
 refine⟨λy py spos j EB hNd hj hy hf pins s σ H E I hT=>?_⟩;obtain⟨env,B,Z,d,R,e,kk⟩:=hT;obtain⟨ds,xs,e1,hu,BC,hl,rfl⟩:=ml e;rw[exec_Assign_Name_used _ _ _ _ EB];refine b_ (Qy (b_ ?_));refine(show wpAny @2 X.A (comprehension (.ListComp elt (⟨tg,iter,ifs,0⟩::rest) scope pos) scope X.env (firstIterPos (⟨tg,iter,ifs,0⟩::rest) pos) (newList []) false (eval iter X.env) (some (assign (.Name y py) X.env)) >>= λ_=>pure ()) _ _ s from ?_);refine b_ (bx (RG rfl hs (iV jK) cx K7 ?_) λ_ s' hq=>o_ (o_ hq));refine bx (hi pins s σ H (λJ H1=>∃Z1,Ex Z H Z1 H1/\Walk X.K Z1 ds J) I ⟨env,B,Z,ds,R,e1,λJ Z1 H1 x1 wk=>⟨Z1,x1,wk⟩⟩) λx s1 q1=>bx q1 λKJ s2 aA=>?_;obtain⟨it,fp,tn,J,H2,hit,I2,T,BD,qZ,Z2,x2,wk⟩:=aA;subst hit;refine oA qo ht bF jK cx hnc hN mP hb I2 (R.ext x2) T BD qZ wk hu BC hl λa C H' Z' s' vs m I' ns fpC x' hf' hv hz rr qq=>?_;refine(show wpAny @2 X.A (assign (.Name y py) X.env (.ref a)) _ _ s' from wpAny_assign_Name (nV I' hNd hj hy (show RelV (.ref a) (.ref a)from rfl) (λs2' I2' aA=>?_) hf));refine glG λ_ kq=>?_;obtain⟨b,Nq,Nj⟩:=aA;obtain⟨f1,f2,f3,f4,f5,f6⟩:=fpC;have hCb:C≠b:=λz=>by
  rcases Nj with z2 | z2
  .exact f2 (z.trans z2)
  .exact f5 y b z2 z.symm
 refine kq (⟨m,ns.sameBut Nq hCb,λh' hs'=>?_⟩)
 all_goals clear kq
 exact⟨_,H',I2'.turned (λb o hb e=>hs'.extBut b o hb e) f1 f2 f4 f5 f6,kk _ Z' H' (x2.trans x') ⟨a,vs,xs,rfl,rfl,x2.h.free hf',hv,hz,rr⟩ ⟨a,xs,vs,rfl,rfl,hv,qo.base x2.h qq⟩⟩
variable {e:Tz}{fe:Fe}
theorem iX(i:Nat)(h:ES X e fe)(hN:X.N.Nodup)(hi:X.N[i]?=some y:=by rfl)(hx:Loc X.env.scope y:=by first | exact Or.inl rfl | exact Or.inr rfl)(EB:swapsWith e (some (.Name y py)) spos.line X.env=pure true:=by rfl)
  (hf:X.fn y=true\/X.env.scope.names.lookup y=some .local:=by first | exact .inl rfl | exact .inr rfl | assumption):SD X rg (.Assign [.Name y py] e spos) (setF i fe):=λpins s σ H E I hw=>by
 refine glG λ_ kq=>?_;obtain⟨env,B,Z,o,R,e0,kk⟩:=hw;obtain⟨d,e1,e2⟩:=a_.mp e0;cases e2;refine kq (h.ex y py spos i EB hN hi hx hf pins s σ H E I ⟨env,B,Z,d,R,e1,λv Z' H' x g _=>?_⟩)
 all_goals clear kq
 obtain⟨a,vs,ds,rfl,rfl,h1,h2,h3,r⟩:=g;have s1:aE Z' (upd Z' a (.lst vs)):=cw h3;have x2:Ex Z H (upd Z' a (.lst vs)) H':=⟨x.h,x.z.trans s1,qg x.zh h2,λb hb e=>by rw[ay (λz=>hb (by rw[z];exact h1))];exact x.fr b hb e,my x.nf Ij⟩;exact kk _ _ H' (x2.part R.bh) ((R.ext x2).setF i ⟨a,vs,rfl,cR.of aw,av.mono s1 ds r⟩)
theorem Er(i:Nat)(h:ES X e fe)(hN:X.N.Nodup)(hi:X.N[i]?=some y:=by rfl)(hx:Loc X.env.scope y:=by first | exact Or.inl rfl | exact Or.inr rfl)(EB:swapsWith e (some (.Name y py)) spos.line X.env=pure true:=by rfl)
  (hf:X.fn y=true\/X.env.scope.names.lookup y=some .local:=by first | exact .inl rfl | exact .inr rfl | assumption):SD X rg (.Assign [.Name y py] e spos) (setO i fe):=λpins s σ H E I hw=>by
 refine glG λ_ kq=>?_;obtain⟨env,B,Z,o,R,e0,kk⟩:=hw;obtain⟨d,e1,e2⟩:=a_.mp e0;cases d<;>cases e2;rename_i ds;refine kq (h.ex y py spos i EB hN hi hx hf pins s σ H E I ⟨env,B,Z,_,R,e1,λv Z' H' x g _=>?_⟩)
 all_goals clear kq
 obtain⟨a,vs,KO,rfl,e3,h1,h2,h3,r⟩:=g;cases e3;refine kk _ Z' H' (x.part R.bh) ((R.ext x).setO i (R.bh.free h1) h3 h2 (cP.l r) λj es hj hje hja=>?_);obtain⟨q,e4,b,us,e5,e6,_⟩:=R.sl j _ hje;rw[hja]at e4;cases e4;cases e5;rw[h1]at e6;cases e6
end
section
variable {X:Cx}{rg:Gr}
end
end Mi
namespace Mi
open PySem L2
theorem mh(n:Nat)(h:i.natAbs<=n)(hn:n<2 ^ 4096:=by decide +kernel):big i=true:=t_ (Sn h hn)
theorem qJ(h1:-1000000000<=i)(h2:i<=1000000000):big i=true:=mh 1000000000 (by omega)
theorem l8(h1:-1000000000<=i)(h2:i<=1000000000)(h3:-1000000000<=j)(h4:j<=1000000000):mulI (.int i) (.int j)=some (.int (i*j)):=by
 show(if(big i&&big j)=true then _ else _)=_;rw[qJ h1 h2,qJ h3 h4];rfl
theorem hU(h:0<j):modI (.int i) (.int j)=some (.int (i%j)):=by
 show(if decide (0<j)=true then _ else _)=_;rw[t_ h];rfl
theorem wZ(h:0<j)(h2:j<1073741824):fdivI (.int i) (.int j)=some (.int (i/j)):=by
 show(if decide (0<j/\j<1073741824)=true then _ else _)=_;rw[t_ (And.intro h h2)];rfl
theorem pS(h:big i=true)(h2:0<=j)(h3:j<=1000):powI (.int i) (.int j)=some (.int (i ^ j.toNat)):=by
 show(if(big i&&decide (0<=j/\j<=1000))=true then _ else _)=_;rw[h,t_ (And.intro h2 h3)];rfl
theorem Ce(h:big i=true)(h2:big j=true):mulI (.int i) (.int j)=some (.int (i*j)):=by
 show(if(big i&&big j)=true then _ else _)=_;rw[h,h2];rfl
theorem gy(i j:Int):addI (.int i) (.int j)=some (.int (i+j)):=rfl
theorem JT(i j:Int):subI (.int i) (.int j)=some (.int (i-j)):=rfl
theorem Hs(i j:Int):ltI (.int i) (.int j)=some (.bl (decide (i<j))):=rfl
theorem xZ(i j:Int):leI (.int i) (.int j)=some (.bl (decide (i<=j))):=rfl
theorem Dt(i j:Int):gtI (.int i) (.int j)=some (.bl (decide (j<i))):=rfl
theorem Br(i j:Int):eI (.int i) (.int j)=some (.bl (i==j)):=rfl
theorem Jb(i j:Int):nY (.int i) (.int j)=some (.bl !(i==j)):=rfl
theorem aS(h1:f env=some x)(h2:g env=some y):au b f g env=b x y:=by
 unfold au;rw[h1,h2];rfl
theorem o4(h1:f env=some x):bC b f env=b x:=by
 unfold bC;rw[h1];rfl
theorem Dz{x:Int}(n k:Nat)(h1:x.natAbs<=n):(x ^ k).natAbs<=n ^ k:=by
 rw[Int.natAbs_pow];exact Nat.pow_le_pow_left h1 k
theorem Cd{x y:Int}(n m:Nat)(h1:x.natAbs<=n)(h2:y.natAbs<=m):(x+y).natAbs<=n+m:=by omega
theorem jd(I:En->Prop):∀(ds:TM)(env:En),I env->(∀d∈ds,∀e,I e->∃e1,(t d e).bind body=some (.nx e1)/\I e1)->∃e2,cu t body ds env=some (.nx e2)/\I e2
 | [],env,h,_=>⟨env,rfl,h⟩
 | d::ds,env,h,hb=>by
  obtain⟨e1,h1,h2⟩:=hb d f_ env h;obtain⟨e2,h3,h4⟩:=jd I ds e1 h2 λd' hd=>hb d' (e_ _ hd);refine⟨e2,?_,h4⟩;obtain⟨e0,h5,h6⟩:=a_.mp h1;show(t d env).bind (λe1=>(body e1).bind _)=_;rw[h5];show(body e0).bind _=_;rw[h6];exact h3
theorem eM(I:Nat->En->Prop):∀(ds:TM)(n:Nat)(env:En),I n env->(∀i d e,ds[i]?=some d->I (n+i) e->∃e1,(t d e).bind body=some (.nx e1)/\I (n+i+1) e1)->∃e2,cu t body ds env=some (.nx e2)/\I (n+ds.length) e2
 | [],n,env,h,_=>⟨env,rfl,h⟩
 | d::ds,n,env,h,hb=>by
  obtain⟨e1,h1,h2⟩:=hb 0 d env rfl h;obtain⟨e2,h3,h4⟩:=eM I ds (n+1) e1 h2 λi d' e hd he=>by
   have:=hb (i+1) d' e (by simpa using hd) (by rw[show n+(i+1)=n+1+i by omega];exact he);rw[show n+1+i+1=n+(i+1)+1 by omega];exact this
  refine⟨e2,?_,by rw[show n+(d::ds).length=n+1+ds.length by simp;omega];exact h4⟩;obtain⟨e0,h5,h6⟩:=a_.mp h1;show(t d env).bind (λe1=>(body e1).bind _)=_;rw[h5];show(body e0).bind _=_;rw[h6];exact h3
theorem dv{α:Type}{xs:List α}{k:Nat}{x:α}(h:xs[k]?=some x):L2.atI xs (k:Int)=some x:=by
 have hk:=(h_.mp h).1;unfold L2.atI L2.xK;rw[g_ (by omega),g_ (by omega)];simpa using h
theorem wU(h:(aI 0 n)[i]?=some d):d=.int i/\i<n:=by
 unfold aI at h;rw[u_]at h;cases e:(List.range n)[i]? with
 | none=>rw[e]at h;cases h
 | some j=>
  rw[e]at h;have hi:=(h_.mp e).1;rw[Rp]at hi;rw[RD hi]at e;cases e;cases h;exact⟨by simp,hi⟩
end Mi
namespace Mi
theorem G1(d:D)(env:En):da (.F d::env) 0=some d:=rfl
theorem Hw(s:Slot)(env:En)(i:Nat):da (s::env) (i+1)=da env i:=rfl
theorem jB(h:env[i]?=some (.O (.L ds)))(hf:f env=some d)(hl:ds.length<16000000):g8 i f env=some (.nx (env.set i (.O (.L (ds++[d]))))):=by
 unfold g8;rw[h];show(f env).bind _=_;rw[hf];show(if ds.length<16000000 then _ else _)=_;rw[g_ hl]
theorem ar(h:f env=some (.nx e)):aF f g env=g e:=by unfold aF;rw[h];rfl
theorem aX(h:f env=some d):setF i f env=some (.nx (env.set i (.F d))):=by unfold setF;rw[h];rfl
theorem bT(h:f env=some d):bw f env=some (.rt d):=by unfold bw;rw[h];rfl
theorem cb(h:t env=some true):iW t f g env=f env:=by unfold iW;rw[h];rfl
theorem bE(h:t env=some false):iW t f g env=g env:=by unfold iW;rw[h];rfl
theorem bY(h:fi env=some ds):dY fi t b env=cu t b ds env:=by unfold dY;rw[h];rfl
theorem cG(h:f env=some (.bl b)):fB f env=some b:=by unfold fB;rw[h];rfl
theorem J6(h:f env=some true):vK f g env=some true:=by unfold vK;rw[h];rfl
theorem Fc(h:f env=some false):vK f g env=g env:=by unfold vK;rw[h];rfl
theorem rQ(h:f env=some b):nN f env=some !b:=by unfold nN;rw[h];rfl
theorem call_v{fs:Fes}{m:TM->TN}{env:En}{ds:TM}(h:fs env=some ds):(fs env).bind m=m ds:=by rw[h];rfl
theorem ak(h:f env=some d)(h2:fs env=some ds):ae f fs env=some (d::ds):=by unfold ae;rw[h,h2];rfl
theorem aQ:fNil env=some []:=rfl
theorem aW(h:f (bM n ds)=some (.rt d)):bD f n ds=some d:=by unfold bD;rw[h];rfl
theorem cZ(h:f env=some (.int (n:Int)))(h2:n<=1000000000):fg f env=some (aI 0 n):=by
 have hr:z6 (n:Int)=true:=by
  simp only[z6,y_];omega
 unfold fg;rw[h,QC];dsimp only;rw[g_ hr,QH]
theorem gN(h:f env=some (.lst ds)):bC cC f env=some (.int (ds.length:Int)):=by unfold bC;rw[h];rfl
theorem Gv(h:f env=some (.tup ds)):bC cC f env=some (.int (ds.length:Int)):=by unfold bC;rw[h];rfl
theorem ed(h:f env=some (.lst ds))(h2:g env=some (.int i))(h3:L2.atI ds i=some d):au aM f g env=some d:=(aS h h2).trans h3
theorem qG(h:f env=some (.tup ds))(h2:g env=some (.int i))(h3:L2.atI ds i=some d):au aM f g env=some d:=(aS h h2).trans h3
theorem E4(h:f env=some (.lst ds))(h2:er is ds env=some e):Hr is f env=some (.nx e):=by
 unfold Hr;rw[h];show(er is ds env).bind _=_;rw[h2];rfl
theorem l9(h:f env=some (.tup ds))(h2:er is ds env=some e):yH is f env=some (.nx e):=by
 unfold yH;rw[h];show(er is ds env).bind _=_;rw[h2];rfl
theorem br(h:f env=some (.lst ds)):cS f env=some ds:=by unfold cS;rw[h];rfl
theorem tz(h:f env=some (.tup ds)):xN f env=some ds:=by unfold xN;rw[h];rfl
theorem e9(h:f env=some (.rt d)):aF f g env=some (.rt d):=by unfold aF;rw[h];rfl
theorem pj(ns:TM)(k:Nat):cutD ns none (some (k:Int))=ns.take k:=by
 unfold cutD;rw[HT.AH,HT.Di,List.drop_zero,Nat.sub_zero]
 by_cases h:ns.length<=k
 .rw[Nat.min_eq_right h,Qu,RZ h]
 .rw[Nat.min_eq_left (by omega)]
end Mi
namespace Mi
open PySem PySem.Spec PyProof.Rows L2
def yz:TM->Option (List Bool)
 | []=>some []
 | .bl b::r=>(yz r).bind λbs=>some (b::bs)
 | _=>none
theorem wj:∀{ds:TM}{bs:List Bool},yz ds=some bs->ds=bs.map .bl
 | [],bs,h=>by cases h;rfl
 | d::r,bs,h=>by
  cases d<;>try cases h
  rename_i b;obtain⟨cs,h1,h2⟩:=a_.mp h;cases h2;rw[wj h1];rfl
def DE:D->TN
 | .lst ds=>(yz ds).bind λbs=>some (.bl (bs.all id))
 | _=>none
theorem av.bls{K:Fg}{H:Hp}:∀{bs:List Bool}{vs:TQ},av K H (bs.map .bl) vs->vs=bs.map .bl
 | [],vs,h=>h
 | b::bs,vs,⟨v,r,e,h1,h2⟩=>by subst e;cases(show v=V.bl b from h1);rw[av.bls h2];rfl
theorem aC.bls:∀{bs:List Bool}{us:S9},aC (bs.map V.bl) us->us=bs.map .bool
 | [],us,h=>by cases h;rfl
 | b::bs,us,h=>by
  cases h with
  | cons p q=>cases(show _=Value.bool b from p);rw[aC.bls q];rfl
theorem DY(bs:List Bool):(List.range bs.length).all (λi=>bs.getD i false)=bs.all id:=by
 rw[P8];simp only[Qi,Q2,id_eq];constructor
 .intro h b hb;obtain⟨i,hi,rfl⟩:=List.getElem_of_mem hb;simpa [List.getD,hi]using h i hi
 .intro h i hi;simpa [List.getD,hi]using h _ (R9 hi)
section
variable {X:Cx}{l r:Tz}{fa fb:Fe}{ga gb:Gr}{pos p p2 p3 p4:Pos}
theorem zo{A:Tq}{pins:S3}{σ:L2.St}{H:Hp}{s:To}{a:Tv}{bs:List Bool}{E:S2}{Q:S2}{g:List Bool->Bool}{r2:Tf->(Nat->Bool)->Bool}
  (hh:A.handled=none) (I:Inv X pins σ H s) (hq:cR X.K H a (bs.map V.bl)) (hg:∀n,n=bs.length->r2 (List.range n) (λi=>bs.getD i false)=g bs) (q:∀s',Inv X pins σ H s'->Q (.bool (g bs)) s') :
  wpAny @2 A.in1 (pyIter (.ref a)) (λit s₂=>∃I fp wr n P St tr,it=.ref I/\Walks X.prog X.w A.in1 I fp wr n P St/\St 0 s₂.heap/\TruthOf X.prog X.w A.in1 P tr/\
   ∀h' tk,(∀b o,b∉wr->s₂.heap.get? b=some o->h'.get? b=some o)->Q (.bool (r2 (List.range n) tr)) {s₂ with heap:=h',toks:=tk}) E s:=by
 obtain⟨bo,rv,pl,hz⟩:=I.list hq;cases aC.bls rv;have kZ:a<s.sz:=by obtain⟨o,ho,_⟩:=pl.isList;exact k_ ho
 refine QR pl.isList ?_;refine⟨s.sz,_,_,_,_,_,λi=>bs.getD i false,rfl,Walks.list (show A.in1.handled=none from hh) s.sz a (x_ kZ) (bs.map Value.bool).toArray,⟨⟨_,s_ _ rfl,rfl,rfl⟩,pl.isList.push _⟩,λi v s1 Q1 E1 hv hQ=>?_,λh' tk hk=>?_⟩
 .have tY:(bs.map Value.bool)[i]?=some v:=by simpa using hv
  rw[u_]at tY;cases e:bs[i]? with
  | none=>rw[e]at tY;cases tY
  | some b=>
   rw[e]at tY;cases tY;have hb:bs.getD i false=b:=by simp[List.getD,e]
   have hQ:Q1 (bs.getD i false) s1:=hQ;rw[hb]at hQ;exact QG hQ
 .rw[hg _ (by simp)];refine q _ (I.kept λb o e=>hk b o (λhb=>?_) (d_ _ e));have:b=s.sz:=by simpa using hb
  exact x_ (k_ e) this
theorem ye(hc:X.calm=true):dG X (.builtin "all") (λxs H Q=>∃(a:Tv)(bs:List Bool),xs=[.ref a]/\cR X.K H a (bs.map V.bl)/\Q (.bl (bs.all id)) H):=by
 intro pins s σ H xs us Q I rs h;obtain⟨a,bs,rfl,hq,q⟩:=h;obtain⟨u,rfl,rx⟩:=vals1 rs;cases rx;exact call_all_walk (zo (g:=λbs=>bs.all id) (I.ok.hd hc) I hq (λn e=>by subst e;exact DY bs) λs' I'=>⟨.bl _,H,I',rfl,q⟩)
theorem IW{K:Fg}:iD K .cl DE (λxs H Q=>∃(a:Tv)(bs:List Bool),xs=[.ref a]/\cR K H a (bs.map V.bl)/\Q (.bl (bs.all id)) H):=λ{Z H x dx d Q} s h e k=>by
 cases dx<;>try cases e
 obtain⟨bs,h1,h2⟩:=a_.mp e;cases h2;cases wj h1;obtain⟨a,vs,rfl,q,rr⟩:=h.lst s;cases av.bls rr;exact⟨a,bs,rfl,q,k _ Z H (Ex.refl s) rfl⟩
theorem xt:bootBuiltins "all"=some (.builtin "all"):=by decide +kernel
theorem Kf(hm:X.mg "all"=none)(bF:X.calm=true)(ha:PD X ga l fa)(hg:Gl X "all":=by rfl)(he:starEach [l] X.env=[(false,eval l X.env)]:=by rfl):PD X .cl (.Call (.Name "all" p) [l] [] pos) (bC DE fa):=
 wx (ye bF) IW xt hm ha @1 @1 hg he
theorem vN:∀(l:List α),(∀x∈l,f x=some (g x))->l.filterMap f=l.map g
 | [],_=>rfl
 | a::l,h=>by
  rw[RC,h a f_,N_];exact QO _ (vN l λx hx=>h x (e_ _ hx))
theorem Bk(bo:S9):slicePick bo.toArray none none (some (-1))=bo.reverse.toArray:=by
 unfold slicePick sliceBounds sliceRange;simp only[Option.getD_some,q_,show ¬((-1:Int)>0) by decide,QV];congr 1;have hc:(if(bo.length:Int)-1 > -1 then((bo.length:Int)-1 - -1 - -1-1)/(- -1)else 0).toNat=bo.length:=by
  split
  .rw[show(- -1:Int)=1 by decide,Int.ediv_one];lia
  .lia
 rw[hc];apply Rq;intro i;rw[List.filterMap_map];have key:(List.range bo.length).filterMap ((λx=>bo.toArray[x]?) ∘ λ(k:Nat)=>((bo.length:Int)-1+-1*(k:Int)).toNat)=(List.range bo.length).map λk=>bo.getD (bo.length-1-k) .none:=by
  refine vN _ λk hk=>?_;have hk':k<bo.length:=by simpa using hk
  simp only[Function.comp];rw[show((bo.length:Int)-1+-1*(k:Int)).toNat=bo.length-1-k by lia];simp[List.getD,show bo.length-1-k<bo.length by lia]
 rw[key,u_]
 by_cases hi:i<bo.length
 .rw[RD hi,List.getElem?_reverse hi];simp[List.getD,show bo.length-1-i<bo.length by lia]
 .rw[A_ (by simpa using hi),A_ (by simpa using hi)];rfl
def AU:D->TN
 | .lst ds=>some (.lst ds.reverse)
 | _=>none
theorem aC.rev:∀{xs:TQ}{us:S9},aC xs us->aC xs.reverse us.reverse
 | [],us,h=>by cases h;exact .nil
 | x::xs,us,h=>by
  cases h with
  | cons p q=>rw[SB,SB];exact(aC.rev q).append (.cons p .nil)
def M9(K:Fg)(te:TE):TE:=λσ H Q=>te σ H λx H1=>∃a xs,x=.ref a/\cR K H1 a xs/\∀q,H1 q=none->Q (.ref q) (upd H1 q (.lst xs.reverse))
theorem GL{e:Tz}{te:TE}{i j:Int}{k:Nat}(he:PE X e te):PE X (.Subscript e (.Slice none none (some (.UnaryOp .USub (.Constant (.int 1) k p3) p4)) p2) pos) (M9 X.K te):=by
 intro pins s σ H Q I h;refine Subscript_ (bx (he pins s σ H _ I h) λv s1 aA=>?_);obtain⟨x,H1,I1,r1,q1⟩:=aA;obtain⟨a,xs,e1,hx,q⟩:=q1;subst e1;cases r1;refine wpAny_Slice ?_;rw[evalPart_none];refine o_ (o_ ?_);refine bx (wq (EV zY zQ) pins s1 σ H1 (λo H2=>o=some (-1)/\H2=H1) I1 ⟨_,rfl,_,rfl,rfl,rfl⟩) λOY s2 aA=>?_;obtain⟨o,H2,I2,ps,e2,e3⟩:=aA;subst e2;subst e3;have I4:Inv X pins σ H2 {s2 with heap:=s2.heap.push {cls:=.type "slice",data:=.fields #[.none,.none,OY]}}:=I2.kept λb ob z=>d_ _ z;obtain⟨bo,rv,ht,hz⟩:=I4.list hx;have hlen:=rv.length;show wpAny @2 X.A (subscriptTail e (.Slice none none (some (.UnaryOp .USub (.Constant (.int 1) k p3) p4)) p2) (.ref a) (.ref s2.sz)) (EP X pins σ Q) X.xe {s2 with heap:=s2.heap.push {cls:=.type "slice",data:=.fields #[.none,.none,OY]}};refine tail_any ht.isList.typeIs Sz.lookup ?_ (by with_unfolding_all rfl);refine wpAny_getItem_list_slice ht.isList (Heap.IsSliceOf.new ..) .none .none ps (by simp) ?_ (by rw[q_]<;>lia);rw[Bk];exact⟨.ref _,_,I4.laid (o:=.lst xs.reverse) (λb ob z=>d_ _ z) (m_ _) ⟨by rw[List.length_reverse];exact hz,_,0,aC.rev rv,s_ _ rfl⟩,rfl,q _ (I4.hok.fresh (m_ _))⟩
theorem Ko{k:Nat}(ha:PD X ga l fa):PD X .nw (.Subscript l (.Slice none none (some (.UnaryOp .USub (.Constant (.int 1) k p3) p4)) p2) pos) (bC AU fa):=PE.imp (GL (i:=0) (j:=0) ha) λσ H Q aA=>by
 obtain⟨env,B,Z,d,R,e,kk⟩:=aA;obtain⟨x,h1,h2⟩:=a_.mp e;cases x<;>try cases h2
 rename_i ds;refine⟨env,B,Z,_,R,h1,λv Z1 H1 x1 g1=>?_⟩;obtain⟨a,vs,rfl,q,rr⟩:=(show Gd X.K Z1 H1 H1 .pk (.lst ds) v from g1.pk).lst x1.zh;exact⟨a,vs,rfl,q,λp hp=>kk _ Z1 _ (x1.trans (Ex.newL x1.zh hp)) ⟨p,_,_,rfl,rfl,x1.h.free hp,aw,x1.zh.free hp,av.rev rr⟩⟩
end
def insI(x:Int):Tg->Tg
 | []=>[x]
 | y::r=>if x<=y then x::y::r else y::insI x r
def jS:Tg->Tg
 | []=>[]
 | x::r=>insI x (jS r)
theorem insI_perm(x:Int):∀l,(insI x l).Perm (x::l)
 | []=>.refl _
 | y::r=>by
  unfold insI
  split
  .exact .refl _
  .exact((insI_perm x r).cons y).trans (List.Perm.swap x y r)
theorem ip:∀l,(jS l).Perm l
 | []=>.refl _
 | x::r=>(insI_perm x _).trans ((ip r).cons x)
theorem wA(x:Int):∀{l:Tg},l.Pairwise (·<=·)->(insI x l).Pairwise (·<=·)
 | [],_=>by simp[insI]
 | y::r,h=>by
  obtain⟨h1,h2⟩:=O_.mp h;unfold insI
  split
  .rename_i hx;exact O_.mpr ⟨λz hz=>by
    rcases p_.mp hz with rfl | hz
    .exact hx
    .exact Int.le_trans hx (h1 z hz),h⟩
  .rename_i hx;refine O_.mpr ⟨λz hz=>?_,wA x h2⟩;rcases p_.mp ((insI_perm x r).mem_iff.mp hz)with rfl | hz
   .lia
   .exact h1 z hz
theorem pV:∀l,(jS l).Pairwise (·<=·)
 | []=>.nil
 | x::r=>wA x (pV r)
theorem oY:∀{l m:Tg},l.Perm m->l.Pairwise (·<=·)->m.Pairwise (·<=·)->l=m
 | [],m,p,_,_=>(List.Perm.nil_eq p)
 | x::l,[],p,_,_=>absurd p.symm (by intro h;exact absurd (List.Perm.nil_eq h) (by simp))
 | x::l,y::m,p,h1,h2=>by
  obtain⟨a1,a2⟩:=O_.mp h1;obtain⟨b1,b2⟩:=O_.mp h2;have e:x=y:=by
   have hx:x∈y::m:=p.mem_iff.mp f_;have hy:y∈x::l:=p.mem_iff.mpr f_;rcases p_.mp hx with e | hx
   .exact e
   .rcases p_.mp hy with e | hy
    .exact e.symm
    .have:=b1 x hx;have:=a1 y hy;lia
  subst e;rw[oY ((List.perm_cons x).mp p) a2 b2]
theorem Dk(p:m.Perm l)(h:m.Pairwise (·<=·)):m=jS l:=oY (p.trans (ip l).symm) h (pV l)
theorem rP(l:Tg):(jS l).length=l.length:=(ip l).length_eq
section
variable {prog:Tp}{w:Ts}{A:Tq}{E:S2}{s:To}
theorem zz(ho:s.heap.get? a=some o)(hc:o.cls=.type "list"\/o.cls=.type "tuple")(hd:o.data=.seq vs.toArray n)
    (q:Q vs {s with heap:=(s.heap.push (seqObj "list" #[] 0)).update s.sz (Obj.mapSeq (·++vs.toArray))}) (hz:vs.length<=sizeLine):wpAny (model prog w) A (collect (.ref a)) Q E s:=by
  unfold collect;refine b_ (wpAny_runValue (Sd PyProof.Rows.entry_proto_collect' (show wpAny _ _ (newList [] >>= λz=>again (.builtin "list.__iadd__" ⟨[z,.ref a],[]⟩)) _ _ s from
    b_ (wpAny_newList (o_ ⟨Sq _ (by decide +kernel),Sd PyProof.Rows.entry_list_iadd' ?_⟩)))))
  have e1:(s.heap.push (seqObj "list" #[] 0)).get? a=some o:=d_ _ ho;have e2:(s.heap.push (seqObj "list" #[] 0)).get? s.sz=some (seqObj "list" #[] 0):=s_ _ rfl;obtain⟨T,hT,ht⟩:∃T:String,o.cls=.type T/\(Value.type T==Value.type "list"||Value.type T==Value.type "tuple")=true:=by
    rcases hc with h | h
    . exact⟨"list",h,rfl⟩
    . exact⟨"tuple",h,rfl⟩
  show wpAny _ _ (Builtin.List.listExtendWith (.ref s.sz) (.ref a) (.ref s.sz)) _ _ {s with heap:=s.heap.push (seqObj "list" #[] 0)};unfold Builtin.List.listExtendWith;refine b_ (wpAny_typeOf ⟨o,e1,hT⟩ ?_);rw[g_ (by rw[Bool.or_assoc,ht,Qw])];refine b_ (listItems_at e1 hd (b_ (listItems_at e2 rfl ?_)));rw[j_ (by simp)];refine b_ (listUpdate_at e2 rfl (o_ ?_) (Rv _) (by simp only[Array.size_append,q_,L_];lia));show wpAny (model prog w) A (load s.sz >>= λo=>match o.data with | .seq xs _=>pure xs.toList | _=>unsupported "internal:collect") Q E {s with heap:=(s.heap.push (seqObj "list" #[] 0)).update s.sz (Obj.mapSeq (·++vs.toArray))};refine b_ (wpAny_load (RM e2 _) ?_);show wpAny _ _ (pure ((#[]:Array Tn)++vs.toArray).toList) Q E _;rw[show((#[]:Array Tn)++vs.toArray).toList=vs by simp];exact o_ q
theorem sortedS(ho:s.heap.get? a=some o)(hc:o.cls=.type "list"\/o.cls=.type "tuple")(hd:o.data=.seq vs.toArray n)(hI:IntsAre vs ns)(hz:vs.length<64)
  (q:∀(out:Array Tn)(kQ:Tg),IntsAre out.toList kQ->kQ.Perm ns->kQ.Pairwise (·<=·)->Q (.ref (s.sz+1)) {s with heap:=sortedAll s.heap vs out}):wpAny (model prog w) A (call (.builtin "sorted") [.ref a]) Q E s:=by
 refine Calls.call_function_entry PyProof.Rows.kind_sorted plain_sorted entry_sorted (args_sorted1 _) ?_;unfold Builtin.«sorted»;refine b_ (o_ (b_ (zz ho hc hd (b_ (wpAny_newList ?_)) (by have:=P6;lia))));have z1:((s.heap.push (seqObj "list" #[] 0)).update s.sz (Obj.mapSeq (·++vs.toArray))).objs.size=s.sz+1:=by rw[RA,size_push']
 have z2:(((s.heap.push (seqObj "list" #[] 0)).update s.sz (Obj.mapSeq (·++vs.toArray))).push (seqObj "list" vs.toArray 0)).get? (s.sz+1)=some (seqObj "list" vs.toArray 0):=by
  rw[<- z1];exact s_ _ rfl
 show wpAny _ _ _ _ _ {s with heap:=((s.heap.push (seqObj "list" #[] 0)).update s.sz (Obj.mapSeq (·++vs.toArray))).push (seqObj "list" vs.toArray 0)};rw[z1];exact b_ (K_ (QZ slot_list_sort ⟨_,z2,rfl⟩ entry_list_sort (list_sort_tree z2 hI hz λout kQ a1 a2 a3=>⟨_,rfl,o_ ⟨_,rfl,q out kQ a1 a2 a3⟩⟩) (args_list_sort _)))
end
def i9:TM->Option Tg
 | []=>some []
 | .int i::r=>(i9 r).bind λbs=>some (i::bs)
 | _=>none
theorem jy:∀{ds:TM}{bs:Tg},i9 ds=some bs->ds=bs.map .int
 | [],bs,h=>by cases h;rfl
 | d::r,bs,h=>by
  cases d<;>try cases h
  obtain⟨cs,h1,h2⟩:=a_.mp h;cases h2;rw[jy h1];rfl
theorem kl:∀(ns:Tg),i9 (ns.map .int)=some ns
 | []=>rfl
 | n::ns=>by show(i9 (ns.map .int)).bind _=_;rw[kl ns];rfl
theorem av.intsV{K:Fg}{H:Hp}:∀{bs:Tg}{vs:TQ},av K H (bs.map .int) vs->vs=bs.map .int
 | [],vs,h=>h
 | b::bs,vs,⟨v,r,e,h1,h2⟩=>by subst e;cases(show v=V.int b from h1);rw[av.intsV h2];rfl
theorem aC.ints:∀{bs:Tg}{us:S9},aC (bs.map V.int) us->IntsAre us bs
 | [],us,h=>by cases h;exact .nil
 | b::bs,us,h=>by
  cases h with
  | cons p q=>obtain⟨t,rfl⟩:=(show ∃t,_=Value.int b t from p);exact .cons b t (aC.ints q)
theorem aC.ofInts:∀{bs:Tg}{us:S9},IntsAre us bs->aC (bs.map V.int) us
 | [],us,h=>by cases h;exact .nil
 | b::bs,us,h=>by
  cases h with
  | cons n t q=>exact .cons ⟨t,rfl⟩ (aC.ofInts q)
def sortI:D->TN
 | .lst ds=>(i9 ds).bind λns=>if ns.length<64 then some (.lst ((jS ns).map .int))else none
 | .tup ds=>(i9 ds).bind λns=>if ns.length<64 then some (.lst ((jS ns).map .int))else none
 | _=>none
section
variable {X:Cx}{l r:Tz}{fa fb:Fe}{ga gb:Gr}{pos p:Pos}
theorem pO:dG X (.builtin "sorted") (λxs H Q=>∃(a:Tv)(ns:Tg),xs=[.ref a]/\(cR X.K H a (ns.map V.int)\/cX X.K H a (ns.map V.int))/\ns.length<64/\∀q,H q=none->Q (.ref q) (upd H q (.lst ((jS ns).map V.int)))):=by
 intro pins s σ H xs us Q I rs h;obtain⟨a,ns,rfl,hq,hl,q⟩:=h;obtain⟨u,rfl,rx⟩:=vals1 rs;cases rx;have fin:∀(bo:S9)(out:Array Tn)(kQ:Tg),IntsAre out.toList kQ->kQ.Perm ns->kQ.Pairwise (·<=·)->EP X pins σ Q (.ref (s.sz+1)) {s with heap:=sortedAll s.heap bo out}:=λbo out kQ a1 a2 a3=>by
  cases Dk a2 a3;obtain⟨e,he⟩:=sortedAll_at s.heap bo out;refine⟨.ref _,_,I.laid (o:=.lst ((jS ns).map V.int)) (λb o z=>sortedAll_old z) (SE _) ⟨?_,out.toList,e,aC.ofInts a1,by simpa using he⟩,rfl,q _ (I.hok.fresh (SE _))⟩;have:=P6;rw[c_,rP];lia
 rcases hq with hq | hq
 .obtain⟨bo,rv,pl,hz⟩:=I.list hq;have hlen:=rv.length;obtain⟨o,ho,hc,n,hd⟩:=pl.isList;exact sortedS ho (.inl hc) hd (aC.ints rv) (by rw[<- hlen,c_];exact hl) (fin bo)
 .obtain⟨bo,rv,pl,hz⟩:=I.tuple hq;have hlen:=rv.length;obtain⟨o,ho,hc,n,hd⟩:=pl;exact sortedS ho (.inr hc) hd (aC.ints rv) (by rw[<- hlen,c_];exact hl) (fin bo)
theorem yO{K:Fg}:iD K .nw sortI (λxs H Q=>∃(a:Tv)(ns:Tg),xs=[.ref a]/\(cR K H a (ns.map V.int)\/cX K H a (ns.map V.int))/\ns.length<64/\∀q,H q=none->Q (.ref q) (upd H q (.lst ((jS ns).map V.int)))):=λ{Z H x dx d Q} s h e k=>by
 cases dx<;>try cases e
 .obtain⟨ns,h1,h2⟩:=a_.mp e;obtain⟨hl,rfl⟩:=rj h2;cases jy h1;obtain⟨a,vs,rfl,q,rr⟩:=h.tup s;cases av.intsV rr;exact⟨a,ns,rfl,.inr q,hl,λp hp=>k _ Z _ (Ex.newL s hp) ⟨p,_,_,rfl,rfl,hp,aw,s.free hp,av.ints _⟩⟩
 .obtain⟨ns,h1,h2⟩:=a_.mp e;obtain⟨hl,rfl⟩:=rj h2;cases jy h1;obtain⟨a,vs,rfl,q,rr⟩:=h.lst s;cases av.intsV rr;exact⟨a,ns,rfl,.inl q,hl,λp hp=>k _ Z _ (Ex.newL s hp) ⟨p,_,_,rfl,rfl,hp,aw,s.free hp,av.ints _⟩⟩
theorem zk(hm:X.mg "sorted"=none)(ha:PD X ga l fa)(hg:Gl X "sorted":=by rfl)(he:starEach [l] X.env=[(false,eval l X.env)]:=by rfl):PD X .nw (.Call (.Name "sorted" p) [l] [] pos) (bC sortI fa):=
 wx pO yO PyProof.Rows.boot_sorted hm ha @1 @1 hg he
end
structure Src(prog:Program)(w:World)(i l:Addr)(it:Nat->Heap->Prop)(at_:List Value->Heap->Prop):Prop where
 nxt:∀{A:Around}{E:Value->Shared->Prop}{s:Shared}{k:Nat}{xs:List Value}{x:Value}{Q:Value->Shared->Prop},it k s.heap->at_ xs s.heap->xs[k]?=some x->(∀h',it (k+1) h'->Heap.SameBut i s.heap h'->Q x {s with heap:=h'})->
  wpAny (model prog w) A (Builtin.SmallTypes.nextOf (.ref i)) Q E s
 fin:∀{A:Around}{E:Value->Shared->Prop}{s:Shared}{k:Nat}{xs:List Value}{Q:Value->Shared->Prop},A.handled=none->it k s.heap->at_ xs s.heap->xs[k]?=none->
  (∀h' e,Heap.ExtBut i s.heap h'->(∃o,h'.get? e=some o/\o.cls=.type "StopIteration")->E (.ref e) {s with heap:=h'})->wpAny (model prog w) A (Builtin.SmallTypes.nextOf (.ref i)) Q E s
 itx:∀{k:Nat}{h h':Heap},it k h->(∀o,h.get? i=some o->h'.get? i=some o)->it k h'
 atx:∀{xs:List Value}{h h':Heap},at_ xs h->(∀o,h.get? l=some o->h'.get? l=some o)->at_ xs h'
 obj:∀{k:Nat}{h:Heap},it k h->∃o,h.get? i=some o/\∀v,o.data≠.cell v
 lt:∀{xs:List Value}{h:Heap},at_ xs h->∃o,h.get? l=some o
section
variable {prog:Tp}{w:Ts}
theorem ui(hit:s.heap.IsTupleIter i t k)(ht:s.heap.IsTuple t items)(hx:items[k]?=some x)
  (hQ:∀h',h'.IsTupleIter i t (k+1)->Heap.SameBut i s.heap h'->Q x {s with heap:=h'}):wpAny (model prog w) A (Builtin.SmallTypes.nextOf (.ref i)) Q E s:=by
 obtain⟨o,ho,hc,hd⟩:=id hit;obtain⟨ol,K8,_,nl,Nv⟩:=ht;unfold Builtin.SmallTypes.nextOf;refine b_ (QD hit.typeIs Q3 (QZ Q3 hit.typeIs F.entry_tuple_iterator_next ?_ (F.args_tuple_iterator_next_1 _)));show wpAny _ _ (field (.ref i) 0 >>= _) _ _ s;refine b_ (P1 ho hd rfl (show wpAny _ _ (if(Value.ref t==Value.none)=true then _ else _) _ _ s from ?_));rw[j_ (show ¬((Value.ref t==Value.none)=true)from QA)];refine(show wpAny _ _ (field (.ref i) 1 >>= _) _ _ s from b_ (P1 ho hd rfl (show wpAny _ _ (seqItems? (.ref t) >>= _) _ _ s from b_ (Sr K8 Nv ?_))));simp only[QH,hx];refine b_ (Rw ho hd (by simp) (o_ ⟨x,rfl,o_ (hQ _ ?_ (Heap.SameBut.update ..))⟩));exact⟨_,Qn _ ho (QK (Qg hd _)),(Obj.cls_mapFields ..).trans hc,by rw[Qg hd];simp[rawInt]⟩
theorem xp(hh:A.handled=none)(hit:s.heap.IsTupleIter i t k)(ht:s.heap.IsTuple t items)(hx:items[k]?=none)
  (hE:∀h' e,Heap.ExtBut i s.heap h'->(∃o,h'.get? e=some o/\o.cls=.type "StopIteration")->E (.ref e) {s with heap:=h'}):wpAny (model prog w) A (Builtin.SmallTypes.nextOf (.ref i)) Q E s:=by
 obtain⟨o,ho,hc,hd⟩:=id hit;obtain⟨ol,K8,_,nl,Nv⟩:=ht;unfold Builtin.SmallTypes.nextOf;refine b_ (QD hit.typeIs Q3 (QZ Q3 hit.typeIs F.entry_tuple_iterator_next ?_ (F.args_tuple_iterator_next_1 _)));show wpAny _ _ (field (.ref i) 0 >>= _) _ _ s;refine b_ (P1 ho hd rfl (show wpAny _ _ (if(Value.ref t==Value.none)=true then _ else _) _ _ s from ?_));rw[j_ (show ¬((Value.ref t==Value.none)=true)from QA)];refine(show wpAny _ _ (field (.ref i) 1 >>= _) _ _ s from b_ (P1 ho hd rfl (show wpAny _ _ (seqItems? (.ref t) >>= _) _ _ s from b_ (Sr K8 Nv ?_))));simp only[QH,hx];refine b_ (So (b_ (Rw ho hd (by simp) ?_)));refine(show wpAny _ _ (newExc (.type "StopIteration") [] >>= _) _ _ _ from b_ ?_);simp only[newExc,newTuple];refine b_ (Q8 (b_ (wpAny_of_eq (by first | rfl | (simp only[firstArgMember];rfl)) ?_)) (by size_fits));refine Q8 ?_ (by size_fits);simp only[raiseNew];refine b_ (wpAny_handled ?_)
 first | rw[show A.in1.handled=none from hh] | rw[hh]
 exact b_ (o_ (wpAny_throw (hE _ _ (((Heap.SameBut.update ..).extBut.push _).push _) ⟨_,s_ _ rfl,rfl⟩)))
theorem Mc(i l:Tv):Src prog w i l (λk h=>h.IsTupleIter i l k) (λxs h=>h.IsTuple l xs.toArray) where
 nxt:=λh1 h2 h3 h4=>ui h1 h2 (by simpa using h3) h4
 fin:=λhh h1 h2 h3 h4=>xp hh h1 h2 (by simpa using h3) h4
 itx:=λh1 h2=>h1.at h2
 atx:=λ⟨o,h1,h2⟩ h3=>⟨o,h3 o h1,h2⟩
 obj:=λ⟨o,e,c,d⟩=>⟨o,e,λv z=>by rw[d]at z;cases z⟩
 lt:=λ⟨o,h1,_⟩=>⟨o,h1⟩
theorem Mu(i l:Tv):Src prog w i l (λk h=>h.IsListIter i l k) (λxs h=>h.IsList l xs.toArray) where
 nxt:=λh1 h2 h3 h4=>wpAny_nextOf_list_item h1 h2 (by simpa using h3) h4
 fin:=λhh h1 h2 h3 h4=>wpAny_nextOf_list_end hh h1 h2 (by simpa using h3) h4
 itx:=λh1 h2=>h1.at h2
 atx:=λh1 h2=>h1.at h2
 obj:=λ⟨o,e,c,d⟩=>⟨o,e,λv z=>by rw[d]at z;cases z⟩
 lt:=λ⟨o,h1,_⟩=>⟨o,h1⟩
variable {A:Tq}{E:S2}{s:To}{z TI TO i1 i2 l1 l2:Tv}{k1 k2:Nat}{xs ys:S9}{x y a b:Tn}{OZ it2:Nat->Tr->Prop}{at1 at2:S9->Tr->Prop}
theorem As(hs:Heap.ExtBut e h h')(n:c≠e):∀o,h.get? c=some o->h'.get? c=some o:=λo q=>hs c o n q
end
section
variable {X:Cx}{pins:S3}{σ:L2.St}{H:Hp}{s:To}{h':Tr}
theorem k9{t':Nat}{ch:Tc}(I:L2.Inv X pins σ H s)(hf:∀b∈ch,fH X pins H b)(k:∀b o,b∉ch->s.heap.get? b=some o->h'.get? b=some o):L2.Inv X pins σ H {s with heap:=h',toks:=t'}:=by
 have KI:∀b u,H b=some u->b∉ch:=λb u e z=>by rw[(hf b z).1]at e;cases e
 refine I.step (λb hb=>?_) (λb o _ _ hc e _=>k b o hc e) (λb o _ _ hc e _=>⟨o.slots,k b o hc e⟩) (λ_ _ _ _ n=>n)
  (λb o hc e=>⟨o,k b o hc e⟩) (λ_ _ e=>e) (λ_ _ _ e=>e) (λb ps e=>⟨#[],by rw[e];simp⟩) (λm hm=>?_) (λb u e=>?_) I.bare
 .obtain⟨f0,f1,f2,f3,f4,f5⟩:=hf b hb;exact⟨f3,f1,f4,f5⟩
 .obtain⟨o,es,ep,ho,r⟩:=hm;exact⟨o,es,ep,k _ o (λz=>(hf _ z).2.1 rfl) ho,r⟩
 .refine(I.hok b u e).stay (λc v hc q=>k c v ?_ q) (λ_ q=>q) λ_ _ q=>q;rcases hc with z | z
  .rw[z];exact KI b u e
  .exact KI c _ z
end
structure Nw(K:Fg)(l:Addr)(S:Hp->List V->Prop)(at_:List Value->Heap->Prop):Prop where
 get:∀{X:Cx}{pins:List (Addr×Obj)}{σ:L2.St}{H:Hp}{s:Shared}{xs:List V},X.K=K->L2.Inv X pins σ H s->S H xs->∃bo,aC xs bo/\at_ bo s.heap
 inj:∀{X:Cx}{pins:List (Addr×Obj)}{σ:L2.St}{H:Hp}{s:Shared}{xs ys:List V},X.K=K->L2.Inv X pins σ H s->S H xs->S H ys->xs=ys
theorem MK{K:Fg}(l:Tv):Nw K l (λH xs=>cX K H l xs) (λxs h=>h.IsTuple l xs.toArray):=
 ⟨λe I h=>by subst e;obtain⟨bo,rv,p,hz⟩:=I.tuple h;exact⟨bo,rv,p⟩,λe I h1 h2=>by subst e;exact I.tuple_inj h1 h2⟩
theorem Ml{K:Fg}(l:Tv):Nw K l (λH xs=>cR K H l xs) (λxs h=>h.IsList l xs.toArray):=
 ⟨λe I h=>by subst e;obtain⟨bo,rv,p,hz⟩:=I.list h;exact⟨bo,rv,p.isList⟩,λe I h1 h2=>by subst e;exact I.list_inj h1 h2⟩
abbrev vn(c:String)(h:Tr)(l:Tv):Tr:=h.push {cls:=.type c,data:=.fields #[.ref l,.int 0 0]}
abbrev LH(c d:String)(h:Tr)(l1 l2:Tv):Tr:=(vn d (vn c h l1) l2).push {cls:=.type "tuple",data:=.seq #[.ref h.objs.size,.ref (vn c h l1).objs.size]}
abbrev Ju(c d:String)(h:Tr)(l1 l2:Tv):Tr:=(LH c d h l1 l2).push {cls:=.type "tuple",data:=.seq #[.none,.none]}
abbrev vY(c d:String)(h:Tr)(l1 l2:Tv):Tr:=(Ju c d h l1 l2).push {cls:=.type "zip",data:=.fields #[.none,.bool false,.bool false,.ref (vn d (vn c h l1) l2).objs.size,.ref (LH c d h l1 l2).objs.size]}
theorem yV(l1 l2:Tv)(xs ys:Array Tn):Meets (Builtin.«zip.__new__» ⟨[.type "zip",.ref l1,.ref l2],[]⟩) (λ_ R s=>s.heap.IsList l1 xs/\s.heap.IsList l2 ys/\
   R (.ok (.ret (.ref (Ju "list_iterator" "list_iterator" s.heap l1 l2).objs.size))) {s with heap:=vY "list_iterator" "list_iterator" s.heap l1 l2}):=
 .of_wp λprog w A R s h=>by
  obtain⟨hp,g,d,tk,os⟩:=s;obtain⟨m1,m2,h⟩:=h;have hsub:=sub_zip;have t1:Heap.IsList (Shared.heap ⟨hp,g,d,tk,os⟩) l1 xs:=m1;have t2:Heap.IsList (Shared.heap ⟨hp.push {cls:=.type "list_iterator",data:=.fields #[.ref l1,.int 0 0]},g,d,tk,os⟩) l2 ys:=Heap.IsList.push m2 _
  wp_walk using QR t1,QR t2
  exact⟨_,rfl,h⟩
theorem Gx(c d:String)(h:Tr)(l1 l2:Tv):(Ju c d h l1 l2).objs.size=h.objs.size+4/\IsZip (vY c d h l1 l2) (h.objs.size+4) (h.objs.size+2) (h.objs.size+3) .none/\IsPair (vY c d h l1 l2) (h.objs.size+2) (.ref h.objs.size) (.ref (h.objs.size+1))/\
  IsPair (vY c d h l1 l2) (h.objs.size+3) .none .none/\(vY c d h l1 l2).get? h.objs.size=some {cls:=.type c,data:=.fields #[.ref l1,.int 0 0]}/\(vY c d h l1 l2).get? (h.objs.size+1)=some {cls:=.type d,data:=.fields #[.ref l2,.int 0 0]}/\
  (vY c d h l1 l2).objs.size=h.objs.size+5/\∀b o,h.get? b=some o->(vY c d h l1 l2).get? b=some o:=by
 have z1:(vn c h l1).objs.size=h.objs.size+1:=Qq ..;have z2:(vn d (vn c h l1) l2).objs.size=h.objs.size+2:=by rw[Qq,z1]
 have z3:(LH c d h l1 l2).objs.size=h.objs.size+3:=by rw[Qq,z2]
 have z4:(Ju c d h l1 l2).objs.size=h.objs.size+4:=by rw[Qq,z3]
 have z5:(vY c d h l1 l2).objs.size=h.objs.size+5:=by rw[Qq,z4]
 have g5:(vY c d h l1 l2).get? (Ju c d h l1 l2).objs.size=some _:=s_ _ rfl;have g4:(vY c d h l1 l2).get? (LH c d h l1 l2).objs.size=some _:=d_ _ (s_ _ rfl);have g3:(vY c d h l1 l2).get? (vn d (vn c h l1) l2).objs.size=some _:=d_ _ (d_ _ (s_ _ rfl));have g2:(vY c d h l1 l2).get? (vn c h l1).objs.size=some _:=d_ _ (d_ _ (d_ _ (s_ _ rfl)));have g1:(vY c d h l1 l2).get? h.objs.size=some _:=d_ _ (d_ _ (d_ _ (d_ _ (s_ _ rfl))));rw[z4,z3,z2]at g5;rw[z3]at g4;rw[z2,z1]at g3;rw[z1]at g2;exact⟨z4,g5,g3,g4,g1,g2,z5,λb o e=>d_ _ (d_ _ (d_ _ (d_ _ (d_ _ e))))⟩
theorem HG(n:Nat)(h1:l1<n)(h2:l2<n):ZipApart (n+4) (n+2) (n+3) n (n+1) l1 l2:=by
 have f:∀{l:Tv}(k:Nat),l<n->l≠n+k:=λk h=>x_ (n_ h (P7 n k));have g:∀{i j:Nat},i≠j->n+i≠n+j:=λh e=>h (Nat.add_left_cancel e);exact⟨g @1,g @1,g (i:=0) @1,g @1,g @1,g (j:=0) @1,g @1,g (j:=0) @1,g @1,g (i:=0) @1,f 4 h1,f 3 h1,f 0 h1,f 1 h1,f 4 h2,f 3 h2,f 0 h2,f 1 h2⟩
section
variable {X:Cx}{es:Td}{kk:Nat}{tp:Pos}
theorem yh:bootBuiltins "zip"=some (.type "zip"):=by decide +kernel
def pairs:TM->TM->TM
 | x::xs,y::ys=>.tup [x,y]::pairs xs ys
 | _,_=>[]
theorem pairs_len:∀(xs ys:TM),(pairs xs ys).length=min xs.length ys.length
 | [],ys=>by simp[pairs]
 | x::xs,[]=>by simp[pairs]
 | x::xs,y::ys=>by simp[pairs,pairs_len xs ys]
theorem oZ:∀{xs ys:TM}{i:Nat}{x y:D},xs[i]?=some x->ys[i]?=some y->(pairs xs ys)[i]?=some (.tup [x,y])
 | [],ys,i,x,y,h,_=>by simp at h
 | x::xs,[],i,_,y,_,h=>by simp at h
 | x::xs,y::ys,0,_,_,h1,h2=>by cases h1;cases h2;rfl
 | x::xs,y::ys,i+1,u,v,h1,h2=>by
  show(pairs xs ys)[i]?=_;exact oZ (x:=u) (y:=v) (by simpa using h1) (by simpa using h2)
end
end Mi
namespace Mi
open PySem L2
theorem Fq(h1:f env=some (.bl p))(h2:p=true->g env=some (.bl q)):iQ f g env=some (.bl (p&&q)):=by
 unfold iQ;rw[h1];cases p with
 | true=>exact h2 rfl
 | false=>rfl
theorem Gp(h1:f env=some (.bl p))(h2:p=false->g env=some (.bl q)):GC f g env=some (.bl (p||q)):=by
 unfold GC;rw[h1];cases p with
 | false=>exact h2 rfl
 | true=>rfl
theorem pz(h1:f env=some p)(h2:p=true->g env=some q):nM f g env=some (p&&q):=by
 unfold nM;rw[h1];cases p with
 | true=>exact h2 rfl
 | false=>rfl
theorem o5(h1:f env=some p)(h2:p=false->g env=some q):vK f g env=some (p||q):=by
 unfold vK;rw[h1];cases p with
 | false=>exact h2 rfl
 | true=>rfl
theorem Hy(hx:fa env=some x)(hy:fb env=some y)(hw:fc env=some w)(h1:b x y=some (.bl p))(h2:b' y w=some (.bl q)):Gi b b' fa fb fc env=some (.bl (p&&q)):=by
 unfold Gi;rw[hx];show(fb env).bind _=_;rw[hy];show(b x y).bind _=_;rw[h1];cases p with
 | true=>show(fc env).bind _=_;rw[hw];exact h2
 | false=>rfl
theorem aZ(h1:fi env=some ds)(h2:cY is (dk n caps env)=true)(h3:ez t c k (dk n caps env) ds=some xs)(hl:xs.length<=16000000):aO fi is t c k n caps env=some (.lst xs):=by
 unfold aO;rw[h1];show(if cY is (dk n caps env)=true then _ else _)=_;rw[g_ h2,h3];show(if xs.length<=16000000 then _ else _)=_;rw[g_ hl]
theorem vw(p:D->Bool)(g:D->D):∀(ds:TM),(∀d∈ds,∃e1,t d env=some e1/\c e1=some (p d)/\(p d=true->k e1=some [g d]))->ez t c k env ds=some ((ds.filter p).map g)
 | [],_=>rfl
 | d::ds,h=>by
  obtain⟨e1,h1,h2,h3⟩:=h d f_;have ih:=vw p g ds λx hx=>h x (e_ _ hx);unfold ez;rw[h1];show(c e1).bind _=_;rw[h2];cases hp:p d with
  | true=>
   show(if true=true then k e1 else some []).bind _=_;rw[g_ rfl,h3 hp];show(ez t c k env ds).bind _=_;rw[ih,PY,g_ hp];rfl
  | false=>
   simp only[QC,P5,QV,ih,Ri,PY,hp]
theorem dm(h:f env=some d):aG f env=some [d]:=by unfold aG;rw[h];rfl
theorem gZ(I:TM->En->Prop)(g:D->TM)(B M:Nat):∀(ds:TM)(acc:TM)(env:En),I acc env->acc.length+B*ds.length<=M->(∀d∈ds,(g d).length<=B/\∀acc e,I acc e->acc.length+B<=M->∃e1,(t d e).bind body=some (.nx e1)/\I (acc++g d) e1)->
  ∃e2,cu t body ds env=some (.nx e2)/\I (acc++ds.flatMap g) e2
 | [],acc,env,h,_,_=>⟨env,rfl,by simpa using h⟩
 | d::ds,acc,env,h,hl,hb=>by
  obtain⟨b1,b2⟩:=hb d f_;rw[z_,SR]at hl;obtain⟨e1,h1,h2⟩:=b2 acc env h (by lia);obtain⟨e2,h3,h4⟩:=gZ I g B M ds (acc++g d) e1 h2 (by rw[E_];lia) λd' hd=>hb d' (e_ _ hd);refine⟨e2,?_,by rw[Qe,<- RY];exact h4⟩;obtain⟨e0,h5,h6⟩:=a_.mp h1;show(t d env).bind (λe1=>(body e1).bind _)=_;rw[h5];show(body e0).bind _=_;rw[h6];exact h3
theorem rB{g:D->TM}{B:Nat}:∀(ds:TM),(∀d∈ds,(g d).length<=B)->(ds.flatMap g).length<=B*ds.length
 | [],_=>by simp
 | d::ds,h=>by
  rw[Qe,E_,z_,SR];have:=h d f_;have:=rB ds λx hx=>h x (e_ _ hx)
  lia
theorem gf:d∈aI 0 n↔∃i:Nat,i<n/\d=.int i:=by
 unfold aI;simp only[v_,Q2];constructor
 .rintro⟨i,h,rfl⟩;exact⟨i,h,by simp⟩
 .rintro⟨i,h,rfl⟩;exact⟨i,h,by simp⟩
theorem dW(n:Nat):(aI 0 n).length=n:=by simp[aI]
theorem pW:∀{ds:TM},(∀d∈ds,dh d<=n)->fR ds<=n
 | [],_=>by unfold fR;lia
 | d::ds,h=>by
  unfold fR;have:=h d f_;have:=pW λx hx=>h x (e_ _ hx)
  lia
theorem ji(h:∀d∈ds,dh d<=n):dh (.tup ds)<=n+1:=by unfold dh;have:=pW h;lia
theorem lB(h:∀d∈ds,dh d<=n):dh (.lst ds)<=n+1:=by unfold dh;have:=pW h;lia
theorem du(i:Int):dh (.int i)=0:=by unfold dh;rfl
theorem ib(x:Str):dh (.str x)=0:=by unfold dh;rfl
theorem FV(b:Bool):dh (.bl b)=0:=by unfold dh;rfl
theorem Md(h1:f env=some d)(h2:g env=some (.lst es))(h3:dh d<=60)(hb:inD d es=b)(h4:(pl d&&gA es)=true:=by rfl):au (mx false) f g env=some (.bl b):=by
 rw[aS h1 h2];show(if dh d<=60/\(pl d&&gA es)=true then _ else _)=_;rw[g_ ⟨h3,h4⟩,<- hb];rfl
theorem F0(h1:f env=some d)(h2:g env=some (.tup es))(h3:dh d<=60)(hb:inD d es=b)(h4:(pl d&&gA es)=true:=by rfl):au (mx true) f g env=some (.bl !b):=by
 rw[aS h1 h2];show(if dh d<=60/\(pl d&&gA es)=true then _ else _)=_;rw[g_ ⟨h3,h4⟩,<- hb];rfl
theorem CD(h1:f env=some d)(h2:g env=some e)(h3:fy d e=true)(hb:fS d e=b):au eI f g env=some (.bl b):=by
 rw[aS h1 h2];unfold eI;rw[g_ h3,hb]
theorem Hz(h1:f env=some d)(h2:g env=some e)(h3:fy d e=true)(hb:fS d e=b):au nY f g env=some (.bl !b):=by
 rw[aS h1 h2];unfold nY;rw[g_ h3,hb]
theorem CM(h:dh d<=60)(h2:(pl d&&pl e)=true):fy d e=true:=by unfold fy;rw[h2,t_ h];rfl
theorem HF(h:dh e<=60)(h2:(pl d&&pl e)=true):fy d e=true:=by unfold fy;rw[h2,t_ h,Qw];rfl
theorem wc(xs:TM):fS (.lst xs) (.lst [])=xs.isEmpty:=by
 cases xs<;>(unfold fS;rfl)
theorem mK(h:fs env=some ds):bt fs env=some (.tup ds):=by unfold bt;rw[h];rfl
theorem Fd(h:fs env=some ds):bP fs env=some (.lst ds):=by unfold bP;rw[h];rfl
theorem JQ(h:t env=some b)(h1:b=true->f env=some d)(h2:b=false->g env=some d):iteFn t f g env=some d:=by
 unfold iteFn;rw[h];cases b with
 | true=>exact h1 rfl
 | false=>exact h2 rfl
theorem uy{α:Type}{xs:List α}{i:Int}(h0:0<=i)(h1:i<xs.length):∃x,L2.atI xs i=some x/\x∈xs:=by
 obtain⟨n,rfl⟩:=QS h0;have hn:n<xs.length:=by lia
 exact⟨xs[n],dv (i_ hn),R9 hn⟩
theorem AI(h:f env=some (.lst ds)):bC kh f env=some (.tup ds):=by unfold bC;rw[h];rfl
theorem CV(h:f env=some (.lst ds)):bC wV f env=some (.lst ds):=by unfold bC;rw[h];rfl
theorem uU(h:f env=some (.lst xs))(h2:g env=some (.lst ys))(hl:xs.length+ys.length<=16000000):au nk f g env=some (.lst (xs++ys)):=by
 rw[aS h h2];show(if xs.length+ys.length<=16000000 then _ else _)=_;rw[g_ hl]
theorem rF:∀(bs:List Bool),yz (bs.map .bl)=some bs
 | []=>rfl
 | b::bs=>by show(yz (bs.map .bl)).bind _=_;rw[rF bs];rfl
theorem JP{f:Fe}{env:En}{bs:List Bool}(h:f env=some (.lst (bs.map .bl))):bC DE f env=some (.bl (bs.all id)):=by
 rw[o4 h];show(yz (bs.map .bl)).bind _=_;rw[rF];rfl
theorem eT(h:f env=some (.lst ds)):setO i f env=some (.nx (env.set i (.O (.L ds)))):=by unfold setO;rw[h];rfl
end Mi
namespace Mi
theorem zu(h1:f env=some (.bl false)):iQ f g env=some (.bl false):=by unfold iQ;rw[h1];rfl
theorem zw(h1:f env=some (.bl true)):iQ f g env=g env:=by unfold iQ;rw[h1];rfl
theorem fD{t:Ft}{d:D}{e e0:En}{b:Fs}{o:Out}(h:t d e=some e0)(h2:b e0=some o):(t d e).bind b=some o:=by rw[h];exact h2
theorem eF(g:D->D)(ds:TM)(h:∀d∈ds,∃e1,t d env=some e1/\k e1=some [g d]):ez t T1 k env ds=some (ds.map g):=by
 have:=vw (t:=t) (c:=λ_=>some true) (k:=k) (env:=env) (λ_=>true) g ds λd hd=>by
  obtain⟨e1,h1,h2⟩:=h d hd;exact⟨e1,h1,rfl,λ_=>h2⟩
 rwa [Si.mpr (λ_ _=>rfl)]at this
theorem vQ(h:fe env=some d)(h1:env[i]?=some (.O (.L ds)))(h2:fk env=some (.int j))(h3:L2.xK ds.length j=some n):rM i fk fe env=some (.nx (env.set i (.O (.L (ds.set n d))))):=by
 unfold rM;rw[h,QC,h1];show(fk env).bind _=_;rw[h2];show(L2.xK ds.length j).bind _=_;rw[h3];rfl
theorem Ag{n:Nat}{j:Int}(h0:0<=j)(h1:j<n):L2.xK n j=some j.toNat:=by unfold L2.xK;rw[g_ h0,g_ h1]
end Mi
namespace Mi
open PySem PySem.Spec PyProof.Rows L2
def tM(ks:S7)(p:Ti):S7:=if p∈ks then ks else ks++[p]
def kd(x:Ti×Tv):TH×Tv×Tn:=(kk x.1,x.2,.bool true)
section
variable {P:Tp}{w:Ts}{a:Tv}{ps:S7}{bs:Tc}{h:Tr}
end
section
variable {X:Cx}{rg:Gr}{l r:Tz}{fa fb:Fe}{ga gb:Gr}{pos p:Pos}{k:Nat}
end
section
variable {X:Cx}{rg:Gr}{pos:Pos}
def qS(i:Nat)(f:Fe):Fs:=λenv=>match env[i]? with
 | some (.O (.L ds))=>(f env).bind λd=>match d with
  | .lst es=>if ds.length+es.length<=16000000 then some (.nx (env.set i (.O (.L (ds++es)))))else none
  | _=>none
 | _=>none
theorem JE(i:Nat)(he:PD X .nw e fe)(hN:X.N[i]?=some x:=by rfl)(hv:vZ X.env.scope x:=by first | exact Or.inl rfl | exact Or.inr (Or.inl rfl) | exact Or.inr (Or.inr rfl))
  (hd:(x==("__debug__":Str))=false:=by decide) (eC:(x==("__classdict__":Str))=false:=by decide) (gq:starEach [e] X.env=[(false,eval e X.env)]:=by rfl)
  (jH:attributeBase (.Name x px) "extend" X.env (eval (.Name x px) X.env)=eval (.Name x px) X.env:=by rfl)
  (qX:((backTo bU (starEach [e] X.env)).all (λx=>!x.1)&&(backToKw bU (keywordEach [] X.env)).all (λx=>x.1.isSome)
   && decide (([e]:Td).length+([]:List Keyword).length+(if([]:List Keyword).isEmpty then 0 else 1)<30))=true:=by rfl)
  (jI:(apos.endLine==bU.line)=true:=by rfl)
  (hs:swapsWith (.Call (.Attribute (.Name x px) "extend" apos) [e] [] bU) none pos.line X.env=pure false:=by rfl) :
  SD X rg (.Expr (.Call (.Attribute (.Name x px) "extend" apos) [e] [] bU) pos) (qS i fe):=by
 refine PS.imp (jo (vW Rb PySem.F.slot_list_extend PySem.F.type_list_extend yb (bV hN hv hd eC) (aJ he bS gq) jH qX jI gq rfl) hs) λE σ H aA=>?_;obtain⟨env,B,Z,o,R,e,k⟩:=aA;unfold qS at e
 split at e
 .rename_i ds hi;obtain⟨d,e1,e2⟩:=a_.mp e;cases d<;>try cases e2
  rename_i es;obtain⟨hl,rfl⟩:=rj e2;obtain⟨y,e3,a,o,e4,e5,e6,vs,rfl,r⟩:=R.sl i _ hi;subst e4;refine⟨_,e3,.inl ⟨rfl,vs,cR.of e5⟩,env,B,Z,_,R,e1,λv Z1 H1 x1 g1=>?_⟩;obtain⟨b,us,KH,rfl,e7,h1,h2,h3,r2⟩:=g1;cases e7;have R1:=R.ext x1;have r1:=av.mono x1.z ds r;refine⟨a,b,vs,us,rfl,rfl,x1.h _ _ e5,h2,by rw[<- r.len,<- r2.len,P6];omega,?_⟩;obtain⟨R2,x2⟩:=R1.wr hi e3 (cP.l (r1.app r2));exact k σ Z1 _ ((x1.part R.bh).transB x2) R2
 .cases e
def insAt(xs:List α)(k:Nat)(y:α):List α:=xs.take k++y::xs.drop k
theorem aC.insAt(r:aC xs us)(ru:RelV y u)(k:Nat):aC (Mi.insAt xs k y) (Mi.insAt us k u):=(r.take k).append (.cons ru (r.drop k))
theorem av.insAt{K:Fg}{H:Hp}{ds:TM}{vs:TQ}{d:D}{v:V}(r:av K H ds vs)(rd:Rep K H d v)(k:Nat):av K H (Mi.insAt ds k d) (Mi.insAt vs k v):=(r.take k).app (av.cons rd (r.drop k))
theorem yp(xs:List α)(k:Nat)(y:α):(insAt xs k y).length=xs.length+1:=by
 unfold insAt;rw[E_,z_,QY,List.length_drop];omega
def rInsert:V->TQ->Hp->VK->Prop:=λx vs H Q=>∃(l:Tv)(xs:TQ)(k:Nat)(y:V),x=.ref l/\vs=[.int (k:Int),y]/\H l=some (.lst xs)/\k<=xs.length/\xs.length<sizeLine/\Q .non (upd H l (.lst (insAt xs k y)))
theorem yB:Mh X "list.insert" rInsert:=by
 intro pins s σ H x vs v us Q I rx rv h;obtain⟨l,xs,k,y,rfl,rfl,hH,hk,hz,q⟩:=h;cases rx;obtain⟨u,w,rfl,ru,yJ⟩:=rv.two;obtain⟨t,rfl⟩:=ru;obtain⟨z,bo,n,r,hl,e⟩:=I.lstM hH;have hb:=P6;have hf:¬(!Builtin.List.listFitsIndex (k:Int))=true:=by
  rw[fitsIndex_both (by omega) (by omega)];exact QA
 have hsz:bo.toArray.size<=sizeLine:=by rw[q_];omega
 generalize hkk:(k:Int)=kz at hf ⊢;have M:=AutoListH.list_insert_list_int_val_1 l bo.toArray n kz t w hf hsz;refine call_meets F.slot_list_insert ⟨_,e,rfl⟩ F.entry_list_insert (F.args_list_insert_3 _ _ _) M ⟨e,?_⟩;subst hkk;refine⟨.non,_,I.lset hH e ?_ (aC.insAt r yJ k) (by rw[yp];omega),rfl,q⟩;simp only[q_];rw[j_ (by omega),QH,Nat.min_eq_left (by omega)];simp[insAt,List.push_toArray,List.extract_toArray,RZ]
def AF(i:Nat)(fk f:Fe):Fs:=λenv=>match env[i]? with
 | some (.O (.L ds))=>(fk env).bind λkd=>(f env).bind λd=>match kd with
  | .int j=>if 0<=j/\j<=ds.length/\ds.length<16000000 then some (.nx (env.set i (.O (.L (insAt ds j.toNat d)))))else none
  | _=>none
 | _=>none
theorem Je(i:Nat)(hk:PD X .cl ke fk)(he:PD X .cl e fe)(hN:X.N[i]?=some x:=by rfl)(hv:vZ X.env.scope x:=by first | exact Or.inl rfl | exact Or.inr (Or.inl rfl) | exact Or.inr (Or.inr rfl))
  (hd:(x==("__debug__":Str))=false:=by decide) (eC:(x==("__classdict__":Str))=false:=by decide) (gq:starEach [ke,e] X.env=(false,eval ke X.env)::starEach [e] X.env:=by rfl) (hst2:starEach [e] X.env=[(false,eval e X.env)]:=by rfl)
  (jH:attributeBase (.Name x px) "insert" X.env (eval (.Name x px) X.env)=eval (.Name x px) X.env:=by rfl)
  (qX:((backTo bU (starEach [ke,e] X.env)).all (λx=>!x.1)&&(backToKw bU (keywordEach [] X.env)).all (λx=>x.1.isSome)
   && decide (([ke,e]:Td).length+([]:List Keyword).length+(if([]:List Keyword).isEmpty then 0 else 1)<30))=true:=by rfl)
  (jI:(apos.endLine==bU.line)=true:=by rfl) (gI:(backTo bU (starEach [e] X.env)).any (·.1)=false:=by rfl)
  (hs:swapsWith (.Call (.Attribute (.Name x px) "insert" apos) [ke,e] [] bU) none pos.line X.env=pure false:=by rfl) :
  SD X rg (.Expr (.Call (.Attribute (.Name x px) "insert" apos) [ke,e] [] bU) pos) (AF i fk fe):=by
 refine PS.imp (jo (vW Rb PySem.F.slot_list_insert PySem.F.type_list_insert yB (bV hN hv hd eC) (aJ hk (aJ he bS hst2) gq) jH qX jI gq gI) hs) λE σ H aA=>?_;obtain⟨env,B,Z,o,R,e,kq⟩:=aA;unfold AF at e
 split at e
 .rename_i ds hi;obtain⟨kd,e1,e⟩:=a_.mp e;obtain⟨d,e2,e⟩:=a_.mp e;cases kd<;>try cases e
  rename_i j _;obtain⟨⟨h0,h1,h2⟩,rfl⟩:=rj e;obtain⟨y,e3,a,o,e4,e5,e6,vs,rfl,r⟩:=R.sl i _ hi;subst e4;refine⟨_,e3,.inl ⟨rfl,vs,cR.of e5⟩,env,B,Z,_,R,e1,λv Z1 H1 x1 g1=>⟨env,B,Z1,_,R.ext x1,e2,λu Z2 H2 x2 g2=>?_⟩⟩;have x12:=x1.trans x2;have R2:=R.ext x12;have hl:=r.len;refine⟨a,vs,j.toNat,u,rfl,by rw[g1.int,Int.toNat_of_nonneg h0],x12.h _ _ e5,by omega,by rw[P6];omega,?_⟩;obtain⟨R3,x3⟩:=R2.wr hi e3 (cP.l (av.insAt (av.mono x12.z ds r) g2 j.toNat));exact kq σ Z2 _ ((x12.part R.bh).transB x3) R3
 .cases e
end
section
variable {X:Cx}{rg:Gr}{l r:Tz}{fa fb:Fe}{ga gb:Gr}{pos p p3:Pos}
end
section
variable {X:Cx}{tg:Tz}
end
section
variable {prog:Tp}{w:Ts}{A:Tq}{E:S2}{s:To}{e i l:Tv}{k:Nat}{xs:S9}{x old:Tn}{it:Nat->Tr->Prop}{at_:S9->Tr->Prop}
theorem AV{Q:S2}(S:Src prog w i l it at_)(he:IsEnum s.heap e i k old)(hit:it k s.heap)(FH:at_ xs s.heap)(hx:xs[k]?=some x)(hne:e≠i)
  (hQ:∀(g h':Tr),IsEnumOut h' e i ((k:Int)+1) x s.sz->it (k+1) h'->g.objs.size=s.sz->(∀b o,b≠e->b≠i->s.heap.get? b=some o->g.get? b=some o)->
   (∀b o,b≠e->(g.push {cls:=.type "tuple",data:=.seq #[.int k s.toks,x]}).get? b=some o->h'.get? b=some o)->Q (.ref s.sz) {s with heap:=h',toks:=s.toks+1}) :
  wpAny (model prog w) A (Builtin.«enumerate.__next__» ⟨[.ref e],[]⟩) (λf s'=>∃v,f=.done (.ret v)/\Q v s') E s:=by
 obtain⟨hp,gn,d,tk,os⟩:=s;refine(show wpAny _ _ (field (.ref e) 2 >>= _) _ _ _ from b_ (P1 he rfl rfl (b_ (S.nxt hit FH hx λg1 OZ s1=>?_))))
 replace s1:Heap.SameBut i hp g1:=s1
 have K9:IsEnum g1 e i k old:=(s1.2 e hne).trans he;refine(show wpAny _ _ (field (.ref e) 3 >>= _) _ _ ⟨g1,gn,d,tk,os⟩from b_ (P1 K9 rfl rfl ?_));refine(show wpAny _ _ (field (.ref e) 4 >>= _) _ _ ⟨g1,gn,d,tk,os⟩from b_ (P1 K9 rfl rfl ?_));refine(show wpAny _ _ (mkInt k >>= _) _ _ ⟨g1,gn,d,tk,os⟩from b_ (wpAny_mkInt ?_));refine(show wpAny _ _ (setField (.ref e) 3 (rawInt ((k:Int)+1)) >>= _) _ _ ⟨g1,gn,d,tk+1,os⟩from b_ (QB K9 (by simp) λg2 vB s2=>?_))
 replace s2:Heap.SameBut e g1 g2:=s2
 replace vB:IsEnum g2 e i ((k:Int)+1) old:=vB
 refine(show wpAny _ _ (setField (.ref e) 4 .none >>= _) _ _ ⟨g2,gn,d,tk+1,os⟩from b_ (QB vB (by simp) λg3 K' s3=>?_))
 replace s3:Heap.SameBut e g2 g3:=s3
 replace K':IsEnum g3 e i ((k:Int)+1) old:=K'
 refine(show wpAny _ _ (newTuple [.int k tk,x] >>= _) _ _ ⟨g3,gn,d,tk+1,os⟩from b_ (wpAny_newTuple ?_));have LZ:IsEnum (g3.push {cls:=.type "tuple",data:=.seq #[.int k tk,x]}) e i ((k:Int)+1) old:=d_ _ K';have hit3:it (k+1) g3:=S.itx (S.itx OZ (As s2.extBut (Qo hne))) (As s3.extBut (Qo hne));have La:it (k+1) (g3.push {cls:=.type "tuple",data:=.seq #[.int k tk,x]}):=S.itx hit3 λo q=>d_ _ q;have hsz:g3.objs.size=hp.objs.size:=by rw[s3.1,s2.1,s1.1]
 have hk3:∀b o,b≠e->b≠i->hp.get? b=some o->g3.get? b=some o:=λb o b1 b2 q=>s3.extBut b o b1 (s2.extBut b o b1 (s1.extBut b o b2 q));generalize hh:g3.push {cls:=.type "tuple",data:=.seq #[.int k tk,x]}=g4 at LZ La;refine(show wpAny _ _ (Builtin.SmallTypes.ownedTupleIsFree (.ref e) >>= _) _ _ ⟨g4,gn,d,tk+1,os⟩from ?_);rw[hsz];refine b_ ?_;unfold Builtin.SmallTypes.ownedTupleIsFree;refine b_ (P1 LZ rfl rfl (o_ ?_));simp only[SA];refine b_ (So (b_ (P1 LZ rfl rfl (b_ (QB LZ (by simp) λg5 he5 s5=>?_)))))
 replace s5:Heap.SameBut e g4 g5:=s5
 replace he5:IsEnum g5 e i ((k:Int)+1) x:=he5
 refine(show wpAny _ _ (Builtin.SmallTypes.ownedTupleHandOut (.ref e) (.ref hp.objs.size) >>= _) _ _ ⟨g5,gn,d,tk+1,os⟩from b_ ?_);unfold Builtin.SmallTypes.ownedTupleHandOut;refine b_ (QB he5 (by simp) λg6 he6 s6=>?_)
 replace s6:Heap.SameBut e g5 g6:=s6
 replace he6:IsEnumOut g6 e i ((k:Int)+1) x hp.objs.size:=he6
 refine QB he6 (by simp) λg7 he7 s7=>?_
 replace s7:Heap.SameBut e g6 g7:=s7
 replace he7:IsEnumOut g7 e i ((k:Int)+1) x hp.objs.size:=he7
 refine b_ (wpAny_letGo (o_ ⟨_,rfl,hQ g3 g7 he7 (S.itx (S.itx (S.itx La (As s5.extBut (Qo hne))) (As s6.extBut (Qo hne))) (As s7.extBut (Qo hne))) hsz hk3 λb o b1 q=>?_⟩));rw[hh]at q;exact s7.extBut b o b1 (s6.extBut b o b1 (s5.extBut b o b1 q))
theorem Ao(S:Src prog w i l it at_)(he:IsEnum s.heap e i k old)(hit:it k s.heap)(FH:at_ xs s.heap)(hx:xs[k]?=some x)(hne:e≠i)
  (hQ:∀(g h':Tr),IsEnumOut h' e i ((k:Int)+1) x s.sz->it (k+1) h'->g.objs.size=s.sz->(∀b o,b≠e->b≠i->s.heap.get? b=some o->g.get? b=some o)->
   (∀b o,b≠e->(g.push {cls:=.type "tuple",data:=.seq #[.int k s.toks,x]}).get? b=some o->h'.get? b=some o)->Q (some (.ref s.sz)) {s with heap:=h',toks:=s.toks+1}):wpAny (model prog w) A (pyNext (.ref e)) Q E s:=by
 have hT:s.TypeIs (.ref e) "enumerate":=⟨_,he,rfl⟩;unfold pyNext;exact b_ (Sa (QD hT Rn (QZ Rn hT F.entry_enumerate_next (AV S he hit FH hx hne λg h' b1 b2 b3 b4 b5=>o_ (hQ g h' b1 b2 b3 b4 b5)) (F.args_enumerate_next_1 _))))
theorem Bt(hh:A.handled=none)(S:Src prog w i l it at_)(he:IsEnum s.heap e i k old)(hit:it k s.heap)(FH:at_ xs s.heap)(hx:xs[k]?=none)
  (hQ:∀h',Heap.ExtBut i s.heap h'->Q none {s with heap:=h'}):wpAny (model prog w) A (pyNext (.ref e)) Q E s:=by
 have hT:s.TypeIs (.ref e) "enumerate":=⟨_,he,rfl⟩;unfold pyNext;refine b_ (Sa (QD hT Rn (QZ Rn hT F.entry_enumerate_next ?_ (F.args_enumerate_next_1 _))));refine(show wpAny _ _ (field (.ref e) 2 >>= _) _ _ _ from b_ (P1 he rfl rfl (b_ (S.fin hh hit FH hx λh' y BE hy=>?_))));obtain⟨o,ho,hc⟩:=hy;exact b_ (wpAny_isInstance ⟨o,ho,hc⟩ isSubtype_stop (o_ (hQ _ BE)))
theorem FY{es:Td}{x1:Nat}{pos:Pos}{n:Int}{T:Tv}{Q:Unit->To->Prop}(he:IsEnumOut s.heap e i n x T)(hQ:∀h',IsEnum h' e i n x->Heap.SameBut e s.heap h'->Q () {s with heap:=h'}) :
  wpAny (model prog w) A (letOwnedTupleGo (.Tuple es x1 pos) (.ref e) (.ref T)) Q E s:=by
 unfold letOwnedTupleGo;refine b_ (wpAny_load he ?_);show wpAny _ _ (if(["enumerate","zip","dict_itemiterator","dict_reverseitemiterator","odict_iterator","itertools.zip_longest","itertools.pairwise"].contains "enumerate"&&(#[rawInt T,.bool false,.ref i,rawInt n,.none,x]:Array Tn)[0]?==some (rawInt T))=true then _ else _) Q E s;rw[g_ (by simp)];exact b_ (So (show wpAny _ _ (setField (.ref e) 0 .none) Q E s from QB he (by simp) λh' BE hs'=>hQ h' BE hs'))
end
def Lw(S:Hp->TQ->Prop):It:=
 ⟨λi H=>∃xs x,S H xs/\xs[i]?=some x,
  λi H v H'=>∃(q:Tv),H q=none/\v=.ref q/\∀xs x,S H xs->xs[i]?=some x->H'=upd H q (.tup [.int (i:Nat),x]),
  λi H=>∃xs,S H xs/\xs.length<=i⟩
theorem ou{P:Tp}{w:Ts}{K:Fg}{es:Td}{k:Nat}{pos:Pos}{e i l:Tv}{it:Nat->Tr->Prop}{at_:S9->Tr->Prop}{S:Hp->TQ->Prop}(W:Src P w i l it at_)(K1:Nw K l S at_)(hne:e≠i) :
  Turn P w K (.Tuple es k pos) (Lw S) [e,i] e (λn h=>(∃old,IsEnum h e i (n:Nat) old)/\it n h) where
 mem:=by simp
 obj:=λn h ⟨⟨old,he⟩,h1⟩ c hc=>by
  simp only[p_,Qd,Rx]at hc;rcases hc with rfl | rfl
  .exact⟨_,he,λv q=>by cases q⟩
  .exact W.obj h1
 keep:=λn h h' ⟨⟨old,he⟩,h1⟩ kk=>⟨⟨old,kk e (by simp) _ he⟩,W.itx h1 λo q=>kk i (by simp) o q⟩
 item:=by
  intro X hP hw hK hc n pins s σ H E I hf st hg;subst hP hw;obtain⟨⟨old,he⟩,h1⟩:=st;obtain⟨xs,x,q1,hx⟩:=hg;obtain⟨us,r1,m1⟩:=K1.get hK I q1;obtain⟨u,hu,ru⟩:=r1.get hx;refine Ao W he h1 m1 hu hne λg g' b1 b2 b3 b4 b5=>?_;have hT:H s.sz=none:=I.hok.fresh (m_ _);have ne:∀c∈[e,i],c<s.sz:=λc hc=>by
   simp only[p_,Qd,Rx]at hc;rcases hc with rfl | rfl
   .exact k_ he
   .obtain⟨o,ho,_⟩:=W.obj h1;exact k_ ho
  have I1:L2.Inv X pins σ H {s with heap:=g,toks:=s.toks+1}:=k9 I hf λc o hc q=>b4 c o (λz=>hc (by simp[z])) (λz=>hc (by simp[z])) q;have I2:L2.Inv X pins σ (upd H g.objs.size (.tup [.int n,x])) {s with heap:=g.push {cls:=.type "tuple",data:=.seq #[.int n s.toks,u]},toks:=s.toks+1}:=
   I1.laid (λc o q=>d_ _ q) (m_ _) (show bO X.prog X.w _ _ _ (.tup [.int n,x])from⟨by have:=P6;simp;lia,[.int n s.toks,u],.cons ⟨_,rfl⟩ (.cons ru .nil),IsTup.new _ _⟩)
  rw[b3]at I2;have fz:∀c∈[e,i],fH X pins (upd H s.sz (.tup [.int n,x])) c:=λc hc=>⟨by rw[ay (x_ (ne c hc))];exact(hf c hc).1,(hf c hc).2⟩;have I3:L2.Inv X pins σ (upd H s.sz (.tup [.int n,x])) {s with heap:=g',toks:=s.toks+1}:=k9 (s:={s with heap:=g.push {cls:=.type "tuple",data:=.seq #[.int n s.toks,u]},toks:=s.toks+1}) (ch:=[e]) I2 (λc hc=>fz c (by simp at hc;simp[hc])) λc o hc q=>b5 c o (λz=>hc (by simp[z])) q;refine⟨_,rfl,FY b1 λg2 vB s2=>?_⟩;have I4:L2.Inv X pins σ (upd H s.sz (.tup [.int n,x])) {s with heap:=g2,toks:=s.toks+1}:=k9 (s:={s with heap:=g',toks:=s.toks+1}) (ch:=[e]) I3 (λc hc=>fz c (by simp at hc;simp[hc])) λc o hc q=>s2.extBut c o (λz=>hc (by simp[z])) q;refine⟨.ref s.sz,_,I4,rfl,⟨s.sz,hT,rfl,λxs' x' p1 Bz=>?_⟩,⟨⟨u,vB⟩,W.itx b2 (As s2.extBut (Qo hne))⟩,λc hc=>(fz c hc).1⟩;cases K1.inj hK I q1 p1;rw[hx]at Bz;cases Bz
  rfl
 done:=by
  intro X hP hw hK hc n pins s σ H E I hf st hg;subst hP hw;obtain⟨⟨old,he⟩,h1⟩:=st;obtain⟨xs,q1,hl⟩:=hg;obtain⟨us,r1,m1⟩:=K1.get hK I q1;have e1:=r1.length;refine Bt (I.ok.hd hc) W he h1 m1 (A_ (by lia)) λg' kk=>⟨rfl,?_⟩;exact k9 (ch:=[i]) I (λc hc=>hf c (by simp at hc;simp[hc])) λc o hc q=>kk c o (λz=>hc (by simp[z])) q
 self:=λ_ n _ _ _ ⟨⟨_,he⟩,_⟩ h=>SG he h
abbrev OH(c:String)(h:Tr)(l:Tv):Tr:=(vn c h l).push {cls:=.type "enumerate",data:=.fields #[.none,.bool false,.ref h.objs.size,rawInt 0,.none,.none]}
theorem xX(l:Tv)(items:Array Tn)(n:Nat)(dct:Ta)(sl:S4):Meets (Builtin.«enumerate.__new__» ⟨[.type "enumerate",.ref l],[]⟩) (λ_ R s=>s.heap.get? l=some {cls:=.type "tuple",dict:=dct,data:=.seq items n,slots:=sl}/\
   R (.ok (.ret (.ref (vn "tuple_iterator" s.heap l).objs.size))) {s with heap:=OH "tuple_iterator" s.heap l}):=
 .of_wp λprog w A R s h=>by
  obtain⟨hp,g,d,tk,os⟩:=s;obtain⟨hl,h⟩:=h;have hsub:=sub_enumerate;have hL:Heap.IsTuple (Shared.heap ⟨hp,g,d,tk,os⟩) l items:=⟨_,hl,rfl,n,rfl⟩
  wp_walk using Q9 hl
  refine wpAny_stack_any λst=>o_ ?_
  split
  .rename_i c _ _ _ _ _;cases(c==Value.type "enumerate")
   .wp_walk using Q9 hl,RN hL
    exact⟨_,rfl,h⟩
   .wp_walk using Q9 hl,RN hL
    exact⟨_,rfl,h⟩
  .wp_walk using Q9 hl,RN hL
   exact⟨_,rfl,h⟩
theorem uJ(hL:s.heap.IsTuple l items)
  (h:∀h',IsEnum h' (s.sz+1) s.sz 0 .none->h'.IsTupleIter s.sz l 0->(∀b o,s.heap.get? b=some o->h'.get? b=some o)->Q (.ref (s.sz+1)) {s with heap:=h'}) :
  wpAny (model prog w) A (call (.type "enumerate") [.ref l]) Q E s:=by
 obtain⟨⟨c,dct,dt,sl⟩,hl,hc,n,hd⟩:=hL
 replace hc:c=.type "tuple":=hc
 replace hd:dt=.seq items n:=hd
 subst hc hd;refine callType_new F.called_enumerate @1 (F.typeCall_enumerate_1 _) (F.newCall_enumerate_1 _) (λobj=>F.args_object_init_2 obj _) F.entry_enumerate_new (xX l items n dct sl) ⟨hl,?_⟩;have hz:(vn "tuple_iterator" s.heap l).objs.size=s.sz+1:=Qq ..;show _/\_;rw[hz];have he:IsEnum (OH "tuple_iterator" s.heap l) (s.sz+1) s.sz 0 .none:=by
  have:=s_ (vn "tuple_iterator" s.heap l) (o:={cls:=.type "enumerate",data:=.fields #[.none,.bool false,.ref s.sz,rawInt 0,.none,.none]}) rfl;rw[hz]at this;exact this
 exact⟨⟨_,he,rfl⟩,h _ he ⟨_,d_ _ (s_ _ rfl),rfl,rfl⟩ λb o x=>d_ _ (d_ _ x)⟩
section
variable {X:Cx}{es:Td}{kk:Nat}{tp:Pos}
theorem u9:bootBuiltins "enumerate"=some (.type "enumerate"):=by decide +kernel
def KA(K:Fg)(ta:TA):TI:=λσ H R=>ta σ H λvs H1=>∃(l:Tv)(xs:TQ),vs=[.ref l]/\((cX K H1 l xs/\R (Lw (λH xs=>cX K H l xs)) H1)\/(cR K H1 l xs/\R (Lw (λH xs=>cR K H l xs)) H1))
theorem DI(hg:Gl X "enumerate")(hm:X.mg "enumerate"=none)(ha:PA X [a] ta)(hs:starEach [a] X.env=[(false,eval a X.env)]:=by rfl):PI X (.Tuple es kk tp) (.Call (.Name "enumerate" p) [a] [] pos) (KA X.K ta):=by
 intro pins s σ H R I h;refine Call_ (fY I hg hm u9 (QF (bx (ha pos pins s σ H _ I h) λus s1 aA=>?_) hs rfl));obtain⟨vs,H1,I1,r1,q1⟩:=aA;obtain⟨l,xs,e,q⟩:=q1;subst e;obtain⟨u,rfl,ru⟩:=vals1 r1;cases ru;have fp:∀b∈[s1.sz+1,s1.sz],fH X pins H1 b:=λb hb=>by
  have hb':s1.sz<=b:=by
   simp only[p_,Qd,Rx]at hb;rcases hb with rfl | rfl
   .exact SE _
   .exact m_ _
  exact I1.fpOk hb' (I1.hok.fresh hb')
 rcases q with ⟨m,q⟩ | ⟨m,q⟩
 .obtain⟨us,_,p1,_⟩:=I1.tuple m;refine uJ (show s1.heap.IsTuple l us.toArray from p1) λh' he hi old=>SG he ?_;exact⟨s1.sz+1,_,_,_,H1,rfl,I1.kept old,ou (Mc _ _) (MK l) (Nat.succ_ne_self _),⟨⟨_,he⟩,hi⟩,fp,q⟩
 .obtain⟨us,_,p1,_⟩:=I1.list m;refine call_enumerate_list p1.isList λh' he hi _ old=>SG he ?_;exact⟨s1.sz+1,_,_,_,H1,rfl,I1.kept old,ou (Mu _ _) (Ml l) (Nat.succ_ne_self _),⟨⟨_,he⟩,hi⟩,fp,q⟩
def jn:Nat->TM->TM
 | _,[]=>[]
 | n,d::ds=>.tup [.int (n:Int),d]::jn (n+1) ds
theorem fJ:∀(n:Nat)(ds:TM),(jn n ds).length=ds.length
 | _,[]=>rfl
 | n,d::ds=>by simp[jn,fJ (n+1) ds]
theorem jg:∀{n:Nat}{ds:TM}{i:Nat}{d:D},ds[i]?=some d->(jn n ds)[i]?=some (.tup [.int ((n+i:Nat):Int),d])
 | n,[],i,d,h=>by simp at h
 | n,x::ds,0,d,h=>by cases h;rfl
 | n,x::ds,i+1,d,h=>by
  show(jn (n+1) ds)[i]?=_;rw[jg (by simpa using h),show n+1+i=n+(i+1) by lia]
theorem oB{K:Fg}{Z1:Hp}{S:Hp->TQ->Prop}{vs:TQ}{xs:TM}(m1:∀{H H'},aE H H'->S H vs->S H' vs)(q1:S Z1 vs)(r1:av K Z1 xs vs):Walk K Z1 (jn 0 xs) (Lw S):=λZ' H' s1 s2 i=>by
 have l1:=r1.len;have w1:=m1 (s1.trans s2) q1;rw[fJ];refine⟨λhi=>?_,λhi=>⟨vs,w1,by lia⟩⟩;have h1:i<vs.length:=by lia
 refine⟨⟨vs,vs[i],w1,i_ h1⟩,λx H'' ⟨q,hq,e,hy⟩=>?_⟩;subst e;have e2:=hy vs _ w1 (i_ h1);subst e2;obtain⟨d1,e1,p1⟩:=r1.getV (i_ h1);have s3:aE Z' (upd Z' q (.tup [.int (i:Nat),vs[i]])):=cw (s2.free hq);exact⟨_,_,Ex.new s2 hq,jg e1,q,_,rfl,cX.of aw,av.mono s3 _ ⟨_,_,rfl,by rw[Qb];rfl,_,_,rfl,Rep.mono s1 _ p1,rfl⟩⟩
def EU(f:Fe):Fi:=λenv=>(f env).bind λd=>match d with
 | .tup xs=>some (jn 0 xs)
 | .lst xs=>some (jn 0 xs)
 | _=>none
theorem u5(hm:X.mg "enumerate"=none)(h:PD X .cl l f)(hg:Gl X "enumerate":=by rfl)(hs:starEach [l] X.env=[(false,eval l X.env)]:=by rfl):ID X (.Tuple es kk tp) (.Call (.Name "enumerate" p) [l] [] pos) (EU f):=
 PI.imp (DI hg hm (aJ h bS hs) hs) λσ H R aA=>by
  obtain⟨env,B,Z,ds,Rr,e,k⟩:=aA;obtain⟨d,e1,e2⟩:=a_.mp e;cases d<;>cases e2
  .refine⟨env,B,Z,_,Rr,e1,λv Z1 H1 x1 g1=>?_⟩;obtain⟨l1,vs,rfl,w1,r1⟩:=g1;exact⟨l1,vs,rfl,.inl ⟨fL x1.zh w1,k _ Z1 H1 x1 (oB (λs q=>fL s q) w1 r1)⟩⟩
  .refine⟨env,B,Z,_,Rr,e1,λv Z1 H1 x1 g1=>?_⟩;obtain⟨l1,vs,rfl,w1,r1⟩:=g1;exact⟨l1,vs,rfl,.inr ⟨x1.zh.seq w1,k _ Z1 H1 x1 (oB (λs q=>s.seq q) w1 r1)⟩⟩
end
end Mi
namespace Mi
open PySem PySem.Spec PyProof.Rows L2
section
variable {X:Cx}{l r:Tz}{fa fb:Fe}{ga gb:Gr}{pos p:Pos}{k:Nat}
def EL(K:Fg):R2:=λx y H Q=>∃a b xs ys,x=.ref a/\y=.ref b/\cX K H a xs/\cX K H b ys/\xs.length+ys.length<=sizeLine/\(xs=[]->Q (.ref b) H)/\(xs≠[]->ys=[]->Q (.ref a) H)/\(xs≠[]->ys≠[]->∀p,H p=none->Q (.ref p) (upd H p (.tup (xs++ys))))
theorem B1:iy X (binaryOp .Add) (EL X.K):=by
 intro pins s σ H x y v u Q I rx ry h;obtain⟨a,b,xs,ys,rfl,rfl,ha,hb,hz,q0,q1,q2⟩:=h
 by_cases hx:xs=[]
 .cases rx;cases ry;obtain⟨bo,r1,p1,_⟩:=I.tuple ha;obtain⟨nQ,r2,p2,_⟩:=I.tuple hb;obtain⟨⟨cls,dd,data,sl⟩,ho,hc,n,hd⟩:=id p1;obtain⟨⟨Et,tV,data2,w5⟩,yC,w6,n2,hd2⟩:=id p2;simp only at hc hd w6 hd2;subst hc hd w6 hd2;have hi:bo=[]:=r1.nil_iff.mpr hx;exact concat_meets ⟨_,ho,rfl⟩ ⟨_,yC,rfl⟩ noFill_tuple_add seq_tuple_add RW RS (RF _ _) (tuple_addW0 a b bo.toArray nQ.toArray n n2 dd tV sl w5 (by simp[hi])) ⟨ho,yC,⟨.ref b,H,I,rfl,q0 hx⟩⟩
 .exact Dw pins s σ H _ _ v u Q I rx ry ⟨a,b,xs,ys,rfl,rfl,ha,hb,hx,hz,q1 hx,q2 hx⟩
def xV:D->D->TN
 | .tup xs,.tup ys=>if xs.length+ys.length<=16000000 then some (.tup (xs++ys))else none
 | _,_=>none
theorem av.nil_iff{K:Fg}{H:Hp}{ds:TM}{vs:TQ}(h:av K H ds vs):vs=[]↔ds=[]:=by
 have:=h.len;cases ds<;>cases vs<;>simp at this ⊢
theorem Gy{K:Fg}:cQ K .cl xV (EL K):=λ{Z H x y dx dy d Q} s h1 h2 e kq=>by
 cases dx<;>try cases e
 all_goals (cases dy<;>try cases e)
 rename_i xs ys;obtain⟨hl,rfl⟩:=rj e;rcases h1 with h1 | ⟨_,_,_,_,e1,_⟩ | ⟨_,_,_,e1,_⟩ | ⟨_,_,_,_,_,e1,_⟩
 .rcases h2 with h2 | ⟨_,_,_,_,e1,_⟩ | ⟨_,_,_,e1,_⟩ | ⟨_,_,_,_,_,e1,_⟩
  .obtain⟨a,vs,rfl,q1,r1⟩:=id h1;obtain⟨b,us,rfl,q2,r2⟩:=id h2;refine⟨a,b,vs,us,rfl,rfl,fL s q1,fL s q2,by rw[<- r1.len,<- r2.len,P6];lia,λz=>?_,λz1 z=>?_,λz1 z2 p hp=>?_⟩
   .have hx:=r1.nil_iff.mp z;subst hx;exact kq _ Z H (Ex.refl s) h2
   .have hy:=r2.nil_iff.mp z;subst hy;rw[P9]at kq;exact kq _ Z H (Ex.refl s) h1
   .have s1:aE Z (upd Z p (.tup (vs++us))):=cw (s.free hp);exact kq _ _ _ (Ex.new s hp) ⟨p,_,rfl,cX.of aw,av.mono s1 _ (r1.app r2)⟩
  .cases e1
  .cases e1
  .cases e1
 .cases e1
 .cases e1
 .cases e1
theorem AR(ha:PD X ga l fa)(hb:PD X gb r fb):PD X .cl (.BinOp l .Add r pos) (au xV fa fb):=rV B1 Gy ha hb
end
def F':Key->Key->Option Bool
 | .inl a,.inl b=>some (decide (a<b))
 | .inr a,.inr b=>some (decide (a.cps.toList<b.cps.toList))
 | _,_=>none
def eB:TH->TH->Option Bool
 | [],[]=>some false
 | [],_::_=>some true
 | _::_,[]=>some false
 | x::xs,y::ys=>if x=y then eB xs ys else F' x y
inductive cc:List Value->List Key->Prop
 | nil:cc [] []
 | int (n:Int) (t:Tok) {vs ks}:cc vs ks->cc (.int n t::vs) (.inl n::ks)
 | str (x:Str) (t:Tok) {vs ks}:cc vs ks->cc (.str x t::vs) (.inr x::ks)
theorem cc.length:∀{vs:S9}{ks:TH},cc vs ks->vs.length=ks.length
 | _,_,.nil=>rfl
 | _,_,.int _ _ h=>by simp[cc.length h]
 | _,_,.str _ _ h=>by simp[cc.length h]
theorem cc.of:∀{ks:TH}{us:S9},aC (ks.map kV) us->cc us ks
 | [],_,r=>by rw[List.map_nil]at r;cases r;exact .nil
 | .inl n::ks,_,r=>by
  rw[N_]at r;cases r with
  | cons h t=>obtain⟨tk,rfl⟩:=(show ∃t,_=Value.int n t from h);exact .int n tk (cc.of t)
 | .inr x::ks,_,r=>by
  rw[N_]at r;cases r with
  | cons h t=>obtain⟨tk,rfl⟩:=(show ∃t,_=Value.str x t from h);exact .str x tk (cc.of t)
theorem ze(A:Tq)(s:To)(a:Str)(t:Tok)(c:Str)(u:Tok)(prog:Tp)(w:Ts)(E:S2)(Q:S2)(h:Q (.bool (decide (a.cps.toList<c.cps.toList))) s) :
  wpAny (model prog w) A (richCompare .Lt (.str a t) (.str c u)) Q E s:=
 (PyProof.Rows.lt_str h:wpAny (model prog w) A (compareOp .Lt (.str a t) (.str c u)) Q E s)
section
open PySem.SeqAt
open PySem.AutoSeq1 (wpAny_loadPart')
open PySem.MeetsSeq PySem.MeetsSeq2 PySem.MeetsSeq3
theorem Dd(hv:cc (y::vs) ns)(hw:cc (x::ws) ms):∃a c kQ nS,ns=a::kQ/\ms=c::nS/\cc vs kQ/\cc ws nS/\
  ∀(A:Tq)(s:To)(q:Bool),(if a=c then eB kQ nS else F' a c)=some q->∃e,SeqAt.EqAt A s y x e/\(e=true↔a=c)/\(e=false->∀(prog:Tp)(w:Ts)(E:S2)(Q:S2),Q (.bool q) s->wpAny (model prog w) A (richCompare .Lt y x) Q E s):=by
 cases hv with
 | int n t tY=>
  cases hw with
  | int m u vD=>
   refine⟨_,_,_,_,rfl,rfl,tY,vD,λA s q hq=>⟨(n==m),SeqAt.EqAt.int_int n t m u,by simp,λhe=>?_⟩⟩;have hne:n≠m:=by simpa using he
   rw[j_ (λz=>hne (Sum.inl.inj z))]at hq;cases hq;exact λprog w E Q h=>HT.zO A s n t m u prog w E Q h
  | str y u vD=>
   refine⟨_,_,_,_,rfl,rfl,tY,vD,λA s q hq=>?_⟩;rw[j_ (λz=>nomatch z)]at hq;cases hq
 | str a t tY=>
  cases hw with
  | int m u vD=>
   refine⟨_,_,_,_,rfl,rfl,tY,vD,λA s q hq=>?_⟩;rw[j_ (λz=>nomatch z)]at hq;cases hq
  | str b u vD=>
   refine⟨_,_,_,_,rfl,rfl,tY,vD,λA s q hq=>⟨(a==b),SeqAt.EqAt.str_str a t b u,by simp,λhe=>?_⟩⟩;have hne:a≠b:=by simpa using he
   rw[j_ (λz=>hne (Sum.inr.inj z))]at hq;cases hq;exact λprog w E Q h=>ze A s a t b u prog w E Q h
theorem nE(l b:Tv)(items items2:Array Tn)(n n2:Nat)(dd tV:Ta)(sl w5:S4)(ns ms:TH)(q:Bool)(hi:cc items.toList ns)(hj:cc items2.toList ms)(hq:eB ns ms=some q) :
  Meets (Builtin.«tuple.__lt__» ⟨[.ref l,.ref b],[]⟩)
   (λ_ R s=>s.heap.get? l=some {cls:=.type "tuple",dict:=dd,data:=.seq items n,slots:=sl}/\s.heap.get? b=some {cls:=.type "tuple",dict:=tV,data:=.seq items2 n2,slots:=w5}/\R (.ok (.ret (.bool q))) s):=
 .of_wp λprog w A R s h=>by
  obtain⟨hp,g,d,tk,os⟩:=s;obtain⟨hl,hb,h⟩:=h;have f2:=AutoSeq1.sub_tuple_tuple;have z1:items.size=ns.length:=by rw[<- hi.length];simp
  have z2:items2.size=ms.length:=by rw[<- hj.length];simp
  wp_walk using Se hl,Se hb,wpAny_forIn_list _ (λrest b s'=>b.1=none/\s'=⟨hp,g,d,tk,os⟩/\∃(vs ws:S9)(kQ nS:TH),rest=vs.zip ws/\
   cc vs kQ/\cc ws nS/\kQ.length+items2.size=nS.length+items.size/\eB kQ nS=some q) _
  case turn=>
   rintro⟨y,x⟩ rest b s' ⟨hb',rfl,vs,ws,kQ,nS,hz,HW,Lb,hlen,hR⟩;cases vs with
   | nil=>rw[List.zip_nil_left]at hz;cases hz
   | cons v vs=>
    cases ws with
    | nil=>rw[List.zip_nil_right]at hz;cases hz
    | cons w' ws=>
     rw[RP]at hz
     injection hz with Nx hrest
     injection Nx with hy hx
     subst hy hx;obtain⟨a,c,Lc,HX,rfl,rfl,Ny,Nz,ask⟩:=Dd HW Lb;have HY:(if a=c then eB Lc HX else F' a c)=some q:=hR;obtain⟨e,he,hiff,kZ⟩:=ask A.in1 ⟨hp,g,d,tk,os⟩ q HY;simp only[z_]at hlen;refine b_ (he prog w _ _ ?_);cases e with
     | true=>
      rw[g_ (hiff.mp rfl)]at HY
      wp_walk
      exact⟨rfl,rfl,_,_,_,_,hrest,Ny,Nz,by lia,HY⟩
     | false=>
      have hri:=kZ rfl prog w
      wp_walk using hri
      exact⟨_,rfl,by simpa using h⟩
  case fin=>
   rintro⟨b1,b2⟩ s' ⟨hb',rfl,vs,ws,kQ,nS,hz,HW,Lb,hlen,hR⟩;simp only at hb';subst hb';have l1:=HW.length;have l2:=Lb.length;have hv:q=decide (items.size<items2.size):=by
    cases kQ with
    | nil=>
     cases nS with
     | nil=>
      simp only[L_]at hlen;cases hR;exact(B_ (by lia)).symm
     | cons c HX=>
      simp only[L_,z_]at hlen;cases hR;exact(t_ (by lia)).symm
    | cons a Lc=>
     cases nS with
     | nil=>
      simp only[L_,z_]at hlen;cases hR;exact(B_ (by lia)).symm
     | cons c HX=>
      cases vs with
      | nil=>simp at l1
      | cons v vs=>
       cases ws with
       | nil=>simp at l2
       | cons w' ws=>rw[RP]at hz;cases hz
   rw[hv]at h
   wp_walk
   exact⟨_,rfl,by simpa [Builtin.Tuple.tupleCompareSizes]using h⟩
  case h=>
   exact⟨rfl,rfl,items.toList,items2.toList,ns,ms,rfl,hi,hj,by lia,hq⟩
end
section
variable {X:Cx}{l r:Tz}{fa fb:Fe}{ga gb:Gr}{pos p:Pos}{k:Nat}
def IX(K:Fg):R2:=λx y H Q=>∃a b ns ms q,x=.ref a/\y=.ref b/\cX K H a (ns.map kV)/\cX K H b (ms.map kV)/\eB ns ms=some q/\Q (.bl q) H
theorem F5(hu:X.A.units<cLine):iy X (compareOp .Lt) (IX X.K):=by
 intro pins s σ H x y v u Q I rx ry h;obtain⟨a,b,ns,ms,c,rfl,rfl,ha,hb,hc,q⟩:=h;cases rx;cases ry;obtain⟨bo,r1,p1,_⟩:=I.tuple ha;obtain⟨nQ,r2,p2,_⟩:=I.tuple hb;obtain⟨⟨cls,dd,data,sl⟩,ho,jK,n,hd⟩:=id p1;obtain⟨⟨Et,tV,data2,w5⟩,yC,w6,n2,hd2⟩:=id p2;simp only at jK hd w6 hd2;subst jK hd w6 hd2;exact richCompare_meets_room (op:=.Lt) ⟨_,ho,rfl⟩ ⟨_,yC,rfl⟩ PySem.F.slot_tuple_lt PySem.F.entry_tuple_lt (PySem.F.args_tuple_lt_2 _ _) (nE a b bo.toArray nQ.toArray n n2 dd tV sl w5 ns ms c (by simpa using cc.of r1) (by simpa using cc.of r2) hc)
  ⟨ho,yC,show Value.bool c≠Value.notImplemented/\EP X pins σ Q (.bool c) s from⟨(λz=>nomatch z),⟨.bl c,H,I,rfl,q⟩⟩⟩ hu
def mE:TM->Option TH
 | []=>some []
 | .int i::r=>(mE r).bind λks=>some (.inl i::ks)
 | .str x::r=>(mE r).bind λks=>some (.inr x::ks)
 | _=>none
theorem d5{K:Fg}{H:Hp}:∀{ds:TM}{ks:TH}{vs:TQ},mE ds=some ks->av K H ds vs->vs=ks.map kV
 | [],ks,vs,h,r=>by cases h;exact r
 | d::ds,ks,vs,h,r=>by
  obtain⟨v,rr,e,h1,h2⟩:=r;subst e;cases d<;>try cases h
  .obtain⟨tW,e1,e2⟩:=a_.mp h;cases e2;cases(show v=_ from h1);rw[d5 e1 h2];rfl
  .obtain⟨tW,e1,e2⟩:=a_.mp h;cases e2;cases(show v=_ from h1.1);rw[d5 e1 h2];rfl
def JH:D->D->TN
 | .tup xs,.tup ys=>(mE xs).bind λns=>(mE ys).bind λms=>(eB ns ms).bind λq=>some (.bl q)
 | _,_=>none
theorem Ky{K:Fg}:cQ K .cl JH (IX K):=λ{Z H x y dx dy d Q} s h1 h2 e kq=>by
 cases dx<;>try cases e
 all_goals (cases dy<;>try cases e)
 obtain⟨ns,e1,e⟩:=a_.mp e;obtain⟨ms,e2,e⟩:=a_.mp e;obtain⟨q,e3,e⟩:=a_.mp e;cases e;obtain⟨a,vs,rfl,q1,r1⟩:=h1.tup s;obtain⟨b,us,rfl,q2,r2⟩:=h2.tup s;cases d5 e1 r1;cases d5 e2 r2;exact⟨a,b,ns,ms,q,rfl,rfl,q1,q2,e3,kq _ Z H (Ex.refl s) rfl⟩
theorem JU(hr:bG k X.A)(ha:PD X ga l fa)(hb:PD X gb r fb):PD X .cl (.Compare l [.Lt] [r] pos) (au JH fa fb):=oV (F5 (by have:=hr.un;lia)) Ky ha hb (eg _)
end
end Mi
namespace Mi
open PySem PySem.Spec PyProof.Rows L2
abbrev j9(h:Tr)(z TI TO:Tv)(f0:Tn)(b:Bool):Prop:=
 h.get? z=some {cls:=.type "zip",dict:=none,data:=.fields #[f0,.bool b,.bool false,.ref TI,.ref TO],slots:=#[]}
theorem kN(h:Q (s.heap.get? a) s):wpAny M A (loadIfAlive a) Q E s:=λΓ p _=>by
 show Sem.wp M Γ (.loadIfAlive a .pure) _ _ p s;rw[Sem.wp_loadIfAlive];exact h
section
variable {prog:Tp}{w:Ts}{A:Tq}{E:S2}{s:To}{z TI TO i1 i2 l1 l2 T:Tv}{k1 k2:Nat}{xs ys:S9}{x y:Tn}{oT:Obj}{bz:Bool}
theorem yI{h h':Tr}{i l:Tv}{k:Nat}(q:h.IsListIter i l k)(e:∀o,h.get? i=some o->h'.get? i=some o):h'.IsListIter i l k:=q.at e
theorem Dg{h h':Tr}{l:Tv}{xs:Array Tn}(q:h.IsList l xs)(e:∀o,h.get? l=some o->h'.get? l=some o):h'.IsList l xs:=q.at e
theorem Mx{i l:Tv}{k:Nat}{Q:S2}(h1:s.heap.IsListIter i l k)(h2:s.heap.IsList l xs.toArray)(h3:xs[k]?=some x)(h4:∀h':Tr,h'.IsListIter i l (k+1)->Heap.SameBut i s.heap h'->Q x {s with heap:=h'}):wpAny (model prog w) A (Builtin.SmallTypes.nextOf (.ref i)) Q E s:=wpAny_nextOf_list_item h1 h2 (by simpa using h3) h4
theorem Oz{i l:Tv}{k:Nat}{Q:S2}(hh:A.handled=none)(h1:s.heap.IsListIter i l k)(h2:s.heap.IsList l xs.toArray)(h3:xs[k]?=none)(h4:∀(h':Tr) e,Heap.ExtBut i s.heap h'->(∃o,h'.get? e=some o/\o.cls=.type "StopIteration")->E (.ref e) {s with heap:=h'}):wpAny (model prog w) A (Builtin.SmallTypes.nextOf (.ref i)) Q E s:=wpAny_nextOf_list_end hh h1 h2 (by simpa using h3) h4
theorem xR{Q:S2}(D:ZipApart z TI TO i1 i2 l1 l2)(hz:j9 s.heap z TI TO (rawInt T) bz)(hT:s.heap.get? T=some oT)(tZ:IsPair s.heap TI (.ref i1) (.ref i2))
  (h1:s.heap.IsListIter i1 l1 k1) (h2:s.heap.IsListIter i2 l2 k2) (a1:s.heap.IsList l1 xs.toArray) (a2:s.heap.IsList l2 ys.toArray) (hx:xs[k1]?=some x) (hy:ys[k2]?=some y)
  (hQ:∀(g:Tr),j9 g z TI TO (rawInt T) true->g.IsListIter i1 l1 (k1+1)->g.IsListIter i2 l2 (k2+1)->g.objs.size=s.heap.objs.size->(∀c o,c≠z->c≠i1->c≠i2->s.heap.get? c=some o->g.get? c=some o)->
   Q (.ref s.heap.objs.size) {s with heap:=g.push {cls:=.type "tuple",data:=.seq #[x,y]}}) :
  wpAny (model prog w) A (Builtin.«zip.__next__» ⟨[.ref z],[]⟩) (λf s'=>∃v,f=.done (.ret v)/\Q v s') E s:=by
 refine(show wpAny _ _ (field (.ref z) 2 >>= _) _ _ _ from b_ (P1 hz rfl (x:=.bool false) rfl ?_));refine(show wpAny _ _ (field (.ref z) 3 >>= _) _ _ _ from b_ (P1 hz rfl (x:=.ref TI) rfl (b_ (Sr tZ rfl ?_))));refine(show wpAny _ _ (Builtin.SmallTypes.ownedTupleIsFree (.ref z) >>= _) _ _ _ from b_ ?_);unfold Builtin.SmallTypes.ownedTupleIsFree;refine b_ (P1 hz rfl (x:=rawInt T) rfl ?_);refine(show wpAny _ _ (loadIfAlive ((T:Int).toNat) >>= _) _ _ _ from b_ (kN ?_));rw[QH,hT];simp only[Option.isNone_some,P5,QV];refine b_ (P1 hz rfl (x:=.bool bz) rfl ?_);refine bx (Q:=λa s1=>a=false/\∃g0:Tr,s1={s with heap:=g0}/\j9 g0 z TI TO (rawInt T) true/\(∀c o,c≠z->s.heap.get? c=some o->g0.get? c=some o)/\g0.objs.size=s.heap.objs.size) ?_ λa s1 h0=>?_
 .cases bz with
  | true=>exact o_ ⟨rfl,s.heap,rfl,hz,λ_ _ _ e=>e,rfl⟩
  | false=>exact b_ (QB hz (by simp) λg0 z0 s0=>o_ ⟨rfl,g0,rfl,z0,λc o c1 e=>s0.extBut c o c1 e,s0.1⟩)
 obtain⟨rfl,g0,rfl,z0,k0,O0⟩:=h0;simp only[P5,QV];rw[<- Array.forIn_toList];simp only[SY,List.forIn_nil];refine b_ (b_ (b_ (K_ (show wpAny _ _ (Builtin.SmallTypes.nextOf (.ref i1) >>= _) _ _ _ from ?_))));refine b_ (Mx (yI h1 λo e=>k0 _ o D.i1z e) (Dg a1 λo e=>k0 _ o D.l1z e) hx λg1 it1' s1=>o_ ?_)
 replace s1:Heap.SameBut i1 g0 g1:=s1
 refine o_ (b_ (b_ (K_ (show wpAny _ _ (Builtin.SmallTypes.nextOf (.ref i2) >>= _) _ _ _ from ?_))));refine b_ (Mx (yI (yI h2 λo e=>k0 _ o D.i2z e) (As s1.extBut D.i12.symm)) (Dg (Dg a2 λo e=>k0 _ o D.l2z e) (As s1.extBut D.l2i1)) hy λg2 it2' s2=>o_ ?_)
 replace s2:Heap.SameBut i2 g1 g2:=s2
 refine o_ (o_ ?_);refine b_ (wpAny_newTuple (o_ ⟨_,rfl,?_⟩) (show(2:Nat)<=sizeLine by decide));have sz:g2.objs.size=s.heap.objs.size:=by rw[s2.1,s1.1,O0]
 show Q (.ref g2.objs.size) _;rw[sz];exact hQ g2 (s2.extBut _ _ D.i2z.symm (s1.extBut _ _ D.i1z.symm z0)) (yI it1' (As s2.extBut D.i12)) it2' sz λc o c1 c2 c3 e=>s2.extBut _ _ c3 (s1.extBut _ _ c2 (k0 c o c1 e))
theorem qw(hh:A.handled=none)(D:ZipApart z TI TO i1 i2 l1 l2)(hz:j9 s.heap z TI TO (rawInt T) bz)(hT:s.heap.get? T=some oT)(tZ:IsPair s.heap TI (.ref i1) (.ref i2))
  (h1:s.heap.IsListIter i1 l1 k1) (h2:s.heap.IsListIter i2 l2 k2) (a1:s.heap.IsList l1 xs.toArray) (a2:s.heap.IsList l2 ys.toArray) (ED:xs[k1]?=none\/ys[k2]?=none)
  (hE:∀h' e,(∀c o,c≠z->c≠i1->c≠i2->s.heap.get? c=some o->h'.get? c=some o)->(∃o,h'.get? e=some o/\o.cls=.type "StopIteration")->E (.ref e) {s with heap:=h'}) :
  wpAny (model prog w) A (Builtin.«zip.__next__» ⟨[.ref z],[]⟩) Q E s:=by
 refine(show wpAny _ _ (field (.ref z) 2 >>= _) _ _ _ from b_ (P1 hz rfl (x:=.bool false) rfl ?_));refine(show wpAny _ _ (field (.ref z) 3 >>= _) _ _ _ from b_ (P1 hz rfl (x:=.ref TI) rfl (b_ (Sr tZ rfl ?_))));refine(show wpAny _ _ (Builtin.SmallTypes.ownedTupleIsFree (.ref z) >>= _) _ _ _ from b_ ?_);unfold Builtin.SmallTypes.ownedTupleIsFree;refine b_ (P1 hz rfl (x:=rawInt T) rfl ?_);refine(show wpAny _ _ (loadIfAlive ((T:Int).toNat) >>= _) _ _ _ from b_ (kN ?_));rw[QH,hT];simp only[Option.isNone_some,P5,QV];refine b_ (P1 hz rfl (x:=.bool bz) rfl ?_);refine bx (Q:=λa s1=>a=false/\∃g0:Tr,s1={s with heap:=g0}/\j9 g0 z TI TO (rawInt T) true/\(∀c o,c≠z->s.heap.get? c=some o->g0.get? c=some o)/\g0.objs.size=s.heap.objs.size) ?_ λa s1 h0=>?_
 .cases bz with
  | true=>exact o_ ⟨rfl,s.heap,rfl,hz,λ_ _ _ e=>e,rfl⟩
  | false=>exact b_ (QB hz (by simp) λg0 z0 s0=>o_ ⟨rfl,g0,rfl,z0,λc o c1 e=>s0.extBut c o c1 e,s0.1⟩)
 obtain⟨rfl,g0,rfl,z0,k0,O0⟩:=h0;simp only[P5,QV];rw[<- Array.forIn_toList];simp only[SY,List.forIn_nil];refine b_ (b_ (b_ (K_ (show wpAny _ _ (Builtin.SmallTypes.nextOf (.ref i1) >>= _) _ _ _ from ?_))));cases hx:xs[k1]? with
 | none=>exact b_ (Oz hh (yI h1 λo e=>k0 _ o D.i1z e) (Dg a1 λo e=>k0 _ o D.l1z e) hx λg1 e s1 he=>hE g1 e (λc o c1 c2 c3 q=>s1 _ _ c2 (k0 c o c1 q)) he)
 | some x=>
  have hy:ys[k2]?=none:=by
   rcases ED with h | h
   .rw[hx]at h;cases h
   .exact h
  refine b_ (Mx (yI h1 λo e=>k0 _ o D.i1z e) (Dg a1 λo e=>k0 _ o D.l1z e) hx λg1 it1' s1=>o_ ?_)
  replace s1:Heap.SameBut i1 g0 g1:=s1
  refine o_ (b_ (b_ (K_ (show wpAny _ _ (Builtin.SmallTypes.nextOf (.ref i2) >>= _) _ _ _ from ?_))));exact b_ (Oz hh (yI (yI h2 λo e=>k0 _ o D.i2z e) (As s1.extBut D.i12.symm)) (Dg (Dg a2 λo e=>k0 _ o D.l2z e) (As s1.extBut D.l2i1)) hy λg2 e s2 he=>hE g2 e (λc o c1 c2 c3 q=>s2 _ _ c3 (s1.extBut _ _ c2 (k0 c o c1 q))) he)
def wW(z TI TO:Tv)(base:Nat):Nat->Tr->Prop
 | 0,h=>IsZip h z TI TO .none/\∃a b,IsPair h TO a b
 | _+1,h=>∃b,j9 h z TI TO (rawInt (base:Int)) b
theorem F.zip_no_len:typeLookup (.type "zip") "__len__"=pure none:=by rw[typeLookup_type,builtinLookup_eq_fast];kernel_rfl
theorem F.zip_no_hint:typeLookup (.type "zip") "__length_hint__"=pure none:=by rw[typeLookup_type,builtinLookup_eq_fast];kernel_rfl
theorem sM(hh:A.handled=none)(D:ZipApart z TI TO i1 i2 l1 l2)(EE:wW z TI TO base k s.heap)(fN:∀j,j<k->∃o,s.heap.get? (base+j)=some o)(tZ:IsPair s.heap TI (.ref i1) (.ref i2))
  (h1:s.heap.IsListIter i1 l1 k) (h2:s.heap.IsListIter i2 l2 k) (a1:s.heap.IsList l1 xs.toArray) (a2:s.heap.IsList l2 ys.toArray) (ED:xs[k]?=none\/ys[k]?=none)
  (hQ:∀h',(∀c o,c≠z->c≠TO->c≠i1->c≠i2->s.heap.get? c=some o->h'.get? c=some o)->Q none {s with heap:=h'}):wpAny (model prog w) A (pyNext (.ref z)) Q E s:=by
 cases k with
 | zero=>
  obtain⟨hz,a,b,Iv⟩:=EE;exact wpAny_pyNext_zip_end hh D hz tZ Iv h1 h2 a1 a2 (by simpa using ED) hQ
 | succ k=>
  obtain⟨b,hz⟩:=EE;obtain⟨oT,hT⟩:=fN 0 (Nat.succ_pos _);have Ld:s.TypeIs (.ref z) "zip":=⟨_,hz,rfl⟩;unfold pyNext;refine b_ (Sa (QD (name:="__next__") Ld Sf (QZ Sf Ld F.entry_zip_next (qw (T:=base) hh D hz hT tZ h1 h2 a1 a2 ED λh' e hk he=>?_) (F.args_zip_next_1 _))));obtain⟨o,ho,hc⟩:=he;exact b_ (wpAny_isInstance (T:="StopIteration") (b:=true) ⟨o,ho,hc⟩ isSubtype_stop (o_ (hQ _ λc o c1 _ c3 c4 q=>hk c o c1 c3 c4 q)))
theorem pK(D:ZipApart z TI TO i1 i2 l1 l2)(hsz:s.heap.objs.size=base+k)(EE:wW z TI TO base k s.heap)(fN:∀j,j<k->∃o,s.heap.get? (base+j)=some o)(tZ:IsPair s.heap TI (.ref i1) (.ref i2))
  (h1:s.heap.IsListIter i1 l1 k) (h2:s.heap.IsListIter i2 l2 k) (a1:s.heap.IsList l1 xs.toArray) (a2:s.heap.IsList l2 ys.toArray) (hx:xs[k]?=some x) (hy:ys[k]?=some y)
  (hQ:∀h',wW z TI TO base (k+1) h'->h'.IsListIter i1 l1 (k+1)->h'.IsListIter i2 l2 (k+1)->IsPair h' (base+k) x y->h'.objs.size=base+(k+1)->(∀c o,c≠z->c≠TO->c≠i1->c≠i2->s.heap.get? c=some o->h'.get? c=some o)->Q (some (.ref (base+k))) {s with heap:=h'}):wpAny (model prog w) A (pyNext (.ref z)) Q E s:=by
 cases k with
 | zero=>
  obtain⟨hz,a,b,Iv⟩:=EE;have hTz:z<s.heap.objs.size:=k_ hz;refine wpAny_pyNext_zip_item D hz tZ Iv h1 h2 a1 a2 (by simpa using hx) (by simpa using hy) λh' b1 b2 b3 b4 b5 b6 b7=>?_;rw[hsz]at b1 b5 b6 ⊢;exact hQ h' ⟨false,b1⟩ b3 b4 b5 b6 b7
 | succ k=>
  obtain⟨b,hz⟩:=EE;obtain⟨oT,hT⟩:=fN 0 (Nat.succ_pos _);have Ld:s.TypeIs (.ref z) "zip":=⟨_,hz,rfl⟩;unfold pyNext;refine b_ (Sa (QD (name:="__next__") Ld Sf (QZ Sf Ld F.entry_zip_next (xR (T:=base) D hz hT tZ h1 h2 a1 a2 hx hy λg b1 b2 b3 b4 b5=>o_ ?_) (F.args_zip_next_1 _))));have hg:(g.push {cls:=.type "tuple",data:=.seq #[x,y]}).get? (base+(k+1))=some {cls:=.type "tuple",data:=.seq #[x,y]}:=by rw[<- hsz,<- b4];exact s_ _ rfl
  rw[hsz];exact hQ _ ⟨true,d_ _ b1⟩ (yI b2 λo q=>d_ _ q) (yI b3 λo q=>d_ _ q) hg (by rw[Qq,b4,hsz];rfl) λc o c1 _ c3 c4 q=>d_ _ (b5 c o c1 c3 c4 q)
theorem AO(hh:A.handled=none)(D:ZipApart z TI TO i1 i2 l1 l2)(hS:S≠z/\S≠TI/\S≠TO/\S≠i1/\S≠i2/\S≠l1/\S≠l2)(base:Nat)(hb:z<base/\TI<base/\TO<base/\i1<base/\i2<base/\S<base)(hn:xs.length<=1000000) :
  ∀(m k:Nat)(s:To)(c:Nat),min xs.length ys.length-k=m->k<=min xs.length ys.length->s.heap.objs.size=base+k->wW z TI TO base k s.heap->IsPair s.heap TI (.ref i1) (.ref i2)->s.heap.IsListIter i1 l1 k->s.heap.IsListIter i2 l2 k->s.heap.IsList l1 xs.toArray->s.heap.IsList l2 ys.toArray->
   (∀j x y,j<k->xs[j]?=some x->ys[j]?=some y->IsPair s.heap (base+j) x y)->s.heap.get? S=some {cls:=.type "list",dict:=none,data:=.seq ((List.range k).map λj=>Value.ref (base+j)).toArray c,slots:=#[]}->
   (∀h' c',(∀b o,b<base->b≠S->b≠z->b≠TO->b≠i1->b≠i2->s.heap.get? b=some o->h'.get? b=some o)->(∀j x y,j<min xs.length ys.length->xs[j]?=some x->ys[j]?=some y->IsPair h' (base+j) x y)->
    h'.get? S=some {cls:=.type "list",dict:=none,data:=.seq ((List.range (min xs.length ys.length)).map λj=>Value.ref (base+j)).toArray c',slots:=#[]}->R (.ok (.ret res)) {s with heap:=h'})->
   codeAny (model prog w) A (.builtin "list.extend.loop" ⟨[.ref S,.ref z,res],[]⟩) R s:=by
 intro m
 induction m with
 | zero=>
  intro k s c hk hle hsz EE tZ h1 h2 a1 a2 made hSl hR;have hkn:k=min xs.length ys.length:=by lia
  have fN:∀j,j<k->∃o,s.heap.get? (base+j)=some o:=λj hj=>by
   have e1:j<xs.length:=by lia
   have e2:j<ys.length:=by lia
   exact⟨_,made j _ _ hj (i_ e1) (i_ e2)⟩
  refine Sd F.entry_extend_loop ?_;rw[Around.under_plainId RE _];refine(show wpAny _ A.in1 (pyNext (.ref z) >>= _) _ _ s from b_ (sM (A:=A.in1) hh D EE fN tZ h1 h2 a1 a2 (by rcases Nat.le_total xs.length ys.length with h | h;exact .inl (A_ (by lia));exact .inr (A_ (by lia))) λh' kk=>o_ ?_));subst hkn;refine hR h' c (λb o _ b1 b2 b3 b4 b5 q=>kk b o b2 b3 b4 b5 q) (λj x y hj hx hy=>?_) ?_
  .have yG:base<=base+j:=P7 _ _;exact kk _ _ (P2 (n_ hb.1 yG)) (P2 (n_ hb.2.2.1 yG)) (P2 (n_ hb.2.2.2.1 yG)) (P2 (n_ hb.2.2.2.2.1 yG)) (made j x y hj hx hy)
  .exact kk _ _ hS.1 hS.2.2.1 hS.2.2.2.1 hS.2.2.2.2.1 hSl
 | succ m ih=>
  intro k s c hk hle hsz EE tZ h1 h2 a1 a2 made hSl hR;have kZ:k<min xs.length ys.length:=by lia
  have e1:k<xs.length:=by lia
  have e2:k<ys.length:=by lia
  have fN:∀j,j<k->∃o,s.heap.get? (base+j)=some o:=λj hj=>⟨_,made j _ _ hj (i_ (by lia)) (i_ (by lia))⟩;refine Sd F.entry_extend_loop ?_;rw[Around.under_plainId RE _];refine(show wpAny _ A.in1 (pyNext (.ref z) >>= _) _ _ s from b_ (pK (A:=A.in1) D hsz EE fN tZ h1 h2 a1 a2 (i_ e1) (i_ e2) λh' n1 n2 n3 n4 n5 kk=>?_));have big:∀j,z≠base+j/\TO≠base+j/\i1≠base+j/\i2≠base+j/\S≠base+j:=λj=>by
   have yG:base<=base+j:=P7 _ _;exact⟨x_ (n_ hb.1 yG),x_ (n_ hb.2.2.1 yG),x_ (n_ hb.2.2.2.1 yG),x_ (n_ hb.2.2.2.2.1 yG),x_ (n_ hb.2.2.2.2.2 yG)⟩
  have hS1:=kk S _ hS.1 hS.2.2.1 hS.2.2.2.1 hS.2.2.2.2.1 hSl;have hsn:=P6;refine(show wpAny _ A.in1 (updateSeq S (·.push (.ref (base+k))) >>= _) _ _ _ from b_ (wpAny_updateSeq hS1 rfl (o_ ⟨plainId_quiet RE _,?_⟩) (by simp;lia) (by simp;lia)));have NA:∃c2,(h'.update S (Obj.mapSeq (·.push (Value.ref (base+k))))).get? S=some {cls:=.type "list",dict:=none,data:=.seq ((List.range (k+1)).map λj=>Value.ref (base+j)).toArray c2,slots:=#[]}:=by
   have q:=RM (c:="list") hS1 (·.push (Value.ref (base+k)));rw[List.push_toArray,show((List.range k).map λj=>Value.ref (base+j))++[Value.ref (base+k)]=(List.range (k+1)).map λj=>Value.ref (base+j) by rw[List.range_succ,P_];rfl]at q;exact⟨_,q⟩
  obtain⟨c2,NA⟩:=NA;have oth:∀b o,b≠S->h'.get? b=some o->(h'.update S (Obj.mapSeq (·.push (Value.ref (base+k))))).get? b=some o:=λb o hb' q=>(D_ _ _ (Qo hb')).trans q;refine ih (k+1) _ c2 (by lia) (by lia) (by rw[RA];exact n5) ?_ (oth _ _ hS.2.1.symm (kk _ _ D.TIz D.TITO D.TIi1 D.TIi2 tZ)) (yI n2 λo q=>oth _ o hS.2.2.2.1.symm q) (yI n3 λo q=>oth _ o hS.2.2.2.2.1.symm q)
   (Dg a1 λo q=>oth _ o hS.2.2.2.2.2.1.symm (kk _ o D.l1z D.l1TO D.l1i1 D.l1i2 q)) (Dg a2 λo q=>oth _ o hS.2.2.2.2.2.2.symm (kk _ o D.l2z D.l2TO D.l2i1 D.l2i2 q)) (λj x y hj hx hy=>?_) NA λh'' c' keep made' hS''=>?_
  .obtain⟨b,q⟩:=n1;exact⟨b,oth _ _ hS.1.symm q⟩
  .by_cases hjk:j=k
   .subst hjk;rw[i_ e1]at hx;cases hx;rw[i_ e2]at hy;cases hy;exact oth _ _ (big j).2.2.2.2.symm n4
   .exact oth _ _ (big j).2.2.2.2.symm (kk _ _ (big j).1.symm (big j).2.1.symm (big j).2.2.1.symm (big j).2.2.2.1.symm (made j x y (by lia) hx hy))
  .exact hR h'' c' (λb o q0 q1 q2 q3 q4 q5 q=>keep b o q0 q1 q2 q3 q4 q5 (oth b o q1 (kk b o q2 q3 q4 q5 q))) made' hS''
end
theorem many(I:L2.Inv X pins σ H s)(k:∀b o,s.heap.get? b=some o->h'.get? b=some o)(sm:aE H H')
  (nw:∀b o,H b=none->H' b=some o->s.heap.objs.size<=b/\bO X.prog X.w H' h' b o):L2.Inv X pins σ H' {s with heap:=h',toks:=t'}:=by
 refine I.un ⟨λb o q _ _ _=>k b o q,λb o q _ _ _=>⟨o.slots,k b o q⟩,λb o q n _=>?_,λb o q _=>⟨o,k b o q⟩,λb xs q=>sm _ _ q,λb o u q=>sm _ _ q,λb ps q=>⟨#[],by rw[sm _ _ q];simp⟩⟩ λb u e=>?_
 .cases e:H' b with
  | none=>rfl
  | some o'=>exact absurd (n_ (k_ q) (nw b o' n e).1) (QW _)
 .cases e2:H b with
  | none=>exact(nw b u e2 e).2
  | some u'=>
   have:=sm _ _ e2;rw[e]at this;cases this;exact(I.hok b u e2).stay (λc v _ q=>k c v q) (λc q=>sm _ _ q) λc xs q=>sm _ _ q
section
variable {prog:Tp}{w:Ts}{A:Tq}{E:S2}{s:To}{z TI TO i1 i2 l1 l2:Tv}{xs ys:S9}
theorem mX(hh:A.handled=none)(D:ZipApart z TI TO i1 i2 l1 l2)(hz:IsZip s.heap z TI TO .none)(tZ:IsPair s.heap TI (.ref i1) (.ref i2))(Iv:IsPair s.heap TO .none .none)(h1:s.heap.IsListIter i1 l1 0)(h2:s.heap.IsListIter i2 l2 0)(a1:s.heap.IsList l1 xs.toArray)(a2:s.heap.IsList l2 ys.toArray)
  (hn:xs.length<=1000000)
  (hQ:∀h' c',(∀b o,b<s.heap.objs.size->b≠z->b≠TO->b≠i1->b≠i2->s.heap.get? b=some o->h'.get? b=some o)->(∀j x y,j<min xs.length ys.length->xs[j]?=some x->ys[j]?=some y->IsPair h' (s.heap.objs.size+1+j) x y)->
   h'.get? s.heap.objs.size=some {cls:=.type "list",dict:=none,data:=.seq ((List.range (min xs.length ys.length)).map λj=>Value.ref (s.heap.objs.size+1+j)).toArray c',slots:=#[]}->Q (.ref s.heap.objs.size) {s with heap:=h'}) :
  wpAny (model prog w) A (call (.type "list") [.ref z]) Q E s:=by
 have lz:=k_ hz;have lI:=k_ tZ;have lO:=k_ Iv;have NB:i1<s.heap.objs.size:=by obtain⟨_,q,_⟩:=h1;exact k_ q
 have ND:i2<s.heap.objs.size:=by obtain⟨_,q,_⟩:=h2;exact k_ q
 have m1:l1<s.heap.objs.size:=by obtain⟨_,q,_⟩:=a1;exact k_ q
 have m2:l2<s.heap.objs.size:=by obtain⟨_,q,_⟩:=a2;exact k_ q
 refine callType_codes (Q₁:=λobj s₁=>obj=.ref s.heap.objs.size/\s₁={s with heap:=s.heap.push {cls:=.type "list",data:=.seq #[]}}) F.called_list (F.typeCall_list_1 _) F.entry_list_init (code_list_new _ ⟨rfl,rfl⟩) λobj s₁ h₁=>?_;obtain⟨rfl,rfl⟩:=h₁;have hS:(s.heap.push {cls:=.type "list",data:=.seq #[]}).get? s.heap.objs.size=some {cls:=.type "list",data:=.seq #[]}:=s_ _ rfl;refine⟨⟨_,hS,rfl⟩,F.args_list_init_2 _ _,?_⟩;generalize hSS:s.heap.objs.size=S at *;refine(show wpAny _ A.in1.in1 (Builtin.List.listItems (.ref S) >>= λold=>Builtin.List.listUpdate (.ref S) (λ_=>#[]) >>= λ_=>letGo old.toList.reverse >>= λ_=>Builtin.List.listExtendWith (.ref S) (.ref z) .none) _ _ _ from ?_);refine b_ (listItems_at hS rfl (b_ (listUpdate_at hS rfl ?_ (Rv _) (by simp))));have e1:=RM hS (λ_=>(#[]:Array Tn));have o1:∀b o,b≠S->(s.heap.push {cls:=.type "list",data:=.seq #[]}).get? b=some o->((s.heap.push {cls:=.type "list",data:=.seq #[]}).update S (Obj.mapSeq λ_=>(#[]:Array Tn))).get? b=some o:=λb o hb q=>(D_ _ _ (Qo hb)).trans q;refine b_ (wpAny_letGo ?_);generalize hhA:(s.heap.push {cls:=.type "list",data:=.seq #[]}).update S (Obj.mapSeq λ_=>(#[]:Array Tn))=hA at e1 o1;have szA:hA.objs.size=S+1:=by rw[<- hhA,RA,Qq,hSS]
 have old:∀b o,b<S->s.heap.get? b=some o->hA.get? b=some o:=λb o hb q=>o1 b o (x_ hb) (d_ _ q);have zA:IsZip hA z TI TO .none:=old _ _ lz hz;have tA:(⟨hA,s.gens,s.drawn,s.toks,s.os⟩:To).TypeIs (.ref z) "zip":=⟨_,zA,rfl⟩;have O1:S≠z:=P2 lz;show wpAny _ A.in1.in1 (Builtin.List.listExtendWith (.ref S) (.ref z) .none) _ _ ⟨hA,s.gens,s.drawn,s.toks,s.os⟩;unfold Builtin.List.listExtendWith;refine b_ (wpAny_typeOf tA ?_);have q1:Builtin.List.listSameRef (.ref S) (.ref z)=false:=by simp[Builtin.List.listSameRef,O1]
 have q2:(Value.type "zip"==Value.type "list")=false:=by decide
 have q3:(Value.type "zip"==Value.type "tuple")=false:=by decide
 simp only[q1,q2,q3,Bool.or_false,P5,QV];refine b_ (wpAny_pyIter_zip zA (b_ (K_ ?_)));unfold Builtin.List.listLengthHint;refine b_ (RL tA F.zip_no_len ?_);refine(show wpAny _ _ (specialOf (Value.ref z) "__length_hint__" >>= _) _ _ _ from b_ (RL tA F.zip_no_hint (o_ ?_)));refine(show wpAny _ _ (rule "list.extend.makes-room" >>= λ_=>Builtin.List.listTouch (.ref S) >>= λ_=>again (.builtin "list.extend.loop" ⟨[.ref S,.ref z,.none],[]⟩)) _ _ _ from b_ (So (b_ ?_)));refine(show wpAny _ _ (updateSeq S (·.push .none) >>= λ_=>updateSeq S (·.pop)) _ _ _ from b_ (wpAny_updateSeq e1 rfl ?_ (Rv _) (by simp)));have e2:=RM e1 (·.push Value.none);refine wpAny_updateSeq (hz:=(show(1:Nat)<=sizeLine by decide)) e2 rfl ?_ (by simp);have e3:=RM e2 (·.pop);have o3:∀b o,b<S->s.heap.get? b=some o->((hA.update S (Obj.mapSeq (·.push Value.none))).update S (Obj.mapSeq (·.pop))).get? b=some o:=λb o hb q=>(D_ _ _ (P2 hb)).trans ((D_ _ _ (P2 hb)).trans (old b o hb q));have BQ:((hA.update S (Obj.mapSeq (·.push Value.none))).update S (Obj.mapSeq (·.pop))).objs.size=S+1:=by rw[RA,RA,szA]
 generalize (hA.update S (Obj.mapSeq (·.push Value.none))).update S (Obj.mapSeq (·.pop))=hB at e3 o3 BQ;refine o_ ⟨plainId_quiet RE _,?_⟩;have FI:∀{b:Tv},b<S->b<S+1:=λh=>Qx h;refine AO (show A.in1.handled=none from hh) D ⟨O1,P2 lI,P2 lO,P2 NB,P2 ND,P2 m1,P2 m2⟩ (S+1) ⟨FI lz,FI lI,FI lO,FI NB,FI ND,SN _⟩ hn _ 0 ⟨hB,s.gens,s.drawn,s.toks,s.os⟩ 2 rfl (Rv _) BQ ⟨o3 _ _ lz hz,_,_,o3 _ _ lO Iv⟩ (o3 _ _ lI tZ)
  (h1.at λo q=>o3 _ o NB q) (h2.at λo q=>o3 _ o ND q) (a1.at λo q=>o3 _ o m1 q) (a2.at λo q=>o3 _ o m2 q) (λj x y hj=>absurd hj (Nat.not_lt_zero _)) (by simpa using e3) λh' c' keep made hS'=>?_
 exact⟨rfl,hQ h' c' (λb o b0 b1 b2 b3 b4 q=>keep b o (FI b0) (x_ b0) b1 b2 b3 b4 (o3 b o b0 q)) made hS'⟩
end
section
variable {X:Cx}{l r:Tz}{fa fb:Fe}{pos pos2 p p2:Pos}
def et(H:Hp)(base:Nat)(us vs:TQ):Hp:=λb=>if base<=b/\b<base+min us.length vs.length then some (.tup [(us[b-base]?).getD .non,(vs[b-base]?).getD .non])else H b
theorem A2(hu:us[j]?=some u)(hv:vs[j]?=some v):et H base us vs (base+j)=some (.tup [u,v]):=by
 have h1:=(h_.mp hu).1;have h2:=(h_.mp hv).1;unfold et;rw[g_ ⟨P7 _ _,Nat.add_lt_add_left (Nat.lt_min.mpr ⟨h1,h2⟩) _⟩,show base+j-base=j from Nat.add_sub_cancel_left _ _,hu,hv];rfl
theorem fG(h:b<base):et H base us vs b=H b:=by
 unfold et;rw[j_ (λz=>absurd (n_ h z.1) (QW _))]
def PU(K:Fg)(ta:TA):TE:=λσ H Q=>ta σ H λws H1=>∃(l1 l2:Tv)(us vs:TQ),ws=[.ref l1,.ref l2]/\cR K H1 l1 us/\cR K H1 l2 vs/\us.length<=1000000/\
 ∀(S:Tv),(∀b,S<=b->H1 b=none)->Q (.ref S) (upd (et H1 (S+1) us vs) S (.lst ((List.range (min us.length vs.length)).map λj=>V.ref (S+1+j))))
theorem JM(hc:X.calm=true)(NG:Gl X "list")(L0:X.mg "list"=none)(hg:Gl X "zip")(hm:X.mg "zip"=none)(ha:PA X [l,r] ta)(hs:starEach [l,r] X.env=[(false,eval l X.env),(false,eval r X.env)]:=by rfl)(FF:starEach [r] X.env=[(false,eval r X.env)]:=by rfl)
  (yL:starEach [.Call (.Name "zip" p2) [l,r] [] pos2] X.env=[(false,eval (.Call (.Name "zip" p2) [l,r] [] pos2) X.env)]:=by rfl):PE X (.Call (.Name "list" p) [.Call (.Name "zip" p2) [l,r] [] pos2] [] pos) (PU X.K ta):=by
 intro pins s σ H Q I h;refine QM (fY I NG L0 RX ?_ @1 @1);refine QF ?_ yL rfl;rw[yL];refine(show wpAny _ _ (spliced ((false,eval (.Call (.Name "zip" p2) [l,r] [] pos2) X.env)::backTo pos [])) _ _ s from Calls.spliced_cons ?_);refine Call_ (fY I hg hm yh (QF (bx (ha pos2 pins s σ H _ I h) λus s1 aA=>?_) (by rw[hs,FF]) (by rw[FF];rfl)));obtain⟨ws,H1,I1,r1,q1⟩:=aA;obtain⟨l1,l2,O2,O3,e,m1,m2,hn,q⟩:=q1;subst e;obtain⟨u,v,rfl,ru,rv⟩:=r1.two;cases ru;cases rv;obtain⟨xs,rx,p1,_⟩:=I1.list m1;obtain⟨ys,ry,p2',_⟩:=I1.list m2;have t1:=p1.isList;have t2:=p2'.isList;have lx:=rx.length;have ly:=ry.length;have FI:l1<s1.heap.objs.size:=by obtain⟨o,e,_⟩:=t1;exact k_ e
 have lt2:l2<s1.heap.objs.size:=by obtain⟨o,e,_⟩:=t2;exact k_ e
 obtain⟨z4,gz,gi,go,g1,g2,z5,old⟩:=Gx "list_iterator" "list_iterator" s1.heap l1 l2;refine callType_new F.called_zip @1 (F.typeCall_zip_2 _ _) (F.newCall_zip_2 _ _) (λobj=>F.args_object_init_3 obj _ _) F.entry_zip_new (yV l1 l2 xs.toArray ys.toArray) ⟨t1,t2,?_⟩;show _/\_;rw[z4];refine⟨⟨_,gz,rfl⟩,Calls.spliced_nil ?_⟩;refine mX (I1.ok.hd hc) (HG _ FI lt2) gz gi go ⟨_,g1,rfl,rfl⟩ ⟨_,g2,rfl,rfl⟩ (t1.at λo q=>old _ o q) (t2.at λo q=>old _ o q) (by lia) λh' c' keep made hS=>?_;rw[z5]at keep made hS ⊢;refine⟨.ref (s1.heap.objs.size+5),_,many (s:=s1) I1 (λb o q=>?_) (λb o q=>?_) (λb o n q=>?_),rfl,q _ λb hb=>I1.hok.fresh (w_ (P7 _ _) hb)⟩
 .have hb:=k_ q;exact keep b o (n_ hb (P7 _ _)) (x_ (n_ hb (P7 _ _))) (x_ (n_ hb (P7 _ _))) (x_ hb) (x_ (n_ hb (P7 _ _))) (old b o q)
 .have hb:b<s1.heap.objs.size:=by
   rcases Nat.lt_or_ge b s1.heap.objs.size with h | h
   .exact h
   .rw[I1.hok.fresh h]at q;cases q
  rw[ay (x_ (n_ hb (P7 _ _))),fG (n_ hb (w_ (P7 _ 5) (P7 _ 1)))];exact q
 .by_cases hbS:b=s1.heap.objs.size+5
  .subst hbS;rw[aw]at q;cases q;refine⟨P7 _ _,?_⟩;rw[<- lx,<- ly]at hS;refine⟨by have:=P6;simp;lia,_,c',?_,hS⟩;have:∀L:Tf,aC (L.map λj=>V.ref (s1.heap.objs.size+5+1+j)) (L.map λj=>Value.ref (s1.heap.objs.size+5+1+j)):=λL=>by
    induction L with
    | nil=>exact .nil
    | cons a L ih=>exact .cons rfl ih
   exact this _
  .rw[ay hbS]at q;unfold et at q
   split at q
   .rename_i vE;cases q;refine⟨w_ (P7 _ 6) vE.1,?_⟩;obtain⟨j,yG⟩:=Nat.exists_eq_add_of_le vE.1;have hj:j<min O2.length O3.length:=by rw[yG]at vE;exact Nat.lt_of_add_lt_add_left vE.2
    subst yG;have e1:O2[j]?=some (O2[j]'(n_ hj (Nat.min_le_left _ _))):=i_ _;have e2:O3[j]?=some (O3[j]'(n_ hj (Nat.min_le_right _ _))):=i_ _;obtain⟨x,hx,rx'⟩:=rx.get e1;obtain⟨y,hy,ry'⟩:=ry.get e2;rw[show s1.heap.objs.size+5+1+j-(s1.heap.objs.size+5+1)=j from Nat.add_sub_cancel_left _ _,e1,e2];refine⟨by have:=P6;simp;lia,[x,y],.cons rx' (.cons ry' .nil),?_⟩;exact⟨_,made j x y (by rw[<- lx,<- ly];exact hj) hx hy,rfl,_,rfl⟩
   .rw[n]at q;cases q
theorem av.of_get{K:Fg}{H:Hp}:∀{ds:TM}{vs:TQ},ds.length=vs.length->(∀(j:Nat) d v,ds[j]?=some d->vs[j]?=some v->Rep K H d v)->av K H ds vs
 | [],[],_,_=>rfl
 | [],_::_,h,_=>by simp at h
 | _::_,[],h,_=>by simp at h
 | d::ds,v::vs,h,g=>⟨v,vs,rfl,g 0 d v rfl rfl,av.of_get (by simpa using h) λj d' v' h1 h2=>g (j+1) d' v' (by simpa using h1) (by simpa using h2)⟩
def AN:D->D->TN
 | .lst xs,.lst ys=>if xs.length<=1000000 then some (.lst (pairs xs ys))else none
 | _,_=>none
theorem y9(bF:X.calm=true)(L0:X.mg "list"=none)(hm:X.mg "zip"=none)(ha:PD X .cl l fa)(hb:PD X .cl r fb)(NG:Gl X "list":=by rfl)(hg:Gl X "zip":=by rfl)(hs:starEach [l,r] X.env=[(false,eval l X.env),(false,eval r X.env)]:=by rfl)(FF:starEach [r] X.env=[(false,eval r X.env)]:=by rfl)
  (yL:starEach [.Call (.Name "zip" p2) [l,r] [] pos2] X.env=[(false,eval (.Call (.Name "zip" p2) [l,r] [] pos2) X.env)]:=by rfl):PD X .nw (.Call (.Name "list" p) [.Call (.Name "zip" p2) [l,r] [] pos2] [] pos) (au AN fa fb):=
 PE.imp (JM bF NG L0 hg hm (aJ ha (aJ hb bS FF) (by rw[hs,FF])) hs FF yL) λσ H Q aA=>by
  obtain⟨env,B,Z,d,R,e,k⟩:=aA;obtain⟨dx,dy,e1,e2,e3⟩:=tm e;cases dx<;>try cases e3
  all_goals (cases dy<;>try cases e3)
  rename_i xs ys;obtain⟨hl,rfl⟩:=rj e3;refine⟨env,B,Z,_,R,e1,λv Z1 H1 x1 g1=>⟨env,B,Z1,_,R.ext x1,e2,λu Z2 H2 x2 g2=>?_⟩⟩;obtain⟨l1,us,rfl,q1,r1⟩:=g1;obtain⟨l2,vs,rfl,q2,r2⟩:=g2;have lu:=r1.len;have lv:=r2.len;refine⟨l1,l2,us,vs,rfl,x2.zh.seq (x2.z.seq q1),x2.zh.seq q2,by lia,λS hS=>?_⟩;have HZ:∀b o,H2 b=some o->b<S:=λb o q=>by
   rcases Nat.lt_or_ge b S with h | h
   .exact h
   .rw[hS b h]at q;cases q
  have lowZ:∀b o,Z2 b=some o->b<S:=λb o q=>HZ b o (x2.zh b o q);have sH:aE H2 (upd (et H2 (S+1) us vs) S (.lst ((List.range (min us.length vs.length)).map λj=>V.ref (S+1+j)))):=λb o q=>by
   have:=HZ b o q;rw[ay (x_ this),fG (Qx this)];exact q
  have sZ:aE Z2 (et Z2 (S+1) us vs):=λb o q=>by rw[fG (Qx (lowZ b o q))];exact q
  have zh:aE (et Z2 (S+1) us vs) (upd (et H2 (S+1) us vs) S (.lst ((List.range (min us.length vs.length)).map λj=>V.ref (S+1+j)))):=λb o q=>by
   unfold et at q
   split at q
   .rename_i vE;cases q;rw[ay (P2 vE.1)];unfold et;rw[g_ vE]
   .exact sH b o (x2.zh b o q)
  have x3:Ex Z2 H2 (et Z2 (S+1) us vs) (upd (et H2 (S+1) us vs) S (.lst ((List.range (min us.length vs.length)).map λj=>V.ref (S+1+j)))):=⟨sH,sZ,zh,λa ha hz=>by
   cases e:H2 a with
   | none=>exact absurd e ha
   | some o=>rw[fG (Qx (HZ a o e))];exact hz,λa ob u q=>by
   unfold et at q
   split at q
   .cases q
   .exact q⟩
  have x13:=(x1.trans x2).trans x3;have O4:H2 S=none:=hS S (m_ _);refine k _ _ _ x13 ⟨S,_,_,rfl,rfl,(x1.trans x2).h.free O4,aw,by rw[fG (SN _)];exact x2.zh.free O4,av.of_get (by rw[pairs_len];simp[lu,lv]) λj d v hd hv=>?_⟩;have hj:j<min us.length vs.length:=by have:=(h_.mp hv).1;simpa using this
  have O5:j<us.length:=n_ hj (Nat.min_le_left _ _);have O6:j<vs.length:=n_ hj (Nat.min_le_right _ _);rw[u_,RD hj]at hv;cases hv;obtain⟨a,ea,ra⟩:=r1.getV (i_ O5);obtain⟨b,eb,rb⟩:=r2.getV (i_ O6);rw[oZ ea eb]at hd;cases hd;exact⟨S+1+j,_,rfl,cX.of (A2 (i_ O5) (i_ O6)),⟨_,_,rfl,Rep.mono (x2.z.trans sZ) _ ra,_,_,rfl,Rep.mono sZ _ rb,rfl⟩⟩
end
section
variable {X:Cx}
theorem yj(hc:X.calm=true):dG X (.builtin "max") (λxs H Q=>∃i j k,xs=[.int i,.int j,.int k]/\Q (.int (if j>i then(if k>j then k else j)else(if k>i then k else i))) H):=by
 intro pins s σ H xs us Q I r h;obtain⟨i,j,k,rfl,q⟩:=h;cases r with
 | cons h1 r=>
  cases r with
  | cons h2 r=>
   cases r with
   | cons h3 r=>
    cases r;obtain⟨t1,rfl⟩:=(show ∃t,_=Value.int i t from h1);obtain⟨t2,rfl⟩:=(show ∃t,_=Value.int j t from h2);obtain⟨t3,rfl⟩:=(show ∃t,_=Value.int k t from h3);refine max_three_ints (I.ok.hd hc) λh' tk kk=>⟨_,H,I.kept kk,?_,q⟩
    by_cases hj:j>i
    .rw[g_ hj,g_ hj]
     by_cases hk:k>j
     .rw[g_ hk,g_ hk];exact⟨_,rfl⟩
     .rw[j_ hk,j_ hk];exact⟨_,rfl⟩
    .rw[j_ hj,j_ hj]
     by_cases hk:k>i
     .rw[g_ hk,g_ hk];exact⟨_,rfl⟩
     .rw[j_ hk,j_ hk];exact⟨_,rfl⟩
def Mb(b:D->D->D->TN)(fa fb fc:Fe):Fe:=λenv=>(fa env).bind λx=>(fb env).bind λy=>(fc env).bind λz=>b x y z
def An:D->D->D->TN
 | .int i,.int j,.int k=>some (.int (if j>i then(if k>j then k else j)else(if k>i then k else i)))
 | _,_,_=>none
variable {l r q:Tz}{fa fb fc:Fe}{ga gb gc:Gr}{pos p:Pos}
theorem AD(hm:X.mg "max"=none)(bF:X.calm=true)(ha:PD X ga l fa)(hb:PD X gb r fb)(hc:PD X gc q fc)(hg:Gl X "max":=by rfl)
  (he:starEach [l,r,q] X.env=(false,eval l X.env)::starEach [r,q] X.env:=by rfl) (vB:starEach [r,q] X.env=(false,eval r X.env)::starEach [q] X.env:=by rfl) (K':starEach [q] X.env=[(false,eval q X.env)]:=by rfl) (gI:(backTo pos (starEach [r,q] X.env)).any (·.1)=false:=by rfl) :
  PD X .cl (.Call (.Name "max" p) [l,r,q] [] pos) (Mb An fa fb fc):=
 PE.imp (fF (yj bF) hg hm PyProof.Rows.boot_max (aJ ha (aJ hb (aJ hc bS K') vB) he) @1 @1 he gI) λσ H Q aA=>by
  obtain⟨env,B,Z,d,R,e,k⟩:=aA;obtain⟨x,h1,e⟩:=a_.mp e;obtain⟨y,h2,e⟩:=a_.mp e;obtain⟨z,h3,e⟩:=a_.mp e;cases x<;>try cases e
  cases y<;>try cases e
  cases z<;>try cases e
  refine⟨env,B,Z,_,R,h1,λv Z1 H1 x1 g1=>⟨env,B,Z1,_,R.ext x1,h2,λu Z2 H2 x2 g2=>⟨env,B,Z2,_,(R.ext x1).ext x2,h3,λw Z3 H3 x3 g3=>?_⟩⟩⟩;cases g1.int;cases g2.int;cases g3.int;exact⟨_,_,_,rfl,k _ Z3 H3 ((x1.trans x2).trans x3) rfl⟩
end
section
variable {prog:Tp}{w:Ts}{A:Tq}{E:S2}{s:To}
end
section
variable {prog:Tp}{w:Ts}{A:Tq}{E:S2}{s:To}
end
section
variable {X:Cx}{l r:Tz}{fa fb:Fe}{ga gb:Gr}{pos p:Pos}
end
end Mi
namespace Mi
open PySem L2
mutual
theorem rR:∀(d:D),pl d=true->fS d d=true
 | .non,_=>by simp[fS]
 | .bl b,_=>by simp[fS]
 | .int i,_=>by simp[fS]
 | .str x,_=>by simp[fS]
 | .tup ds,h=>by unfold fS;exact ka ds (by unfold pl at h;exact h)
 | .lst ds,h=>by unfold fS;exact ka ds (by unfold pl at h;exact h)
 | .dct _,h=>by unfold pl at h;cases h
 | .st _,h=>by unfold pl at h;cases h
 | .ln _,h=>by unfold pl at h;cases h
 | .mp _ _ _,h=>by unfold pl at h;cases h
theorem ka:∀(ds:TM),gA ds=true->jF ds ds=true
 | [],_=>by simp[jF]
 | d::ds,h=>by
  unfold gA at h;rw[F_]at h;unfold jF;rw[rR d h.1,ka ds h.2];rfl
end
theorem Bu:∀(xs:TM),(∀x∈xs,pl x=true)->gA xs=true
 | [],_=>by simp[gA]
 | x::xs,h=>by
  unfold gA;rw[h x f_,Bu xs λy hy=>h y (e_ _ hy)];rfl
theorem Cg(h:f env=some (.lst xs))(hp:gA xs=true):au eI f (bP fNil) env=some (.bl xs.isEmpty):=
 CD h rfl (HF (by unfold dh fR;lia) (by unfold pl;rw[hp];rfl)) (wc xs)
end Mi
namespace Mi
open PySem PySem.Spec PyProof.Rows L2
def kx(x:Ti×Tv):TH×Tv:=(kk x.1,x.2)
def PH(ps:S7):S7:=ps.foldl tM []
section
variable {X:Cx}{l r:Tz}{fa fb:Fe}{ga gb:Gr}{pos p:Pos}{k:Nat}
def Jm:TM->Option S7
 | []=>some []
 | .tup [.int a,.int b]::r=>(Jm r).bind λps=>some ((a,b)::ps)
 | _=>none
end
section
variable {prog:Tp}{w:Ts}{A:Tq}{E:S2}{s:To}
end
section
variable {X:Cx}{l r:Tz}{fa fb:Fe}{ga gb:Gr}{pos p:Pos}{k:Nat}
end
end Mi
namespace St
open PySem L2
section
variable {prog:Tp}{w:Ts}{A:Tq}{E:S2}{s:To}
end
end St
namespace Mi
open PySem PySem.Spec PyProof.Rows L2
section
variable {elt:Tz}{gens:S8}{scope:Tu}{pos:Pos}{d:Nat}{tg iter:Tz}{ifs:Td}{it acc:Tn}{env:Env}
end
structure O7(X:Cx)(pins:List (Addr×Obj))(a:Addr)(B Z H:Hp)(env:En)(σ:L2.St)(pre:List D)(s:Shared):Prop where
 I:Inv X pins σ H s
 R:Rl X.K B Z H env σ
 nO:∀(i:Nat) ds,env[i]?≠some (.O ds)
 hb:B a=none
 hz:Z a=none
 ac:∃(ps:List (Int×Int))(xs:List ((Int×Int)×Addr)),Jm pre=some ps/\xs.map (·.1)=PH ps/\H a=some (.ext (Gs a (xs.map (·.1)) (xs.map (·.2))))/\∀x∈xs,cX X.K Z x.2 [.int x.1.1,.int x.1.2]
def Mq(X:Cx)(a:Tv)(Bd:BdT)(k:TJ):Prop:=∀(pins:S3)(s:To)(σ:L2.St)(H B Z:Hp)(env:En)(pre xs:TM)(P:To->Prop)(E:S2),
 O7 X pins a B Z H env σ pre s->k env=some xs->pre.length+xs.length<=4900->(∀s' σ' H' Z',O7 X pins a B Z' H' env σ' (pre++xs) s'->Ex Z B Z' H'->P s')->Bd P E s
section
variable {X:Cx}{a:Tv}{elt:Tz}{fe:Fe}
end
section
variable {P:Tp}{w:Ts}{A:Tq}{elt:Tz}{gens:S8}{scope:Tu}{pos:Pos}{d:Nat}{tg iter:Tz}{ifs:Td}{it acc:Tn}{env:Env}{R:Result->To->Prop}{s:To}
end
section
variable {X:Cx}{a:Tv}{elt:Tz}{gens:S8}{scope:Tu}{pos:Pos}{d:Nat}{tg iter vC b9:Tz}{ifs k6:Td}{it:Tv}
end
structure BlkS(X:Cx)(a:Addr)(elt:Expr)(gens:List Comprehension)(scope:Scope)(pos:Pos)(d:Nat)(tg:Expr)(ifs:List Expr)(t:Ft)(c:Fb)(k:En->Option (List D)):Prop where
 g:GD X tg t
 ts:BP X ifs c
 ex:∃Bd,Mq X a Bd k/\∀(it:Addr)(s:Shared)(Q:Fin->Shared->Prop)(E:Value->Shared->Prop),
   wpAny @2 X.A (pyNext (.ref it)) (λr s1=>match r with
    | none=>Q (.done .next) s1
    | some v=>wpAny @2 X.A (letOwnedTupleGo tg (.ref it) v) (λ_ s2=>wpAny @2 X.A (assign tg X.env v) (λ_ s3=>
      wpAny @2 X.A (forIn ifs true λc r=>if r=true then do let ok <- isTrue c X.env (eval c X.env);pure (ForInStep.yield ok)else pure (ForInStep.yield r)) (λok s4=>
       if ok=true then Bd (λs5=>Q (.again (.compLoop (.SetComp elt gens scope pos) d (.ref it) (.ref a) X.env)) s5) E s4 else Q (.again (.compLoop (.SetComp elt gens scope pos) d (.ref it) (.ref a) X.env)) s4) E s3) E s2) E s1) E s->
   wpAny @2 X.A (compTurn (.SetComp elt gens scope pos) d (.ref it) (.ref a) X.env) Q E s
section
variable {X:Cx}{a:Tv}{elt:Tz}{gens:S8}{scope:Tu}{pos:Pos}{d:Nat}{tg iter:Tz}{ifs:Td}{t:Ft}{c:Fb}{fe:Fe}
end
section
variable {X:Cx}{elt:Tz}{rest:S8}{scope:Tu}{pos:Pos}{tg iter:Tz}{ifs:Td}{t:Ft}{c:Fb}{k:TJ}{fi:Fi}{is caps:Tf}{cl:S6}{Nc own:Tb}
end
end Mi
namespace St
open PySem L2
section
variable {prog:Tp}{w:Ts}{K:Type}[DecidableEq K](knd:KeyKind prog w K)
inductive H8(h:Heap):List (List K)->List Value->Prop
 | nil:H8 h [] []
 | cons {k:List K} {b:Addr} {ks:List (List K)} {vs:List Value}:(tupleKind knd).is h k b->H8 h ks vs->H8 h (k::ks) (.ref b::vs)
variable {knd}
variable {A:Tq}{E:S2}{s:To}
end
section
variable {prog:Tp}{w:Ts}{K:Type}[DecidableEq K]{knd:KeyKind prog w K}{A:Tq}{E:S2}{s:To}
end
end St
namespace Mi
open PySem PySem.Spec PyProof.Rows L2
section
variable {K:Type}[DecidableEq K]
end
section
variable {X:Cx}{rg:Gr}{l r:Tz}{fa fb:Fe}{ga gb:Gr}{pos p:Pos}{k:Nat}
end
section
variable {X:Cx}{rg:Gr}{l r:Tz}{fa fb:Fe}{ga gb:Gr}{pos p:Pos}{k:Nat}
end
section
variable {X:Cx}{rg:Gr}{pos:Pos}
end
section
variable {X:Cx}{i:Tz}{fi:Fe}{pos p0 p1 p2 p3 p4:Pos}{k j1 j2 j3 j4:Nat}
end
end Mi
namespace Mi
open PySem PySem.Spec PyProof.Rows L2
def Ls:Key->Key->Option Bool
 | .inl a,.inl b=>some (decide (a<=b))
 | .inr a,.inr b=>some (!decide (b.cps.toList<a.cps.toList))
 | _,_=>none
def nF:TH->TH->Option Bool
 | [],[]=>some true
 | [],_::_=>some true
 | _::_,[]=>some false
 | x::xs,y::ys=>if x=y then nF xs ys else Ls x y
theorem Al(A:Tq)(s:To)(a:Str)(t:Tok)(c:Str)(u:Tok)(prog:Tp)(w:Ts)(E:S2)(Q:S2)(h:Q (.bool (!decide (c.cps.toList<a.cps.toList))) s) :
  wpAny (model prog w) A (richCompare .LtE (.str a t) (.str c u)) Q E s:=
 (PySem.P.le_str h:wpAny (model prog w) A (compareOp .LtE (.str a t) (.str c u)) Q E s)
section
open PySem.SeqAt
open PySem.AutoSeq1 (wpAny_loadPart')
open PySem.MeetsSeq PySem.MeetsSeq2 PySem.MeetsSeq3
theorem zV(hv:cc (y::vs) ns)(hw:cc (x::ws) ms):∃a c kQ nS,ns=a::kQ/\ms=c::nS/\cc vs kQ/\cc ws nS/\
  ∀(A:Tq)(s:To)(q:Bool),(if a=c then nF kQ nS else Ls a c)=some q->∃e,SeqAt.EqAt A s y x e/\(e=true↔a=c)/\(e=false->∀(prog:Tp)(w:Ts)(E:S2)(Q:S2),Q (.bool q) s->wpAny (model prog w) A (richCompare .LtE y x) Q E s):=by
 cases hv with
 | int n t tY=>
  cases hw with
  | int m u vD=>
   refine⟨_,_,_,_,rfl,rfl,tY,vD,λA s q hq=>⟨(n==m),SeqAt.EqAt.int_int n t m u,by simp,λhe=>?_⟩⟩;have hne:n≠m:=by simpa using he
   rw[j_ (λz=>hne (Sum.inl.inj z))]at hq;cases hq;exact λprog w E Q h=>(PyProof.Rows.le_int h:wpAny (model prog w) A (compareOp .LtE (.int n t) (.int m u)) Q E s)
  | str y u vD=>
   refine⟨_,_,_,_,rfl,rfl,tY,vD,λA s q hq=>?_⟩;rw[j_ (λz=>nomatch z)]at hq;cases hq
 | str a t tY=>
  cases hw with
  | int m u vD=>
   refine⟨_,_,_,_,rfl,rfl,tY,vD,λA s q hq=>?_⟩;rw[j_ (λz=>nomatch z)]at hq;cases hq
  | str b u vD=>
   refine⟨_,_,_,_,rfl,rfl,tY,vD,λA s q hq=>⟨(a==b),SeqAt.EqAt.str_str a t b u,by simp,λhe=>?_⟩⟩;have hne:a≠b:=by simpa using he
   rw[j_ (λz=>hne (Sum.inr.inj z))]at hq;cases hq;exact λprog w E Q h=>Al A s a t b u prog w E Q h
theorem nr(l b:Tv)(items items2:Array Tn)(n n2:Nat)(dd tV:Ta)(sl w5:S4)(ns ms:TH)(q:Bool)(hi:cc items.toList ns)(hj:cc items2.toList ms)(hq:nF ns ms=some q) :
  Meets (Builtin.«tuple.__le__» ⟨[.ref l,.ref b],[]⟩)
   (λ_ R s=>s.heap.get? l=some {cls:=.type "tuple",dict:=dd,data:=.seq items n,slots:=sl}/\s.heap.get? b=some {cls:=.type "tuple",dict:=tV,data:=.seq items2 n2,slots:=w5}/\R (.ok (.ret (.bool q))) s):=
 .of_wp λprog w A R s h=>by
  obtain⟨hp,g,d,tk,os⟩:=s;obtain⟨hl,hb,h⟩:=h;have f2:=AutoSeq1.sub_tuple_tuple;have z1:items.size=ns.length:=by rw[<- hi.length];simp
  have z2:items2.size=ms.length:=by rw[<- hj.length];simp
  wp_walk using Se hl,Se hb,wpAny_forIn_list _ (λrest b s'=>b.1=none/\s'=⟨hp,g,d,tk,os⟩/\∃(vs ws:S9)(kQ nS:TH),rest=vs.zip ws/\
   cc vs kQ/\cc ws nS/\kQ.length+items2.size=nS.length+items.size/\nF kQ nS=some q) _
  case turn=>
   rintro⟨y,x⟩ rest b s' ⟨hb',rfl,vs,ws,kQ,nS,hz,HW,Lb,hlen,hR⟩;cases vs with
   | nil=>rw[List.zip_nil_left]at hz;cases hz
   | cons v vs=>
    cases ws with
    | nil=>rw[List.zip_nil_right]at hz;cases hz
    | cons w' ws=>
     rw[RP]at hz
     injection hz with Nx hrest
     injection Nx with hy hx
     subst hy hx;obtain⟨a,c,Lc,HX,rfl,rfl,Ny,Nz,ask⟩:=zV HW Lb;have HY:(if a=c then nF Lc HX else Ls a c)=some q:=hR;obtain⟨e,he,hiff,kZ⟩:=ask A.in1 ⟨hp,g,d,tk,os⟩ q HY;simp only[z_]at hlen;refine b_ (he prog w _ _ ?_);cases e with
     | true=>
      rw[g_ (hiff.mp rfl)]at HY
      wp_walk
      exact⟨rfl,rfl,_,_,_,_,hrest,Ny,Nz,by lia,HY⟩
     | false=>
      have hri:=kZ rfl prog w
      wp_walk using hri
      exact⟨_,rfl,by simpa using h⟩
  case fin=>
   rintro⟨b1,b2⟩ s' ⟨hb',rfl,vs,ws,kQ,nS,hz,HW,Lb,hlen,hR⟩;simp only at hb';subst hb';have l1:=HW.length;have l2:=Lb.length;have hv:q=decide (items.size<=items2.size):=by
    cases kQ with
    | nil=>
     cases nS with
     | nil=>
      simp only[L_]at hlen;cases hR;exact(t_ (by lia)).symm
     | cons c HX=>
      simp only[L_,z_]at hlen;cases hR;exact(t_ (by lia)).symm
    | cons a Lc=>
     cases nS with
     | nil=>
      simp only[L_,z_]at hlen;cases hR;exact(B_ (by lia)).symm
     | cons c HX=>
      cases vs with
      | nil=>simp at l1
      | cons v vs=>
       cases ws with
       | nil=>simp at l2
       | cons w' ws=>rw[RP]at hz;cases hz
   rw[hv]at h
   wp_walk
   exact⟨_,rfl,by simpa [Builtin.Tuple.tupleCompareSizes]using h⟩
  case h=>
   exact⟨rfl,rfl,items.toList,items2.toList,ns,ms,rfl,hi,hj,by lia,hq⟩
end
section
variable {X:Cx}{l r:Tz}{fa fb:Fe}{ga gb:Gr}{pos p:Pos}{k:Nat}
def J1(K:Fg):R2:=λx y H Q=>∃a b ns ms q,x=.ref a/\y=.ref b/\cX K H a (ns.map kV)/\cX K H b (ms.map kV)/\nF ns ms=some q/\Q (.bl q) H
theorem F6(hu:X.A.units<cLine):iy X (compareOp .LtE) (J1 X.K):=by
 intro pins s σ H x y v u Q I rx ry h;obtain⟨a,b,ns,ms,c,rfl,rfl,ha,hb,hc,q⟩:=h;cases rx;cases ry;obtain⟨bo,r1,p1,_⟩:=I.tuple ha;obtain⟨nQ,r2,p2,_⟩:=I.tuple hb;obtain⟨⟨cls,dd,data,sl⟩,ho,jK,n,hd⟩:=id p1;obtain⟨⟨Et,tV,data2,w5⟩,yC,w6,n2,hd2⟩:=id p2;simp only at jK hd w6 hd2;subst jK hd w6 hd2;exact richCompare_meets_room (op:=.LtE) ⟨_,ho,rfl⟩ ⟨_,yC,rfl⟩ PySem.F.slot_tuple_le PySem.F.entry_tuple_le (PySem.F.args_tuple_le_2 _ _) (nr a b bo.toArray nQ.toArray n n2 dd tV sl w5 ns ms c (by simpa using cc.of r1) (by simpa using cc.of r2) hc)
  ⟨ho,yC,show Value.bool c≠Value.notImplemented/\EP X pins σ Q (.bool c) s from⟨(λz=>nomatch z),⟨.bl c,H,I,rfl,q⟩⟩⟩ hu
def JL:D->D->TN
 | .tup xs,.tup ys=>(mE xs).bind λns=>(mE ys).bind λms=>(nF ns ms).bind λq=>some (.bl q)
 | _,_=>none
theorem Kl{K:Fg}:cQ K .cl JL (J1 K):=λ{Z H x y dx dy d Q} s h1 h2 e kq=>by
 cases dx<;>try cases e
 all_goals (cases dy<;>try cases e)
 obtain⟨ns,e1,e⟩:=a_.mp e;obtain⟨ms,e2,e⟩:=a_.mp e;obtain⟨q,e3,e⟩:=a_.mp e;cases e;obtain⟨a,vs,rfl,q1,r1⟩:=h1.tup s;obtain⟨b,us,rfl,q2,r2⟩:=h2.tup s;cases d5 e1 r1;cases d5 e2 r2;exact⟨a,b,ns,ms,q,rfl,rfl,q1,q2,e3,kq _ Z H (Ex.refl s) rfl⟩
theorem IR(hr:bG k X.A)(ha:PD X ga l fa)(hb:PD X gb r fb):PB X (.Compare l [.LtE] [r] pos) (fB (au JL fa fb)):=jz (F6 (by have:=hr.un;lia)) Kl ha hb (eg _)
end
end Mi
namespace Mi
open PySem PySem.Spec PyProof.Rows L2
section
variable {X:Cx}{rg:Gr}{pos:Pos}
end
end Mi
namespace Mi
open PySem
end Mi
namespace Xc
open PySem PySem.Spec PyProof.Rows L2
def Rec(s0h h:Tr)(H:Hp)(e C dx:Tv):Prop:=∃oe vs,h.get? e=some oe/\oe.cls=.ref C/\oe.dict=some dx/\oe.data=.fields vs/\1<vs.size/\
 (vs[1]?=some .none\/∃T oT ts,vs[1]?=some (.ref T)/\T≠e/\s0h.objs.size<=T/\H T=none/\h.get? T=some oT/\oT.data=.fields ts/\ts[3]?=some .none)
section
variable {M:Model}{A:Tq}{E:S2}{s:To}
theorem oJ
  (hfr:A.frames=some (env::outer)) (hl:s.heap.FunFrames base (env::outer)) (hf:env.frame=some L)
  (he:s.heap.get? e=some oe) (hd:oe.data=.fields vs) (hsz:1<vs.size)
  (h:∀h',(∀b o,b∉kS (env::outer)->b≠e->s.heap.get? b=some o->h'.get? b=some o)->(∀b o,b∈kS (env::outer)->s.heap.get? b=some o->∃sl,h'.get? b=some {o with slots:=sl})->
   (∃T oT ts,s.heap.objs.size<=T/\T≠e/\h'.get? e=some (oe.mapFields (·.setIfInBounds 1 (.ref T)))/\h'.get? T=some oT/\oT.data=.fields ts/\ts[3]?=some .none)->Q () {s with heap:=h'}) :
  wpAny M A (do let a <- frameOf env;let pl <- entryPlaceOf L hadNext;let b <- EntryCells.newEntry head a .none (rawInt L) .none pl;setField (.ref e) 1 b) (λ_ s'=>wpAny M A (setFlight (.ref e) none) Q E s') E s:=by
 have Le:e∉(env::outer).filterMap (·.frame):=λhm=>by
  obtain⟨_,o,ho,EF⟩:=hl.mem hm;rw[he]at ho;injection ho with ho;subst ho;exact EF vs hd
 refine b_ (wpAny_frameOf_fun hfr hl hf λh₁ hs₁=>?_);refine b_ (wpAny_entryPlaceOf λpl gI=>?_);unfold EntryCells.newEntry newFields;refine b_ (Q8 ?_ (gI.sizeOk5 _ _ _ _ _));have he₁:h₁.get? e=some oe:=(hs₁.2.1 e Le).trans he;have he₂:=d_ {cls:=.type "traceback",dict:=none,data:=.fields ([head,.ref L,.none,rawInt L,.none]++(if pl.isEmpty then List.replicate 6 Value.none else pl)).toArray} he₁;refine Rw he₂ hd hsz ?_;have EG:h₁.objs.size≠e:=P2 (k_ he₁);have hd₃:=Qg hd (·.setIfInBounds 1 (Value.ref h₁.objs.size));have he₃:=Qn (Obj.mapFields (·.setIfInBounds 1 (Value.ref h₁.objs.size))) he₂ (QK hd₃);have hT₃:=(D_ (h₁.push {cls:=.type "traceback",dict:=none,data:=.fields ([head,.ref L,.none,rawInt L,.none]++(if pl.isEmpty then List.replicate 6 Value.none else pl)).toArray})
  (Obj.mapFields (·.setIfInBounds 1 (Value.ref h₁.objs.size))) (Qo EG)).trans (s_ h₁ rfl)
 unfold setFlight;refine b_ (P1 he₃ hd₃ (x:=.ref h₁.objs.size) (by simp[hsz]) ?_);rw[g_ (show(Value.ref h₁.objs.size != Value.none)=true from by simp)];refine Rw hT₃ rfl (by simp only[q_,E_,z_,L_]<;>lia) (h _ ?_ ?_ ?_)
 .intro b o hbf BS hb;have O8:h₁.get? b=some o:=(hs₁.2.1 b hbf).trans hb;have NH:h₁.objs.size≠b:=P2 (k_ O8);rw[D_ _ _ NH,D_ _ _ (Qo BS)];exact d_ _ O8
 .intro b o hbf hb;obtain⟨sl,hs⟩:=hs₁.2.2 b o hb;have BS:b≠e:=λq=>Le (q▸hbf);have NH:h₁.objs.size≠b:=P2 (k_ hs);refine⟨sl,?_⟩;rw[D_ _ _ NH,D_ _ _ (Qo BS)];exact d_ _ hs
 .refine⟨h₁.objs.size,_,_,(by rw[hs₁.1];exact m_ _),EG,?_,Qn _ hT₃ (QK (Qg rfl _)),Qg rfl _,?_⟩
  .rw[D_ _ _ EG];exact he₃
  .first | (simp;done) | (rcases gI with rfl | ⟨_,_,_,_,_,_,_,rfl⟩<;>simp)
theorem E5
  (hfr:A.frames=some (env::outer)) (hl:s.heap.FunFrames base (env::outer)) (hf:env.frame=some L) (hx:Rec s0h s.heap H e C dx) (h0:s0h.objs.size<=s.heap.objs.size) (hH:∀b,s.heap.objs.size<=b->H b=none)
  (h:∀h' (T':Ta),(∀T,T'=some T->s0h.objs.size<=T/\H T=none/\∃oT ts,s.heap.get? T=some oT/\oT.data=.fields ts)->(∀b o,b∉kS (env::outer)->b≠e->T'≠some b->s.heap.get? b=some o->h'.get? b=some o)->(∀b o,b∈kS (env::outer)->s.heap.get? b=some o->∃sl,h'.get? b=some {o with slots:=sl})->
   Rec s0h h' H e C dx->(∀T,T'=some T->∃o,h'.get? T=some o)->Q () {s with heap:=h'}):wpAny M A (noteFrame (.ref e) env) (λ_ s'=>wpAny M A (setFlight (.ref e) none) Q E s') E s:=by
 obtain⟨oe,vs,he,hc,Lf,hd,hsz,hv⟩:=hx;have fin:∀h',(∃T oT ts,s.heap.objs.size<=T/\T≠e/\h'.get? e=some (oe.mapFields (·.setIfInBounds 1 (.ref T)))/\h'.get? T=some oT/\oT.data=.fields ts/\ts[3]?=some .none)->Rec s0h h' H e C dx:=λh' aA=>by
  obtain⟨T,oT,ts,t1,t2,t3,t4,t5,t6⟩:=aA;refine⟨_,_,t3,(Obj.cls_mapFields _ _).trans hc,?_,Qg hd _,by simpa using hsz,.inr ⟨T,oT,ts,by simp[hsz],t2,w_ h0 t1,hH T t1,t4,t5,t6⟩⟩;obtain⟨c,d,dt,sl⟩:=oe;have KF:dt=.fields vs:=hd;subst KF;exact Lf
 unfold noteFrame;simp only[hf];rcases hv with h1 | ⟨T,oT,ts,h1,EG,L3,L4,hT,BW,h3⟩
 .refine b_ (P1 he hd h1 ?_);rw[j_ @1];exact oJ hfr hl hf he hd hsz λh' k1 k2 k3=>h h' none (λT z=>by cases z) (λb o b1 b2 _ b4=>k1 b o b1 b2 b4) k2 (fin h' k3) (λT z=>by cases z)
 .refine b_ (P1 he hd h1 ?_);rw[g_ (show(Value.ref T != Value.none)=true from by simp)];refine b_ (P1 hT BW h3 ?_);rw[j_ (show ¬((Value.none==rawInt L)=true)from by simp[rawInt])];refine b_ (Rw hT BW (Ry.mp h3).1 ?_);have other:∀b,b≠T->(s.heap.update T (Obj.mapFields (·.setIfInBounds 3 Value.none))).get? b=s.heap.get? b:=λb hb=>D_ _ _ (Qo hb);have mS:∀b o,s.heap.get? b=some o->(∀vs,o.data≠.fields vs)->b≠T:=λb o hb EF q=>by
   rw[q,hT]at hb;injection hb with hb;subst hb;exact EF ts BW
  have hTn:T∉kS (env::outer):=λhm=>by
   obtain⟨_,o,ho,EF⟩:=hl.mem (show T∈(env::outer).filterMap (·.frame)from hm);exact mS T o ho EF rfl
  refine oJ hfr (hl.of_keeps λb o hb EF=>⟨o,(other b (mS b o hb EF)).trans hb,rfl⟩) hf ((other e (Qo EG)).trans he) hd hsz λh' k1 k2 k3=>h h' (some T) (λT' z=>by cases z;exact⟨L3,L4,_,_,hT,BW⟩) (λb o b1 b2 b3 b4=>k1 b o b1 b2 ((other b (λz=>b3 (by rw[z]))).trans b4)) (λb o b1 b2=>?_) (fin h' (by
    obtain⟨T2,oT2,ts2,a1,a2⟩:=k3;exact⟨T2,oT2,ts2,by rw[Heap.size_after_update]at a1;exact a1,a2⟩)) (λT' z=>?_)
  .obtain⟨_,o',ub,EF⟩:=hl.mem (show b∈(env::outer).filterMap (·.frame)from b1);rw[b2]at ub;injection ub with ub;subst ub;exact k2 b o b1 ((other b (mS b o b2 EF)).trans b2)
  .cases z;exact⟨_,k1 T _ hTn EG (Qn _ hT (QK (Qg BW _)))⟩
theorem AL
  (hfr:A.frames=some (env::outer)) (hl:s.heap.FunFrames base (env::outer)) (hf:env.frame=some L) (hx:Rec s0h s.heap H e C dx) (h0:s0h.objs.size<=s.heap.objs.size) (hH:∀b,s.heap.objs.size<=b->H b=none)
  (h:∀h' (T':Ta),(∀T,T'=some T->s0h.objs.size<=T/\H T=none)->(∀b o,b∉kS (env::outer)->b≠e->T'≠some b->s.heap.get? b=some o->h'.get? b=some o)->(∀b o,b∈kS (env::outer)->s.heap.get? b=some o->∃sl,h'.get? b=some {o with slots:=sl})->
   Rec s0h h' H e C dx->Q () {s with heap:=h'}):wpAny M A (leaving env (.ref e)) Q E s:=by
 unfold leaving;exact b_ (E5 hfr hl hf hx h0 hH λh' T' a b c d _=>h h' T' (λT z=>⟨(a T z).1,(a T z).2.1⟩) b c d)
end
end Xc
namespace Xc
open PySem
open Sem (wp)
open PySem.W (Looks)
abbrev bmV:S9:=[.type "ValueError",.type "Exception",.type "BaseException",.type "object"]
abbrev de(nm q:Str)(C N:Tv)(bs bm:S9)(sn:Tb)(sub:S9)(ab:Bool)(col:Option Bool)(dd:Ta)(k0 k1 k2 k3 k5:S_):Obj:=excClassObj nm q C N bs bm true sn sub ab col dd k0 k1 k2 k3 k5 "ValueError.__new__"
structure Tl(bm:List Value):Prop where
 v:bm.contains (.type "ValueError")=true
 b:bm.contains (.type "BaseException")=true
 o:bm.contains (.type "object")=true
 a:bm.contains (.type "AttributeError")=false
 n:bm.contains (.type "NameError")=false
section
variable {M:Model}{A:Tq}{E:S2}{h:Tr}{g:Array GenState}{d:Drawn}{t:Nat}{os:OsState}
variable {nm q:Str}{C N:Tv}{bs bm:S9}{sn:Tb}{sub:S9}{ab:Bool}{col:Option Bool}{dd:Ta}{k0 k1 k2 k3 k5:S_}
theorem xj(Z:Tl bm)(hC:h.get? C=some (de nm q C N bs bm sn sub ab col dd k0 k1 k2 k3 k5))(hq:Q () ⟨h,g,d,t,os⟩) :
  wpAny M A (checkBuiltinCall "ValueError.__new__" ⟨.ref C::rest,[]⟩) Q E ⟨h,g,d,t,os⟩:=by
 have Fn:=Q4;have hcont:(Value.ref C::bm).contains (.type "ValueError")=true:=by rw[I_,Z.v,Qw]
 have hstar:=Fn.noStar;simp only[checkBuiltinCall,Fn.newKind,Fn.newSplit,Fn.newRow]
 repeat (first | refine J_ hC ?_ | (refine Qk hC ?_;rw[hcont]) | refine wpAny_staticBase_exc hC ?_ | refine wpAny_madeBy_exc hC ?_ | simp only[bne_self_eq_false,P5,QV] | wp_step)
 exact hq
end
section
variable {prog:Tp}{w:Ts}{A:Tq}{R:Result->To->Prop}{E:S2}{h:Tr}{g:Array GenState}{d:Drawn}{t:Nat}{os:OsState}
variable {nm q:Str}{C N:Tv}{bs bm:S9}{sn:Tb}{sub:S9}{ab:Bool}{col:Option Bool}{dd:Ta}{k0 k1 k2 k3 k5:S_}
theorem DX(Z:Tl bm)(hC:h.get? C=some (de nm q C N bs bm sn sub ab col dd k0 k1 k2 k3 k5))
  (hq:R (.ok (.ret (.ref (h.objs.size+1)))) ⟨(h.push {cls:=.type "tuple",data:=.seq rest.toArray}).push
   {cls:=.ref C,data:=.fields #[.ref h.objs.size,.none,.none,.none,.bool false,.none]},g,d,t,os⟩) (hrest:rest.length<=sizeLine) :
  codeAny (model prog w) A (.builtin "ValueError.__new__" ⟨.ref C::rest,[]⟩) R ⟨h,g,d,t,os⟩:=by
 have Fn:=Q4;have hends:=Fn.ends;have BF:(Value.ref C::bm).contains (.type "ValueError")=true:=by rw[I_,Z.v,Qw]
 have hcA:(Value.ref C::bm).contains (.type "AttributeError")=false:=by rw[I_,Z.a];rfl
 have hcN:(Value.ref C::bm).contains (.type "NameError")=false:=by rw[I_,Z.n];rfl
 refine codeAny_builtinAt Fn.entry ?_;unfold Builtin.«BaseException.__new__»;refine wpAt_bind ?_;show wpAt _ _ _ (stack >>= _) _ _ _;refine wpAt_bind (wpAt_stack λp below=>wpAt_of_wpAny ?_)
 wp_walk
 refine wpAt_of_wpAny ?_;rw[Fn.owner]
 repeat (first | with_reducible refine wpAny_madeHere_exc Fn.canon hC ?_ | with_reducible refine J_ hC ?_ | (with_reducible refine Qk hC ?_;first | rw[BF] | rw[hcA] | rw[hcN]) | wp_step)
 show R _ _;rw[Qq];exact hq
theorem lN(Z:Tl bm)
  (hC:h.get? C=some (de nm q C N bs bm sn sub ab col dd k0 k1 k2 k3 k5)) (hi:Looks (model prog w) h (typeLookup (.ref C) "__init__") (some (.ref fI)))
  (NI:h.get? fI=some oI) (NJ:oI.cls=.type "function")
  (hq:∀h' e,Heap.MadeExcOf h h' e (.ref C) rest->h.objs.size<=e->
   wpAny (model prog w) A (call (.ref fI) (.ref e::rest)) (λr s'=>r=.none/\Q (.done (.ret (.ref e))) s') E ⟨h',g,d,t,os⟩) (hrest:rest.length<=sizeLine) :
  wpAny (model prog w) A (Builtin.«type.__call__» ⟨.ref C::rest,[]⟩) Q E ⟨h,g,d,t,os⟩:=by
 have F:=Q4
 repeat (first | with_reducible refine J_ hC ?_ | with_reducible refine wpAny_madeBy_exc hC ?_ | wp_step)
 refine codeAny_call_builtin_code (Sq _ F.quiet) (xj Z hC ?_);refine DX Z hC ?_ hrest;show wpAny _ _ _ _ _ _;have kp:∀b o,h.get? b=some o->((h.push {cls:=.type "tuple",data:=.seq rest.toArray}).push {cls:=.ref C,data:=.fields #[.ref h.objs.size,.none,.none,.none,.bool false,.none]}).get? b=some o:=
  λb o e=>d_ _ (d_ _ e)
 have hC₁:=kp _ _ hC;have hfI₁:=kp _ _ NI;have Lg:((h.push {cls:=.type "tuple",data:=.seq rest.toArray}).push
   {cls:=.ref C,data:=.fields #[.ref h.objs.size,.none,.none,.none,.bool false,.none]}).get? (h.objs.size+1)=some
   {cls:=.ref C,data:=.fields #[.ref h.objs.size,.none,.none,.none,.bool false,.none]}:=by heap_get
 have hcC:(Value.ref C::bm).contains (.ref C)=true:=by simp
 have hi₁:=hi.keeps kp;unfold isInstance
 repeat (first | with_reducible refine J_ Lg ?_ | (with_reducible refine Qk hC₁ ?_;rw[hcC]) | wp_step)
 show wpAny _ _ (typeLookup (.ref C) _) _ _ _;refine hi₁.at ?_;refine K_ (b_ ?_);unfold bindSpecial;refine b_ (wpAny_typeOf ⟨_,hfI₁,NJ⟩ ?_);rw[g_ @1];refine o_ (b_ (P4 (hq _ (h.objs.size+1) ⟨kp,Qf (SE _),h.objs.size,Lg,Qf (m_ _),?_⟩ (SE _)) (λr s' hr=>?_) λ_ _ x=>x))
 .exact d_ _ (Heap.get?_push_at rfl rfl)
 .obtain⟨rfl,hQ⟩:=hr
  wp_walk
  exact hQ
theorem zT(Z:Tl bm)
  (hC:h.get? C=some (de nm q C N bs bm sn sub ab col dd k0 k1 k2 k3 k5)) (hi:Looks (model prog w) h (typeLookup (.ref C) "__init__") (some (.ref fI)))
  (NI:h.get? fI=some oI) (NJ:oI.cls=.type "function")
  (hq:∀h' e,Heap.MadeExcOf h h' e (.ref C) rest->h.objs.size<=e->
   wpAny (model prog w) (A.under (.builtin "type.__call__" ⟨.ref C::rest,[]⟩)) (call (.ref fI) (.ref e::rest)) (λr s'=>r=.none/\Q (.ref e) s') E ⟨h',g,d,t,os⟩) (hrest:rest.length<=sizeLine) :
  wpAny (model prog w) A (call (.ref C) rest) Q E ⟨h,g,d,t,os⟩:=by
 have f1:=tc_lookup;have f2:=tc_bind (.ref C);have hT:(⟨h,g,d,t,os⟩:To).TypeIs (.ref C) "type":=⟨_,hC,rfl⟩;refine Sl (codeAny_of_tree ?_);show wpAny _ _ (callAny (.ref C) _) _ _ _
 repeat (any_goals (first | assumption | with_reducible refine J_ hC ?_ | wp_step))
 refine⟨rfl,?_⟩;refine codeAny_call_builtin_at (Sq _ (by decide +kernel)) entry_typeCall (wpAny_check_type_call_sub hC (lN Z (hrest:=hrest) hC hi NI NJ λh' e hm hz=>?_));exact hq h' e hm hz
theorem zq(Z:Tl bm)(hC:h.get? C=some (de nm q C N bs bm sn sub ab col dd k0 k1 k2 k3 k5))(he:h.get? e=some oe)(vz:oe.cls=.ref C)(hd:oe.data=.fields vs)(hz:vs[0]?=some (.ref t0))(hrest:rest.length<=sizeLine)
  (hq:∀h' tp,(∀b o,b≠e->h.get? b=some o->h'.get? b=some o)->h'.get? e=some (oe.mapFields (·.setIfInBounds 0 (.ref tp)))->Q .none ⟨h',g,d,t,os⟩) :
  wpAny (model prog w) A (call (.builtin "ValueError.__init__") (.ref e::rest)) Q E ⟨h,g,d,t,os⟩:=by
 have F:=Q4;have BF:(Value.ref C::bm).contains (.type "ValueError")=true:=by rw[I_,Z.v,Qw]
 have hshort:=F.noStar;refine Sl (Sb F.init.plain F.initEntry ?_);simp only[checkBuiltinCall,F.initKind,F.initSplit,F.initRow]
 repeat (first | (with_reducible refine J_ he ?_;rw[vz]) | with_reducible refine J_ hC ?_ | (with_reducible refine Qk hC ?_;rw[BF]) | wp_step)
 refine wpAny_onRaise ?_;rw[show ∀(a b:String)(n:Nat),Bind.check ⟨.positional,"*","ValueError",.self,[⟨"args",.varPos,false⟩]⟩ a b n (List.map (λx=>x.fst) ({pos:=Value.ref e::rest}:Args).kw)=pure ()from
  λa b n=>check_star_args _ _ _ _ _ _]
 refine o_ ?_
 wp_walk
 rw[hd];refine o_ ?_;rw[hz];refine o_ ?_;have he₁:=d_ {cls:=.type "tuple",data:=.seq rest.toArray} he;refine b_ (Rw he₁ hd (Ry.mp hz).1 ?_);refine wpAny_letGo ?_;refine o_ (hq _ h.objs.size (λb o hb ho=>?_) ?_)
 .rw[D_ _ _ (Qo hb)];exact d_ _ ho
 .exact Qn _ he₁ (QK (Qg hd _))
end
end Xc
namespace Xc
open PySem
open Sem (wp)
open Builtin Builtin.ObjectAttr
open PySem.W (Looks)
section
variable {prog:Tp}{w:Ts}{A:Tq}{E:S2}{h:Tr}{g:Array GenState}{d:Drawn}{t:Nat}{os:OsState}
variable {nm q:Str}{C N x:Tv}{bs bm:S9}{sn:Tb}{sub:S9}{ab:Bool}{col:Option Bool}{dd:Ta}{k0 k1 k2 k3 k5:S_}{name:Str}{v:Tn}
theorem Ar(Z:Tl bm)
  (hC:h.get? C=some (de nm q C N bs bm sn sub ab col dd k0 k1 k2 k3 k5)) (hx:h.get? x=some o) (hc:o.cls=.ref C) (hq:Q () ⟨h,g,d,t,os⟩) :
  wpAny M A (checkBuiltinCall "object.__setattr__" ⟨[.ref x,BG,v],[]⟩) Q E ⟨h,g,d,t,os⟩:=by
 have SF:=PySem.F.store_object;have BF:(Value.ref C::bm).contains (.type "object")=true:=by rw[I_,Z.o,Qw]
 have ha:=SF.args (.ref x) BG v;simp only[checkBuiltinCall,SF.kind,SF.split];refine b_ ?_
 .unfold isInstance
  repeat (first | (with_reducible refine J_ hx ?_;rw[hc]) | (with_reducible refine Qk hC ?_;rw[BF]) | wp_step)
  exact hq
theorem store_entry
  (hC:h.get? C=some (de nm q C N bs bm sn sub ab col dd k0 k1 k2 k3 k5)) (BH:refuseLoop (.ref x) "__setattr__" bm=pure ()) (mN:Looks (model prog w) h (typeLookup (.ref C) name) none)
  (hx:h.get? x=some o) (hc:o.cls=.ref C) (hnc:∀c,o.data≠.cls c) (NK:o.dict=none)
  (hq:∀h' H9,(∀b ob,b≠x->h.get? b=some ob->h'.get? b=some ob)->h'.get? x=some {o with dict:=some h.objs.size}->h'.Ns1 h.objs.size (λy=>if y=name then some v else none)->Q (.done (.ret .none)) ⟨h',g,d,H9,os⟩) :
  wpAny (model prog w) A (Builtin.«object.__setattr__» ⟨[.ref x,.str name tk,v],[]⟩) Q E ⟨h,g,d,t,os⟩:=by
 unfold Builtin.«object.__setattr__»
 repeat (first | rw[refuse_eq] | (rw[refuseLoop_ref,BH]) | (with_reducible refine J_ hx ?_;rw[hc]) | with_reducible refine wpAny_mroOf_exc hC ?_ | with_reducible refine mN.at ?_ | wp_step)
 rw[NK,j_ (by simp[typeHasDict])]
 split
 .rename_i eC;cases eC
 split
 .rename_i c eC;exact absurd eC (hnc c)
 .have O9:(h.push {cls:=.type "dict",data:=.dict #[]}).get? x=some o:=d_ _ hx;have hxs:x≠h.objs.size:=x_ (k_ hx);refine b_ (wpAny_alloc' ?_);refine b_ (wpAny_update' O9 ?_);refine o_ ?_;have hgd:((h.push {cls:=.type "dict",data:=.dict #[]}).update x λo=>{cls:=o.cls,dict:=some h.objs.size,data:=o.data,slots:=o.slots}).get? h.objs.size
    = some {cls:=.type "dict",data:=.dict #[]}:=
   (Heap.get?_update_ne _ _ _ _ hxs.symm).trans (Heap.get?_push_at rfl rfl)
  have hnd:((h.push {cls:=.type "dict",data:=.dict #[]}).update x λo=>{cls:=o.cls,dict:=some h.objs.size,data:=o.data,slots:=o.slots}).Ns h.objs.size (λ_=>none):=
   ⟨_,#[],_,hgd,rfl,λe he=>absurd he (by simp),λ_=>rfl⟩
  show wpAny _ _ (storeInDict h.objs.size (.str name tk) name v) _ _ _;unfold storeInDict newKeyGuard;refine b_ (o_ (b_ (wpAny_nsSet1 (Heap.Ns1.of_empty hnd) λh' HM hs=>?_)));obtain⟨oD,esD,epD,hoD,hdD,hcD⟩:=HM.count (Within.cons name v Within.nil);refine b_ (wpAny_lookBehind hoD (by rw[hdD];exact pastItsLine_dict (w_ hcD (by rw[z_,L_,P6];lia))) ?_)
  wp_walk
  refine hq h' _ (λb ob hbx hb=>?_) ?_ HM
  .exact(hs.2 b (x_ (k_ hb))).trans ((Heap.get?_update_ne _ _ _ _ hbx).trans (d_ _ hb))
  .refine(hs.2 x hxs).trans (Qn _ O9 ?_);have hfr:=(Heap.get?_some_iff.mp hx).2;obtain⟨oc,od,odt,rm⟩:=o;cases odt<;>first | rfl | exact hfr
theorem store_attr(Z:Tl bm)
  (hC:h.get? C=some (de nm q C N bs bm sn sub ab col dd k0 k1 k2 k3 k5)) (BH:refuseLoop (.ref x) "__setattr__" bm=pure ()) (Lh:Looks (model prog w) h (typeLookup (.ref C) "__setattr__") (some (.builtin "object.__setattr__"))) (mN:Looks (model prog w) h (typeLookup (.ref C) name) none)
  (hx:h.get? x=some o) (hc:o.cls=.ref C) (hnc:∀c,o.data≠.cls c) (NK:o.dict=none)
  (hq:∀h' H9,(∀b ob,b≠x->h.get? b=some ob->h'.get? b=some ob)->h'.get? x=some {o with dict:=some h.objs.size}->h'.Ns1 h.objs.size (λy=>if y=name then some v else none)->Q () ⟨h',g,d,H9,os⟩) :
  wpAny (model prog w) A (setAttr (.ref x) name v) Q E ⟨h,g,d,t,os⟩:=by
 have SF:=PySem.F.store_object;have f3:=SF.slot.bind (.ref x);unfold setAttr callSpecial? specialOf
 repeat (any_goals (first | assumption | (with_reducible refine J_ hx ?_;rw[hc]) | with_reducible refine Lh.at ?_ | wp_step))
 refine Sb SF.slot.plain SF.entry (Ar Z hC hx hc (store_entry hC BH mN hx hc hnc NK λh' H9 k1 k2 k3=>?_))
 repeat (any_goals (first | assumption | wp_step))
 exact hq h' H9 k1 k2 k3
end
end Xc
namespace Xc
open PySem PySem.Spec PyProof.Rows L2
def Raw(e C:Tv):Tr->Prop:=λh=>∃vs t0,h.get? e=some {cls:=.ref C,data:=.fields vs}/\vs.size=6/\vs[0]?=some (.ref t0)/\vs[1]?=some .none
def Full(e C dx:Tv):Tr->Prop:=λh=>∃vs,h.get? e=some {cls:=.ref C,dict:=some dx,data:=.fields vs}/\vs.size=6/\vs[1]?=some .none
theorem nW:∀h1 h2:Tr,Raw e C h1->(∀o,h1.get? e=some o->h2.get? e=some o)->Raw e C h2:=λh1 h2 ⟨vs,t0,a,b⟩ k=>⟨vs,t0,k _ a,b⟩
theorem uu:∀h1 h2:Tr,Full e C dx h1->(∀o,h1.get? e=some o->h2.get? e=some o)->Full e C dx h2:=λh1 h2 ⟨vs,a,b⟩ k=>⟨vs,k _ a,b⟩
structure EC(K:PySem.W.Frag)(C HE fI:Addr):Prop where
 lk:∃nm q N bs sn sub ab col dd k0 k1 k2 k3 k5,K.lookup C=some (de nm q C N bs (.ref HE::bmV) sn sub ab col dd k0 k1 k2 k3 k5)
 ini:PySem.W.findIn K (.ref C) "__init__"=some (some (.ref fI))
 fn:∃o,K.lookup fI=some o/\o.cls=.type "function"
 sa:PySem.W.findIn K (.ref C) "__setattr__"=some (some (.builtin "object.__setattr__"))
 ce:PySem.W.findIn K (.ref C) "cell"=some none
 kp:PySem.W.keepIn K (.ref C)=true
theorem Bc(x:String):(Value.ref HE::bmV).contains (.type x)=bmV.contains (.type x):=by rw[I_];rfl
theorem uN:Tl (.ref HE::bmV):=⟨(Bc _).trans @1,(Bc _).trans @1,(Bc _).trans @1,(Bc _).trans @1,(Bc _).trans @1⟩
theorem FP(h:H a=some o):upd H a o=H:=by
 funext b;unfold upd;split
 .rename_i e;rw[e,h]
 .rfl
section
variable {X:Cx}{pos apos p:Pos}{e:Tz}{es:Td}{ta:TA}
def FN(K:Tj)(ta:TA):TE:=λσ H Q=>ta σ H λvs H1=>∃e wd C HE fI,vs=[.ref e,wd]/\H1 e=some (.ext (Raw e C))/\EC K C HE fI/\Q .non H1
theorem vt:typeOf (.type "ValueError")=pure (.type "type"):=by kernel_rfl
theorem PJ:Manifest.isStub "ValueError"=false:=by decide +kernel
theorem JX(K:Tj):PySem.W.findCls K (.type "ValueError") (.type "type") "__init__"=some (.val (.builtin "ValueError.__init__")):=by
 kernel_rfl
theorem zC(hm:X.mg "ValueError"=none)(ha:PA X (e::es) ta)(hg:Gl X "ValueError":=by rfl)
  (he:starEach (e::es) X.env=(false,eval e X.env)::starEach es X.env:=by rfl) (gI:(backTo pos (starEach es X.env)).any (·.1)=false:=by rfl)
  (ht:eval (.Call (.Attribute (.Name "ValueError" p) "__init__" apos) (e::es) [] pos) X.env=(do
   let ov <- eval (.Name "ValueError" p) X.env
   standAt apos.atName
   let (f,first) <- holding [ov] (getMethod ov "__init__" pl)
   callWith pos f first (backTo pos (starEach (e::es) X.env)) (backToKw pos (keywordEach [] X.env))):=by rfl) :
  PE X (.Call (.Attribute (.Name "ValueError" p) "__init__" apos) (e::es) [] pos) (FN X.K ta):=by
 intro pins s σ H Q I h;refine PySem.W.methodCall_KW (pl:=pl) (fY I hg hm (u:=.type "ValueError") (by decide +kernel) ?_) ht;obtain⟨m,F⟩:=I.fr;refine PySem.W.method_type F I.ok.mod.kin vt PJ (JX X.K) (by decide +kernel) ?_;refine R8 (bx (ha pos pins _ σ H _ (I.tok _) h) λus s1 aA=>?_) he gI;obtain⟨vs,H1,I1,r1,ex,wd,C,HE,fI,ev,hx,ec,q1⟩:=aA;subst ev;obtain⟨u0,us',rfl,r0,r1⟩:∃u0 us',us=u0::us'/\RelV (.ref ex) u0/\aC [wd] us':=by cases r1 with | cons a b=>exact⟨_,_,rfl,a,b⟩
 obtain rfl:u0=Value.ref ex:=r0;obtain⟨O',t0,g1,g2,g3,g4⟩:=(show bO X.prog X.w H1 s1.heap ex (.ext (Raw ex C))from I1.hok ex _ hx).1;obtain⟨nm,q,N,bs,sn,sub,ab,col,dd,k0,k1,k2,k3,k5,lk⟩:=ec.lk;obtain⟨hh,g,d,tk,os⟩:=s1;refine zq (uN (HE:=HE)) (I1.kIn _ _ lk) g1 rfl rfl g3 (by have:=r1.length;simp at this;rw[this,P6];lia) λh' tp hk BE=>?_;refine⟨.non,H1,?_,rfl,q1⟩;have nw:Raw ex C h':=⟨_,tp,BE,by simpa using g2,by simp[g2],by simp[g4]⟩;have:=I1.write (x:=ex) (e:=ex) (o:=.ext (Raw ex C)) (h':=h') (t':=tk) (by rw[hx];exact True.intro) (.inl rfl) (λb u hb z=>hk b u hb z) ⟨_,BE⟩ ⟨nw,⟨_,BE⟩,nW⟩;rwa [FP hx]at this
end
section
variable {X:Cx}{pos pos' apos p:Pos}{e o value:Tz}{es:Td}{ta tv:TE}
def Jh(K:Tj)(ta tv:TE):TS:=λD σ H=>tv σ H λy H1=>ta σ H1 λx H2=>∃e C HE fI,x=.ref e/\H2 e=some (.ext (Raw e C))/\EC K C HE fI/\
 ∀dx,H2 dx=none->dx≠e->D.nx σ (upd (upd H2 e (.ext (Full e C dx))) dx (.xd [("cell",y)]))
theorem DL{H:Hp}{fs:Tc}{h h':Tr}{e C dx:Tv}{y:V}(hx:H e=some (.ext (Raw e C)))(hd:h.get? dx=none)(hH:H dx=none)(hk:∀b u,b≠e->h.get? b=some u->h'.get? b=some u)(he:∃u,h'.get? e=some u) :
  Un fs [] H (upd (upd H e (.ext (Full e C dx))) dx (.xd [("cell",y)])) h h' where
 keep:=λb o q n _ _=>hk b o (λz=>by rw[z,hx]at n;cases n) q
 slot:=λb o q n _ _=>⟨o.slots,hk b o (λz=>by rw[z,hx]at n;cases n) q⟩
 free:=λb o q n _=>by
  rw[ay (λz=>by rw[z,hd]at q;cases q),ay (λz=>by rw[z,hx]at n;cases n)];exact n
 there:=λb o q _=>by
  by_cases z:b=e
  .rw[z];exact he
  .exact⟨o,hk b o z q⟩
 tups:=λb xs q=>by rw[ay (λz=>by rw[z,hH]at q;cases q),ay (λz=>by rw[z,hx]at q;cases q)];exact q
 frzs:=λb o u q=>by rw[ay (λz=>by rw[z,hH]at q;cases q),ay (λz=>by rw[z,hx]at q;cases q)];exact q
 tbls:=λb ps q=>⟨#[],by rw[ay (λz=>by rw[z,hH]at q;cases q),ay (λz=>by rw[z,hx]at q;cases q),Array.append_empty];exact q⟩
theorem Dq(ha:PE X o ta)(hv:PE X value tv)(hs:swapsWith value (some (.Attribute o "cell" pos')) pos.line X.env=pure false):PS X (.Assign [.Attribute o "cell" pos'] value pos) (Jh X.K ta tv):=by
 intro pins s σ H D I h;refine plainObj_wpAny_Assign_Attribute (bx (hv pins s σ H _ I h) λu s1 ⟨y,H1,I1,ry,q⟩=>bx (ha pins s1 σ H1 _ I1 q) λov s2 aA=>?_) hs;obtain⟨x,H2,I2,rx,ex,C,HE,fI,ee,hx,ec,q2⟩:=aA;subst ee;obtain rfl:ov=Value.ref ex:=rx;obtain⟨O',t0,g1,g2,g3,g4⟩:=(show bO X.prog X.w H2 s2.heap ex (.ext (Raw ex C))from I2.hok ex _ hx).1;obtain⟨nm,q',N,bs,sn,sub,ab,col,dd,k0,k1,k2,k3,k5,lk⟩:=ec.lk;have kin:=I2.kIn;obtain⟨hh,g,d,tk,os⟩:=s2;have w9:H2 hh.objs.size=none:=I2.hok.fresh (m_ _);have hne:hh.objs.size≠ex:=λz=>by have:=k_ g1;rw[<- z]at this;exact absurd this (QW _)
 refine store_attr (uN (HE:=HE)) (kin _ _ lk) (by rw[refuseLoop_ref];exact PySem.F.store_ValueError.passes _) (QP kin ec.sa) (QP kin ec.ce) g1 rfl (λc z=>by cases z) rfl λh' H9 hk he hn=>?_;refine⟨σ,_,I2.un (h':=h') (t':=H9) (DL (C:=C) (y:=y) hx (Qf (m_ _)) w9 hk ⟨_,he⟩) ?_,q2 _ w9 hne⟩;intro a oa hoa
 by_cases z1:a=hh.objs.size
 .subst z1;rw[aw]at hoa;cases hoa;refine⟨_,hn,λf=>?_⟩
  by_cases zf:f="cell"
  .subst zf;rw[g_ rfl];exact ry
  .rw[j_ zf];have:List.lookup f [("cell",y)]=none:=by
    rw[Qt];have:(f=="cell")=false:=by simpa using zf
    rw[this];rfl
   rw[this];exact True.intro
 .rw[ay z1]at hoa
  by_cases z2:a=ex
  .subst z2;rw[aw]at hoa;cases hoa;exact⟨⟨O',he,g2,g4⟩,⟨_,he⟩,uu⟩
  .rw[ay z2]at hoa;refine(I2.hok a oa hoa).stay (λb u hb hu=>hk b u (λz=>?_) hu) (λb hb=>?_) λb xs hb=>?_
   .rcases hb with hb | hb
    .exact z2 (hb▸z)
    .rw[z,hx]at hb;cases hb
   .rw[ay (λz=>by rw[z,w9]at hb;cases hb),ay (λz=>by rw[z,hx]at hb;cases hb)];exact hb
   .rw[ay (λz=>by rw[z,w9]at hb;cases hb),ay (λz=>by rw[z,hx]at hb;cases hb)];exact hb
theorem forget{pins:S3}{σ:L2.St}{H:Hp}{s:To}{e:Tv}{φ:Tr->Prop}(I:Inv X pins σ H s)(hx:H e=some (.ext φ))(hn:X.s₀.heap.get? e=none):Inv X pins σ (λb=>if b=e then none else H b) s:=by
 have ne:∀{b:Tv}{o:HO},H b=some o->o≠.ext φ->b≠e:=λ{b o} h1 h2 z=>by rw[z,hx]at h1;exact h2 (Option.some.inj h1).symm
 have kp:∀{b:Tv},b≠e->(λb=>if b=e then none else H b) b=H b:=λ{b} z=>j_ z;have nn:∀{b:Tv},H b=none->(λb=>if b=e then none else H b) b=none:=λ{b} z=>by
  show(if b=e then none else H b)=none
  split
  .rfl
  .exact z
 refine⟨I.ok,I.os,I.bare,⟨I.base.keep,I.base.slot,λb o q n hxx=>nn (I.base.free b o q n hxx),I.base.there,λb xs q=>?_,λb o u q=>?_,λb ps q=>?_⟩,I.loc,I.cell,nn I.free,λx c hc=>nn (I.freeC x c hc),λp hp=>?_,λa oa ha=>?_,I.len⟩
 .have:=I.base.tups b xs q;exact(kp (ne this (by intro z;cases z))).trans this
 .have:=I.base.frzs b o u q;exact(kp (ne this (by intro z;cases z))).trans this
 .obtain⟨more,h2⟩:=I.base.tbls b ps q;exact⟨more,(kp (ne h2 (by intro z;cases z))).trans h2⟩
 .obtain⟨a1,a2,a3⟩:=I.pin p hp;exact⟨a1,nn a2,a3⟩
 .have hae:a≠e:=λz=>by
   have:(if a=e then none else H a)=some oa:=ha;rw[g_ z]at this;cases this
  have ha':H a=some oa:=(kp hae).symm.trans ha;exact(I.hok a oa ha').stay (λb u _ hu=>hu) (λb hb=>(kp (ne hb (by intro z;cases z))).trans hb) λb xs hb=>(kp (ne hb (by intro z;cases z))).trans hb
end
end Xc
namespace Xc
open PySem PySem.Spec
section
variable {M:Model}{A:Tq}{E:S2}{env:Env}
variable {nm q:Str}{C N:Tv}{bs bm:S9}{sn:Tb}{sub:S9}{ab:Bool}{col:Option Bool}{dd:Ta}{k0 k1 k2 k3 k5:S_}
theorem vj(Z:Tl bm)(hh:A.handled=none)
  (h:wpAny M A x (λv s₁=>∃e dx vs,v=.ref e/\s₁.heap.get? C=some (de nm q C N bs bm sn sub ab col dd k0 k1 k2 k3 k5)/\
   s₁.heap.get? e=some {cls:=.ref C,dict:=dx,data:=.fields vs}/\vs[1]?=some .none/\E (.ref e) s₁) E s) :
  wpAny M A (raiseStmt env (some x) none) Q E s:=by
 have BF:(Value.ref C::bm).contains (.type "BaseException")=true:=by rw[I_,Z.b,Qw]
 unfold raiseStmt;refine b_ (P4 h (λv s₁ h₁=>?_) λ_ _ x=>x);obtain⟨e,dx,vs,rfl,hC,he,hv,hE⟩:=h₁;obtain⟨hp,g,d,tk,os⟩:=s₁
 repeat (first | with_reducible refine J_ he ?_ | with_reducible refine J_ hC ?_ | (with_reducible refine Qk hC ?_;rw[BF]) | (with_reducible refine P1 he rfl hv ?_) | wp_step)
 exact wpAny_raiseNew_none hh hE
end
end Xc
namespace Xc
open PySem PySem.Spec PyProof.Rows L2
def JF(K:Tj)(HE fI:Tv):Sp:=λvs H Q _=>∃e C wd cv,vs=[.ref e,wd,cv]/\EC K C HE fI/\H e=some (.ext (Raw e C))/\∀dx,H dx=none->dx≠e->Q .non (upd (upd H e (.ext (Full e C dx))) dx (.xd [("cell",cv)]))
def Mp:TC->Te
 | .ClassDef _ _ _ b _ _ _ _ _ _ _=>b
 | _=>[]
section
variable {X:Cx}{k:Nat}{pos bU p:Pos}{c:Str}{a:Tz}{es:Td}{ta:TA}{dvs:TQ}{ds:S9}{fd:Tt}{HE C fI:Tv}
def v8(X:Cx)(σ:L2.St)(C:Tv)(R:Tv->Hp->Prop):Prop:=∀(pins:S3)(H:Hp)(s:To)(e dx:Tv),Inv X pins σ H s->X.s₀.sz<=e->H e=none->Rec X.s₀.heap s.heap H e C dx->R dx H->X.xe (.ref e) s
def Gf(X:Cx)(C:Tv)(dvs:TQ)(ta:TA):TS:=λ_ σ H=>ta σ H λvs H1=>∃wd cv,vs++dvs=[wd,cv]/\v8 X σ C λdx H2=>H1 dx=none/\H2=upd H1 dx (.xd [("cell",cv)])
theorem Kj(I:Inv X pins σ H s)(h:s.sz<=e):X.s₀.heap.get? e=none:=Qf (w_ I.sz h)
theorem zL(ec:EC X.K C HE fI)(F:dM X.prog X.w X.K X.mg X.base kO k fI fd ["self","words","cell"] (JF X.K HE fI))(hr:bG (k+1) X.A)(hg:Gl X c)(hm:X.mg c=some (.ref C))(hb:Binds X.K fd ["self","words","cell"] ds)(hd:aC dvs ds)
  (ha:PA X (a::es) ta) (jG:(c==("__debug__":Str))=false:=by decide) (he:starEach (a::es) X.env=(false,eval a X.env)::starEach es X.env:=by rfl) (gI:(backTo bU (starEach es X.env)).any (·.1)=false:=by rfl) :
  PS X (.Raise (some (.Call (.Name c p) (a::es) [] bU)) none pos) (Gf X C dvs ta):=by
 intro pins s σ H D I h;obtain⟨nm,q,N,bs,sn,sub,ab,col,dd,k0,k1,k2,k3,k5,lk⟩:=ec.lk;obtain⟨oI,lkI,fc⟩:=ec.fn;rw[arm_exec_Raise];refine b_ (Qy (vj (C:=C) (nm:=nm) (q:=q) (N:=N) (bs:=bs) (bm:=.ref HE::bmV) (sn:=sn) (sub:=sub) (ab:=ab) (col:=col) (dd:=dd) (k0:=k0) (k1:=k1) (k2:=k2) (k3:=k3) (k5:=k5) uN hr.hd ?_));refine b_ (P4 ?_ (λv s₁ hv=>b_ (Qy (o_ hv))) λ_ _ x=>x);refine QM (ij I hg hm ?_ jG);refine Rf I.ok.mod.kin ec.kp (bx (ha bU pins s σ H _ I h) λus s1 ⟨vs,H1,I1,r,wd,cv,ev,W⟩=>⟨I1.kIn,?_⟩) he gI;have kin:=I1.kIn;have e0:=I1.env0;have OV:vs.length<=2:=by have:=QO List.length ev;simp at this;lia
 have hus:us.length<=sizeLine:=by rw[<- r.length,P6];lia
 obtain⟨hh,g,d,tk,os⟩:=s1;refine zT (uN) (kin _ _ lk) (QP kin ec.ini) (kin _ _ lkI) fc (λh' e hm' hz=>?_) hus;obtain⟨t0,Pa,_,_⟩:=hm'.there;have Pb:H1 e=none:=I1.hok.fresh hz;have hne:=Kj I1 hz;have I2:Inv X pins σ (upd H1 e (.ext (Raw e C))) ⟨h',g,d,tk,os⟩:=I1.laid hm'.keeps hz ⟨⟨_,t0,Pa,rfl,rfl,rfl⟩,⟨_,Pa⟩,nW⟩;have r2:aC (V.ref e::(vs++dvs)) (Value.ref e::(us++ds)):=.cons rfl (r.append hd);have lE:JF X.K HE fI (.ref e::(vs++dvs)) (upd H1 e (.ext (Raw e C))) (λv H2=>v=.non/\∃dx,H1 dx=none/\dx≠e/\H2=upd (upd (upd H1 e (.ext (Raw e C))) e (.ext (Full e C dx))) dx (.xd [("cell",cv)])) E0:=by
  refine⟨e,C,wd,cv,by rw[ev],ec,aw,λdx h1 h2=>⟨rfl,dx,?_,h2,rfl⟩⟩;rwa [ay h2]at h1
 have hl:(Value.ref e::us++ds).length=["self","words","cell"].length:=by
  have e1:=r2.length;rw[F.len _ _ _ _ lE]at e1;exact e1.symm
 refine Sl (Rz (F.run _ X.stack _ _ ⟨Value.ref e::us,[]⟩ (Value.ref e::(us++ds)) _ _ E0 (hr.make C us []) (I2.env0.make C us []) (hb _ (Value.ref e::us) I2.kIn hl) r2 lE) λr s' BI=>?_);cases r with
 | error x=>exact False.elim BI
 | ok fl=>
  cases fl with
  | ret u=>
   refine glG λ_ kq=>?_;obtain⟨v,H',I3,rv,ev',dx,d1,d2,rfl⟩:=I2.after BI;subst ev';have hF:Full e C dx s'.heap:=(show bO X.prog X.w _ s'.heap e (.ext (Full e C dx))from I3.hok e _ (by rw[ay d2.symm,aw])).1;obtain⟨L5,f1,f2,f3⟩:=hF;have I4:=forget I3 (φ:=Full e C dx) (by rw[ay d2.symm,aw]) hne;have hH:(λb=>if b=e then none else upd (upd (upd H1 e (.ext (Raw e C))) e (.ext (Full e C dx))) dx (.xd [("cell",cv)]) b)=upd H1 dx (.xd [("cell",cv)]):=by
    funext b
    by_cases z:b=e
    .subst z;rw[g_ rfl,ay d2.symm,Pb]
    .rw[j_ z]
     by_cases z2:b=dx
     .subst z2;rw[aw,aw]
     .rw[ay z2,ay z2,ay z,ay z]
   rw[hH]at I4;refine kq (⟨rv,e,some dx,L5,rfl,I3.kIn _ _ lk,f1,f3,W pins _ s' e dx I4 (w_ I1.sz hz) (by rw[ay d2.symm,Pb]) ⟨_,L5,f1,rfl,rfl,rfl,by lia,.inl f3⟩ ⟨d1,rfl⟩⟩)
  | next=>exact False.elim BI
  | brk=>exact False.elim BI
  | cont=>exact False.elim BI
end
def ET(P:Tp)(w:Ts):CXT:=λouter H s E ev s'=>∃e C dx,ev=.ref e/\s.sz<=e/\CE outer P w H s (λ_ H'=>H' e=none/\Rec s.heap s'.heap H' e C dx/\E (.ref C) (some dx) H') .none s'
theorem Rec.mono(r:Rec s0 h H e C dx)(k:s1.objs.size<=s0.objs.size):Rec s1 h H e C dx:=by
 obtain⟨oe,vs,a,b,c,d,e',f⟩:=r;refine⟨oe,vs,a,b,c,d,e',f.imp id ?_⟩;rintro⟨T,oT,ts,t1,t2,t3,t4⟩;exact⟨T,oT,ts,t1,t2,w_ k t3,t4⟩
section
variable {X:Cx}{pins:S3}{σ:L2.St}{H:Hp}{s:To}
theorem wB(F:dM X.prog X.w X.K X.mg X.base (ET X.prog X.w) k f fd ps sp)(hr:bG k X.A)(hb:Binds X.K fd ps ds)(hd:aC dvs ds)
  (I:Inv X pins σ H s) (r:aC vs us) (h:sp (vs++dvs) H Q E) (hx:∀C,v8 X σ C λdx H'=>E (.ref C) (some dx) H'):wpAny @2 X.A (call (.ref f) us) (EP X pins σ Q) X.xe s:=by
 have r2:aC (vs++dvs) (us++ds):=r.append hd;have hl:(us++ds).length=ps.length:=by rw[<- r2.length];exact F.len _ _ _ _ h
 refine Sl (Rz (F.run X.A X.stack s H ⟨us,[]⟩ (us++ds) (vs++dvs) Q E hr I.env0 (hb s us I.kIn hl) r2 h) λr s' hq=>?_);cases r with
 | error e=>
  obtain⟨e,C,dx,rfl,hn,hc⟩:=(show ET X.prog X.w X.stack H s E _ s' from hq);obtain⟨v,H',I',_,h1,h2,h3⟩:=I.after hc;exact hx C pins H' s' e dx I' (w_ I.sz hn) h1 (h2.mono I.sz) h3
 | ok fl=>
  cases fl with
  | ret u=>exact I.after hq
  | next=>exact False.elim hq
  | brk=>exact False.elim hq
  | cont=>exact False.elim hq
end
theorem zX(u:Un fs [] H0 H h0 h)(BE:h0.objs.size<=e)(Li:h0.objs.size<=L)(hT':∀T,T'=some T->h0.objs.size<=T)
  (k1:∀b o,b∉L::fs->b≠e->T'≠some b->h.get? b=some o->h'.get? b=some o) (k2:∀b o,b∈L::fs->h.get? b=some o->∃sl,h'.get? b=some {o with slots:=sl}):Un fs [] H0 H h0 h':=by
 have he:=Qf BE;have hL:=Qf Li;have hT:∀T,T'=some T->h0.get? T=none:=λT z=>Qf (hT' T z);have ne:∀{b:Tv}{o:Obj},h0.get? b=some o->b≠L/\b≠e/\T'≠some b:=λ{b o} q=>⟨λz=>(by rw[z,hL]at q;cases q),λz=>(by rw[z,he]at q;cases q),λz=>(by rw[hT b z]at q;cases q)⟩;refine⟨λb o q n hf hx=>?_,λb o q n hf hx=>?_,u.free,λb o q hx=>?_,u.tups,u.frzs,u.tbls⟩
 .obtain⟨a1,a2,a3⟩:=ne q;exact k1 b o (λz=>by rcases p_.mp z with z | z;(· exact a1 z);exact hf z) a2 a3 (u.keep b o q n hf hx)
 .obtain⟨sl,e1⟩:=u.slot b o q n hf hx;obtain⟨KD,e2⟩:=k2 b _ (e_ _ hf) e1;exact⟨KD,e2⟩
 .obtain⟨o',e1⟩:=u.there b o q hx;obtain⟨a1,a2,a3⟩:=ne q
  by_cases z:b∈L::fs
  .obtain⟨sl,e2⟩:=k2 b o' z e1;exact⟨_,e2⟩
  .exact⟨o',k1 b o' z a2 a3 e1⟩
theorem j8(hok:kY P w H h)(k:∀b o,(∃u,H b=some u)->h.get? b=some o->h'.get? b=some o):kY P w H h':=λa oa ha=>
 (hok a oa ha).stay (λb u hb hu=>k b u (by rcases hb with hb | hb;(· exact⟨_,hb▸ha⟩);exact⟨_,hb⟩) hu) (λ_ z=>z) λ_ _ z=>z
theorem tE{P:Tp}{w:Ts}{K:Tj}{mg:S5}{base:Tr}{N:Tb}{qual:Str}{scope:Tu}{f:Tv}{cd:Tn}{A:Tq}{outer:List Env}{s:To}{H:Hp}{E:XK}(σ:L2.St)(C:Tv) :
  v8 (ft (ET P w) P w K mg base N qual scope f cd A outer s H E) σ C λdx H'=>E (.ref C) (some dx) H':=by
 intro pins H1 s1 e dx I hn h1 hr hE;have hstk:s1.heap.FunFrames base (envOfC qual scope s.sz f cd::outer):=I.stack;have hfr:(A.deeper (envOfC qual scope s.sz f cd)).frames=some (envOfC qual scope s.sz f cd::outer):=I.ok.frames;show wpAny (model P w) (A.deeper (envOfC qual scope s.sz f cd)) (leaving (envOfC qual scope s.sz f cd) (.ref e)) _ _ s1;refine AL (s0h:=s.heap) (H:=H1) hfr hstk (L:=s.sz) rfl hr I.sz (λb hb=>I.hok.fresh hb) λh' T' hT k1 k2 BJ=>?_;have hstf:∀b∈kS (envOfC qual scope s.sz f cd::outer),H1 b=none:=I.stkFree;refine⟨e,C,dx,rfl,hn,.non,H1,I.os,I.bare,zX (L:=s.sz) (T':=T') (e:=e) I.base hn (m_ _) (λT z=>(hT T z).1) k1 k2,j8 I.hok λb o ⟨u,hu⟩ hb=>k1 b o (λz=>by rw[hstf b z]at hu;cases hu) (λz=>by rw[z,h1]at hu;cases hu) (λz=>by rw[(hT b z).2]at hu;cases hu) hb,rfl,h1,BJ,hE⟩
end Xc
namespace Xc
open PySem
open Sem (wp)
open PySem.W (Looks Frag InstAt)
section
variable {prog:Tp}{w:Ts}{A:Tq}{E:S2}{h:Tr}{g:Array GenState}{d:Drawn}{t:Nat}{os:OsState}{a:Tv}{o:Obj}
 {nm q:Str} {C N:Tv} {bs bm:S9} {sn:Tb} {sub:S9} {ab:Bool} {col:Option Bool} {dd:Ta} {k0 k1 k2 k3 k5:S_} {K:Frag} {od:Obj}
structure EA(K:Frag)(C:Addr):Prop where
 ga:PySem.W.findIn K (.ref C) "__getattribute__"=some (some (.builtin "BaseException.__getattribute__"))
 gt:PySem.W.findIn K (.ref C) "__getattr__"=some none
 cl:PySem.W.findIn K (.ref C) "__class__"=some (some (.builtin "object.__class__"))
 mo:PySem.W.mroIn K C (.type "object")=some true
theorem zE(Z:Tl bm)(hC:h.get? C=some (de nm q C N bs bm sn sub ab col dd k0 k1 k2 k3 k5))
  (hx:h.get? a=some o) (hc:o.cls=.ref C) (hq:Q () ⟨h,g,d,t,os⟩):wpAny M A (checkBuiltinCall "BaseException.__getattribute__" ⟨[.ref a,BG],[]⟩) Q E ⟨h,g,d,t,os⟩:=by
 have hk:builtinKind "BaseException.__getattribute__"=some .slot:=by decide +kernel
 have hsplit:splitId "BaseException.__getattribute__"=some ("BaseException","__getattribute__"):=by decide +kernel
 have BF:(Value.ref C::bm).contains (.type "BaseException")=true:=by rw[I_,Z.b,Qw]
 have ha:=F.args_bexc_ga (.ref a) BG;simp only[checkBuiltinCall,hk,hsplit];refine b_ ?_
 .unfold isInstance
  repeat (first | (with_reducible refine J_ hx ?_;rw[hc]) | (with_reducible refine Qk hC ?_;rw[BF]) | wp_step)
  exact hq
theorem tQ(X:K.In h)(ea:EA K C)(I:InstAt h a o C (some od))(hq:Q (.done (.ret (.ref C))) ⟨h,g,d,t,os⟩) :
  wpAny (model prog w) A (Builtin.«object.__getattribute__» ⟨[.ref a,.str "__class__" tk],[]⟩) Q E ⟨h,g,d,t,os⟩:=by
 have hT5:(⟨h,g,d,t,os⟩:To).TypeIs (.builtin "object.__class__") "getset_descriptor":=F.typeOf_object_class;have f5:=F.typeOf_object_class;have f6:=F.slot_gs_get.lookup;have f7:=F.slot_gs_set.lookup;have hx:=I.at_;have hc:=I.cls;have L:=QP (M:=model prog w) X ea.cl
 repeat (any_goals (first | assumption | (with_reducible refine J_ hx ?_;rw[hc]) | with_reducible refine L.at ?_ | wp_step))
 exact PySem.W.class_get (s:=⟨h,g,d,t,os⟩) X I ea.mo (o_ hq)
theorem uo(Z:Tl bm)(hC:h.get? C=some (de nm q C N bs bm sn sub ab col dd k0 k1 k2 k3 k5))(X:K.In h)(ea:EA K C)(I:InstAt h a o C (some od))(hq:Q (some (.ref C)) ⟨h,g,d,t+1,os⟩) :
  wpAny (model prog w) A (getAttr? (.ref a) "__class__") Q E ⟨h,g,d,t,os⟩:=by
 have FB:=PySem.F.excAttr_ValueError;have f3:=FB.ga.bind (.ref a);have hx:=I.at_;have hc:=I.cls;have hx2:(Value.builtin "BaseException.__getattribute__"==Value.builtin "object.__getattribute__")=false:=by decide +kernel
 have hx1:(onTheHeap (Value.ref C)&&Value.builtin "BaseException.__getattribute__"==Value.builtin "object.__getattribute__")=false:=by rw[hx2];rfl
 have L1:=QP (M:=model prog w) X ea.ga;have L2:=QP (M:=model prog w) X ea.gt;unfold getAttr? getAttrBy?
 repeat (any_goals (first | assumption | (with_reducible refine J_ hx ?_;rw[hc]) | with_reducible refine L1.at ?_ | with_reducible refine L2.at ?_ | with_reducible refine Sa ?_ | wp_step))
 refine Sb FB.ga.plain F.entry_bexc_ga (zE Z hC hx hc (tQ X ea I ?_))
 repeat (any_goals (first | assumption | wp_step))
end
end Xc
namespace Xc
open PySem PySem.Spec PyProof.Rows L2
open PySem.W (Looks Frag KitX)
section
variable {K:Frag}{x C:Tv}
theorem zd(Z:Tl bm)(lk:K.lookup C=some (de nm q C N bs bm sn sub ab col dd k0 k1 k2 k3 k5))(ea:EA K C) :
  KitX K (.ref x) (.ref C) (λh=>∃ox od,PySem.W.InstAt h x ox C (some od)) where
 ty:=λ_ _ _ ⟨_,_,I⟩=>I.type
 it:=λ_ _ X _=>by
  intro A' Q' E' s' k q;unfold isType loadHead;exact b_ (wpAny_loadPart (k _ _ (X _ _ lk)) (o_ q))
 ne:=λh tp dd bo n sl X htp=>by
  refine Bool.eq_false_iff.mpr λq=>?_;have e:C=tp:=Value.ref.inj (RO.mp q);subst e;have z:=QO (λo:Option Obj=>o.map (·.data)) ((X _ _ lk).symm.trans htp);cases z
 ca:=λ{prog w A E Q s} X ⟨ox,od,I⟩ k=>by
  obtain⟨hh,g,d,t,os⟩:=s;exact uo Z (X _ _ lk) X ea I k
end
def yf(e C dx:Tv):Tr->Prop:=λh=>∃oe,h.get? e=some oe/\oe.cls=.ref C/\oe.dict=some dx/\PySem.W.notCls oe=true
theorem uF:∀h1 h2:Tr,yf e C dx h1->(∀o,h1.get? e=some o->h2.get? e=some o)->yf e C dx h2:=λh1 h2 ⟨oe,a,b⟩ k=>⟨oe,k _ a,b⟩
def z8(H:Hp)(v:V)(C:Tv):Prop:=∃e dx fs,v=.ref e/\H e=some (.ext (yf e C dx))/\H dx=some (.xd fs)
section
variable {X:Cx}{pos p p2 p3:Pos}{l:Tz}{ta:TE}{D:Tv}
theorem tq:dG X (.builtin "isinstance") (λxs H Q=>∃x cv u C b,xs=[x,cv]/\RelV cv u/\(∀u',RelV cv u'->u'=u)/\z8 H x C/\(∃nm q N bs bm sn sub ab col dd k0 k1 k2 k3 k5,Tl bm/\X.K.lookup C=some (de nm q C N bs bm sn sub ab col dd k0 k1 k2 k3 k5))/\EA X.K C/\PySem.W.kitOne X.K (.ref C) u=some b/\Q (.bl b) H):=by
 intro pins s σ H xs us Q I r h;obtain⟨x,cv,u,C,b,rfl,_,hu,⟨e,dx,fs,rfl,h1,h2⟩,⟨nm,q,N,bs,bm,sn,sub,ab,col,dd,k0,k1,k2,k3,k5,Z,lk⟩,ea,hk,hq⟩:=h;obtain⟨u1,u2,rfl,rx,rt⟩:=r.two;cases hu _ rt;cases(show u1=Value.ref e from rx);obtain⟨oe,a1,a2,a3,a4⟩:=(show bO X.prog X.w H s.heap e (.ext (yf e C dx))from I.hok e _ h1).1;obtain⟨mA,⟨oD,es,ep,o1,o2⟩,_⟩:=(show bO X.prog X.w H s.heap dx (.xd fs)from I.hok dx _ h2);refine Qs (zd Z lk ea) I.kIn ⟨oe,oD,a1,a2,a4,by rw[a3];exact o1⟩ hk (λz=>nomatch z) λtk=>⟨.bl b,H,I.tok tk,rfl,hq⟩
def Jn(K:Tj)(C:Tv):Prop:=(∃nm q N bs bm sn sub ab col dd k0 k1 k2 k3 k5,Tl bm/\K.lookup C=some (de nm q C N bs bm sn sub ab col dd k0 k1 k2 k3 k5))/\EA K C
def kj(K:Tj)(i:Nat)(u:Tn):TE:=λσ H Q=>∃x C b,σ[i]?=some (some x)/\z8 H x C/\Jn K C/\PySem.W.kitOne K (.ref C) u=some b/\Q (.bl b) H
theorem eY(hz:X.mg "isinstance"=none)(hm:X.mg c=some (.ref D))(hN:X.N[i]?=some x:=by rfl)(hv:vZ X.env.scope x:=by first | exact Or.inl rfl | exact Or.inr (Or.inl rfl))(hg:Gl X "isinstance":=by rfl)(KU:Gl X c:=by rfl)(jG:(c==("__debug__":Str))=false:=by decide)(Ia:(x==("__debug__":Str))=false:=by decide)(hd2:(x==("__classdict__":Str))=false:=by decide)
  (he:starEach [.Name x p3,.Name c p2] X.env=(false,eval (.Name x p3) X.env)::starEach [.Name c p2] X.env:=by rfl):PE X (.Call (.Name "isinstance" p) [.Name x p3,.Name c p2] [] pos) (kj X.K i (.ref D)):=λpins s σ H Q I ⟨v,C,b,h1,h2,⟨h3,h4⟩,h5,h6⟩=>
 fF tq hg hz Rh (aJ (bV hN hv Ia hd2) (aJ (vP KU hm (v:=.ref D) rfl jG) bS rfl) he) @1 @1 he rfl pins s σ H Q I ⟨v,h1,v,.ref D,.ref D,C,b,rfl,rfl,λ_ z=>z,h2,h3,h4,h5,h6⟩
theorem Gw(hz:X.mg "isinstance"=none)(hm:X.mg "ValueError"=none)(hN:X.N[i]?=some x:=by rfl)(hv:vZ X.env.scope x:=by first | exact Or.inl rfl | exact Or.inr (Or.inl rfl))(hg:Gl X "isinstance":=by rfl)(KU:Gl X "ValueError":=by rfl)(Ia:(x==("__debug__":Str))=false:=by decide)(hd2:(x==("__classdict__":Str))=false:=by decide)
  (he:starEach [.Name x p3,.Name "ValueError" p2] X.env=(false,eval (.Name x p3) X.env)::starEach [.Name "ValueError" p2] X.env:=by rfl):PE X (.Call (.Name "isinstance" p) [.Name x p3,.Name "ValueError" p2] [] pos) (kj X.K i (.type "ValueError")):=λpins s σ H Q I ⟨v,C,b,h1,h2,⟨h3,h4⟩,h5,h6⟩=>
 fF tq hg hz Rh (aJ (bV hN hv Ia hd2) (aJ (λpins s σ H Q I h=>fY I KU hm (by decide +kernel) ⟨.ty "ValueError",H,I,rfl,h⟩:PE X (.Name "ValueError" p2) (tC (.ty "ValueError"))) bS rfl) he) @1 @1 he rfl pins s σ H Q I ⟨v,h1,v,.ty "ValueError",.type "ValueError",C,b,rfl,rfl,λ_ z=>z,h2,h3,h4,h5,h6⟩
end
end Xc
namespace Xc
open PySem PySem.Spec PyProof.Rows L2
theorem ML(I:Inv X pins σ H s)(A':Tq)(E':S2)(hf:A'.frames=X.A.frames):Inv {X with A:=A',calm:=false,xe:=E'} pins σ H s:=
 ⟨⟨I.ok.mod,I.ok.kind,I.ok.glob,I.ok.blt,I.ok.above,I.ok.inj,I.ok.has,I.ok.cab,λz=>(by cases z),hf.trans I.ok.frames,I.ok.stk,I.ok.exf,I.ok.bs,I.ok.bsz,I.ok.noex,I.ok.exfs,I.ok.funs,I.ok.frf⟩,I.os,I.bare,I.base,I.loc,I.cell,I.free,I.freeC,I.pin,I.hok,I.len⟩
theorem LC(ok:X.Ok)(I:Inv {X with A:=A',calm:=false,xe:=E'} pins σ H s):Inv X pins σ H s:=
 ⟨ok,I.os,I.bare,I.base,I.loc,I.cell,I.free,I.freeC,I.pin,I.hok,I.len⟩
structure BK(k:Nat)(A:Around):Prop where
 dp:A.depth+3*k+5<recursionLimit
 un:A.units+16*k+200<cLine
abbrev MJ(P:Tp)(w:Ts)(K:Tj)(mg:S5)(base:Tr)(N:Tb)(qual:Str)(scope:Tu)(f:Tv)(cd:Tn)(A:Tq)(outer:List Env)(s:To)(H:Hp):Cx:=
 {ft kO P w K mg base N qual scope f cd {A with handled:=none} outer s H E0 with A:=A.deeper (envOfC qual scope s.sz f cd),calm:=false,xe:=λe s'=>wpAny (model P w) (A.deeper (envOfC qual scope s.sz f cd)) (leaving (envOfC qual scope s.sz f cd) e) (λ_ KL=>False) (λe' KL=>False) s'}
structure Lj(P:Program)(w:World)(K:PySem.W.Frag)(mg:Str->Option Value)(base:Heap)(k:Nat)(f:Addr)(fd:FuncData)(ps:List Str)(sp:Sp):Prop where
 len:∀vs H Q E,sp vs H Q E->vs.length=ps.length
 run:∀(A:Around)(outer:List Env)(s:Shared)(H:Hp)(args:Args)(us:List Value)(vs:List V)(Q:VK),BK k A->tU P w K mg base A outer s H->BindsTo s fd args (ps.zip us)->aC vs us->sp vs H Q E0->
  codeAny (model P w) A (.call (.ref f) args) (CR kO outer P w H s Q E0) s
theorem GB{P:Tp}{w:Ts}{K:Tj}{mg:S5}{base:Tr}{k:Nat}{f:Tv}{name qual:Str}{params:Arguments}{body:Te}{scope:Tu}{dV kV doc pm bK ct oc:Tn}{an od:Ta}
  {rm:S4} {N ps:Tb} {sp:Sp} (lk:K.lookup f=some ⟨oc,od,.func (PySem.W.fnOf name qual params body scope dV kV doc pm an bK ct),rm⟩) (eC:PySem.W.codeIn K bK qual=true) (S:bW N ps scope)
  (len:∀vs H Q E,sp vs H Q E->vs.length=ps.length)
  (hbody:∀(A:Tq)(outer:List Env)(s:To)(H:Hp)(vs:TQ)(Q:VK),sp vs H Q E0->
   ∃t,PSs (MJ P w K mg base N qual scope f bK A outer s H) body t/\t {nx:=λ_ H'=>Q .non H',rt:=Q} (start N vs) H) :
  Lj P w K mg base (k+1) f (PySem.W.fnOf name qual params body scope dV kV doc pm an bK ct) ps sp:=by
 refine⟨len,λA outer s H args us vs Q hr e0 hb r lE=>?_⟩;have hl:=len _ _ _ _ lE;have KX:K.In s.heap:=e0.mod.kin.keeps λb o e=>(e0.bs b o e).1;have lim:s.heap.NoLimit:=e0.mod.nolimit.keeps λb o e=>(e0.bs b o e).1;have cx:∀y∈ps.zip us,scope.names.lookup y.1=some .local\/(scope.names.lookup y.1=some .cell/\((cellsFrom (s.sz+1) scope.names []).lookup y.1).isSome=true):=λ⟨n,v⟩ hy=>by
  rcases S.par n (RK hy).1 with q | q
  .exact .inl q
  .exact .inr ⟨q,Rg _ _ _ (.inl q)⟩
 refine R0 (by have:=hr.dp;lia) (KX _ _ lk) rfl S.co S.gen rfl (Sm KX eC) (hb _ _ _ _ ?_);refine Rt S.kind cx λenv he s1 x=>?_;subst he;refine⟨lim.keeps x.toInCall.keep,codeAny_func ?_⟩;obtain⟨t,ht,hq⟩:=hbody A outer s H vs Q lE;have e1:tU P w K mg base {A with handled:=none} outer s H:=⟨e0.frames,e0.mod,e0.bs,e0.bsz,e0.funs,e0.frf,e0.hok,e0.bare⟩;have I0:Inv (ft kO P w K mg base N qual scope f bK {A with handled:=none} outer s H E0) [] (start N vs) H s1:=jT S rfl e1 hl r x;have I:Inv (MJ P w K mg base N qual scope f bK A outer s H) [] (start N vs) H s1:=ML I0 _ _ rfl;refine P4 (ht [] s1 (start N vs) H _ I hq) (λfl s' hs=>?_) λe s' hs=>hs;have fin:∀{σ':L2.St}{H':Hp}{v:V}{u:Tn},Inv (MJ P w K mg base N qual scope f bK A outer s H) [] σ' H' s'->RelV v u->Q v H'->CE outer P w H s Q u s':=
  λ{σ' H' v u} J rv q=>⟨v,H',J.os,J.bare,J.base,J.hok,rv,q⟩
 cases fl with
 | ret u=>
  obtain⟨v,σ',H',J,rv,q⟩:=hs;exact fin J rv q
 | next=>
  obtain⟨σ',H',J,q⟩:=hs;exact fin (v:=V.non) J rfl q
 | brk=>
  obtain⟨_,_,_,q⟩:=hs;exact False.elim q
 | cont=>
  obtain⟨_,_,_,q⟩:=hs;exact False.elim q
theorem yM(F:Lj X.prog X.w X.K X.mg X.base k f fd ps sp)(hr:BK k X.A)(hg:Gl X x)(hm:X.mg x=some (.ref f))(hk:PySem.W.keepIn X.K (.ref f)=true)(hb:Binds X.K fd ps [])
  (ha:PA X (e::es) t) (jG:(x==("__debug__":Str))=false:=by decide) (he:starEach (e::es) X.env=(false,eval e X.env)::starEach es X.env:=by rfl) (gI:(backTo pos (starEach es X.env)).any (·.1)=false:=by rfl) :
  PE X (.Call (.Name x p) (e::es) [] pos) (Fu sp [] E0 t):=by
 intro pins s σ H Q I h;refine QM (ij I hg hm ?_ jG);refine Rf I.ok.mod.kin hk (bx (ha pos pins s σ H _ I h) λus s1 ⟨vs,H1,I1,r,q⟩=>⟨I1.kIn,?_⟩) he gI
 replace q:sp vs H1 Q E0:=by have q':sp (vs++[]) H1 Q E0:=q;rwa [P9]at q'
 have hl:us.length=ps.length:=by rw[<- r.length];exact F.len _ _ _ _ q
 refine Sl (Rz (F.run X.A X.stack s1 H1 ⟨us,[]⟩ us vs Q hr I1.env0 (by have:=hb s1 us I1.kIn (by rw[P9];exact hl);rwa [P9]at this) r q) λr s' hq=>?_);cases r with
 | error e=>exact False.elim hq
 | ok fl=>
  cases fl with
  | ret u=>exact I1.after hq
  | next=>exact False.elim hq
  | brk=>exact False.elim hq
  | cont=>exact False.elim hq
structure vF(X:Cx):Prop where
 pn:X.pn=[]
 stk:X.stack=X.env::X.outer
 fr:X.env.frame=some X.env.locals
section
variable {X:Cx}{σ:L2.St}{H:Hp}{s:To}{e C dx:Tv}
theorem fZ(I:Inv X [] σ H s)(ho:s.heap.get? e=some o)(hd:o.data=.fields vs):e≠X.env.locals/\∀x c,X.env.cells.lookup x=some c->c≠e:=by
 constructor
 .intro z;obtain⟨m,⟨ol,es,ep,h1,h2,_⟩,_⟩:=I.loc;rw[z,h1]at ho;cases ho;rw[h2]at hd;cases hd
 .intro x c hc z;obtain⟨v,hv⟩:=I.cell x c hc;obtain⟨oc,h1,h2⟩:=hv;rw[z]at h1;rw[h1]at ho;cases ho;rw[hd]at h2;cases h2
theorem Rec.apart(I:Inv X [] σ H s)(r:Rec X.s₀.heap s.heap H e C dx):e≠X.env.locals/\∀x c,X.env.cells.lookup x=some c->c≠e:=by
 obtain⟨oe,vs,he,_,_,hd,_⟩:=r;exact fZ I he hd
theorem Ai(T:vF X)(hfr:A.frames=some X.stack)(I:Inv X [] σ H s)(hn:X.s₀.sz<=e)(he:H e=none)(r:Rec X.s₀.heap s.heap H e C dx)
  (h:∀s3,Inv X [] σ H s3->Rec X.s₀.heap s3.heap H e C dx->Q () s3):wpAny M A (noteFrame (.ref e) X.env) (λ_ s'=>wpAny M A (setFlight (.ref e) none) Q E s') E s:=by
 have hstk:=I.stack;have hstf:=I.stkFree;have hap:=r.apart I;rw[T.stk]at hfr hstk hstf;refine E5 (s0h:=X.s₀.heap) (H:=H) hfr hstk (L:=X.env.locals) T.fr r I.sz (λb hb=>I.hok.fresh hb) λh' T' hT k1 k2 BJ hT2=>h _ ?_ BJ;refine I.call (ch:=e::T'.toList) (H':=H) (h':=h') ?_ (j8 I.hok λb o ⟨u,hu⟩ hb=>k1 b o (λz=>by rw[hstf b z]at hu;cases hu) (λz=>by rw[z,he]at hu;cases hu) (λz=>by rw[(hT b z).2.1]at hu;cases hu) hb) I.bare λb hb=>?_
 .rw[T.stk];refine⟨λb o q n hf hx=>?_,λb o q n hf hx=>k2 b o hf q,λb o q n hx=>n,λb o q hx=>?_,λ_ _ z=>z,λ_ _ _ z=>z,λb ps z=>⟨#[],by rw[Array.append_empty];exact z⟩⟩
  .exact k1 b o hf (λz=>hx (by simp[z])) (λz=>hx (by simp[z])) q
  .by_cases hf:b∈kS (X.env::X.outer)
   .obtain⟨sl,z⟩:=k2 b o hf q;exact⟨_,z⟩
   .exact⟨o,k1 b o hf (λz=>hx (by simp[z])) (λz=>hx (by simp[z])) q⟩
 .rcases p_.mp hb with rfl | hb
  .exact⟨.inr hn,hap.1,hap.2,λp hp=>by rw[T.pn]at hp;cases hp⟩
  .obtain⟨a1,a2,oT,ts,a3,a4⟩:=hT b (by simpa using hb);have hap:=fZ I a3 a4;exact⟨.inr a1,hap.1,hap.2,λp hp=>by rw[T.pn]at hp;cases hp⟩
theorem uO(T:vF X)(I:Inv X [] σ H s)(hn:X.s₀.sz<=e)(he:H e=none)(r:Rec X.s₀.heap s.heap H e C dx)
  (h:∀s3,Inv X [] σ H s3->Rec X.s₀.heap s3.heap H e C dx->Q () s3):wpAny M A (setFlight (.ref e) none) Q E s:=by
 obtain⟨oe,vs,a1,a2,a3,a4,a5,a6⟩:=id r;rcases a6 with h1 | ⟨T',oT,ts,h1,EG,L3,L4,hT,BW,h3⟩
 .unfold setFlight;refine b_ (P1 a1 a4 h1 ?_);rw[j_ @1];exact o_ (h s I r)
 .have hz:3<ts.size:=(Ry.mp h3).1;have hap:=fZ I hT BW;refine wpAny_setFlight_none a1 a4 h1 hT BW hz (h _ (I.turned (t':=s.toks) (it:=T') (λb o hb ho=>(D_ _ _ (Qo hb)).trans ho) L4 hap.1 (.inr L3) hap.2 (λp hp=>by rw[T.pn]at hp;cases hp)) ?_);refine⟨oe,vs,(D_ _ _ EG).trans a1,a2,a3,a4,a5,.inr ⟨T',_,_,h1,EG,L3,L4,Qn _ hT (QK (Qg BW _)),Qg BW _,by simp[hz]⟩⟩
theorem adopt(T:vF X)(I:Inv X [] σ H s)(hn:X.s₀.sz<=e)(he:H e=none)(hap:e≠X.env.locals/\∀x c,X.env.cells.lookup x=some c->c≠e)(ho:∃o,s.heap.get? e=some o)(hp:φ s.heap)(hs:∀h1 h2:Tr,φ h1->(∀o,h1.get? e=some o->h2.get? e=some o)->φ h2):Inv X [] σ (upd H e (.ext φ)) s:=by
 have hz:=Qf hn;have kp:∀{b:Tv}{o:HO},H b=some o->upd H e (.ext φ) b=some o:=λ{b o} z=>by rw[ay (λy=>by rw[y,he]at z;cases z)];exact z
 refine⟨I.ok,I.os,I.bare,⟨I.base.keep,I.base.slot,λb o q n hx=>?_,I.base.there,λb xs q=>kp (I.base.tups b xs q),λb o u q=>kp (I.base.frzs b o u q),λb ps q=>?_⟩,I.loc,I.cell,?_,λx c hc=>?_,λp hp=>?_,λa oa ha=>?_,I.len⟩
 .rw[ay (λy=>by rw[y,hz]at q;cases q)];exact I.base.free b o q n hx
 .obtain⟨more,h2⟩:=I.base.tbls b ps q;exact⟨more,kp h2⟩
 .rw[ay (Qo hap.1)];exact I.free
 .rw[ay (hap.2 x c hc)];exact I.freeC x c hc
 .rw[T.pn]at hp;cases hp
 .by_cases z:a=e
  .subst z;rw[aw]at ha;cases ha;exact⟨hp,ho,hs⟩
  .rw[ay z]at ha;exact(I.hok a oa ha).stay (λb u _ hu=>hu) (λb hb=>kp hb) λb xs hb=>kp hb
end
end Xc
namespace Xc
open PySem PySem.Spec PyProof.Rows L2
section
variable {X:Cx}{σ:L2.St}{H:Hp}{s:To}{e C dx:Tv}
theorem ik(T:vF X)(I:Inv X [] σ H s)(hN:X.N.Nodup)(hi:X.N[i]?=some n)(hl:X.env.scope.names.lookup n=some .local)
  (h:∀s',Inv X [] (σ.set i none) H s'->Q () s'):wpAny M A (do bindName X.env n .none;unbindBehindTheSuite X.env n pos) Q E s:=by
 refine b_ (wpAny_bindName (g9 I hN hi (.inl hl) (v:=.non) rfl (λs1 I1=>?_) (.inr hl)));have vz:(X.env.scope.kind==.class||(X.env.scope.kind==.module&&X.env.locals != X.env.globals))=false:=by rw[I1.ok.kind];rfl
 obtain⟨m,hn,Ni⟩:=id I1.loc;have HL:i < σ.length:=by rw[I.len];exact(h_.mp hi).1
 have hk:X.env.kindOf n=some .local:=hl;obtain⟨u,hu,hlk⟩:=Ni i n .non hi (by rw[r_ HL]) (.inl hl);have hmn:m n=some u:=by
  rcases hlk with ⟨_,z⟩ | ⟨z,_⟩
  .exact z
  .rw[hk]at z;rcases z with z | z<;>cases z
 unfold unbindBehindTheSuite;refine wpAny_onRaise (wpAny_unbindName_local hk hn hmn vz λh' u' HM hs=>h _ ?_);have ne:∀{b:Tv},b≠X.env.locals->h'.get? b=s1.heap.get? b:=λ{b} z=>hs.2 b z;have BL:∀{b:Tv}{o:Obj},X.s₀.heap.get? b=some o->b≠X.env.locals:=λ{b o} q z=>by
  have h1:=k_ q;have h2:=I.ok.above;rw[z]at h1;exact absurd h1 (Nat.not_lt.mpr h2)
 refine⟨I1.ok,I1.os,I1.bare,⟨λb o q n' hf hx=>(ne (BL q)).trans (I1.base.keep b o q n' hf hx),λb o q n' hf hx=>?_,I1.base.free,λb o q hx=>?_,I1.base.tups,I1.base.frzs,I1.base.tbls⟩,⟨_,HM,λj x v e1 e2 e3=>?_⟩,λx c hc=>?_,I1.free,I1.freeC,λp hp=>?_,j8 I1.hok λb o ⟨w',hw⟩ hb=>(ne (λz=>by rw[z,I1.free]at hw;cases hw)).trans hb,by rw[SW];exact I.len⟩
 .obtain⟨sl,z⟩:=I1.base.slot b o q n' hf hx;exact⟨sl,(ne (BL q)).trans z⟩
 .obtain⟨o',z⟩:=I1.base.there b o q hx;exact⟨o',(ne (BL q)).trans z⟩
 .have NL:j≠i:=λz=>by subst z;rw[r_ HL]at e2;cases e2
  rw[l_ (Qo NL)]at e2;obtain⟨u2,r2,l2⟩:=Ni j x v e1 (by rw[l_ (Qo NL)];exact e2) e3;refine⟨u2,r2,?_⟩;rcases l2 with ⟨z1,z2⟩ | ⟨z1,c,z2,oc,z3,z4⟩
  .refine .inl ⟨z1,?_⟩;show(if x=n then u' else m x)=some u2;rw[j_]
   .exact z2
   .intro z;subst z;have a1:=h_.mp e1;have a2:=h_.mp hi;rcases Nat.lt_or_gt_of_ne NL with y | y
    .exact Sx.mp hN j i a1.1 a2.1 y (a1.2.trans a2.2.symm)
    .exact Sx.mp hN i j a2.1 a1.1 y (a2.2.trans a1.2.symm)
  .exact .inr ⟨z1,c,z2,oc,(ne (I1.cne x c z2)).trans z3,z4⟩
 .obtain⟨v,oc,z1,z2⟩:=I1.cell x c hc;exact⟨v,oc,(ne (I1.cne x c hc)).trans z1,z2⟩
 .rw[T.pn]at hp;cases hp
end
theorem M3:Tl bmV:=⟨by decide,by decide,by decide,by decide,by decide⟩
section
open Sem (wp)
variable {M:Model}{A:Tq}{E:S2}
variable {nm q nm2 q2:Str}{C N HE N2:Tv}{bs bm bs2 bm2:S9}{sn sn2:Tb}{sub sub2:S9}{ab ab2:Bool}{col col2:Option Bool}{dd tV:Ta}{k0 k1 k2 k3 k5 j0 j1 j2 j3 j5:S_}
theorem rC{h:Tr}{g:Array GenState}{d:Drawn}{t:Nat}{os:OsState}{e:Tv}{oe:Obj}{Q:Bool->To->Prop}(Z:Tl bm2)
  (hC:h.get? C=some (de nm q C N bs bm sn sub ab col dd k0 k1 k2 k3 k5)) (hE:h.get? HE=some (de nm2 q2 HE N2 bs2 bm2 sn2 sub2 ab2 col2 tV j0 j1 j2 j3 j5)) (he:h.get? e=some oe) (vz:oe.cls=.ref C) (hb:(Value.ref C::bm).contains (.ref HE)=true)
  (hq:Q true ⟨h,g,d,t,os⟩):wpAny M A (excMatches (.ref e) (.ref HE)) Q E ⟨h,g,d,t,os⟩:=by
 have BF:(Value.ref HE::bm2).contains (.type "BaseException")=true:=by rw[I_,Z.b,Qw]
 have f:=tc_notTuple;unfold excMatches
 repeat (first | (with_reducible refine J_ he ?_;rw[vz]) | with_reducible refine J_ hE ?_ | (with_reducible refine Qk hE ?_;rw[BF]) | (with_reducible refine Qk hC ?_;rw[hb]) | wp_step)
 exact hq
end
section
variable {X:Cx}
abbrev XH(X:Cx)(e:Tv):Cx:={X with A:=X.A.mark (some (.ref e)),calm:=false,xe:=λ_ _=>False}
def z7(K:Tj)(C HE:Tv):Prop:=∃nm q N bs bm sn sub ab col dd k0 k1 k2 k3 k5,(Value.ref C::bm).contains (.ref HE)=true/\K.lookup C=some (de nm q C N bs bm sn sub ab col dd k0 k1 k2 k3 k5)
def IY(X:Cx)(HE:Tv)(i:Nat)(ts:TS)(D:Ends)(xe:S2):Prop:=∀(σ:L2.St)(H:Hp)(s:To)(pins:S3)(e C dx:Tv),Inv X pins σ H s->X.s₀.sz<=e->H e=none->Rec X.s₀.heap s.heap H e C dx->z7 X.K C HE->
 ts {nx:=λσ' H'=>D.nx (σ'.set i none) H',rt:=D.rt,bk:=λσ' H'=>D.bk (σ'.set i none) H',ct:=λσ' H'=>D.ct (σ'.set i none) H'} (σ.set i (some (.ref e))) (upd H e (.ext (yf e C dx)))->xe (.ref e) s
def M'(X:Cx)(HE:Tv)(i:Nat)(tb:S2->TS)(ts:TS):TS:=λD σ H=>∀xe,IY X HE i ts D xe->tb xe D σ H
def OC(X:Cx)(st:TC)(t:TS):Prop:=∀(s:To)(σ:L2.St)(H:Hp)(D:Ends),Inv X [] σ H s->t D σ H->wpAny @2 X.A (exec st X.env) (SP X [] D) X.xe s
def Kg(X:Cx)(st:Te)(t:TS):Prop:=∀(s:To)(σ:L2.St)(H:Hp)(D:Ends),Inv X [] σ H s->t D σ H->wpAny @2 X.A (execs st X.env) (SP X [] D) X.xe s
theorem Ht
  (T:vF X) (hN:X.N.Nodup) (hi:X.N[i]?=some n) (hl:X.env.scope.names.lookup n=some .local) (hg:Gl X "HideError") (hm:X.mg "HideError"=some (.ref HE)) (lk:X.K.lookup HE=some (de nm q HE N bs bmV sn sub ab col dd k0 k1 k2 k3 k5))
  (hbody:∀xe,PSs (X.wish xe) body (tb xe)) (hsuite:∀e,PSs (XH X e) (b₀::suite) ts) :
  OC X (.Try body [.ExceptHandler (some (.Name "HideError" p)) (some n) (b₀::suite) hp] [] [] pos) (M' X HE i tb ts):=by
 intro s σ H D I h;refine wpAny_Try_except ?_;refine P4 (hbody (λe s₁=>wpAny @2 X.A (noteFrame e X.env) (λ_ s₂=>wpAny @2 X.A (setFlight e none) (λ_ s₃=>wpAny @2 X.A (handleBy e X.env [.ExceptHandler (some (.Name "HideError" p)) (some n) (b₀::suite) hp]) (SP X [] D) X.xe s₃) X.xe s₂) X.xe s₁) [] s σ H D (I.wish _) (h _ ?_)) (λf s₁ hf=>?_) λ_ _ z=>z
 .intro σ1 H1 s1 pins e C dx I1' hn he r hcg yE;have I1:Inv X [] σ1 H1 s1:=I1'.pins_of λp z=>by cases z
  refine Ai T I1.ok.frames I1 hn he r λs3 I3 r3=>?_;refine wpAny_handleBy_cons (codeAny_handlers_test ?_) (by intro z;cases z);have IH:Inv (XH X e) [] σ1 H1 s3:=ML I3 _ _ rfl;refine ij IH hg hm ?_;refine glG λ_ kq=>?_;obtain⟨nmC,qC,NC,bsC,bmC,snC,subC,abC,colC,ddC,c0,c1,c2,c3,c5,hct,lkC⟩:=hcg;obtain⟨oe,vs,a1,a2,a3,a4,a5,a6⟩:=id r3;have kin:=I3.kIn;obtain⟨hh,g,d,tk,os⟩:=s3;refine kq (rC (M3) (kin _ _ lkC) (kin _ _ lk) a1 a2 hct ?_)
  all_goals clear kq
  simp only[SA];refine codeAny_handlers_suite_as (uO T I3 hn he r3 λs4 I4 r4=>?_);have hap:=r4.apart I4;obtain⟨oe4,vs4,b1,b2,b3,b4,b5,b6⟩:=id r4;have I5:Inv X [] σ1 (upd H1 e (.ext (yf e C dx))) s4:=adopt T I4 hn he hap ⟨_,b1⟩ ⟨oe4,b1,b2,b3,by unfold PySem.W.notCls;rw[b4]⟩ uF;refine g9 I5 hN hi (.inl hl) (v:=.ref e) rfl (λs6 I6=>?_) (.inr hl);refine P4 (hsuite e [] s6 _ _ _ (ML I6 _ _ rfl) yE) (λf s7 hf=>?_) λ_ _ z=>False.elim z;cases f with
  | next=>
   obtain⟨σ',H',I',q'⟩:=hf;exact ik T (LC I.ok I') hN hi hl λs8 I8=>⟨_,H',I8,q'⟩
  | brk=>
   obtain⟨σ',H',I',q'⟩:=hf;exact ik T (LC I.ok I') hN hi hl λs8 I8=>⟨_,H',I8,q'⟩
  | cont=>
   obtain⟨σ',H',I',q'⟩:=hf;exact ik T (LC I.ok I') hN hi hl λs8 I8=>⟨_,H',I8,q'⟩
  | ret u=>
   obtain⟨v,σ',H',I',rv,q'⟩:=hf;exact ik T (LC I.ok I') hN hi hl λs8 I8=>⟨v,_,H',I8,rv,q'⟩
 .cases f with
  | next=>exact RH hf.unwish
  | ret v=>exact hf.unwish
  | brk=>exact hf.unwish
  | cont=>exact hf.unwish
end
end Xc
namespace Mi
open PySem PySem.Spec PyProof.Rows L2 Xc
abbrev Rs:=Except (Str×D) D
abbrev FeX:=En->Option Rs
abbrev FlX:=En->Option (Except (Str×D) TM)
inductive EH where
 | nx (env:En) | rt (d:D) | bk (env:En) | ct (env:En) | ex (c:Str) (d:D) (env:En)
abbrev FsX:=En->Option EH
def sR(X:Cx)(B Z:Hp)(env:En)(c:Str)(d:D):Prop:=∀(σ:L2.St)(Z' H':Hp)(C dx:Tv)(u:V),Ex Z B Z' H'->Rl X.K B Z' H' env σ->X.mg c=some (.ref C)->H' dx=some (.xd [("cell",u)])->Rep X.K Z' d u->
 ∀(pins:S3)(s:To)(e:Tv),Inv X pins σ H' s->X.s₀.sz<=e->H' e=none->Rec X.s₀.heap s.heap H' e C dx->X.xe (.ref e) s
def xl(X:Cx)(rg:Gr)(B Z:Hp)(E:Ends):EH->Prop
 | .nx env'=>∀σ' Z' H',Ex Z B Z' H'->Rl X.K B Z' H' env' σ'->E.nx σ' H'
 | .bk env'=>∀σ' Z' H',Ex Z B Z' H'->Rl X.K B Z' H' env' σ'->E.bk σ' H'
 | .ct env'=>∀σ' Z' H',Ex Z B Z' H'->Rl X.K B Z' H' env' σ'->E.ct σ' H'
 | .rt d=>∀v Z' H',Ex Z B Z' H'->Gd X.K Z' B H' rg d v->E.rt v H'
 | .ex c d env'=>sR X B Z env' c d
def Dr(X:Cx)(rg:Gr)(f:FsX):TS:=λE σ H=>∃env B Z o,Rl X.K B Z H env σ/\f env=some o/\xl X rg B Z E o
def SX(X:Cx)(rg:Gr)(st:TC)(f:FsX):Prop:=PS X st (Dr X rg f)
def BR(X:Cx)(rg:Gr)(rn:Te)(f:FsX):Prop:=PSs X rn (Dr X rg f)
def Jl(X:Cx)(rg:Gr)(st:TC)(f:FsX):Prop:=OC X st (Dr X rg f)
def zB(X:Cx)(rg:Gr)(rn:Te)(f:FsX):Prop:=Kg X rn (Dr X rg f)
def PR(X:Cx)(g:Gr)(f:FeX):TE:=λσ H Q=>∃env B Z r,Rl X.K B Z H env σ/\f env=some r/\match r with
 | .ok d=>∀v Z' H',Ex Z H Z' H'->Gd X.K Z' H H' g d v->Q v H'
 | .error (c,d)=>sR X B Z env c d
def PX(X:Cx)(g:Gr)(e:Tz)(f:FeX):Prop:=PE X e (PR X g f)
def Px(X:Cx)(f:FlX):TA:=λσ H Q=>∃env B Z r,Rl X.K B Z H env σ/\f env=some r/\match r with
 | .ok ds=>∀vs Z' H',Ex Z H Z' H'->av X.K Z' ds vs->Q vs H'
 | .error (c,d)=>sR X B Z env c d
structure Pc(X:Cx)(es:List Expr)(f:FlX):Prop where
 p:PA X es (Px X f)
 l:∀env ds,f env=some (.ok ds)->ds.length=es.length
section
variable {X:Cx}{rg g:Gr}{st:TC}{rn:Te}{pos p:Pos}{e l:Tz}{es:Td}{x:Str}
theorem sR.later(x:Ex Z B Z1 H1)(h:sR X B Z env c d):sR X B Z1 env c d:=λσ Z' H' C dx u y=>h σ Z' H' C dx u (x.transB y)
theorem xl.later(x:Ex Z B Z1 H1)(h:xl X rg B Z E o):xl X rg B Z1 E o:=by
 cases o with
 | nx e=>exact λσ' Z' H' y=>h σ' Z' H' (x.transB y)
 | bk e=>exact λσ' Z' H' y=>h σ' Z' H' (x.transB y)
 | ct e=>exact λσ' Z' H' y=>h σ' Z' H' (x.transB y)
 | rt e=>exact λv Z' H' y=>h v Z' H' (x.transB y)
 | ex c d env=>exact sR.later x h
def Out.up:Out->EH
 | .nx e=>.nx e
 | .rt d=>.rt d
 | .bk e=>.bk e
 | .ct e=>.ct e
def CU(f:Fs):FsX:=λenv=>(f env).map Out.up
theorem xl.of(h:xl X rg B Z E o.up):tf X.K rg B Z E o:=by cases o<;>exact h
theorem Ah(h:Dr X rg (CU f) E σ H):Iq X.K rg f E σ H:=by
 obtain⟨env,B,Z,o,R,e,k⟩:=h;obtain⟨o',e1,rfl⟩:=P0.mp e;exact⟨env,B,Z,o',R,e1,k.of⟩
theorem PS.nox'(h:PS X.nox st t):PS X st t:=λpins s σ H D I hw=>
 P4 (h pins s σ H D (I.wish _) hw) (λ_ _ q=>q.unwish) λ_ _ z=>False.elim z
theorem FR(h:SD X.nox rg st f):SX X rg st (CU f):=λpins s σ H E I q=>PS.nox' h pins s σ H E I (Ah (X:=X) q)
theorem Jf(h:uk X.nox rg rn f):BR X rg rn (CU f):=λpins s σ H E I q=>L2.PSs.nox h pins s σ H E I (Ah (X:=X) q)
theorem EO(h:SX X rg st f):Jl X rg st f:=λs σ H E I q=>h [] s σ H E I q
def sE(f g:FsX):FsX:=λenv=>(f env).bind λo=>match o with | .nx e=>g e | o=>some o
theorem wF{f g:FsX}{E:Ends}{σ:L2.St}{H:Hp}(h:Dr X rg (sE f g) E σ H):Dr X rg f {E with nx:=Dr X rg g E} σ H:=by
 obtain⟨env,B,Z,o,R,e,k⟩:=h;obtain⟨o1,e1,e2⟩:=a_.mp e;refine⟨env,B,Z,o1,R,e1,?_⟩;cases o1 with
 | nx Eu=>exact λσ' Z' H' x R'=>⟨Eu,B,Z',o,R',e2,k.later x⟩
 | rt d=>cases e2;exact k
 | bk d=>cases e2;exact k
 | ct d=>cases e2;exact k
 | ex c d env=>cases e2;exact k
theorem Gj{f g:FsX}(h1:SX X rg st f)(h2:BR X rg rn g):BR X rg (st::rn) (sE f g):=λpins s σ H E I q=>d9 h1 h2 pins s σ H E I (wF q)
theorem v5(h1:SX X rg st f):BR X rg [st] f:=fP h1
theorem Ho(h1:Jl X rg st f):zB X rg [st] f:=by
 intro s σ H D I h;refine R7 (bx (h1 s σ H D I h) λf s1 q=>?_);cases f with
 | next=>exact RH q
 | ret v=>exact q
 | brk=>exact q
 | cont=>exact q
theorem v7{f g:FsX}(h1:Jl X rg st f)(h2:zB X rg rn g):zB X rg (st::rn) (sE f g):=by
 intro s σ H D I h;refine R7 (bx (h1 s σ H {D with nx:=Dr X rg g D} I (wF h)) λf s1 q=>?_);cases f with
 | next=>
  obtain⟨σ',H',I',q⟩:=q;exact h2 s1 σ' H' D I' q
 | ret v=>exact q
 | brk=>exact q
 | cont=>exact q
def LI(t:Fb)(f g:FsX):FsX:=λenv=>(t env).bind λb=>if b=true then f env else g env
theorem MI{c:Tz}{a b:Te}{t:Fb}{f g:FsX}(hc:PB X.nox c t)(ha:BR X rg a f)(hb:BR X rg b g):SX X rg (.If c a b pos) (LI t f g):=λpins s σ H E I aA=>by
 obtain⟨env,B,Z,o,R,e,k⟩:=aA;refine zW (L2.PT.nox hc) ha hb pins s σ H E I ?_;obtain⟨x,e1,e2⟩:=a_.mp e;refine⟨env,B,Z,x,R,e1,λZ1 H1 x1=>?_⟩;cases x with
 | true=>rw[g_ rfl]at e2;exact pH ⟨env,B,Z1,o,R.ext x1,e2,k.later (x1.part R.bh)⟩
 | false=>rw[j_ (by simp)]at e2;exact qF ⟨env,B,Z1,o,R.ext x1,e2,k.later (x1.part R.bh)⟩
end
section
variable {X:Cx}{rg g:Gr}{st:TC}{rn:Te}{pos p bU:Pos}{e l a:Tz}{es:Td}{x c:Str}{k:Nat}
def ur(c:Str)(fs:Fes):FsX:=λenv=>(fs env).bind λds=>match ds with
 | [_]=>some (.ex c .non env)
 | [_,d]=>some (.ex c d env)
 | _=>none
structure XC(P:Program)(w:World)(K:Fg)(mg:Str->Option Value)(base:Heap)(k:Nat)(c:Str):Prop where
 ex:∃C HE fI fd,mg c=some (.ref C)/\EC K C HE fI/\dM P w K mg base kO k fI fd ["self","words","cell"] (JF K HE fI)/\Binds K fd ["self","words","cell"] [.none]/\Binds K fd ["self","words","cell"] []
theorem xw(hm:X.mg c=some (.ref C))(R:Rl X.K B Z H env σ)(k:sR X B Z env c d)(x1:Ex Z H Z1 H1)(r:Rep X.K Z1 d cv):v8 X σ C λdx H2=>H1 dx=none/\H2=upd H1 dx (.xd [("cell",cv)]):=by
 rintro pins H2 s e dx I hn he hr ⟨Lf,rfl⟩;have x2:Ex Z1 H1 Z1 (upd H1 dx (.xd [("cell",cv)])):=Ex.newL x1.zh Lf;exact k σ Z1 _ C dx cv ((x1.trans x2).part R.bh) ((R.ext x1).ext x2) hm aw r pins s e I hn he hr
theorem AJ(T:XC X.prog X.w X.K X.mg X.base k c)(hr:bG (k+1) X.A)(hl:PL X [a] fs)(hg:Gl X c:=by rfl)(jG:(c==("__debug__":Str))=false:=by decide)(he:starEach [a] X.env=(false,eval a X.env)::starEach [] X.env:=by rfl) :
  SX X rg (.Raise (some (.Call (.Name c p) [a] [] bU)) none pos) (ur c fs):=λpins s σ H E I aA=>by
 obtain⟨env,B,Z,o,R,e,kk⟩:=aA;obtain⟨C,HE,fI,fd,hm,ec,F,L6,hb2⟩:=T.ex;refine zL ec F hr hg hm L6 (dvs:=[.non]) (.cons rfl .nil) hl.p jG he rfl pins s σ H E I ?_;obtain⟨ds,e1,e2⟩:=a_.mp e;have hlen:=hl.l env ds e1
 match ds,hlen,e2 with
 | [d0],_,e2=>
  cases e2;refine⟨env,B,Z,[d0],R,e1,λvs Z1 H1 x1 r=>?_⟩;obtain⟨v,r',rfl,_,BJ⟩:=r;cases(show r'=[]from BJ);exact⟨v,.non,rfl,xw hm R kk x1 rfl⟩
def MV(mg:S5)(K:Fg)(n:Nat)(g:Gr)(m:TM->Option Rs):Sp:=λvs H Q E=>∃Z ds r,ds.length=n/\aE Z H/\av K Z ds vs/\m ds=some r/\match r with
 | .ok d=>∀v Z' H',Ex Z H Z' H'->Gd K Z' H H' g d v->Q v H'
 | .error (c,d)=>∀C dx u Z' H',mg c=some (.ref C)->Ex Z H Z' H'->H' dx=some (.xd [("cell",u)])->Rep K Z' d u->E (.ref C) (some dx) H'
structure Ib(P:Program)(w:World)(K:Fg)(mg:Str->Option Value)(base:Heap)(k:Nat)(x:Str)(n:Nat)(g:Gr)(m:List D->Option Rs):Prop where
 ex:∃f fd ps,ps.length=n/\dM P w K mg base (ET P w) k f fd ps (MV mg K n g m)/\mg x=some (.ref f)/\PySem.W.keepIn K (.ref f)=true/\Binds K fd ps []
def Io(f:Fes):FlX:=λenv=>(f env).map .ok
theorem PA.nox'(h:PA X.nox es t):PA X es t:=λpos pins s σ H Q I hw=>
 P4 (h pos pins s σ H Q (I.wish _) hw) (λ_ _ ⟨v,H',I',r,q⟩=>⟨v,H',I'.unwish,r,q⟩) λ_ _ z=>False.elim z
theorem EN(h:PL X.nox es f):Pc X es (Io f):=⟨λpos pins s σ H Q I aA=>by
 obtain⟨env,B,Z,r,R,e1,k⟩:=aA;obtain⟨d,e2,rfl⟩:=P0.mp e1;exact PA.nox' h.p pos pins s σ H Q I ⟨env,B,Z,d,R,e2,k⟩,λenv ds e1=>by
 obtain⟨d,e2,e3⟩:=P0.mp e1;cases e3;exact h.l env ds e2⟩
def oC(fs:FlX)(m:TM->Option Rs):FeX:=λenv=>(fs env).bind λr=>match r with
 | .ok ds=>m ds
 | .error z=>some (.error z)
theorem vU(C:Ib X.prog X.w X.K X.mg X.base k x n g m)(hr:bG k X.A)(hl:Pc X (l::es) fs)(hn:(l::es).length=n:=by rfl)(hg:Gl X x:=by rfl)(jG:(x==("__debug__":Str))=false:=by decide)
  (he:starEach (l::es) X.env=(false,eval l X.env)::starEach es X.env:=by rfl) (gI:(backTo pos (starEach es X.env)).any (·.1)=false:=by rfl):PX X g (.Call (.Name x p) (l::es) [] pos) (oC fs m):=by
 rintro pins s σ H Q I ⟨env,B,Z,r,R,e1,kk⟩;obtain⟨f,fd,ps,OQ,F,hm,hk,hb⟩:=C.ex;obtain⟨rl,e2,e3⟩:=a_.mp e1;refine QM (ij I hg hm ?_ jG);cases rl with
 | error z=>
  cases e3;refine Rf I.ok.mod.kin hk (bx (hl.p pos pins s σ H (λ_ _=>False) I ⟨env,B,Z,.error z,R,e2,kk⟩) λus s1 ⟨vs,H1,I1,r,q⟩=>False.elim q) he gI
 | ok ds=>
  refine Rf I.ok.mod.kin hk (bx (hl.p pos pins s σ H (λvs H1=>∃Z1,Ex Z H Z1 H1/\av X.K Z1 ds vs) I ⟨env,B,Z,.ok ds,R,e2,λvs Z1 H1 x1 r1=>⟨Z1,x1,r1⟩⟩) λus s1 ⟨vs,H1,I1,rv,Z1,x1,r1⟩=>⟨I1.kIn,?_⟩) he gI;cases r with
  | ok d=>
   refine wB (E:=E0) F hr hb .nil I1 rv ?_ (λC pins H' s' e dx _ _ _ _ z=>False.elim z);rw[P9];exact⟨Z1,ds,.ok d,by rw[hl.l env ds e2];exact hn,x1.zh,r1,e3,λv Z' H' x2 g2=>kk v Z' H' (x1.trans x2) (g2.frm x1.h)⟩
  | error z=>
   obtain⟨c,d⟩:=z;refine wB (E:=λCv dxo H'=>∃C dx u Z',Cv=.ref C/\dxo=some dx/\X.mg c=some (.ref C)/\Ex Z1 H1 Z' H'/\H' dx=some (.xd [("cell",u)])/\Rep X.K Z' d u) F hr hb .nil I1 rv ?_ ?_
   .rw[P9];exact⟨Z1,ds,.error (c,d),by rw[hl.l env ds e2];exact hn,x1.zh,r1,e3,λC dx u Z' H' h1 h2 h3 h4=>⟨C,dx,u,Z',rfl,rfl,h1,h2,h3,h4⟩⟩
   .rintro C pins' H' s' e dx I' HM BE BJ ⟨C',dx',u,Z',hC,Lf,h1,h2,h3,h4⟩;cases hC;cases Lf;exact kk σ Z' H' C dx u ((x1.trans h2).part R.bh) ((R.ext x1).ext h2) h1 h3 h4 pins' s' e I' HM BE BJ
def Cm(i:Nat)(f:FeX):FsX:=λenv=>(f env).bind λr=>match r with
 | .ok d=>some (.nx (env.set i (.F d)))
 | .error (c,d)=>some (.ex c d env)
def B8(f:FeX):FsX:=λenv=>(f env).bind λr=>match r with
 | .ok d=>some (.rt d)
 | .error (c,d)=>some (.ex c d env)
theorem Kp(i:Nat)(he:PX X .cl e f)(hN:X.N.Nodup)(hi:X.N[i]?=some x:=by rfl)(hx:Loc X.env.scope x:=by first | exact Or.inl rfl | exact Or.inr rfl)(hs:swapsWith e (some (.Name x pos')) pos.line X.env=pure false:=by rfl)
  (hf:X.fn x=true\/X.env.scope.names.lookup x=some .local:=by first | exact .inl rfl | exact .inr rfl | assumption):SX X rg (.Assign [.Name x pos'] e pos) (Cm i f):=λpins s σ H E I aA=>by
 obtain⟨env,B,Z,o,R,e1,k⟩:=aA;refine gP hN hi hx he hs hf pins s σ H E I ?_;obtain⟨r,e2,e3⟩:=a_.mp e1;cases r with
 | ok d=>cases e3;exact⟨env,B,Z,.ok d,R,e2,λv Z' H' x r=>k _ Z' H' (x.part R.bh) ((R.ext x).setF i r)⟩
 | error z=>obtain⟨c,d⟩:=z;cases e3;exact⟨env,B,Z,.error (c,d),R,e2,k⟩
theorem Js(he:PX X rg e f):SX X rg (.Return (some e) pos) (B8 f):=λpins s σ H E I aA=>by
 obtain⟨env,B,Z,o,R,e1,k⟩:=aA;refine kc he pins s σ H E I ?_;obtain⟨r,e2,e3⟩:=a_.mp e1;cases r with
 | ok d=>cases e3;exact⟨env,B,Z,.ok d,R,e2,λv Z' H' x gd=>k v Z' H' (x.part R.bh) (gd.frm R.bh)⟩
 | error z=>obtain⟨c,d⟩:=z;cases e3;exact⟨env,B,Z,.error (c,d),R,e2,k⟩
end
def BY(f:FsX)(n:Nat)(ds:TM):Option Rs:=(f (bM n ds)).bind λo=>match o with
 | .rt d=>some (.ok d)
 | .nx _=>some (.ok .non)
 | .ex c d _=>some (.error (c,d))
 | _=>none
section
variable {P:Tp}{w:Ts}{K:Fg}{mg:S5}{base:Tr}
theorem PQ{x qual:Str}{st:TC}{f:Tv}{fd:Tt}{N ps:Tb}{k:Nat}{m:TM->Option Rs}{fb:FsX}(F:yK K x qual st f fd)(S:bW N ps (az st))
  (hb:∀(bK:Tn)(A:Tq)(outer:List Env)(s:To)(H:Hp)(E:XK),bG k (A.deeper (envOfC qual (az st) s.sz f bK))->BR (ft (ET P w) P w K mg base N qual (az st) f bK A outer s H E) .cl (bp st) fb)
  (hm:∀ds r,ds.length=ps.length->m ds=some r->BY fb N.length ds=some r):dM P w K mg base (ET P w) (k+1) f fd ps (MV mg K ps.length .cl m):=by
 obtain⟨oc,od,kV,doc,pm,an,bK,ct,rm,rfl,lk,eC⟩:=F.ex;refine zl lk eC S (λvs H Q E ⟨Z,ds,d,hl,_,r,_⟩=>by rw[<- r.len];exact hl) λA outer s H vs Q E hr aA=>?_;obtain⟨Z,ds,rs,hl,s1,r,e,kk⟩:=aA;refine⟨_,hb bK A outer s H E hr,?_⟩;obtain⟨o,e1,e2⟩:=a_.mp (hm ds rs hl e);refine⟨_,H,Z,o,Rl.start s1 r,e1,?_⟩;cases o with
 | rt d'=>cases e2;exact kk
 | nx _=>cases e2;exact λσ' Z' H' x R=>kk .non Z' H' x rfl
 | bk _=>cases e2
 | ct _=>cases e2
 | ex c d env=>
  cases e2;exact λσ Z' H' C dx u x R hmg hxd hu pins s' e I hn he BJ=>tE σ C pins H' s' e dx I hn he BJ (kk C dx u Z' H' hmg x hxd hu)
theorem Gh{CX:CXT}{k:Nat}{f:Tv}{name qual:Str}{params:Arguments}{body:Te}{scope:Tu}{dV kV doc pm bK ct oc:Tn}{an od:Ta}
  {rm:S4} {N ps:Tb} {sp:Sp} (lk:K.lookup f=some ⟨oc,od,.func (PySem.W.fnOf name qual params body scope dV kV doc pm an bK ct),rm⟩) (eC:PySem.W.codeIn K bK qual=true) (S:bW N ps scope)
  (len:∀vs H Q E,sp vs H Q E->vs.length=ps.length)
  (hbody:∀(A:Tq)(outer:List Env)(s:To)(H:Hp)(vs:TQ)(Q:VK)(E:XK),bG k (A.deeper (envOfC qual scope s.sz f bK))->sp vs H Q E->
   ∃t,Kg (ft CX P w K mg base N qual scope f bK A outer s H E) body t/\t {nx:=λ_ H'=>Q .non H',rt:=Q} (start N vs) H) :
  dM P w K mg base CX (k+1) f (PySem.W.fnOf name qual params body scope dV kV doc pm an bK ct) ps sp:=by
 refine⟨len,λA outer s H args us vs Q E hr e0 hb r lE=>?_⟩;have hl:=len _ _ _ _ lE;have KX:K.In s.heap:=e0.mod.kin.keeps λb o e=>(e0.bs b o e).1;have lim:s.heap.NoLimit:=e0.mod.nolimit.keeps λb o e=>(e0.bs b o e).1;have cx:∀y∈ps.zip us,scope.names.lookup y.1=some .local\/(scope.names.lookup y.1=some .cell/\((cellsFrom (s.sz+1) scope.names []).lookup y.1).isSome=true):=λ⟨n,v⟩ hy=>by
  rcases S.par n (RK hy).1 with q | q
  .exact .inl q
  .exact .inr ⟨q,Rg _ _ _ (.inl q)⟩
 refine R0 hr.depth (KX _ _ lk) rfl S.co S.gen rfl (Sm KX eC) (hb _ _ _ _ ?_);refine Rt S.kind cx λenv he s1 x=>?_;subst he;refine⟨lim.keeps x.toInCall.keep,codeAny_func ?_⟩;obtain⟨t,ht,hq⟩:=hbody A outer s H vs Q E (hr.deeper _) lE;have I:Inv (ft CX P w K mg base N qual scope f bK A outer s H E) [] (start N vs) H s1:=jT S hr.hd e0 hl r x;refine P4 (ht s1 (start N vs) H _ I hq) (λfl s' hs=>?_) λe s' hs=>hs;have fin:∀{σ':L2.St}{H':Hp}{v:V}{u:Tn},Inv (ft CX P w K mg base N qual scope f bK A outer s H E) [] σ' H' s'->RelV v u->Q v H'->CE outer P w H s Q u s':=
  λ{σ' H' v u} J rv q=>⟨v,H',J.os,J.bare,J.base,J.hok,rv,q⟩
 cases fl with
 | ret u=>
  obtain⟨v,σ',H',J,rv,q⟩:=hs;exact fin J rv q
 | next=>
  obtain⟨σ',H',J,q⟩:=hs;exact fin (v:=V.non) J rfl q
 | brk=>
  obtain⟨_,_,_,q⟩:=hs;exact False.elim q
 | cont=>
  obtain⟨_,_,_,q⟩:=hs;exact False.elim q
def Ak(f:FsX)(n:Nat)(ds:TM):TN:=(f (bM n ds)).bind λo=>match o with
 | .rt d=>some d
 | _=>none
theorem Mf{x qual:Str}{st:TC}{f:Tv}{fd:Tt}{N ps:Tb}{k:Nat}{g:Gr}{m:TM->TN}{fb:FsX}(F:yK K x qual st f fd)(S:bW N ps (az st))
  (hb:∀(bK:Tn)(A:Tq)(outer:List Env)(s:To)(H:Hp)(E:XK),bG k (A.deeper (envOfC qual (az st) s.sz f bK))->zB (ft kO P w K mg base N qual (az st) f bK A outer s H E) g (bp st) fb)
  (hm:∀ds d,ds.length=ps.length->m ds=some d->Ak fb N.length ds=some d):dM P w K mg base kO (k+1) f fd ps (AY K ps.length g m):=by
 obtain⟨oc,od,kV,doc,pm,an,bK,ct,rm,rfl,lk,eC⟩:=F.ex;refine Gh lk eC S (λvs H Q E ⟨Z,ds,d,hl,_,r,_⟩=>by rw[<- r.len];exact hl) λA outer s H vs Q E hr aA=>?_;obtain⟨Z,ds,d,hl,s1,r,e,kk⟩:=aA;refine⟨_,hb bK A outer s H E hr,?_⟩;obtain⟨o,e1,e2⟩:=a_.mp (hm ds d hl e);refine⟨_,H,Z,o,Rl.start s1 r,e1,?_⟩;cases o with
 | rt d'=>cases e2;exact kk
 | nx _=>cases e2
 | bk _=>cases e2
 | ct _=>cases e2
 | ex c d env=>cases e2
end
def vq:Tb:=["NoHiding","NoNumber","TooMany","NoCell","NoShot","NothingLeft","NoCounts","Over","NoText","NoRow"]
def jX(c:Str):List Bool:=vq.map (λn=>n==c)++[true]
structure EI(K:Fg)(mg:Str->Option Value)(HE:Addr)(c:Str)(C:Addr):Prop where
 own:Jn K C
 cg:z7 K C HE
 fl:∀n∈vq,∀D,mg n=some (.ref D)->PySem.W.kitOne K (.ref C) (.ref D)=some (n==c)
 va:PySem.W.kitOne K (.ref C) (.type "ValueError")=some true
def LA(K:Fg)(mg:S5)(HE:Tv):Sp:=λvs H Q _=>∃v C c,vs=[v]/\z8 H v C/\EI K mg HE c C/\∀a H',aE H H'->H a=none->H' a=some (.lst ((jX c).map V.bl))->Q (.ref a) H'
theorem jO(s:aE H H')(h:z8 H v C):z8 H' v C:=by
 obtain⟨e,dx,fs,a,b,c⟩:=h;exact⟨e,dx,fs,a,s _ _ b,s _ _ c⟩
theorem uV{K:Fg}{mg:S5}{HE:Tv}{D1 D2 D3 D4 D5 D6 D7 D8 D9 D10:Tv}(m1:mg "NoHiding"=some (.ref D1))(m2:mg "NoNumber"=some (.ref D2))(m3:mg "TooMany"=some (.ref D3))(m4:mg "NoCell"=some (.ref D4))(m5:mg "NoShot"=some (.ref D5))(m6:mg "NothingLeft"=some (.ref D6))(m7:mg "NoCounts"=some (.ref D7))(m8:mg "Over"=some (.ref D8))(m9:mg "NoText"=some (.ref D9))(L7:mg "NoRow"=some (.ref D10))
  {vs:TQ} {H:Hp} {Q:VK} {E:XK} {nx:L2.St->Hp->Prop} (h:LA K mg HE vs H Q E) :
  Ea (uM (Ek (dI (kj K 0 (.ref D1)) (dI (kj K 0 (.ref D2)) (dI (kj K 0 (.ref D3)) (dI (kj K 0 (.ref D4)) tNil))))) (l' 1)) (Ea (uM (EM rCat (y0 1) (Ek (dI (kj K 0 (.ref D5)) (dI (kj K 0 (.ref D6)) (dI (kj K 0 (.ref D7)) (dI (kj K 0 (.ref D8)) tNil)))))) (l' 1))
   (Hj (EM rCat (y0 1) (Ek (dI (kj K 0 (.ref D9)) (dI (kj K 0 (.ref D10)) (dI (kj K 0 (.type "ValueError")) tNil))))))) {nx:=nx,rt:=Q} (start ["e","flags"] vs) H:=by
 obtain⟨v,C,c,rfl,hE,hC,q⟩:=h;have f1:=hC.fl _ @1 _ m1;have f2:=hC.fl _ @1 _ m2;have f3:=hC.fl _ @1 _ m3;have f4:=hC.fl _ @1 _ m4;have f5:=hC.fl _ @1 _ m5;have f6:=hC.fl _ @1 _ m6;have f7:=hC.fl _ @1 _ m7;have f8:=hC.fl _ @1 _ m8;have f9:=hC.fl _ @1 _ m9;have f10:=hC.fl _ @1 _ L7;have o:=hC.own;refine⟨v,C,_,rfl,hE,o,f1,v,C,_,rfl,hE,o,f2,v,C,_,rfl,hE,o,f3,v,C,_,rfl,hE,o,f4,(show(4:Nat)<=sizeLine by decide),λp1 h1=>?_⟩;have s1:aE H (upd H p1 _):=cw (o:=.lst [.bl ("NoHiding"==c),.bl ("NoNumber"==c),.bl ("TooMany"==c),.bl ("NoCell"==c)]) h1;have E1:=jO s1 hE;refine⟨_,rfl,v,C,_,rfl,E1,o,f5,v,C,_,rfl,E1,o,f6,v,C,_,rfl,E1,o,f7,v,C,_,rfl,E1,o,f8,(show(4:Nat)<=sizeLine by decide),λp2 h2=>?_⟩;have n12:p1≠p2:=λz=>by rw[<- z,aw]at h2;cases h2
 refine⟨p1,p2,_,_,rfl,rfl,(ay n12).trans aw,aw,(show(8:Nat)<=sizeLine by decide),λp3 h3=>?_⟩;have s2:=cw (o:=.lst [.bl ("NoShot"==c),.bl ("NothingLeft"==c),.bl ("NoCounts"==c),.bl ("Over"==c)]) h2;have s3:=cw (o:=.lst ([V.bl ("NoHiding"==c),.bl ("NoNumber"==c),.bl ("TooMany"==c),.bl ("NoCell"==c)]++[.bl ("NoShot"==c),.bl ("NothingLeft"==c),.bl ("NoCounts"==c),.bl ("Over"==c)])) h3;have E3:=jO s3 (jO s2 E1);refine⟨_,rfl,v,C,_,rfl,E3,o,f9,v,C,_,rfl,E3,o,f10,v,C,_,rfl,E3,o,hC.va,(show(3:Nat)<=sizeLine by decide),λp4 h4=>?_⟩;have n34:p3≠p4:=λz=>by rw[<- z,aw]at h4;cases h4
 refine⟨p3,p4,_,_,rfl,rfl,(ay n34).trans aw,aw,(show(11:Nat)<=sizeLine by decide),λp5 h5=>?_⟩;have s4:=cw (o:=.lst [.bl ("NoText"==c),.bl ("NoRow"==c),.bl true]) h4;have s5:=cw (o:=.lst (([V.bl ("NoHiding"==c),.bl ("NoNumber"==c),.bl ("TooMany"==c),.bl ("NoCell"==c)]++[.bl ("NoShot"==c),.bl ("NothingLeft"==c),.bl ("NoCounts"==c),.bl ("Over"==c)])++[.bl ("NoText"==c),.bl ("NoRow"==c),.bl true])) h5;have sa:=(((s1.trans s2).trans s3).trans s4).trans s5;refine q p5 _ sa ?_ ?_
 .cases z:H p5 with
  | none=>rfl
  | some ob=>have:=((s1.trans s2).trans s3).trans s4 _ _ z;rw[h5]at this;cases this
 .exact aw
theorem Rl.setU{K:Fg}{B Z H:Hp}{env:En}{σ:L2.St}(R:Rl K B Z H env σ)(i:Nat)(x:Option V):Rl K B Z H (env.set i .un) (σ.set i x):=by
 refine⟨R.bh,R.zh,by simp[R.len],λj s h=>?_,λj ds a h h2=>?_,λj k ds es a hne h1 h2 h3 h4=>?_⟩
 .by_cases hj:i=j
  .subst hj
   by_cases hl:i<env.length
   .rw[r_ hl]at h;cases h;exact⟨x,r_ (by rw[<- R.len];exact hl),trivial⟩
   .rw[A_ (by simpa using Qc hl)]at h;cases h
  .rw[l_ hj]at h ⊢;exact R.sl j s h
 .by_cases hj:i=j
  .subst hj
   by_cases hl:i<env.length
   .rw[r_ hl]at h;cases h
   .rw[A_ (by simpa using Qc hl)]at h;cases h
  .rw[l_ hj]at h h2;exact R.ob j ds a h h2
 .by_cases hj:i=j
  .subst hj
   by_cases hl:i<env.length
   .rw[r_ hl]at h1;cases h1
   .rw[A_ (by simpa using Qc hl)]at h1;cases h1
  .by_cases hk:i=k
   .subst hk
    by_cases hl:i<env.length
    .rw[r_ hl]at h2;cases h2
    .rw[A_ (by simpa using Qc hl)]at h2;cases h2
   .rw[l_ hj]at h1 h3;rw[l_ hk]at h2 h4;exact R.ap j k ds es a hne h1 h2 h3 h4
def iY(c:Str):D:=.lst ((jX c).map .bl)
def yT(cs:Tb)(i j:Nat)(fb:FsX):FsX:=λenv=>(fb env).bind λo=>match o with
 | .ex c d env'=>if c∈cs then some (.nx ((env'.set j (.F (iY c))).set i .un))else none
 | o=>some o
theorem vO{K:Fg}{H:Hp}:∀(bs:List Bool),av K H (bs.map D.bl) (bs.map V.bl)
 | []=>rfl
 | _::bs=>⟨_,_,rfl,rfl,vO bs⟩
theorem G'{X:Cx}{rg:Gr}{i j k:Nat}{HE:Tv}{n y:Str}{cs:Tb}{f:Tv}{fd:Tt}{body:Te}{fb:FsX}{p hp pos p1 p2 p3 p4 p5:Pos}{nm q:Str}{N:Tv}{bs:S9}{sn:Tb}{sub:S9}{ab:Bool}{col:Option Bool}{dd:Ta}{k0 k1 k2 k3 k5:S_}
  (T:vF X) (hN:X.N.Nodup) (NM:i≠j) (hm:X.mg "HideError"=some (.ref HE)) (lk:X.K.lookup HE=some (de nm q HE N bs bmV sn sub ab col dd k0 k1 k2 k3 k5))
  (CT:∀c∈cs,∀C,X.mg c=some (.ref C)->EI X.K X.mg HE c C) (F:Lj X.prog X.w X.K X.mg X.base k f fd ["e"] (LA X.K X.mg HE)) (hr:BK k X.A) (hf:X.mg "_law_flags"=some (.ref f)) (hk:PySem.W.keepIn X.K (.ref f)=true) (hb:Binds X.K fd ["e"] [])
  (hbody:∀xe,BR (X.wish xe) rg body fb)
  (hi:X.N[i]?=some n:=by rfl) (hl:X.env.scope.names.lookup n=some .local:=by rfl) (hj:X.N[j]?=some y:=by rfl) (NN:Loc X.env.scope y:=by first | exact Or.inl rfl | exact Or.inr rfl) (hg:Gl X "HideError":=by rfl) (NO:Gl X "_law_flags":=by rfl)
  (Ia:(n==("__debug__":Str))=false:=by decide) (hd2:(n==("__classdict__":Str))=false:=by decide)
  (NP:X.fn y=true\/X.env.scope.names.lookup y=some .local:=by first | exact .inl rfl | exact .inr rfl)
  (gq:starEach [.Name n p3] X.env=(false,eval (.Name n p3) X.env)::starEach [] X.env:=by rfl)
  (EB:swapsWith (.Call (.Name "_law_flags" p2) [.Name n p3] [] p4) (some (.Name y p1)) p5.line X.env=pure false:=by rfl) :
  Jl X rg (.Try body [.ExceptHandler (some (.Name "HideError" p)) (some n) [.Assign [.Name y p1] (.Call (.Name "_law_flags" p2) [.Name n p3] [] p4) p5] hp] [] [] pos) (yT cs i j fb):=by
 rintro s σ H E I ⟨env,B,Z,o,R,e1,kk⟩;refine Ht T hN hi hl hg hm lk hbody (λe=>fP (gP hN hj NN (yM F ⟨hr.dp,hr.un⟩ NO hf hk hb (aJ (bV hi (.inl hl) Ia hd2) bS gq) @1 gq rfl) EB NP)) s σ H E I ?_;intro xe hxe;obtain⟨o1,e2,e3⟩:=a_.mp e1;refine⟨env,B,Z,o1,R,e2,?_⟩;cases o1 with
 | nx Eu=>cases e3;exact kk
 | rt d=>cases e3;exact kk
 | bk d=>cases e3;exact kk
 | ct d=>cases e3;exact kk
 | ex c d env'=>
  obtain⟨hc,rfl⟩:=rj e3;intro σ' Z' H' C dx u x R' hmg hxd hu pins s' e I' hn he BJ;have hC:=CT c hc C hmg;refine hxe σ' H' s' pins e C dx I'.unwish hn he BJ hC.cg ?_;have HL:i < σ'.length:=by rw[I'.len];exact(h_.mp hi).1
  refine⟨.ref e,r_ HL,.ref e,C,c,rfl,⟨e,dx,[("cell",u)],rfl,aw,?_⟩,hC,λa H2 sa hna hla=>?_⟩
  .rw[ay (λz=>by rw[z,he]at hxd;cases hxd)];exact hxd
  have Pd:H' a=none:=by
   by_cases z:a=e
   .rw[z];exact he
   .rwa [ay z]at hna
  have s0:aE H' H2:=(cw he).trans sa;have hZa:Z' a=none:=x.zh.free Pd;have x2:Ex Z' H' (upd Z' a (.lst ((jX c).map V.bl))) H2:=⟨s0,cw hZa,λb ob hb=>by
   by_cases z:b=a
   .subst z;rw[aw]at hb;cases hb;exact hla
   .rw[ay z]at hb;exact s0 _ _ (x.zh _ _ hb),λb h1 h2=>by
   rw[ay (λz=>h1 (by rw[z];exact Pd))];exact h2,my (λ_ _ _ h=>h) Ij⟩
  have R2:=((R'.ext x2).setF (d:=iY c) j ⟨a,_,rfl,cR.of aw,vO _⟩).setU i none;have es:(((σ'.set i (some (V.ref e))).set j (some (V.ref a))).set i none)=(σ'.set j (some (V.ref a))).set i none:=by
   rw[List.set_comm _ _ NM,List.set_set]
  show E.nx (((σ'.set i (some (V.ref e))).set j (some (V.ref a))).set i none) H2;rw[es];exact kk _ _ _ (x.transB (Ex.part x.h x2)) R2
end Mi
namespace Mi
open PySem PySem.Spec PyProof.Rows L2
theorem Ae(ha:s.TypeIs a "list")(hb:s.TypeIs b "list")
  (hc:wpAny M A (call (.builtin "list.__iadd__") [a,b]) Q E s):wpAny M A (inplaceOp .Add a b) Q E s:=by
 unfold inplaceOp;refine K_ ?_;have hl:typeLookup (.type "list") (dunderI "add")=pure (some (.builtin "list.__iadd__")):=PySem.F.slot_list_iadd.lookup;have L8:isSeqSlot (some (.builtin "list.__iadd__"))=true:=by decide +kernel
 have hfi:fillsInplaceSlot (.type "list") "add" (Operator.Add==.Add)=pure false:=by
  unfold fillsInplaceSlot;show(typeLookup (.type "list") (dunderI "add") >>= λfi=>pure (fi.isSome&&!isSeqSlot fi))=pure false;rw[hl];show(pure ((some (Value.builtin "list.__iadd__")).isSome&&!isSeqSlot (some (.builtin "list.__iadd__"))):Sem Bool)=pure false;rw[L8];rfl
 refine b_ (wpAny_typeOf ha (b_ (wpAny_of_eq hfi ?_)));show wpAny M A (if false=true then _ else _) Q E s;rw[j_ QA];refine b_ (PyProof.Rows.binaryOp1_none ha hb noFill_list_add ?_);refine b_ (wpAny_of_eq (PySem.seqSlot_of hl L8) ?_);exact b_ (So hc)
section
variable {X:Cx}{rg:Gr}{pos px:Pos}{x:Str}{e:Tz}
def ipL:TIp:=λx y H Q=>∃l b xs zs,x=.ref l/\y=.ref b/\H l=some (.lst xs)/\H b=some (.lst zs)/\xs.length+zs.length<=sizeLine/\Q (.ref l) (upd H l (.lst (xs++zs)))
theorem Ee:OG X .Add ipL:=by
 intro pins s σ H x y v u Q I rx ry h;obtain⟨l,b,xs,zs,rfl,rfl,hH,hB,hz,q⟩:=h;cases(show v=Value.ref l from rx);cases(show u=Value.ref b from ry);obtain⟨z,bo,n,r,hl,e⟩:=I.lstM hH;obtain⟨z2,nQ,n2,r2,LS,e2⟩:=I.lstM hB;have hsz:bo.toArray.size+nQ.toArray.size<=sizeLine:=by rw[q_,q_];omega
 have By:¬(!bo.toArray.isEmpty&&Builtin.List.listTooLong (bo.toArray.size+nQ.toArray.size))=true:=by
  rw[rL hsz,Ru];exact QA
 refine Ae ⟨_,e,rfl⟩ ⟨_,e2,rfl⟩ (call_meets PySem.F.slot_list_iadd ⟨_,e,rfl⟩ PySem.F.entry_list_iadd (PySem.F.args_list_iadd_2 _ _)
  (AutoSeq1.list___iadd___list_list_0 l bo.toArray n b nQ.toArray n2 By (by rw[q_];omega) (by omega)) ⟨e,e2,?_⟩)
 refine⟨.ref l,_,I.lset hH e (by simp) (r.append r2) ?_,rfl,q⟩;rw[E_];omega
theorem set_same{σ:L2.St}{i:Nat}{v:V}(h:σ[i]?=some (some v)):σ.set i (some v)=σ:=by
 apply Rq;intro j
 by_cases z:i=j
 .subst z;rw[r_ (h_.mp h).1,h]
 .rw[l_ z]
theorem Kr(i:Nat){fe:Fe}(he:PD X .nw e fe)(hN:X.N.Nodup)(hi:X.N[i]?=some x:=by rfl)(hx:Loc X.env.scope x:=by first | exact Or.inl rfl | exact Or.inr rfl)(hf:X.fn x=true\/X.env.scope.names.lookup x=some .local:=by first | exact .inl rfl | exact .inr rfl | assumption) :
  SD X rg (.AugAssign (.Name x px) .Add e pos) (qS i fe):=by
 refine PS.imp (Gq hN hi hx he Ee hf) λE σ H aA=>?_;obtain⟨env,B,Z,o,R,e,k⟩:=aA;unfold qS at e
 split at e
 .rename_i ds hi;obtain⟨d,e1,e2⟩:=a_.mp e;cases d<;>try cases e2
  rename_i es;obtain⟨hl,rfl⟩:=rj e2;obtain⟨y,e3,a,o,e4,e5,e6,vs,rfl,r⟩:=R.sl i _ hi;subst e4;refine⟨_,e3,env,B,Z,_,R,e1,λv Z1 H1 x1 g1=>?_⟩;obtain⟨b,us,KH,rfl,e7,h1,h2,h3,r2⟩:=g1;cases e7;have R1:=R.ext x1;have r1:=av.mono x1.z ds r;refine⟨a,b,vs,us,rfl,rfl,x1.h _ _ e5,h2,by rw[<- r.len,<- r2.len,P6];omega,?_⟩;obtain⟨R2,x2⟩:=R1.wr hi e3 (cP.l (r1.app r2));rw[set_same e3];exact k σ Z1 _ ((x1.part R.bh).transB x2) R2
 .cases e
end
theorem DP(hh:A.handled=none)(hl:s.heap.IsList l (x::xs).toArray)(hz:xs.length+1<=sizeLine)
  (hQ:∀(h':Tr)(tk:Nat),(∀b o,s.heap.get? b=some o->h'.get? b=some o)->Q [x,.ref h'.objs.size] {s with heap:=h'.push {cls:=.type "list",data:=.seq xs.toArray},toks:=tk}):wpAny (model P w) A (unpackItems (.ref l) 2 (some 1)) Q E s:=by
 have kZ:l≠s.sz:=by obtain⟨o,ho,_⟩:=hl;exact x_ (k_ ho)
 have Nu:(s.heap.push {cls:=.type "list_iterator",data:=.fields #[.ref l,rawInt 0]}).IsList l (x::xs).toArray:=by obtain⟨o,ho,r⟩:=hl;exact⟨o,d_ _ ho,r⟩
 unfold unpackItems;refine b_ ?_;unfold notIterableAtAll;refine b_ (RL hl.typeIs PySem.slot_list_iter.lookup (o_ ?_));simp only[P5,QV];refine b_ (K_ (QR hl ?_));refine b_ (K_ (EY kZ 1 0 _ _ ⟨_,s_ _ rfl,rfl,rfl⟩ Nu (by simp) λh₁ Ic hs₁=>?_));have Pe:h₁.IsList l (x::xs).toArray:=Nu.extBut hs₁.extBut kZ;rw[Qb]at Ic;have hit₁':=Ic;obtain⟨oi,hoi,_⟩:=hit₁';have hl₁':=Pe;obtain⟨ol,K8,_⟩:=hl₁';rw[show(((x::xs).toArray.toList.drop 0).take 1)=[x]from rfl,j_ (show ¬([x].length<1) by simp)];refine b_ (K_ (PySem.W.kun_collect (.inr (.inr (.inl rfl))) (Walks.list (A:=A.in1) hh s.sz l kZ (x::xs).toArray) (λj u st=>st.1.typeIs) (by simp) ⟨Ic,Pe⟩ (k_ hoi) (k_ K8) (λh₂ tk hk=>?_) (by simpa using hz)));rw[show((x::xs).toArray.toList.drop 1)=xs from rfl];show wpAny _ _ (if xs.length<0 then _ else _) _ _ _;rw[j_ (by lia)];show wpAny _ _ (newList (xs.take (xs.length-0)) >>= λd=>pure ([x]++[d]++xs.drop (xs.length-0))) _ _ _;rw[Nat.sub_zero,Qu,List.drop_length];have he:Heap.ExtBut s.sz s.heap h₂:=λb o hb e=>hk b o hb (hs₁.extBut b o hb (d_ _ e));exact b_ (Q8 (o_ (hQ h₂ tk λb o e=>he b o (x_ (k_ e)) e)) (by show xs.toArray.size<=sizeLine;rw[q_];lia))
section
variable {X:Cx}{rg:Gr}
def J9(K:Tj)(t:TGs):TG:=λv σ H Q=>∃a x xs,v=.ref a/\cR K H a (x::xs)/\∀p,H p=none->t [x,.ref p] σ (upd H p (.lst xs)) Q
theorem Cn(hc:X.calm=true)(h:xc X es t)(hn:(assignEach es X.env).length=2:=by rfl)(gq:(assignEach es X.env).findIdx? (·.1)=some 1:=by rfl):PG X (.Tuple es k pos) (J9 X.K t):=by
 intro pins s σ H v u Q I r hw;obtain⟨a,x,xs,e1,hq,hw⟩:=hw;subst e1;cases r;obtain⟨bo,rv,pl,hz⟩:=I.list hq;cases rv with
 | @cons _ u0 _ us r0 rr=>
 have hlen:=rr.length;rw[Sw];refine b_ (Qy ?_);unfold unpack;rw[gq,hn];have hz2:us.length+1<=sizeLine:=by simp only[z_]at hz;lia
 refine b_ (K_ (DP (I.ok.hd hc) pl.isList hz2 λh' tk hx=>?_));have I1:Inv X pins σ H {s with heap:=h',toks:=tk}:=I.kept hx;have I2:=I1.lnew (t':=tk) rr (by lia);exact h pins _ σ _ _ _ Q I2 (.cons r0 (.cons (show L2.RelV (.ref h'.objs.size) (Value.ref h'.objs.size)from rfl) .nil)) (hw _ I1.fresh)
theorem yU(h1:PG X e t)(hs:(assignEach [.Starred e p] X.env).map (·.2)=[assign e X.env]:=by rfl):xc X [.Starred e p] (E8 t gNil):=by
 intro pins s σ H vs us Q I r h;obtain⟨v,vr,e1,h⟩:=h;subst e1;cases r with
 | cons r rr=>
  rw[hs];refine assignInOrder_cons (bx (h1 pins s σ H _ _ _ I r h) λ_ s1 aA=>?_);obtain⟨σ1,H1,I1,q1⟩:=aA;obtain⟨rfl,q1⟩:=q1;cases rr;exact assignInOrder_nil ⟨σ1,H1,I1,q1⟩
def Fl(i j:Nat)(f:Fe):Fs:=λenv=>(f env).bind λd=>match d with
 | .lst (d::ds)=>some (.nx ((env.set i (.F d)).set j (.F (.lst ds))))
 | _=>none
theorem G0(i j:Nat)(hc:X.calm=true)(he:PD X .cl e fe)(hN:X.N.Nodup)(hi:X.N[i]?=some x:=by rfl)(hj:X.N[j]?=some y:=by rfl)
  (hx:Loc X.env.scope x:=by first | exact Or.inl rfl | exact Or.inr rfl) (hy:Loc X.env.scope y:=by first | exact Or.inl rfl | exact Or.inr rfl)
  (hf:X.fn x=true\/X.env.scope.names.lookup x=some .local:=by first | exact .inl rfl | exact .inr rfl | assumption) (hf2:X.fn y=true\/X.env.scope.names.lookup y=some .local:=by first | exact .inl rfl | exact .inr rfl | assumption)
  (ha:(assignEach [.Name x p1,.Starred (.Name y p3) p4] X.env).map (·.2)=assign (.Name x p1) X.env::(assignEach [.Starred (.Name y p3) p4] X.env).map (·.2):=by rfl)
  (ha2:(assignEach [.Starred (.Name y p3) p4] X.env).map (·.2)=[assign (.Name y p3) X.env]:=by rfl)
  (hn:(assignEach [.Name x p1,.Starred (.Name y p3) p4] X.env).length=2:=by rfl) (gq:(assignEach [.Name x p1,.Starred (.Name y p3) p4] X.env).findIdx? (·.1)=some 1:=by rfl)
  (hs:swapsWithSole [.Tuple [.Name x p1,.Starred (.Name y p3) p4] k p2] e pos.line X.env=pure false:=by rfl) (hw:swappedStores [.Tuple [.Name x p1,.Starred (.Name y p3) p4] k p2] e X.env=pure none:=by rfl) (h1:(assignEach [.Tuple [.Name x p1,.Starred (.Name y p3) p4] k p2] X.env).map (·.2)=[assign (.Tuple [.Name x p1,.Starred (.Name y p3) p4] k p2) X.env]:=by rfl) :
  SD X rg (.Assign [.Tuple [.Name x p1,.Starred (.Name y p3) p4] k p2] e pos) (Fl i j fe):=
 PS.imp (qK he (Cn hc (rT (lr hN hi hx hf) (yU (lr hN hj hy hf2) ha2) ha) hn gq) hs hw h1) λE σ H aA=>by
 obtain⟨env,B,Z,o,R,e,k⟩:=aA;obtain⟨d,e1,e⟩:=a_.mp e;cases d<;>try cases e
 rename_i ds;cases ds with
 | nil=>cases e
 | cons d ds=>
  cases e;refine⟨env,B,Z,_,R,e1,λv Z1 H1 x1 g1=>?_⟩;obtain⟨a,vs,rfl,hq,rr⟩:=g1;obtain⟨v0,vr,rfl,r0,r1⟩:=rr;refine⟨a,v0,vr,rfl,x1.zh.seq hq,λp hp=>?_⟩;have x2:Ex Z1 H1 (upd Z1 p (.lst vr)) (upd H1 p (.lst vr)):=by
   refine⟨cw hp,cw (x1.zh.free hp),λb ob hb=>?_,λb h1 h2=>?_,my (λ_ _ _ h=>h) Ij⟩
   .by_cases z:b=p
    .subst z;rw[aw]at hb ⊢;exact hb
    .rw[ay z]at hb ⊢;exact x1.zh _ _ hb
   .rw[ay (λz=>h1 (by rw[z];exact hp))];exact h2
  refine⟨v0,_,rfl,.ref p,_,rfl,rfl,?_⟩;have s1:aE Z1 (upd Z1 p (.lst vr)):=x2.z;have R2:=(((R.ext x1).ext x2).setF i (Rep.mono s1 d r0)).setF (d:=.lst ds) j ⟨p,vr,rfl,cR.of aw,av.mono s1 ds r1⟩;exact k _ _ _ ((x1.trans x2).part R.bh) R2
end
section
variable {X:Cx}{rg:Gr}{pins:S3}{s:To}{σ:L2.St}{H:Hp}
variable {o e:Tz}{fa fb:Fe}{apos bU:Pos}{k:Nat}
end
end Mi
namespace Mi
open PySem PySem.Spec PyProof.Rows L2
inductive pq(A:Around)(s:Shared)(q:Bool):List Value->List Value->Prop
 | nil:q=false->pq A s q [] []
 | less {w:Value} {ws:List Value}:q=true->pq A s q [] (w::ws)
 | more {v:Value} {vs:List Value}:q=false->pq A s q (v::vs) []
 | same {v w:Value} {vs ws:List Value}:SeqAt.EqAt A s v w true->pq A s q vs ws->pq A s q (v::vs) (w::ws)
 | apart {v w:Value} {vs ws:List Value}:SeqAt.EqAt A s v w false->(∀(prog:Program)(wd:World)(E:Value->Shared->Prop)(Q:Value->Shared->Prop),Q (.bool q) s->wpAny (model prog wd) A (richCompare .Lt v w) Q E s)->pq A s q (v::vs) (w::ws)
section
open PySem.SeqAt
open PySem.AutoSeq1 (wpAny_loadPart')
open PySem.MeetsSeq PySem.MeetsSeq2 PySem.MeetsSeq3
end
section
variable {X:Cx}{pins:S3}{s:To}{σ:L2.St}{H:Hp}
variable {l r:Tz}{fa fb:Fe}{ga gb:Gr}{pos p:Pos}{k:Nat}
end
end Mi
namespace Mi
open PySem PySem.Spec PyProof.Rows L2
def Pq:D->Option Bool
 | .lst ds=>some !ds.isEmpty
 | _=>none
def fT(f:Fe):Fb:=λenv=>(f env).bind Pq
theorem J2(h:PD X .cl e f)(he:∀whole,isTrue e X.env whole=(do let v <- whole;standAt e.pos;holding [v] (truthy v)):=by intro _;rfl):PB X e (fT f):=
 PT.imp (Bq h he) λσ H Q aA=>by
  obtain⟨env,B,Z,b,R,e,k⟩:=aA;obtain⟨d,h1,h2⟩:=a_.mp e;cases d<;>cases h2;rename_i ds;refine⟨env,B,Z,_,R,h1,λv Z' H' x g=>?_⟩;obtain⟨a,vs,rfl,hq,rr⟩:=g;have hl:=rr.len;have:(!ds.isEmpty)=!vs.isEmpty:=by cases ds<;>cases vs<;>first | rfl | (simp at hl)
  exact⟨_,.inl ⟨vs,x.zh.seq hq,rfl⟩,by rw[<- this];exact k Z' H' x⟩
theorem zM{P:Tp}{w:Ts}{K:Fg}{mg:S5}{base:Tr}{k n:Nat}{f:Tv}{fd:Tt}{ps:Tb}{g:Gr}:dM P w K mg base kO k f fd ps (AY K n g λ_=>none):=
 ⟨λvs H Q E ⟨_,_,_,_,_,_,e,_⟩=>(by cases e),λA outer s H args us vs Q E _ _ _ _ ⟨_,_,_,_,_,_,e,_⟩=>(by cases e)⟩
end Mi
namespace Mi
open PySem PySem.Spec PyProof.Rows L2 Xc
section
variable {K:Fg}{mg:S5}{C D HE fI:Tv}{nm q nm2 q2:Str}{N N2:Tv}{bs bs2 bm bm2:S9}{sn sn2:Tb}{sub sub2:S9}{ab ab2:Bool}{col col2:Option Bool}{dd tV:Ta}{k0 k1 k2 k3 k5 j0 j1 j2 j3 j5:S_}
theorem uE(lC:K.lookup C=some (de nm q C N bs bm sn sub ab col dd k0 k1 k2 k3 k5)):PySem.W.mroIn K C b=some ((Value.ref C::bm).contains b):=by
 unfold PySem.W.mroIn PySem.W.clsIn;rw[lC]
 rfl
theorem DU(lC:K.lookup C=some (de nm q C N bs (.ref HE::bmV) sn sub ab col dd k0 k1 k2 k3 k5))(lD:K.lookup D=some (de nm2 q2 D N2 bs2 bm2 sn2 sub2 ab2 col2 tV j0 j1 j2 j3 j5))(hD:D≠HE) :
  PySem.W.kitOne K (.ref C) (.ref D)=some (decide (D=C)):=by
 unfold PySem.W.kitOne
 by_cases h:D=C
 .subst h;rw[g_ (SM _),t_ rfl]
 .rw[j_ (λz=>h (Value.ref.inj (RO.mp z)).symm),B_ h];unfold PySem.W.kitCls;have h1:((PySem.W.clsIn K D).isSome&&PySem.W.typeIn K (.ref D)==some (.type "type"))=true:=by
   have e1:PySem.W.typeIn K (.ref D)=some (.type "type"):=(QO (Option.map (λx:Obj=>x.cls)) lD);rw[e1];unfold PySem.W.clsIn;rw[lD]
   rfl
  show(if((PySem.W.clsIn K D).isSome&&PySem.W.typeIn K (.ref D)==some (.type "type"))=true then PySem.W.subIn K (.ref C) (.ref D)else none)=_;rw[g_ h1];show PySem.W.mroIn K C (.ref D)=some false;rw[uE lC];have c1:(Value.ref D==Value.ref C)=false:=Sg.mpr (λz=>h (Value.ref.inj z));have c2:(Value.ref D==Value.ref HE)=false:=Sg.mpr (λz=>hD (Value.ref.inj z));rw[I_,c1,I_,c2]
  rfl
theorem Do(lC:K.lookup C=some (de nm q C N bs (.ref HE::bmV) sn sub ab col dd k0 k1 k2 k3 k5))(hm:PySem.W.kitMeta "ValueError"=true:=by decide +kernel):PySem.W.kitOne K (.ref C) (.type "ValueError")=some true:=by
 unfold PySem.W.kitOne;rw[j_ (λz=>by cases(RO.mp z))];show(if PySem.W.kitMeta "ValueError"=true then PySem.W.subIn K (.ref C) (.type "ValueError")else none)=_;rw[g_ hm];show PySem.W.mroIn K C (.type "ValueError")=some true;rw[uE lC,I_,uN.v,Qw]
def AX(K:Fg)(mg:S5)(HE C:Tv)(c n:Str):Prop:=∃D,mg n=some (.ref D)/\(∃nm q N bs bm sn sub ab col dd k0 k1 k2 k3 k5,K.lookup D=some (de nm q D N bs bm sn sub ab col dd k0 k1 k2 k3 k5))/\D≠HE/\(D=C↔n=c)
theorem F8(ec:EC K C HE fI)(ga:PySem.W.findIn K (.ref C) "__getattribute__"=some (some (.builtin "BaseException.__getattribute__")))(gt:PySem.W.findIn K (.ref C) "__getattr__"=some none)(cl:PySem.W.findIn K (.ref C) "__class__"=some (some (.builtin "object.__class__")))
  (o:∀n∈vq,AX K mg HE C c n):EI K mg HE c C:=by
 obtain⟨nm,q,N,bs,sn,sub,ab,col,dd,k0,k1,k2,k3,k5,lC⟩:=ec.lk;refine⟨⟨⟨nm,q,N,bs,_,sn,sub,ab,col,dd,k0,k1,k2,k3,k5,uN,lC⟩,⟨ga,gt,cl,?_⟩⟩,⟨nm,q,N,bs,_,sn,sub,ab,col,dd,k0,k1,k2,k3,k5,?_,lC⟩,λn hn D hD=>?_,Do lC⟩
 .rw[uE lC,I_,uN.o,Qw]
 .rw[I_,I_,SM,SS,Qw]
 .obtain⟨D',e,⟨_,_,_,_,_,_,_,_,_,_,_,_,_,_,_,lD⟩,h1,h2⟩:=o n hn;have:D'=D:=Value.ref.inj (Option.some.inj (e.symm.trans hD));subst this;rw[DU lC lD h1];congr 1;rw[P8];simp[h2]
end
structure NQ(P:Program)(w:World)(K:Fg)(mg:Str->Option Value)(base:Heap)(cs:List Str):Prop where
 ex:∃HE nm q N bs sn sub ab col dd k0 k1 k2 k3 k5 f fd,mg "HideError"=some (.ref HE)/\K.lookup HE=some (de nm q HE N bs bmV sn sub ab col dd k0 k1 k2 k3 k5)/\(∀c∈cs,∀C,mg c=some (.ref C)->EI K mg HE c C)/\
  Lj P w K mg base 1 f fd ["e"] (LA K mg HE)/\mg "_law_flags"=some (.ref f)/\PySem.W.keepIn K (.ref f)=true/\Binds K fd ["e"] []
theorem Co(i j:Nat)
  (TX:NQ X.prog X.w X.K X.mg X.base cs) (hr:bG k X.A) (hk1:1<=k) (T:vF X) (hN:X.N.Nodup) (NM:i≠j) (hbody:∀xe,BR (X.wish xe) rg body fb)
  (hi:X.N[i]?=some n:=by rfl) (hl:X.env.scope.names.lookup n=some .local:=by rfl) (hj:X.N[j]?=some y:=by rfl) (NN:Loc X.env.scope y:=by first | exact Or.inl rfl | exact Or.inr rfl) (hg:Gl X "HideError":=by rfl) (NO:Gl X "_law_flags":=by rfl)
  (Ia:(n==("__debug__":Str))=false:=by decide) (hd2:(n==("__classdict__":Str))=false:=by decide)
  (NP:X.fn y=true\/X.env.scope.names.lookup y=some .local:=by first | exact .inl rfl | exact .inr rfl)
  (gq:starEach [.Name n p3] X.env=(false,eval (.Name n p3) X.env)::starEach [] X.env:=by rfl)
  (EB:swapsWith (.Call (.Name "_law_flags" p2) [.Name n p3] [] p4) (some (.Name y p1)) p5.line X.env=pure false:=by rfl) :
  Jl X rg (.Try body [.ExceptHandler (some (.Name "HideError" p)) (some n) [.Assign [.Name y p1] (.Call (.Name "_law_flags" p2) [.Name n p3] [] p4) p5] hp] [] [] pos) (yT cs i j fb):=by
 obtain⟨HE,nm,q,N,bs,sn,sub,ab,col,dd,k0,k1,k2,k3,k5,f,fd,hm,lk,CT,F,hf,hk,hb⟩:=TX.ex;have hr1:=hr.mono hk1;exact G' T hN NM hm lk CT F ⟨hr1.dp,hr1.un⟩ hf hk hb hbody hi hl hj NN hg NO Ia hd2 NP gq EB
section
variable {K:Fg}{mg:S5}{HE C:Tv}{c:Str}
theorem Gb:∀c∈([]:Tb),∀C,mg c=some (.ref C)->EI K mg HE c C:=λ_ h=>nomatch h
theorem CY(m:mg c0=some (.ref C0))(h:EI K mg HE c0 C0)(t:∀c∈cs,∀C,mg c=some (.ref C)->EI K mg HE c C):∀c∈c0::cs,∀C,mg c=some (.ref C)->EI K mg HE c C:=λc hc C hC=>by
 rcases p_.mp hc with rfl | hc
 .have:C0=C:=Value.ref.inj (Option.some.inj (m.symm.trans hC));subst this;exact h
 .exact t c hc C hC
end
end Mi
namespace Mi
open PySem PySem.Spec PyProof.Rows L2
def a7:TF->List α->TH->Option α
 | k::ks,d::ds,q=>if k=q then some d else a7 ks ds q
 | _,_,_=>none
def b8:TF->List α->TH->α->List α
 | k::ks,d::ds,q,x=>(if k=q then x else d)::b8 ks ds q x
 | _,ds,_,_=>ds
instance decK(q:TH)(ks:TF):Decidable (q∈ks):=decidable_of_iff ((ks.any λk=>decide (k=q))=true) (by simp)
def kG(ks:TF)(q:TH):TF:=if q∈ks then ks else ks++[q]
def mV(ks:TF)(ds:List α)(q:TH)(x:α):List α:=if q∈ks then b8 ks ds q x else ds++[x]
def DD(ks:TF)(bs:Tc)(q:TH)(b:Tv):Tc:=if q∈ks then bs else bs++[b]
theorem vI(ks:TF)(q:TH):(kG ks q).length<=ks.length+1:=by unfold kG;split<;>simp
theorem o9(q:TH)(x:α):∀(ks:TF)(ds:List α),(b8 ks ds q x).length=ds.length
 | [],ds=>by cases ds<;>simp[b8]
 | _::_,[]=>by simp[b8]
 | k::ks,d::ds=>by simp[b8,o9 q x ks ds]
theorem qc(h:ds.length=ks.length)(q:TH)(x:α):(mV ks ds q x).length=(kG ks q).length:=by
 unfold mV kG;split<;>simp[o9,h]
theorem vX(h:bs.length=ks.length)(q:TH)(b:Tv):(DD ks bs q b).length=(kG ks q).length:=by
 unfold DD kG;split<;>simp[h]
theorem oh:∀{ks:TF}{ds:List α},q∉ks->a7 ks ds q=none
 | [],ds,_=>by cases ds<;>simp[a7]
 | _::_,[],_=>by simp[a7]
 | k::ks,d::ds,h=>by
  have h1:¬k=q:=λe=>h (by rw[e];exact f_);unfold a7;rw[j_ h1];exact oh λh2=>h (e_ _ h2)
theorem sD:∀{ks:TF}{ds:List α},ds.length=ks.length->q∈ks->∃d,a7 ks ds q=some d
 | [],_,_,h=>nomatch h
 | _::_,[],h,_=>by simp at h
 | k::ks,d::ds,hl,h=>by
  unfold a7
  by_cases e:k=q
  .exact⟨d,g_ e⟩
  .rw[j_ e];exact sD (by simpa using hl) ((p_.mp h).resolve_left λz=>e z.symm)
theorem Cz(hl:ds.length=ks.length):(a7 ks ds q).isSome=decide (q∈ks):=by
 by_cases h:q∈ks
 .obtain⟨d,e⟩:=sD hl h;rw[e,t_ h];rfl
 .rw[oh h,B_ h];rfl
theorem av.look{K:Fg}{H:Hp}{q:TH}:∀{ks:TF}{ds:TM}{vs:TQ}{d:D},av K H ds vs->a7 ks ds q=some d->∃v,a7 ks vs q=some v/\Rep K H d v
 | [],ds,_,_,_,e=>by cases ds<;>simp[a7]at e
 | _::_,[],_,_,_,e=>by simp[a7]at e
 | k::ks,d::ds,_,d',⟨v,r,e1,h,t⟩,e=>by
  subst e1;unfold a7 at e ⊢
  by_cases z:k=q
  .rw[g_ z]at e ⊢;cases e;exact⟨v,rfl,h⟩
  .rw[j_ z]at e ⊢;exact av.look t e
theorem av.repl{K:Fg}{H:Hp}{q:TH}{x:D}{y:V}(hx:Rep K H x y):∀{ks:TF}{ds:TM}{vs:TQ},av K H ds vs->av K H (b8 ks ds q x) (b8 ks vs q y)
 | [],ds,vs,h=>by
  have e1:b8 [] ds q x=ds:=by cases ds<;>rfl
  have e2:b8 [] vs q y=vs:=by cases vs<;>rfl
  rw[e1,e2];exact h
 | _::_,[],vs,h=>by cases(show vs=[]from h);exact h
 | k::ks,d::ds,_,⟨v,r,e1,h,t⟩=>by
  subst e1;unfold b8
  by_cases z:k=q
  .rw[g_ z,g_ z];exact⟨y,_,rfl,hx,av.repl hx t⟩
  .rw[j_ z,j_ z];exact⟨v,_,rfl,h,av.repl hx t⟩
theorem av.put{K:Fg}{H:Hp}{q:TH}{x:D}{y:V}(hx:Rep K H x y){ks:TF}{ds:TM}{vs:TQ}(h:av K H ds vs):av K H (mV ks ds q x) (mV ks vs q y):=by
 unfold mV
 split
 .exact av.repl hx h
 .exact h.app (av.one hx)
theorem aC.look:∀{ks:TF}{vs:TQ}{us:S9}{v:V},aC vs us->a7 ks vs q=some v->∃u,a7 ks us q=some u/\RelV v u
 | [],vs,_,_,_,e=>by cases vs<;>simp[a7]at e
 | _::_,_,_,_,.nil,e=>by simp[a7]at e
 | k::ks,_,_,v,.cons r t,e=>by
  unfold a7 at e ⊢
  by_cases z:k=q
  .rw[g_ z]at e ⊢;cases e;exact⟨_,rfl,r⟩
  .rw[j_ z]at e ⊢;exact aC.look t e
theorem aC.repl(hx:RelV y u):∀{ks:TF}{vs:TQ}{us:S9},aC vs us->aC (b8 ks vs q y) (b8 ks us q u)
 | [],vs,us,h=>by
  have e1:b8 [] vs q y=vs:=by cases vs<;>rfl
  have e2:b8 [] us q u=us:=by cases us<;>rfl
  rw[e1,e2];exact h
 | _::_,_,_,.nil=>.nil
 | k::ks,_,_,.cons r t=>by
  unfold b8
  by_cases z:k=q
  .rw[g_ z,g_ z];exact .cons hx (aC.repl hx t)
  .rw[j_ z,j_ z];exact .cons r (aC.repl hx t)
theorem oH(hx:RelV y u):∀{vs:TQ}{us:S9},aC vs us->aC (vs++[y]) (us++[u])
 | _,_,.nil=>.cons hx .nil
 | _,_,.cons r t=>.cons r (oH hx t)
theorem aC.put(hx:RelV y u)(h:aC vs us):aC (mV ks vs q y) (mV ks us q u):=by
 unfold mV
 split
 .exact aC.repl hx h
 .exact oH hx h
theorem fK(k:TH)(ks:TF)(b:Tv)(bs:Tc)(u:Tn)(us:S9):iz (k::ks) (b::bs) (u::us)=(k,b,u)::iz ks bs us:=rfl
theorem lA:∀{ks:TF}{bs:Tc}{us:S9},bs.length=ks.length->us.length=ks.length->(iz ks bs us).map (·.1)=ks
 | [],_,_,_,_=>rfl
 | _::_,[],_,h,_=>by simp at h
 | _::_,_::_,[],_,h=>by simp at h
 | k::ks,b::bs,u::us,h1,h2=>by rw[fK,N_,lA (by simpa using h1) (by simpa using h2)]
theorem wt(h1:bs.length=ks.length)(h2:us.length=ks.length):(iz ks bs us).length=ks.length:=by
 have:=QO List.length (lA h1 h2);simpa using this
theorem uQ(q:TH):∀{ks:TF}{bs:Tc}{us:S9},bs.length=ks.length->us.length=ks.length->(atKey (iz ks bs us) q).map (·.2)=a7 ks us q
 | [],_,us,_,_=>by cases us<;>rfl
 | _::_,[],_,h,_=>by simp at h
 | _::_,_::_,[],_,h=>by simp at h
 | k::ks,b::bs,u::us,h1,h2=>by
  have ih:=uQ q (by simpa using h1) (by simpa using h2);rw[fK];unfold atKey at ih ⊢;unfold a7;rw[List.find?_cons]
  by_cases e:k=q
  .rw[g_ e,show decide ((k,b,u).1=q)=true by simpa using e];rfl
  .rw[j_ e,show decide ((k,b,u).1=q)=false by simpa using e];exact ih
theorem uf(q:TH)(h1:bs.length=ks.length)(h2:us.length=ks.length):(atKey (iz ks bs us) q).isSome=decide (q∈ks):=by
 rw[<- Cz h2,<- uQ q h1 h2,Option.isSome_map]
theorem rY(q:TH)(u':Tn):∀{ks:TF}{bs:Tc}{us:S9},bs.length=ks.length->us.length=ks.length->(iz ks bs us).map (putAt q u')=iz ks bs (b8 ks us q u')
 | [],_,us,_,_=>by cases us<;>rfl
 | _::_,[],_,h,_=>by simp at h
 | _::_,_::_,[],_,h=>by simp at h
 | k::ks,b::bs,u::us,h1,h2=>by
  rw[fK,N_,rY q u' (by simpa using h1) (by simpa using h2)];rw[show b8 (k::ks) (u::us) q u'=(if k=q then u' else u)::b8 ks us q u' from rfl,fK];congr 1;unfold putAt
  by_cases e:k=q
  .rw[g_ e,g_ e]
  .rw[j_ e,j_ e]
theorem tD(q:TH)(b':Tv)(u':Tn):∀{ks:TF}{bs:Tc}{us:S9},bs.length=ks.length->us.length=ks.length->iz (ks++[q]) (bs++[b']) (us++[u'])=iz ks bs us++[(q,b',u')]
 | [],[],[],_,_=>rfl
 | [],_::_,_,h,_=>by simp at h
 | [],[],_::_,_,h=>by simp at h
 | _::_,[],_,h,_=>by simp at h
 | _::_,_::_,[],_,h=>by simp at h
 | k::ks,b::bs,u::us,h1,h2=>by
  rw[RB,RB,RB,fK,fK,RB,tD q b' u' (by simpa using h1) (by simpa using h2)]
theorem lS(q:TH)(b:Tv)(u:Tn)(h1:bs.length=ks.length)(h2:us.length=ks.length):storedH (iz ks bs us) q b u=iz (kG ks q) (DD ks bs q b) (mV ks us q u):=by
 unfold storedH kG DD mV;rw[uf q h1 h2]
 by_cases h:q∈ks
 .rw[t_ h,g_ rfl,g_ h,g_ h,g_ h,rY q u h1 h2]
 .rw[B_ h,j_ (by simp),j_ h,j_ h,j_ h,tD q b u h1 h2]
theorem CZ(h:x∈iz ks bs us):∃i:Nat,ks[i]?=some x.1/\bs[i]?=some x.2.1:=by
 obtain⟨i,hi⟩:=List.mem_iff_getElem?.mp h;obtain⟨a1,a2⟩:=Sy.mp hi;exact⟨i,a1,(Sy.mp a2).1⟩
theorem gG.put{K:Fg}{H:Hp}{ks:TF}{bs:Tc}(r:gG K H ks bs)(hl:bs.length=ks.length){q:TH}{b:Tv}(hq:cX K H b (q.map kV)):gG K H (kG ks q) (DD ks bs q b):=λi k b' h1 h2=>by
 unfold kG at h1;unfold DD at h2
 split at h1
 .rw[g_ ‹_›]at h2;exact r i k b' h1 h2
 .rw[j_ ‹_›]at h2
  by_cases hi:i<ks.length
  .rw[PZ hi]at h1;rw[PZ (by rw[hl];exact hi)]at h2;exact r i k b' h1 h2
  .rw[G_ (by lia)]at h1;rw[G_ (by rw[hl];lia)]at h2;have hz:i-ks.length=0:=by
    have:=(h_.mp h1).1;simp at this;lia
   rw[hz]at h1;rw[hl,hz]at h2;cases h1;cases h2;exact hq
theorem AG(P:Tp)(w:Ts):Hn (hashStr w)=entryOfKey (tupleKind (cm P w)):=by
 funext x;unfold Hn entryOfKey;congr 1
section
variable {P:Tp}{w:Ts}{a:Tv}{ks:TF}{bs:Tc}{vs:TQ}{h:Tr}
theorem wK(d:h.DictOfH (tupleKind (cm P w)) a (iz ks bs us))(hv:aC vs us)(h1:bs.length=ks.length)(h2:us.length=ks.length)(hs:(a==sysModules)=false)(hz:ks.length<=16000000):cI (hashStr w) a ks bs vs h:=by
 obtain⟨o,es,ep,e1,e2,e3,e4,_,e6⟩:=d;rw[lA h1 h2]at e6;exact⟨o,es,ep,us,e1,e2,e3,hv,by rw[e4,AG P w],e6,hs,hz,h1,h2⟩
theorem gm(th:Str->Int)(a:Tv)(ks:TF)(bs:Tc)(vs:TQ):∀h1 h2:Tr,cI th a ks bs vs h1->(∀o,h1.get? a=some o->h2.get? a=some o)->cI th a ks bs vs h2:=λh1 h2 ⟨o,es,ep,us,e,r⟩ k=>⟨o,es,ep,us,k o e,r⟩
end
section
variable {X:Cx}{rg:Gr}{l r:Tz}{fa fb:Fe}{ga gb:Gr}{pos p:Pos}{k:Nat}
theorem ig{pins σ H s}(I:Inv X pins σ H s)(hq:cX X.K H b (q.map kV)):(tupleKind (cm X.prog X.w)).is s.heap q b:=by
 obtain⟨bo,rv,⟨o,h1,h2,n',h3⟩,_⟩:=I.tuple hq;exact⟨o,bo.toArray,n',h1,h2,h3,by simpa using oQ rv⟩
theorem qp{pins σ H s}(I:Inv X pins σ H s)(hc:H c=some (.ext (cI (hashStr X.w) c ks bs vs)))(hp:gG X.K H ks bs) :
  ∃us,aC vs us/\bs.length=ks.length/\us.length=ks.length/\s.heap.DictOfH (tupleKind (cm X.prog X.w)) c (iz ks bs us)/\(c==sysModules)=false/\ks.length<=16000000:=by
 have hS:cI (hashStr X.w) c ks bs vs s.heap:=(show bO X.prog X.w H s.heap c (.ext (cI (hashStr X.w) c ks bs vs))from I.hok c _ hc).1;obtain⟨o,es,ep,us,e1,e2,e3,hv,e4,e5,e6,e7,h1,h2⟩:=hS;refine⟨us,hv,h1,h2,⟨o,es,ep,e1,e2,e3,by rw[e4,AG X.prog X.w],λx hx=>?_,by rw[lA h1 h2];exact e5⟩,e6,e7⟩;obtain⟨i,a1,a2⟩:=CZ hx;exact ig I (hp i _ _ a1 a2)
def Lp:TM->Option TH
 | []=>some []
 | .int i::ds=>(Lp ds).map (.inl i::·)
 | .str x::ds=>(Lp ds).map (.inr x::·)
 | _=>none
theorem gL{K:Fg}{H:Hp}:∀{ds:TM}{vs:TQ}{q:TH},av K H ds vs->Lp ds=some q->vs=q.map kV
 | [],vs,_,h,e=>by cases e;exact h
 | .int i::ds,_,_,⟨v,r,e1,h,t⟩,e=>by
  obtain⟨q',e2,rfl⟩:=P0.mp e;rw[e1,gL t e2,show v=V.int i from h];rfl
 | .str x::ds,_,_,⟨v,r,e1,h,t⟩,e=>by
  obtain⟨q',e2,rfl⟩:=P0.mp e;rw[e1,gL t e2,show v=V.str x from h.1];rfl
 | .non::_,_,_,_,e=>by cases e
 | .bl _::_,_,_,_,e=>by cases e
 | .tup _::_,_,_,_,e=>by cases e
 | .lst _::_,_,_,_,e=>by cases e
 | .dct _::_,_,_,_,e=>by cases e
 | .st _::_,_,_,_,e=>by cases e
 | .ln _::_,_,_,_,e=>by cases e
 | .mp _ _ _::_,_,_,_,e=>by cases e
def gX:D->Option TH
 | .tup ts=>Lp ts
 | _=>none
theorem k8{K:Fg}{Z H H0:Hp}{g:Gr}{d:D}{v:V}{q:TH}(s:aE Z H)(h:Gd K Z H0 H g d v)(e:gX d=some q):∃b,v=.ref b/\cX K H b (q.map kV):=by
 cases d<;>try cases e
 obtain⟨b,vs,rfl,hq,rr⟩:=h.tup s;rw[gL rr e]at hq;exact⟨b,rfl,hq⟩
open Classical in
noncomputable def Ik(th:Str->Int):D->Option (TF×TM)
 | .mp Iu ks ds=>if Iu=th then some (ks,ds)else none
 | _=>none
open Classical in
theorem tL(h:Ik th d=some x):d=.mp th x.1 x.2:=by
 cases d<;>try cases h
 unfold Ik at h;obtain⟨rfl,rfl⟩:=rj h
 rfl
open Classical in
theorem Fm(th:Str->Int)(ks:TF)(ds:TM):Ik th (.mp th ks ds)=some (ks,ds):=by show(if th=th then some (ks,ds)else none)=_;rw[g_ rfl]
noncomputable def getM(th:Str->Int)(x y:D):TN:=(Ik th x).bind λm=>(gX y).bind λq=>a7 m.1 m.2 q
def Fh(K:Fg)(th:Str->Int):R2:=λx y H Q=>∃(a b:Tv)(ks:TF)(bs:Tc)(vs:TQ)(q:TH)(v:V),x=.ref a/\H a=some (.ext (cI th a ks bs vs))/\gG K H ks bs/\y=.ref b/\cX K H b (q.map kV)/\a7 ks vs q=some v/\Q v H
theorem CH(hu:X.A.units+1<cLine)(ho:PE X o td)(hi:PE X i ty)(hs:Gz i):PE X (.Subscript o i pos) (EM (Fh X.K (hashStr X.w)) td ty):=by
 intro pins s σ H Q I h;refine DH PySem.F.slot_dict_getitem.lookup hs (bx (ho pins s σ H _ I h) λu s1 ⟨x,H1,I1,rx,q1⟩=>bx (hi pins s1 σ H1 _ I1 q1) λiv s2 aA=>?_);obtain⟨y,H2,I2,ry,a,b,ks,bs,vs,q,v,ex,hc,hp,ey,hq,hl,q2⟩:=aA;subst ex ey;obtain rfl:u=Value.ref a:=rx;obtain rfl:iv=Value.ref b:=ry;obtain⟨us,hv,h1,h2,dd,Ie,hz⟩:=qp I2 hc hp;obtain⟨w',e1,e2⟩:=aC.look hv hl;rw[<- uQ q h1 h2]at e1;obtain⟨pr,e3,e4⟩:=P0.mp e1;exact⟨dd.typeIs,wpAny_getItem_heap (RQ hu) (ig I2 hq) dd e3 (by rw[e4];exact⟨v,H2,I2.tok _,e2,q2⟩)⟩
theorem HD{K:Fg}{th:Str->Int}:cQ K .cl (getM th) (Fh K th):=λ{Z H x y dx dy d Q} s h1 h2 e kq=>by
 obtain⟨m,e1,e⟩:=a_.mp e;obtain⟨q,e2,e3⟩:=a_.mp e;cases tL e1;obtain⟨a,rfl,bs,vs,hc,hp,rr⟩:=h1.mp s;obtain⟨b,rfl,hq⟩:=k8 s h2 e2;obtain⟨v,e4,e5⟩:=rr.look e3;exact⟨a,b,m.1,bs,vs,q,v,rfl,hc,hp.mono s,rfl,hq,e4,kq v Z H (Ex.refl s) e5⟩
theorem G3(hw:th=hashStr X.w)(hr:bG k X.A)(ha:PD X ga l fa)(hb:PD X gb r fb)(hs:Gz r:=by intro _ _;rfl):PD X .cl (.Subscript l r pos) (au (getM th) fa fb):=by
 subst hw;exact PE.imp (CH (wa hr) ha hb hs) λ_ _ _ h=>hZ HD h
noncomputable def LG(th:Str->Int)(neg:Bool)(x y:D):TN:=(gX x).bind λq=>(Ik th y).bind λm=>some (.bl (if neg then !decide (q∈m.1)else decide (q∈m.1)))
def JY(K:Fg)(th:Str->Int)(neg:Bool):R2:=λx y H Q=>∃(b c:Tv)(ks:TF)(bs:Tc)(vs:TQ)(q:TH),x=.ref b/\cX K H b (q.map kV)/\y=.ref c/\H c=some (.ext (cI th c ks bs vs))/\gG K H ks bs/\Q (.bl (if neg then !decide (q∈ks)else decide (q∈ks))) H
theorem Hh(hu:X.A.units+1<cLine)(neg:Bool):iy X (compareOp (if neg then .NotIn else .In)) (JY X.K (hashStr X.w) neg):=by
 intro pins s σ H x y v u Q I rx ry h;obtain⟨b,c,ks,bs,vs,q,rfl,hq,rfl,hc,hp,qq⟩:=h;cases rx;cases ry;obtain⟨us,hv,h1,h2,dd,Ie,hz⟩:=qp I hc hp;cases neg with
 | false=>
  refine wpAny_in_heap (RQ hu) (ig I hq) Ie dd ?_;rw[uf q h1 h2];exact⟨.bl _,H,I.tok _,rfl,qq⟩
 | true=>
  refine wpAny_notIn_heap (RQ hu) (ig I hq) Ie dd ?_;rw[uf q h1 h2];exact⟨.bl _,H,I.tok _,rfl,qq⟩
theorem JA{K:Fg}{th:Str->Int}{neg:Bool}:cQ K .cl (LG th neg) (JY K th neg):=λ{Z H x y dx dy d Q} s h1 h2 e kq=>by
 obtain⟨q,e1,e⟩:=a_.mp e;obtain⟨m,e2,e3⟩:=a_.mp e;cases e3;cases tL e2;obtain⟨b,rfl,hq⟩:=k8 s h1 e1;obtain⟨c,rfl,bs,vs,hc,hp,rr⟩:=h2.mp s;exact⟨b,c,m.1,bs,vs,q,rfl,hq,rfl,hc,hp.mono s,kq _ Z H (Ex.refl s) rfl⟩
theorem Jj(hw:th=hashStr X.w)(hr:bG k X.A)(ha:PD X ga l fa)(hb:PD X gb r fb)(hm:behindInMarks .In r=false:=by rfl):PB X (.Compare l [.In] [r] pos) (fB (au (LG th false) fa fb)):=by
 subst hw;exact jz (Hh (wa hr) false) JA ha hb hm
end
section
variable {X:Cx}{rg:Gr}{l r:Tz}{fa fb:Fe}{ga gb:Gr}{pos p:Pos}{k:Nat}
theorem GA(hw:th=hashStr X.w):PD X .nm (.Dict [] [] pos) (fC (.mp th [] [])):=λpins s σ H Q I hT=>by
 subst hw;obtain⟨env,B,Z,d,R,e,k⟩:=hT;cases e;have hf:=I.hok.fresh (m_ s.sz);have hd:cI (hashStr X.w) s.sz [] [] [] (s.heap.push {cls:=.type "dict",data:=.dict #[]}):=⟨_,#[],0,[],s_ _ rfl,⟨rfl,rfl,rfl⟩,rfl,.nil,rfl,Ss,by have:=I.big;simpa using (P2 this),by simp,rfl,rfl⟩;exact wpAny_Dict_empty ⟨.ref s.sz,_,I.laid (o:=.ext (cI (hashStr X.w) s.sz [] [] [])) (λ_ _ q=>d_ _ q) (m_ _) ⟨hd,⟨_,s_ _ rfl⟩,gm _ _ _ _ _⟩,rfl,
  k _ Z _ (Ex.newL R.zh hf) ⟨s.sz,_,[],[],rfl,rfl,hf,⟨[],[],aw,λi p b h=>by simp at h,rfl⟩,R.zh.free hf⟩⟩
def setM(i:Nat)(f:Fe):Fs:=λenv=>(f env).bind λd=>match d with | .mp th ks ds=>some (.nx (env.set i (.O (.M th ks ds)))) | _=>none
theorem yt(h:Iq X.K rg (setM i f) E σ H):uM (T X.K .nm f) (l' i) E σ H:=by
 refine glG λ_ kq=>?_;obtain⟨env,B,Z,o,R,e,k⟩:=h;obtain⟨d,e1,e2⟩:=a_.mp e;cases d<;>cases e2;rename_i th ks ds;refine kq (⟨env,B,Z,_,R,e1,λv Z' H' x g=>?_⟩)
 all_goals clear kq
 obtain⟨a,Iu,tW,KO,rfl,e3,h1,⟨bs,vs,h2,hp,rr⟩,h3⟩:=g;cases e3;refine k _ Z' H' (x.part R.bh) ((R.ext x).setO i (R.bh.free h1) h3 h2 (show cP X.K Z' a (.M th ks ds) _ from⟨bs,vs,rfl,hp,rr⟩) λj es hj hje hja=>?_);obtain⟨y,e4,b,us,e5,e6,_⟩:=R.sl j _ hje;rw[hja]at e4;cases e4;cases e5;rw[h1]at e6;cases e6
theorem GE(i:Nat)(he:PD X .nm e fe)(hN:X.N.Nodup)(hi:X.N[i]?=some x:=by rfl)(hx:Loc X.env.scope x:=by first | exact Or.inl rfl | exact Or.inr rfl)(hs:swapsWith e (some (.Name x pos')) pos.line X.env=pure false:=by rfl)
  (hf:X.fn x=true\/X.env.scope.names.lookup x=some .local:=by first | exact .inl rfl | exact .inr rfl | assumption):SD X rg (.Assign [.Name x pos'] e pos) (setM i fe):=PS.imp (gP hN hi hx he hs hf) λE σ H h=>yt h
def DV(i:Nat):Fs:=λenv=>match env[i]? with
 | some (.O (.M th ks ds))=>some (.rt (.mp th ks ds))
 | _=>none
theorem GT(i:Nat)(hN:X.N[i]?=some x:=by rfl)(hv:vZ X.env.scope x:=by first | exact Or.inl rfl | exact Or.inr (Or.inl rfl) | exact Or.inr (Or.inr rfl))(hd:(x==("__debug__":Str))=false:=by decide)
  (eC:(x==("__classdict__":Str))=false:=by decide):SD X .nm (.Return (some (.Name x p)) pos) (DV i):=PS.imp (kc (bV hN hv hd eC)) λE σ H aA=>by
 obtain⟨env,B,Z,o,R,e,k⟩:=aA;unfold DV at e
 split at e
 .rename_i th ks ds hi;cases e;obtain⟨y,e1,a,o,e2,e3,e4,r⟩:=R.sl i _ hi;obtain⟨bs,vs,rfl,hp,rr⟩:=r;subst e2;exact⟨_,e1,k _ Z H ⟨R.bh,aE.refl _,R.zh,λ_ _ h=>h,λ_ _ _ h=>h⟩ ⟨a,th,ks,ds,rfl,rfl,R.ob i _ a hi e1,⟨bs,vs,e3,hp,rr⟩,e4⟩⟩
 .cases e
def Kd(K:Fg)(th:Str->Int)(td ty tv:TE):TS:=λD σ H=>tv σ H λv H1=>td σ H1 λx H2=>ty σ H2 λy H3=>∃(a b:Tv)(ks:TF)(bs:Tc)(vs:TQ)(q:TH),x=.ref a/\y=.ref b/\H3 a=some (.ext (cI th a ks bs vs))/\gG K H3 ks bs/\cX K H3 b (q.map kV)/\ks.length<16000000/\
 (bs.length=ks.length->D.nx σ (upd H3 a (.ext (cI th a (kG ks q) (DD ks bs q b) (mV ks vs q v)))))
theorem map_set{pins σ H s}(hu:A.units+1<cLine)(I:Inv X pins σ H s)
  (hc:H a=some (.ext (cI (hashStr X.w) a ks bs vs))) (hp:gG X.K H ks bs) (hq:cX X.K H b (q.map kV)) (hl:ks.length<16000000) (rv:RelV v u)
  (h:∀s',bs.length=ks.length->Inv X pins σ (upd H a (.ext (cI (hashStr X.w) a (kG ks q) (DD ks bs q b) (mV ks vs q v)))) s'->Q () s'):wpAny @2 A (setItem (.ref a) (.ref b) u) Q E s:=by
 obtain⟨us,hv,h1,h2,dd,Ie,hz⟩:=qp I hc hp;refine wpAny_setItem_heap (hsz:=by rw[wt h1 h2,P6];lia) (RQ hu) (ig I hq) dd λh' dd' hs'=>?_;rw[lS q b u h1 h2]at dd';have hnew:=wK dd' (aC.put rv hv) (vX h1 q b) (qc h2 q u) Ie (by have:=vI ks q;lia);have he:∃u,h'.get? a=some u:=by obtain⟨o,_,_,_,e,_⟩:=hnew;exact⟨o,e⟩
 exact h _ h1 (I.write (by rw[hc];exact True.intro) (.inl rfl) (λb u hb z=>(hs'.2 b hb).trans z) he ⟨hnew,he,gm _ _ _ _ _⟩)
theorem Dh(hu:X.A.units+1<cLine)(ho:PE X o td)(hi:PE X i ty)(hv:PE X value tv)(hs:swapsWith value (some (.Subscript o i pos')) pos.line X.env=pure false) :
  PS X (.Assign [.Subscript o i pos'] value pos) (Kd X.K (hashStr X.w) td ty tv):=by
 intro pins s σ H D I h;refine wpAny_Assign_Subscript (bx (hv pins s σ H _ I h) λr s1 ⟨v,H1,I1,rv,q1⟩=>bx (ho pins s1 σ H1 _ I1 q1) λu s2 ⟨x,H2,I2,rx,q2⟩=>bx (hi pins s2 σ H2 _ I2 q2) λiv s3 aA=>?_) hs;obtain⟨y,H3,I3,ry,a,b,ks,bs,vs,q,ex,ey,hc,hp,hq,hl,q3⟩:=aA;subst ex ey;cases(show u=Value.ref a from rx);cases(show iv=Value.ref b from ry);exact map_set hu I3 hc hp hq hl rv λs4 z I4=>⟨σ,_,I4,q3 z⟩
open Classical in
noncomputable def CN(th:Str->Int)(i:Nat)(fv fk:Fe):Fs:=λenv=>(fv env).bind λd=>(fk env).bind λkd=>(gX kd).bind λq=>match env[i]? with
 | some (.O (.M Iu ks ds))=>if Iu=th/\ks.length<16000000 then some (.nx (env.set i (.O (.M th (kG ks q) (mV ks ds q d)))))else none
 | _=>none
open Classical in
theorem Gc(i:Nat)(hw:th=hashStr X.w)(hr:bG k X.A)(hv:PD X .cl value fv)(hk:PD X .cl key fk)(hN:X.N[i]?=some x:=by rfl)(HW:vZ X.env.scope x:=by first | exact Or.inl rfl | exact Or.inr (Or.inl rfl) | exact Or.inr (Or.inr rfl))
  (hd:(x==("__debug__":Str))=false:=by decide) (eC:(x==("__classdict__":Str))=false:=by decide)
  (hs:swapsWith value (some (.Subscript (.Name x px) key p2)) pos.line X.env=pure false:=by rfl) :
  SD X rg (.Assign [.Subscript (.Name x px) key p2] value pos) (CN th i fv fk):=by
 subst hw;refine PS.imp (Dh (wa hr) (bV hN HW hd eC) hk hv hs) λE σ H aA=>?_;obtain⟨env,B,Z,o,R,e,kq⟩:=aA;obtain⟨d,e1,e⟩:=a_.mp e;obtain⟨kd,e2,e⟩:=a_.mp e;obtain⟨q,e7,e⟩:=a_.mp e;refine⟨env,B,Z,d,R,e1,λv Z1 H1 x1 g1=>?_⟩
 split at e
 .rename_i Iu ks ds hi;obtain⟨⟨rfl,hlen⟩,rfl⟩:=rj e;have R1:=R.ext x1;obtain⟨y,e3,c,o,e4,e5,e6,bs,vs,rfl,hp,rr⟩:=R1.sl i _ hi;subst e4;refine⟨_,e3,env,B,Z1,kd,R1,e2,λkv Z2 H2 x2 g2=>?_⟩;have R2:=R1.ext x2;obtain⟨b,rfl,hq⟩:=k8 x2.zh (show Gd X.K Z2 H1 H2 .cl kd kv from g2) e7;have NR:cX X.K Z2 b (q.map kV):=by
   cases kd<;>try cases e7
   obtain⟨b',L5,e8,BI,NS⟩:=(show Rep X.K Z2 (.tup _) _ from g2);cases e8;rw[gL NS e7]at BI;exact BI
  refine⟨c,b,ks,bs,vs,q,rfl,rfl,x2.h _ _ e5,(hp.mono x2.z).mono x2.zh,hq,hlen,λhl=>?_⟩;obtain⟨R3,x3⟩:=R2.wr hi e3 (show cP X.K _ c (.M _ (kG ks q) (mV ks ds q d)) _ from⟨_,_,rfl,gG.put (hp.mono x2.z) hl NR,av.put (Rep.mono x2.z d g1) (av.mono x2.z ds rr)⟩);exact kq σ _ _ (((x1.trans x2).part R.bh).transB x3) R3
 .cases e
end
section
variable {X:Cx}{rg:Gr}{l r:Tz}{fa fb:Fe}{ga gb:Gr}{pos p:Pos}{k:Nat}
end
section
variable {prog:Tp}{w:Ts}{A:Tq}{E:S2}{s:To}{it d:Tv}{i n ep:Nat}{es:Array DictEntry}{od:Obj}{y z:Tn}
end
section
variable {X:Cx}{es:Td}{kk:Nat}{tp:Pos}
end
section
variable {X:Cx}{es:Td}{kk:Nat}{tp:Pos}
end
section
variable {X:Cx}{a:Tv}{elt:Tz}{fe:Fe}
end
def Bs(m:TF×TM)(q:TH)(d:D):TF×TM:=(kG m.1 q,mV m.1 m.2 q d)
def foldM(m:TF×TM):TM->Option (TF×TM)
 | []=>some m
 | .tup [k,v]::r=>(gX k).bind λq=>foldM (Bs m q v) r
 | _::_=>none
theorem oF:∀{xs:TM}{m m':TF×TM}{k v:D}{q:TH},foldM m xs=some m'->gX k=some q->foldM m (xs++[.tup [k,v]])=some (Bs m' q v)
 | [],m,m',k,v,q,h,hk=>by
  cases h;show(gX k).bind _=_;rw[hk];rfl
 | x::r,m,m',k,v,q,h,hk=>by
  unfold foldM at h
  split at h
  .rename_i e;cases e
  .rename_i k' v' r' e;cases e;obtain⟨q',h1,h2⟩:=a_.mp h;show(gX k').bind _=_;rw[h1];exact oF h2 hk
  .cases h
section
variable {kx vx:Tz}{gens:S8}{scope:Tu}{pos:Pos}{d:Nat}{tg iter:Tz}{ifs:Td}{it:Tn}{a:Tv}{env:Env}
theorem vi(h:gens[d]?=some ⟨tg,iter,ifs,0⟩)(h2:gens[d+1]?=none):compTurn (.DictComp kx vx gens scope pos) d it (.ref a) env=wI (.DictComp kx vx gens scope pos) tg iter ifs d it (.ref a) env (do let kv <- eval kx env;let vv <- holding [kv] (eval vx env);standAt {kx.pos with endLine:=vx.pos.endLine,endCol:=vx.pos.endCol};holding [kv,vv] (dictSet a kv vv)):=by
 unfold compTurn;simp only[h,h2]
 rfl
theorem uT(h:gens[d]?=some ⟨tg,iter,ifs,0⟩)(h2:gens[d+1]?=some ⟨vC,b9,k6,0⟩):compTurn (.DictComp kx vx gens scope pos) d it (.ref a) env=wg (.DictComp kx vx gens scope pos) tg iter b9 ifs d it (.ref a) env:=by
 unfold compTurn;simp only[h,h2]
 rfl
theorem Mr{P:Tp}{w:Ts}:BA P w (.DictComp kx vx gens scope pos):=⟨λh=>h,λh=>h⟩
end
abbrev qM(K:Fg)(w:Ts)(a:Tv):Qa:=λ_ Z H pre=>∃m bs vs,foldM ([],[]) pre=some m/\m.1.length<=pre.length/\H a=some (.ext (cI (hashStr w) a m.1 bs vs))/\gG K Z m.1 bs/\av K Z m.2 vs
theorem E6{K:Fg}{w:Ts}{a:Tv}:Ew a (qM K w a):=⟨λ⟨_,_,_,_,_,h,_⟩ z=>(by rw[z]at h;cases h),λx ⟨m,bs,vs,h1,h2,h3,h4,h5⟩=>⟨m,bs,vs,h1,h2,x.h _ _ h3,h4.mono x.z,av.mono x.z _ h5⟩⟩
section
variable {X:Cx}{a:Tv}{kx vx:Tz}{fk fv:Fe}
def jw(fk fv:Fe):TJ:=λenv=>(fk env).bind λk=>(fv env).bind λv=>(gX k).bind λ_=>some [.tup [k,v]]
abbrev Em(X:Cx)(a:Tv)(kx vx:Tz):BdT:=Ms X (do let kv <- eval kx X.env;let vv <- holding [kv] (eval vx X.env);standAt {kx.pos with endLine:=vx.pos.endLine,endCol:=vx.pos.endCol};holding [kv,vv] (dictSet a kv vv))
theorem xo(hu:X.A.units+1<cLine)(hx:∀e s,¬X.xe e s)(h:PD X .cl kx fk)(h':PD X .cl vx fv):xT X (qM X.K X.w a) a (Em X a kx vx) (jw fk fv):=by
 intro pins s σ H B Z env pre xs P E A e hl hP;refine glG λ_ kq=>?_;obtain⟨k,e1,e⟩:=a_.mp e;obtain⟨v,e2,e⟩:=a_.mp e;obtain⟨q,e3,e⟩:=a_.mp e;cases e;obtain⟨m,bs,vs,hm,L0,hv,hp,rr⟩:=A.ac;refine kq (b_ (P4 (h pins s σ H _ A.I ⟨env,B,Z,k,A.R,e1,λv Z1 H1 x1 g1=>(show ∃Z1,Ex Z H Z1 H1/\Rep X.K Z1 k v from⟨Z1,x1,g1⟩)⟩) (λu s1 aA=>?_) λe s z=>(hx e s z).elim))
 all_goals clear kq
 obtain⟨y,H1,I1,r1,Z1,x1,g1⟩:=aA;refine b_ (K_ (P4 (h' pins s1 σ H1 _ I1 ⟨env,B,Z1,v,A.R.ext x1,e2,λw Z2 H2 x2 g2=>(show ∃Z2,Ex Z1 H1 Z2 H2/\Rep X.K Z2 v w from⟨Z2,x2,g2⟩)⟩) (λu2 s2 aA=>?_) λe s z=>(hx e s z).elim));refine glG λ_ kq=>?_;obtain⟨w,H2,I2,r2,Z2,x2,g2⟩:=aA;have x0:=x1.trans x2;have hne:H a≠none:=by rw[hv];simp
 have hv2:=x0.h _ _ hv;have hz2:=x0.fr a hne A.hz;have R2:=A.R.ext x0;obtain⟨b,rfl,hq⟩:=k8 x2.zh (show Gd X.K Z2 H2 H2 .cl k y from Rep.mono x2.z k g1) e3;have NR:cX X.K Z2 b (q.map kV):=by
  cases k<;>try cases e3
  obtain⟨b',L5,e8,BI,NS⟩:=(show Rep X.K Z2 (.tup _) _ from Rep.mono x2.z _ g1);cases e8;rw[gL NS e3]at BI;exact BI
 cases(show u=Value.ref b from r1);have hp2:=hp.mono x0.z;obtain⟨us,hvs,l1,l2,dd,Ie,hz⟩:=qp I2 hv2 (hp2.mono x0.zh);refine kq (b_ (Qy (K_ ?_)))
 all_goals clear kq
 refine wpAny_dictSet_heap (hsz:=by rw[wt l1 l2,P6];simp at hl;lia) (show(tupleKind (cm X.prog X.w)).room X.A from Nat.lt_of_succ_lt hu) (ig I2 hq) dd λh2 dd' hs'=>?_;rw[lS q b u2 l1 l2]at dd';have hkl:=vI m.1 q;have hnew:=wK dd' (aC.put r2 hvs) (vX l1 q b) (qc l2 q u2) Ie (by simp at hl;lia);have he:∃u,h2.get? a=some u:=by obtain⟨o,_,_,_,e,_⟩:=hnew;exact⟨o,e⟩
 have I3:=I2.write (t':=s2.toks+(tupleKind (cm X.prog X.w)).draws q) (o:=.ext (cI (hashStr X.w) a (kG m.1 q) (DD m.1 bs q b) (mV m.1 vs q w))) (by rw[hv2];exact True.intro) (.inl rfl) (λb u hb z=>(hs'.2 b hb).trans z) he ⟨hnew,he,gm _ _ _ _ _⟩;refine hP _ σ _ Z2 ⟨I3,R2.other A.hb hz2 A.nO,A.nO,A.hb,hz2,Bs m q v,_,_,oF hm e3,?_,aw,gG.put hp2 l1 NR,av.put g2 (av.mono x0.z _ rr)⟩ ⟨dO R2.bh A.hb,x0.z,dO R2.zh hz2,λb hb e=>x0.fr b (l7 A.R.bh hb) e,x0.nf⟩;show(kG m.1 q).length<=_;simp;lia
end
abbrev xE(X:Cx)(a:Tv)(kx vx:Tz)(gens:S8)(scope:Tu)(pos:Pos)(d:Nat)(tg:Tz)(ifs:Td)(t:Ft)(c:Fb)(k:TJ):Prop:=KZ X (qM X.K X.w a) a (.DictComp kx vx gens scope pos) d tg ifs t c k
section
variable {X:Cx}{a:Tv}{kx vx:Tz}{gens:S8}{scope:Tu}{pos:Pos}{d:Nat}{tg iter vC b9:Tz}{ifs k6:Td}{t t':Ft}{c c':Fb}{k:TJ}{fe fk:Fe}{fi:Fi}{is:Tf}
theorem yr(hu:X.A.units+1<cLine)(hx:∀e s,¬X.xe e s)(hg:GD X tg t)(yE:BP X ifs c)(hk:PD X .cl kx fk)(he:PD X .cl vx fe)(h:gens[d]?=some ⟨tg,iter,ifs,0⟩:=by rfl)(h2:gens[d+1]?=none:=by rfl):xE X a kx vx gens scope pos d tg ifs t c (jw fk fe):=
 ⟨hg,yE,_,xo hu hx hk he,λ_=>wy (vi h h2)⟩
theorem yc(hx:∀e s,¬X.xe e s)(bF:X.calm=true)(hg:GD X tg t)(yE:BP X ifs c)(hi:ID X vC b9 fi)(ht:mQ is t')(b:xE X a kx vx gens scope pos (d+1) vC k6 t' c' k)
  (h:gens[d]?=some ⟨tg,iter,ifs,0⟩:=by rfl) (h2:gens[d+1]?=some ⟨vC,b9,k6,0⟩:=by rfl) (hs:∀x,foldedSetIterable b9 X.env x=pure x:=by intro _;rfl):xE X a kx vx gens scope pos d tg ifs t c (fx fi is t' c' k):=by
 obtain⟨Bd,mR,BB⟩:=b.ex;exact⟨hg,yE,_,rK Mr E6 hx bF h2 hi b.g ht b.ts mR BB,λ_=>vT (uT h h2) hs⟩
end
def jU(th:Str->Int)(fi:Fi)(is:Tf)(t:Ft)(c:Fb)(k:TJ)(n:Nat)(caps:Tf):Fe:=λenv=>(fi env).bind λds=>if cY is (dk n caps env)=true then(ez t c k (dk n caps env) ds).bind λxs=>if xs.length<=16000000 then(foldM ([],[]) xs).bind λm=>some (.mp th m.1 m.2)else none else none
theorem tG(h:jU th fi is t c k n caps env=some d) :
  ∃ds xs m,fi env=some ds/\cY is (dk n caps env)=true/\ez t c k (dk n caps env) ds=some xs/\xs.length<=16000000/\foldM ([],[]) xs=some m/\d=.mp th m.1 m.2:=by
 obtain⟨ds,e1,e2⟩:=a_.mp h
 by_cases hu:cY is (dk n caps env)=true
 .rw[g_ hu]at e2;obtain⟨xs,e3,e4⟩:=a_.mp e2
  by_cases hl:xs.length<=16000000
  .rw[g_ hl]at e4;obtain⟨m,e5,e6⟩:=a_.mp e4;cases e6;exact⟨ds,xs,m,e1,hu,e3,hl,e5,rfl⟩
  .rw[j_ hl]at e4;cases e4
 .rw[j_ hu]at e2;cases e2
section
variable {X:Cx}{kx vx:Tz}{rest:S8}{scope:Tu}{pos:Pos}{tg iter:Tz}{ifs:Td}{t:Ft}{c:Fb}{k:TJ}{fi:Fi}{is caps:Tf}{cl:S6}{Nc own:Tb}
theorem uz(ht:mQ is t)(bF:X.calm=true)(jK:i0 (λx=>X.env.cells.lookup x) scope.names []=some cl)(cx:scope.kind=.function)(hnc:∀y∈scope.names,y.2≠.cell)
  (hN:Nc.map some=own.map some++caps.map (λj=>X.N[j]?)) (mP:ot X scope caps=true)
  (hb:∀C s H ex pn a,xE (ek X scope cl Nc C s H ex pn) a kx vx (⟨tg,iter,ifs,0⟩::rest) scope pos 0 tg ifs t c k)
  {pins:S3} {σ:L2.St} {s2:To} {H2 B Z2:Hp} {env:En} {ds xs:TM} {E:S2} {RR:Tn->Tv->Result->To->Prop} {it:Tv} {fp:Tc} {tn:Nat->Tr->Prop} {J:It}
  (I2:Inv X pins σ H2 s2) (R2:Rl X.K B Z2 H2 env σ) (T:Turn X.prog X.w X.K tg J fp it tn) (BD:tn 0 s2.heap) (qZ:∀b∈fp,fH X pins H2 b) (wk:Walk X.K Z2 ds J) (hu:cY is (dk own.length caps env)=true)
  (BC:ez t c k (dk own.length caps env) ds=some xs) (hl:xs.length<=16000000)
  (Np:∀(a C:Tv)(H' Z':Hp)(s':To)(mm:TF×TM)(bs:Tc)(vs:TQ) m,Inv X pins σ H' s'->s'.heap.Ns C m->fH X pins H' C->Ex Z2 H2 Z' H'->H2 a=none->foldM ([],[]) xs=some mm->H' a=some (.ext (cI (hashStr X.w) a mm.1 bs vs))->Z' a=none->gG X.K Z' mm.1 bs->av X.K Z' mm.2 vs->RR (.ref a) C (.ok .next) s') :
  wpAny @2 X.A (newDict) (λacc s₃=>wpAny @2 X.A (newFunctionEnv scope X.env.globals cl [] X.env.qual none .none (some X.env)) (λHS s₄=>
   codeAny @2 X.A (.compStart (.DictComp kx vx (⟨tg,iter,ifs,0⟩::rest) scope pos) 0 (.ref it) acc {HS with scope:=relabel scope X.env}) (RR acc HS.locals) s₄) E s₃) E s2:=by
 refine Q8 ?_;have hf:H2 s2.sz=none:=I2.hok.fresh (m_ _);have I3:Inv X pins σ (upd H2 s2.sz (.ext (cI (hashStr X.w) s2.sz [] [] []))) {s2 with heap:=s2.heap.push {cls:=.type "dict",dict:=none,data:=.dict #[]}}:=
  I2.laid (λb u e=>d_ _ e) (m_ _) (show bO X.prog X.w _ _ _ (.ext (cI (hashStr X.w) s2.sz [] [] []))from⟨⟨_,#[],0,[],s_ _ rfl,⟨rfl,rfl,rfl⟩,rfl,.nil,rfl,Ss,by have:=I2.big;simpa using (P2 this),by simp,rfl,rfl⟩,⟨_,s_ _ rfl⟩,gm _ _ _ _ _⟩)
 generalize yL:({s2 with heap:=s2.heap.push {cls:=.type "dict",dict:=none,data:=.dict #[]}}:To)=s3 at I3 ⊢;have K0:∀b o,s2.heap.get? b=some o->s3.heap.get? b=some o:=λb o e=>by rw[<- yL];exact d_ _ e
 have K2:s3.sz=s2.sz+1:=by rw[<- yL];exact Qq _ _
 have yD:∀b∈fp,b<s2.sz:=λb hb=>let ⟨o,e,_⟩:=T.obj _ _ BD b hb;k_ e;have K3:∀b∈fp,fH X pins (upd H2 s2.sz (.ext (cI (hashStr X.w) s2.sz [] [] []))) b:=λb hb=>⟨by rw[ay (x_ (yD b hb))];exact(qZ b hb).1,(qZ b hb).2⟩;refine wpAny_newFunctionEnv hnc (by intro y hy;simp at hy) (λh1 FD Nq=>?_) cx;have K4:∀b o,s3.heap.get? b=some o->h1.get? b=some o:=λb o e=>Nq.extBut b o (x_ (k_ e)) (d_ _ e);have I4:=sN (tk:=s3.toks+([]:List (Str×Tn)).length) I3 jK cx hnc K3 (λb hb=>by rw[K2];exact Qx (yD b hb)) hN mP FD K4;generalize hXc:ek X scope cl Nc s3.sz s3 (upd H2 s2.sz (.ext (cI (hashStr X.w) s2.sz [] [] []))) fp (X.pn++pins)=Xc at I4;have bb:xE Xc s2.sz kx vx (⟨tg,iter,ifs,0⟩::rest) scope pos 0 tg ifs t c k:=by rw[<- hXc];exact hb _ _ _ _ _ _
 obtain⟨Bd,mR,BB⟩:=bb.ex;have eP:Xc.prog=X.prog:=by rw[<- hXc];rfl
 have eW:Xc.w=X.w:=by rw[<- hXc];rfl
 have eK:Xc.K=X.K:=by rw[<- hXc];rfl
 have eA:Xc.A=X.A:=by rw[<- hXc];rfl
 have eE:Xc.env=compEnvC scope cl s3.sz X.env:=by rw[<- hXc];rfl
 have hx:∀e s,¬Xc.xe e s:=λe s z=>by rw[<- hXc]at z;exact z
 have BU:Xc.calm=true:=by rw[<- hXc];exact bF
 have T':Turn Xc.prog Xc.w Xc.K tg J fp it tn:=by rw[eP,eW,eK];exact T
 have A4:Ac Xc (qM Xc.K Xc.w s2.sz) [] s2.sz H2 Z2 (upd H2 s2.sz (.ext (cI (hashStr X.w) s2.sz [] [] []))) (dk own.length caps env) (qB own.length caps σ) [] {s3 with heap:=h1,toks:=s3.toks+([]:List (Str×Tn)).length}:=
  ⟨I4,by rw[eK];exact R2.cap _ _ (cw hf) (dO R2.zh (R2.zh.free hf)),jm _ _ _,hf,R2.zh.free hf,([],[]),[],[],rfl,m_ _,by rw[eW];exact aw,λi k b h=>by simp at h,rfl⟩
 have Nr:∀b∈fp,fH Xc [] (upd H2 s2.sz (.ext (cI (hashStr X.w) s2.sz [] [] []))) b:=λb hb=>by
  obtain⟨f1,f2,f3,f4,f5,f6⟩:=K3 b hb;have mem:=gU jK (λp hp=>by cases hp);rw[<- hXc];refine⟨f1,?_,iu I3 f2 f3,.inl hb,λx c h=>f5 x c (mem (x,c) (Qj h)),λp hp=>f6 p (by simpa [ek]using hp)⟩;show b≠s3.sz;rw[K2];exact x_ (Qx (yD b hb))
 have K5:tn 0 ({s3 with heap:=h1,toks:=s3.toks+([]:List (Str×Tn)).length}:To).heap:=T.keep _ _ _ BD λb _ o e=>K4 b o (K0 b o e);have go:=kg Mr E6 hx BU T' bb.g ht bb.ts mR (BB it) A4 Nr K5 (by rw[eK];exact wk) hu BC (by simpa using hl) λs' σ' H' Z' A' x' fr'=>by
  obtain⟨m0,bs0,vs,hm0,_,hv,Pf,rr⟩:=A'.ac;rw[eW]at hv;have base:=A'.I.base;obtain⟨mC,K6,_⟩:=A'.I.loc;have hok:=A'.I.hok;have hos:=A'.I.os;have free:=A'.I.free;rw[eE]at K6 free;rw[eP,eW]at hok;rw[eK]at rr Pf;have u1:Un (kS X.stack) fp H2 (upd H2 s2.sz (.ext (cI (hashStr X.w) s2.sz [] [] []))) s2.heap s3.heap:=Un.laid K0 (m_ _) hf;have u2:Un (kS X.stack) fp (upd H2 s2.sz (.ext (cI (hashStr X.w) s2.sz [] [] []))) H' s3.heap s'.heap:=by rw[<- hXc]at base;exact base
  have HU:s'.os=s2.os:=by rw[<- hXc]at hos;exact hos.trans (by rw[<- yL];rfl)
  have I':Inv X pins σ H' s':=I2.call' HU (u1.trans u2) hok A'.I.bare λb hb=>⟨(qZ b hb).2.2.2.1,(qZ b hb).2.1,(qZ b hb).2.2.2.2.1,(qZ b hb).2.2.2.2.2⟩;exact Np s2.sz s3.sz H' Z' s' m0 bs0 vs mC I' K6 (I3.fpOk (m_ _) free) x' hf (by simpa using hm0) hv A'.hz Pf rr
 rw[eP,eW,eA,eE]at go;exact qW Mr rfl go (T.self _ 0 _ _ _ K5 go)
theorem CO(hw:th=hashStr X.w)(ht:mQ is t)(bF:X.calm=true)(hi:ID X tg iter fi)(jK:i0 (λx=>X.env.cells.lookup x) scope.names []=some cl)(hN:Nc.map some=own.map some++caps.map (λj=>X.N[j]?))
  (hb:∀C s H ex pn a,xE (ek X scope cl Nc C s H ex pn) a kx vx (⟨tg,iter,ifs,0⟩::rest) scope pos 0 tg ifs t c k)
  (mP:ot X scope caps=true:=by rfl) (cx:scope.kind=.function:=by rfl) (hnc:∀y∈scope.names,y.2≠.cell:=by decide +kernel) (K7:∀x∈scope.names,x.2=.local->scope.names.lookup x.1=some .local:=by decide +kernel)
  (hs:∀x,foldedSetIterable iter X.env x=pure x:=by intro _;rfl) :
  PD X .nm (.DictComp kx vx (⟨tg,iter,ifs,0⟩::rest) scope pos) (jU th fi is t c k own.length caps):=by
 subst hw;intro pins s σ H Q I hT;obtain⟨env,B,Z,d,R,e,kk⟩:=hT;obtain⟨ds,xs,mm,e1,hu,BC,hl,hmm,rfl⟩:=tG e;rw[arm_eval_DictComp];refine RG rfl hs (iV jK) cx K7 ?_;refine bx (hi pins s σ H (λJ H1=>∃Z1,Ex Z H Z1 H1/\Walk X.K Z1 ds J) I ⟨env,B,Z,ds,R,e1,λJ Z1 H1 x1 wk=>⟨Z1,x1,wk⟩⟩) λx s1 q1=>bx q1 λKJ s2 aA=>?_;obtain⟨it,fp,tn,J,H2,hit,I2,T,BD,qZ,Z2,x2,wk⟩:=aA;subst hit;refine uz ht bF jK cx hnc hN mP hb I2 (R.ext x2) T BD qZ wk hu BC hl λa C H' Z' s' m1 bs vs m I' ns fpC x' hf hm1 hv hz hp rr=>?_;refine⟨m,ns,λh' hs'=>?_⟩;obtain⟨f1,f2,f3,f4,f5,f6⟩:=fpC;rw[hmm]at hm1;cases hm1;exact⟨.ref a,H',I'.turned (λb o hb e=>hs'.extBut b o hb e) f1 f2.symm.symm f4 f5 f6,rfl,kk _ Z' H' (x2.trans x') ⟨a,hashStr X.w,mm.1,mm.2,rfl,rfl,x2.h.free hf,⟨bs,vs,hv,hp,rr⟩,hz⟩⟩
end
theorem fE:∀{ns:Tg}{us:S9},aC (ns.map V.int) us->∀(i:Nat)(v:Tn),us[i]?=some v->∃t,v=Value.int (ns.getD i 0) t
 | [],_,.nil,i,v,h=>by simp at h
 | n::ns,_,.cons r t,0,v,h=>by simp at h;subst h;exact r
 | n::ns,_,.cons r t,i+1,v,h=>by
  obtain⟨t',e⟩:=fE t i v (by simpa using h);exact⟨t',by simpa using e⟩
theorem preSum_eq(ns:Tg):∀n,n<=ns.length->preSum (λi=>ns.getD i 0) n=(ns.take n).sum
 | 0,_=>by simp[preSum]
 | n+1,h=>by
  have hn:n<ns.length:=h;rw[preSum,preSum_eq ns n (by lia),Su,List.sum_append];simp[List.getD,hn]
section
variable {X:Cx}{l r:Tz}{fa fb:Fe}{ga gb:Gr}{pos p:Pos}
theorem xM(hc:X.calm=true):dG X (.builtin "sum") (λxs H Q=>∃(a:Tv)(ns:Tg),xs=[.ref a]/\cR X.K H a (ns.map V.int)/\Q (.int ns.sum) H):=by
 intro pins s σ H xs us Q I rs h;obtain⟨a,ns,rfl,hq,q⟩:=h;obtain⟨u,rfl,rx⟩:=vals1 rs;cases rx;obtain⟨bo,rv,pl,hz⟩:=I.list hq;have kZ:a<s.sz:=by obtain⟨o,ho,_⟩:=pl.isList;exact k_ ho
 have hl:=aC.length rv;rw[c_]at hl;refine call_sum_walkG (QR pl.isList ⟨s.sz,_,_,_,_,_,λi=>ns.getD i 0,rfl,Walks.list (show X.A.in1.handled=none from I.ok.hd hc) s.sz a (x_ kZ) bo.toArray,⟨⟨_,s_ _ rfl,rfl,rfl⟩,pl.isList.push _⟩,λb hb=>?_,λi v hv=>fE rv i v (by simpa using hv),λh' tk t' hk=>?_⟩)
 .simp only[p_,Qd,Rx]at hb;rw[Qq];rcases hb with rfl | rfl
  .exact SN _
  .exact Qx kZ
 .have e:preSum (λi=>ns.getD i 0) bo.toArray.size=ns.sum:=by
   rw[show bo.toArray.size=ns.length by simp[<- hl],preSum_eq ns _ (m_ _),Qu]
  rw[e];refine⟨.int ns.sum,H,I.kept λb o e=>hk b o (λhb=>?_) (d_ _ e),⟨_,rfl⟩,q⟩;have:b=s.sz:=by simpa using hb
  exact x_ (k_ e) this
def El:D->TN
 | .lst ds=>(i9 ds).bind λns=>some (.int ns.sum)
 | _=>none
theorem IU{K:Fg}:iD K .cl El (λxs H Q=>∃(a:Tv)(ns:Tg),xs=[.ref a]/\cR K H a (ns.map V.int)/\Q (.int ns.sum) H):=λ{Z H x dx d Q} s h e k=>by
 cases dx<;>try cases e
 obtain⟨ns,h1,h2⟩:=a_.mp e;cases h2;cases jy h1;obtain⟨a,vs,rfl,q,rr⟩:=h.lst s;cases av.intsV rr;exact⟨a,ns,rfl,q,k _ Z H (Ex.refl s) rfl⟩
theorem xr:bootBuiltins "sum"=some (.builtin "sum"):=by decide +kernel
theorem IC(hm:X.mg "sum"=none)(bF:X.calm=true)(ha:PD X ga l fa)(hg:Gl X "sum":=by rfl)(he:starEach [l] X.env=[(false,eval l X.env)]:=by rfl):PD X .cl (.Call (.Name "sum" p) [l] [] pos) (bC El fa):=
 wx (xM bF) IU xr hm ha @1 @1 hg he
variable {o e:Tz}{apos bU:Pos}
end
theorem Rl.setV{K:Fg}{B Z H:Hp}{env:En}{σ:L2.St}(R:Rl K B Z H env σ)(i:Nat)(x:Option V):Rl K B Z H (env.set i .un) (σ.set i x):=by
 have no:∀{j:Nat}{ds:tX},(env.set i .un)[j]?=some (.O ds)->i≠j:=λ{j ds} h z=>by
  subst z
  by_cases hl:i<env.length
  .rw[r_ hl]at h;cases h
  .rw[A_ (by simpa using Qc hl)]at h;cases h
 refine⟨R.bh,R.zh,by simp[R.len],λj s h=>?_,λj ds a h h2=>?_,λj k ds es a hne h1 h2 h3 h4=>?_⟩
 .by_cases hj:i=j
  .subst hj
   by_cases hl:i<env.length
   .rw[r_ hl]at h;cases h;exact⟨x,r_ (by rw[<- R.len];exact hl),trivial⟩
   .rw[A_ (by simpa using Qc hl)]at h;cases h
  .rw[l_ hj]at h ⊢;exact R.sl j s h
 .have n:=no h;rw[l_ n]at h h2;exact R.ob j ds a h h2
 .have n1:=no h1;have n2:=no h2;rw[l_ n1]at h1 h3;rw[l_ n2]at h2 h4;exact R.ap j k ds es a hne h1 h2 h3 h4
section
variable {X:Cx}{rg:Gr}
open Classical in
open Classical in
end
def Me:TM->Option Tg
 | []=>some []
 | .int n::r=>(Me r).bind λns=>some (n::ns)
 | _=>none
def noO(env:En):Bool:=env.all λs=>match s with | .O _=>false | _=>true
theorem HI(h:noO env=true)(i:Nat)(ds:tX):env[i]?≠some (.O ds):=λe=>by
 have:=Qi.mp h _ (Q7 e);cases this
structure GrAt(a:Addr)(bs:List Addr)(g:List (List Int))(B Z H:Hp):Prop where
 ha:H a=some (.lst (bs.map V.ref))
 ba:B a=none
 za:Z a=none
 nd:bs.Nodup
 len:bs.length=g.length
 el:∀(i:Nat)(b:Addr),bs[i]?=some b->b≠a/\B b=none/\Z b=none/\∃ns:List Int,g[i]?=some ns/\H b=some (.lst (ns.map V.int))
section
variable {X:Cx}{comp iter1 iter2:Tz}{fc:Fe}{fi1 fi2:Fi}{q:D->TK}{tb sh mn rw cn:Str}{k1 k2:Nat}{pt p1 p2 p3 p4 p5 p6 p7 p8 p9 pa pb pc pd pe pf pg ph spos:Pos}
end
end Mi
namespace Mi
open PySem
end Mi
namespace Mi
open PySem PySem.Spec PyProof.Rows L2
variable {K:Fg}
mutual
def flt:D->Bool
 | .non=>true
 | .bl _=>true
 | .int _=>true
 | .str _=>true
 | .tup ds=>hX ds
 | _=>false
def hX:TM->Bool
 | []=>true
 | d::ds=>flt d&&hX ds
end
def gh(Z:Hp):Hp:=λa=>match Z a with
 | some (.tup xs)=>some (.tup xs)
 | some (.frz o (.tup xs))=>some (.frz o (.tup xs))
 | _=>none
theorem oq(Z:Hp):aE (gh Z) Z:=λa o h=>by
 unfold gh at h
 split at h
 .rename_i e;rw[e];exact h
 .rename_i e;rw[e];exact h
 .cases h
theorem zR(h:cX K Z a xs):cX K (gh Z) a xs:=by
 rcases h with (h | ⟨o,h⟩) | h
 .exact .inl (.inl (by unfold gh;rw[h]))
 .exact .inl (.inr ⟨o,by unfold gh;rw[h]⟩)
 .exact .inr h
mutual
theorem tH:∀(d:D){v:V},flt d=true->Rep K Z d v->Rep K (gh Z) d v
 | .non,_,_,h=>h
 | .bl _,_,_,h=>h
 | .int _,_,_,h=>h
 | .str _,_,_,h=>h
 | .tup ds,_,f,⟨a,vs,e,q,r⟩=>⟨a,vs,e,zR q,jP ds f r⟩
 | .lst _,_,f,_=>by cases f
 | .dct _,_,f,_=>by cases f
 | .st _,_,f,_=>by cases f
 | .ln _,_,f,_=>by cases f
 | .mp _ _ _,_,f,_=>by cases f
theorem jP:∀(ds:TM){vs:TQ},hX ds=true->av K Z ds vs->av K (gh Z) ds vs
 | [],_,_,h=>h
 | d::ds,_,f,⟨v,r,e,h,q⟩=>by
  obtain⟨f1,f2⟩:=Bool.and_eq_true_iff.mp f;exact⟨v,r,e,tH d f1 h,jP ds f2 q⟩
end
def Eg(Z Z':Hp):Hp:=λa=>match Z' a with
 | some o=>some o
 | none=>Z a
theorem Ku:aE Z' (Eg Z Z'):=λa o h=>by unfold Eg;rw[h]
theorem IM(s:aE Z H)(s':aE Z' H):aE Z (Eg Z Z'):=λa o h=>by
 unfold Eg
 split
 .rename_i o' e;rw[<- s a o h,<- s' a o' e]
 .exact h
theorem Kw(s:aE Z H)(s':aE Z' H):aE (Eg Z Z') H:=λa o h=>by
 unfold Eg at h
 split at h
 .rename_i o' e;cases h;exact s' a _ e
 .exact s a o h
def gF:Slot->Slot
 | .F d=>if flt d=true then .F d else .un
 | _=>.un
def qN(env:En):En:=env.map gF
theorem Rl.msk(R:Rl K B Z H env σ)(s1:aE Z Z1)(s2:aE (gh Z1) Zs)(zh:aE Zs H1):Rl K (λ_=>none) Zs H1 (qN env) σ:=by
 have no:∀(j:Nat) w,(qN env)[j]?≠some (.O w):=λj w h=>by
  unfold qN at h;rw[u_]at h;obtain⟨s,_,e⟩:=P0.mp h;cases s with
  | un=>cases e
  | F d=>unfold gF at e;dsimp only at e;split at e<;>cases e
  | O w=>cases e
 refine⟨(λ_ _ h=>nomatch h),zh,(by unfold qN;rw[c_];exact R.len),λi s h=>?_,λi ds a h=>absurd h (no i ds),λi j ds es a _ h=>absurd h (no i ds)⟩;unfold qN at h;rw[u_]at h;obtain⟨s0,h0,e⟩:=P0.mp h;obtain⟨x,e1,q⟩:=R.sl i s0 h0;refine⟨x,e1,?_⟩;cases s0 with
 | un=>cases e;trivial
 | O w=>cases e;trivial
 | F d=>
  unfold gF at e;dsimp only at e
  split at e
  .rename_i hf;cases e;obtain⟨v,ev,r⟩:=q;exact⟨v,ev,Rep.mono s2 d (tH d hf (Rep.mono s1 d r))⟩
  .cases e;trivial
theorem Rl.later(R:Rl K B Z H env σ)(no:∀(j:Nat) w,env[j]?≠some (.O w))(s1:aE Z Z1)(s2:aE H H1)(zh:aE Z1 H1):Rl K B Z1 H1 env σ:=by
 refine⟨R.bh.trans s2,zh,R.len,λi s h=>?_,R.ob,R.ap⟩;obtain⟨x,e1,q⟩:=R.sl i s h;refine⟨x,e1,?_⟩;cases s with
 | un=>trivial
 | F d=>obtain⟨v,ev,r⟩:=q;exact⟨v,ev,Rep.mono s1 d r⟩
 | O w=>exact absurd h (no i w)
section
variable {X:Cx}{k:Nat}{ga gb:Gr}{l r:Tz}{fa fb:Fe}{pos:Pos}
end
def isLs:PySem.Value->Bool
 |.type n=>n=="list"
 |_=>false
def LJ(K:Fg):Bool:=K.all λp=>!isLs p.2.cls
theorem Gg(h:LJ K=true):∀a o,K.lookup a=some o->o.cls≠.type "list":=λa o e z=>by
 induction K with
 | nil=>cases e
 | cons p r ih=>
  obtain⟨h1,h2⟩:=Bool.and_eq_true_iff.mp (show(!isLs p.2.cls&&LJ r)=true from h);obtain⟨b,x⟩:=p;simp only[List.lookup]at e
  split at e
  .cases e;dsimp only at h1;rw[z]at h1;revert h1;decide
  .exact ih h2 e
def M6(H:Hp)(n:Nat)(a:Tv):Prop:=∃xs,H a=some (.lst xs)/\xs.length<=n
def MC(H:Hp)(n:Nat)(a:Tv)(i:Nat)(u:V):Prop:=∃xs,H a=some (.lst xs)/\xs[i]?=some u/\xs.length<=n
structure Tld(K:Fg)(H₀:Hp)(f r r0 t w s:Addr)(n:Nat)(H:Hp):Prop where
 sm:aE H₀ H
 f0:MC H n f 0 (.ref r)
 f1:MC H n f 1 (.ref t)
 ra:MC H n r 0 (.ref r0)
 l0:M6 H n r0
 tt:cX K H t [.ref w,.ref s]
 lw:M6 H n w
 ls:M6 H n s
section
variable {X:Cx}{e0 comp c2 c3:Tz}{f0 f1:Fe}{t2 t3:Fb}{hd fd:Str}{st1 ON st3 st4:TC}{p0 p1 q0 q1 r1 r2 r3 r4 n1 n2 n3 n4 n5 n6 n7 n8 n9 na nb nc nd ne nf ng nh ni nj:Pos}{j0 j1 j2 j3 j4 j5 j6 j7:Nat}
end
mutual
def inc:D->D->Bool
 | .tup xs,.tup ys=>d7 xs ys
 | .bl _,.tup _=>true
 | .tup _,.str _=>true
 | _,_=>false
def d7:TM->TM->Bool
 | x::xs,y::ys=>inc x y||d7 xs ys
 | [],[]=>false
 | _,_=>true
end
section
variable {X:Cx}{pins:S3}{σ:L2.St}{H:Hp}{s:To}
mutual
theorem Gk(I:L2.Inv X pins σ H s):∀(x y:D){v:V},inc x y=true->Rep X.K H x v->Rep X.K H y v->False
 | .tup xs,.tup ys,_,h,⟨a,us,e,q,r⟩,⟨b,ws,e2,q2,r2⟩=>by
  subst e;cases e2;cases I.tuple_inj q q2;exact qt I xs ys h r r2
 | .bl _,.tup _,_,_,h1,⟨a,us,e,_⟩=>by subst e;cases h1
 | .tup _,.str _,_,_,⟨a,us,e,_⟩,h2=>by subst e;cases h2.1
theorem qt(I:L2.Inv X pins σ H s):∀(xs ys:TM){vs:TQ},d7 xs ys=true->av X.K H xs vs->av X.K H ys vs->False
 | [],[],_,h,_,_=>by unfold d7 at h;cases h
 | x::xs,[],_,_,⟨v,r,e,_⟩,h2=>by subst e;cases h2
 | [],y::ys,_,_,h1,⟨v,r,e,_⟩=>by subst e;cases h1
 | x::xs,y::ys,_,h,⟨v,r,e,p,q⟩,⟨v2,r2,e2,p2,q2⟩=>by
  subst e;cases e2;unfold d7 at h;rcases Bool.or_eq_true_iff.mp h with h | h
  .exact Gk I x y h p p2
  .exact qt I xs ys h q q2
end
end
abbrev Ka(X:Cx)(o:Tz)(st:TC):Prop:=∀to,PE X o to->PS X st (A9 (MA X.K "list" rAppend to (dI (tC .non) tNil)))
theorem DA{X:Cx}{o:Tz}{j:Nat}{apos bU pos p7:Pos}(gq:starEach [.Constant .none j p7] X.env=[(false,eval (.Constant .none j p7) X.env)]:=by rfl)
  (jH:attributeBase o "append" X.env (eval o X.env)=eval o X.env:=by rfl)
  (qX:((backTo bU (starEach [.Constant .none j p7] X.env)).all (λx=>!x.1)&&(backToKw bU (keywordEach [] X.env)).all (λx=>x.1.isSome)
   && decide (([.Constant .none j p7]:Td).length+([]:List Keyword).length+(if([]:List Keyword).isEmpty then 0 else 1)<30))=true:=by rfl)
  (jI:(apos.endLine==bU.line)=true:=by rfl)
  (hs:swapsWith (.Call (.Attribute o "append" apos) [.Constant .none j p7] [] bU) none pos.line X.env=pure false:=by rfl) :
  Ka X o (.Expr (.Call (.Attribute o "append" apos) [.Constant .none j p7] [] bU) pos):=λto h=>
 jo (vW Rb PySem.F.slot_list_append PySem.F.type_list_append kf h (aJ Am bS gq) jH qX jI gq rfl) hs
def LF:Option Slot->TK
 | some (.F (.lst ds))=>some ds
 | _=>none
theorem yY(h:LF x=some ds):x=some (.F (.lst ds)):=by
 unfold LF at h
 split at h
 .cases h;rfl
 .cases h
def jq(ih jf:Nat)(f1:Fe)(t2:Fb):Fs:=λenv=>if noO env=true/\jf<env.length then(LF env[ih]?).bind λds=>if hX ds=true then(f1 ((qN env).set ih (.F (.lst ds)))).bind λd1=>(LF (some (.F d1))).bind λxs=>
  if d7 xs ds=true/\xs.length<=1000000 then(t2 (env.set jf (.F d1))).bind λb=>if b=true then some (.rt (.bl false))else some (.nx (env.set jf .un))else none
 else none else none
section
variable {X:Cx}{e1 c2:Tz}{f1:Fe}{t2:Fb}{fd:Str}{st3:TC}{p1 q1 r1 r2 r3 n1:Pos}{j0:Nat}
theorem xv(ih jf:Nat)(hK:∀a o,X.K.lookup a=some o->o.cls≠.type "list")(hN:X.N.Nodup)(h1:PD X .cl e1 f1)(h2:PB X c2 t2)
  (ej:X.N[jf]?=some fd:=by rfl) (lj:X.env.scope.names.lookup fd=some .local:=by rfl)
  (Nt:swapsWith e1 (some (.Name fd p1)) q1.line X.env=pure false:=by rfl)
  (jG:(fd==("__debug__":Str))=false:=by decide) (eC:(fd==("__classdict__":Str))=false:=by decide)
  (a3:Ka X (.Name fd n1) st3:=by exact DA) :
  uk X .cl [.Assign [.Name fd p1] e1 q1,.If c2 [.Return (some (.Constant (.bool false) j0 r1)) r2] [] r3,st3] (jq ih jf f1 t2):=by
 have nm:∀{pos:Pos},PE X (.Name fd pos) (y0 jf):=λ{pos}=>bV ej (.inl lj) jG eC;have S23:=d9 (zW (pos:=r3) h2 (fP (kc (pos:=r2) (E2 (b:=false) (j:=j0) (pos:=r1)))) wY) (fP (a3 _ nm));have R23:PSs X [.If c2 [.Return (some (.Constant (.bool false) j0 r1)) r2] [] r3,st3] (λE σ H=>∃xs ds,d7 xs ds=true/\((∀vs,av X.K H xs vs->av X.K H ds vs->False)->Ea (JW (TB X.K t2) (Hj (tC (.bl false))) tNext) (A9 (MA X.K "list" rAppend (y0 jf) (dI (tC .non) tNil))) E σ H)):=λpins s σ H E I aA=>by
  obtain⟨xs,ds,hi,k⟩:=aA;exact S23 pins s σ H E I (k λvs r1 r2=>qt I xs ds hi r1 r2)
 refine PSs.imp (d9 (gP hN ej (.inl lj) h1 Nt (.inr lj)) R23) λE σ H aA=>?_;refine glG λ_ kq=>?_;obtain⟨env,B,Z,o,R,e,kk⟩:=aA;unfold jq at e
 by_cases hc:noO env=true/\jf<env.length
 case neg=>rw[j_ hc]at e;cases e
 rw[g_ hc]at e;obtain⟨BV,lj'⟩:=hc;have no:=HI BV;obtain⟨ds,e0,e⟩:=a_.mp e
 by_cases hf:hX ds=true
 case neg=>rw[j_ hf]at e;cases e
 rw[g_ hf]at e;obtain⟨d1,e2,e⟩:=a_.mp e;obtain⟨xs,e3,e⟩:=a_.mp e;cases yY e3
 by_cases hc:d7 xs ds=true/\xs.length<=1000000
 case neg=>rw[j_ hc]at e;cases e
 rw[g_ hc]at e;obtain⟨hi,hl⟩:=hc;obtain⟨b,e4,e⟩:=a_.mp e;obtain⟨y,ey,v0,rfl,ah,vs,rfl,qh,rr⟩:=R.sl ih _ (yY e0);have sS:aE (gh Z) (λa=>if a=ah then Z a else gh Z a):=λa o h=>by
  show(if a=ah then Z a else gh Z a)=some o
  split
  .exact oq Z a o h
  .exact h
 have zS:aE (λa=>if a=ah then Z a else gh Z a) H:=λa o h=>by
  dsimp only at h
  split at h
  .exact R.zh a o h
  .exact R.zh a o (oq Z a o h)
 have qh':cR X.K (λa=>if a=ah then Z a else gh Z a) ah vs:=by
  rcases qh with (q | ⟨ob,q⟩) | q
  .exact .inl (.inl (by show(if ah=ah then Z ah else _)=_;rw[g_ rfl];exact q))
  .exact .inl (.inr ⟨ob,by show(if ah=ah then Z ah else _)=_;rw[g_ rfl];exact q⟩)
  .exact .inr q
 have Rm:=(R.msk (aE.refl Z) sS zS).setF ih (d:=.lst ds) (v:=.ref ah) ⟨ah,vs,rfl,qh',av.mono sS ds (jP ds hf rr)⟩;have eσ:σ.set ih (some (V.ref ah))=σ:=by
  refine Rq λi=>?_
  by_cases h:ih=i
  .subst h;rw[r_ (h_.mp ey).1,ey]
  .rw[l_ h]
 rw[eσ]at Rm;refine kq ⟨_,_,_,_,Rm,e2,λv Z2 H2 x2 g2=>⟨xs,ds,hi,λapt=>?_⟩⟩;clear kq;refine glG λ_ kq=>?_;obtain⟨r,ws,rfl,qr,rx⟩:=g2;have zU:aE (Eg Z Z2) H2:=Kw (R.zh.trans x2.h) x2.zh;have sA:aE Z (Eg Z Z2):=IM (R.zh.trans x2.h) x2.zh;have sB:aE Z2 (Eg Z Z2):=Ku;have RU:=(R.later no sA x2.h zU).setF jf (d:=.lst xs) (v:=.ref r) ⟨r,ws,rfl,sB.seq qr,av.mono sB xs rx⟩;have good:H2 r=some (.lst ws)/\H r=none:=by
  have al:∀u,Z ah=some u->Z2 ah=some u:=λu q=>x2.z ah u (by show(if ah=ah then Z ah else _)=_;rw[g_ rfl];exact q);have same:r=ah->vs=ws->False:=λ_ z=>apt ws (av.mono x2.zh xs rx) (by rw[<- z];exact av.mono (R.zh.trans x2.h) ds rr);rcases qr with (q | ⟨ob,q⟩) | ⟨ob,bo,n,q1,q2,_⟩
  .refine⟨x2.zh _ _ q,?_⟩
   by_cases hr:r=ah
   .refine(same hr ?_).elim;rcases qh with (q' | ⟨ob,q'⟩) | ⟨ob,bo,n,q1,q2,_⟩
    .have:=al _ q';rw[<- hr,q]at this;cases this;rfl
    .have:=al _ q';rw[<- hr,q]at this;cases this
    .exact absurd q2 (hK _ _ q1)
   .have zr:(if r=ah then Z r else gh Z r)=none:=by
     rw[j_ hr];cases e:gh Z r with
     | none=>rfl
     | some oo=>
      have q3:=x2.z r oo (by show(if r=ah then Z r else gh Z r)=_;rw[j_ hr];exact e);rw[q]at q3;cases q3;unfold gh at e
      split at e<;>cases e
    cases e:H r with
    | none=>rfl
    | some oo=>
     have:=x2.fr r (by rw[e];simp) zr;rw[q]at this;cases this
  .have q3:(if r=ah then Z r else gh Z r)=_:=x2.nf r ob _ q
   by_cases hr:r=ah
   .refine(same hr ?_).elim;rw[g_ hr,hr]at q3;rcases qh with (q' | ⟨ob',q'⟩) | ⟨ob',bo,n,q1,q2,_⟩
    .rw[q']at q3;cases q3
    .rw[q']at q3;cases q3;rfl
    .exact absurd q2 (hK _ _ q1)
   .rw[j_ hr]at q3;unfold gh at q3
    split at q3<;>cases q3
  .exact absurd q2 (hK _ _ q1)
 refine kq ⟨_,B,_,b,RU,e4,λZ3 H3 x3=>?_⟩;clear kq;have sH:aE H H3:=x2.h.trans x3.h;cases b with
 | true=>
  rw[g_ rfl]at e;cases e;exact pH (kk (.bl false) Z H3 ⟨R.bh.trans sH,aE.refl _,R.zh.trans sH,λ_ _ h=>h,λ_ _ _ h=>h⟩ rfl)
 | false=>
  rw[j_ (by simp)]at e;cases e;have sf:(σ.set jf (some (V.ref r)))[jf]?=some (some (.ref r)):=r_ (by rw[<- R.len];exact lj');have hr3:=x3.h _ _ good.1;have sz:(sizeLine:Nat)=16777216:=P6;refine qF ⟨.ref r,sf,.inl ⟨rfl,ws,cR.of hr3⟩,r,ws,.non,rfl,rfl,hr3,by rw[<- rx.len];lia,?_⟩;have s4:aE H (upd H3 r (.lst (ws++[.non]))):=dO sH good.2;exact kk _ Z _ ⟨R.bh.trans s4,aE.refl _,R.zh.trans s4,λ_ _ h=>h,λ_ _ _ h=>h⟩ ((R.later no (aE.refl _) s4 (R.zh.trans s4)).setV jf _)
end
class Th where
 h:Str->Int
section
variable {X:Cx}{l r:Tz}{fa fb:Fe}{ga gb:Gr}{pos p:Pos}
end
theorem Kx{α:Type}{p:List α->Prop}(h:∀a,p [a]):∀us:List α,us.length=1->p us
 | [a],_=>h a
theorem Lr{α:Type}{p:List α->Prop}(h:∀a b,p [a,b]):∀us:List α,us.length=2->p us
 | [a,b],_=>h a b
theorem LD{α:Type}{p:List α->Prop}(h:∀a b c,p [a,b,c]):∀us:List α,us.length=3->p us
 | [a,b,c],_=>h a b c
theorem Lu{α:Type}{p:List α->Prop}(h:∀a b c d,p [a,b,c,d]):∀us:List α,us.length=4->p us
 | [a,b,c,d],_=>h a b c d
abbrev ef(K:Fg)(x:Str)(st:TC)(f:Tv):Prop:=∃(oc kV dc pm cd ct:Tn)(od an:Ta)(sl:S4),PySem.W.nsIn K mainGlobals x=some (some (.ref f))/\K.lookup f=some ⟨oc,od,.func (PySem.W.fnOf x x (cj st) (bp st) (az st) .none kV dc pm an cd ct),sl⟩/\PySem.W.codeIn K cd x=true/\PySem.W.keepIn K (.ref f)=true
section
variable {K:Fg}{h:Tr}{mg:S5}{x:Str}{st:TC}{f:Tv}
theorem ef.fn(A:ef K x st f)(X:K.In h)(G:h.Ns mainGlobals mg):∃fd,yK K x x st f fd/\PySem.W.keepIn K (.ref f)=true/\mg x=some (.ref f):=by
 obtain⟨_,_,_,_,_,_,_,_,_,a,l,c,k⟩:=A;exact⟨_,AC l c k,k,PySem.W.mg_of X G a⟩
theorem Ke{oc kV dc pm cd ct:Tn}{od an:Ta}{sl:S4}(a:PySem.W.nsIn K mainGlobals x=some (some (.ref f)))(l:K.lookup f=some ⟨oc,od,.func (PySem.W.fnOf x x (cj st) (bp st) (az st) .none kV dc pm an cd ct),sl⟩)(c:PySem.W.codeIn K cd x=true)(k:PySem.W.keepIn K (.ref f)=true):ef K x st f:=⟨_,_,_,_,_,_,_,_,_,a,l,c,k⟩
variable {P:Tp}{w:Ts}{base:Tr}{d n:Nat}{g:Gr}{m:TM->TN}{fd:Tt}{ps:Tb}
theorem Bn(O:dM P w K mg base kO d f fd ps (AY K n g m))(hk:PySem.W.keepIn K (.ref f)=true)(hm:mg x=some (.ref f))(hb:Binds K fd ps [])(hn:ps.length=n:=by rfl):∀j,d<=j->KR P w K mg base j x n g m:=
 λ_ hj=>⟨f,fd,ps,hn,O.mono hj,hm,hk,hb⟩
end
end Mi
namespace Mi
open PySem PySem.Spec PyProof.Rows L2 Xc
abbrev sv(K:Fg)(x:Str)(C:Tv)(bm:S9):Prop:=∃nm q N bs sn sub ab col dd k0 k1 k2 k3 k5,PySem.W.nsIn K mainGlobals x=some (some (.ref C))/\K.lookup C=some (de nm q C N bs bm sn sub ab col dd k0 k1 k2 k3 k5)
abbrev OE(K:Fg)(C fI:Tv):Prop:=PySem.W.findIn K (.ref C) "__init__"=some (some (.ref fI))/\PySem.W.findIn K (.ref C) "__setattr__"=some (some (.builtin "object.__setattr__"))/\PySem.W.findIn K (.ref C) "cell"=some none/\PySem.W.keepIn K (.ref C)=true/\
 PySem.W.findIn K (.ref C) "__getattribute__"=some (some (.builtin "BaseException.__getattribute__"))/\PySem.W.findIn K (.ref C) "__getattr__"=some none/\PySem.W.findIn K (.ref C) "__class__"=some (some (.builtin "object.__class__"))
section
variable {K:Fg}{h:Tr}{mg:S5}{x c:Str}{st:TC}{f C HE fI E:Tv}{bm:S9}
theorem Jz{a b:Nat}(h:¬a=b):@Ne Tv a b:=h
theorem sv.g(A:sv K x C bm)(X:K.In h)(G:h.Ns mainGlobals mg):mg x=some (.ref C):=by
 obtain⟨_,_,_,_,_,_,_,_,_,_,_,_,_,_,a,_⟩:=A;exact PySem.W.mg_of X G a
theorem sv.ec(A:sv K x C (.ref HE::bmV))(R:OE K C fI)(l:K.lookup fI=some o)(ho:o.cls=.type "function":=by rfl):EC K C HE fI:=by
 obtain⟨_,_,_,_,_,_,_,_,_,_,_,_,_,_,_,a⟩:=A;exact⟨⟨_,_,_,_,_,_,_,_,_,_,_,_,_,_,a⟩,R.1,⟨_,l,ho⟩,R.2.1,R.2.2.1,R.2.2.2.1⟩
theorem uP{α β:Type}{f:α->β}:∀{L:List α},(L.map f).Nodup->∀{p q:α},p∈L->q∈L->f p=f q->p=q
 | [],_,_,_,h,_,_=>nomatch h
 | a::L,nd,p,q,hp,hq,e=>by
  obtain⟨n1,n2⟩:=O_.mp nd;rcases p_.mp hp with rfl | h1
  .rcases p_.mp hq with rfl | h2
   .rfl
   .exact absurd e (n1 _ (Ql h2))
  .rcases p_.mp hq with rfl | h2
   .exact absurd e.symm (n1 _ (Ql h1))
   .exact uP n2 h1 h2 e
theorem Hf{L:List (Str×Nat)}(X:K.In h)(G:h.Ns mainGlobals mg)(ha:∀p∈L,sv K p.1 p.2 (.ref HE::bmV))(up:(HE::L.map Prod.snd).Pairwise (@LT.lt Nat _))(nm:(L.map Prod.fst).Nodup):∀q∈L,∀n∈L.map Prod.fst,AX K mg HE q.2 q.1 n:=λq hq n hn=>by
 obtain⟨p,hp,rfl⟩:=v_.mp hn;obtain⟨u1,u2⟩:=O_.mp up;have A:=ha p hp;have g:=A.g X G;obtain⟨_,_,_,_,_,_,_,_,_,_,_,_,_,_,_,a⟩:=A;refine⟨p.2,g,⟨_,_,_,_,_,_,_,_,_,_,_,_,_,_,_,a⟩,Jz (P2 (u1 _ (Ql hp))),⟨λe=>?_,λe=>?_⟩⟩
 .rw[uP (u2.imp λz=>x_ z) hp hq e]
 .rw[uP nm hp hq e]
theorem JB:(["NoHiding","NoNumber","TooMany","NoCell","NoShot","NothingLeft","NoCounts","Over","NoText","NoRow"]:Tb).Nodup:=by decide
theorem F1{p:α->Prop}:∀a∈([]:List α),p a:=λ_ h=>nomatch h
theorem dB{p:α->Prop}{a:α}{L:List α}(h:p a)(t:∀b∈L,p b):∀b∈a::L,p b:=λb hb=>by
 rcases p_.mp hb with rfl | hb
 .exact h
 .exact t b hb
theorem G8(a:PySem.W.nsIn K mainGlobals x=some (some (.ref C)))(l:K.lookup C=some (de nm q C N bs bm sn sub ab col dd k0 k1 k2 k3 k5)):sv K x C bm:=⟨_,_,_,_,_,_,_,_,_,_,_,_,_,_,a,l⟩
variable {P:Tp}{w:Ts}{base:Tr}{d n:Nat}{g:Gr}{m:TM->Option Rs}{fd:Tt}{ps:Tb}
theorem B9(O:dM P w K mg base (ET P w) d f fd ps (MV mg K n g m))(hk:PySem.W.keepIn K (.ref f)=true)(hm:mg x=some (.ref f))(hb:Binds K fd ps [])(hn:ps.length=n:=by rfl):∀j,d<=j->Ib P w K mg base j x n g m:=
 λ_ hj=>⟨f,fd,ps,hn,O.mono hj,hm,hk,hb⟩
end
end Mi
namespace Mi
open PySem PySem.Spec PyProof.Rows L2
structure Wd where
 P:Program
 w:World
 K:Fg
 mg:Str->Option Value
 base:Heap
abbrev Wd.Q(W:Wd)(d:Nat)(x:Str)(n:Nat)(g:Gr)(m:TM->TN):Prop:=∀j,d<=j->KR W.P W.w W.K W.mg W.base j x n g m
abbrev Wd.At(W:Wd)(x:Str)(st:TC):Prop:=∃f fd,yK W.K x x st f fd/\PySem.W.keepIn W.K (.ref f)=true/\W.mg x=some (.ref f)
theorem ef.at{K:Fg}{h:Tr}{mg:S5}{x:Str}{st:TC}{f:Tv}(X:K.In h)(G:h.Ns mainGlobals mg)(A:ef K x st f):∃f fd,yK K x x st f fd/\PySem.W.keepIn K (.ref f)=true/\mg x=some (.ref f):=
 let ⟨fd,a⟩:=A.fn X G
 ⟨f,fd,a⟩
abbrev Bi(x:Str)(st:TC)(ps:Tb):Prop:=∀(kV doc pm:Tn)(an:Ta)(bK ct:Tn)(us:S9),us.length=ps.length->bindArgs (PySem.W.fnOf x x (cj st) (bp st) (az st) .none kV doc pm an bK ct) ⟨us,[]⟩=pure (ps.zip us)
variable {W:Wd}{x:Str}{st:TC}{k:Nat}{g:Gr}{fb:Fs}
theorem gH(N:Tb)(n:Nat)(h:W.At x st)
  (hb:∀(bK:Tn)(A:Tq)(outer:List Env)(s:To)(H:Hp)(E:XK)(f:Tv),bG k (A.deeper (envOfC x (az st) s.sz f bK))->N.Nodup->uk (ft kO W.P W.w W.K W.mg W.base N x (az st) f bK A outer s H E).nox g (bp st) fb)
  (S:bW N (N.take n) (az st):=by exact⟨rfl,rfl,rfl,by decide +kernel,rfl,by decide +kernel,by decide +kernel⟩)
  (hB:Bi x st (N.take n):=by intro _ _ _ _ _ _;first | exact Kx λ_=>rfl | exact Lr λ_ _=>rfl | exact LD λ_ _ _=>rfl | exact Lu λ_ _ _ _=>rfl | exact ar5 λ_ _ _ _ _=>rfl):W.Q (k+1) x (N.take n).length g (bD fb N.length):=by
 obtain⟨f,fd,F,hk,hm⟩:=h;exact Bn (OA F S (λbK A outer s H E hr=>hb bK A outer s H E f hr S.nd) (λ_ _ _ e=>e)) hk hm (F.binds hB)
theorem PF(N:Tb)(n:Nat)(F:yK W.K x x st f fd)
  (hb:∀(bK:Tn)(A:Tq)(outer:List Env)(s:To)(H:Hp)(E:XK)(f:Tv),bG k (A.deeper (envOfC x (az st) s.sz f bK))->N.Nodup->uk (ft kO W.P W.w W.K W.mg W.base N x (az st) f bK A outer s H E).nox g (bp st) fb)
  (S:bW N (N.take n) (az st):=by exact⟨rfl,rfl,rfl,by decide +kernel,rfl,by decide +kernel,by decide +kernel⟩):dM W.P W.w W.K W.mg W.base kO (k+1) f fd (N.take n) (AY W.K (N.take n).length g (bD fb N.length)):=
 OA F S (λbK A outer s H E hr=>hb bK A outer s H E f hr S.nd) λ_ _ _ e=>e
theorem Pw{m:Nat->TM->TN}{fb:Nat->Fs}(N:Tb)(n i:Nat)(h:W.At x st)(h0:m 0=λ_=>none)(h1:∀i,m (i+1)=bD (fb i) N.length)
  (hb:∀i,KR W.P W.w W.K W.mg W.base (k+i) x (N.take n).length g (m i)->∀(bK:Tn)(A:Tq)(outer:List Env)(s:To)(H:Hp)(E:XK)(f:Tv),bG (k+i) (A.deeper (envOfC x (az st) s.sz f bK))->N.Nodup->uk (ft kO W.P W.w W.K W.mg W.base N x (az st) f bK A outer s H E).nox g (bp st) (fb i))
  (S:bW N (N.take n) (az st):=by exact⟨rfl,rfl,rfl,by decide +kernel,rfl,by decide +kernel,by decide +kernel⟩)
  (hB:Bi x st (N.take n):=by intro _ _ _ _ _ _;first | exact Kx λ_=>rfl | exact Lr λ_ _=>rfl | exact LD λ_ _ _=>rfl | exact Lu λ_ _ _ _=>rfl | exact ar5 λ_ _ _ _ _=>rfl):W.Q (k+i) x (N.take n).length g (m i):=by
 induction i with
 | zero=>
  obtain⟨f,fd,F,hk,hm⟩:=h;exact λj _=>⟨f,fd,_,rfl,by rw[h0];exact zM,hm,hk,F.binds hB⟩
 | succ i c=>
  rw[h1];exact gH N n h (hb i (c (k+i) (m_ _))) S hB
section
variable {X:Cx}{k d n:Nat}{l:Tz}{es:Td}{fs:Fes}{m:TM->TN}{p pos:Pos}
theorem aR(C:∀j,d<=j->KR X.prog X.w X.K X.mg X.base j x n g m)(hr:bG k X.A)(hl:PL X (l::es) fs)(hd:d<=k:=by first | decide | omega)(hn:(l::es).length=n:=by rfl)(hg:Gl X x:=by rfl)(jG:(x==("__debug__":Str))=false:=by decide)
  (he:starEach (l::es) X.env=(false,eval l X.env)::starEach es X.env:=by rfl) (gI:(backTo pos (starEach es X.env)).any (·.1)=false:=by rfl):PD X g (.Call (.Name x p) (l::es) [] pos) (λenv=>(fs env).bind m):=yQ (C k hd) hr hl hn hg jG he gI
end
end Mi
namespace Mi
open PySem PySem.Spec PyProof.Rows L2 Xc
abbrev Wd.QX(W:Wd)(d:Nat)(x:Str)(n:Nat)(m:TM->Option Rs):Prop:=∀j,d<=j->Ib W.P W.w W.K W.mg W.base j x n .cl m
abbrev Wd.X(W:Wd)(c:Str):Prop:=XC W.P W.w W.K W.mg W.base 1 c
variable {W:Wd}{x:Str}{st:TC}{k:Nat}{g:Gr}{fb:FsX}
theorem Oy(N:Tb)(n:Nat)(h:W.At x st)
  (hb:∀(bK:Tn)(A:Tq)(outer:List Env)(s:To)(H:Hp)(E:XK)(f:Tv),bG k (A.deeper (envOfC x (az st) s.sz f bK))->N.Nodup->BR (ft (ET W.P W.w) W.P W.w W.K W.mg W.base N x (az st) f bK A outer s H E) .cl (bp st) fb)
  (S:bW N (N.take n) (az st):=by exact⟨rfl,rfl,rfl,by decide +kernel,rfl,by decide +kernel,by decide +kernel⟩)
  (hB:Bi x st (N.take n):=by intro _ _ _ _ _ _;first | exact Kx λ_=>rfl | exact Lr λ_ _=>rfl | exact LD λ_ _ _=>rfl | exact Lu λ_ _ _ _=>rfl | exact ar5 λ_ _ _ _ _=>rfl):W.QX (k+1) x (N.take n).length (BY fb N.length):=by
 obtain⟨f,fd,F,hk,hm⟩:=h;exact B9 (PQ F S (λbK A outer s H E hr=>hb bK A outer s H E f hr S.nd) (λ_ _ _ e=>e)) hk hm (F.binds hB)
theorem MR(N:Tb)(n:Nat)(h:W.At x st)
  (hb:∀(bK:Tn)(A:Tq)(outer:List Env)(s:To)(H:Hp)(E:XK)(f:Tv),bG k (A.deeper (envOfC x (az st) s.sz f bK))->N.Nodup->zB (ft kO W.P W.w W.K W.mg W.base N x (az st) f bK A outer s H E) g (bp st) fb)
  (S:bW N (N.take n) (az st):=by exact⟨rfl,rfl,rfl,by decide +kernel,rfl,by decide +kernel,by decide +kernel⟩)
  (hB:Bi x st (N.take n):=by intro _ _ _ _ _ _;first | exact Kx λ_=>rfl | exact Lr λ_ _=>rfl | exact LD λ_ _ _=>rfl | exact Lu λ_ _ _ _=>rfl | exact ar5 λ_ _ _ _ _=>rfl):W.Q (k+1) x (N.take n).length g (Ak fb N.length):=by
 obtain⟨f,fd,F,hk,hm⟩:=h;exact Bn (Mf F S (λbK A outer s H E hr=>hb bK A outer s H E f hr S.nd) (λ_ _ _ e=>e)) hk hm (F.binds hB)
end Mi
namespace K09
open PySem Mi
abbrev ag:Fe:=λenv=>da env 0
abbrev ai:Fe:=λenv=>da env 1
abbrev aK:Fe:=λenv=>da env 2
abbrev aD:Fe:=λenv=>da env 3
abbrev aT:Fe:=λenv=>da env 4
abbrev bX:Fe:=λenv=>da env 5
abbrev cN:Fe:=λenv=>da env 6
abbrev df:Fe:=λenv=>da env 7
abbrev dJ:Fe:=λenv=>da env 8
abbrev fA:Fe:=λenv=>da env 9
abbrev hW:Fe:=λenv=>da env 10
abbrev gK:Fe:=λenv=>da env 11
abbrev cy:Fe:=λenv=>da env 12
abbrev Aj:Fe:=λenv=>da env 13
noncomputable section
variable [Th]
def cs_:Tb:=["TooMany"]
def lX:D:=(.int 8)
def eQ:D:=(.int 1000)
def mI:D:=(.tup [(.str "along"),(.str "down")])
def kB :Fs:=(aF (setF 2 (au mulI (au addI (au addI (au modI ag (au powI (fC (.int 10)) (fC (.int 60)))) (au mulI (fC (.int 7919)) ai)) TU) (fC (.int 27182818284590452353602874713527)))) (aF (setF 2 (au modI aK (fC (.int 170141183460469231731687303715884105727)))) (bw (au fdivI (au modI (au powI (au addI (au powI aK (fC (.int 5))) (au mulI (fC (.int 48271)) ai)) TY) (fC (.int 162259276829213363391578010288127))) (fC (.int 7))))))
def m__law_stir:=bD (kB ) 3
def d8:Fs:=(iW (vK (fB (au ltI ag (au powI (fC (.int 10)) (fC (.int 18))))) (fB (au eI aD TR))) (g8 2 (au modI (λenv=>((ae ag (ae aT fNil)) env).bind m__law_stir) (au aM ai aT))) (aF (g8 2 (au modI aD (au aM ai aT))) (setF 3 (au fdivI aD (au aM ai aT)))))
def qf:Fs:=(aF (setO 2 (bP fNil)) (aF (setF 3 ag) (aF (dY (fg (bC cC ai)) (bu 4) d8) (pE 2))))
def m__law_drawn:=bD qf 5
def sC:Fs:=(aF (Hr [1,2,3,4,5,6,7] (λenv=>((ae ag (ae (bP (ae TZ (ae TZ (ae TZ (ae TZ (ae TZ (ae TZ (ae TY fNil)))))))) fNil)) env).bind m__law_drawn)) (aF (setF 8 (au aM (bP (ae (bt (ae (au addI TU aK) (ae (au addI TU aD) fNil))) (ae (bt (ae (au addI TV (au modI aK TY)) (ae (au addI TV (au modI aD TY)) fNil))) (ae (bt (ae (au addI TU (au modI aK TY)) (ae (au addI TY (au modI aD TV)) fNil))) fNil)))) (au minI ai TV))) (aF (iW (fB (au eI ai TY)) (setF 8 (bt (ae TV (ae (au addI TV aD) fNil)))) nxF) (aF (setF 9 (au aM (bP (ae (bt (ae (au addI TU aT) fNil)) (ae (bt (ae (au addI TU (au modI aT TY)) (ae (au addI TU (au modI bX TY)) fNil))) (ae (bt (ae (au addI TU (au modI aT TY)) (ae (au addI TU (au modI bX TV)) (ae (au addI TU (au modI cN TV)) fNil)))) fNil)))) (au modI ai TY))) (aF (iW (fB (au eI ai TY)) (setF 9 (bt (ae (au addI TU (au modI aT TY)) (ae (au addI TU (au modI bX TY)) (ae (au addI TU (au modI cN TV)) fNil))))) nxF) (aF (setF 9 (bC kh (bC AU (bC sortI fA)))) (bw (bt (ae dJ (ae fA (ae (au aM (bP (ae (fC (.str "free")) (ae (fC (.str "sides")) (ae (fC (.str "corners")) fNil)))) df) fNil)))))))))))
def m__law_game:=bD sC 10
def ei :Fs:=(aF (iW (fB (au leI (au addI aT ai) (au aM ag TU))) (g8 2 (bt (ae aD (ae aT (ae (fC (.str "along")) (ae ai fNil)))))) nxF) (iW (nM (fB (au leI (au addI aD ai) (au aM ag TR))) (fB (au gtI ai TU))) (g8 2 (bt (ae aD (ae aT (ae (fC (.str "down")) (ae ai fNil)))))) nxF))
def cU :Fs:=(dY (fg (au aM ag TU)) (bu 4) (ei ))
def qe :Fs:=(aF (setO 2 (bP fNil)) (aF (dY (fg (au aM ag TR)) (bu 3) (cU )) (pE 2)))
def m__law_ships:=bD (qe ) 5
def eo :Fs:=(g8 5 (bt (ae (au addI ai (au mulI cN (bC intD (au eI aD (fC (.str "down")))))) (ae (au addI aK (au mulI cN (bC intD (au eI aD (fC (.str "along")))))) fNil))))
def qb :Fs:=(aF (yH [1,2,3,4] ag) (aF (setO 5 (bP fNil)) (aF (dY (fg aT) (bu 6) (eo )) (pE 5))))
def m__law_cells:=bD (qb ) 7
def iE :Fs:=(CN Th.h 2 (fC (.bl true)) (bt (ae (au addI aT cN) (ae (au addI bX df) fNil))))
def dC :Fs:=(dY (cS aD) (kE [6,7]) (iE ))
def sW:Fs:=(aF (setM 2 (fC (.mp Th.h [] []))) (aF (setF 3 (bP (ae (bt (ae TR (ae TR fNil))) fNil))) (aF (iW (fB (au nY ag (fC (.str "free")))) (setF 3 (au nk aD (bP (ae (bt (ae TR (ae TU fNil))) (ae (bt (ae TU (ae TR fNil))) (ae (bt (ae TR (ae (bC mY TU) fNil))) (ae (bt (ae (bC mY TU) (ae TR fNil))) fNil))))))) nxF) (aF (iW (fB (au eI ag (fC (.str "corners")))) (setF 3 (au nk aD (bP (ae (bt (ae TU (ae TU fNil))) (ae (bt (ae TU (ae (bC mY TU) fNil))) (ae (bt (ae (bC mY TU) (ae TU fNil))) (ae (bt (ae (bC mY TU) (ae (bC mY TU) fNil))) fNil))))))) nxF) (aF (dY (cS (λenv=>((ae ai fNil) env).bind m__law_cells)) (kE [4,5]) (dC )) (DV 2))))))
def m__law_halo:=bD sW 8
def iG :Fs:=(iW (fB (au (LG Th.h false) aD aK)) (bw (fC (.bl false))) nxF)
def dr :Fs:=(dY (cS ai) (bu 3) (iG ))
def sV :Fs:=(aF (dY (cS ag) (bu 2) (dr )) (bw (fC (.bl true))))
def m__law_free:=bD (sV ) 4
def dX:Fs:=(aF (setF 13 (GC (au eI aT TR) (GC (au nY (au aM ai (au subI aT TU)) bX) (au JH (au aM hW (bC mY TU)) (au aM cN cy))))) (iW (nM (fB Aj) (fB (λenv=>((ae gK (ae (au aM dJ cy) fNil)) env).bind m__law_free))) (g8 9 (bt (ae (au xV hW (bt (ae (au aM cN cy) fNil))) (ae (au nk gK (bP (ae (au aM df cy) fNil))) fNil)))) nxF))
def dU:Fs:=(dY (fg (bC cC cN)) (bu 12) dX)
def fQ:Fs:=(aF (setF 6 (λenv=>((ae ag (ae bX fNil)) env).bind m__law_ships)) (aF (setF 7 (aO (cS cN) [0] (bu 0) T1 (aG (λenv=>((ae ai (ae ag fNil)) env).bind m__law_halo)) 1 [2])) (aF (setF 8 (aO (cS cN) [0] (bu 0) T1 (aG (λenv=>((ae ag fNil) env).bind m__law_cells)) 1 [])) (aF (setO 9 (bP fNil)) (aF (dY (cS aD) (kE [10,11]) dU) (aF (sg 9) (setF 3 fA)))))))
def uY:Fs:=(aF (setF 3 (bP (ae (bt (ae (bt fNil) (ae (bP fNil) fNil))) fNil))) (aF (dY (EU ai) (kE [4,5]) fQ) (bw (aO (cS aD) [0,1] (kE [0,1]) T1 (aG ag) 2 []))))
def m__law_all:=bD uY 14
def nH:Fs:=(aF (yH [1,2,3] (λenv=>((ae ag fNil) env).bind m__law_game)) (aF (setF 4 (λenv=>((ae ai (ae aK (ae aD fNil))) env).bind m__law_all)) (aF (iW (fB (au eI aT (bP fNil))) (aF (setF 2 (bt (ae TU fNil))) (setF 4 (λenv=>((ae ai (ae aK (ae aD fNil))) env).bind m__law_all))) nxF) (bw (bt (ae ai (ae aK (ae aD (ae aT fNil)))))))))
def m__law_played:=bD nH 5
def gT:Fs:=(AF 2 (au modI (λenv=>((ae ag (ae (au addI (au mulI TY aD) TU) fNil)) env).bind m__law_stir) (au addI aD TU)) aT)
def pv:Fs:=(aF (setO 2 (bP fNil)) (aF (dY (EU ai) (kE [3,4]) gT) (pE 2)))
def m__law_order:=bD pv 5
def dD :Fs:=(qS 1 (aO (fg (au aM ag TU)) [0] (bu 0) T1 (aG (bt (ae ai (ae ag fNil)))) 1 [2]))
def iK :Fs:=(aF (setO 1 (bP fNil)) (aF (dY (fg (au aM ag TR)) (bu 2) (dD )) (pE 1)))
def m__law_sheet_cells:=bD (iK ) 3
def di :Fs:=(iW (fB (au (mx false) bX (au aM aD df))) (aF (rM 2 df (au subI (au aM (λenv=>xD env 2) df) TU)) (setF 6 (au aM (bP (ae (fC (.str "hit")) (ae (fC (.str "sunk")) fNil))) (bC intD (au eI (au aM (λenv=>xD env 2) df) TR))))) nxF)
def dg :Fs:=(aF (setF 6 (fC (.str "water"))) (aF (dY (fg (bC cC ag)) (bu 7) (di )) (g8 4 cN)))
def lM:Fs:=(aF (setO 2 (aO (xN ag) [0] (bu 0) T1 (aG (bC cC (λenv=>((ae ag fNil) env).bind m__law_cells))) 1 [])) (aF (setF 3 (aO (xN ag) [0] (bu 0) T1 (aG (λenv=>((ae ag fNil) env).bind m__law_cells)) 1 [])) (aF (setO 4 (bP fNil)) (aF (dY (cS ai) (bu 5) (dg )) (pE 4)))))
def m__law_answers:=bD lM 8
def nK:Fs:=(aF (Hr [3,4,5,6,7] (λenv=>((ae ag (ae (bP (ae (bC cC aK) (ae (fC (.int 9)) (ae TZ (ae (fC (.int 9)) (ae TY fNil)))))) fNil)) env).bind m__law_drawn)) (aF (setF 8 (CI gW (λenv=>((ae (au addI ag TU) (ae (λenv=>((ae ai fNil) env).bind m__law_sheet_cells) fNil)) env).bind m__law_order) oNone (jc aT))) (aF (setO 9 (λenv=>((ae (au aM aK aD) (ae dJ fNil)) env).bind m__law_answers)) (aF (iW (nM (fB (au eI bX TR)) (fB (au nY dJ (bP fNil)))) (rM 9 (au modI cN (bC cC dJ)) (au aM (bP (ae (fC (.str "water")) (ae (fC (.str "hit")) (ae (fC (.str "sunk")) fNil)))) df)) nxF) (aF (sg 9) (bw (au AN dJ fA)))))))
def m__law_record:=bD nK 10
def tI:Fs:=(bw (au eI (λenv=>((ae ag (ae (aO (cS ai) [0] (bu 0) T1 (aG (au aM ag TR)) 1 []) fNil)) env).bind m__law_answers) (aO (cS ai) [0] (bu 0) T1 (aG (au aM ag TU)) 1 [])))
def m__law_fits:=bD tI 2
def sq :Fs:=(aF (yH [1,2] ag) (bw (aO (fg ai) [0] (bu 0) T1 (fx (fg aK) [1] (bu 1) T1 (aG (bt (ae ag (ae ai fNil))))) 2 [2])))
def m_all_cells:=bD (sq ) 3
def nC :Fs:=(bw (iQ (bC (vc .tuple) ag) (au eI (bC cC ag) ai)))
def m_is_tuple_of:=bD (nC ) 2
def uA :Fs:=(bw (iQ (bC (vc .int) ag) (bC Ga (bC (vc .bool) ag))))
def m_is_whole:=bD (uA ) 1
def ya:Fs:=(bw (iQ (λenv=>((ae ag fNil) env).bind m_is_whole) (Gi leI leI TU ag (fC lX))))
def m_is_size:=bD ya 1
def xg:Fs:=(aF (iW (nN (fB (λenv=>((ae ai (ae TV fNil)) env).bind m_is_tuple_of))) (bw (fC (.bl false))) nxF) (aF (yH [2,3] ai) (bw (iQ (λenv=>((ae aK fNil) env).bind m_is_whole) (iQ (λenv=>((ae aD fNil) env).bind m_is_whole) (iQ (Gi leI ltI TR aK (au aM ag TR)) (Gi leI ltI TR aD (au aM ag TU))))))))
def m_is_cell:=bD xg 4
def xf:Fs:=(aF (iW (nN (fB (λenv=>((ae ai (ae TZ fNil)) env).bind m_is_tuple_of))) (bw (fC (.bl false))) nxF) (aF (yH [2,3,4,5] ai) (aF (iW (vK (fB (au (mx true) aT (fC mI))) (vK (nN (fB (λenv=>((ae bX fNil) env).bind m_is_size))) (nN (fB (λenv=>((ae ag (ae (bt (ae aK (ae aD fNil))) fNil)) env).bind m_is_cell))))) (bw (fC (.bl false))) nxF) (aF (iW (fB (au eI aT (fC (.str "down")))) (bw (iQ (au gtI bX TU) (au leI (au addI aK bX) (au aM ag TR)))) nxF) (bw (au leI (au addI aD bX) (au aM ag TU)))))))
def m_is_ship:=bD xf 6
def uS:Fs:=(aF (setF 2 (aO (cS (λenv=>((ae ag fNil) env).bind m_all_cells)) [0,1] (kE [0,1]) T1 (fx (xN (fC mI)) [2] (bu 2) T1 (aG (bt (ae ag (ae ai (ae aK (ae aD fNil))))))) 3 [1])) (bw (aO (cS aK) [0] (bu 0) (fB (λenv=>((ae ai (ae ag fNil)) env).bind m_is_ship)) (aG ag) 1 [0])))
def m_ships_of:=bD uS 3
def uL :Fs:=(aF (yH [1,2,3,4] ag) (aF (iW (fB (au eI aD (fC (.str "down")))) (bw (aO (fg aT) [0] (bu 0) T1 (aG (bt (ae (au addI ai ag) (ae aK fNil)))) 1 [1,2])) nxF) (bw (aO (fg aT) [0] (bu 0) T1 (aG (bt (ae ai (ae (au addI aK ag) fNil)))) 1 [1,2]))))
def m_cells_of:=bD (uL ) 5
def cD :Fs:=(iW (fB (au (mx false) ai aD)) (bw (iteFn (fB (bC DE (aO (cS aD) [0] (bu 0) T1 (aG (au (mx false) ag ai)) 1 [2]))) (fC (.str "sunk")) (fC (.str "hit")))) nxF)
def tj :Fs:=(aF (dY (cS ag) (bu 3) (cD )) (bw (fC (.str "water"))))
def m_answer_to:=bD (tj ) 4
def pL:Fs:=(aF (setF 2 (aO (xN ag) [0] (bu 0) T1 (aG (λenv=>((ae ag fNil) env).bind m_cells_of)) 1 [])) (bw (aO (EU ai) [0,1] (kE [0,1]) T1 (aG (λenv=>((ae aK (ae ai (ae (CI gW aD oNone (jc (au addI ag TU))) fNil))) env).bind m_answer_to)) 2 [2,1])))
def m_answers_of:=bD pL 3
def qQ :Fs:=(bw (aO (cS ag) [0,1] (kE [0,1]) T1 (aG ag) 2 []))
def m_shot_cells:=bD (qQ ) 1
def GY:Fs:=(bw (au eI (λenv=>((ae ag (ae (λenv=>((ae ai fNil) env).bind m_shot_cells) fNil)) env).bind m_answers_of) (aO (cS ai) [0,1] (kE [0,1]) T1 (aG ai) 2 [])))
def m_fits:=bD GY 2
def su:Fs:=(aF (setF 2 (λenv=>((ae ag fNil) env).bind m_cells_of)) (bw (λenv=>((ae (bt (ae ag fNil)) (ae (aO (cS ai) [0,1] (kE [0,1]) (fB (au (mx false) ag aK)) (aG (bt (ae ag (ae ai fNil)))) 2 [2]) fNil)) env).bind m_fits)))
def m_ship_fits:=bD su 3
def l6 :Fs:=(aF (setF 2 (iteFn (fB (au eI (au aM ag TV) (fC (.str "down")))) (au subI (au addI (au aM ag TR) (au aM ag TY)) TU) (au aM ag TR))) (aF (setF 3 (iteFn (fB (au eI (au aM ai TV) (fC (.str "down")))) (au subI (au addI (au aM ai TR) (au aM ai TY)) TU) (au aM ai TR))) (bw (Mb An (au subI (au aM ai TR) aK) (au subI (au aM ag TR) aD) TR))))
def m_rows_between:=bD (l6 ) 4
def jr :Fs:=(aF (setF 2 (iteFn (fB (au eI (au aM ag TV) (fC (.str "along")))) (au subI (au addI (au aM ag TU) (au aM ag TY)) TU) (au aM ag TU))) (aF (setF 3 (iteFn (fB (au eI (au aM ai TV) (fC (.str "along")))) (au subI (au addI (au aM ai TU) (au aM ai TY)) TU) (au aM ai TU))) (bw (Mb An (au subI (au aM ai TU) aK) (au subI (au aM ag TU) aD) TR))))
def m_columns_between:=bD (jr ) 4
def G2:Fs:=(aF (setF 3 (λenv=>((ae ai (ae aK fNil)) env).bind m_rows_between)) (aF (setF 4 (λenv=>((ae ai (ae aK fNil)) env).bind m_columns_between)) (aF (iW (fB (au eI ag (fC (.str "free")))) (bw (au gtI (au addI aD aT) TR)) nxF) (aF (iW (fB (au eI ag (fC (.str "sides")))) (bw (au gtI (au addI aD aT) TU)) nxF) (bw (au gtI (au maxI aD aT) TU))))))
def m_keep:=bD G2 5
def pJ:Fs:=(aF (iW (nM (fB (au eI (au aM aK TY) (au aM ai TY))) (fB (au JL aK ai))) (bw (fC (.bl false))) nxF) (bw (λenv=>((ae ag (ae ai (ae aK fNil))) env).bind m_keep)))
def m_may_follow:=bD pJ 3
def eD(dP:TM->TN):Fs:=(aF (setF 6 (aO (cS aD) [0] (bu 0) T1 (aG (aO (cS ag) [0] (bu 0) (fB (λenv=>((ae ai (ae aK (ae ag fNil))) env).bind m_may_follow)) (aG ag) 1 [1,2])) 1 [0,5])) (qS 4 (aO (cS (λenv=>((ae ag (ae cN fNil)) env).bind dP)) [0] (bu 0) T1 (aG (au xV (bt (ae ai fNil)) ag)) 1 [5])))
def cF(dP:TM->TN):Fs:=(aF (Fl 2 3 ai) (aF (iW (nN (fT aD)) (bw (aO (cS aK) [0] (bu 0) T1 (aG (bt (ae ag fNil))) 1 [])) nxF) (aF (setO 4 (bP fNil)) (aF (dY (cS aK) (bu 5) (eD dP)) (pE 4)))))
def a0:Nat->TM->TN
 | 0=>λ_=>none
 | n+1=>bD (cF (a0 n)) 7
def gx:TM->TN:=a0 4
def mZ:Fs:=(aF (setF 4 (aO (cS aD) [0,1] (kE [0,1]) (fB (au nY ai (fC (.str "water")))) (aG ag) 2 [])) (aF (setF 5 (aO (xN ai) [0] (bu 0) T1 (aG (aO (cS (λenv=>((ae ai (ae ag fNil)) env).bind m_ships_of)) [0] (bu 0) (fB (λenv=>((ae ag (ae ai fNil)) env).bind m_ship_fits)) (aG ag) 1 [2])) 1 [0,3])) (aF (setF 6 (jU Th.h (cS bX) [0] (bu 0) T1 (fx (cS ag) [1] (bu 1) T1 (jw ai (bC cC (aO (cS (λenv=>((ae ai fNil) env).bind m_cells_of)) [0] (bu 0) (fB (au (mx false) ag ai)) (aG ag) 1 [2])))) 2 [4])) (aF (setF 7 (λenv=>((ae aK (ae bX fNil)) env).bind gx)) (bw (aO (cS df) [0] (bu 0) (fB (au eI (bC El (aO (xN ag) [0] (bu 0) T1 (aG (au (getM Th.h) ai ag)) 1 [1])) (bC cC aK))) (aG ag) 1 [6,4]))))))
def m_all_fitting:=bD mZ 8
def mw:Fs:=(bw (bC cC (λenv=>((ae ag (ae ai (ae aK (ae aD fNil)))) env).bind m_all_fitting)))
def m_how_many_fit:=bD mw 4
def pA :Fs:=(bw (iQ (bC (vc .int) ag) (bC Ga (bC (vc .bool) ag))))
def m__law_whole:=bD (pA ) 1
def sG :Fs:=(aF (setF 1 (bP (ae (fC (.str "hiding")) (ae (fC (.str "number")) (ae (fC (.str "many")) (ae (fC (.str "cell")) (ae (fC (.str "shot")) (ae (fC (.str "nothing")) (ae (fC (.str "counts")) (ae (fC (.str "over")) (ae (fC (.str "text")) (ae (fC (.str "row")) fNil)))))))))))) (bw (au nk (aO (cS ai) [0] (bu 0) T1 (aG (au eI ag ai)) 1 [0]) (bP (ae (fC (.bl true)) fNil)))))
def m__law_only:=bD (sG ) 2
def jl :FsX:=(sE (LI (fB (au gtI (bC cC ag) (fC eQ))) (ur "TooMany" (ae (fC (.str "there are more hidings than are told at once")) fNil)) (CU nxF)) (CU (bw ag)))
def m_if_not_too_many:=BY (jl ) 1
def xm:FsX:=(B8 (oC (Io (ae (λenv=>((ae ag (ae ai (ae aK (ae aD fNil)))) env).bind m_all_fitting) fNil)) m_if_not_too_many))
def m_fitting:=BY xm 4
def rO:FsX:=(sE (CU (setF 2 (fC .non))) (sE (yT cs_ 3 2 (Cm 2 (oC (Io (ae (au aM ag TR) (ae (au aM ag TU) (ae (au aM ag TV) (ae ai fNil))))) m_fitting))) (CU (bw aK))))
def m__law_told:=Ak rO 4
def lq:Fs:=(jq 11 12 (λenv=>((ae (bt (ae aK (ae aD (ae aT fNil)))) (ae gK fNil)) env).bind m__law_told) (vK (nN (fB (bC (vc .list) cy))) (vK (fB (au nY cy hW)) (fB (au nY gK fA)))))
def pN:Fs:=(aF (setF 10 (aO (cS bX) [0] (bu 0) (fB (λenv=>((ae ag (ae ai fNil)) env).bind m__law_fits)) (aG ag) 1 [9])) (aF (setF 11 (bC wV fA)) (aF (setF 12 (λenv=>((ae aK (ae aD (ae aT (ae gK fNil)))) env).bind m_how_many_fit)) (aF (iW (vK (nN (fB (λenv=>((ae cy fNil) env).bind m__law_whole))) (vK (fB (au nY cy (bC cC hW))) (fB (au nY gK fA)))) (bw (fC (.bl false))) nxF) (aF (iW (fB (au gtI (bC cC hW) (fC (.int 1000)))) (setF 10 (λenv=>((ae (fC (.str "many")) fNil) env).bind m__law_only)) nxF) (dY (fg TV) (bu 13) lq))))))
def pR:Fs:=(aF (yH [2,3,4,5] (λenv=>((ae ai fNil) env).bind m__law_played)) (aF (setO 6 (au nk (aO (fg TY) [0] (bu 0) T1 (aG (λenv=>((ae (au addI ai ag) (ae aK (ae aD fNil))) env).bind m__law_record)) 1 [1,2,5]) (bP (ae (bP fNil) fNil)))) (aF (setF 7 (au aM bX (au modI (λenv=>((ae ai (ae (fC (.int 600)) fNil)) env).bind m__law_stir) (bC cC bX)))) (aF (setF 8 (λenv=>((ae ai (ae (λenv=>((ae aK fNil) env).bind m__law_sheet_cells) fNil)) env).bind m__law_order)) (aF (g8 6 (au AN dJ (λenv=>((ae df (ae dJ fNil)) env).bind m__law_answers))) (aF (sg 6) (dY (cS cN) (bu 9) pN)))))))
def Jy:Fs:=(aF (dY (cS (au nk (bP (ae TR fNil)) (CI gW ag oNone (jc (fC (.int 8)))))) (bu 1) pR) (bw (fC (.bl true))))
def m_law:=bD Jy 14
end
end K09
namespace K09
open PySem Mi
variable [Th]
theorem pP(c k:Int)(hk:0<=k)(hk2:k<=1000):∃z,m__law_stir [.int c,.int k]=some (.int z):=by
 have p60:powI (.int 10) (.int 60)=some (.int (10 ^ 60)):=pS (qJ @1 @1) @1 @1;have NT:(0:Int)<10 ^ 60:=by decide +kernel
 have h1:(c%10 ^ 60).natAbs<=10 ^ 60:=by
  have a:=Q6 c (Int.ne_of_gt NT);have b:=QN c NT;have e:(10 ^ 60:Int)=((10 ^ 60:Nat):Int):=by decide +kernel
  lia
 have m1:mulI (.int 7919) (.int k)=some (.int (7919*k)):=l8 @1 @1 (by lia) (by lia);have h2:(c%10 ^ 60+7919*k+1).natAbs<=10 ^ 60+7919001:=by lia
 have m2:mulI (.int (c%10 ^ 60+7919*k+1)) (.int 27182818284590452353602874713527)=some (.int ((c%10 ^ 60+7919*k+1)*27182818284590452353602874713527)):=Ce (mh _ h2) (mh 27182818284590452353602874713527 @1);generalize hn:(c%10 ^ 60+7919*k+1)*27182818284590452353602874713527=n at m2;have Lk:modI (.int n) (.int 170141183460469231731687303715884105727)=some (.int (n%170141183460469231731687303715884105727)):=hU @1;have h3:(n%170141183460469231731687303715884105727).natAbs<=170141183460469231731687303715884105727:=by lia
 generalize n%170141183460469231731687303715884105727=q at Lk h3;have p5:powI (.int q) (.int 5)=some (.int (q ^ 5)):=pS (mh _ h3) @1 @1;have h4:=Dz _ 5 h3;have m3:mulI (.int 48271) (.int k)=some (.int (48271*k)):=l8 @1 @1 (by lia) (by lia);have h5:(q ^ 5+48271*k).natAbs<=170141183460469231731687303715884105727 ^ 5+48271000:=Cd _ _ h4 (by lia);generalize q ^ 5=t at p5 h5;have p3:powI (.int (t+48271*k)) (.int 3)=some (.int ((t+48271*k) ^ 3)):=pS (mh _ h5) @1 @1;have hmod2:modI (.int ((t+48271*k) ^ 3)) (.int 162259276829213363391578010288127)=some (.int ((t+48271*k) ^ 3%162259276829213363391578010288127)):=hU @1;have hd:fdivI (.int ((t+48271*k) ^ 3%162259276829213363391578010288127)) (.int 7)=some (.int ((t+48271*k) ^ 3%162259276829213363391578010288127/7)):=wZ @1 @1;have hmod0:modI (.int c) (.int (10 ^ 60))=some (.int (c%10 ^ 60)):=hU NT;refine⟨(t+48271*k) ^ 3%162259276829213363391578010288127/7,?_⟩
 .unfold m__law_stir bD kB;simp only[bM,List.map,List.length,List.replicate,RB,Ri,aF,setF,bw,au,fC,G1,Hw,QC,List.set,List.getElem?_cons_zero,List.getElem?_cons_succ,p60,hmod0,m1,gy,m2,Lk,p5,m3,p3,hmod2,hd]
theorem G6:∃w,powI (.int 10) (.int 18)=some (.int w):=⟨_,pS (qJ @1 @1) @1 @1⟩
theorem Cp(c q:Int)(ss r:Tg)(i:Nat)(s:Int)(Ll:ss[i]?=some s)(hpos:0<s/\s<1073741824)(hi:i<1000)(hr:r.length=i) :
  ∃y q',d8 [.F (.int c),.F (.lst (ss.map .int)),.O (.L (r.map .int)),.F (.int q),.F (.int i)]=some (.nx [.F (.int c),.F (.lst (ss.map .int)),.O (.L ((r++[y]).map .int)),.F (.int q'),.F (.int i)])/\0<=y/\y<s:=by
 obtain⟨w,p18⟩:=G6;have FH:L2.atI (ss.map D.int) (i:Int)=some (.int s):=dv (by rw[u_,Ll];rfl);obtain⟨z,hz⟩:=pP c i (by lia) (by lia);have hap:(r.map D.int).length<16000000:=by simp;lia
 have snoc:∀y:Int,(r++[y]).map D.int=r.map D.int++[D.int y]:=λy=>by simp
 have Pg:au aM ai aT [.F (.int c),.F (.lst (ss.map .int)),.O (.L (r.map .int)),.F (.int q),.F (.int i)]=some (.int s):=ed rfl rfl FH;have t1:fB (au ltI ag (au powI (fC (.int 10)) (fC (.int 18)))) [.F (.int c),.F (.lst (ss.map .int)),.O (.L (r.map .int)),.F (.int q),.F (.int i)]=some (decide (c<w)):=cG ((aS rfl ((aS rfl rfl).trans p18)).trans (Hs _ _));have t2:fB (au eI aD TR) [.F (.int c),.F (.lst (ss.map .int)),.O (.L (r.map .int)),.F (.int q),.F (.int i)]=some (q==0):=cG ((aS rfl rfl).trans (Br _ _));have xa:∀{t:Fb}{g:Fs},t [.F (.int c),.F (.lst (ss.map .int)),.O (.L (r.map .int)),.F (.int q),.F (.int i)]=some true->iW t (g8 2 (au modI (λenv=>((ae ag (ae aT fNil)) env).bind m__law_stir) (au aM ai aT))) g [.F (.int c),.F (.lst (ss.map .int)),.O (.L (r.map .int)),.F (.int q),.F (.int i)]=some (.nx [.F (.int c),.F (.lst (ss.map .int)),.O (.L ((r++[z%s]).map .int)),.F (.int q),.F (.int i)]):=λht=>by
  rw[snoc];exact(cb ht).trans ((jB rfl ((aS ((call_v (ak rfl (ak rfl aQ))).trans hz) Pg).trans (hU hpos.1)) hap))
 by_cases h1:c<w
 .rw[t_ h1]at t1;exact⟨z%s,q,xa (J6 t1),Q6 _ (by lia),QN _ hpos.1⟩
 .rw[B_ h1]at t1
  by_cases h2:q=0
  .rw[show(q==0)=true by simp[h2]]at t2;exact⟨z%s,q,xa ((Fc t1).trans t2),Q6 _ (by lia),QN _ hpos.1⟩
  .rw[show(q==0)=false by simp[h2]]at t2;refine⟨q%s,q/s,?_,Q6 _ (by lia),QN _ hpos.1⟩;rw[snoc];refine(bE ((Fc t1).trans t2)).trans ((ar (jB rfl ((aS rfl Pg).trans (hU hpos.1)) hap)).trans (aX ((aS rfl (ed rfl rfl FH)).trans (wZ hpos.1 hpos.2))))
theorem sj(c:Int)(ss:Tg)(hs:∀x∈ss,0<x/\x<1073741824)(hl:ss.length<=1000) :
  ∃r:Tg,m__law_drawn [.int c,.lst (ss.map .int)]=some (.lst (r.map .int))/\r.length=ss.length/\∀(i:Nat)(x s:Int),r[i]?=some x->ss[i]?=some s->0<=x/\x<s:=by
 let I:Nat->En->Prop:=λn env=>∃(r:Tg)(q:Int)(s4:Slot),env=[.F (.int c),.F (.lst (ss.map .int)),.O (.L (r.map .int)),.F (.int q),s4]/\r.length=n/\∀(i:Nat)(x s:Int),r[i]?=some x->ss[i]?=some s->0<=x/\x<s
 have hrl:(aI 0 ss.length).length=ss.length:=by simp[aI]
 obtain⟨e2,h1,r,q,s4,he,hr,hx⟩:=eM (t:=bu 4) (body:=d8) I (aI 0 ss.length) 0 [.F (.int c),.F (.lst (ss.map .int)),.O (.L []),.F (.int c),.un] ⟨[],c,.un,rfl,rfl,λi x s h=>by simp at h⟩ λi d e hd aA=>by
   obtain⟨r,q,s4,he,hr,hx⟩:=aA;subst he;obtain⟨rfl,hi⟩:=wU hd;obtain⟨s,Ll⟩:∃s,ss[i]?=some s:=⟨ss[i],i_ hi⟩;have hpos:=hs s (Q7 Ll);obtain⟨y,q',h2,h3,h4⟩:=Cp c q ss r i s Ll hpos (by lia) (by lia);refine⟨_,h2,r++[y],q',_,rfl,by simp;lia,λj x s' Bz hsj=>?_⟩
   by_cases hj:j<r.length
   .rw[PZ hj]at Bz;exact hx j x s' Bz hsj
   .rw[G_ (by lia)]at Bz;have hj0:j-r.length=0:=by
     have:=(h_.mp Bz).1;simp at this
     lia
    rw[hj0]at Bz;cases Bz;rw[show j=i by lia,Ll]at hsj;cases hsj;exact⟨h3,h4⟩
 subst he;rw[hrl]at hr;refine⟨r,?_,by lia,hx⟩;have hit:fg (bC cC ai) [.F (.int c),.F (.lst (ss.map .int)),.O (.L []),.F (.int c),.un]=some (aI 0 ss.length):=by
  rw[<- c_ (f:=D.int) (as:=ss)];exact cZ (gN rfl) (by rw[c_];lia)
 exact aW ((ar rfl).trans ((ar rfl).trans ((ar ((bY hit).trans h1)).trans rfl)))
abbrev gE:Str:="along"
abbrev sDn:Str:="down"
abbrev Ip:Str:="free"
abbrev Il:Str:="sides"
abbrev LL:Str:="corners"
def cB(r:Str):Prop:=r=Ip\/r=Il\/r=LL
structure Sh where
 a:Int
 b:Int
 dn:Bool
 n:Nat
 deriving DecidableEq
def Sh.w(s:Sh):Str:=if s.dn=true then sDn else gE
def Sh.d(s:Sh):D:=.tup [.int s.a,.int s.b,.str s.w,.int s.n]
def Sh.at(s:Sh)(i:Int):Ti:=if s.dn=true then(s.a+i,s.b)else(s.a,s.b+i)
def Sh.cs(s:Sh):S7:=(List.range s.n).map λ(i:Nat)=>s.at i
def cel(p:Ti):D:=.tup [.int p.1,.int p.2]
theorem pD(n:Nat):(aI 0 n).map g=(List.range n).map λ(i:Nat)=>g (.int i):=by
 unfold aI;simp[P3,SH]
theorem ma(n:Nat):(aI 0 n).flatMap g=(List.range n).flatMap λ(i:Nat)=>g (.int i):=by
 unfold aI;rw[R_];simp
theorem ER:∀(ds:TM),(ds.flatMap λd=>[g d])=ds.map g
 | []=>rfl
 | d::ds=>by rw[Qe,ER ds];rfl
theorem qE(g:D->TM):∀(ds:TM),(∀d∈ds,∃e1,t d env=some e1/\c e1=some true/\k e1=some (g d))->ez t c k env ds=some (ds.flatMap g)
 | [],_=>rfl
 | d::ds,h=>by
  obtain⟨e1,h1,h2,h3⟩:=h d f_;have ih:=qE g ds λx hx=>h x (e_ _ hx);unfold ez;rw[h1];show(c e1).bind _=_;rw[h2];show(if true=true then k e1 else some []).bind _=_;rw[g_ rfl,h3];show(ez t c k env ds).bind _=_;rw[ih];rfl
theorem Bh(h1:fi env=some ds)(h2:cY is env=true)(h3:ez t c k env ds=some xs):fx fi is t c k env=some xs:=by
 unfold fx;rw[h1];show(if cY is env=true then _ else _)=_;rw[g_ h2,h3]
def LB(s:Sh):D->D
 | .int i=>cel (s.at i)
 | _=>.non
theorem uB(s:Sh):(aI 0 s.n).map (LB s)=s.cs.map cel:=by
 rw[pD];unfold Sh.cs;rw[P3];rfl
theorem Bx(s:Sh):s.cs.length=s.n:=by unfold Sh.cs;simp
theorem HA(s:Sh)(s0:Slot)(i:Nat)(hi:i<1000)(acc:TM)(hl:acc.length<16000) :
  eo [s0,.F (.int s.a),.F (.int s.b),.F (.str s.w),.F (.int s.n),.O (.L acc),.F (.int i)]=some (.nx [s0,.F (.int s.a),.F (.int s.b),.F (.str s.w),.F (.int s.n),.O (.L (acc++[cel (s.at i)])),.F (.int i)]):=by
 obtain⟨a,b,dn,n⟩:=s;have m0:mulI (.int i) (.int 0)=some (.int 0):=by rw[l8 (by lia) (by lia) @1 @1,Int.mul_zero]
 have m1:mulI (.int i) (.int 1)=some (.int i):=by rw[l8 (by lia) (by lia) @1 @1,Int.mul_one]
 cases dn
 .have e0:bC intD (au eI aD (fC (.str "down"))) [s0,.F (.int a),.F (.int b),.F (.str gE),.F (.int n),.O (.L acc),.F (.int i)]=some (.int 0):=rfl;have e1:bC intD (au eI aD (fC (.str "along"))) [s0,.F (.int a),.F (.int b),.F (.str gE),.F (.int n),.O (.L acc),.F (.int i)]=some (.int 1):=rfl;refine jB (d:=cel (a,b+i)) rfl (mK (ak ((aS (y:=.int 0) rfl ((aS rfl e0).trans m0)).trans ?_) (ak ((aS (y:=.int i) rfl ((aS rfl e1).trans m1)).trans (gy _ _)) aQ))) (by lia);rw[gy,Int.add_zero]
 .have e0:bC intD (au eI aD (fC (.str "along"))) [s0,.F (.int a),.F (.int b),.F (.str sDn),.F (.int n),.O (.L acc),.F (.int i)]=some (.int 0):=rfl;have e1:bC intD (au eI aD (fC (.str "down"))) [s0,.F (.int a),.F (.int b),.F (.str sDn),.F (.int n),.O (.L acc),.F (.int i)]=some (.int 1):=rfl;refine jB (d:=cel (a+i,b)) rfl (mK (ak ((aS (y:=.int i) rfl ((aS rfl e1).trans m1)).trans (gy _ _)) (ak ((aS (y:=.int 0) rfl ((aS rfl e0).trans m0)).trans ?_) aQ))) (by lia);rw[gy,Int.add_zero]
theorem je(s:Sh)(hn:s.n<=1000):m__law_cells [s.d]=some (.lst (s.cs.map cel)):=by
 obtain⟨e2,h1,s6,h2⟩:=gZ (t:=bu 6) (body:=eo) (λacc e=>∃s6,e=[.F s.d,.F (.int s.a),.F (.int s.b),.F (.str s.w),.F (.int s.n),.O (.L acc),s6]) (λd=>[LB s d]) 1 8000 (aI 0 s.n) [] [.F s.d,.F (.int s.a),.F (.int s.b),.F (.str s.w),.F (.int s.n),.O (.L []),.un] ⟨_,rfl⟩ (by rw[dW,L_];lia) λd hd=>⟨m_ _,λacc e ⟨s6,he⟩ hl=>by
  subst he;obtain⟨i,hi,rfl⟩:=gf.mp hd;exact⟨_,HA s (.F s.d) i (by lia) acc (by lia),_,rfl⟩⟩
 subst h2;rw[ER,uB,Ri]at h1;exact aW ((ar (l9 (ds:=[.int s.a,.int s.b,.str s.w,.int s.n]) rfl rfl)).trans ((ar (eT rfl)).trans ((ar ((bY (cZ (n:=s.n) rfl (by lia))).trans h1)).trans rfl)))
theorem iZ(s:Sh)(hn:s.n<=1000):m_cells_of [s.d]=some (.lst (s.cs.map cel)):=by
 have hl:(s.cs.map cel).length<=16000000:=by rw[c_];unfold Sh.cs;simp;lia
 have hit:fg aT [.F s.d,.F (.int s.a),.F (.int s.b),.F (.str s.w),.F (.int s.n)]=some (aI 0 s.n):=cZ (n:=s.n) rfl (by lia);refine aW ((ar (l9 (ds:=[.int s.a,.int s.b,.str s.w,.int s.n]) rfl rfl)).trans ?_);show aF _ _ [.F s.d,.F (.int s.a),.F (.int s.b),.F (.str s.w),.F (.int s.n)]=_;obtain⟨a,b,dn,n⟩:=s;cases dn
 .have e0:fB (au eI aD (fC (.str "down"))) [.F (Sh.d ⟨a,b,false,n⟩),.F (.int a),.F (.int b),.F (.str gE),.F (.int n)]=some false:=rfl;refine(ar ((bE e0).trans rfl)).trans (bT (aZ hit rfl ?_ hl));rw[<- uB];refine eF (LB ⟨a,b,false,n⟩) _ λd hd=>?_;obtain⟨i,hi,rfl⟩:=gf.mp hd;exact⟨_,rfl,rfl⟩
 .have e0:fB (au eI aD (fC (.str "down"))) [.F (Sh.d ⟨a,b,true,n⟩),.F (.int a),.F (.int b),.F (.str sDn),.F (.int n)]=some true:=rfl;refine e9 ((cb e0).trans (bT (aZ hit rfl ?_ hl)));rw[<- uB];refine eF (LB ⟨a,b,true,n⟩) _ λd hd=>?_;obtain⟨i,hi,rfl⟩:=gf.mp hd;exact⟨_,rfl,rfl⟩
def gj(p:Ti):List L2.Key:=[.inl p.1,.inl p.2]
theorem zK(h:gj p=gj q):p=q:=by
 unfold gj at h;obtain⟨a,b⟩:=p;obtain⟨c,d⟩:=q;simp only[SZ,Sum.inl.injEq,and_true]at h;rw[h.1,h.2]
theorem gR{L:S7}{p:Ti}:gj p∈L.map gj↔p∈L:=⟨λh=>by obtain⟨q,hq,e⟩:=v_.mp h;exact zK e▸hq,Ql⟩
def Az(ks:S7):tX:=.M Th.h (ks.map gj) (ks.map λ_=>.bl true)
def dR(ks:S7):D:=.mp Th.h (ks.map gj) (ks.map λ_=>.bl true)
def J0:List L2.Key->Option Ti
 | [.inl a,.inl b]=>some (a,b)
 | _=>none
def F7:D->S7
 | .mp _ ks _=>ks.filterMap J0
 | _=>[]
theorem vb:∀ks:S7,F7 (dR ks)=ks:=λks=>by
 show(ks.map gj).filterMap J0=ks;rw[List.filterMap_map];exact List.filterMap_some
theorem wM(q:List L2.Key)(x:D):∀ks:S7,b8 (ks.map gj) (ks.map λ_=>x) q x=ks.map λ_=>x
 | []=>rfl
 | k::ks=>by
  show(if gj k=q then x else x)::b8 (ks.map gj) (ks.map λ_=>x) q x=_;rw[wM q x ks,ite_self];rfl
theorem B7(ks:S7)(p q:Ti):q∈tM ks p↔q∈ks\/q=p:=by
 unfold tM
 split
 .rename_i h;exact⟨λz=>.inl z,λz=>z.elim id λe=>e▸h⟩
 .simp
theorem Dy(ks:S7)(p:Ti):(tM ks p).length<=ks.length+1:=by
 unfold tM;split<;>simp
open Classical in
theorem Kb{i:Nat}{fk:Fe}{env:En}{ks:S7}{a b:Int}(h:fk env=some (.tup [.int a,.int b]))(h1:env[i]?=some (.O (Az ks)))(hl:ks.length<16000000):CN Th.h i (fC (.bl true)) fk env=some (.nx (env.set i (.O (Az (tM ks (a,b)))))):=by
 have e:tX.M Th.h (kG (ks.map gj) (gj (a,b))) (mV (ks.map gj) (ks.map λ_=>D.bl true) (gj (a,b)) (.bl true))=Az (tM ks (a,b)):=by
  unfold kG mV tM Az
  by_cases hm:(a,b)∈ks
  .rw[g_ (gR.mpr hm),g_ (gR.mpr hm),g_ hm,wM]
  .rw[j_ (λz=>hm (gR.mp z)),j_ (λz=>hm (gR.mp z)),j_ hm,P_,P_];rfl
 rw[<- e];unfold CN;rw[show fC (.bl true) env=some (D.bl true)from rfl,QC,h,QC,show gX (.tup [.int a,.int b])=some (gj (a,b))from rfl,QC,h1];show(if Th.h=Th.h/\(ks.map gj).length<16000000 then _ else _)=_;rw[g_ ⟨rfl,by rw[c_];exact hl⟩]
def plus(p q:Ti):Ti:=(p.1+q.1,p.2+q.2)
theorem Jw(s0 s1 s6 s7:Slot)(st:S7)(gq:st.length<=9)(p:Ti)(ks:S7)(hk:ks.length<=15000) :
  ∃tW Ig BM,dC [s0,s1,.O (Az ks),.F (.lst (st.map cel)),.F (.int p.1),.F (.int p.2),s6,s7]=some (.nx [s0,s1,.O (Az tW),.F (.lst (st.map cel)),.F (.int p.1),.F (.int p.2),Ig,BM])/\tW.length<=ks.length+9/\∀q,q∈tW↔q∈ks\/∃t∈st,q=plus p t:=by
 obtain⟨e2,h1,tW,Ig,BM,h2,h3,h4⟩:=eM (t:=kE [6,7]) (body:=iE) (λj e=>∃tW Ig BM,e=[s0,s1,.O (Az tW),.F (.lst (st.map cel)),.F (.int p.1),.F (.int p.2),Ig,BM]/\tW.length<=ks.length+j/\∀q,q∈tW↔q∈ks\/∃t∈st.take j,q=plus p t) (st.map cel) 0 _ ⟨ks,s6,s7,rfl,by lia,λq=>by simp⟩ λi d e hd aA=>by
  obtain⟨tW,Ig,BM,he,h3,h4⟩:=aA;subst he;rw[u_]at hd;obtain⟨q,hq,rfl⟩:=P0.mp hd;have hi:=(h_.mp hq).1;have u3:=Dy tW (p.1+q.1,p.2+q.2);refine⟨_,fD (e0:=[s0,s1,.O (Az tW),.F (.lst (st.map cel)),.F (.int p.1),.F (.int p.2),.F (.int q.1),.F (.int q.2)]) rfl (Kb (ks:=tW) (a:=p.1+q.1) (b:=p.2+q.2) rfl rfl (by lia)),_,_,_,rfl,by lia,λx=>?_⟩;rw[B7,h4,Qb,SI,hq];simp only[Option.toList_some,Qz,C_];constructor
  .rintro((h | ⟨t,ht,e⟩) | e)
   .exact .inl h
   .exact .inr ⟨t,.inl ht,e⟩
   .exact .inr ⟨q,.inr rfl,e⟩
  .rintro(h | ⟨t,ht | rfl,e⟩)
   .exact .inl (.inl h)
   .exact .inl (.inr ⟨t,ht,e⟩)
   .exact .inr e
 subst h2;rw[c_,Qb]at h3 h4;rw[Qu]at h4;exact⟨tW,Ig,BM,(bY (br rfl)).trans h1,by lia,h4⟩
theorem jQ(s:Sh)(hn:s.n<=1000)(r:D)(st:S7)(gq:st.length<=9) :
  ∃ks,aF (dY (cS (λenv=>((ae ai fNil) env).bind m__law_cells)) (kE [4,5]) (dC )) (DV 2) [.F r,.F s.d,.O (Az []),.F (.lst (st.map cel)),.un,.un,.un,.un]=some (.rt (dR ks))/\∀q,q∈ks↔∃p∈s.cs,∃t∈st,q=plus p t:=by
 have hlen:=Bx s;obtain⟨e2,h1,ks,s4,s5,s6,s7,h2,h3,h4⟩:=eM (t:=kE [4,5]) (body:=dC) (λj e=>∃ks s4 s5 s6 s7,e=[.F r,.F s.d,.O (Az ks),.F (.lst (st.map cel)),s4,s5,s6,s7]/\ks.length<=9*j/\∀q,q∈ks↔∃p∈s.cs.take j,∃t∈st,q=plus p t) (s.cs.map cel) 0 _ ⟨[],.un,.un,.un,.un,rfl,by simp,λq=>by simp⟩ λi d e hd aA=>by
  obtain⟨ks,s4,s5,s6,s7,he,h3,h4⟩:=aA;subst he;rw[u_]at hd;obtain⟨q,hq,rfl⟩:=P0.mp hd;have hi:=(h_.mp hq).1;obtain⟨tW,Ig,BM,u1,u2,u3⟩:=Jw (.F r) (.F s.d) s6 s7 st gq q ks (by lia);refine⟨_,fD (e0:=[.F r,.F s.d,.O (Az ks),.F (.lst (st.map cel)),.F (.int q.1),.F (.int q.2),s6,s7]) rfl u1,tW,_,_,_,_,rfl,by lia,λx=>?_⟩;rw[u3,h4,Qb,SI,hq];simp only[Option.toList_some,Qz,C_];constructor
  .rintro(⟨p,hp,t,ht,e⟩ | ⟨t,ht,e⟩)
   .exact⟨p,.inl hp,t,ht,e⟩
   .exact⟨q,.inr rfl,t,ht,e⟩
  .rintro⟨p,hp | rfl,t,ht,e⟩
   .exact .inl ⟨p,hp,t,ht,e⟩
   .exact .inr ⟨t,ht,e⟩
 subst h2;rw[c_,Qb]at h4;rw[Qu]at h4;exact⟨ks,(ar ((bY (br ((call_v (ak rfl aQ)).trans (je s hn)))).trans h1)).trans rfl,h4⟩
def steps(r:Str):S7:=
 if r=Ip then [(0,0)]else if r=Il then [(0,0),(0,1),(1,0),(0,-1),(-1,0)]else [(0,0),(0,1),(1,0),(0,-1),(-1,0),(1,1),(1,-1),(-1,1),(-1,-1)]
theorem md:steps Ip=[(0,0)]:=by unfold steps;rw[g_ rfl]
theorem mz:steps Il=[(0,0),(0,1),(1,0),(0,-1),(-1,0)]:=by unfold steps;rw[j_ @1,g_ rfl]
theorem mF:steps LL=[(0,0),(0,1),(1,0),(0,-1),(-1,0),(1,1),(1,-1),(-1,1),(-1,-1)]:=by unfold steps;rw[j_ @1,j_ @1]
theorem Ck(s:Sh)(hn:s.n<=1000)(r:Str)(hr:cB r):∃ks,m__law_halo [.str r,s.d]=some (dR ks)/\∀q,q∈ks↔∃p∈s.cs,∃t∈steps r,q=plus p t:=by
 rcases hr with rfl | rfl | rfl
 .obtain⟨ks,h1,h2⟩:=jQ s hn (.str Ip) [(0,0)] @1;exact⟨ks,aW ((ar rfl).trans ((ar rfl).trans ((ar ((bE rfl).trans rfl)).trans ((ar ((bE rfl).trans rfl)).trans h1)))),by rw[md];exact h2⟩
 .obtain⟨ks,h1,h2⟩:=jQ s hn (.str Il) [(0,0),(0,1),(1,0),(0,-1),(-1,0)] @1;exact⟨ks,aW ((ar rfl).trans ((ar rfl).trans ((ar ((cb rfl).trans rfl)).trans ((ar ((bE rfl).trans rfl)).trans h1)))),by rw[mz];exact h2⟩
 .obtain⟨ks,h1,h2⟩:=jQ s hn (.str LL) [(0,0),(0,1),(1,0),(0,-1),(-1,0),(1,1),(1,-1),(-1,1),(-1,-1)] @1;exact⟨ks,aW ((ar rfl).trans ((ar rfl).trans ((ar ((cb rfl).trans rfl)).trans ((ar ((cb rfl).trans rfl)).trans h1)))),by rw[mF];exact h2⟩
def LM:D->Bool
 | .int _=>true
 | _=>false
def BQ:D->Bool
 | .int i=>decide (1<=i)&&decide (i<=8)
 | _=>false
theorem mj(d:D):m_is_whole [d]=some (.bl (LM d)):=by cases d<;>rfl
theorem Ej(d:D):m_is_size [d]=some (.bl (BQ d)):=by
 have h1:(λenv=>((ae ag fNil) env).bind m_is_whole) (bM 1 [d])=some (.bl (LM d)):=(call_v rfl).trans (mj d);refine aW (bT ?_);cases d
 case int i=>exact(zw h1).trans (Hy (x:=.int 1) (y:=.int i) (w:=.int 8) rfl rfl rfl (xZ _ _) (xZ _ _))
 all_goals exact zu h1
def zF(n:Int):D->Bool
 | .tup ds=>(ds.length:Int)==n
 | _=>false
theorem r9(d:D)(n:Int):m_is_tuple_of [d,.int n]=some (.bl (zF n d)):=by
 refine aW (bT ?_);cases d<;>try rfl
theorem IT(h:zF 4 d=true):∃a b c e,d=.tup [a,b,c,e]:=by
 cases d<;>try cases h
 rename_i ds;have h':(ds.length:Int)=4:=by simpa [zF]using h
 match ds,h' with
 | [a,b,c,e],_=>exact⟨a,b,c,e,rfl⟩
 | [],h=>simp at h
 | [_],h=>simp at h
 | [_,_],h=>simp at h
 | [_,_,_],h=>simp at h
 | _::_::_::_::_::_,h=>simp at h;lia
def inR(r:Int):D->Bool
 | .int i=>decide (0<=i)&&decide (i<r)
 | _=>false
theorem DJ(r c:Int)(a b:D):m_is_cell [.tup [.int r,.int c],.tup [a,b]]=some (.bl (inR r a&&inR c b)):=by
 have t1:fB (λenv=>((ae ai (ae TV fNil)) env).bind m_is_tuple_of) (bM 4 [.tup [.int r,.int c],.tup [a,b]])=some true:=cG ((call_v rfl).trans (r9 _ 2));refine aW ((ar ((bE (rQ t1)).trans rfl)).trans ((ar (l9 (ds:=[a,b]) rfl rfl)).trans (bT ?_)));have w1:(λenv=>((ae aK fNil) env).bind m_is_whole) [.F (.tup [.int r,.int c]),.F (.tup [a,b]),.F a,.F b]=some (.bl (LM a)):=(call_v rfl).trans (mj a);have w2:(λenv=>((ae aD fNil) env).bind m_is_whole) [.F (.tup [.int r,.int c]),.F (.tup [a,b]),.F a,.F b]=some (.bl (LM b)):=(call_v rfl).trans (mj b);cases a
 case int i=>
  refine(zw w1).trans ?_;cases b
  case int j=>exact(zw w2).trans (Fq (Hy (x:=.int 0) (y:=.int i) (w:=.int r) rfl rfl rfl (xZ _ _) (Hs _ _)) λ_=>Hy (x:=.int 0) (y:=.int j) (w:=.int c) rfl rfl rfl (xZ _ _) (Hs _ _))
  all_goals exact(zu w2).trans (by simp[inR])
 all_goals exact zu w1
def js(r c:Int):D->Bool
 | .tup [.int a,.int b,.str w,.int l]=>(gE==w||sDn==w)&&BQ (.int l)&&(inR r (.int a)&&inR c (.int b))&&(if(w==sDn)=true then decide (1<l)&&decide (a+l<=r)else decide (b+l<=c))
 | _=>false
theorem OJ(w:D):inD w [.str gE,.str sDn]=match w with | .str x=>gE==x||sDn==x | _=>false:=by
 cases w<;>simp[inD,fS]
theorem J4{p q r s:Bool}(h:(!p||(!q||!r))=true):(p&&q&&r&&s)=false:=by cases p<;>cases q<;>cases r<;>first | rfl | cases h
theorem DM(r c:Int)(d:D)(hd:dh d<=50)(hp:pl d=true):m_is_ship [.tup [.int r,.int c],d]=some (.bl (js r c d)):=by
 have t1:fB (λenv=>((ae ai (ae TZ fNil)) env).bind m_is_tuple_of) (bM 6 [.tup [.int r,.int c],d])=some (zF 4 d):=cG ((call_v rfl).trans (r9 _ 4));cases h:zF 4 d with
 | false=>
  rw[h]at t1;have:js r c d=false:=by
   cases d<;>try rfl
   rename_i ds;unfold js
   split
   .rename_i e;cases e;cases h
   .rfl
  rw[this];exact aW (e9 ((cb (rQ t1)).trans rfl))
 | true=>
  rw[h]at t1;obtain⟨a,b,w,l,rfl⟩:=IT h;have dw:dh w<=60:=by
   unfold dh fR fR fR at hd
   lia
  have pw:pl w=true:=by
   unfold pl gA gA gA at hp;simp only[F_]at hp;exact hp.2.2.1
  refine aW ((ar ((bE (rQ t1)).trans rfl)).trans ((ar (l9 (ds:=[a,b,w,l]) rfl rfl)).trans ?_));show aF _ _ [.F (.tup [.int r,.int c]),.F (.tup [a,b,w,l]),.F a,.F b,.F w,.F l]=_;have t2:fB (au (mx true) aT (fC mI)) [.F (.tup [.int r,.int c]),.F (.tup [a,b,w,l]),.F a,.F b,.F w,.F l]=some (!inD w [.str gE,.str sDn]):=cG (F0 rfl rfl dw rfl (by rw[pw];rfl));have t3:fB (λenv=>((ae bX fNil) env).bind m_is_size) [.F (.tup [.int r,.int c]),.F (.tup [a,b,w,l]),.F a,.F b,.F w,.F l]=some (BQ l):=cG ((call_v rfl).trans (Ej l));have t4:fB (λenv=>((ae ag (ae (bt (ae aK (ae aD fNil))) fNil)) env).bind m_is_cell) [.F (.tup [.int r,.int c]),.F (.tup [a,b,w,l]),.F a,.F b,.F w,.F l]=some (inR r a&&inR c b):=cG ((call_v rfl).trans (DJ r c a b));have t5:=o5 t2 λ_=>o5 (rQ t3) λ_=>rQ t4;cases hb:(!inD w [.str gE,.str sDn]||(!BQ l||!(inR r a&&inR c b)))with
  | true=>
   rw[hb]at t5;have:js r c (.tup [a,b,w,l])=false:=by
    unfold js
    split
    .rename_i e;cases e;rw[OJ]at hb;exact J4 hb
    .rfl
   rw[this];exact e9 ((cb t5).trans rfl)
  | false=>
   rw[hb]at t5;simp only[Bool.or_eq_false_iff,Bool.not_eq_false',F_]at hb;obtain⟨b1,b2,b3,b4⟩:=hb;rw[OJ]at b1;cases w<;>try cases b1
   rename_i x;cases l<;>try cases b2
   rename_i l;cases a<;>try cases b3
   rename_i a;cases b<;>try cases b4
   rename_i b;refine(ar ((bE t5).trans rfl)).trans ?_;have b1':(gE==x||sDn==x)=true:=b1;have:js r c (.tup [.int a,.int b,.str x,.int l])=(if(x==sDn)=true then decide (1<l)&&decide (a+l<=r)else decide (b+l<=c)):=by
    show((gE==x||sDn==x)&&BQ (.int l)&&(inR r (.int a)&&inR c (.int b))&&_)=_;rw[b1',b2,b3,b4];rfl
   rw[this];have t6:fB (au eI aT (fC (.str sDn))) [.F (.tup [.int r,.int c]),.F (.tup [.int a,.int b,.str x,.int l]),.F (.int a),.F (.int b),.F (.str x),.F (.int l)]=some (x==sDn):=cG (CD rfl rfl (HF (by rw[ib];lia) rfl) (by unfold fS;rfl));cases hx:(x==sDn)with
   | true=>
    rw[hx]at t6;rw[g_ rfl];exact e9 ((cb t6).trans (bT (Fq rfl λ_=>(aS (gy _ _) rfl).trans (xZ _ _))))
   | false=>
    rw[hx]at t6;rw[j_ (by simp)];exact(ar ((bE t6).trans rfl)).trans (bT ((aS (gy _ _) rfl).trans (xZ _ _)))
abbrev pI(a b:Int)(w:Str)(l:Int):D:=.tup [.int a,.int b,.str w,.int l]
def gS(r c l:Int):D->D->TM
 | .int a,.int b=>(if b+l<=c then [pI a b gE l]else [])++(if a+l<=r/\1<l then [pI a b sDn l]else [])
 | _,_=>[]
theorem Aa(r c l:Int)(x y:D):(gS r c l x y).length<=2:=by
 unfold gS
 split
 .rw[E_];split<;>split<;>simp
 .simp
abbrev eS(r c l:Int)(acc:TM)(s3 s4:Slot):En:=[.F (.tup [.int r,.int c]),.F (.int l),.O (.L acc),s3,s4]
theorem yA(r c l a b:Int)(acc:TM)(h:acc.length+2<=16000):ei (eS r c l acc (.F (.int a)) (.F (.int b)))=some (.nx (eS r c l (acc++gS r c l (.int a) (.int b)) (.F (.int a)) (.F (.int b)))):=by
 have p1:∀dq:TM,dq.length<16000->g8 2 (bt (ae aD (ae aT (ae (fC (.str "along")) (ae ai fNil))))) (eS r c l dq (.F (.int a)) (.F (.int b)))=some (.nx (eS r c l (dq++[pI a b gE l]) (.F (.int a)) (.F (.int b)))):=λdq h'=>jB rfl rfl (by lia);have p2:∀dq:TM,dq.length<16000->g8 2 (bt (ae aD (ae aT (ae (fC (.str "down")) (ae ai fNil))))) (eS r c l dq (.F (.int a)) (.F (.int b)))=some (.nx (eS r c l (dq++[pI a b sDn l]) (.F (.int a)) (.F (.int b)))):=λdq h'=>jB rfl rfl (by lia);have t1:∀dq:TM,fB (au leI (au addI aT ai) (au aM ag TU)) (eS r c l dq (.F (.int a)) (.F (.int b)))=some (decide (b+l<=c)):=λ_=>rfl;have t2:∀dq:TM,nM (fB (au leI (au addI aD ai) (au aM ag TR))) (fB (au gtI ai TU)) (eS r c l dq (.F (.int a)) (.F (.int b)))=some (decide (a+l<=r)&&decide (1<l)):=λdq=>
  pz (show _=some (decide (a+l<=r))from rfl) λ_=>(show _=some (decide (1<l))from rfl)
 have FJ:∀dq:TM,dq.length<16000->(iW (nM (fB (au leI (au addI aD ai) (au aM ag TR))) (fB (au gtI ai TU))) (g8 2 (bt (ae aD (ae aT (ae (fC (.str "down")) (ae ai fNil)))))) nxF) (eS r c l dq (.F (.int a)) (.F (.int b)))=some (.nx (eS r c l (dq++(if a+l<=r/\1<l then [pI a b sDn l]else [])) (.F (.int a)) (.F (.int b)))):=λdq h'=>by
  by_cases hh:a+l<=r/\1<l
  .rw[g_ hh];exact(cb ((t2 dq).trans (by rw[t_ hh.1,t_ hh.2];rfl))).trans (p2 dq h')
  .rw[j_ hh,P9];refine(bE ((t2 dq).trans ?_)).trans rfl;congr 1;rw[Bool.eq_false_iff];intro e;simp only[F_,y_]at e;exact hh e
 show aF _ _ _=_;show _=some (Out.nx (eS r c l (acc++((if b+l<=c then [pI a b gE l]else [])++(if a+l<=r/\1<l then [pI a b sDn l]else []))) (.F (.int a)) (.F (.int b))));rw[<- RY]
 by_cases h1:b+l<=c
 .rw[g_ h1];exact(ar ((cb ((t1 acc).trans (by rw[t_ h1]))).trans (p1 acc (by lia)))).trans (FJ _ (by simp;lia))
 .rw[j_ h1,P9];exact(ar ((bE ((t1 acc).trans (by rw[B_ h1]))).trans rfl)).trans (FJ _ (by lia))
def FL(r c l:Int)(R C:Nat):TM:=(aI 0 R).flatMap λx=>(aI 0 C).flatMap λy=>gS r c l x y
theorem AW(R C:Nat)(hR:R<=60)(hC:C<=60)(l:Int):m__law_ships [.tup [.int R,.int C],.int l]=some (.lst (FL R C l R C)):=by
 have inner:∀(a:Nat)(acc:TM)(s4:Slot),acc.length+2*C<=8000->∃Ph,cU (eS R C l acc (.F (.int a)) s4)=some (.nx (eS R C l (acc++(aI 0 C).flatMap λy=>gS R C l (.int a) y) (.F (.int a)) Ph)):=λa acc s4 hl=>by
  obtain⟨e2,h1,s,h2⟩:=gZ (t:=bu 4) (body:=ei) (λacc e=>∃s,e=eS R C l acc (.F (.int a)) s) (λy=>gS R C l (.int a) y) 2 8000 (aI 0 C) acc (eS R C l acc (.F (.int a)) s4) ⟨_,rfl⟩ (by rw[dW];lia) λd hd=>⟨Aa ..,λdq e ⟨s,he⟩ FK=>by
   subst he;obtain⟨i,hi,rfl⟩:=gf.mp hd;exact⟨_,yA R C l a i dq (by lia),_,rfl⟩⟩
  subst h2;refine⟨s,?_⟩;unfold cU;have hi:au aM ag TU (eS R C l acc (.F (.int a)) s4)=some (.int (C:Int)):=rfl;rw[bY (cZ hi (by lia))];exact h1
 have NU:([]:TM).length+2*C*(aI 0 R).length<=8000:=by
  have h1:=QQ (QQ (m_ 2) hC) hR;rw[dW,L_,Qb];exact w_ h1 @1
 obtain⟨e2,h1,s3,s4,h2⟩:=gZ (t:=bu 3) (body:=cU) (λacc e=>∃s3 s4,e=eS R C l acc s3 s4) (λx=>(aI 0 C).flatMap λy=>gS R C l x y) (2*C) 8000 (aI 0 R) [] (eS R C l [] .un .un) ⟨_,_,rfl⟩ NU λd hd=>⟨by have:=rB (g:=λy=>gS R C l d y) (B:=2) (aI 0 C) (λy _=>Aa ..);rw[dW]at this;exact this,λdq e ⟨s3,s4,he⟩ FK=>by
   subst he;obtain⟨i,hi,rfl⟩:=gf.mp hd;obtain⟨Ph,h⟩:=inner i dq s4 FK;exact⟨_,fD (e0:=eS R C l dq (.F (.int i)) s4) rfl h,_,_,rfl⟩⟩
 subst h2;exact aW ((ar (eT rfl)).trans ((ar ((bY (cZ (n:=R) rfl (by lia))).trans h1)).trans rfl))
def atS(R C l a b:Nat):List Sh:=(if(b:Int)+l<=C then [⟨a,b,false,l⟩]else [])++(if(a:Int)+l<=R/\1<l then [⟨a,b,true,l⟩]else [])
def bR(R C l:Nat):List Sh:=(List.range R).flatMap λa=>(List.range C).flatMap λb=>atS R C l a b
theorem Iw(R C l a b:Nat):gS R C l (.int a) (.int b)=(atS R C l a b).map Sh.d:=by
 show(if(b:Int)+l<=C then [pI a b gE l]else [])++(if(a:Int)+l<=R/\(1:Int)<l then [pI a b sDn l]else [])=_;unfold atS;rw[P_];congr 1
 .split<;>rfl
 .by_cases h:(a:Int)+l<=R/\1<l
  .rw[g_ h,g_ ⟨h.1,by lia⟩];rfl
  .rw[j_ h,j_ (λz=>h ⟨z.1,by lia⟩)];rfl
theorem DN(R C l:Nat):FL R C l R C=(bR R C l).map Sh.d:=by
 unfold FL bR;rw[ma,Rc];congr 1;funext a;rw[ma,Rc];congr 1;funext b;exact Iw R C l a b
theorem jk(h:s∈atS R C l a b):s.a=a/\s.b=b/\s.n=l/\(s.dn=false->(b:Int)+l<=C)/\(s.dn=true->(a:Int)+l<=R/\1<l):=by
 unfold atS at h;rcases Qz.mp h with h | h
 .split at h
  .rename_i hc;cases C_.mp h;exact⟨rfl,rfl,rfl,λ_=>hc,λz=>by cases z⟩
  .cases h
 .split at h
  .rename_i hc;cases C_.mp h;exact⟨rfl,rfl,rfl,λz=>(by cases z),λ_=>hc⟩
  .cases h
theorem oz:s∈bR R C l↔(∃a b:Nat,s.a=a/\s.b=b/\a<R/\b<C)/\s.n=l/\(s.dn=false->s.b+l<=C)/\(s.dn=true->s.a+l<=R/\1<l):=by
 unfold bR;simp only[Q0,Q2];constructor
 .rintro⟨a,ha,b,hb,h⟩;obtain⟨h1,h2,h3,h4,h5⟩:=jk h;rw[h1,h2];exact⟨⟨a,b,rfl,rfl,ha,hb⟩,h3,h4,h5⟩
 .rintro⟨⟨a,b,h1,h2,ha,hb⟩,h3,h4,h5⟩;refine⟨a,ha,b,hb,?_⟩;obtain⟨sa,sb,dn,n⟩:=s;simp only at h1 h2 h3 h4 h5;subst h1 h2 h3;unfold atS;cases dn
  .rw[g_ (h4 rfl)];simp
  .rw[g_ (h5 rfl)];simp
theorem Dx(R C l a b:Nat):(atS R C l a b).length<=2:=by
 unfold atS;rw[E_];split<;>split<;>simp
theorem eO{α β:Type}{g:α->List β}{B:Nat}:∀(ds:List α),(∀d∈ds,(g d).length<=B)->(ds.flatMap g).length<=B*ds.length
 | [],_=>by simp
 | d::ds,h=>by
  rw[Qe,E_,z_,SR];have:=h d f_;have:=eO ds λx hx=>h x (e_ _ hx)
  lia
theorem oP(R C l:Nat):(bR R C l).length<=2*C*R:=by
 have h:=eO (g:=λa=>(List.range C).flatMap λb=>atS R C l a b) (B:=2*C) (List.range R) λa _=>by
  have:=eO (g:=λb=>atS R C l a b) (B:=2) (List.range C) (λb _=>Dx ..);rwa [Rp]at this
 rwa [Rp]at h
theorem xS(R C:Nat)(hR:R<=60)(hC:C<=60)(l:Nat):m__law_ships [.tup [.int R,.int C],.int l]=some (.lst ((bR R C l).map Sh.d)):=by
 rw[AW R C hR hC l,DN]
def Sh.ks(s:Sh):List L2.Key:=[.inl s.a,.inl s.b,.inr s.w,.inl s.n]
def Bef(s t:Sh):Prop:=s.a<t.a\/(s.a=t.a/\(s.b<t.b\/(s.b=t.b/\((s.dn=false/\t.dn=true)\/(s.dn=t.dn/\s.n<t.n)))))
theorem Ma:F' (.inr gE) (.inr sDn)=some true:=by
 show some (decide (gE.cps.toList<sDn.cps.toList))=_;rw[show decide (gE.cps.toList<sDn.cps.toList)=true by decide +kernel]
theorem MX:F' (.inr sDn) (.inr gE)=some false:=by
 show some (decide (sDn.cps.toList<gE.cps.toList))=_;rw[show decide (sDn.cps.toList<gE.cps.toList)=false by decide +kernel]
theorem OB:(Sum.inr gE:L2.Key)≠.inr sDn:=λh=>absurd (Sum.inr.inj h) @1
theorem mD(x y:L2.Key)(xs ys:List L2.Key):eB (x::xs) (y::ys)=if x=y then eB xs ys else F' x y:=rfl
theorem sY(n n':Nat):eB [.inl (n:Int)] [.inl (n':Int)]=some (decide (n<n')):=by
 rw[mD]
 by_cases h3:n=n'
 .subst h3;rw[g_ rfl];simp[eB]
 .rw[j_ (λz=>h3 (by have:=Sum.inl.inj z;lia))];show some (decide ((n:Int)<n'))=_;simp
theorem Cq(a b a' b':Int)(xs ys:List L2.Key)(q:Bool)(h:eB xs ys=some q):∃r,eB (.inl a::.inl b::xs) (.inl a'::.inl b'::ys)=some r/\(r=true↔a<a'\/(a=a'/\(b<b'\/(b=b'/\q=true)))):=by
 rw[mD]
 by_cases h1:a=a'
 .subst h1;rw[g_ rfl,mD]
  by_cases h2:b=b'
  .subst h2;rw[g_ rfl];exact⟨q,h,by simp⟩
  .rw[j_ (λz=>h2 (Sum.inl.inj z))];refine⟨decide (b<b'),rfl,?_⟩;rw[y_];constructor
   .intro h;exact .inr ⟨rfl,.inl h⟩
   .rintro(h | ⟨_,h | ⟨h,_⟩⟩)
    .lia
    .exact h
    .exact absurd h h2
 .rw[j_ (λz=>h1 (Sum.inl.inj z))];refine⟨decide (a<a'),rfl,?_⟩;rw[y_];constructor
  .intro h;exact .inl h
  .rintro(h | ⟨h,_⟩)
   .exact h
   .exact absurd h h1
theorem JC(x y:Bool)(n n':Nat):∃q,eB [.inr (if x=true then sDn else gE),.inl (n:Int)] [.inr (if y=true then sDn else gE),.inl (n':Int)]=some q/\(q=true↔(x=false/\y=true)\/(x=y/\n<n')):=by
 cases x<;>cases y
 .exact⟨decide (n<n'),(by rw[mD,g_ rfl,sY]),by simp⟩
 .exact⟨true,(by show eB [.inr gE,_] [.inr sDn,_]=_;rw[mD,j_ OB];exact Ma),by simp⟩
 .exact⟨false,(by show eB [.inr sDn,_] [.inr gE,_]=_;rw[mD,j_ (Qo OB)];exact MX),by simp⟩
 .exact⟨decide (n<n'),(by rw[mD,g_ rfl,sY]),by simp⟩
theorem qz(s t:Sh):∃q,eB s.ks t.ks=some q/\(q=true↔Bef s t):=by
 obtain⟨q,h1,h2⟩:=JC s.dn t.dn s.n t.n;obtain⟨r,h3,h4⟩:=Cq s.a s.b t.a t.b _ _ q h1;exact⟨r,h3,by rw[h4,h2];rfl⟩
theorem He(h:¬Bef s t):eB s.ks t.ks=some false:=by
 obtain⟨q,h1,h2⟩:=qz s t;cases q
 .exact h1
 .exact absurd (h2.mp rfl) h
theorem Dj(h:Bef s t):eB s.ks t.ks=some true:=by
 obtain⟨q,h1,h2⟩:=qz s t;rw[h1,h2.mpr h]
theorem iq(h:Bef s t):¬Bef t s:=by
 obtain⟨a,b,dn,n⟩:=s;obtain⟨a',b',Lm,n'⟩:=t;unfold Bef at *;simp only at *;intro h';cases dn<;>cases Lm<;>simp at h h'<;>lia
theorem pQ(R C l:Nat):(bR R C l).Pairwise Bef:=by
 unfold bR;refine QL.mpr ⟨λa ha=>QL.mpr ⟨λb hb=>?_,?_⟩,?_⟩
 .unfold atS
  split<;>split<;>simp[Bef]
 .refine Q_ (R:=λ(x y:Nat)=>x<y) (λ{x y} _ _ hxy s hs t ht=>?_) List.pairwise_lt_range;obtain⟨h1,h2,_⟩:=jk hs;obtain⟨g1,g2,_⟩:=jk ht;exact .inr ⟨by rw[h1,g1],.inl (by rw[h2,g2];lia)⟩
 .refine Q_ (R:=λ(x y:Nat)=>x<y) (λ{x y} _ _ hxy s hs t ht=>?_) List.pairwise_lt_range;obtain⟨b,_,hs⟩:=Q0.mp hs;obtain⟨b',_,ht⟩:=Q0.mp ht;obtain⟨h1,_⟩:=jk hs;obtain⟨g1,_⟩:=jk ht;exact .inl (by rw[h1,g1];lia)
def Sh.rz(s:Sh):Int:=if s.dn=true then s.a+s.n-1 else s.a
def Sh.cz(s:Sh):Int:=if s.dn=true then s.b else s.b+s.n-1
theorem qi{s:Sh}(hn:1<=s.n)(p:Ti):p∈s.cs↔s.a<=p.1/\p.1<=s.rz/\s.b<=p.2/\p.2<=s.cz:=by
 obtain⟨a,b,dn,n⟩:=s;obtain⟨x,y⟩:=p;unfold Sh.cs Sh.rz Sh.cz Sh.at;simp only[v_,Q2];simp only at hn;cases dn
 .simp only[P5,QV,Prod.mk.injEq];constructor
  .rintro⟨i,hi,rfl,rfl⟩;lia
  .rintro⟨h1,h2,h3,h4⟩;exact⟨(y-b).toNat,by lia,by lia,by lia⟩
 .simp only[SA,Prod.mk.injEq];constructor
  .rintro⟨i,hi,rfl,rfl⟩;lia
  .rintro⟨h1,h2,h3,h4⟩;exact⟨(x-a).toNat,by lia,by lia,by lia⟩
def DW(i j k:Int):Int:=if j>i then(if k>j then k else j)else(if k>i then k else i)
def kW(s t:Sh):Int:=DW (t.a-s.rz) (s.a-t.rz) 0
def nL(s t:Sh):Int:=DW (t.b-s.cz) (s.b-t.cz) 0
theorem CL(s t:Sh):m_rows_between [s.d,t.d]=some (.int (kW s t)):=by
 obtain⟨a,b,dn,n⟩:=s;obtain⟨a',b',Lm,n'⟩:=t;cases dn<;>cases Lm<;>rfl
theorem Cw(s t:Sh):m_columns_between [s.d,t.d]=some (.int (nL s t)):=by
 obtain⟨a,b,dn,n⟩:=s;obtain⟨a',b',Lm,n'⟩:=t;cases dn<;>cases Lm<;>rfl
def ku(r:Str)(s t:Sh):Bool:=if r=Ip then decide (0<kW s t+nL s t)else if r=Il then decide (1<kW s t+nL s t)else decide (1<(if nL s t>kW s t then nL s t else kW s t))
theorem Cy(r:Str)(hr:cB r)(s t:Sh):m_keep [.str r,s.d,t.d]=some (.bl (ku r s t)):=by
 have e1:setF 3 (λenv=>((ae ai (ae aK fNil)) env).bind m_rows_between) (bM 5 [.str r,s.d,t.d])=some (.nx [.F (.str r),.F s.d,.F t.d,.F (.int (kW s t)),.un]):=aX ((call_v (ak rfl (ak rfl aQ))).trans (CL s t));have e2:setF 4 (λenv=>((ae ai (ae aK fNil)) env).bind m_columns_between) [.F (.str r),.F s.d,.F t.d,.F (.int (kW s t)),.un]=some (.nx [.F (.str r),.F s.d,.F t.d,.F (.int (kW s t)),.F (.int (nL s t))]):=aX ((call_v (ak rfl (ak rfl aQ))).trans (Cw s t));refine aW ((ar e1).trans ((ar e2).trans ?_));unfold ku;rcases hr with rfl | rfl | rfl
 .rw[g_ rfl];exact e9 ((cb rfl).trans (bT ((aS (gy _ _) rfl).trans (Dt _ _))))
 .rw[j_ @1,g_ rfl];exact(ar ((bE rfl).trans rfl)).trans (e9 ((cb rfl).trans (bT ((aS (gy _ _) rfl).trans (Dt _ _)))))
 .rw[j_ @1,j_ @1];exact(ar ((bE rfl).trans rfl)).trans ((ar ((bE rfl).trans rfl)).trans (bT ((aS (x:=.int (if nL s t>kW s t then nL s t else kW s t)) rfl rfl).trans (Dt _ _))))
theorem Sh.rz_ge{s:Sh}(h:1<=s.n):s.a<=s.rz:=by unfold Sh.rz;split<;>lia
theorem Sh.cz_ge{s:Sh}(h:1<=s.n):s.b<=s.cz:=by unfold Sh.cz;split<;>lia
theorem Kk(h1:a<=p)(h2:p<=z)(h3:b<=p+d)(h4:p+d<=y):b<=z+d/\a+d<=(y:Int):=by lia
theorem IA{a z b y d:Int}(h1:a<=z)(h2:b<=y)(h3:b<=z+d)(h4:a+d<=y):∃x,(b<=x/\x<=y)/\a<=x-d/\x-d<=z:=by
 by_cases h:a+d<=b
 .exact⟨b,by lia,by lia⟩
 .exact⟨a+d,by lia,by lia⟩
theorem oN{s t:Sh}(hs:1<=s.n)(ht:1<=t.n)(d:Ti):(∃q∈t.cs,∃p∈s.cs,q=plus p d)↔t.a<=s.rz+d.1/\s.a+d.1<=t.rz/\t.b<=s.cz+d.2/\s.b+d.2<=t.cz:=by
 constructor
 .rintro⟨q,hq,p,hp,rfl⟩;rw[qi ht]at hq;rw[qi hs]at hp;have r:=Kk hp.1 hp.2.1 hq.1 hq.2.1;have c:=Kk hp.2.2.1 hp.2.2.2 hq.2.2.1 hq.2.2.2;exact⟨r.1,r.2,c⟩
 .rintro⟨h1,h2,h3,h4⟩;obtain⟨x,⟨x1,x2⟩,x3,x4⟩:=IA (Sh.rz_ge hs) (Sh.rz_ge ht) h1 h2;obtain⟨y,⟨y1,y2⟩,y3,y4⟩:=IA (Sh.cz_ge hs) (Sh.cz_ge ht) h3 h4;refine⟨(x,y),(qi ht _).mpr ⟨x1,x2,y1,y2⟩,(x-d.1,y-d.2),(qi hs _).mpr ⟨x3,x4,y3,y4⟩,?_⟩;unfold plus;simp only;rw[Int.sub_add_cancel,Int.sub_add_cancel]
theorem wz(h1:a<=z)(h2:b<=y)(hu:0<=u/\b-z<=u/\a-y<=u/\(u=0\/u=b-z\/u=a-y)) :
  ((b<=z+0/\a+0<=y)↔u=0)/\((b<=z+0/\a+0<=y)\/(b<=z+1/\a+1<=y)\/(b<=z+-1/\a+-1<=y)↔u<=1):=by
 refine⟨by lia,?_,λ_=>?_⟩
 .rintro(⟨_,_⟩ | ⟨_,_⟩ | ⟨_,_⟩)<;>lia
 .by_cases e:u=0
  .exact .inl (by lia)
  .by_cases e2:u=b-z
   .exact .inr (.inl (by lia))
   .exact .inr (.inr (by lia))
theorem Po:((p/\a)\/(p/\b)\/(q/\a)\/(p/\c)\/(r/\a))↔(p/\(a\/b\/c))\/((p\/q\/r)/\a):=by
 constructor
 .rintro(⟨h,g⟩ | ⟨h,g⟩ | ⟨h,g⟩ | ⟨h,g⟩ | ⟨h,g⟩)<;>simp[h,g]
 .rintro(⟨h,g | g | g⟩ | ⟨h | h | h,g⟩)<;>simp[h,g]
theorem PM:((p/\a)\/(p/\b)\/(q/\a)\/(p/\c)\/(r/\a)\/(q/\b)\/(q/\c)\/(r/\b)\/(r/\c))↔(p\/q\/r)/\(a\/b\/c):=by
 constructor
 .rintro(⟨h,g⟩ | ⟨h,g⟩ | ⟨h,g⟩ | ⟨h,g⟩ | ⟨h,g⟩ | ⟨h,g⟩ | ⟨h,g⟩ | ⟨h,g⟩ | ⟨h,g⟩)<;>simp[h,g]
 .rintro⟨h | h | h,g | g | g⟩<;>simp[h,g]
theorem k7(x y:Int):0<=DW x y 0/\x<=DW x y 0/\y<=DW x y 0/\(DW x y 0=0\/DW x y 0=x\/DW x y 0=y):=by
 unfold DW;split<;>split<;>lia
theorem tR{r:Str}(hr:cB r){s t:Sh}(hs:1<=s.n)(ht:1<=t.n):ku r s t=true↔¬∃q∈t.cs,∃p∈s.cs,∃d∈steps r,q=plus p d:=by
 have sw:(∃q∈t.cs,∃p∈s.cs,∃d∈steps r,q=plus p d)↔∃d∈steps r,(t.a<=s.rz+d.1/\s.a+d.1<=t.rz)/\t.b<=s.cz+d.2/\s.b+d.2<=t.cz:=by
  constructor
  .rintro⟨q,hq,p,hp,d,hd,e⟩;exact⟨d,hd,and_assoc.mpr ((oN hs ht d).mp ⟨q,hq,p,hp,e⟩)⟩
  .rintro⟨d,hd,h⟩;obtain⟨q,hq,p,hp,e⟩:=(oN hs ht d).mpr (and_assoc.mp h);exact⟨q,hq,p,hp,d,hd,e⟩
 obtain⟨r0,r1⟩:=wz (u:=kW s t) (Sh.rz_ge hs) (Sh.rz_ge ht) (k7 (t.a-s.rz) (s.a-t.rz));obtain⟨c0,c1⟩:=wz (u:=nL s t) (Sh.cz_ge hs) (Sh.cz_ge ht) (k7 (t.b-s.cz) (s.b-t.cz));have n1:0<=kW s t:=(k7 (t.a-s.rz) (s.a-t.rz)).1;have n2:0<=nL s t:=(k7 (t.b-s.cz) (s.b-t.cz)).1;rw[sw];unfold ku;rcases hr with rfl | rfl | rfl
 .rw[g_ rfl,md,y_];simp only[C_,S1];rw[r0,c0];clear r0 r1 c0 c1 sw
  lia
 .rw[j_ @1,g_ rfl,mz,y_];simp only[p_,Qd,Rx,exists_eq_or_imp,S1];rw[Po,r1,c1,r0,c0];clear r0 r1 c0 c1 sw
  lia
 .rw[j_ @1,j_ @1,mF,y_];simp only[p_,Qd,Rx,exists_eq_or_imp,S1];rw[PM,r1,c1];clear r0 r1 c0 c1 sw
  split<;>lia
theorem iP:∀{l:List α},(∀a∈l,f a=g a)->l.flatMap f=l.flatMap g
 | [],_=>rfl
 | a::l,h=>by rw[Qe,Qe,h a f_,iP λx hx=>h x (e_ _ hx)]
def eh(R C:Nat):S7:=(List.range R).flatMap λ(a:Nat)=>(List.range C).map λ(b:Nat)=>((a:Int),(b:Int))
theorem mq(R C:Nat):(eh R C).length<=C*R:=by
 have h:=eO (g:=λ(a:Nat)=>(List.range C).map λ(b:Nat)=>((a:Int),(b:Int))) (B:=C) (List.range R) λa _=>by simp
 rwa [Rp]at h
def Km:D->D->D
 | .int a,.int b=>cel (a,b)
 | _,_=>.non
theorem uw(R C:Nat):(aI 0 R).flatMap (λx=>(aI 0 C).map (Km x))=(eh R C).map cel:=by
 unfold eh;rw[ma,Rc];congr 1;funext a;rw[pD,P3]
 rfl
theorem rN(R C:Nat)(hR:R<=60)(hC:C<=60):m_all_cells [.tup [.int R,.int C]]=some (.lst ((eh R C).map cel)):=by
 have hl:((eh R C).map cel).length<=16000000:=by
  have h1:=mq R C;have h2:=QQ hC hR;rw[c_];lia
 refine aW ((ar (l9 (ds:=[.int R,.int C]) rfl rfl)).trans (bT (aZ (ds:=aI 0 R) (cZ (n:=R) rfl (by lia)) rfl ?_ hl)));rw[<- uw];refine qE (λx=>(aI 0 C).map (Km x)) _ λd hd=>?_;obtain⟨i,hi,rfl⟩:=gf.mp hd;refine⟨[.F (.int i),.un,.F (.int C)],rfl,rfl,Bh (ds:=aI 0 C) (cZ (n:=C) rfl (by lia)) rfl (eF _ _ λd hd=>?_)⟩;obtain⟨j,hj,rfl⟩:=gf.mp hd;exact⟨_,rfl,rfl⟩
def both(l:Nat)(p:Ti):List Sh:=[⟨p.1,p.2,false,l⟩,⟨p.1,p.2,true,l⟩]
def Fx(l:Nat):D->TM
 | .tup [.int a,.int b]=>(both l (a,b)).map Sh.d
 | _=>[]
theorem o6(l:Nat):∀(ps:S7),(ps.map cel).flatMap (Fx l)=(ps.flatMap (both l)).map Sh.d
 | []=>rfl
 | p::ps=>by rw[N_,Qe,o6 l ps,Qe,P_];rfl
theorem zb(s:Sh):dh s.d<=1:=by
 unfold Sh.d dh fR fR fR fR;rw[du,du,ib,du];simp[fR]
theorem Eh(s:Sh):pl s.d=true:=by
 unfold Sh.d;simp[pl,gA]
theorem sI(R C:Nat)(hR:R<=8)(hC:C<=8)(a b:Nat)(ha:a<R)(hb:b<C)(l:Nat)(hl:1<=l)(dn:Bool):js R C (Sh.d ⟨a,b,dn,l⟩)=(if dn=true then decide ((a:Int)+l<=R/\1<l)else decide ((b:Int)+l<=C)):=by
 have i1:inR R (.int a)=true:=by show(decide ((0:Int)<=a)&&decide ((a:Int)<R))=true;rw[t_ (show(0:Int)<=a by lia),t_ (show(a:Int)<R by lia)];rfl
 have i2:inR C (.int b)=true:=by show(decide ((0:Int)<=b)&&decide ((b:Int)<C))=true;rw[t_ (show(0:Int)<=b by lia),t_ (show(b:Int)<C by lia)];rfl
 cases dn
 .show((gE==gE||sDn==gE)&&BQ (.int l)&&(inR R (.int a)&&inR C (.int b))&&(if(gE==sDn)=true then decide (1<(l:Int))&&decide ((a:Int)+l<=R)else decide ((b:Int)+l<=C)))=_;rw[show(gE==gE||sDn==gE)=true by decide,i1,i2,show(gE==sDn)=false by decide];simp only[Bool.true_and,SJ,P5,QV]
  by_cases h:(b:Int)+l<=C
  .rw[t_ h,SJ];show(decide (1<=(l:Int))&&decide ((l:Int)<=8))=true;rw[t_ (by lia),t_ (by lia)];rfl
  .rw[B_ h,Ru]
 .show((gE==sDn||sDn==sDn)&&BQ (.int l)&&(inR R (.int a)&&inR C (.int b))&&(if(sDn==sDn)=true then decide (1<(l:Int))&&decide ((a:Int)+l<=R)else decide ((b:Int)+l<=C)))=_;rw[show(gE==sDn||sDn==sDn)=true by decide,i1,i2,show(sDn==sDn)=true by decide];simp only[Bool.true_and,SJ,SA]
  by_cases h:(a:Int)+l<=R/\1<l
  .rw[t_ h,t_ (show(1:Int)<l by lia),t_ h.1];show(decide (1<=(l:Int))&&decide ((l:Int)<=8)&&(true&&true))=true;rw[t_ (by lia),t_ (by lia)];rfl
  .rw[B_ h]
   by_cases h2:(1:Int)<l
   .rw[B_ (show ¬(a:Int)+l<=R from λz=>h ⟨z,by lia⟩),Ru,Ru]
   .rw[B_ h2,S0,Ru]
theorem tP(R C:Nat)(hR:R<=8)(hC:C<=8)(l:Nat)(hl:1<=l):(((eh R C).flatMap (both l)).map Sh.d).filter (js R C)=(bR R C l).map Sh.d:=by
 rw[List.filter_map];congr 1;unfold eh bR;rw[List.flatMap_assoc,List.filter_flatMap];refine iP λa ha=>?_;rw[R_,List.filter_flatMap];refine iP λb hb=>?_;have ha':=Q2.mp ha;have hb':=Q2.mp hb;unfold both atS;have e1:=sI R C hR hC a b ha' hb' l hl false;have e2:=sI R C hR hC a b ha' hb' l hl true;rw[j_ (by simp)]at e1;rw[g_ rfl]at e2;rw[PY,PY,List.filter_nil];simp only[Function.comp];rw[e1,e2]
 by_cases h1:(b:Int)+l<=C<;>by_cases h2:(a:Int)+l<=R/\1<l<;>simp[h1,h2]
theorem vm(R C:Nat)(hR:R<=8)(hC:C<=8)(l:Nat)(hl:1<=l):m_ships_of [.tup [.int R,.int C],.int l]=some (.lst ((bR R C l).map Sh.d)):=by
 have hlen:((bR R C l).map Sh.d).length<=16000000:=by
  have h1:=oP R C l;have h2:=QQ (QQ (m_ 2) hC) hR;rw[c_];lia
 have hlen2:(((eh R C).flatMap (both l)).map Sh.d).length<=16000000:=by
  have h1:=eO (g:=both l) (B:=2) (eh R C) λp _=>by unfold both;simp
  have h2:=mq R C;have h3:=QQ hC hR;rw[c_];lia
 have e1:setF 2 (aO (cS (λenv=>((ae ag fNil) env).bind m_all_cells)) [0,1] (kE [0,1]) T1 (fx (xN (fC mI)) [2] (bu 2) T1 (aG (bt (ae ag (ae ai (ae aK (ae aD fNil))))))) 3 [1]) (bM 3 [.tup [.int R,.int C],.int l]) =
   some (.nx [.F (.tup [.int R,.int C]),.F (.int l),.F (.lst (((eh R C).flatMap (both l)).map Sh.d))]):=by
  refine aX (aZ (br ((call_v (ak rfl aQ)).trans (rN R C (by lia) (by lia)))) rfl ?_ hlen2);rw[<- o6];refine qE (Fx l) _ λd hd=>?_;obtain⟨p,hp,rfl⟩:=v_.mp hd;exact⟨[.F (.int p.1),.F (.int p.2),.un,.F (.int l)],rfl,rfl,rfl⟩
 refine aW ((ar e1).trans (bT (aZ (br rfl) rfl ?_ hlen)));have:=vw (t:=bu 0) (c:=fB (λenv=>((ae ai (ae ag fNil)) env).bind m_is_ship)) (k:=aG ag) (env:=[.un,.F (.tup [.int R,.int C])]) (js R C) id (((eh R C).flatMap (both l)).map Sh.d) λd hd=>by
  obtain⟨s,_,rfl⟩:=v_.mp hd;exact⟨[.F s.d,.F (.tup [.int R,.int C])],rfl,cG ((call_v (ak rfl (ak rfl aQ))).trans (DM R C s.d (w_ (zb s) (by lia)) (Eh s))),λ_=>rfl⟩
 rw[List.map_id,tP R C hR hC l hl]at this;exact this
theorem jW(I:En->Prop)(p:D->Bool)(x:D):∀(ds:TM)(env:En),I env->(∀d∈ds,∀e,I e->(p d=true->∃e1,(t d e).bind body=some (.nx e1)/\I e1)/\(p d=false->(t d e).bind body=some (.rt x)))->
  (ds.all p=true->∃e2,cu t body ds env=some (.nx e2)/\I e2)/\(ds.all p=false->cu t body ds env=some (.rt x))
 | [],env,h,_=>⟨λ_=>⟨env,rfl,h⟩,λh=>by cases h⟩
 | d::ds,env,h,hb=>by
  obtain⟨h1,h2⟩:=hb d f_ env h;cases hp:p d with
  | true=>
   obtain⟨e1,h3,h4⟩:=h1 hp;obtain⟨e0,h5,h6⟩:=a_.mp h3;have hh:cu t body (d::ds) env=cu t body ds e1:=by
    show(t d env).bind (λe1=>(body e1).bind _)=_;rw[h5];show(body e0).bind _=_;rw[h6]
    rfl
   rw[hh,List.all_cons,hp,Bool.true_and];exact jW I p x ds e1 h4 λd' hd=>hb d' (e_ _ hd)
  | false=>
   obtain⟨e0,h5,h6⟩:=a_.mp (h2 hp);rw[List.all_cons,hp,S0];refine⟨λh=>(by cases h),λ_=>?_⟩;show(t d env).bind (λe1=>(body e1).bind _)=_;rw[h5];show(body e0).bind _=_;rw[h6]
   rfl
noncomputable def fN(ru:Str)(s:Sh):S7:=match m__law_halo [.str ru,s.d]with | some d=>F7 d | _=>[]
theorem uD(s:Sh)(hn:s.n<=1000)(ru:Str)(hr:cB ru):m__law_halo [.str ru,s.d]=some (dR (fN ru s))/\∀q,q∈fN ru s↔∃p∈s.cs,∃t∈steps ru,q=plus p t:=by
 obtain⟨ks,h1,h2⟩:=Ck s hn ru hr;have:fN ru s=ks:=by unfold fN;rw[h1];exact vb ks
 rw[this];exact⟨h1,h2⟩
theorem zJ(s0:Slot)(cs:S7)(ks:S7)(s3:Slot):(cs.all (λp=>!decide (p∈ks))=true->∃Ih,dr [s0,.F (.lst (cs.map cel)),.F (dR ks),s3]=some (.nx [s0,.F (.lst (cs.map cel)),.F (dR ks),Ih]))/\(cs.all (λp=>!decide (p∈ks))=false->dr [s0,.F (.lst (cs.map cel)),.F (dR ks),s3]=some (.rt (.bl false))):=by
 have hh:=jW (t:=bu 3) (body:=iG) (λe=>∃s3,e=[s0,.F (.lst (cs.map cel)),.F (dR ks),s3]) (λd=>match d with | .tup [.int a,.int b]=>!decide ((a,b)∈ks) | _=>true) (.bl false) (cs.map cel) _ ⟨s3,rfl⟩ λd hd e aA=>by
  obtain⟨s3,he⟩:=aA;subst he;obtain⟨q,hq,rfl⟩:=v_.mp hd;have ht:fB (au (LG Th.h false) aD aK) [s0,.F (.lst (cs.map cel)),.F (dR ks),.F (cel q)]=some (decide (q∈ks)):=cG (by
   show(Ik Th.h (dR ks)).bind _=_;unfold dR;rw[Fm];show some (D.bl (decide (gj q∈ks.map gj)))=_;congr 2;rw[P8,y_,y_];exact gR)
  constructor
  .intro h;have h:decide (q∈ks)=false:=by simpa [cel]using h
   exact⟨_,fD (e0:=[s0,.F (.lst (cs.map cel)),.F (dR ks),.F (cel q)]) rfl ((bE (ht.trans (by rw[h]))).trans rfl),_,rfl⟩
  .intro h;have h:decide (q∈ks)=true:=by simpa [cel]using h
   exact fD (e0:=[s0,.F (.lst (cs.map cel)),.F (dR ks),.F (cel q)]) rfl ((cb (ht.trans (by rw[h]))).trans rfl)
 rw[SU]at hh;refine⟨λh=>?_,λh=>(bY (br rfl)).trans (hh.2 h)⟩;obtain⟨e2,g1,Ih,rfl⟩:=hh.1 h;exact⟨Ih,(bY (br rfl)).trans g1⟩
theorem DQ(hs:List S7)(cs:S7):m__law_free [.lst (hs.map dR),.lst (cs.map cel)]=some (.bl (hs.all λks=>cs.all λp=>!decide (p∈ks))):=by
 have hh:=jW (t:=bu 2) (body:=dr) (λe=>∃s2 s3,e=[.F (.lst (hs.map dR)),.F (.lst (cs.map cel)),s2,s3]) (λd=>cs.all λp=>!decide (p∈F7 d)) (.bl false) (hs.map dR) [.F (.lst (hs.map dR)),.F (.lst (cs.map cel)),.un,.un] ⟨.un,.un,rfl⟩ λd hd e aA=>by
  obtain⟨s2,s3,he⟩:=aA;subst he;obtain⟨ks,hks,rfl⟩:=v_.mp hd;obtain⟨g1,g2⟩:=zJ (.F (.lst (hs.map dR))) cs ks s3;simp only[vb];refine⟨λh=>?_,λh=>fD (e0:=[.F (.lst (hs.map dR)),.F (.lst (cs.map cel)),.F (dR ks),s3]) rfl (g2 h)⟩;obtain⟨Ih,g⟩:=g1 h;exact⟨_,fD (e0:=[.F (.lst (hs.map dR)),.F (.lst (cs.map cel)),.F (dR ks),s3]) rfl g,_,_,rfl⟩
 rw[SU]at hh;simp only[SH,vb]at hh;cases hb:(hs.all λks=>cs.all λp=>!decide (p∈ks))with
 | true=>
  obtain⟨e2,g1,s2,s3,rfl⟩:=hh.1 hb;exact aW ((ar ((bY (br rfl)).trans g1)).trans rfl)
 | false=>exact aW (e9 ((bY (br rfl)).trans (hh.2 hb)))
theorem xu(hr:cB ru)(h:List Sh)(hh:∀t∈h,1<=t.n/\t.n<=1000)(s:Sh)(hs:1<=s.n):m__law_free [.lst (h.map λt=>dR (fN ru t)),.lst (s.cs.map cel)]=some (.bl (h.all λt=>ku ru t s)):=by
 have e:=DQ (h.map (fN ru)) s.cs;rw[P3]at e;refine Eq.trans e ?_;congr 2;rw[SU,P8,Qi,Qi];refine forall_congr' λt=>forall_congr' λht=>?_;obtain⟨h1,h2⟩:=hh t ht;rw[tR hr h1 hs];simp only[Ra,Qi,Bool.not_eq_true',RT];constructor
 .rintro hq ⟨q,NV,p,hp,d,hd,e⟩;exact hq q NV (((uD t h2 ru hr).2 q).mpr ⟨p,hp,d,hd,e⟩)
 .intro hq q NV hq2;obtain⟨p,hp,d,hd,e⟩:=((uD t h2 ru hr).2 q).mp hq2;exact hq ⟨q,NV,p,hp,d,hd,e⟩
instance (s t:Sh):Decidable (Bef s t):=by unfold Bef;infer_instance
def ju(fl:Tf):D:=.tup (fl.map λ(n:Nat)=>.int n)
def hidD(h:List Sh):D:=.tup (h.map Sh.d)
noncomputable def gD(ru:Str)(h:List Sh):D:=.tup [hidD h,.lst (h.map λs=>dR (fN ru s))]
def r8(fl:Tf)(j:Nat)(h:List Sh)(s:Sh):Bool:=decide (j=0)||(!decide (fl.getD (j-1) 0=fl.getD j 0)||(match h.getLast? with | some u=>decide (Bef u s) | none=>true))
def okN(ru:Str)(fl:Tf)(j:Nat)(h:List Sh)(s:Sh):Bool:=r8 fl j h s&&h.all λt=>ku ru t s
def gC(R C:Nat)(ru:Str)(fl:Tf)(j:Nat)(rows:List (List Sh)):List (List Sh):=rows.flatMap λh=>((bR R C (fl.getD j 0)).filter (okN ru fl j h)).map λs=>h++[s]
def bg(R C:Nat)(ru:Str)(fl:Tf):Nat->List (List Sh)
 | 0=>[[]]
 | j+1=>gC R C ru fl j (bg R C ru fl j)
noncomputable abbrev eA(R C:Nat)(fl:Tf)(ru:Str)(rows:D)(pl ln:Nat)(ss:List Sh)(acc:TM)(i4 i5 d4 d6:Slot):En:=
 [.F (.tup [.int R,.int C]),.F (ju fl),.F (.str ru),.F rows,.F (.int pl),.F (.int ln),.F (.lst (ss.map Sh.d)),.F (.lst (ss.map λs=>dR (fN ru s))),.F (.lst (ss.map λs=>.lst (s.cs.map cel))),.O (.L acc),i4,i5,d4,d6]
theorem Af(h:f env=some (.tup xs))(h2:g env=some (.tup ys))(hl:xs.length+ys.length<=16000000):au xV f g env=some (.tup (xs++ys)):=by
 rw[aS h h2];show(if xs.length+ys.length<=16000000 then _ else _)=_;rw[g_ hl]
theorem J7(s t:Sh):JH s.d t.d=some (.bl (decide (Bef s t))):=by
 obtain⟨q,h1,h2⟩:=qz s t;show(eB s.ks t.ks).bind _=_;rw[h1,show decide (Bef s t)=q by cases q<;>simp_all];rfl
theorem all1(R C:Nat)(fl:Tf)(ru:Str)(hr:cB ru)(rows:D)(pl:Nat)(gI:pl<fl.length)(ss:List Sh)(acc:TM)(ha:acc.length<1000000)(h:List Sh)(hl:h.length=pl)(hh:∀t∈h,1<=t.n/\t.n<=1000)(Pi:pl<=3)(d6:Slot)(k:Nat)(s:Sh)(hk:ss[k]?=some s)(hn:1<=s.n) :
  ∃fm:Slot,dX (eA R C fl ru rows pl (fl.getD pl 0) ss acc (.F (hidD h)) (.F (.lst (h.map λs=>dR (fN ru s)))) (.F (.int k)) d6)=some (.nx (eA R C fl ru rows pl (fl.getD pl 0) ss (acc++if okN ru fl pl h s=true then [gD ru (h++[s])]else []) (.F (hidD h)) (.F (.lst (h.map λs=>dR (fN ru s)))) (.F (.int k)) fm)):=by
 have hb:=xu hr h hh s hn;have hq:(GC (au eI aT TR) (GC (au nY (au aM ai (au subI aT TU)) bX) (au JH (au aM hW (bC mY TU)) (au aM cN cy)))) (eA R C fl ru rows pl (fl.getD pl 0) ss acc (.F (hidD h)) (.F (.lst (h.map λs=>dR (fN ru s)))) (.F (.int k)) d6)=some (.bl (r8 fl pl h s)):=by
  cases pl with
  | zero=>exact Gp (p:=true) (q:=true) rfl (λh=>by cases h)
  | succ m=>
   have hx:fl[m]?=some (fl.getD m 0):=by rw[QJ,i_ (by lia)];rfl
   have i1:au aM ai (au subI aT TU) (eA R C fl ru rows (m+1) (fl.getD (m+1) 0) ss acc (.F (hidD h)) (.F (.lst (h.map λs=>dR (fN ru s)))) (.F (.int k)) d6)=some (.int ((fl.getD m 0:Nat):Int)):=by
    refine qG (i:=(m:Int)) rfl ?_ (dv (by rw[u_,hx];rfl));show some (D.int (((m+1:Nat):Int)-1))=_;rw[show((m+1:Nat):Int)-1=(m:Int) by lia]
   obtain⟨h0,u,hu⟩:∃h0 u,h=h0++[u]:=by
    have hne:h≠[]:=λe=>by rw[e]at hl;cases hl
    exact⟨h.dropLast,h.getLast hne,(Rj hne).symm⟩
   have i2:au aM hW (bC mY TU) (eA R C fl ru rows (m+1) (fl.getD (m+1) 0) ss acc (.F (hidD h)) (.F (.lst (h.map λs=>dR (fN ru s)))) (.F (.int k)) d6)=some u.d:=by
    refine qG (ds:=h.map Sh.d) (i:=-1) rfl rfl ?_;rw[hu,P_];exact L2.Be _ _
   have i3:au aM cN cy (eA R C fl ru rows (m+1) (fl.getD (m+1) 0) ss acc (.F (hidD h)) (.F (.lst (h.map λs=>dR (fN ru s)))) (.F (.int k)) d6)=some s.d:=ed (i:=(k:Int)) rfl rfl (dv (by rw[u_,hk];rfl));have:=Gp (p:=((m+1:Nat):Int)==0) (f:=au eI aT TR) (env:=eA R C fl ru rows (m+1) (fl.getD (m+1) 0) ss acc (.F (hidD h)) (.F (.lst (h.map λs=>dR (fN ru s)))) (.F (.int k)) d6) rfl λ_=>Gp (p:=!(((fl.getD m 0:Nat):Int)==((fl.getD (m+1) 0:Nat):Int))) ((aS (g:=λenv=>da env 5) i1 rfl).trans (Jb _ _)) λ_=>(aS i2 i3).trans (J7 u s);rw[this];congr 2;unfold r8;rw[hu,List.getLast?_append];have e1:(((m+1:Nat):Int)==0)=decide (m+1=0):=by rw[P8];simp;lia
   have e2:(((fl.getD m 0:Nat):Int)==((fl.getD (m+1) 0:Nat):Int))=decide (fl.getD (m+1-1) 0=fl.getD (m+1) 0):=by rw[P8,RO,y_,Nat.add_sub_cancel];lia
   rw[e1,e2];rfl
 unfold dX;have i6:∀fm:Slot,au aM cN cy (eA R C fl ru rows pl (fl.getD pl 0) ss acc (.F (hidD h)) (.F (.lst (h.map λs=>dR (fN ru s)))) (.F (.int k)) fm)=some s.d:=λ_=>ed (i:=(k:Int)) rfl rfl (dv (by rw[u_,hk];rfl));have i7:∀fm:Slot,au aM df cy (eA R C fl ru rows pl (fl.getD pl 0) ss acc (.F (hidD h)) (.F (.lst (h.map λs=>dR (fN ru s)))) (.F (.int k)) fm)=some (dR (fN ru s)):=λ_=>ed (i:=(k:Int)) rfl rfl (dv (by rw[u_,hk];rfl));have i8:∀fm:Slot,au aM dJ cy (eA R C fl ru rows pl (fl.getD pl 0) ss acc (.F (hidD h)) (.F (.lst (h.map λs=>dR (fN ru s)))) (.F (.int k)) fm)=some (.lst (s.cs.map cel)):=λ_=>ed (i:=(k:Int)) rfl rfl (dv (by rw[u_,hk];rfl));have ht:nM (fB Aj) (fB (λenv=>((ae gK (ae (au aM dJ cy) fNil)) env).bind m__law_free)) (eA R C fl ru rows pl (fl.getD pl 0) ss acc (.F (hidD h)) (.F (.lst (h.map λs=>dR (fN ru s)))) (.F (.int k)) (.F (.bl (r8 fl pl h s))))=some (okN ru fl pl h s):=pz (cG rfl) λ_=>cG ((call_v (ak rfl (ak (i8 _) aQ))).trans hb);refine⟨.F (.bl (r8 fl pl h s)),(ar (aX hq)).trans ?_⟩;cases hqb:okN ru fl pl h s with
 | true=>
  rw[hqb]at ht;rw[g_ rfl];refine(cb ht).trans ?_;refine jB (d:=gD ru (h++[s])) rfl (mK (ak ?_ (ak ?_ aQ))) (by lia)
  .have:=Af (f:=λenv=>da env 10) (g:=bt (ae (au aM cN cy) fNil)) (env:=eA R C fl ru rows pl (fl.getD pl 0) ss acc (.F (hidD h)) (.F (.lst (h.map λs=>dR (fN ru s)))) (.F (.int k)) (.F (.bl (r8 fl pl h s)))) (xs:=h.map Sh.d) (ys:=[s.d]) rfl (mK (ak (i6 _) aQ)) (by rw[c_,hl];simp;lia);exact this.trans (by unfold hidD;rw[P_];rfl)
  .have:=uU (f:=λenv=>da env 11) (g:=bP (ae (au aM df cy) fNil)) (env:=eA R C fl ru rows pl (fl.getD pl 0) ss acc (.F (hidD h)) (.F (.lst (h.map λs=>dR (fN ru s)))) (.F (.int k)) (.F (.bl (r8 fl pl h s)))) (xs:=h.map λs=>dR (fN ru s)) (ys:=[dR (fN ru s)]) rfl (Fd (ak (i7 _) aQ)) (by rw[c_,hl];simp;lia);exact this.trans (by rw[P_];rfl)
 | false=>
  rw[hqb]at ht;rw[j_ (by simp),P9];exact(bE ht).trans rfl
theorem ia(f:α->D)(I:TM->En->Prop)(g:α->TM)(B M:Nat):∀(xs:List α)(acc:TM)(env:En),I acc env->acc.length+B*xs.length<=M->(∀x∈xs,(g x).length<=B/\∀acc e,I acc e->acc.length+B<=M->∃e1,(t (f x) e).bind body=some (.nx e1)/\I (acc++g x) e1)->∃e2,cu t body (xs.map f) env=some (.nx e2)/\I (acc++xs.flatMap g) e2
 | [],acc,env,h,_,_=>⟨env,rfl,by rw[List.flatMap_nil,P9];exact h⟩
 | x::xs,acc,env,h,hl,hb=>by
  obtain⟨h1,h2⟩:=hb x f_;rw[z_,SR]at hl;obtain⟨e1,h3,h4⟩:=h2 acc env h (by lia);obtain⟨e0,h5,h6⟩:=a_.mp h3;have hh:cu t body ((x::xs).map f) env=cu t body (xs.map f) e1:=by
   show(t (f x) env).bind (λe1=>(body e1).bind _)=_;rw[h5];show(body e0).bind _=_;rw[h6]
   rfl
  obtain⟨e2,h7,h8⟩:=ia f I g B M xs (acc++g x) e1 h4 (by rw[E_];lia) λy hy=>hb y (e_ _ hy);refine⟨e2,hh.trans h7,?_⟩;rw[Qe,<- RY];exact h8
theorem A8(n:Nat):aI 0 n=(List.range n).map λ(i:Nat)=>D.int i:=by
 have:=pD (g:=id) n;rw[List.map_id]at this;exact this
theorem xC(l:List α)(G:Option α->List β):(List.range l.length).flatMap (λi=>G l[i]?)=l.flatMap λa=>G (some a):=by
 have:(List.range l.length).map (λi=>l[i]?)=l.map some:=by
  apply Rq;intro i;rw[u_,u_]
  by_cases h:i<l.length
  .rw[RD h,i_ h];simp
  .rw[A_ (by simpa using h),A_ (by simpa using h)];rfl
 have h2:=QO (λx=>x.flatMap G) this;simp only[R_]at h2;exact h2
theorem vL(p:α->Bool)(G:α->β):∀(l:List α),(l.flatMap λa=>if p a=true then [G a]else [])=(l.filter p).map G
 | []=>rfl
 | a::l=>by
  rw[Qe,PY,vL p G l]
  split<;>rfl
theorem all2(R C:Nat)(fl:Tf)(ru:Str)(hr:cB ru)(rows:D)(pl:Nat)(gI:pl<fl.length)(ss:List Sh)(acc:TM)(ha:acc.length<900000)(h:List Sh)(hl:h.length=pl)(hh:∀t∈h,1<=t.n/\t.n<=1000)(Pi:pl<=3)(d4 d6:Slot)(NW:ss.length<=40)(hn:∀s∈ss,1<=s.n) :
  ∃mT fm:Slot,dU (eA R C fl ru rows pl (fl.getD pl 0) ss acc (.F (hidD h)) (.F (.lst (h.map λs=>dR (fN ru s)))) d4 d6)=some (.nx (eA R C fl ru rows pl (fl.getD pl 0) ss (acc++((ss.filter (okN ru fl pl h)).map λs=>h++[s]).map (gD ru)) (.F (hidD h)) (.F (.lst (h.map λs=>dR (fN ru s)))) mT fm)):=by
 obtain⟨e2,h1,mT,fm,rfl⟩:=ia (t:=bu 12) (body:=dX) (λ(i:Nat)=>D.int i) (λacc e=>∃d4 d6,e=eA R C fl ru rows pl (fl.getD pl 0) ss acc (.F (hidD h)) (.F (.lst (h.map λs=>dR (fN ru s)))) d4 d6) (λi=>match ss[i]? with | some s=>if okN ru fl pl h s=true then [gD ru (h++[s])]else [] | none=>[]) 1 950000 (List.range ss.length) acc _ ⟨d4,d6,rfl⟩ (by rw[Rp];lia) λi hi=>by
  have hi':=Q2.mp hi;have hk:ss[i]?=some ss[i]:=i_ hi';rw[hk];refine⟨by dsimp only;split<;>simp,λdq e ⟨mT,fm,he⟩ FK=>?_⟩;subst he;obtain⟨s13'',u⟩:=all1 R C fl ru hr rows pl gI ss dq (by lia) h hl hh Pi fm i ss[i] hk (hn _ (R9 hi'));exact⟨_,fD (e0:=eA R C fl ru rows pl (fl.getD pl 0) ss dq (.F (hidD h)) (.F (.lst (h.map λs=>dR (fN ru s)))) (.F (.int i)) fm) rfl u,_,_,rfl⟩
 rw[xC ss (λo=>match o with | some s=>if okN ru fl pl h s=true then [gD ru (h++[s])]else [] | none=>[])]at h1;dsimp only at h1;rw[vL (okN ru fl pl h) (λs=>gD ru (h++[s])),<- A8]at h1;refine⟨mT,fm,?_⟩;unfold dU;rw[bY (cZ (n:=ss.length) ((gN rfl).trans (by rw[c_])) (by lia)),h1,P3];rfl
theorem ck(f g:α->D):∀(xs:List α),(∀x∈xs,∃e1,t (f x) env=some e1/\k e1=some [g x])->ez t T1 k env (xs.map f)=some (xs.map g)
 | [],_=>rfl
 | x::xs,h=>by
  obtain⟨e1,h1,h3⟩:=h x f_;have i1:=ck f g xs λy hy=>h y (e_ _ hy);show ez _ _ _ _ (f x::xs.map f)=_;unfold ez;rw[h1];show(if true=true then k e1 else some []).bind _=_;rw[g_ rfl,h3];show(ez t T1 k env (xs.map f)).bind _=_;rw[i1];rfl
theorem jj(R C:Nat)(hR:R<=4)(hC:C<=5)(l:Nat):(bR R C l).length<=40:=by
 have h1:=oP R C l;have h2:=QQ (QQ (m_ 2) hC) hR
 lia
theorem ir(h:s∈bR R C l):s.n=l:=(oz.mp h).2.1
theorem AZ(R C:Nat)(hR:R<=4)(hC:C<=5)(ru:Str)(hru:cB ru)(fl:Tf)(yD:fl.length<=3)(pl:Nat)(gI:pl<fl.length)(NX:1<=fl.getD pl 0/\fl.getD pl 0<=10)(rows:List (List Sh))(hrows:∀h∈rows,h.length=pl/\∀t∈h,1<=t.n/\t.n<=1000)(hlen:rows.length<=1600)(s6 s7 s8 s9 i4 i5 d4 d6:Slot) :
  ∃(t6 t7 t8 t9 BN BO uc t13:Slot),fQ [.F (.tup [.int R,.int C]),.F (ju fl),.F (.str ru),.F (.lst (rows.map (gD ru))),.F (.int pl),.F (.int (fl.getD pl 0:Nat)),s6,s7,s8,s9,i4,i5,d4,d6]
   = some (.nx [.F (.tup [.int R,.int C]),.F (ju fl),.F (.str ru),.F (.lst ((gC R C ru fl pl rows).map (gD ru))),.F (.int pl),.F (.int (fl.getD pl 0:Nat)),t6,t7,t8,t9,BN,BO,uc,t13]):=by
 have a1:=xS R C (by lia) (by lia) (fl.getD pl 0);have ls:=jj R C hR hC (fl.getD pl 0);have hn:∀s∈bR R C (fl.getD pl 0),1<=s.n/\s.n<=10:=λs hs=>by rw[ir hs];exact NX
 obtain⟨ss,NW⟩:∃ss,ss=bR R C (fl.getD pl 0):=⟨_,rfl⟩;rw[<- NW]at a1 ls hn;have b1:=ck (t:=bu 0) (k:=aG (λenv=>((ae ai (ae ag fNil)) env).bind m__law_halo)) (env:=[.un,.F (.str ru)]) Sh.d (λs=>dR (fN ru s)) ss λs hs=>⟨[.F s.d,.F (.str ru)],rfl,dm ((call_v (ak rfl (ak rfl aQ))).trans (uD s (by have:=hn s hs;lia) ru hru).1)⟩;have c1:=ck (t:=bu 0) (k:=aG (λenv=>((ae ag fNil) env).bind m__law_cells)) (env:=[.un]) Sh.d (λs=>.lst (s.cs.map cel)) ss λs hs=>⟨[.F s.d],rfl,dm ((call_v (ak rfl aQ)).trans (je s (by have:=hn s hs;lia)))⟩;obtain⟨e2,h1,EJ,EK,mT,fm,rfl⟩:=ia (t:=kE [10,11]) (body:=dU) (gD ru) (λacc e=>∃(EJ EK mT fm:Slot),e=eA R C fl ru (.lst (rows.map (gD ru))) pl (fl.getD pl 0) ss acc EJ EK mT fm) (λh=>((ss.filter (okN ru fl pl h)).map λs=>h++[s]).map (gD ru)) 40 800000 rows [] _ ⟨i4,i5,d4,d6,rfl⟩ (by rw[L_];lia) λh hh=>by
  refine⟨by rw[c_,c_];exact w_ (M_ _ _) ls,λacc e ⟨EJ,EK,mT,fm,he⟩ FK=>?_⟩;subst he;obtain⟨q1,q2⟩:=hrows h hh;obtain⟨s12'',s13'',u⟩:=all2 R C fl ru hru (.lst (rows.map (gD ru))) pl gI ss acc (by lia) h q1 q2 (by lia) mT fm ls (λs hs=>(hn s hs).1);exact⟨_,fD (e0:=eA R C fl ru (.lst (rows.map (gD ru))) pl (fl.getD pl 0) ss acc (.F (hidD h)) (.F (.lst (h.map λs=>dR (fN ru s)))) mT fm) rfl u,_,_,_,_,rfl⟩
 have gq:rows.flatMap (λh=>((ss.filter (okN ru fl pl h)).map λs=>h++[s]).map (gD ru))=(gC R C ru fl pl rows).map (gD ru):=by
  unfold gC;rw[Rc,NW]
 rw[gq,Ri]at h1;have l1:(ss.map λs=>dR (fN ru s)).length<=16000000:=by rw[c_];lia
 have l2:(ss.map λs=>D.lst (s.cs.map cel)).length<=16000000:=by rw[c_];lia
 exact⟨.F (.lst (ss.map Sh.d)),.F (.lst (ss.map λs=>dR (fN ru s))),.F (.lst (ss.map λs=>.lst (s.cs.map cel))),.F (.lst ((gC R C ru fl pl rows).map (gD ru))),EJ,EK,mT,fm,(ar (aX ((call_v (ak rfl (ak rfl aQ))).trans a1))).trans ((ar (aX (aZ (br rfl) rfl b1 l1))).trans ((ar (aX (aZ (br rfl) rfl c1 l2))).trans ((ar (eT rfl)).trans ((ar ((bY (br rfl)).trans h1)).trans ((ar rfl).trans (aX rfl))))))⟩
theorem Eo(h:f env=some (.tup ds)):EU f env=some (jn 0 ds):=by unfold EU;rw[h];rfl
theorem yv(R C:Nat)(hR:R<=4)(hC:C<=5)(ru:Str)(fl:Tf)(j:Nat)(rows:List (List Sh)):(gC R C ru fl j rows).length<=40*rows.length:=
 eO rows λh _=>by rw[c_];exact w_ (M_ _ _) (jj R C hR hC _)
theorem ja(R C:Nat)(hR:R<=4)(hC:C<=5)(ru:Str)(fl:Tf):∀j,(bg R C ru fl j).length<=40 ^ j
 | 0=>by simp[bg]
 | j+1=>by
  have h1:=yv R C hR hC ru fl j (bg R C ru fl j);have h2:=ja R C hR hC ru fl j;rw[SV];show(gC R C ru fl j (bg R C ru fl j)).length<=_
  lia
theorem jZ:x∈gC R C ru fl j rows↔∃h∈rows,∃s∈bR R C (fl.getD j 0),okN ru fl j h s=true/\x=h++[s]:=by
 unfold gC;simp only[Q0,v_,Qh];constructor
 .rintro⟨h,hh,s,⟨h1,h2⟩,rfl⟩;exact⟨h,hh,s,h1,h2,rfl⟩
 .rintro⟨h,hh,s,h1,h2,rfl⟩;exact⟨h,hh,s,⟨h1,h2⟩,rfl⟩
theorem vM(R C:Nat)(ru:Str)(fl:Tf)(hf:∀n∈fl,1<=n/\n<=10):∀j,j<=fl.length->∀h∈bg R C ru fl j,h.length=j/\∀t∈h,1<=t.n/\t.n<=1000
 | 0,_,h,hh=>by cases C_.mp hh;exact⟨rfl,λt ht=>by cases ht⟩
 | j+1,hj,x,hx=>by
  obtain⟨h,hh,s,h1,h2,rfl⟩:=jZ.mp hx;obtain⟨i1,i2⟩:=vM R C ru fl hf j (by lia) h hh;refine⟨by simp[i1],λt ht=>?_⟩;rcases Qz.mp ht with ht | ht
  .exact i2 t ht
  .cases C_.mp ht;rw[ir h1];have:=hf (fl.getD j 0) (by rw[QJ,i_ (by lia)];exact R9 _)
   lia
theorem zy(h:n<=3):40 ^ n<=64000:=w_ (Nat.pow_le_pow_right @1 h) @1
theorem GO(R C:Nat)(hR:R<=4)(hC:C<=5)(ru:Str)(hru:cB ru)(fl:Tf)(yD:fl.length<=3)(hf:∀n∈fl,1<=n/\n<=10) :
  m__law_all [.tup [.int R,.int C],ju fl,.str ru]=some (.lst ((bg R C ru fl fl.length).map hidD)):=by
 obtain⟨e2,h1,s4,s5,s6,s7,s8,s9,i4,i5,d4,d6,rfl⟩:=eM (t:=kE [4,5]) (body:=fQ) (λj e=>∃(s4 s5 s6 s7 s8 s9 i4 i5 d4 d6:Slot),e=[.F (.tup [.int R,.int C]),.F (ju fl),.F (.str ru),.F (.lst ((bg R C ru fl j).map (gD ru))),s4,s5,s6,s7,s8,s9,i4,i5,d4,d6]) (jn 0 (fl.map λ(n:Nat)=>.int n)) 0 _ ⟨.un,.un,.un,.un,.un,.un,.un,.un,.un,.un,rfl⟩ λi d e hd aA=>by
  obtain⟨s4,s5,s6,s7,s8,s9,i4,i5,d4,d6,he⟩:=aA;subst he;have hi:=(h_.mp hd).1;rw[fJ,c_]at hi;have hg:fl[i]?=some (fl.getD i 0):=by rw[QJ,i_ hi];rfl
  have hx:(fl.map λ(n:Nat)=>D.int n)[i]?=some (.int ((fl.getD i 0:Nat):Int)):=by rw[u_,hg];rfl
  rw[jg hx]at hd;cases hd;simp only[Qb];have hp2:40 ^ i<=40 ^ 2:=Nat.pow_le_pow_right @1 (by lia);obtain⟨t6,t7,t8,t9,BN,BO,uc,t13,u1⟩:=AZ R C hR hC ru hru fl yD i hi (hf _ (Q7 hg)) (bg R C ru fl i) (vM R C ru fl hf i (by lia)) (by have:=ja R C hR hC ru fl i;lia) s6 s7 s8 s9 i4 i5 d4 d6;exact⟨_,fD rfl u1,_,_,_,_,_,_,_,_,_,_,rfl⟩
 rw[Qb,fJ,c_]at h1;have h40:=zy yD;have hlen:=ja R C hR hC ru fl fl.length;refine aW ((ar (aX rfl)).trans ((ar ((bY (Eo rfl)).trans h1)).trans (bT (aZ (br rfl) rfl ?_ (by rw[c_];lia)))));exact ck (gD ru) hidD _ λh hh=>⟨_,rfl,rfl⟩
def rh(ru:Str)(s t:Sh):Prop:=(t.n=s.n->Bef s t)/\ku ru s t=true
instance (ru:Str)(s t:Sh):Decidable (rh ru s t):=by unfold rh;infer_instance
theorem xJ(h:Bef s t)(h2:Bef t u):Bef s u:=by
 rcases h with h | ⟨e,h⟩
 .rcases h2 with h2 | ⟨e2,_⟩
  .exact .inl (Int.lt_trans h h2)
  .exact .inl (e2▸h)
 .rcases h2 with h2 | ⟨e2,h2⟩
  .exact .inl (e▸h2)
  .refine .inr ⟨e.trans e2,?_⟩;rcases h with h | ⟨f,h⟩
   .rcases h2 with h2 | ⟨f2,_⟩
    .exact .inl (Int.lt_trans h h2)
    .exact .inl (f2▸h)
   .rcases h2 with h2 | ⟨f2,h2⟩
    .exact .inl (f▸h2)
    .refine .inr ⟨f.trans f2,?_⟩;rcases h with ⟨p,q⟩ | ⟨p,q⟩
     .rcases h2 with ⟨p2,_⟩ | ⟨p2,_⟩
      .rw[q]at p2;cases p2
      .exact .inl ⟨p,p2▸q⟩
     .rcases h2 with ⟨p2,q2⟩ | ⟨p2,q2⟩
      .exact .inl ⟨p.trans p2,q2⟩
      .exact .inr ⟨p.trans p2,Nat.lt_trans q q2⟩
theorem oy{fl:Tf}{j:Nat}(h:j<fl.length):fl.take (j+1)=fl.take j++[fl.getD j 0]:=by
 rw[SI,QJ,i_ h];rfl
theorem we{ru:Str}{fl:Tf}(hs:fl.Pairwise (·>=·)){j:Nat}(hj:j<fl.length){h:List Sh}(hm:h.map Sh.n=fl.take j)(hp:h.Pairwise (rh ru)){s:Sh}(hsn:s.n=fl.getD j 0):okN ru fl j h s=true↔∀t∈h,rh ru t s:=by
 have hlen:h.length=j:=by have:=QO List.length hm;rw[c_,QY]at this;lia
 have Pj:∀t∈h,s.n<=t.n:=λt ht=>by
  have h1:t.n∈fl.take j:=hm▸Ql ht;have lE:(fl.take j++fl.drop j).Pairwise (·>=·):=by rw[R6];exact hs
  rw[hsn];refine(QE.mp lE).2.2 _ h1 _ ?_;rw[QJ,i_ hj,Q5 hj];exact f_
 unfold okN r8;rw[F_,Qi]
 by_cases hz:j=0
 .have:h=[]:=List.eq_nil_of_length_eq_zero (by lia);subst this;simp[hz]
 obtain⟨h0,u,rfl⟩:∃h0 u,h=h0++[u]:=by
  have hne:h≠[]:=λe=>by rw[e]at hlen;exact hz hlen.symm
  exact⟨h.dropLast,h.getLast hne,(Rj hne).symm⟩
 have hu:u.n=fl.getD (j-1) 0/\h0.map Sh.n=fl.take (j-1):=by
  have e:fl.take j=fl.take (j-1)++[fl.getD (j-1) 0]:=by
   have:=oy (fl:=fl) (j:=j-1) (by lia);rwa [show j-1+1=j by lia]at this
  rw[e,P_]at hm;have:=SO hm rfl;exact⟨by simpa using this.2,this.1⟩
 have Pk:∀t∈h0,u.n<=t.n:=λt ht=>by
  have lE:(fl.take j).Pairwise (·>=·):=hs.sublist (RV _ _);rw[<- hm,P_]at lE;exact(QE.mp lE).2.2 _ (Ql ht) _ (by simp)
 rw[List.getLast?_append];simp only[List.getLast?_singleton,Option.some_or,hz,decide_false,Bool.false_or,Bool.or_eq_true,Bool.not_eq_true',RT,y_];rw[<- hu.1,<- hsn];constructor
 .rintro⟨h1,h2⟩ t ht;refine⟨λe=>?_,h2 t ht⟩;rcases h1 with h1 | h1
  .have b1:=Pj u (by simp);rcases Qz.mp ht with ht | ht
   .have:=Pk t ht;lia
   .cases C_.mp ht;lia
  .rcases Qz.mp ht with ht | ht
   .have b1:=Pj u (by simp);have b2:=Pk t ht;exact xJ (((QE.mp hp).2.2 t ht u (by simp)).1 (by lia)) h1
   .cases C_.mp ht;exact h1
 .intro hf;refine⟨?_,λt ht=>(hf t ht).2⟩
  by_cases e:u.n=s.n
  .exact .inr ((hf u (by simp)).1 e.symm)
  .exact .inl e
theorem jx(R C:Nat)(ru:Str){fl:Tf}(hs:fl.Pairwise (·>=·)):∀(j:Nat),j<=fl.length->∀h,h∈bg R C ru fl j↔h.map Sh.n=fl.take j/\(∀s∈h,s∈bR R C s.n)/\h.Pairwise (rh ru)
 | 0,_,h=>by
  show h∈[[]]↔_;rw[C_,List.take_zero,List.map_eq_nil_iff];constructor
  .rintro rfl;exact⟨rfl,λs h=>(by cases h),.nil⟩
  .exact λh=>h.1
 | j+1,hj,x=>by
  have ih:=jx R C ru hs j (by lia);show x∈gC R C ru fl j (bg R C ru fl j)↔_;rw[jZ,oy (by lia)];constructor
  .rintro⟨h,hh,s,h1,h2,rfl⟩;obtain⟨g1,g2,g3⟩:=(ih h).mp hh;have hn:=ir h1;refine⟨by rw[P_,g1,<- hn];rfl,λt ht=>?_,QE.mpr ⟨g3,Re _ _,λt ht u hu=>?_⟩⟩
   .rcases Qz.mp ht with ht | ht
    .exact g2 t ht
    .cases C_.mp ht;rw[hn];exact h1
   .cases C_.mp hu;exact(we hs (by lia) g1 g3 hn).mp h2 t ht
  .rintro⟨g1,g2,g3⟩;obtain⟨h,s,rfl⟩:∃h s,x=h++[s]:=by
    have hne:x≠[]:=λe=>by rw[e]at g1;simp at g1
    exact⟨x.dropLast,x.getLast hne,(Rj hne).symm⟩
   rw[P_]at g1;obtain⟨q1,q2⟩:=SO g1 rfl;have hn:s.n=fl.getD j 0:=by simpa using q2
   obtain⟨p1,p2,p3⟩:=QE.mp g3;refine⟨h,(ih h).mpr ⟨q1,λt ht=>g2 t (by simp[ht]),p1⟩,s,hn▸g2 s (by simp),(we hs (by lia) q1 p1 hn).mpr λt ht=>p3 t ht s (by simp),rfl⟩
theorem lT(R C:Nat)(ru:Str)(fl:Tf):∀j,(bg R C ru fl j).Nodup
 | 0=>by unfold bg;simp
 | j+1=>by
  have ih:=lT R C ru fl j;show(gC R C ru fl j (bg R C ru fl j)).Nodup;unfold gC List.Nodup;refine QL.mpr ⟨λh _=>QU.mpr (((pQ R C (fl.getD j 0)).filter _).imp λ{s t} hb e=>?_),ih.imp λ{a b} Ii x hx y hy e=>?_⟩
  .have:=List.append_inj_right e rfl;cases this;exact iq hb hb
  .obtain⟨s,_,rfl⟩:=v_.mp hx;obtain⟨t,_,rfl⟩:=v_.mp hy;exact Ii (SO e rfl).1
structure PL(R C:Nat)(fl:List Nat)(ru:Str):Prop where
 r0:0<R
 r4:R<=4
 c0:0<C
 c5:C<=5
 l0:0<fl.length
 l3:fl.length<=3
 sz:∀n∈fl,1<=n/\n<=4
 up:fl.Pairwise (·>=·)
 ru:cB ru
theorem Jc{r:Tg}(h:r.length=7):∃a b c d e f g,r=[a,b,c,d,e,f,g]:=by
 match r,h with
 | [a,b,c,d,e,f,g],_=>exact⟨a,b,c,d,e,f,g,rfl⟩
theorem wX:∀(ns:Tg),(∀x∈ns,1<=x/\x<=4)->ns.Pairwise (·>=·)->∃fl:Tf,ns.map D.int=fl.map (λ(n:Nat)=>D.int n)/\fl.length=ns.length/\(∀n∈fl,1<=n/\n<=4)/\(∀n∈fl,(n:Int)∈ns)/\fl.Pairwise (·>=·)
 | [],_,_=>⟨[],rfl,rfl,λ_ h=>(by cases h),λ_ h=>(by cases h),.nil⟩
 | x::ns,h,hp=>by
  obtain⟨p1,p2⟩:=O_.mp hp;obtain⟨fl,h1,h2,h3,h6,h7⟩:=wX ns (λy hy=>h y (e_ _ hy)) p2;obtain⟨h4,h5⟩:=h x f_;obtain⟨n,rfl⟩:=QS (show 0<=x by lia);refine⟨n::fl,by simp[h1],by simp[h2],λm hm=>?_,λm hm=>?_,O_.mpr ⟨λm hm=>?_,h7⟩⟩
  .rcases p_.mp hm with rfl | hm
   .lia
   .exact h3 m hm
  .rcases p_.mp hm with rfl | hm
   .exact f_
   .exact e_ _ (h6 m hm)
  .have:=p1 _ (h6 m hm);lia
theorem y6{env:En}(ns:Tg)(hg:da env 9=some (.tup (ns.map .int)))(h:∀x∈ns,1<=x/\x<=4)(hl:ns.length<=3):∃fl:Tf,bC kh (bC AU (bC sortI fA)) env=some (ju fl)/\fl.length=ns.length/\(∀n∈fl,1<=n/\n<=4)/\fl.Pairwise (·>=·):=by
 obtain⟨fl,h1,h2,h3,_,h5⟩:=wX (jS ns).reverse (λx hx=>h x ((ip ns).mem_iff.mp (List.mem_reverse.mp hx))) (List.pairwise_reverse.mpr (pV ns));refine⟨fl,?_,by rw[h2,List.length_reverse,rP],h3,h5⟩;have e1:bC sortI fA env=some (.lst ((jS ns).map .int)):=by
  rw[o4 hg];show(i9 (ns.map .int)).bind _=_;rw[kl];show(if ns.length<64 then _ else _)=_;rw[g_ (by lia)]
 have e2:bC AU (bC sortI fA) env=some (.lst ((jS ns).map .int).reverse):=by rw[o4 e1];rfl
 rw[AI e2,<- List.map_reverse,h1];rfl
theorem M0{x:Int}(h:0<=x/\x<4):x=0\/x=1\/x=2\/x=3:=by lia
theorem M5{x:Int}(h:0<=x/\x<3):x=0\/x=1\/x=2:=by lia
theorem Cs(c:Int):∃(R C:Nat)(fl:Tf)(ru:Str),m__law_game [.int c]=some (.tup [.tup [.int R,.int C],ju fl,.str ru])/\PL R C fl ru:=by
 obtain⟨r,h1,h2,h3⟩:=sj c [4,4,4,4,4,4,3] @1 @1;obtain⟨w,ro,co,f,s,t,ru,rfl⟩:=Jc h2;have hw:=h3 0 w 4 rfl rfl;have hro:=h3 1 ro 4 rfl rfl;have hco:=h3 2 co 4 rfl rfl;have hf:=h3 3 f 4 rfl rfl;have hs:=h3 4 s 4 rfl rfl;have ht:=h3 5 t 4 rfl rfl;have hru:=h3 6 ru 3 rfl rfl;clear h2 h3;have rule:∃u:Str,cB u/\L2.atI [D.str Ip,.str Il,.str LL] ru=some (.str u):=by
  rcases M5 hru with rfl | rfl | rfl
  .exact⟨_,.inl rfl,rfl⟩
  .exact⟨_,.inr (.inl rfl),rfl⟩
  .exact⟨_,.inr (.inr rfl),rfl⟩
 obtain⟨u,hu1,hu2⟩:=rule;have fin:∀(R C:Int)(ns:Tg),0<R->R<=4->0<C->C<=5->(∀x∈ns,1<=x/\x<=4)->0<ns.length->ns.length<=3->∃(R' C':Nat)(fl:Tf),
   aF (setF 9 (bC kh (bC AU (bC sortI fA)))) (bw (bt (ae dJ (ae fA (ae (au aM (bP (ae (fC (.str "free")) (ae (fC (.str "sides")) (ae (fC (.str "corners")) fNil)))) df) fNil))))) [.F (.int c),.F (.int w),.F (.int ro),.F (.int co),.F (.int f),.F (.int s),.F (.int t),.F (.int ru),.F (.tup [.int R,.int C]),.F (.tup (ns.map .int))]
    = some (.rt (.tup [.tup [.int R',.int C'],ju fl,.str u]))/\PL R' C' fl u:=λR C ns g1 g2 g3 g4 g5 g6 g7=>by
  obtain⟨R',rfl⟩:=QS (Int.le_of_lt g1);obtain⟨C',rfl⟩:=QS (Int.le_of_lt g3);obtain⟨fl,k1,k2,k3,k4⟩:=y6 (env:=[.F (.int c),.F (.int w),.F (.int ro),.F (.int co),.F (.int f),.F (.int s),.F (.int t),.F (.int ru),.F (.tup [.int R',.int C']),.F (.tup (ns.map .int))]) ns rfl g5 g7;exact⟨R',C',fl,(ar (aX k1)).trans (bT (mK (ak rfl (ak rfl (ak (ed (i:=ru) rfl rfl hu2) aQ))))),by lia,by lia,by lia,by lia,by lia,by lia,k3,k4,hu1⟩
 have start:Hr [1,2,3,4,5,6,7] (λenv=>((ae ag (ae (bP (ae TZ (ae TZ (ae TZ (ae TZ (ae TZ (ae TZ (ae TY fNil)))))))) fNil)) env).bind m__law_drawn) (bM 10 [.int c])=some (.nx [.F (.int c),.F (.int w),.F (.int ro),.F (.int co),.F (.int f),.F (.int s),.F (.int t),.F (.int ru),.un,.un]):=E4 ((call_v (ak rfl (ak rfl aQ))).trans h1) rfl;rcases M0 hw with rfl | rfl | rfl | rfl
 .obtain⟨R',C',fl,k1,k2⟩:=fin (1+ro) (1+co) [1+f] (by lia) (by lia) (by lia) (by lia) (by intro x hx;cases C_.mp hx;lia) (by simp) (by simp);exact⟨R',C',fl,u,aW ((ar start).trans ((ar (aX rfl)).trans ((ar ((bE rfl).trans rfl)).trans ((ar (aX rfl)).trans ((ar ((bE rfl).trans rfl)).trans k1))))),k2⟩
 .obtain⟨R',C',fl,k1,k2⟩:=fin (2+ro%3) (2+co%3) [1+f%3,1+s%3] (by lia) (by lia) (by lia) (by lia) (by intro x hx;simp only[p_,Qd,Rx]at hx;lia) (by simp) (by simp);exact⟨R',C',fl,u,aW ((ar start).trans ((ar (aX rfl)).trans ((ar ((bE rfl).trans rfl)).trans ((ar (aX rfl)).trans ((ar ((bE rfl).trans rfl)).trans k1))))),k2⟩
 .obtain⟨R',C',fl,k1,k2⟩:=fin (1+ro%3) (3+co%2) [1+f%3,1+s%2,1+t%2] (by lia) (by lia) (by lia) (by lia) (by intro x hx;simp only[p_,Qd,Rx]at hx;lia) (by simp) (by simp);exact⟨R',C',fl,u,aW ((ar start).trans ((ar (aX rfl)).trans ((ar ((bE rfl).trans rfl)).trans ((ar (aX rfl)).trans ((ar ((bE rfl).trans rfl)).trans k1))))),k2⟩
 .obtain⟨R',C',fl,k1,k2⟩:=fin 2 (2+co) [1+f%3,1+s%3,1+t%2] (by lia) (by lia) (by lia) (by lia) (by intro x hx;simp only[p_,Qd,Rx]at hx;lia) (by simp) (by simp);exact⟨R',C',fl,u,aW ((ar start).trans ((ar (aX rfl)).trans ((ar ((cb rfl).trans (aX rfl))).trans ((ar (aX rfl)).trans ((ar ((cb rfl).trans (aX rfl))).trans k1))))),k2⟩
theorem PL.ten{R C:Nat}{fl:Tf}{ru:Str}(h:PL R C fl ru):∀n∈fl,1<=n/\n<=10:=λn hn=>by have:=h.sz n hn;lia
theorem PL.all{R C:Nat}{fl:Tf}{ru:Str}(h:PL R C fl ru):m__law_all [.tup [.int R,.int C],ju fl,.str ru]=some (.lst ((bg R C ru fl fl.length).map hidD)):=GO R C h.r4 h.c5 ru h.ru fl h.l3 h.ten
theorem PL.len{R C:Nat}{fl:Tf}{ru:Str}(h:PL R C fl ru):(bg R C ru fl fl.length).length<=64000:=w_ (ja R C h.r4 h.c5 ru fl fl.length) (zy h.l3)
theorem PL.one{R C:Nat}{fl:Tf}{ru:Str}(h:PL R C fl ru):PL R C [1] ru:=⟨h.r0,h.r4,h.c0,h.c5,by decide,by decide,by decide,by simp,h.ru⟩
theorem PL.ne{R C:Nat}{fl:Tf}{ru:Str}(h:PL R C fl ru):bg R C ru [1] 1≠[]:=by
 have:[(⟨0,0,false,1⟩:Sh)]∈bg R C ru [1] 1:=(jx R C ru (by simp) 1 @1 _).mpr ⟨rfl,λs hs=>by
  cases C_.mp hs;exact oz.mpr ⟨⟨0,0,rfl,rfl,h.r0,h.c0⟩,rfl,λ_=>(by have:=h.c0;simp only;lia),λz=>by cases z⟩,Re _ _⟩
 intro e;rw[e]at this;cases this
theorem G4(h:List Sh):pl (hidD h)=true:=by unfold hidD pl;exact Bu _ λx hx=>by obtain⟨s,_,rfl⟩:=v_.mp hx;rfl
theorem yR(hs:List (List Sh)):gA (hs.map hidD)=true:=Bu _ λx hx=>by obtain⟨s,_,rfl⟩:=v_.mp hx;exact G4 s
theorem xy(c:Int):∃(R C:Nat)(fl:Tf)(ru:Str),m__law_played [.int c]=some (.tup [.tup [.int R,.int C],ju fl,.str ru,.lst ((bg R C ru fl fl.length).map hidD)])/\PL R C fl ru/\bg R C ru fl fl.length≠[]:=by
 obtain⟨R,C,fl,ru,h1,hp⟩:=Cs c;have a1:=hp.all;have b1:=hp.one.all;obtain⟨rows,hr⟩:∃rows,rows=bg R C ru fl fl.length:=⟨_,rfl⟩;rw[<- hr]at a1;have heq:fB (au eI aT (bP fNil)) [.F (.int c),.F (.tup [.int R,.int C]),.F (ju fl),.F (.str ru),.F (.lst (rows.map hidD))]=some (rows.map hidD).isEmpty:=cG (Cg rfl (yR rows));have start:yH [1,2,3] (λenv=>((ae ag fNil) env).bind m__law_game) (bM 5 [.int c])=some (.nx [.F (.int c),.F (.tup [.int R,.int C]),.F (ju fl),.F (.str ru),.un]):=l9 ((call_v (ak rfl aQ)).trans h1) rfl;cases rows with
 | nil=>
  exact⟨R,C,[1],ru,aW ((ar start).trans ((ar (aX ((call_v (ak rfl (ak rfl (ak rfl aQ)))).trans a1))).trans ((ar ((cb heq).trans ((ar (aX rfl)).trans (aX ((call_v (ak rfl (ak rfl (ak rfl aQ)))).trans b1))))).trans (bT rfl)))),hp.one,hp.ne⟩
 | cons r rows=>
  refine⟨R,C,fl,ru,?_,hp,by rw[<- hr];simp⟩;rw[<- hr];exact aW ((ar start).trans ((ar (aX ((call_v (ak rfl (ak rfl (ak rfl aQ)))).trans a1))).trans ((ar ((bE heq).trans rfl)).trans (bT rfl))))
theorem rG:∀(xs ys:List L2.Key),nF xs ys=(eB ys xs).map (!·)
 | [],[]=>rfl
 | [],_::_=>rfl
 | _::_,[]=>rfl
 | x::xs,y::ys=>by
  unfold nF eB
  by_cases h:x=y
  .rw[g_ h,g_ h.symm];exact rG xs ys
  .rw[j_ h,j_ (Qo h)];cases x<;>cases y<;>simp[Ls,F'];rw[P8];simp
theorem Ki(s t:Sh):JL t.d s.d=some (.bl (!decide (Bef s t))):=by
 obtain⟨q,h1,h2⟩:=qz s t;show(nF t.ks s.ks).bind _=_;rw[rG,h1,show decide (Bef s t)=q by cases q<;>simp_all];rfl
theorem xY(ru:Str)(hr:cB ru)(s t:Sh):m_may_follow [.str ru,s.d,t.d]=some (.bl (decide (rh ru s t))):=by
 have t1:fB (au eI (au aM aK TY) (au aM ai TY)) (bM 3 [.str ru,s.d,t.d])=some ((t.n:Int)==s.n):=rfl;have t2:fB (au JL aK ai) (bM 3 [.str ru,s.d,t.d])=some (!decide (Bef s t)):=cG ((aS rfl rfl).trans (Ki s t));have t3:=pz t1 λ_=>t2;have hk:=Cy ru hr s t;refine aW ?_;cases hb:(((t.n:Int)==s.n)&&!decide (Bef s t))with
 | true=>
  rw[hb]at t3;have:decide (rh ru s t)=false:=by
   rw[F_]at hb;rw[RT];intro hf;have h1:t.n=s.n:=by have:=hb.1;rw[RO]at this;lia
   simpa [hf.1 h1]using hb.2
  rw[this];exact e9 ((cb t3).trans rfl)
 | false=>
  rw[hb]at t3;have:decide (rh ru s t)=ku ru s t:=by
   rw[P8,y_];refine⟨λh=>h.2,λh=>⟨λe=>?_,h⟩⟩;rw[e]at hb;simpa using hb
  rw[this];exact(ar ((bE t3).trans rfl)).trans (bT ((call_v rfl).trans hk))
theorem dH(f g:α->D)(p:α->Bool):∀(xs:List α),(∀x∈xs,∃e1,t (f x) env=some e1/\c e1=some (p x)/\(p x=true->k e1=some [g x]))->ez t c k env (xs.map f)=some ((xs.filter p).map g)
 | [],_=>rfl
 | x::xs,h=>by
  obtain⟨e1,h1,h2,h3⟩:=h x f_;have ih:=dH f g p xs λy hy=>h y (e_ _ hy);show ez _ _ _ _ (f x::xs.map f)=_;unfold ez;rw[h1];show(c e1).bind _=_;rw[h2];cases hp:p x with
  | true=>
   show(if true=true then k e1 else some []).bind _=_;rw[g_ rfl,h3 hp];show(ez t c k env (xs.map f)).bind _=_;rw[ih,PY,g_ hp];rfl
  | false=>
   simp only[QC,P5,QV,ih,Ri,PY,hp]
def qV(cs:List (List Sh)):TM:=cs.map λA=>.lst (A.map Sh.d)
def cW(ru:Str)(s:Sh)(cs:List (List Sh)):List (List Sh):=cs.map λA=>A.filter λt=>decide (rh ru s t)
def bB(ru:Str):Nat->List (List Sh)->List (List Sh)
 | 0,_=>[]
 | _+1,[]=>[]
 | _+1,[A]=>A.map λs=>[s]
 | n+1,A::B::r=>A.flatMap λs=>(bB ru n (cW ru s (B::r))).map λh=>s::h
theorem cT(ru:Str)(s:Sh)(cs:List (List Sh)):(cW ru s cs).length=cs.length:=by unfold cW;simp
theorem qO(h:∀A∈cs,A.length<=M):∀A∈cW ru s cs,A.length<=M:=λA hA=>by
 obtain⟨B,hB,rfl⟩:=v_.mp hA;exact w_ (M_ _ _) (h B hB)
theorem mG(ru:Str)(hM:1<=M):∀(n:Nat)(cs:List (List Sh)),(∀A∈cs,A.length<=M)->(bB ru n cs).length<=M ^ cs.length
 | 0,cs,_=>Rv _
 | n+1,[],_=>Rv _
 | n+1,[A],h=>by
  have:=h A f_;unfold bB;simp only[c_,z_,L_,Qb,Nat.pow_one];exact this
 | n+1,A::B::r,h=>by
  have hA:=h A f_;have:=eO (g:=λs=>(bB ru n (cW ru s (B::r))).map λh=>s::h) (B:=M ^ (B::r).length) A λs _=>by
   rw[c_];have:=mG ru hM n (cW ru s (B::r)) (qO λL hL=>h L (e_ _ hL));rwa [cT]at this
  unfold bB;refine w_ this ?_;rw[z_ (a:=A),SV];exact Nat.mul_le_mul_left _ hA
theorem gO(ru:Str):∀(n:Nat)(cs:List (List Sh))(h:List Sh),h∈bB ru n cs->h.length=cs.length
 | 0,cs,h,hh=>by cases hh
 | n+1,[],h,hh=>by cases hh
 | n+1,[A],h,hh=>by
  obtain⟨s,_,rfl⟩:=v_.mp hh
  rfl
 | n+1,A::B::r,h,hh=>by
  obtain⟨s,_,h2⟩:=Q0.mp hh;obtain⟨g,hg,rfl⟩:=v_.mp h2;have:=gO ru n _ g hg;rw[cT]at this;simp only[z_]at *
  lia
theorem MG(ru:Str)(hr:cB ru)(s:Sh)(A:List Sh)(hA:A.length<=16000000):aO (cS ag) [0] (bu 0) (fB (λenv=>((ae ai (ae aK (ae ag fNil))) env).bind m_may_follow)) (aG ag) 1 [1,2] [.F (.lst (A.map Sh.d)),.F (.str ru),.F s.d]=some (.lst ((A.filter λt=>decide (rh ru s t)).map Sh.d)):=by
 have g1:=dH (t:=bu 0) (c:=fB (λenv=>((ae ai (ae aK (ae ag fNil))) env).bind m_may_follow)) (k:=aG ag) (env:=[.un,.F (.str ru),.F s.d]) Sh.d Sh.d (λt=>decide (rh ru s t)) A λt ht=>⟨[.F t.d,.F (.str ru),.F s.d],rfl,cG ((call_v (ak rfl (ak rfl (ak rfl aQ)))).trans (xY ru hr s t)),λ_=>rfl⟩;exact aZ (br rfl) rfl g1 (by rw[c_];exact w_ (M_ _ _) hA)
theorem DB(ru:Str)(hr:cB ru)(s:Sh)(cs:List (List Sh))(Pl:∀A∈cs,A.length<=16000000)(hl:cs.length<=16000000)(s1 s2 s4 s6:Slot) :
  aO (cS aD) [0] (bu 0) T1 (aG (aO (cS ag) [0] (bu 0) (fB (λenv=>((ae ai (ae aK (ae ag fNil))) env).bind m_may_follow)) (aG ag) 1 [1,2])) 1 [0,5] [.F (.str ru),s1,s2,.F (.lst (qV cs)),s4,.F s.d,s6]=some (.lst (qV (cW ru s cs))):=by
 have g1:=ck (t:=bu 0) (k:=aG (aO (cS ag) [0] (bu 0) (fB (λenv=>((ae ai (ae aK (ae ag fNil))) env).bind m_may_follow)) (aG ag) 1 [1,2])) (env:=[.un,.F (.str ru),.F s.d]) (λA:List Sh=>D.lst (A.map Sh.d)) (λA=>.lst ((A.filter λt=>decide (rh ru s t)).map Sh.d)) cs λA hA=>⟨[.F (.lst (A.map Sh.d)),.F (.str ru),.F s.d],rfl,dm (MG ru hr s A (Pl A hA))⟩;have e:(qV (cW ru s cs))=cs.map λA=>D.lst ((A.filter λt=>decide (rh ru s t)).map Sh.d):=by unfold qV cW;rw[P3];rfl
 rw[e];exact aZ (br rfl) rfl g1 (by rw[c_];exact hl)
theorem EW(h:env[i]?=some (.O (.L ds)))(hf:f env=some (.lst es))(hl:ds.length+es.length<=16000000):qS i f env=some (.nx (env.set i (.O (.L (ds++es))))):=by
 unfold qS;rw[h];show(f env).bind _=_;rw[hf];show(if ds.length+es.length<=16000000 then _ else _)=_;rw[g_ hl]
theorem rD(ru:Str)(hr:cB ru)(hM:1<=M):∀(n:Nat)(cs:List (List Sh)),n<=100->cs≠[]->cs.length<=n->(∀A∈cs,A.length<=M)->M ^ cs.length<=2000000->a0 n [.str ru,.lst (qV cs)]=some (.lst ((bB ru n cs).map hidD))
 | 0,cs,_,hne,hl,_,_=>by cases cs with | nil=>exact absurd rfl hne | cons a b=>simp at hl
 | n+1,[],_,hne,_,_,_=>absurd rfl hne
 | n+1,[A],_,_,_,hA,hb=>by
  have hA1:=hA A f_;simp only[z_,L_,Qb,Nat.pow_one]at hb;have g1:=ck (t:=bu 0) (k:=aG (bt (ae ag fNil))) (env:=[.un]) Sh.d (λs=>hidD [s]) A λs hs=>⟨[.F s.d],rfl,rfl⟩;have e:(bB ru (n+1) [A]).map hidD=A.map λs=>hidD [s]:=by show(A.map λs=>[s]).map hidD=_;rw[P3];rfl
  rw[e];show bD (cF (a0 n)) 7 _=_;exact aW ((ar (e:=[.F (.str ru),.F (.lst (qV [A])),.F (.lst (A.map Sh.d)),.F (.lst []),.un,.un,.un]) rfl).trans (e9 ((cb rfl).trans (bT (aZ (br rfl) rfl g1 (by rw[c_];lia))))))
 | n+1,A::B::r,hn,_,hl,hA,hb=>by
  have hA1:=hA A f_;have hpow:M ^ (A::B::r).length=M ^ (B::r).length*M:=by rw[z_ (a:=A),SV]
  have L6:M ^ (B::r).length<=2000000:=w_ (w_ (Nat.le_mul_of_pos_right _ hM) (Nat.le_of_eq hpow.symm)) hb;have hM2:M<=2000000:=w_ (by rw[z_,SV];exact Nat.le_mul_of_pos_left _ (Nat.pow_pos hM)) L6;have LS:(B::r).length<=n:=by simpa using hl
  have NX:(B::r).length<=16000000:=by lia
  have loop:=ia (t:=bu 5) (body:=eD (a0 n)) Sh.d (λacc e=>∃(s5 s6:Slot),e=[.F (.str ru),.F (.lst (qV (A::B::r))),.F (.lst (A.map Sh.d)),.F (.lst (qV (B::r))),.O (.L acc),s5,s6]) (λs=>((bB ru n (cW ru s (B::r))).map λh=>s::h).map hidD) (M ^ (B::r).length) 4000000 A [] [.F (.str ru),.F (.lst (qV (A::B::r))),.F (.lst (A.map Sh.d)),.F (.lst (qV (B::r))),.O (.L []),.un,.un] ⟨_,_,rfl⟩ (by
    have:=Nat.mul_le_mul_left (M ^ (B::r).length) hA1;rw[L_];lia) λs hs=>by
   have l1:=mG ru hM n (cW ru s (B::r)) (qO λL hL=>hA L (e_ _ hL));rw[cT]at l1;refine⟨by rw[c_,c_];exact l1,λacc e ⟨s5,s6,he⟩ hacc=>?_⟩;subst he;have c1:=DB ru hr s (B::r) (λL hL=>by have:=hA L (e_ _ hL);lia) NX (.F (.lst (qV (A::B::r)))) (.F (.lst (A.map Sh.d))) (.O (.L acc)) s6;have ih:=rD ru hr hM n (cW ru s (B::r)) (by lia) (λz=>by have:=QO List.length z;rw[cT]at this;simp at this) (by rw[cT];exact LS) (qO λL hL=>hA L (e_ _ hL)) (by rw[cT];exact L6);have g1:=ck (t:=bu 0) (k:=aG (au xV (bt (ae ai fNil)) ag)) (env:=[.un,.F s.d]) hidD (λh=>hidD (s::h)) (bB ru n (cW ru s (B::r))) λh hh=>⟨[.F (hidD h),.F s.d],rfl,dm (Af (xs:=[s.d]) (ys:=h.map Sh.d) rfl rfl (by
    rw[c_];have:=gO ru n (cW ru s (B::r)) h hh;rw[cT]at this;simp only[z_,L_]at *
    lia))⟩
   have em:((bB ru n (cW ru s (B::r))).map λh=>s::h).map hidD=(bB ru n (cW ru s (B::r))).map λh=>hidD (s::h):=by rw[P3];rfl
   rw[em];refine⟨_,fD (e0:=[.F (.str ru),.F (.lst (qV (A::B::r))),.F (.lst (A.map Sh.d)),.F (.lst (qV (B::r))),.O (.L acc),.F s.d,s6]) rfl ((ar (aX c1)).trans (EW (ds:=acc) rfl (aZ (br ((call_v (ak rfl (ak rfl aQ))).trans ih)) rfl g1 (by rw[c_];lia)) (by rw[c_];lia))),_,_,rfl⟩
  obtain⟨e2,h1,s5,s6,rfl⟩:=loop;have e:(bB ru (n+1) (A::B::r)).map hidD=A.flatMap λs=>((bB ru n (cW ru s (B::r))).map λh=>s::h).map hidD:=by
   show(A.flatMap λs=>(bB ru n (cW ru s (B::r))).map λh=>s::h).map hidD=_;rw[Rc]
  rw[e];show bD (cF (a0 n)) 7 _=_;exact aW ((ar (e:=[.F (.str ru),.F (.lst (qV (A::B::r))),.F (.lst (A.map Sh.d)),.F (.lst (qV (B::r))),.un,.un,.un]) rfl).trans ((ar ((bE rfl).trans rfl)).trans ((ar (eT rfl)).trans ((ar ((bY (br rfl)).trans h1)).trans rfl))))
abbrev Pt:=Int×Int
def yX(R C:Nat):List Pt:=(List.range R).flatMap λi=>(List.range C).map λj=>(((i:Nat):Int),((j:Nat):Int))
theorem Au:∀R:Fin 5,∀C:Fin 6,(yX R C).Nodup/\(yX R C).length<=20:=by decide
theorem wC(h:f env=some (.lst ds)):EU f env=some (jn 0 ds):=by unfold EU;rw[h];rfl
theorem Jv(h:f env=some (.lst es))(h1:env[i]?=some (.O (.L ds)))(hl:ds.length+es.length<=16000000):qS i f env=some (.nx (env.set i (.O (.L (ds++es))))):=EW h1 h hl
theorem zP(R C:Nat)(hR:R<=4)(hC:C<=5):m__law_sheet_cells [.tup [.int R,.int C]]=some (.lst ((yX R C).map cel)):=by
 have NU:([]:TM).length+C*(aI 0 R).length<=8000:=by
  have h1:=QQ hC hR;rw[dW,L_,Qb];exact w_ h1 @1
 obtain⟨e2,h1,s2,h2⟩:=gZ (t:=bu 2) (body:=dD) (λacc e=>∃s2,e=[.F (.tup [.int R,.int C]),.O (.L acc),s2]) (λd=>(aI 0 C).map λy=>.tup [d,y]) C 8000 (aI 0 R) [] _ ⟨.un,rfl⟩ NU λd hd=>⟨by rw[c_,dW];exact m_ _,λacc e ⟨s2,he⟩ hl=>by
  subst he;refine⟨_,fD (e0:=[.F (.tup [.int R,.int C]),.O (.L acc),.F d]) rfl (Jv (es:=(aI 0 C).map λy=>.tup [d,y]) (aZ (cZ (n:=C) rfl (by lia)) rfl (eF (λy=>.tup [d,y]) _ λy hy=>⟨_,rfl,rfl⟩) (by rw[c_,dW];lia)) rfl (by rw[c_,dW];lia)),⟨_,rfl⟩⟩⟩
 subst h2;have he:((aI 0 R).flatMap λd=>(aI 0 C).map λy=>.tup [d,y])=(yX R C).map cel:=by
  unfold aI yX cel;simp[R_,Rc,P3,SH]
 rw[Ri,he]at h1;exact aW ((ar (eT rfl)).trans ((ar ((bY (cZ (n:=R) rfl (by lia))).trans h1)).trans rfl))
theorem ug(xs:List α)(k:Nat)(y:α):(insAt xs k y).Perm (y::xs):=by
 unfold insAt;have:=List.perm_middle (a:=y) (l₁:=xs.take k) (l₂:=xs.drop k);rwa [R6]at this
theorem JI(h1:env[i]?=some (.O (.L ds)))(hk:fk env=some (.int j))(h:f env=some d)(h0:0<=j)(hj:j<=ds.length)(hl:ds.length<16000000):AF i fk f env=some (.nx (env.set i (.O (.L (insAt ds j.toNat d))))):=by
 unfold AF;rw[h1];show(fk env).bind _=_;rw[hk];show(f env).bind _=_;rw[h];show(if 0<=j/\j<=ds.length/\ds.length<16000000 then _ else _)=_;rw[g_ ⟨h0,hj,hl⟩]
theorem sT(c:Int)(ps:List Pt)(OQ:ps.length<=300):∃qs:List Pt,m__law_order [.int c,.lst (ps.map cel)]=some (.lst (qs.map cel))/\qs.Perm ps:=by
 obtain⟨e2,h1,qs,s3,s4,rfl,h3⟩:=eM (t:=kE [3,4]) (body:=gT) (λj e=>∃(qs:List Pt)(s3 s4:Slot),e=[.F (.int c),.F (.lst (ps.map cel)),.O (.L (qs.map cel)),s3,s4]/\qs.Perm (ps.take j)) (jn 0 (ps.map cel)) 0 _ ⟨[],.un,.un,rfl,.nil⟩ λi d e hd aA=>by
  obtain⟨qs,s3,s4,he,h3⟩:=aA;subst he;have hi:=(h_.mp hd).1;rw[fJ,c_]at hi;have hx:(ps.map cel)[i]?=some (cel ps[i]):=by rw[u_,i_ hi];rfl
  rw[jg hx]at hd;cases hd;simp only[Qb]at h3 ⊢;have hql:qs.length=i:=by rw[h3.length_eq,QY];lia
  obtain⟨z,hz⟩:=pP c (3*(i:Int)+1) (by lia) (by lia);have m3:au addI (au mulI TY aD) TU [.F (.int c),.F (.lst (ps.map cel)),.O (.L (qs.map cel)),.F (.int i),.F (cel ps[i])]=some (.int (3*(i:Int)+1)):=(aS ((aS rfl rfl).trans (l8 @1 @1 (by lia) (by lia))) rfl).trans (gy _ _);have hp:(0:Int)<(i:Int)+1:=by lia
  have hk:au modI (λenv=>((ae ag (ae (au addI (au mulI TY aD) TU) fNil)) env).bind m__law_stir) (au addI aD TU) [.F (.int c),.F (.lst (ps.map cel)),.O (.L (qs.map cel)),.F (.int i),.F (cel ps[i])]=some (.int (z%((i:Int)+1))):=(aS ((call_v (ak rfl (ak m3 aQ))).trans hz) rfl).trans (hU hp);have b1:=Q6 z (Int.ne_of_gt hp);have b2:=QN z hp;refine⟨_,fD (e0:=[.F (.int c),.F (.lst (ps.map cel)),.O (.L (qs.map cel)),.F (.int i),.F (cel ps[i])]) rfl (JI rfl hk rfl b1 (by rw[c_];lia) (by rw[c_];lia)),insAt qs (z%((i:Int)+1)).toNat ps[i],.F (.int i),.F (cel ps[i]),?_,?_⟩
  .unfold insAt;simp[SL,List.map_drop]
  .refine(ug _ _ _).trans ((h3.cons _).trans ?_);rw[Su,i_ hi];exact(List.perm_append_comm (l₁:=[ps[i]]) (l₂:=ps.take i))
 rw[Qb,fJ,c_,Qu]at h3;exact⟨qs,aW ((ar (eT rfl)).trans ((ar ((bY (wC rfl)).trans h1)).trans rfl)),h3⟩
theorem zt(f:α->D)(g:β->D)(P:α->β->Prop):∀(xs:List α),(∀x∈xs,∃e1 y,t (f x) env=some e1/\k e1=some [g y]/\P x y)->∃ys:List β,ez t T1 k env (xs.map f)=some (ys.map g)/\ys.length=xs.length/\∀(i:Nat) x y,xs[i]?=some x->ys[i]?=some y->P x y
 | [],_=>⟨[],rfl,rfl,λi x y h=>by simp at h⟩
 | x::xs,h=>by
  obtain⟨e1,y,h1,h3,h4⟩:=h x f_;obtain⟨ys,i1,i2,i3⟩:=zt f g P xs λy hy=>h y (e_ _ hy);refine⟨y::ys,?_,by simp[i2],λi a b ha hb=>?_⟩
  .show ez _ _ _ _ (f x::xs.map f)=_;unfold ez;rw[h1];show(if true=true then k e1 else some []).bind _=_;rw[g_ rfl,h3];show(ez t T1 k env (xs.map f)).bind _=_;rw[i1];rfl
  .cases i with
   | zero=>cases ha;cases hb;exact h4
   | succ i=>exact i3 i a b (by simpa using ha) (by simpa using hb)
theorem gg:∀(xs:List α),(∀x∈xs,pl (f x)=true)->gA (xs.map f)=true
 | [],_=>rfl
 | x::xs,h=>by
  show gA (f x::xs.map f)=true;unfold gA;rw[h x f_,gg xs λy hy=>h y (e_ _ hy)];rfl
theorem AQ(p:Ti):pl (cel p)=true:=rfl
abbrev ua:Str:="water"
abbrev IV:Str:="hit"
abbrev JR:Str:="sunk"
def eG:List Sh->List Pt->Pt->Str
 | [],_,_=>ua
 | s::h,sh,p=>if p∈s.cs then(if ∀q∈s.cs,q∈sh then JR else IV)else eG h sh p
def walk(h:List Sh):List Pt->List Pt->Tb
 | _,[]=>[]
 | pre,p::r=>eG h (pre++[p]) p::walk h (pre++[p]) r
theorem zN(q p:Pt):fS (cel q) (cel p)=decide (q=p):=by
 obtain⟨a,b⟩:=q;obtain⟨c,d⟩:=p;unfold cel;simp only[fS,jF,Prod.mk.injEq,SJ];rw[P8];simp
theorem vo(p:Pt)(cs:List Pt):inD (cel p) (cs.map cel)=decide (p∈cs):=by
 unfold inD;rw[List.any_map,P8,SQ,y_];constructor
 .rintro⟨q,hq,he⟩;rw[Ra,zN,y_]at he;exact he▸hq
 .intro h;exact⟨p,h,by rw[Ra,zN,y_]⟩
theorem DR(p:Pt):dh (cel p)<=60:=w_ (ji (n:=0) λd hd=>by
 rcases p_.mp hd with rfl | hd
 .rw[du];exact m_ _
 .cases C_.mp hd;rw[du];exact m_ _) @1
theorem wR(cs:List Pt):gA (cs.map cel)=true:=gg cs λp _=>AQ p
theorem sQ{f g:Fe}{env:En}{p:Pt}{cs:List Pt}(h1:f env=some (cel p))(h2:g env=some (.lst (cs.map cel))):au (mx false) f g env=some (.bl (decide (p∈cs))):=Md h1 h2 (DR p) (vo p cs) (by rw[AQ,wR];rfl)
theorem GK(bd:D)(p:Pt)(sh:List Pt)(s:Sh)(hn:s.n<=1000):(p∈s.cs->cD [.F bd,.F (cel p),.F (.lst (sh.map cel)),.F (.lst (s.cs.map cel))]=some (.rt (.str (if ∀q∈s.cs,q∈sh then JR else IV))))/\(p∉s.cs->cD [.F bd,.F (cel p),.F (.lst (sh.map cel)),.F (.lst (s.cs.map cel))]=some (.nx [.F bd,.F (cel p),.F (.lst (sh.map cel)),.F (.lst (s.cs.map cel))])):=by
 have ht:fB (au (mx false) ai aD) [.F bd,.F (cel p),.F (.lst (sh.map cel)),.F (.lst (s.cs.map cel))]=some (decide (p∈s.cs)):=cG (sQ rfl rfl);refine⟨λhp=>?_,λhp=>(bE (ht.trans (by rw[B_ hp]))).trans rfl⟩;refine(cb (ht.trans (by rw[t_ hp]))).trans (bT ?_);have hc:aO (cS aD) [0] (bu 0) T1 (aG (au (mx false) ag ai)) 1 [2] [.F bd,.F (cel p),.F (.lst (sh.map cel)),.F (.lst (s.cs.map cel))]=some (.lst ((s.cs.map λq=>decide (q∈sh)).map .bl)):=by
  refine aZ (br rfl) rfl ?_ (by rw[c_,c_];unfold Sh.cs;simp;lia);have he:(s.cs.map λq=>decide (q∈sh)).map D.bl=(s.cs.map cel).map λd=>.bl (inD d (sh.map cel)):=by
   rw[P3,P3];exact Sj λq _=>by rw[Ra,Ra,vo]
  rw[he];refine eF _ _ λd hd=>?_;obtain⟨q,hq,rfl⟩:=v_.mp hd;exact⟨_,rfl,dm (by rw[vo];exact sQ rfl rfl)⟩
 have hb:(s.cs.map λq=>decide (q∈sh)).all id=decide (∀q∈s.cs,q∈sh):=by
  rw[SU,P8,Qi,y_];simp
 refine JQ (cG ((JP hc).trans (by rw[hb]))) (λh=>?_) (λh=>?_)
 .rw[g_ (QI h)];rfl
 .rw[j_ (of_decide_eq_false h)];rfl
theorem Ci(h:(t d env).bind body=some (.nx e1)):cu t body (d::ds) env=cu t body ds e1:=by
 obtain⟨e0,h5,h6⟩:=a_.mp h;show(t d env).bind (λe1=>(body e1).bind _)=_;rw[h5];show(body e0).bind _=_;rw[h6]
 rfl
theorem Ei(h:(t d env).bind body=some (.rt x)):cu t body (d::ds) env=some (.rt x):=by
 obtain⟨e0,h5,h6⟩:=a_.mp h;show(t d env).bind (λe1=>(body e1).bind _)=_;rw[h5];show(body e0).bind _=_;rw[h6]
 rfl
theorem mM(bd:D)(p:Pt)(sh:List Pt):∀(h:List Sh)(s3:Slot),(∀s∈h,s.n<=1000)->(∃Ih,cu (bu 3) cD (h.map λs=>.lst (s.cs.map cel)) [.F bd,.F (cel p),.F (.lst (sh.map cel)),s3]=some (.nx [.F bd,.F (cel p),.F (.lst (sh.map cel)),Ih])/\eG h sh p=ua)\/cu (bu 3) cD (h.map λs=>.lst (s.cs.map cel)) [.F bd,.F (cel p),.F (.lst (sh.map cel)),s3]=some (.rt (.str (eG h sh p)))
 | [],s3,_=>.inl ⟨s3,rfl,rfl⟩
 | s::h,s3,hn=>by
  obtain⟨a1,a2⟩:=GK bd p sh s (hn s f_)
  by_cases hp:p∈s.cs
  .right;unfold eG;rw[g_ hp];exact Ei (fD (e0:=[.F bd,.F (cel p),.F (.lst (sh.map cel)),.F (.lst (s.cs.map cel))]) rfl (a1 hp))
  .unfold eG;rw[j_ hp,N_,Ci (fD (e0:=[.F bd,.F (cel p),.F (.lst (sh.map cel)),.F (.lst (s.cs.map cel))]) rfl (a2 hp))];exact mM bd p sh h _ λt ht=>hn t (e_ _ ht)
theorem y'(h:List Sh)(hn:∀s∈h,s.n<=1000)(p:Pt)(sh:List Pt):m_answer_to [.lst (h.map λs=>.lst (s.cs.map cel)),cel p,.lst (sh.map cel)]=some (.str (eG h sh p)):=by
 rcases mM (.lst (h.map λs=>.lst (s.cs.map cel))) p sh h .un hn with ⟨Ih,h1,h2⟩ | h1
 .rw[h2];exact aW ((ar ((bY (br rfl)).trans h1)).trans rfl)
 .exact aW (e9 ((bY (br rfl)).trans h1))
theorem Cr(h1:t d env=some e1)(h3:k e1=some [x])(ih:ez t T1 k env ds=some ys):ez t T1 k env (d::ds)=some (x::ys):=by
 unfold ez;rw[h1];show(if true=true then k e1 else some []).bind _=_;rw[g_ rfl,h3];show(ez t T1 k env ds).bind _=_;rw[ih];rfl
theorem wJ(h:List Sh)(hn:∀s∈h,s.n<=1000)(cs:List Pt):∀(rest pre:List Pt),cs=pre++rest->
  ez (kE [0,1]) T1 (aG (λenv=>((ae aK (ae ai (ae (CI gW aD oNone (jc (au addI ag TU))) fNil))) env).bind m_answer_to)) [.un,.un,.F (.lst (h.map λs=>.lst (s.cs.map cel))),.F (.lst (cs.map cel))] (jn pre.length (rest.map cel))=some ((walk h pre rest).map .str)
 | [],pre,_=>rfl
 | p::rest,pre,hc=>by
  have ih:=wJ h hn cs rest (pre++[p]) (by rw[hc];simp);have L8:CI gW aD oNone (jc (au addI ag TU)) [.F (.int pre.length),.F (cel p),.F (.lst (h.map λs=>.lst (s.cs.map cel))),.F (.lst (cs.map cel))]=some (.lst ((pre++[p]).map cel)):=by
   show some (D.lst (cutD (cs.map cel) none (some ((pre.length:Int)+1))))=_;rw[show(pre.length:Int)+1=((pre.length+1:Nat):Int) by lia,pj,<- SL,hc,show pre++p::rest=(pre++[p])++rest by simp,show pre.length+1=(pre++[p]).length by simp,List.take_left']
   rfl
  rw[E_,List.length_singleton]at ih;show ez _ _ _ _ (.tup [.int (pre.length:Int),cel p]::jn (pre.length+1) (rest.map cel))=some (.str (eG h (pre++[p]) p)::(walk h (pre++[p]) rest).map .str);exact Cr (e1:=[.F (.int pre.length),.F (cel p),.F (.lst (h.map λs=>.lst (s.cs.map cel))),.F (.lst (cs.map cel))]) rfl (dm ((call_v (ak rfl (ak rfl (ak L8 aQ)))).trans (y' h hn p (pre++[p])))) ih
theorem hG(h:List Sh):∀(rest pre:List Pt),(walk h pre rest).length=rest.length
 | [],_=>rfl
 | p::rest,pre=>by show(walk h (pre++[p]) rest).length+1=_;rw[hG h rest];rfl
theorem lJ(h:List Sh)(hn:∀s∈h,s.n<=1000)(hm:∀s:Sh,s.n<=1000->m [s.d]=some (.lst (s.cs.map cel))):ez (bu 0) T1 (aG (λenv=>((ae ag fNil) env).bind m)) [.un] (h.map Sh.d)=some (h.map λs=>.lst (s.cs.map cel)):=by
 obtain⟨ys,c1,c2,c3⟩:=zt (t:=bu 0) (k:=aG (λenv=>((ae ag fNil) env).bind m)) (env:=[.un]) Sh.d (λx:TM=>D.lst x) (λs x=>x=s.cs.map cel) h λs hs=>⟨_,s.cs.map cel,rfl,dm ((call_v (ak rfl aQ)).trans (hm s (hn s hs))),rfl⟩;rw[c1];congr 1;apply Rq;intro i;rw[u_,u_];cases hx:h[i]? with
 | none=>
  rw[List.getElem?_eq_none_iff]at hx;rw[A_ (by lia)];rfl
 | some s=>
  have hi:=(h_.mp hx).1;obtain⟨y,hy⟩:∃y,ys[i]?=some y:=⟨_,i_ (by lia)⟩;rw[hy,c3 i s y hx hy];rfl
theorem mW(h:List Sh)(hn:∀s∈h,s.n<=1000)(hl:h.length<=1000)(cs:List Pt)(hc:cs.length<=1000):m_answers_of [hidD h,.lst (cs.map cel)]=some (.lst ((walk h [] cs).map .str)):=by
 have g1:=lJ h hn (m:=m_cells_of) iZ;have g2:=wJ h hn cs cs [] rfl;exact aW ((ar (aX (aZ (tz rfl) rfl g1 (by rw[c_];lia)))).trans (bT (aZ (wC rfl) rfl g2 (by rw[c_,hG];lia))))
theorem rX(s:Sh):s.cs.Nodup:=by
 unfold Sh.cs;refine QU.mpr (List.Pairwise.imp (λ{i j} (h:i≠j) e=>?_) List.nodup_range);unfold Sh.at at e
 split at e
 .have:=(Prod.mk.inj e).1;lia
 .have:=(Prod.mk.inj e).2;lia
def fO(cs pre:List Pt):Nat:=(cs.filter λq=>decide (q∉pre)).length
theorem qI(p:Pt)(pre:List Pt):∀cs:List Pt,p∉cs->fO cs (pre++[p])=fO cs pre
 | [],_=>rfl
 | q::cs,h=>by
  have ih:=qI p pre cs λz=>h (e_ _ z);have hq:(q∉pre++[p])↔q∉pre:=by
   have:q≠p:=λe=>h (e▸f_);simp[this]
  unfold fO at ih ⊢;rw[PY,PY]
  by_cases hp:q∈pre
  .rw[j_ (by simp[hp]),j_ (by simpa using hp)];exact ih
  .rw[g_ (by simpa using hq.mpr hp),g_ (by simpa using hp),z_,z_,ih]
theorem Bw(p:Pt)(pre:List Pt)(hp:p∉pre):∀cs:List Pt,cs.Nodup->p∈cs->fO cs pre=fO cs (pre++[p])+1
 | [],_,h=>by cases h
 | q::cs,hn,h=>by
  obtain⟨n1,n2⟩:=RJ.mp hn
  by_cases e:q=p
  .subst e;have:=qI q pre cs n1;unfold fO at this ⊢;rw[PY,PY,g_ (by simpa using hp),j_ (by simp),z_,this]
  .have ih:=Bw p pre hp cs n2 (by rcases p_.mp h with h | h;(· exact absurd h.symm e);exact h);unfold fO at ih ⊢;rw[PY,PY]
   by_cases hq:q∈pre
   .rw[j_ (by simpa using hq),j_ (by simp[hq])];exact ih
   .rw[g_ (by simpa using hq),g_ (by simp[hq,e]),z_,z_,ih]
theorem tJ(cs sh:List Pt):fO cs sh=0↔∀q∈cs,q∈sh:=by
 unfold fO;rw[List.length_eq_zero_iff,List.filter_eq_nil_iff];simp
theorem CF(cs:List Pt):fO cs []=cs.length:=by
 unfold fO;rw[Si.mpr (λ_ _=>by simp)]
def mL(f f':Sh->D):Nat->List Sh->TM
 | _,[]=>[]
 | 0,s::h=>f s::mL f f' 0 h
 | j+1,s::h=>f' s::mL f f' j h
theorem ll:∀(h:List Sh)(j:Nat),(mL f f' j h).length=h.length
 | [],j=>by cases j<;>rfl
 | s::h,0=>by show(mL f f' 0 h).length+1=_;rw[ll h];rfl
 | s::h,j+1=>by show(mL f f' j h).length+1=_;rw[ll h];rfl
theorem ue:∀(h:List Sh)(j:Nat)(s:Sh),h[j]?=some s->(mL f f' j h)[j]?=some (f s)/\(mL f f' j h).set j (f' s)=mL f f' (j+1) h
 | [],j,s,e=>by simp at e
 | t::h,0,s,e=>by cases e;exact⟨rfl,by show f' t::mL f f' 0 h=_;cases h<;>rfl⟩
 | t::h,j+1,s,e=>by
  obtain⟨h1,h2⟩:=ue h j s (by simpa using e);exact⟨by show(f' t::mL f f' j h)[j+1]?=_;simpa using h1,by show f' t::(mL f f' j h).set j (f' s)=_;rw[h2];rfl⟩
theorem tN:∀(h:List Sh),mL f f' 0 h=h.map f
 | []=>rfl
 | s::h=>by show f s::mL f f' 0 h=_;rw[tN h];rfl
theorem vR:∀(h:List Sh),mL f f' h.length h=h.map f'
 | []=>rfl
 | s::h=>by show f' s::mL f f' h.length h=_;rw[vR h];rfl
theorem zZ(hj:h[j]?=some s)(e:f' s=f s):mL f f' (j+1) h=mL f f' j h:=by
 obtain⟨h1,h2⟩:=ue (f:=f) (f':=f') h j s hj;rw[<- h2,e];obtain⟨h3,h4⟩:=h_.mp h1;rw[<- h4,List.set_getElem_self]
theorem wO(sh:List Pt)(p:Pt)(s:Sh)(hp:p∉s.cs):∀l:List Sh,eG (l++[s]) sh p=eG l sh p
 | []=>by show eG [s] sh p=ua;unfold eG;rw[j_ hp];rfl
 | t::l=>by show eG (t::(l++[s])) sh p=_;unfold eG;rw[wO sh p s hp l]
theorem zm(sh:List Pt)(p:Pt)(s:Sh)(hp:p∈s.cs):∀l:List Sh,(∀t∈l,p∉t.cs)->eG (l++[s]) sh p=if ∀q∈s.cs,q∈sh then JR else IV
 | [],_=>by show eG [s] sh p=_;unfold eG;rw[g_ hp]
 | t::l,h=>by show eG (t::(l++[s])) sh p=_;unfold eG;rw[j_ (h t f_),zm sh p s hp l λu hu=>h u (e_ _ hu)]
theorem oG(h:List Sh)(p:Pt):∀(l pre:List Pt),walk h pre (l++[p])=walk h pre l++[eG h (pre++l++[p]) p]
 | [],pre=>by simp[walk]
 | q::l,pre=>by
  show eG h (pre++[q]) q::walk h (pre++[q]) (l++[p])=_;rw[oG h p l (pre++[q])];simp[walk]
abbrev eW(h:List Sh)(cs:List Pt)(left found:TM)(s5 s6 s7:Slot):En:=[.F (hidD h),.F (.lst (cs.map cel)),.O (.L left),.F (.lst (h.map λs=>.lst (s.cs.map cel))),.O (.L found),s5,s6,s7]
theorem walk1(h:List Sh)(pw:h.Pairwise λs t=>∀p∈s.cs,p∉t.cs)(cs pre:List Pt)(p:Pt)(hp:p∉pre)(found:TM)(j:Nat)(s:Sh)(hj:h[j]?=some s) :
  di (eW h cs (mL (λs=>.int (fO s.cs pre:Nat)) (λs=>.int (fO s.cs (pre++[p]):Nat)) j h) found (.F (cel p)) (.F (.str (eG (h.take j) (pre++[p]) p))) (.F (.int j)))
   = some (.nx (eW h cs (mL (λs=>.int (fO s.cs pre:Nat)) (λs=>.int (fO s.cs (pre++[p]):Nat)) (j+1) h) found (.F (cel p)) (.F (.str (eG (h.take (j+1)) (pre++[p]) p))) (.F (.int j)))):=by
 have hjl:=(h_.mp hj).1;have HN:h.take (j+1)=h.take j++[s]:=by rw[Su,hj];rfl
 obtain⟨m1,m2⟩:=ue (f:=λs=>.int (fO s.cs pre:Nat)) (f':=λs=>.int (fO s.cs (pre++[p]):Nat)) h j s hj;have ht:fB (au (mx false) bX (au aM aD df)) (eW h cs (mL (λs=>.int (fO s.cs pre:Nat)) (λs=>.int (fO s.cs (pre++[p]):Nat)) j h) found (.F (cel p)) (.F (.str (eG (h.take j) (pre++[p]) p))) (.F (.int j)))=some (decide (p∈s.cs)):=cG (sQ rfl (ed (i:=(j:Int)) rfl rfl (dv (by rw[u_,hj];rfl))))
 by_cases vE:p∈s.cs
 .have hl:=Bw p pre hp s.cs (rX s) vE;have BV:∀t∈h.take j,p∉t.cs:=λt ht hpt=>by
   have hdec:h=h.take j++s::h.drop (j+1):=by
    have:=R6 (j+1) h;rw[HN]at this;simpa using this.symm
   rw[hdec]at pw;exact(QE.mp pw).2.2 t ht s f_ p hpt vE
  rw[HN,zm (pre++[p]) p s vE (h.take j) BV,<- m2];refine(cb (ht.trans (by rw[t_ vE]))).trans ?_;have h1:au subI (au aM (λenv=>xD env 2) df) TU (eW h cs (mL (λs=>.int (fO s.cs pre:Nat)) (λs=>.int (fO s.cs (pre++[p]):Nat)) j h) found (.F (cel p)) (.F (.str (eG (h.take j) (pre++[p]) p))) (.F (.int j)))=some (.int (fO s.cs (pre++[p]):Nat)):=by
   refine(aS (ed (i:=(j:Int)) rfl rfl (dv m1)) rfl).trans ?_;rw[JT,hl];congr 2
   lia
  refine(ar (vQ h1 rfl rfl (Ag (by lia) (by rw[ll];lia)))).trans ?_;rw[QH];have h2:au aM (λenv=>xD env 2) df (eW h cs ((mL (λs=>.int (fO s.cs pre:Nat)) (λs=>.int (fO s.cs (pre++[p]):Nat)) j h).set j (.int (fO s.cs (pre++[p]):Nat))) found (.F (cel p)) (.F (.str (eG (h.take j) (pre++[p]) p))) (.F (.int j)))=some (.int (fO s.cs (pre++[p]):Nat)):=ed (i:=(j:Int)) rfl rfl (dv (r_ (by rw[ll];exact hjl)));refine aX ?_
  by_cases hz:∀q∈s.cs,q∈pre++[p]
  .rw[g_ hz];have hz0:=(tJ s.cs (pre++[p])).mpr hz;rw[hz0]at h2 ⊢;exact ed (i:=1) rfl ((o4 ((aS h2 rfl).trans (Br _ _))).trans rfl) rfl
  .rw[j_ hz];have hz0:((fO s.cs (pre++[p]):Nat):Int)≠0:=λe=>hz ((tJ s.cs (pre++[p])).mp (by lia));exact ed (i:=0) rfl ((o4 ((aS h2 rfl).trans ((Br _ _).trans (by rw[show(((fO s.cs (pre++[p]):Nat):Int)==0)=false by simpa using hz0])))).trans rfl) rfl
 .rw[HN,wO _ _ _ vE,zZ hj (by rw[qI p pre s.cs vE])];exact(bE (ht.trans (by rw[B_ vE]))).trans rfl
theorem hJ(h:List Sh)(hn:∀s∈h,s.n<=1000)(hl:h.length<=1000)(pw:h.Pairwise λs t=>∀p∈s.cs,p∉t.cs)(cs:List Pt)(hc:cs.length<=1000)(nd:cs.Nodup):m__law_answers [hidD h,.lst (cs.map cel)]=some (.lst ((walk h [] cs).map .str)):=by
 obtain⟨e2,h1,s5,s6,s7,rfl⟩:=eM (t:=bu 5) (body:=dg) (λj e=>∃s5 s6 s7,e=eW h cs (h.map λs=>.int (fO s.cs (cs.take j):Nat)) ((walk h [] (cs.take j)).map .str) s5 s6 s7) (cs.map cel) 0 _ ⟨.un,.un,.un,rfl⟩ λi d e hd aA=>by
  obtain⟨s5,s6,s7,he⟩:=aA;subst he;rw[u_]at hd;obtain⟨p,hp,rfl⟩:=P0.mp hd;have hi:=(h_.mp hp).1;simp only[Qb];have HN:cs.take (i+1)=cs.take i++[p]:=by rw[Su,hp];rfl
  have hnp:p∉cs.take i:=by
   have:(cs.take i++[p]).Nodup:=by rw[<- HN];exact nd.sublist (RV _ _)
   intro hm;exact(QE.mp this).2.2 p hm p (by simp) rfl
  obtain⟨e3,g1,BM,rfl⟩:=eM (t:=bu 7) (body:=di) (λj e=>∃s7,e=eW h cs (mL (λs=>.int (fO s.cs (cs.take i):Nat)) (λs=>.int (fO s.cs (cs.take i++[p]):Nat)) j h) ((walk h [] (cs.take i)).map .str) (.F (cel p)) (.F (.str (eG (h.take j) (cs.take i++[p]) p))) s7) (aI 0 h.length) 0 _ ⟨s7,rfl⟩ λj d e hd aA=>by
   obtain⟨s7,he⟩:=aA;subst he;obtain⟨rfl,hj⟩:=wU hd;simp only[Qb];obtain⟨s,hs⟩:∃s,h[j]?=some s:=⟨_,i_ hj⟩;exact⟨_,walk1 h pw cs (cs.take i) p hnp _ j s hs,_,rfl⟩
  rw[Qb,dW,vR,Qu]at g1;rw[tN,show eG (h.take 0) (cs.take i++[p]) p=ua from rfl]at g1;have hlen:bC cC ag (eW h cs (h.map λs=>.int (fO s.cs (cs.take i):Nat)) ((walk h [] (cs.take i)).map .str) (.F (cel p)) (.F (.str ua)) s7)=some (.int (h.length:Nat)):=(Gv (ds:=h.map Sh.d) rfl).trans (by rw[c_]);have Lh:setF 6 (fC (.str "water")) (eW h cs (h.map λs=>.int (fO s.cs (cs.take i):Nat)) ((walk h [] (cs.take i)).map .str) (.F (cel p)) s6 s7)=some (.nx (eW h cs (h.map λs=>.int (fO s.cs (cs.take i):Nat)) ((walk h [] (cs.take i)).map .str) (.F (cel p)) (.F (.str ua)) s7)):=aX rfl;have happ:g8 4 cN (eW h cs (h.map λs=>.int (fO s.cs (cs.take i++[p]):Nat)) ((walk h [] (cs.take i)).map .str) (.F (cel p)) (.F (.str (eG h (cs.take i++[p]) p))) BM)=some (.nx (eW h cs (h.map λs=>.int (fO s.cs (cs.take i++[p]):Nat)) ((walk h [] (cs.take i)).map .str++[.str (eG h (cs.take i++[p]) p)]) (.F (cel p)) (.F (.str (eG h (cs.take i++[p]) p))) BM)):=jB rfl rfl (by rw[c_,hG,QY];lia);have htg:bu 5 (cel p) (eW h cs (h.map λs=>.int (fO s.cs (cs.take i):Nat)) ((walk h [] (cs.take i)).map .str) s5 s6 s7)=some (eW h cs (h.map λs=>.int (fO s.cs (cs.take i):Nat)) ((walk h [] (cs.take i)).map .str) (.F (cel p)) s6 s7):=rfl;have hbody:=fD (b:=dg) htg ((ar Lh).trans ((ar ((bY (cZ (n:=h.length) hlen (by lia))).trans g1)).trans happ));refine⟨_,hbody,.F (cel p),.F (.str (eG h (cs.take i++[p]) p)),BM,?_⟩;rw[HN,oG,P_]
  rfl
 rw[Qb,c_,Qu]at h1;have g0:=lJ h hn (m:=m__law_cells) je;have gl:ez (bu 0) T1 (aG (bC cC (λenv=>((ae ag fNil) env).bind m__law_cells))) [.un] (h.map Sh.d)=some (h.map λs=>.int (fO s.cs (cs.take 0):Nat)):=by
  have:(h.map λs=>D.int (fO s.cs (cs.take 0):Nat))=(h.map Sh.d).map λd=>match d with | .tup [_,_,_,.int n]=>.int n | _=>.non:=by
   rw[P3];refine Sj λs _=>?_;rw[List.take_zero,CF];show D.int (s.cs.length:Nat)=.int s.n;unfold Sh.cs;simp
  rw[this];refine eF _ _ λd hd=>?_;obtain⟨s,hs,rfl⟩:=v_.mp hd;refine⟨_,rfl,dm ((gN ((call_v (ak rfl aQ)).trans (je s (hn s hs)))).trans ?_)⟩;rw[c_];show some (D.int (s.cs.length:Nat))=some (.int s.n);unfold Sh.cs;simp
 exact aW ((ar (eT (aZ (tz rfl) rfl gl (by rw[c_];lia)))).trans ((ar (aX (aZ (tz rfl) rfl g0 (by rw[c_];lia)))).trans ((ar (eT rfl)).trans ((ar ((bY (br rfl)).trans h1)).trans rfl))))
theorem sU:∀(xs ys:Tb),jF (xs.map .str) (ys.map .str)=decide (xs=ys)
 | [],[]=>rfl
 | [],y::ys=>rfl
 | x::xs,[]=>rfl
 | x::xs,y::ys=>by
  show jF (.str x::xs.map .str) (.str y::ys.map .str)=_;unfold jF;rw[sU xs ys,show fS (.str x) (.str y)=(x==y) by unfold fS;rfl,P8];simp
theorem tK(xs:Tb):dh (.lst (xs.map .str))<=60:=w_ (lB (n:=0) λd hd=>by obtain⟨i,_,rfl⟩:=v_.mp hd;rw[ib];lia) @1
theorem lh(xs:Tb):pl (.lst (xs.map .str))=true:=by unfold pl;exact gg xs λx _=>by unfold pl;rfl
theorem v3(xs ys:Tb):fS (.lst (xs.map .str)) (.lst (ys.map .str))=decide (xs=ys):=by rw[fS];exact sU xs ys
def aY(x:Pt×Str):D:=.tup [cel x.1,.str x.2]
theorem z9(rec:List (Pt×Str))(hl:rec.length<=1000):m_shot_cells [.lst (rec.map aY)]=some (.lst ((rec.map Prod.fst).map cel)):=by
 refine aW (bT (aZ (br rfl) rfl ?_ (by rw[c_,c_];lia)));have he:(rec.map Prod.fst).map cel=(rec.map aY).map λd=>match d with | .tup [x,_]=>x | _=>.non:=by rw[P3,P3];rfl
 rw[he];refine eF _ _ λd hd=>?_;obtain⟨x,hx,rfl⟩:=v_.mp hd;exact⟨_,rfl,rfl⟩
theorem CP(h:List Sh)(hn:∀s∈h,s.n<=1000)(hl:h.length<=1000)(rec:List (Pt×Str))(hr:rec.length<=1000):m_fits [hidD h,.lst (rec.map aY)]=some (.bl (decide (walk h [] (rec.map Prod.fst)=rec.map Prod.snd))):=by
 have ha:=mW h hn hl (rec.map Prod.fst) (by rw[c_];exact hr);have hc:aO (cS ai) [0,1] (kE [0,1]) T1 (aG ai) 2 [] [.F (hidD h),.F (.lst (rec.map aY))]=some (.lst ((rec.map Prod.snd).map .str)):=by
  refine aZ (br rfl) rfl ?_ (by rw[c_,c_];lia);have he:(rec.map Prod.snd).map D.str=(rec.map aY).map λd=>match d with | .tup [_,x]=>x | _=>.non:=by rw[P3,P3];rfl
  rw[he];refine eF _ _ λd hd=>?_;obtain⟨x,hx,rfl⟩:=v_.mp hd;exact⟨_,rfl,rfl⟩
 refine aW (bT (CD ((call_v (ak rfl (ak ((call_v (ak rfl aQ)).trans (z9 rec hr)) aQ))).trans ha) hc (CM (tK _) (by rw[lh,lh];rfl)) (v3 _ _)))
theorem km:∀(cs:List Pt)(ws:Tb),pairs (cs.map cel) (ws.map .str)=(cs.zip ws).map aY
 | [],_=>by simp[pairs]
 | x::cs,[]=>by simp[pairs]
 | x::cs,y::ws=>by
  show .tup [cel x,.str y]::pairs (cs.map cel) (ws.map .str)=_;rw[km cs ws];rfl
theorem Fz{f g:Fe}{env:En}{ds:TM}{m:Nat}(h:g env=some (.lst ds))(hf:f env=some (.int (m:Int))):CI gW g oNone (jc f) env=some (.lst (ds.take m)):=by
 unfold CI jc;rw[h,QC];show((f env).bind _).bind _=_;rw[hf];show some (D.lst (cutD ds none (some (m:Int))))=_;rw[pj]
abbrev Rec:=List (Pt×Str)
def Apart(h:List Sh):Prop:=h.Pairwise λs t=>∀p∈s.cs,p∉t.cs
def Fits(h:List Sh):List Pt->Rec->Prop
 | _,[]=>True
 | pre,(p,w)::r=>eG h (pre++[p]) p=w/\Fits h (pre++[p]) r
theorem kb(h:List Sh):∀(r:Rec)(pre:List Pt),walk h pre (r.map Prod.fst)=r.map Prod.snd↔Fits h pre r
 | [],pre=>by simp[walk,Fits]
 | (p,w)::r,pre=>by
  show eG h (pre++[p]) p::walk h (pre++[p]) (r.map Prod.fst)=w::r.map Prod.snd↔_;rw[SZ,kb h r];rfl
def FW(s:Sh)(l:List Pt):Str:=if ∀q∈s.cs,q∈l then JR else IV
def FS(s:Sh):List Pt->Rec->Prop
 | _,[]=>True
 | pre,(p,w)::r=>(p∈s.cs->FW s (pre++[p])=w)/\FS s (pre++[p]) r
def own(s:Sh)(r:Rec):Rec:=r.filter λx=>decide (x.1∈s.cs)
theorem DF(s:Sh)(l:List Pt):FW s (l.filter λq=>decide (q∈s.cs))=FW s l:=by
 unfold FW;congr 1;simp only[Qh,y_,eq_iff_iff];exact⟨λh q hq=>(h q hq).1,λh q hq=>⟨h q hq,hq⟩⟩
theorem rE(s:Sh):∀(r:Rec)(pre:List Pt),Fits [s] (pre.filter λq=>decide (q∈s.cs)) (own s r)↔FS s pre r
 | [],pre=>Iff.rfl
 | (p,w)::r,pre=>by
  have ih:=rE s r (pre++[p]);rw[List.filter_append]at ih;unfold own;rw[PY]
  by_cases hp:p∈s.cs
  .rw[g_ (by simpa using hp)];have e:List.filter (λq=>decide (q∈s.cs)) [p]=[p]:=by simp[hp]
   rw[e]at ih;show eG [s] _ p=w/\Fits [s] _ (own s r)↔_;rw[ih];have:eG [s] ((pre.filter λq=>decide (q∈s.cs))++[p]) p=FW s (pre++[p]):=by
    unfold eG;rw[g_ hp,<- DF s (pre++[p]),List.filter_append,e]
    rfl
   rw[this];exact⟨λh=>⟨λ_=>h.1,h.2⟩,λh=>⟨h.1 hp,h.2⟩⟩
  .rw[j_ (by simpa using hp)];have e:List.filter (λq=>decide (q∈s.cs)) [p]=[]:=by simp[hp]
   rw[e,P9]at ih;exact ih.trans ⟨λh=>⟨λz=>absurd z hp,h⟩,λh=>h.2⟩
theorem vJ(l:List Pt)(p:Pt)(w:Str):∀(h:List Sh),Apart h->(eG h l p=w↔(∀s∈h,p∈s.cs->FW s l=w)/\((∀s∈h,p∉s.cs)->ua=w))
 | [],_=>by show ua=w↔_;simp
 | s::h,pw=>by
  obtain⟨p1,p2⟩:=O_.mp pw;have ih:=vJ l p w h p2
  by_cases hp:p∈s.cs
  .have:eG (s::h) l p=FW s l:=by unfold eG;rw[g_ hp];rfl
   rw[this];refine⟨λe=>⟨λt ht hpt=>?_,λz=>absurd hp (z s f_)⟩,λe=>e.1 s f_ hp⟩;rcases p_.mp ht with rfl | ht
   .exact e
   .exact absurd hpt (p1 t ht p hp)
  .have:eG (s::h) l p=eG h l p:=by rw[eG,j_ hp]
   rw[this,ih];refine⟨λe=>⟨λt ht hpt=>?_,λz=>e.2 λt ht=>z t (e_ _ ht)⟩,λe=>⟨λt ht=>e.1 t (e_ _ ht),λz=>e.2 λt ht=>?_⟩⟩
   .rcases p_.mp ht with rfl | ht
    .exact absurd hpt hp
    .exact e.1 t ht hpt
   .rcases p_.mp ht with rfl | ht
    .exact hp
    .exact z t ht
theorem rJ(h:List Sh)(pw:Apart h):∀(r:Rec)(pre:List Pt),Fits h pre r↔(∀s∈h,FS s pre r)/\∀x∈r,(∀s∈h,x.1∉s.cs)->ua=x.2
 | [],pre=>⟨λ_=>⟨λ_ _=>trivial,λx hx=>by cases hx⟩,λ_=>trivial⟩
 | (p,w)::r,pre=>by
  show eG h (pre++[p]) p=w/\Fits h (pre++[p]) r↔_;rw[vJ _ _ _ h pw,rJ h pw r];constructor
  .rintro⟨⟨a,b⟩,c,d⟩;refine⟨λs hs=>⟨a s hs,c s hs⟩,λx hx=>?_⟩;rcases p_.mp hx with rfl | hx
   .exact b
   .exact d x hx
  .rintro⟨a,b⟩;exact⟨⟨λs hs=>(a s hs).1,b _ f_⟩,λs hs=>(a s hs).2,λx hx=>b x (e_ _ hx)⟩
def cA(s:Sh)(r:Rec):Bool:=decide (walk [s] [] ((own s r).map Prod.fst)=(own s r).map Prod.snd)
theorem xI(s:Sh)(r:Rec):cA s r=true↔FS s [] r:=by
 unfold cA;rw[y_,kb];exact rE s r []
def bq(r:Rec):List Pt:=(r.filter λx=>decide (x.2≠ua)).map Prod.fst
def iA(r:Rec)(s:Sh):Nat:=(s.cs.filter λq=>decide (q∈bq r)).length
theorem AB(xs ys:List Pt)(hx:xs.Nodup)(hy:ys.Nodup):(xs.filter λq=>decide (q∈ys)).length=(ys.filter λq=>decide (q∈xs)).length:=by
 refine List.Perm.length_eq ((Sv (hx.filter _) (hy.filter _)).mpr λa=>?_);simp only[Qh,y_];exact⟨λh=>⟨h.2,h.1⟩,λh=>⟨h.2,h.1⟩⟩
def Im(h:List Sh)(p:Pt):Bool:=h.any λs=>decide (p∈s.cs)
theorem split_len(p q:α->Bool):∀(l:List α),(∀a∈l,p a=true->q a=false)->(l.filter p).length+(l.filter q).length=(l.filter λa=>p a||q a).length
 | [],_=>rfl
 | a::l,h=>by
  have ih:=split_len p q l λb hb=>h b (e_ _ hb);have ha:=h a f_;rw[PY,PY,PY];cases hp:p a<;>cases hq:q a<;>simp_all<;>lia
theorem wG(st:List Pt):∀(h:List Sh),Apart h->(h.map λs=>(st.filter λq=>decide (q∈s.cs)).length).sum=(st.filter (Im h)).length
 | [],_=>by rw[List.filter_eq_nil_iff.mpr (λ_ _=>by simp[Im])];rfl
 | s::h,pw=>by
  obtain⟨p1,p2⟩:=O_.mp pw;rw[N_,List.sum_cons,wG st h p2,split_len (λq=>decide (q∈s.cs)) (Im h) st]
  .rfl
  .intro q _ hq;rw[y_]at hq;unfold Im;rw[List.any_eq_false];intro t ht;simpa using p1 t ht q hq
theorem pY(hr:(r.map Prod.fst).Nodup):(bq r).Nodup:=hr.sublist (List.Sublist.map _ List.filter_sublist)
theorem B3(h:List Sh)(pw:Apart h)(r:Rec)(hr:(r.map Prod.fst).Nodup):(h.map (iA r)).sum=(bq r).length↔∀x∈r,(∀s∈h,x.1∉s.cs)->ua=x.2:=by
 have e:h.map (iA r)=h.map λs=>((bq r).filter λq=>decide (q∈s.cs)).length:=Sj λs _=>AB _ _ (rX s) (pY hr);rw[e,wG _ h pw,List.length_filter_eq_length_iff];unfold bq;constructor
 .intro g x hx hn
  by_cases hw:x.2=ua
  .exact hw.symm
  .have:=g x.1 (Ql (Qh.mpr ⟨hx,by simpa using hw⟩));unfold Im at this;obtain⟨s,hs,h2⟩:=SQ.mp this;exact absurd (QI h2) (hn s hs)
 .intro g p hp;obtain⟨x,hx,rfl⟩:=v_.mp hp;obtain⟨h1,h2⟩:=Qh.mp hx;unfold Im;rw[SQ];refine Classical.byContradiction λhc=>?_;have:=g x h1 λs hs z=>hc ⟨s,hs,t_ z⟩;exact(QI h2) this.symm
def jC(h:List Sh)(r:Rec):Bool:=decide (walk h [] (r.map Prod.fst)=r.map Prod.snd)
theorem yx(h:List Sh)(pw:Apart h)(r:Rec)(hr:(r.map Prod.fst).Nodup):jC h r=true↔(∀s∈h,cA s r=true)/\(h.map (iA r)).sum=(bq r).length:=by
 unfold jC;rw[y_,kb,rJ h pw,B3 h pw r hr];simp only[xI]
def Mt:List (List Sh)->List Sh->Prop
 | [],[]=>True
 | A::cs,s::h=>s∈A/\Mt cs h
 | _,_=>False
theorem Mt.cut(ru:Str)(s:Sh):∀(cs:List (List Sh))(h:List Sh),Mt (cW ru s cs) h↔Mt cs h/\∀t∈h,rh ru s t
 | [],[]=>by simp[Mt,cW]
 | [],_::_=>by simp[Mt,cW]
 | _::_,[]=>by simp[Mt,cW]
 | A::cs,t::h=>by
  show(t∈A.filter _/\Mt (cW ru s cs) h)↔(t∈A/\Mt cs h)/\_;rw[Mt.cut ru s cs h,Qh,y_];constructor
  .rintro⟨⟨a,b⟩,c,d⟩;exact⟨⟨a,c⟩,λu hu=>by rcases p_.mp hu with rfl | hu;exact b;exact d u hu⟩
  .rintro⟨⟨a,c⟩,d⟩;exact⟨⟨a,d t f_⟩,c,λu hu=>d u (e_ _ hu)⟩
theorem jR(ru:Str):∀(n:Nat)(cs:List (List Sh))(h:List Sh),cs≠[]->cs.length<=n->(h∈bB ru n cs↔Mt cs h/\h.Pairwise (rh ru))
 | 0,cs,h,hne,hl=>by cases cs with | nil=>exact absurd rfl hne | cons a b=>simp at hl
 | n+1,[],h,hne,_=>absurd rfl hne
 | n+1,[A],h,_,_=>by
  show h∈A.map (λs=>[s])↔_;rw[v_];constructor
  .rintro⟨s,hs,rfl⟩;exact⟨⟨hs,trivial⟩,Re _ _⟩
  .rintro⟨m,_⟩
   match h,m with
   | [s],m=>exact⟨s,m.1,rfl⟩
   | [],m=>exact m.elim
   | _::_::_,m=>exact m.2.elim
 | n+1,A::B::r,h,_,hl=>by
  show h∈A.flatMap (λs=>(bB ru n (cW ru s (B::r))).map λg=>s::g)↔_;rw[Q0];have ih:∀s g,g∈bB ru n (cW ru s (B::r))↔(Mt (B::r) g/\∀t∈g,rh ru s t)/\g.Pairwise (rh ru):=λs g=>by
   rw[jR ru n (cW ru s (B::r)) g (λz=>by have:=QO List.length z;rw[cT]at this;simp at this) (by rw[cT];simpa using hl),Mt.cut]
  constructor
  .rintro⟨s,hs,h2⟩;obtain⟨g,hg,rfl⟩:=v_.mp h2;obtain⟨⟨a,b⟩,c⟩:=(ih s g).mp hg;exact⟨⟨hs,a⟩,O_.mpr ⟨b,c⟩⟩
  .rintro⟨m,pw⟩
   match h,m,pw with
   | s::g,m,pw=>
    obtain⟨p1,p2⟩:=O_.mp pw;exact⟨s,m.1,v_.mpr ⟨g,(ih s g).mpr ⟨⟨m.2,p1⟩,p2⟩,rfl⟩⟩
theorem kD(ru:Str):∀(n:Nat)(cs:List (List Sh)),(∀A∈cs,A.Nodup)->(bB ru n cs).Nodup
 | 0,cs,_=>Ss
 | n+1,[],_=>Ss
 | n+1,[A],h=>QU.mpr ((h A f_).imp λIi e=>Ii (List.cons.inj e).1)
 | n+1,A::B::r,h=>by
  refine QL.mpr ⟨λs _=>QU.mpr ((kD ru n (cW ru s (B::r)) λL hL=>?_).imp λIi e=>Ii (List.cons.inj e).2),(h A f_).imp λ{a b} Ii x hx y hy e=>?_⟩
  .obtain⟨L',Li,rfl⟩:=v_.mp hL;exact(h L' (e_ _ Li)).filter _
  .obtain⟨s,_,rfl⟩:=v_.mp hx;obtain⟨t,_,rfl⟩:=v_.mp hy;exact Ii (List.cons.inj e).1
def kA(R C:Nat)(q:Sh->Bool)(fl:Tf):List (List Sh):=fl.map λl=>(bR R C l).filter q
theorem zi(R C:Nat)(q:Sh->Bool):∀(fl:Tf)(h:List Sh),Mt (kA R C q fl) h↔h.map Sh.n=fl/\(∀s∈h,s∈bR R C s.n)/\∀s∈h,q s=true
 | [],[]=>by simp[Mt,kA]
 | [],_::_=>by simp[Mt,kA]
 | _::_,[]=>by simp[Mt,kA]
 | l::fl,s::h=>by
  show(s∈(bR R C l).filter q/\Mt (kA R C q fl) h)↔_;rw[zi R C q fl h,Qh,N_,SZ];simp only[List.forall_mem_cons];constructor
  .rintro⟨⟨a,b⟩,c,d,e⟩;have:=ir a;exact⟨⟨this,c⟩,⟨this▸a,d⟩,b,e⟩
  .rintro⟨⟨a,c⟩,⟨a',d⟩,b,e⟩;exact⟨⟨a▸a',b⟩,c,d,e⟩
theorem uK(R C:Nat)(ru:Str)(hs:fl.Pairwise (·>=·))(h0:0<fl.length)(h4:fl.length<=4)(q:Sh->Bool):(bB ru 4 (kA R C q fl)).Perm ((bg R C ru fl fl.length).filter λh=>h.all q):=by
 refine(Sv (kD ru 4 _ λA hA=>?_) ((lT R C ru fl _).filter _)).mpr λh=>?_
 .obtain⟨l,_,rfl⟩:=v_.mp hA;exact(List.Pairwise.imp (λ{a b:Sh} (hb:Bef a b) (e:a=b)=>iq hb (by rw[e]at hb ⊢;exact hb)) (pQ R C l)).filter _
 .rw[jR ru 4 _ h (λz=>by have:=QO List.length z;unfold kA at this;rw[c_,L_]at this;lia) (by unfold kA;rw[c_];exact h4),zi,Qh,jx R C ru hs _ (m_ _),Qu,Qi];constructor
  .rintro⟨⟨a,b,c⟩,d⟩;exact⟨⟨a,b,d⟩,c⟩
  .rintro⟨⟨a,b,d⟩,c⟩;exact⟨⟨a,b,c⟩,d⟩
theorem yw(hr:cB ru)(hn:∀s∈h,1<=s.n)(pw:h.Pairwise (rh ru)):Apart h:=by
 refine Q_ (λ{s t} hs ht hf p hp hq=>?_) pw;refine(tR hr (hn s hs) (hn t ht)).mp hf.2 ⟨p,hq,p,hp,(0,0),?_,by unfold plus;simp⟩;rcases hr with rfl | rfl | rfl
 .rw[md];simp
 .rw[mz];simp
 .rw[mF];simp
structure Hid(R C:Nat)(fl:List Nat)(h:List Sh):Prop where
 ap:Apart h
 len:h.length<=3
 sz:∀s∈h,1<=s.n/\s.n<=4
 on:∀s∈h,s∈bR R C s.n
theorem PL.hid{R C:Nat}{fl:Tf}{ru:Str}(p:PL R C fl ru){h:List Sh}(hh:h∈bg R C ru fl fl.length):Hid R C fl h:=by
 obtain⟨a,b,c⟩:=(jx R C ru p.up _ (m_ _) h).mp hh;rw[Qu]at a;have sz:∀s∈h,1<=s.n/\s.n<=4:=λs hs=>p.sz s.n (a▸Ql hs);exact⟨yw p.ru (λs hs=>(sz s hs).1) c,by have:=QO List.length a;rw[c_]at this;have:=p.l3;lia,sz,b⟩
theorem r6(q q':List L2.Key)(x:α):∀(ks:List (List L2.Key))(ds:List α),ds.length=ks.length->q∉ks->a7 (ks++[q]) (ds++[x]) q'=if q'=q then some x else a7 ks ds q'
 | [],[],_,_=>by
  show(if q=q' then some x else a7 [] [] q')=_
  by_cases h:q=q'
  .rw[g_ h,g_ h.symm]
  .rw[j_ h,j_ (Qo h)]
 | [],_::_,h,_=>by simp at h
 | _::_,[],h,_=>by simp at h
 | k::ks,d::ds,h,hn=>by
  have ih:=r6 q q' x ks ds (by simpa using h) λz=>hn (e_ _ z);show(if k=q' then some d else a7 (ks++[q]) (ds++[x]) q')=if q'=q then some x else(if k=q' then some d else a7 ks ds q');rw[ih]
  by_cases h1:k=q'
  .rw[g_ h1,j_ (λe=>hn (by rw[<- e,<- h1];exact f_)),g_ h1]
  .rw[j_ h1,j_ h1]
theorem oW(q q':List L2.Key)(x:α):∀(ks:List (List L2.Key))(ds:List α),ds.length=ks.length->a7 ks (b8 ks ds q x) q'=if q'=q/\q∈ks then some x else a7 ks ds q'
 | [],[],_=>by simp[a7,b8]
 | [],_::_,h=>by simp at h
 | _::_,[],h=>by simp at h
 | k::ks,d::ds,h=>by
  have ih:=oW q q' x ks ds (by simpa using h);show(if k=q' then some (if k=q then x else d)else a7 ks (b8 ks ds q x) q')=if q'=q/\q∈k::ks then some x else(if k=q' then some d else a7 ks ds q');rw[ih]
  by_cases h1:k=q'
  .subst h1;rw[g_ rfl,g_ rfl]
   by_cases h2:k=q
   .subst h2;rw[g_ rfl,g_ ⟨rfl,f_⟩]
   .rw[j_ h2,j_ λz=>h2 z.1]
  .rw[j_ h1,j_ h1]
   by_cases h2:q'=q
   .subst h2
    by_cases h3:q'∈ks
    .rw[g_ ⟨rfl,h3⟩,g_ ⟨rfl,e_ _ h3⟩]
    .rw[j_ λz=>h3 z.2,j_];rintro⟨_,z⟩;rcases p_.mp z with z | z
     .exact h1 z.symm
     .exact h3 z
   .rw[j_ λz=>h2 z.1,j_ λz=>h2 z.1]
theorem Bm(q q':List L2.Key)(x:α)(ks:List (List L2.Key))(ds:List α)(h:ds.length=ks.length):a7 (kG ks q) (mV ks ds q x) q'=if q'=q then some x else a7 ks ds q':=by
 unfold kG mV
 by_cases hq:q∈ks
 .rw[g_ hq,g_ hq,oW q q' x ks ds h]
  by_cases e:q'=q
  .rw[g_ ⟨e,hq⟩,g_ e]
  .rw[j_ λz=>e z.1,j_ e]
 .rw[j_ hq,j_ hq,r6 q q' x ks ds h hq]
theorem wm(ks:List (List L2.Key))(q q':List L2.Key):q'∈kG ks q↔q'=q\/q'∈ks:=by
 unfold kG
 by_cases h:q∈ks
 .rw[g_ h];exact⟨.inr,λz=>z.elim (λe=>e▸h) id⟩
 .rw[j_ h,Qz,C_];exact Or.comm
theorem vh(s:Sh):gX s.d=some s.ks:=rfl
theorem sO(k:α->D)(q:α->List L2.Key)(hk:∀a,gX (k a)=some (q a))(v:List L2.Key->D):∀(as:List α)(m:List (List L2.Key)×TM),m.2.length=m.1.length->(∀x∈m.1,a7 m.1 m.2 x=some (v x))->∃m',Mi.foldM m (as.map λa=>.tup [k a,v (q a)])=some m'/\m'.2.length=m'.1.length/\(∀x,x∈m'.1↔x∈m.1\/x∈as.map q)/\∀x∈m'.1,a7 m'.1 m'.2 x=some (v x)
 | [],m,h1,h2=>⟨m,rfl,h1,λx=>by simp,h2⟩
 | a::as,m,h1,h2=>by
  obtain⟨m',g1,g2,g3,g4⟩:=sO k q hk v as (Bs m (q a) (v (q a))) (by show(mV _ _ _ _).length=(kG _ _).length;exact qc h1 _ _) λx hx=>by
   show a7 (kG _ _) (mV _ _ _ _) x=_;rw[Bm _ _ _ _ _ h1]
   by_cases e:x=q a
   .rw[g_ e,e]
   .rw[j_ e];rcases(wm _ _ _).mp hx with z | z
    .exact absurd z e
    .exact h2 x z
  refine⟨m',?_,g2,λx=>?_,g4⟩
  .show(gX (k a)).bind _=_;rw[hk a];exact g1
  .rw[g3 x,show(Bs m (q a) (v (q a))).1=kG m.1 (q a)from rfl,wm,N_,p_];constructor
   .rintro((h | h) | h)
    .exact .inr (.inl h)
    .exact .inl h
    .exact .inr (.inr h)
   .rintro(h | h | h)
    .exact .inl (.inr h)
    .exact .inl (.inl h)
    .exact .inr h
theorem B5(h1:fi env=some ds)(h2:cY is (dk n caps env)=true)(h3:ez t c k (dk n caps env) ds=some xs)(hl:xs.length<=16000000)(h4:Mi.foldM ([],[]) xs=some m):jU th fi is t c k n caps env=some (.mp th m.1 m.2):=by
 unfold jU;rw[h1];show(if cY is (dk n caps env)=true then _ else _)=_;rw[g_ h2,h3];show(if xs.length<=16000000 then _ else _)=_;rw[g_ hl,h4];rfl
theorem Hc(h1:f env=some (.mp th ks ds))(h2:g env=some k)(h3:gX k=some q)(h4:a7 ks ds q=some d):au (getM th) f g env=some d:=by
 rw[aS h1 h2];unfold getM;rw[Fm];show(gX k).bind _=_;rw[h3];exact h4
theorem B6(h1:fk env=some k)(h2:fv env=some v)(h3:gX k=some q):jw fk fv env=some [.tup [k,v]]:=by
 unfold jw;rw[h1];show(fv env).bind _=_;rw[h2];show(gX k).bind _=_;rw[h3];rfl
def fj:List Sh->List Sh->Bool
 | [],[]=>false
 | [],_::_=>true
 | _::_,[]=>false
 | s::h,t::g=>if s.ks=t.ks then fj h g else decide (Bef s t)
theorem uq(h:Bef s t):s.ks≠t.ks:=λe=>by
 have a:=Dj h;rw[e]at a;have b:=He (t:=t) (λz=>iq z z);rw[a]at b;cases b
theorem og:∀h,fj h h=false
 | []=>rfl
 | s::h=>by unfold fj;rw[g_ rfl];exact og h
theorem mf:∀{h g:List Sh},fj h g=true->fj g h=false
 | [],[],h=>by cases h
 | [],_::_,_=>rfl
 | _::_,[],h=>by cases h
 | s::h,t::g,e=>by
  unfold fj at e ⊢
  by_cases k:s.ks=t.ks
  .rw[g_ k]at e;rw[g_ k.symm];exact mf e
  .rw[j_ k]at e;rw[j_ (Qo k)];exact B_ (iq (QI e))
theorem tw(ru:Str):∀(n:Nat)(cs:List (List Sh)),(∀A∈cs,A.Pairwise Bef)->(bB ru n cs).Pairwise λg h=>fj g h=true
 | 0,cs,_=>.nil
 | n+1,[],_=>.nil
 | n+1,[A],h=>by
  show(A.map λs=>[s]).Pairwise _;rw[QU];exact(h A f_).imp λ{s t} b=>by
   show(if s.ks=t.ks then fj [] []else decide (Bef s t))=true;rw[j_ (uq b)];exact t_ b
 | n+1,A::B::r,h=>by
  show(A.flatMap λs=>(bB ru n (cW ru s (B::r))).map λh=>s::h).Pairwise _;rw[QL];refine⟨λs hs=>?_,(h A f_).imp λ{s t} b x hx y hy=>?_⟩
  .rw[QU];have:=tw ru n (cW ru s (B::r)) λL hL=>by
    obtain⟨L',Li,rfl⟩:=v_.mp hL;exact(h L' (e_ _ Li)).filter _
   exact this.imp λ{g g'} e=>by
    show(if s.ks=s.ks then fj g g' else _)=true;rw[g_ rfl];exact e
  .obtain⟨g,_,rfl⟩:=v_.mp hx;obtain⟨g',_,rfl⟩:=v_.mp hy;show(if s.ks=t.ks then fj g g' else decide (Bef s t))=true;rw[j_ (uq b)];exact t_ b
theorem up_eq:∀{l1 l2:List (List Sh)},l1.Pairwise (λg h=>fj g h=true)->l2.Pairwise (λg h=>fj g h=true)->(∀x,x∈l1↔x∈l2)->l1=l2
 | [],[],_,_,_=>rfl
 | [],b::_,_,_,h=>absurd ((h b).mpr f_) (by simp)
 | a::_,[],_,_,h=>absurd ((h a).mp f_) (by simp)
 | a::l1,b::l2,u1,u2,h=>by
  obtain⟨p1,q1⟩:=O_.mp u1;obtain⟨p2,q2⟩:=O_.mp u2;have e:a=b:=by
   rcases p_.mp ((h a).mp f_)with e | m
   .exact e
   .rcases p_.mp ((h b).mpr f_)with e | m2
    .exact e.symm
    .have:=mf (p2 a m);rw[p1 b m2]at this;cases this
  subst e;have no:∀{l:List (List Sh)},(∀x∈l,fj a x=true)->a∉l:=λp m=>by have:=p a m;rw[og]at this;cases this
  rw[up_eq q1 q2 λx=>⟨λm=>by
   rcases p_.mp ((h x).mp (e_ _ m))with e | m'
   .exact absurd (e▸m) (no p1)
   .exact m',λm=>by
   rcases p_.mp ((h x).mpr (e_ _ m))with e | m'
   .exact absurd (e▸m) (no p2)
   .exact m'⟩]
theorem nU:∀(h:List Sh){s t:Sh},Bef s t->fj (h++[s]) (h++[t])=true
 | [],s,t,b=>by show(if s.ks=t.ks then _ else _)=true;rw[j_ (uq b)];exact t_ b
 | u::h,s,t,b=>by show(if u.ks=u.ks then fj (h++[s]) (h++[t])else _)=true;rw[g_ rfl];exact nU h b
theorem tO:∀{h g:List Sh}(s t:Sh),h.length=g.length->fj h g=true->fj (h++[s]) (g++[t])=true
 | [],[],_,_,_,e=>by cases e
 | [],_::_,_,_,hl,_=>by cases hl
 | _::_,[],_,_,hl,_=>by cases hl
 | u::h,v::g,s,t,hl,e=>by
  show(if u.ks=v.ks then fj (h++[s]) (g++[t])else decide (Bef u v))=true;have e:(if u.ks=v.ks then fj h g else decide (Bef u v))=true:=e
  by_cases k:u.ks=v.ks
  .rw[g_ k]at e ⊢;exact tO s t (by simpa using hl) e
  .rw[j_ k]at e ⊢;exact e
theorem wH(R C:Nat)(ru:Str)(fl:Tf):∀j,(bg R C ru fl j).Pairwise (λg h=>fj g h=true)/\∀h∈bg R C ru fl j,h.length=j
 | 0=>⟨Re _ _,λh hh=>by cases C_.mp hh;rfl⟩
 | j+1=>by
  obtain⟨u,l⟩:=wH R C ru fl j;refine⟨QL.mpr ⟨λh _=>QU.mpr (((pQ R C (fl.getD j 0)).filter _).imp λ{s t} b=>nU h b),?_⟩,λh hh=>?_⟩
  .refine Q_ (λ{g h} hg hh e x hx y hy=>?_) u;obtain⟨s,_,rfl⟩:=v_.mp hx;obtain⟨t,_,rfl⟩:=v_.mp hy;exact tO s t (by rw[l g hg,l h hh]) e
  .obtain⟨g,hg,s,_,_,rfl⟩:=jZ.mp hh;simp[l g hg]
theorem eq_str(a b:Str):fS (.str a) (.str b)=decide (a=b):=by
 rw[show fS (.str a) (.str b)=(a==b) by unfold fS;rfl,P8];simp
theorem Jr(a:Str):dh (.str a)<=60:=by rw[ib];lia
theorem IE(h1:f env=some (.str a))(h2:g env=some (.str b)):au nY f g env=some (.bl (decide (a≠b))):=by
 rw[Hz h1 h2 (CM (Jr a) rfl) (eq_str a b)];simp
theorem tF(s:Sh)(hn:s.n<=1000)(rec:Rec)(hr:rec.length<=1000):m_ship_fits [s.d,.lst (rec.map aY)]=some (.bl (cA s rec)):=by
 have hl:(own s rec).length<=rec.length:=M_ _ _;have f1:=CP [s] (λt ht=>by rw[C_.mp ht];exact hn) (by simp) (own s rec) (by lia);exact aW ((ar (aX ((call_v (ak rfl aQ)).trans (iZ s hn)))).trans (bT ((call_v (ak (mK (ak rfl aQ)) (ak (aZ (br rfl) rfl (dH aY aY (λx=>decide (x.1∈s.cs)) rec λx hx=>⟨[.F (cel x.1),.F (.str x.2),.F (.lst (s.cs.map cel))],rfl,cG (sQ rfl rfl),λ_=>rfl⟩) (by rw[c_];show(own s rec).length<=_;lia)) aQ))).trans f1)))
theorem xQ(rec:Rec)(hr:rec.length<=1000)(s0 s1 s2 s4 s5 s6 s7:Slot):aO (cS aD) [0,1] (kE [0,1]) (fB (au nY ai (fC (.str "water")))) (aG ag) 2 [] [s0,s1,s2,.F (.lst (rec.map aY)),s4,s5,s6,s7]=some (.lst ((bq rec).map cel)):=by
 have e:(bq rec).map cel=(rec.filter λx=>decide (x.2≠ua)).map λx=>cel x.1:=by unfold bq;rw[P3];rfl
 rw[e];exact aZ (br rfl) rfl (dH aY (λx=>cel x.1) (λx=>decide (x.2≠ua)) rec λx hx=>⟨[.F (cel x.1),.F (.str x.2)],rfl,cG (IE rfl rfl),λ_=>rfl⟩) (by rw[c_];have:=M_ (λx:Pt×Str=>decide (x.2≠ua)) rec;lia)
theorem DO(rec:Rec)(s:Sh)(hn:s.n<=1000)(s0:Slot):bC cC (aO (cS (λenv=>((ae ai fNil) env).bind m_cells_of)) [0] (bu 0) (fB (au (mx false) ag ai)) (aG ag) 1 [2]) [s0,.F s.d,.F (.lst ((bq rec).map cel))]=some (.int (iA rec s:Nat)):=by
 have hl:iA rec s<=s.cs.length:=M_ _ _;rw[Bx]at hl;have c1:aO (cS (λenv=>((ae ai fNil) env).bind m_cells_of)) [0] (bu 0) (fB (au (mx false) ag ai)) (aG ag) 1 [2] [s0,.F s.d,.F (.lst ((bq rec).map cel))]=some (.lst ((s.cs.filter λq=>decide (q∈bq rec)).map cel)):=aZ (br ((call_v (ak rfl aQ)).trans (iZ s hn))) rfl (dH cel cel (λq=>decide (q∈bq rec)) s.cs λq hq=>⟨[.F (cel q),.F (.lst ((bq rec).map cel))],rfl,cG (sQ rfl rfl),λ_=>rfl⟩) (by rw[c_];show iA rec s<=_;lia);rw[gN c1,c_];rfl
theorem GR(R C:Nat)(hR:R<=4)(hC:C<=5)(fl:Tf)(hl:fl.length<=3)(hf:∀n∈fl,1<=n/\n<=4)(rec:Rec)(hr:rec.length<=1000)(s2 s4 s5 s6 s7:Slot):aO (xN ai) [0] (bu 0) T1 (aG (aO (cS (λenv=>((ae ai (ae ag fNil)) env).bind m_ships_of)) [0] (bu 0) (fB (λenv=>((ae ag (ae ai fNil)) env).bind m_ship_fits)) (aG ag) 1 [2])) 1 [0,3] [.F (.tup [.int R,.int C]),.F (ju fl),s2,.F (.lst (rec.map aY)),s4,s5,s6,s7]=some (.lst (qV (kA R C (λs=>cA s rec) fl))):=by
 have e:qV (kA R C (λs=>cA s rec) fl)=fl.map λl=>D.lst (((bR R C l).filter λs=>cA s rec).map Sh.d):=by unfold qV kA;rw[P3];rfl
 rw[e];exact aZ (tz rfl) rfl (ck (λn:Nat=>D.int n) (λl=>.lst (((bR R C l).filter λs=>cA s rec).map Sh.d)) fl λl NY=>by
  have hl4:=hf l NY;refine⟨[.F (.int l),.F (.tup [.int R,.int C]),.F (.lst (rec.map aY))],rfl,dm (aZ (br ((call_v (ak rfl (ak rfl aQ))).trans (vm R C (by lia) (by lia) l hl4.1))) rfl (dH Sh.d Sh.d (λs=>cA s rec) (bR R C l) λs hs=>⟨[.F s.d,.F (.lst (rec.map aY))],rfl,cG ((call_v (ak rfl (ak rfl aQ))).trans (tF s (by rw[ir hs];lia) rec hr)),λ_=>rfl⟩) ?_)⟩;rw[c_];have:=M_ (λs=>cA s rec) (bR R C l);have:=jj R C hR hC l
  lia) (by rw[c_];lia)
theorem zc(R C:Nat)(hR:R<=4)(hC:C<=5)(q:Sh->Bool)(fl:Tf):∀A∈kA R C q fl,A.length<=40:=λA hA=>by
 obtain⟨l,_,rfl⟩:=v_.mp hA;exact w_ (M_ _ _) (jj R C hR hC l)
def ie(rec:Rec)(k:List L2.Key):D:=match k with
 | [.inl a,.inl b,.inr w,.inl n]=>.int (iA rec ⟨a,b,decide (w=sDn),n.toNat⟩:Nat)
 | _=>.non
theorem mr(rec:Rec)(s:Sh):ie rec s.ks=.int (iA rec s:Nat):=by
 obtain⟨a,b,dn,n⟩:=s;unfold Sh.ks ie Sh.w;cases dn
 .have:decide (gE=sDn)=false:=by decide
  simp[this]
 .simp
theorem um(R C:Nat)(hR:R<=4)(hC:C<=5)(fl:Tf)(hl:fl.length<=3)(hf:∀n∈fl,1<=n/\n<=4)(q:Sh->Bool)(rec:Rec)(s0 s1 s2 s3 s6 s7:Slot):∃ks ds,jU Th.h (cS bX) [0] (bu 0) T1 (fx (cS ag) [1] (bu 1) T1 (jw ai (bC cC (aO (cS (λenv=>((ae ai fNil) env).bind m_cells_of)) [0] (bu 0) (fB (au (mx false) ag ai)) (aG ag) 1 [2])))) 2 [4] [s0,s1,s2,s3,.F (.lst ((bq rec).map cel)),.F (.lst (qV (kA R C q fl))),s6,s7]=some (.mp Th.h ks ds)/\∀A∈kA R C q fl,∀s∈A,a7 ks ds s.ks=some (.int (iA rec s:Nat)):=by
 have g1:ez (bu 0) T1 (fx (cS ag) [1] (bu 1) T1 (jw ai (bC cC (aO (cS (λenv=>((ae ai fNil) env).bind m_cells_of)) [0] (bu 0) (fB (au (mx false) ag ai)) (aG ag) 1 [2])))) [.un,.un,.F (.lst ((bq rec).map cel))] ((kA R C q fl).map λA=>D.lst (A.map Sh.d))=some (((kA R C q fl).flatMap λA=>A).map λs=>D.tup [s.d,ie rec s.ks]):=by
  have key:∀cs:List (List Sh),(∀A∈cs,∀s∈A,s.n<=1000)->ez (bu 0) T1 (fx (cS ag) [1] (bu 1) T1 (jw ai (bC cC (aO (cS (λenv=>((ae ai fNil) env).bind m_cells_of)) [0] (bu 0) (fB (au (mx false) ag ai)) (aG ag) 1 [2])))) [.un,.un,.F (.lst ((bq rec).map cel))] (cs.map λA=>D.lst (A.map Sh.d))=some ((cs.flatMap λA=>A).map λs=>D.tup [s.d,ie rec s.ks]):=by
   intro cs
   induction cs with
   | nil=>intro _;rfl
   | cons A cs ih=>
    intro hA;have i1:=ih λB hB=>hA B (e_ _ hB);have g2:=ck (t:=bu 1) (k:=jw ai (bC cC (aO (cS (λenv=>((ae ai fNil) env).bind m_cells_of)) [0] (bu 0) (fB (au (mx false) ag ai)) (aG ag) 1 [2]))) (env:=[.F (.lst (A.map Sh.d)),.un,.F (.lst ((bq rec).map cel))]) Sh.d (λs=>D.tup [s.d,ie rec s.ks]) A λs hs=>⟨[.F (.lst (A.map Sh.d)),.F s.d,.F (.lst ((bq rec).map cel))],rfl,B6 rfl (by rw[mr];exact DO rec s (hA A f_ s hs) _) (vh s)⟩;have m1:=Bh (fi:=cS ag) (is:=[1]) (env:=[.F (.lst (A.map Sh.d)),.un,.F (.lst ((bq rec).map cel))]) (br rfl) rfl g2;rw[N_,Qe,P_];unfold ez;show(if true=true then fx (cS ag) [1] (bu 1) T1 _ [.F (.lst (A.map Sh.d)),.un,.F (.lst ((bq rec).map cel))]else some []).bind _=_;rw[g_ rfl,m1];show(ez _ _ _ _ _).bind _=_;rw[i1];rfl
  refine key _ λA hA s hs=>?_;obtain⟨l,NY,rfl⟩:=v_.mp hA;have:=ir (Qh.mp hs).1;have:=hf l NY
  lia
 obtain⟨m,f1,f2,f3,f4⟩:=sO Sh.d Sh.ks vh (ie rec) ((kA R C q fl).flatMap λA=>A) ([],[]) rfl (λx hx=>by cases hx);refine⟨m.1,m.2,B5 (br rfl) rfl g1 ?_ f1,λA hA s hs=>?_⟩
 .rw[c_];have:=eO (g:=λA:List Sh=>A) (B:=40) (kA R C q fl) (zc R C hR hC q fl);have h2:(kA R C q fl).length<=3:=by unfold kA;rw[c_];exact hl
  lia
 .rw[f4 s.ks ((f3 s.ks).mpr (.inr (Ql (Q0.mpr ⟨A,hA,hs⟩)))),mr]
theorem sJ(g:Sh->Nat):∀h:List Sh,(h.map λs=>((g s:Nat):Int)).sum=(((h.map g).sum:Nat):Int)
 | []=>rfl
 | s::h=>by rw[N_,List.sum_cons,sJ g h,N_,List.sum_cons];push_cast;rfl
theorem Bp:∀{cs:List (List Sh)}{h:List Sh},Mt cs h->∀s∈h,∃A∈cs,s∈A
 | [],[],_,s,hs=>by cases hs
 | [],_::_,m,_,_=>m.elim
 | _::_,[],_,s,hs=>by cases hs
 | A::cs,t::h,m,s,hs=>by
  rcases p_.mp hs with rfl | hs
  .exact⟨A,f_,m.1⟩
  .obtain⟨B,hB,h2⟩:=Bp m.2 s hs;exact⟨B,e_ _ hB,h2⟩
theorem PL.fitting{R C:Nat}{fl:Tf}{ru:Str}(p:PL R C fl ru)(rec:Rec)(hr:rec.length<=1000)(nd:(rec.map Prod.fst).Nodup):∃X:List (List Sh),m_all_fitting [.tup [.int R,.int C],ju fl,.str ru,.lst (rec.map aY)]=some (.lst (X.map hidD))/\X=(bg R C ru fl fl.length).filter λh=>jC h rec:=by
 have hne:kA R C (λs=>cA s rec) fl≠[]:=λz=>by have:=QO List.length z;unfold kA at this;rw[c_,L_]at this;have:=p.l0;lia
 have jK:(kA R C (λs=>cA s rec) fl).length=fl.length:=by unfold kA;rw[c_]
 have am:=rD ru p.ru (M:=40) @1 4 (kA R C (λs=>cA s rec) fl) @1 hne (by rw[jK];have:=p.l3;lia) (zc R C p.r4 p.c5 _ fl) (by rw[jK];exact w_ (zy p.l3) @1);have ap:=uK R C ru p.up p.l0 (by have:=p.l3;lia) λs=>cA s rec;obtain⟨ks,ds,k1,k2⟩:=um R C p.r4 p.c5 fl p.l3 p.sz (λs=>cA s rec) rec (.F (.tup [.int R,.int C])) (.F (ju fl)) (.F (.str ru)) (.F (.lst (rec.map aY))) .un .un;generalize hA:bB ru 4 (kA R C (λs=>cA s rec) fl)=Y at am ap;have yu:Y.Pairwise λg h=>fj g h=true:=hA▸tw ru 4 _ λA hA=>by obtain⟨l,_,rfl⟩:=v_.mp hA;exact(pQ R C l).filter _
 have hY:∀h∈Y,∀s∈h,a7 ks ds s.ks=some (.int (iA rec s:Nat)):=λh hh s hs=>by
  rw[<- hA,jR ru 4 _ h hne (by rw[jK];have:=p.l3;lia)]at hh;obtain⟨A,hA,h2⟩:=Bp hh.1 s hs;exact k2 A hA s h2
 have Ln:Y.length<=64000:=by rw[ap.length_eq];exact w_ (M_ _ _) p.len
 have hY3:∀h∈Y,h.length<=3:=λh hh=>(p.hid (Qh.mp (ap.mem_iff.mp hh)).1).len;refine⟨Y.filter λh=>decide ((h.map (iA rec)).sum=(bq rec).length),aW ((ar (aX (xQ rec hr _ _ _ _ _ _ _))).trans ((ar (aX (GR R C p.r4 p.c5 fl p.l3 p.sz rec hr _ _ _ _ _))).trans ((ar (aX k1)).trans ((ar (aX ((call_v (ak rfl (ak rfl aQ))).trans am))).trans (bT (aZ (br rfl) rfl (dH hidD hidD (λh=>decide ((h.map (iA rec)).sum=(bq rec).length)) Y λh hh=>by
  refine⟨[.F (hidD h),.F (.mp Th.h ks ds),.F (.lst ((bq rec).map cel))],rfl,?_,λ_=>rfl⟩;have c1:aO (xN ag) [0] (bu 0) T1 (aG (au (getM Th.h) ai ag)) 1 [1] [.F (hidD h),.F (.mp Th.h ks ds),.F (.lst ((bq rec).map cel))]=some (.lst ((h.map λs=>((iA rec s:Nat):Int)).map .int)):=by
   rw[P3];exact aZ (tz rfl) rfl (ck Sh.d (λs=>.int (iA rec s:Nat)) h λs hs=>⟨[.F s.d,.F (.mp Th.h ks ds)],rfl,dm (Hc rfl rfl (vh s) (hY h hh s hs))⟩) (by rw[c_];have:=hY3 h hh;lia)
  have c2:bC El (aO (xN ag) [0] (bu 0) T1 (aG (au (getM Th.h) ai ag)) 1 [1]) [.F (hidD h),.F (.mp Th.h ks ds),.F (.lst ((bq rec).map cel))]=some (.int ((h.map (iA rec)).sum:Nat)):=by
   rw[o4 c1];show(i9 _).bind _=_;rw[kl];show some (D.int _)=_;rw[sJ]
  refine cG ((aS c2 (gN rfl)).trans ((Br _ _).trans ?_));rw[c_];congr 2;rw[P8,RO,y_]
  lia) ?_)))))),?_⟩
 .rw[c_];have:=M_ (λh=>decide ((h.map (iA rec)).sum=(bq rec).length)) Y;lia
 .refine up_eq (yu.filter _) ((wH R C ru fl _).1.filter _) λx=>List.Perm.mem_iff ((ap.filter _).trans (List.Perm.of_eq ?_));rw[List.filter_filter];refine List.filter_congr λh hh=>?_;have fp:=yx h (p.hid hh).ap rec nd;rw[P8,F_,y_,Qi,fp];exact And.comm
theorem Mn(h:r.length=5):∃a b c d e,r=[a,b,c,d,e]:=by
 match r,h with
 | [a,b,c,d,e],_=>exact⟨a,b,c,d,e,rfl⟩
theorem MU{P:D->Prop}{a b:D}(h1:P a)(h2:P b):∀d∈[a,b],P d:=λd hd=>by
 rcases p_.mp hd with rfl | hd
 .exact h1
 .rw[C_.mp hd];exact h2
theorem Mw{P:D->Prop}{a b c:D}(h1:P a)(h2:P b)(h3:P c):∀d∈[a,b,c],P d:=λd hd=>by
 rcases p_.mp hd with rfl | hd
 .exact h1
 .exact MU h2 h3 d hd
theorem Cc(h:f env=some (.lst xs))(hp:gA xs=true):au nY f (bP fNil) env=some (.bl !xs.isEmpty):=
 Hz h rfl (HF (by unfold dh fR;lia) (by unfold pl;rw[hp];rfl)) (wc xs)
abbrev PP:TM:=[.str ua,.str IV,.str JR]
theorem vV:∀(bs:TM),(∀d∈bs,∃w:Str,d=.str w)->∃ws:Tb,bs=ws.map .str
 | [],_=>⟨[],rfl⟩
 | b::bs,h=>by
  obtain⟨w,rfl⟩:=h b f_;obtain⟨ws,rfl⟩:=vV bs λd hd=>h d (e_ _ hd);exact⟨w::ws,rfl⟩
theorem xn(c:Int)(R C:Nat)(hR:R<=4)(hC:C<=5)(fl:Tf)(rows:List (List Sh))(hne:rows≠[])(hlen:rows.length<=64000)(hg:∀r∈rows,Hid R C fl r):∃rec:Rec,m__law_record [.int c,.tup [.int R,.int C],.lst (rows.map hidD)]=some (.lst (rec.map aY))/\rec.length<=20/\(rec.map Prod.fst).Nodup:=by
 have hpos:0<rows.length:=List.length_pos_iff.mpr hne;obtain⟨r,h1,h2,h3⟩:=sj c [(rows.length:Int),9,4,9,3] (λx hx=>by
  simp only[p_,Qd,Rx]at hx;rcases hx with rfl | rfl | rfl | rfl | rfl<;>lia) (by simp)
 obtain⟨nu,mn,sp,a,wo,rfl⟩:=Mn h2;have b0:=h3 0 nu rows.length rfl rfl;have b1:=h3 1 mn 9 rfl rfl;have b2:=h3 3 a 9 rfl rfl;have b3:=h3 4 wo 3 rfl rfl;clear h2 h3;obtain⟨m,rfl⟩:=QS b1.1;have e1:Hr [3,4,5,6,7] (λenv=>((ae ag (ae (bP (ae (bC cC aK) (ae (fC (.int 9)) (ae TZ (ae (fC (.int 9)) (ae TY fNil)))))) fNil)) env).bind m__law_drawn) (bM 10 [.int c,.tup [.int R,.int C],.lst (rows.map hidD)])=some (.nx [.F (.int c),.F (.tup [.int R,.int C]),.F (.lst (rows.map hidD)),.F (.int nu),.F (.int m),.F (.int sp),.F (.int a),.F (.int wo),.un,.un]):=by
  refine E4 (ds:=[.int nu,.int m,.int sp,.int a,.int wo]) ((call_v (ak rfl (ak (Fd (ak (gN rfl) (ak rfl (ak rfl (ak rfl (ak rfl aQ)))))) aQ))).trans ?_) rfl;rw[c_];exact h1
 obtain⟨⟨c1,c2⟩⟩:Nonempty ((yX R C).Nodup/\(yX R C).length<=20):=⟨Au ⟨R,by lia⟩ ⟨C,by lia⟩⟩;obtain⟨qs,o1,o2⟩:=sT (c+1) (yX R C) (by lia);have hq:qs.length<=20:=by rw[o2.length_eq];exact c2
 have nq:qs.Nodup:=o2.nodup_iff.mpr c1;have nc:(qs.take m).Nodup:=(RV m qs).nodup nq;have lc:(qs.take m).length<=20:=by rw[QY];lia
 have e2:setF 8 (CI gW (λenv=>((ae (au addI ag TU) (ae (λenv=>((ae ai fNil) env).bind m__law_sheet_cells) fNil)) env).bind m__law_order) oNone (jc aT)) [.F (.int c),.F (.tup [.int R,.int C]),.F (.lst (rows.map hidD)),.F (.int nu),.F (.int m),.F (.int sp),.F (.int a),.F (.int wo),.un,.un]=some (.nx [.F (.int c),.F (.tup [.int R,.int C]),.F (.lst (rows.map hidD)),.F (.int nu),.F (.int m),.F (.int sp),.F (.int a),.F (.int wo),.F (.lst ((qs.take m).map cel)),.un]):=by
  rw[SL];exact aX (Fz (m:=m) ((call_v (ak ((aS rfl rfl).trans (gy _ _)) (ak ((call_v rfl).trans (zP R C hR hC)) aQ))).trans o1) rfl)
 obtain⟨rd,i1,i2⟩:=uy (xs:=rows.map hidD) (i:=nu) b0.1 (by rw[c_];exact b0.2);obtain⟨yJ,hr,rfl⟩:=v_.mp i2;have gd:=hg yJ hr;have an:=hJ yJ (λs hs=>by have:=gd.sz s hs;lia) (by have:=gd.len;lia) gd.ap (qs.take m) (by lia) nc;have e3:setO 9 (λenv=>((ae (au aM aK aD) (ae dJ fNil)) env).bind m__law_answers) [.F (.int c),.F (.tup [.int R,.int C]),.F (.lst (rows.map hidD)),.F (.int nu),.F (.int m),.F (.int sp),.F (.int a),.F (.int wo),.F (.lst ((qs.take m).map cel)),.un]=some (.nx [.F (.int c),.F (.tup [.int R,.int C]),.F (.lst (rows.map hidD)),.F (.int nu),.F (.int m),.F (.int sp),.F (.int a),.F (.int wo),.F (.lst ((qs.take m).map cel)),.O (.L ((walk yJ [] (qs.take m)).map .str))]):=eT ((call_v (ak (ed rfl rfl i1) (ak rfl aQ))).trans an);have wl:((walk yJ [] (qs.take m)).map D.str).length=(qs.take m).length:=by rw[c_,hG]
 have ws:∀d∈(walk yJ [] (qs.take m)).map D.str,∃w:Str,d=.str w:=λd hd=>by obtain⟨w,_,rfl⟩:=v_.mp hd;exact⟨w,rfl⟩
 generalize hA:(walk yJ [] (qs.take m)).map D.str=as at e3 wl ws;clear hA an;generalize hQ:qs.take m=cs at *;have fin:∀bs:TM,(∀d∈bs,∃w:Str,d=.str w)->(aF (sg 9) (bw (au AN dJ fA))) [.F (.int c),.F (.tup [.int R,.int C]),.F (.lst (rows.map hidD)),.F (.int nu),.F (.int m),.F (.int sp),.F (.int a),.F (.int wo),.F (.lst (cs.map cel)),.O (.L bs)]=some (.rt (.lst (pairs (cs.map cel) bs))):=λbs hb=>by
  refine(ar (show sg 9 _=some (.nx [.F (.int c),.F (.tup [.int R,.int C]),.F (.lst (rows.map hidD)),.F (.int nu),.F (.int m),.F (.int sp),.F (.int a),.F (.int wo),.F (.lst (cs.map cel)),.F (.lst bs)])from rfl)).trans (bT ((aS rfl rfl).trans ?_));show(if(cs.map cel).length<=1000000 then _ else _)=_;rw[g_ (by rw[c_];lia)]
 have done:∀bs:TM,(∀d∈bs,∃w:Str,d=.str w)->bs.length=cs.length->∃rec:Rec,pairs (cs.map cel) bs=rec.map aY/\rec.length<=20/\(rec.map Prod.fst).Nodup:=λbs hb hbl=>by
  obtain⟨ws,rfl⟩:=vV bs hb;rw[c_]at hbl;refine⟨cs.zip ws,km cs ws,by rw[List.length_zip];lia,?_⟩;rw[List.map_fst_zip (by lia)];exact nc
 have t1:fB (au eI bX TR) [.F (.int c),.F (.tup [.int R,.int C]),.F (.lst (rows.map hidD)),.F (.int nu),.F (.int m),.F (.int sp),.F (.int a),.F (.int wo),.F (.lst (cs.map cel)),.O (.L as)]=some (sp==0):=cG ((aS rfl rfl).trans (Br _ _));have t2:fB (au nY dJ (bP fNil)) [.F (.int c),.F (.tup [.int R,.int C]),.F (.lst (rows.map hidD)),.F (.int nu),.F (.int m),.F (.int sp),.F (.int a),.F (.int wo),.F (.lst (cs.map cel)),.O (.L as)]=some (!(cs.map cel).isEmpty):=cG (Cc rfl (wR cs));have t:=pz t1 λ_=>t2;cases hb:((sp==0)&&!(cs.map cel).isEmpty)with
 | false=>
  rw[hb]at t;obtain⟨rec,q1,q2,q3⟩:=done as ws wl;exact⟨rec,by rw[<- q1];exact aW ((ar e1).trans ((ar e2).trans ((ar e3).trans ((ar ((bE t).trans rfl)).trans (fin as ws))))),q2,q3⟩
 | true=>
  rw[hb]at t;have Pl:0<cs.length:=by
   cases cs with
   | nil=>simp at hb
   | cons _ _=>simp
  obtain⟨x,x1,x2⟩:=uy (xs:=PP) (i:=wo) b3.1 (by simp;lia);have xs:∃w:Str,x=.str w:=Mw (P:=λd=>∃w:Str,d=.str w) ⟨_,rfl⟩ ⟨_,rfl⟩ ⟨_,rfl⟩ x x2;have hm:=Q6 a (show(((cs.map cel).length:Nat):Int)≠0 by rw[c_];lia);have hm2:=QN a (show(0:Int)<(((cs.map cel).length:Nat):Int) by rw[c_];lia);have si:=vQ (i:=9) (fk:=au modI cN (bC cC dJ)) (fe:=au aM (bP (ae (fC (.str "water")) (ae (fC (.str "hit")) (ae (fC (.str "sunk")) fNil)))) df) (env:=[.F (.int c),.F (.tup [.int R,.int C]),.F (.lst (rows.map hidD)),.F (.int nu),.F (.int m),.F (.int sp),.F (.int a),.F (.int wo),.F (.lst (cs.map cel)),.O (.L as)]) (ds:=as) (d:=x) (ed rfl rfl x1) rfl ((aS rfl (gN rfl)).trans (hU (by rw[c_];lia))) (Ag hm (by rw[wl];rw[c_]at hm2 ⊢;exact hm2));have hs:∀d∈as.set (a%(((cs.map cel).length:Nat):Int)).toNat x,∃w:Str,d=.str w:=λd hd=>by
   rcases List.mem_or_eq_of_mem_set hd with h | h
   .exact ws d h
   .rw[h];exact xs
  obtain⟨rec,q1,q2,q3⟩:=done _ hs (by rw[SW];exact wl);exact⟨rec,by rw[<- q1];exact aW ((ar e1).trans ((ar e2).trans ((ar e3).trans ((ar ((cb t).trans si)).trans (fin _ hs))))),q2,q3⟩
theorem vf(rs:TM):m_if_not_too_many [.lst rs]=some (if 1000<rs.length then .error ("TooMany",.non)else .ok (.lst rs)):=by
 have ht:fB (au gtI (bC cC ag) (fC eQ)) [.F (.lst rs)]=some (decide ((1000:Int)<(rs.length:Int))):=rfl;show((sE (LI (fB (au gtI (bC cC ag) (fC eQ))) (ur "TooMany" (ae (fC (.str "there are more hidings than are told at once")) fNil)) (CU nxF)) (CU (bw ag)) [.F (.lst rs)]).bind _)=_;unfold sE LI;rw[ht]
 by_cases h:1000<rs.length
 .rw[g_ h,t_ (by lia)];rfl
 .rw[j_ h,B_ (by lia)];rfl
theorem vd{sh fl ru re:D}{X:List (List Sh)}(h:m_all_fitting [sh,fl,ru,re]=some (.lst (X.map hidD))):m_fitting [sh,fl,ru,re]=some (if 1000<X.length then .error ("TooMany",.non)else .ok (.lst (X.map hidD))):=by
 have e:=vf (X.map hidD);rw[c_]at e;have a:oC (Io (ae (λenv=>((ae ag (ae ai (ae aK (ae aD fNil)))) env).bind m_all_fitting) fNil)) m_if_not_too_many [.F sh,.F fl,.F ru,.F re]=some (if 1000<X.length then .error ("TooMany",.non)else .ok (.lst (X.map hidD))):=by
  unfold oC Io;rw[ak ((call_v rfl).trans h) aQ];exact e
 show((B8 _ [.F sh,.F fl,.F ru,.F re]).bind _)=_;unfold B8;rw[a]
 by_cases z:1000<X.length
 .rw[g_ z];rfl
 .rw[j_ z];rfl
theorem Ep{sh fl ru re:D}{X:List (List Sh)}(h:m_all_fitting [sh,fl,ru,re]=some (.lst (X.map hidD))):m__law_told [.tup [sh,fl,ru],re]=some (if 1000<X.length then iY "TooMany" else .lst (X.map hidD)):=by
 have b:oC (Io (ae (au aM ag TR) (ae (au aM ag TU) (ae (au aM ag TV) (ae ai fNil))))) m_fitting [.F (.tup [sh,fl,ru]),.F re,.F .non,.un]=m_fitting [sh,fl,ru,re]:=rfl;show(((yT cs_ 3 2 (Cm 2 _) [.F (.tup [sh,fl,ru]),.F re,.F .non,.un]).bind _).bind _)=_;unfold yT Cm;rw[b,vd h]
 by_cases z:1000<X.length
 .rw[g_ z,g_ z];show(((if("TooMany":Str)∈cs_ then _ else none:Option EH)).bind _).bind _=_;rw[g_ (by unfold cs_;exact f_)]
  rfl
 .rw[j_ z,j_ z];rfl
theorem De:m__law_only [.str "many"]=some (iY "TooMany"):=by rfl
theorem zj(xs:List (List Sh)):dh (.lst (xs.map hidD))<=60:=w_ (lB λd hd=>by
 obtain⟨h,_,rfl⟩:=v_.mp hd;refine ji (n:=1) λd hd=>?_;obtain⟨s,_,rfl⟩:=v_.mp hd;refine ji λd hd=>?_;simp only[p_,Qd,Rx]at hd;rcases hd with rfl | rfl | rfl | rfl
 .rw[du];exact m_ _
 .rw[du];exact m_ _
 .rw[ib];exact m_ _
 .rw[du];exact m_ _) @1
theorem Ed(xs:List (List Sh)):pl (.lst (xs.map hidD))=true:=by
 unfold pl;refine gg xs λh _=>?_;unfold hidD pl;exact gg h λs _=>by obtain⟨a,b,dn,n⟩:=s;rfl
theorem Bj(h:List Sh)(hd:Hid R C fl h)(rec:Rec)(hr:rec.length<=500)(nd:(rec.map Prod.fst).Nodup):m__law_fits [hidD h,.lst (rec.map aY)]=some (.bl (jC h rec)):=by
 have c0:aO (cS ai) [0] (bu 0) T1 (aG (au aM ag TR)) 1 [] [.F (hidD h),.F (.lst (rec.map aY))]=some (.lst ((rec.map Prod.fst).map cel)):=by
  rw[P3];exact aZ (br rfl) rfl (ck aY (λx=>cel x.1) rec λx _=>⟨[.F (aY x)],rfl,dm (qG (i:=0) (ds:=[cel x.1,.str x.2]) rfl rfl rfl)⟩) (by rw[c_];lia)
 have c1:aO (cS ai) [0] (bu 0) T1 (aG (au aM ag TU)) 1 [] [.F (hidD h),.F (.lst (rec.map aY))]=some (.lst ((rec.map Prod.snd).map .str)):=by
  rw[P3];exact aZ (br rfl) rfl (ck aY (λx=>.str x.2) rec λx _=>⟨[.F (aY x)],rfl,dm (qG (i:=1) (ds:=[cel x.1,.str x.2]) rfl rfl rfl)⟩) (by rw[c_];lia)
 have la:=hJ h (λs hs=>by have:=hd.sz s hs;lia) (by have:=hd.len;lia) hd.ap (rec.map Prod.fst) (by rw[c_];lia) nd;exact aW (bT (CD ((call_v (ak rfl (ak c0 aQ))).trans la) c1 (CM (tK _) (by rw[lh,lh];rfl)) (v3 _ _)))
theorem Gu(bs:List Bool):gA (bs.map .bl)=true:=gg bs λb _=>by unfold pl;rfl
theorem Bg(rec:Rec):gA (rec.map aY)=true:=gg rec λx _=>rfl
theorem Da(x:Pt×Str):dh (aY x)<=2:=ji (n:=1) λd hd=>by
 rcases p_.mp hd with rfl | hd
 .exact ji (n:=0) λd hd=>by
   rcases p_.mp hd with rfl | hd
   .rw[du];exact m_ _
   .cases C_.mp hd;rw[du];exact m_ _
 .cases C_.mp hd;rw[ib];lia
theorem tS(rec:Rec):dh (.lst (rec.map aY))<=60:=w_ (lB (n:=2) λd hd=>by obtain⟨x,_,rfl⟩:=v_.mp hd;exact Da x) @1
theorem w4(rec:Rec):pl (.lst (rec.map aY))=true:=by unfold pl;exact Bg rec
theorem lK(h1:f env=some d)(h2:g env=some d)(hd:dh d<=60)(hp:pl d=true):au nY f g env=some (.bl false):=Hz h1 h2 (CM hd (by rw[hp];rfl)) (rR d hp)
theorem ud(c:Str):dh (iY c)<=60/\pl (iY c)=true:=by
 unfold iY;exact⟨w_ (lB (n:=0) λd hd=>by obtain⟨b,_,rfl⟩:=v_.mp hd;rw[FV];exact m_ _) @1,by unfold pl;exact Gu _⟩
theorem mJ(f:α->D)(h:∀x,flt (f x)=true):∀xs:List α,hX (xs.map f)=true
 | []=>by unfold hX;rfl
 | x::xs=>by
  rw[N_];unfold hX;rw[h x,mJ f h xs];rfl
theorem pB(h:hX ds=true):flt (.tup ds)=true:=by unfold flt;exact h
theorem sx(p:Pt):flt (cel p)=true:=by
 unfold cel;refine pB ?_;unfold hX flt hX flt hX;rfl
theorem Ec(x:Pt×Str):flt (aY x)=true:=by
 unfold aY;refine pB ?_;unfold hX;rw[sx];unfold hX flt hX;rfl
theorem Hi(fl:Tf):flt (ju fl)=true:=by
 unfold ju;exact pB (mJ _ (λn=>by unfold flt;rfl) fl)
theorem AS(h:flt d=true):gF (.F d)=.F d:=by unfold gF;dsimp only;rw[g_ h]
theorem Cb{sh fl ru re:D}{X:List (List Sh)}(h:m_all_fitting [sh,fl,ru,re]=some (.lst (X.map hidD))):m_how_many_fit [sh,fl,ru,re]=some (.int X.length):=
 aW (bT ((gN ((call_v (ak rfl (ak rfl (ak rfl (ak rfl aQ))))).trans h)).trans (by rw[c_])))
theorem Bl(hn:noO env=true/\jf<env.length)(h0:env[ih]?=some (.F (.lst ds)))(hf:hX ds=true)(h1:f1 ((qN env).set ih (.F (.lst ds)))=some (.lst xs))(hi:d7 xs ds=true)(hl:xs.length<=1000000)(h2:t2 (env.set jf (.F (.lst xs)))=some false):jq ih jf f1 t2 env=some (.nx (env.set jf .un)):=by
 unfold jq;rw[g_ hn,h0];show(if hX ds=true then _ else _)=_;rw[g_ hf,h1];show(if d7 xs ds=true/\xs.length<=1000000 then _ else _)=_;rw[g_ ⟨hi,hl⟩,h2]
 rfl
theorem Ds(h:List Sh)(x:Pt×Str):inc (hidD h) (aY x)=true:=by
 unfold hidD aY inc
 match h with
 | []=>rfl
 | [s]=>show d7 [s.d] [cel x.1,.str x.2]=true;unfold d7;rw[show d7 [] [D.str x.2]=true from rfl,Qw]
 | s::t::r=>
  show d7 (s.d::t.d::r.map Sh.d) [cel x.1,.str x.2]=true;unfold d7;have e:inc t.d (.str x.2)=true:=rfl;rw[show d7 (t.d::r.map Sh.d) [D.str x.2]=(inc t.d (.str x.2)||d7 (r.map Sh.d) [])from by unfold d7;rfl,e,SS,Qw]
theorem zI(X:List (List Sh))(rec:Rec)(h:rec=[]->X≠[]):d7 (X.map hidD) (rec.map aY)=true:=by
 match X,rec with
 | [],[]=>exact absurd rfl (h rfl)
 | [],x::r=>rfl
 | a::X,[]=>rfl
 | a::X,x::r=>rw[N_,N_];unfold d7;rw[Ds,SS]
theorem Dp(b:Bool)(bs:List Bool)(rec:Rec):d7 ((b::bs).map .bl) (rec.map aY)=true:=by
 match rec with
 | []=>rfl
 | x::r=>
  rw[N_,N_];unfold d7;rw[show inc (.bl b) (aY x)=true from rfl,SS]
abbrev LO:Str:="TooMany"
theorem Jd{n:Nat}(h:n<=1000):n<=16000000:=by lia
theorem MZ{n:Nat}(h:n<=1000):n<16000000:=by lia
def dS(Y:List (List Sh)):TM:=if 1000<Y.length then(jX LO).map .bl else Y.map hidD
abbrev eL(sc:D)(c:Int)(R C:Nat)(fl:Tf)(ru:Str)(rows rs hi cs:D)(rec:Rec)(i4 i5 d4 d6:Slot):En:=
 [.F sc,.F (.int c),.F (.tup [.int R,.int C]),.F (ju fl),.F (.str ru),.F rows,.F rs,.F hi,.F cs,.F (.lst (rec.map aY)),i4,i5,d4,d6]
theorem zx(Y:List (List Sh)):dh (.lst (dS Y))<=60/\pl (.lst (dS Y))=true:=by
 unfold dS
 split
 .exact ud LO
 .exact⟨zj Y,Ed Y⟩
theorem DZ(Y:List (List Sh))(rec:Rec)(h:rec=[]->Y≠[]):d7 (dS Y) (rec.map aY)=true:=by
 unfold dS
 split
 .exact Dp _ _ rec
 .exact zI Y rec h
theorem Ca(Y:List (List Sh))(h:Y.length<=64000):(dS Y).length<=1000000:=by
 unfold dS
 split
 .rw[c_];exact w_ (show(jX LO).length<=1000 from Ro rfl) (by lia)
 .rw[c_];lia
theorem Es(pl:PL R C fl ru)(hne:bg R C ru fl fl.length≠[])(sc:D)(c:Int)(rows rs hi cs:D)(rec:Rec)(hr:rec.length<=20)(nd:(rec.map Prod.fst).Nodup)(k:D)(d4:Slot)
  (BV:noO (eL sc c R C fl ru rows rs hi cs rec (.F (.lst (dS ((bg R C ru fl fl.length).filter λh=>jC h rec)))) (.F (.lst (rec.map aY))) d4 (.F k))=true) :
  lq (eL sc c R C fl ru rows rs hi cs rec (.F (.lst (dS ((bg R C ru fl fl.length).filter λh=>jC h rec)))) (.F (.lst (rec.map aY))) d4 (.F k))=some (.nx (eL sc c R C fl ru rows rs hi cs rec (.F (.lst (dS ((bg R C ru fl fl.length).filter λh=>jC h rec)))) (.F (.lst (rec.map aY))) .un (.F k))):=by
 obtain⟨X,x1,x2⟩:=pl.fitting rec (by lia) nd;subst x2;have Ln:((bg R C ru fl fl.length).filter λh=>jC h rec).length<=64000:=w_ (M_ _ _) pl.len;have ne:rec=[]->(bg R C ru fl fl.length).filter (λh=>jC h rec)≠[]:=λz=>by
  subst z;rw[Si.mpr λh _=>by unfold jC;rfl];exact hne
 have to:=Ep x1;generalize (bg R C ru fl fl.length).filter (λh=>jC h rec)=Y at Ln ne to BV ⊢;have to:m__law_told [.tup [.tup [.int R,.int C],ju fl,.str ru],.lst (rec.map aY)]=some (.lst (dS Y)):=by
  rw[to];unfold dS
  by_cases z:1000<Y.length
  .rw[g_ z,g_ z];rfl
  .rw[j_ z,j_ z]
 have go:=zx Y;have ic:=DZ Y rec ne;have le:=Ca Y Ln;generalize dS Y=L at to go ic le BV ⊢;have m2:gF (.F (.tup [.int R,.int C]))=.F (.tup [.int R,.int C]):=AS (sx ((R:Int),(C:Int)));have m3:gF (.F (ju fl))=.F (ju fl):=AS (Hi fl);have m4:gF (.F (.str ru))=.F (.str ru):=AS (by unfold flt;rfl);have f1:(λenv=>((ae (bt (ae aK (ae aD (ae aT fNil)))) (ae gK fNil)) env).bind m__law_told) ((qN (eL sc c R C fl ru rows rs hi cs rec (.F (.lst L)) (.F (.lst (rec.map aY))) d4 (.F k))).set 11 (.F (.lst (rec.map aY))))=some (.lst L):=by
  have e:(qN (eL sc c R C fl ru rows rs hi cs rec (.F (.lst L)) (.F (.lst (rec.map aY))) d4 (.F k))).set 11 (.F (.lst (rec.map aY)))=[gF (.F sc),gF (.F (.int c)),.F (.tup [.int R,.int C]),.F (ju fl),.F (.str ru),gF (.F rows),gF (.F rs),gF (.F hi),gF (.F cs),gF (.F (.lst (rec.map aY))),gF (.F (.lst L)),.F (.lst (rec.map aY)),gF d4,gF (.F k)]:=by
   rw[<- m2,<- m3,<- m4];rfl
  rw[e];exact(call_v (ak (mK (ak rfl (ak rfl (ak rfl aQ)))) (ak rfl aQ))).trans to
 refine(Bl (ds:=rec.map aY) (xs:=L) ⟨BV,by simp⟩ rfl (mJ _ Ec rec) f1 ic le ?_).trans rfl;exact o5 (p:=false) (q:=false) rfl λ_=>o5 (p:=false) (q:=false) (cG (lK rfl rfl go.1 go.2)) λ_=>cG (lK rfl rfl (tS rec) (w4 rec))
theorem uW(pl:PL R C fl ru)(hne:bg R C ru fl fl.length≠[])(sc:D)(c:Int)(rs hi cs:D)(rec:Rec)(hr:rec.length<=20)(nd:(rec.map Prod.fst).Nodup)(i4 i5 d4 d6:Slot) :
  ∃BN BO uc t13,pN (eL sc c R C fl ru (.lst ((bg R C ru fl fl.length).map hidD)) rs hi cs rec i4 i5 d4 d6)=some (.nx (eL sc c R C fl ru (.lst ((bg R C ru fl fl.length).map hidD)) rs hi cs rec BN BO uc t13)):=by
 obtain⟨X,x1,x2⟩:=pl.fitting rec (by lia) nd;subst x2;have mn:=Cb x1;have tu:=λk d4 h=>Es pl hne sc c (.lst ((bg R C ru fl fl.length).map hidD)) rs hi cs rec hr nd k d4 h;have Ln:((bg R C ru fl fl.length).filter λh=>jC h rec).length<=64000:=w_ (M_ _ _) pl.len;have g:=dH (t:=bu 0) (c:=fB (λenv=>((ae ag (ae ai fNil)) env).bind m__law_fits)) (k:=aG ag) (env:=[.un,.F (.lst (rec.map aY))]) hidD hidD (λh=>jC h rec) (bg R C ru fl fl.length) λh hh=>⟨[.F (hidD h),.F (.lst (rec.map aY))],rfl,cG ((call_v (ak rfl (ak rfl aQ))).trans (Bj h (pl.hid hh) rec (by lia) nd)),λ_=>rfl⟩;generalize (bg R C ru fl fl.length).filter (λh=>jC h rec)=Y at Ln mn tu g;generalize hrw:(bg R C ru fl fl.length).map hidD=rows at *;obtain⟨e2,l1,uc,t13,rfl⟩:∃e2,cu (bu 13) lq (aI 0 2) (eL sc c R C fl ru (.lst rows) rs hi cs rec (.F (.lst (dS Y))) (.F (.lst (rec.map aY))) (.F (.int Y.length)) d6)=some (.nx e2)/\∃uc t13,e2=eL sc c R C fl ru (.lst rows) rs hi cs rec (.F (.lst (dS Y))) (.F (.lst (rec.map aY))) uc t13:=by
  obtain⟨e2,l1,uc,t13,rfl,_⟩:=jd (t:=bu 13) (body:=lq) (λe=>∃d4 d6,e=eL sc c R C fl ru (.lst rows) rs hi cs rec (.F (.lst (dS Y))) (.F (.lst (rec.map aY))) d4 d6/\(d4=.F (.int Y.length)\/d4=.un)) (aI 0 2) (eL sc c R C fl ru (.lst rows) rs hi cs rec (.F (.lst (dS Y))) (.F (.lst (rec.map aY))) (.F (.int Y.length)) d6) ⟨_,_,rfl,.inl rfl⟩ λd hd e aA=>by
   obtain⟨d4,d6,rfl,h⟩:=aA;rcases h with rfl | rfl
   .exact⟨_,fD (e0:=eL sc c R C fl ru (.lst rows) rs hi cs rec (.F (.lst (dS Y))) (.F (.lst (rec.map aY))) (.F (.int Y.length)) (.F d)) rfl (tu d _ rfl),_,_,rfl,.inr rfl⟩
   .exact⟨_,fD (e0:=eL sc c R C fl ru (.lst rows) rs hi cs rec (.F (.lst (dS Y))) (.F (.lst (rec.map aY))) .un (.F d)) rfl (tu d _ rfl),_,_,rfl,.inr rfl⟩
  exact⟨_,l1,_,_,rfl⟩
 refine⟨.F (.lst (dS Y)),.F (.lst (rec.map aY)),uc,t13,?_⟩;refine(ar (aX (aZ (br rfl) rfl g (by rw[c_];lia)))).trans ?_;refine(ar (aX (CV rfl))).trans ?_;refine(ar (aX ((call_v (ak rfl (ak rfl (ak rfl (ak rfl aQ))))).trans mn))).trans ?_;refine(ar ((bE (o5 (p:=false) (q:=false) rfl λ_=>o5 (p:=false) (q:=false) (cG ((aS rfl (gN rfl)).trans ((Jb _ _).trans (by rw[c_];simp)))) λ_=>cG (lK rfl rfl (tS rec) (w4 rec)))).trans rfl)).trans ?_;have tt:∀e:En,da e 10=some (.lst (Y.map hidD))->fB (au gtI (bC cC hW) (fC (.int 1000))) e=some (decide (1000<Y.length)):=λe he=>cG ((aS (gN he) rfl).trans ((Dt _ _).trans (by
  rw[c_]
  by_cases z:1000<Y.length
  .rw[t_ z,t_ (by lia)]
  .rw[B_ z,B_ (by lia)])))
 by_cases z:1000<Y.length
 .have e:dS Y=(jX LO).map .bl:=by unfold dS;rw[g_ z]
  rw[e]at l1 ⊢;refine(ar ((cb ((tt _ rfl).trans (by rw[t_ z]))).trans (aX ((call_v (ak rfl aQ)).trans De)))).trans ?_;exact(bY (cZ (n:=2) rfl (by lia))).trans l1
 .have e:dS Y=Y.map hidD:=by unfold dS;rw[j_ z]
  rw[e]at l1 ⊢;refine(ar ((bE ((tt _ rfl).trans (by rw[B_ z]))).trans rfl)).trans ?_;exact(bY (cZ (n:=2) rfl (by lia))).trans l1
def kC(rs:List Rec):TM:=rs.map λr=>.lst (r.map aY)
theorem GN(sc:D)(c:Int)(s2 s3 s4 s5 s6 s7 s8 s9 i4 i5 d4 d6:Slot) :
  ∃t2 t3 t4 t5 t6 t7 t8 t9 BN BO uc t13,pR [.F sc,.F (.int c),s2,s3,s4,s5,s6,s7,s8,s9,i4,i5,d4,d6]=some (.nx [.F sc,.F (.int c),t2,t3,t4,t5,t6,t7,t8,t9,BN,BO,uc,t13]):=by
 obtain⟨R,C,fl,ru,p1,pl,hne⟩:=xy c;have start:yH [2,3,4,5] (λenv=>((ae ai fNil) env).bind m__law_played) [.F sc,.F (.int c),s2,s3,s4,s5,s6,s7,s8,s9,i4,i5,d4,d6]=some (.nx [.F sc,.F (.int c),.F (.tup [.int R,.int C]),.F (ju fl),.F (.str ru),.F (.lst ((bg R C ru fl fl.length).map hidD)),s6,s7,s8,s9,i4,i5,d4,d6]):=l9 ((call_v (ak rfl aQ)).trans p1) rfl;have rk:=λk:Nat=>xn (c+(k:Int)) R C pl.r4 pl.c5 fl (bg R C ru fl fl.length) hne pl.len λh hh=>pl.hid hh;have ⟨rf,L9⟩:∃rf:Nat->Rec,∀k:Nat,m__law_record [.int (c+(k:Int)),.tup [.int R,.int C],.lst ((bg R C ru fl fl.length).map hidD)]=some (.lst ((rf k).map aY))/\(rf k).length<=20/\((rf k).map Prod.fst).Nodup:=⟨λk=>Classical.choose (rk k),λk=>Classical.choose_spec (rk k)⟩;have g:=ck (t:=bu 0) (k:=aG (λenv=>((ae (au addI ai ag) (ae aK (ae aD fNil))) env).bind m__law_record)) (env:=[.un,.F (.int c),.F (.tup [.int R,.int C]),.F (.lst ((bg R C ru fl fl.length).map hidD))]) (λi:Nat=>D.int (i:Int)) (λi:Nat=>.lst ((rf i).map aY)) (List.range 3) λi _=>⟨[.F (.int (i:Int)),.F (.int c),.F (.tup [.int R,.int C]),.F (.lst ((bg R C ru fl fl.length).map hidD))],rfl,dm ((call_v (ak ((aS rfl rfl).trans (gy _ _)) (ak rfl (ak rfl aQ)))).trans (L9 i).1)⟩;have r3:List.range 3=[0,1,2]:=rfl;rw[r3]at g;have it3:fg TY [.F sc,.F (.int c),.F (.tup [.int R,.int C]),.F (ju fl),.F (.str ru),.F (.lst ((bg R C ru fl fl.length).map hidD)),s6,s7,s8,s9,i4,i5,d4,d6]=some ([0,1,2].map λi:Nat=>D.int (i:Int)):=by
  rw[cZ (n:=3) rfl (by lia),A8,r3]
 have lg:(([0,1,2]:Tf).map λi:Nat=>D.lst ((rf i).map aY)).length<=16000000:=by
  rw[c_];exact Jd (Ro rfl)
 have g':=aZ (is:=[0]) (n:=1) (caps:=[1,2,5]) it3 rfl g lg;have e6:setO 6 (au nk (aO (fg TY) [0] (bu 0) T1 (aG (λenv=>((ae (au addI ai ag) (ae aK (ae aD fNil))) env).bind m__law_record)) 1 [1,2,5]) (bP (ae (bP fNil) fNil))) [.F sc,.F (.int c),.F (.tup [.int R,.int C]),.F (ju fl),.F (.str ru),.F (.lst ((bg R C ru fl fl.length).map hidD)),s6,s7,s8,s9,i4,i5,d4,d6]=some (.nx [.F sc,.F (.int c),.F (.tup [.int R,.int C]),.F (ju fl),.F (.str ru),.F (.lst ((bg R C ru fl fl.length).map hidD)),.O (.L (kC [rf 0,rf 1,rf 2,[]])),s7,s8,s9,i4,i5,d4,d6]):=
  eT ((uU (xs:=kC [rf 0,rf 1,rf 2]) (ys:=[.lst []]) g' rfl (Jd (Ro rfl))).trans rfl)
 obtain⟨⟨c1,c2⟩⟩:Nonempty ((yX R C).Nodup/\(yX R C).length<=20):=⟨Au ⟨R,by have:=pl.r4;lia⟩ ⟨C,by have:=pl.c5;lia⟩⟩;obtain⟨qs,o1,o2⟩:=sT c (yX R C) (by lia);have hq:qs.length<=20:=by rw[o2.length_eq];exact c2
 have nq:qs.Nodup:=o2.nodup_iff.mpr c1;obtain⟨z,hz⟩:=pP c 600 @1 @1;have hpos:0<(bg R C ru fl fl.length).length:=List.length_pos_iff.mpr hne;have h0:=Q6 z (show(((bg R C ru fl fl.length).length:Nat):Int)≠0 by lia);have h1:=QN z (show(0:Int)<(((bg R C ru fl fl.length).length:Nat):Int) by lia);obtain⟨ld,i1,i2⟩:=uy (xs:=(bg R C ru fl fl.length).map hidD) (i:=z%(((bg R C ru fl fl.length).length:Nat):Int)) h0 (by rw[c_];exact h1);obtain⟨l,hl,rfl⟩:=v_.mp i2;have gd:=pl.hid hl;have an:=hJ l (λs hs=>by have:=gd.sz s hs;lia) (by have:=gd.len;lia) gd.ap qs (by lia) nq;have ix:∀e:En,da e 1=some (.int c)->da e 5=some (.lst ((bg R C ru fl fl.length).map hidD))->au aM bX (au modI (λenv=>((ae ai (ae (fC (.int 600)) fNil)) env).bind m__law_stir) (bC cC bX)) e=some (hidD l):=λe K9 he=>by
  refine ed he ((aS ((call_v (ak K9 (ak rfl aQ))).trans hz) (gN he)).trans (hU (by rw[c_];lia))) ?_;rw[c_];exact i1
 have zp:∀e:En,da e 7=some (hidD l)->da e 8=some (.lst (qs.map cel))->au AN dJ (λenv=>((ae df (ae dJ fNil)) env).bind m__law_answers) e=some (.lst ((qs.zip (walk l [] qs)).map aY)):=λe h7 h8=>by
  refine(aS h8 ((call_v (ak h7 (ak h8 aQ))).trans an)).trans ?_;show(if(qs.map cel).length<=1000000 then _ else _)=_;rw[g_ (by rw[c_];lia),km]
 have full:(qs.zip (walk l [] qs)).length<=20/\((qs.zip (walk l [] qs)).map Prod.fst).Nodup:=by
  refine⟨by rw[List.length_zip];lia,?_⟩;rw[List.map_fst_zip (by rw[hG];exact m_ _)];exact nq
 generalize hfu:qs.zip (walk l [] qs)=fu at zp full;have all:∀r∈[rf 0,rf 1,rf 2,[],fu],r.length<=20/\(r.map Prod.fst).Nodup:=λr hr=>by
  simp only[p_,Qd,Rx]at hr;rcases hr with rfl | rfl | rfl | rfl | rfl
  .exact(L9 0).2
  .exact(L9 1).2
  .exact(L9 2).2
  .exact⟨by simp,by simp⟩
  .exact full
 obtain⟨e2,l1,t9,BN,BO,uc,t13,rfl⟩:=jd (t:=bu 9) (body:=pN) (λe=>∃s9 i4 i5 d4 d6,e=[.F sc,.F (.int c),.F (.tup [.int R,.int C]),.F (ju fl),.F (.str ru),.F (.lst ((bg R C ru fl fl.length).map hidD)),.F (.lst (kC [rf 0,rf 1,rf 2,[],fu])),.F (hidD l),.F (.lst (qs.map cel)),s9,i4,i5,d4,d6]) (kC [rf 0,rf 1,rf 2,[],fu]) [.F sc,.F (.int c),.F (.tup [.int R,.int C]),.F (ju fl),.F (.str ru),.F (.lst ((bg R C ru fl fl.length).map hidD)),.F (.lst (kC [rf 0,rf 1,rf 2,[],fu])),.F (hidD l),.F (.lst (qs.map cel)),s9,i4,i5,d4,d6] ⟨_,_,_,_,_,rfl⟩ λd hd e aA=>by
  obtain⟨s9,i4,i5,d4,d6,rfl⟩:=aA;obtain⟨r,hr,rfl⟩:=v_.mp hd;obtain⟨k1,k2⟩:=all r hr;obtain⟨BN,BO,uc,t13,u⟩:=uW pl hne sc c (.lst (kC [rf 0,rf 1,rf 2,[],fu])) (hidD l) (.lst (qs.map cel)) r k1 k2 i4 i5 d4 d6;exact⟨_,fD (e0:=eL sc c R C fl ru (.lst ((bg R C ru fl fl.length).map hidD)) (.lst (kC [rf 0,rf 1,rf 2,[],fu])) (hidD l) (.lst (qs.map cel)) r i4 i5 d4 d6) rfl u,_,_,_,_,_,rfl⟩
 refine⟨.F (.tup [.int R,.int C]),.F (ju fl),.F (.str ru),.F (.lst ((bg R C ru fl fl.length).map hidD)),.F (.lst (kC [rf 0,rf 1,rf 2,[],fu])),.F (hidD l),.F (.lst (qs.map cel)),t9,BN,BO,uc,t13,(ar start).trans ?_⟩;refine(ar e6).trans ?_;refine(ar (aX (ix _ rfl rfl))).trans ?_;refine(ar (aX ((call_v (ak rfl (ak ((call_v (ak rfl aQ)).trans (zP R C pl.r4 pl.c5)) aQ))).trans o1))).trans ?_;refine(ar (jB rfl (zp _ rfl rfl) (MZ (Ro rfl)))).trans ?_;refine(ar (f:=sg 6) rfl).trans ?_;exact(bY (br rfl)).trans l1
theorem law_true(ns:Tg)(hl:ns.length<=63):m_law [.lst (ns.map .int)]=some (.bl true):=by
 obtain⟨e2,g1,t1,t2,t3,t4,t5,t6,t7,t8,t9,BN,BO,uc,t13,rfl⟩:=jd (t:=bu 1) (body:=pR) (λe=>∃s1 s2 s3 s4 s5 s6 s7 s8 s9 i4 i5 d4 d6,e=[.F (.lst (ns.map .int)),s1,s2,s3,s4,s5,s6,s7,s8,s9,i4,i5,d4,d6]) ((0::ns.take 8).map .int) (bM 14 [.lst (ns.map .int)]) ⟨.un,.un,.un,.un,.un,.un,.un,.un,.un,.un,.un,.un,.un,rfl⟩ λd hd e aA=>by
  obtain⟨s1,s2,s3,s4,s5,s6,s7,s8,s9,i4,i5,d4,d6,rfl⟩:=aA;obtain⟨c,_,rfl⟩:=v_.mp hd;obtain⟨t2,t3,t4,t5,t6,t7,t8,t9,BN,BO,uc,t13,u⟩:=GN (.lst (ns.map .int)) c s2 s3 s4 s5 s6 s7 s8 s9 i4 i5 d4 d6;exact⟨_,fD (e0:=[.F (.lst (ns.map .int)),.F (.int c),s2,s3,s4,s5,s6,s7,s8,s9,i4,i5,d4,d6]) rfl u,_,_,_,_,_,_,_,_,_,_,_,_,_,rfl⟩
 refine aW ((ar ((bY (br ?_)).trans g1)).trans rfl);exact(uU (xs:=[.int 0]) (ys:=(ns.map .int).take 8) rfl (Fz (m:=8) rfl rfl) (by simp;lia)).trans (by rw[<- SL];rfl)
end K09
namespace K09
open PySem PySem.Spec PyProof.Rows L2 Mi Xc
abbrev pg:Tp:=PySem.Challenge.pw_fleethide_k09_what_fits
variable [Th]
def gt(n:Nat):TC:=pg.main.body.getD n (.Pass ⟨0,0,0,0⟩)
def st__law_stir:=gt 41
def st__law_drawn:=gt 42
def st__law_game:=gt 51
def st__law_ships:=gt 47
def st__law_cells:=gt 46
def st__law_halo:=gt 48
def st__law_free:=gt 50
def st__law_all:=gt 49
def st__law_played:=gt 52
def st__law_order:=gt 56
def st__law_sheet_cells:=gt 55
def st__law_answers:=gt 53
def st__law_record:=gt 57
def st__law_fits:=gt 54
def st_all_cells:=gt 19
def st_is_tuple_of:=gt 17
def st_is_whole:=gt 15
def st_is_size:=gt 16
def st_is_cell:=gt 18
def st_is_ship:=gt 20
def st_ships_of:=gt 21
def st_cells_of:=gt 22
def st_answer_to:=gt 34
def st_answers_of:=gt 33
def st_shot_cells:=gt 32
def st_fits:=gt 35
def st_ship_fits:=gt 36
def st_rows_between:=gt 23
def st_columns_between:=gt 24
def st_keep:=gt 25
def st_may_follow:=gt 26
def st_hidings_among:=gt 29
def st_all_fitting:=gt 37
def st_how_many_fit:=gt 38
def st__law_whole:=gt 43
def st__law_only:=gt 45
def st_if_not_too_many:=gt 30
def st_fitting:=gt 39
def st__law_told:=gt 58
def st_law:=gt 59
structure Tx(W:Wd):Prop where
 z_ValueError:W.mg "ValueError"=none
 z_all:W.mg "all"=none
 z_bool:W.mg "bool"=none
 z_enumerate:W.mg "enumerate"=none
 z_int:W.mg "int"=none
 z_isinstance:W.mg "isinstance"=none
 z_len:W.mg "len"=none
 z_list:W.mg "list"=none
 z_max:W.mg "max"=none
 z_min:W.mg "min"=none
 z_range:W.mg "range"=none
 z_sorted:W.mg "sorted"=none
 z_sum:W.mg "sum"=none
 z_tuple:W.mg "tuple"=none
 z_zip:W.mg "zip"=none
 nl:LJ W.K=true
 e_GREATEST:∃v u,W.mg "GREATEST"=some u/\RelV v u/\∀Z,Rep W.K Z lX v
 e_MOST_TOLD:∃v u,W.mg "MOST_TOLD"=some u/\RelV v u/\∀Z,Rep W.K Z eQ v
 e_WAYS:∃v u,W.mg "WAYS"=some u/\RelV v u/\∀Z,Rep W.K Z mI v
 hw:Th.h=hashStr W.w
section
variable {W:Wd}
abbrev eN(W:Wd):Prop:=W.Q 1 "_law_stir" 2 .cl m__law_stir
abbrev fV(W:Wd):Prop:=W.Q 2 "_law_drawn" 2 .nw m__law_drawn
abbrev kI(W:Wd):Prop:=W.Q 3 "_law_game" 1 .cl m__law_game
abbrev jh(W:Wd):Prop:=W.Q 1 "_law_ships" 2 .nw m__law_ships
abbrev dQ(W:Wd):Prop:=W.Q 1 "_law_cells" 1 .nw m__law_cells
abbrev kP(W:Wd):Prop:=W.Q 2 "_law_halo" 2 .nm m__law_halo
abbrev kK(W:Wd):Prop:=W.Q 1 "_law_free" 2 .cl m__law_free
abbrev lY(W:Wd):Prop:=W.Q 3 "_law_all" 3 .nw m__law_all
abbrev iH(W:Wd):Prop:=W.Q 4 "_law_played" 1 .cl m__law_played
abbrev fW(W:Wd):Prop:=W.Q 2 "_law_order" 2 .nw m__law_order
abbrev cJ(W:Wd):Prop:=W.Q 1 "_law_sheet_cells" 1 .nw m__law_sheet_cells
abbrev cV(W:Wd):Prop:=W.Q 2 "_law_answers" 2 .nw m__law_answers
abbrev iJ(W:Wd):Prop:=W.Q 3 "_law_record" 3 .cl m__law_record
abbrev kM(W:Wd):Prop:=W.Q 3 "_law_fits" 2 .cl m__law_fits
abbrev kn(W:Wd):Prop:=W.Q 1 "all_cells" 1 .nw m_all_cells
abbrev eV(W:Wd):Prop:=W.Q 1 "is_tuple_of" 2 .cl m_is_tuple_of
abbrev iN(W:Wd):Prop:=W.Q 1 "is_whole" 1 .cl m_is_whole
abbrev nZ(W:Wd):Prop:=W.Q 2 "is_size" 1 .cl m_is_size
abbrev o7(W:Wd):Prop:=W.Q 2 "is_cell" 2 .cl m_is_cell
abbrev oM(W:Wd):Prop:=W.Q 3 "is_ship" 2 .cl m_is_ship
abbrev me(W:Wd):Prop:=W.Q 4 "ships_of" 2 .nw m_ships_of
abbrev fU(W:Wd):Prop:=W.Q 1 "cells_of" 1 .nw m_cells_of
abbrev kF(W:Wd):Prop:=W.Q 1 "answer_to" 3 .cl m_answer_to
abbrev jt(W:Wd):Prop:=W.Q 2 "answers_of" 2 .nw m_answers_of
abbrev jD(W:Wd):Prop:=W.Q 1 "shot_cells" 1 .nw m_shot_cells
abbrev zD(W:Wd):Prop:=W.Q 3 "fits" 2 .cl m_fits
abbrev kH(W:Wd):Prop:=W.Q 4 "ship_fits" 2 .cl m_ship_fits
abbrev gJ(W:Wd):Prop:=W.Q 1 "rows_between" 2 .cl m_rows_between
abbrev eR(W:Wd):Prop:=W.Q 1 "columns_between" 2 .cl m_columns_between
abbrev yN(W:Wd):Prop:=W.Q 2 "keep" 3 .cl m_keep
abbrev jv(W:Wd):Prop:=W.Q 3 "may_follow" 3 .cl m_may_follow
abbrev gB(W:Wd):Prop:=W.Q 7 "hidings_among" 2 .nw gx
abbrev eZ(W:Wd):Prop:=W.Q 8 "all_fitting" 4 .nw m_all_fitting
abbrev gQ(W:Wd):Prop:=W.Q 9 "how_many_fit" 4 .cl m_how_many_fit
abbrev jA(W:Wd):Prop:=W.Q 1 "_law_whole" 1 .cl m__law_whole
abbrev ko(W:Wd):Prop:=W.Q 1 "_law_only" 1 .nw m__law_only
abbrev eJ(W:Wd):Prop:=W.QX 3 "if_not_too_many" 1 m_if_not_too_many
abbrev om(W:Wd):Prop:=W.QX 9 "fitting" 4 m_fitting
abbrev kJ(W:Wd):Prop:=W.Q 10 "_law_told" 2 .cl m__law_told
theorem qR(h:W.At "_law_stir" st__law_stir)(T:Tx W):eN W:=gH ["cell","k","number"] 2 h λ_ _ _ _ _ _ _ hr hN=>(ao (a9 2 (oR (a8 (a8 (cE (aa 0) (wL aj aj)) (oR aj (aa 1))) aj) aj) hN) (ao (a9 2 (cE (aa 2) aj) hN) (aB (aV (AA (cE (wL (a8 (wL (aa 2) aj) (oR aj (aa 1))) aj) aj) aj)))))
theorem nP(h:W.At "_law_drawn" st__law_drawn)(T:Tx W)(dN:eN W):fV W:=gH ["cell","sizes","found","rest","k"] 2 h λ_ _ _ _ _ _ _ hr hN=>(ao (eU 2 (bN aq) hN) (ao (a9 3 (aa 0) hN) (ao (cO H_ rfl (bJ T.z_range (eH T.z_len (aa 1))) (aN 4 hN) (aB (dZ (Ff (w_or (Mm (aa 0) (wL aj aj)) (wb (iB hr (aa 3) aj)))) (aB (ky 2 (cE (aR dN hr (af (aa 0) (af (aa 4) aq))) (aP (aa 1) (aa 4))))) (ao (ky 2 (cE (aa 3) (aP (aa 1) (aa 4)))) (aB (a9 3 (AA (aa 3) (aP (aa 1) (aa 4))) hN)))))) (aB (iO 2)))))
theorem qm(h:W.At "_law_game" st__law_game)(T:Tx W)(gu:fV W):kI W:=gH ["cell","way","rows","columns","first","second","third","rule","sheet","fleet"] 1 h λ_ _ _ _ _ _ _ hr hN=>(ao (E7 rfl (bH (aR gu hr (af (aa 0) (af (bH (bN (af aj (af aj (af aj (af aj (af aj (af aj (af aj aq))))))))) aq)))) (ax 1 hN (ax 2 hN (ax 3 hN (ax 4 hN (ax 5 hN (ax 6 hN (ax 7 hN bL)))))))) (ao (a9 8 (aP (bN (af (be (af (a8 aj (aa 2)) (af (a8 aj (aa 3)) aq))) (af (be (af (a8 aj (cE (aa 2) aj)) (af (a8 aj (cE (aa 3) aj)) aq))) (af (be (af (a8 aj (cE (aa 2) aj)) (af (a8 aj (cE (aa 3) aj)) aq))) aq)))) (JZ T.z_min rfl (aa 1) aj)) hN) (ao (dZ (iB hr (aa 1) aj) (aB (a9 8 (be (af aj (af (a8 aj (aa 3)) aq))) hN)) bZ) (ao (a9 9 (aP (bN (af (be (af (a8 aj (aa 4)) aq)) (af (be (af (a8 aj (cE (aa 4) aj)) (af (a8 aj (cE (aa 5) aj)) aq))) (af (be (af (a8 aj (cE (aa 4) aj)) (af (a8 aj (cE (aa 5) aj)) (af (a8 aj (cE (aa 6) aj)) aq)))) aq)))) (cE (aa 1) aj)) hN) (ao (dZ (iB hr (aa 1) aj) (aB (a9 9 (be (af (a8 aj (cE (aa 4) aj)) (af (a8 aj (cE (aa 5) aj)) (af (a8 aj (cE (aa 6) aj)) aq)))) hN)) bZ) (ao (a9 9 (Dm T.z_tuple (Ko (zk T.z_sorted (aa 9)))) hN) (aB (aV (be (af (aa 8) (af (aa 9) (af (aP (bN (af bf (af bf (af bf aq)))) (aa 7)) aq))))))))))))
theorem nA(h:W.At "_law_ships" st__law_ships)(T:Tx W):jh W:=gH ["sheet","length","found","row","column"] 2 h λ_ _ _ _ _ _ _ hr hN=>(ao (eU 2 (bN aq) hN) (ao (cO H_ rfl (bJ T.z_range (aP (aa 0) aj)) (aN 3 hN) (aB (cO H_ rfl (bJ T.z_range (aP (aa 0) aj)) (aN 4 hN) (ao (dZ (Jk (a8 (aa 4) (aa 1)) (aP (aa 0) aj)) (aB (ky 2 (be (af (aa 3) (af (aa 4) (af bf (af (aa 1) aq))))))) bZ) (aB (dZ (Ff (w_and (Jk (a8 (aa 3) (aa 1)) (aP (aa 0) aj)) (pG (GP (aa 1) aj)))) (aB (ky 2 (be (af (aa 3) (af (aa 4) (af bf (af (aa 1) aq))))))) bZ)))))) (aB (iO 2))))
theorem nz(h:W.At "_law_cells" st__law_cells)(T:Tx W):dQ W:=gH ["ship","row","column","way","length","found","k"] 1 h λ_ _ _ _ _ _ _ hr hN=>(ao (uG rfl (aa 0) (ax 1 hN (ax 2 hN (ax 3 hN (ax 4 hN bL))))) (ao (eU 5 (bN aq) hN) (ao (cO H_ rfl (bJ T.z_range (aa 4)) (aN 6 hN) (aB (ky 5 (be (af (a8 (aa 1) (oR (aa 6) (vp T.z_int (sd hr (aa 3) bf)))) (af (a8 (aa 2) (oR (aa 6) (vp T.z_int (sd hr (aa 3) bf)))) aq)))))) (aB (iO 5)))))
theorem qk(h:W.At "_law_halo" st__law_halo)(T:Tx W)(cq:dQ W):kP W:=gH ["rule","ship","found","steps","row","column","down","right"] 2 h λ_ _ _ _ _ _ _ hr hN=>(ao (GE 2 (GA T.hw) hN) (ao (a9 3 (bH (bN (af (be (af aj (af aj aq))) aq))) hN) (ao (dZ (uv hr (aa 0) bf) (aB (a9 3 (bH (jM (aa 3) (bN (af (be (af aj (af aj aq))) (af (be (af aj (af aj aq))) (af (be (af aj (af (lQ aj) aq))) (af (be (af (lQ aj) (af aj aq))) aq))))))) hN)) bZ) (ao (dZ (iB hr (aa 0) bf) (aB (a9 3 (bH (jM (aa 3) (bN (af (be (af aj (af aj aq))) (af (be (af aj (af (lQ aj) aq))) (af (be (af (lQ aj) (af aj aq))) (af (be (af (lQ aj) (af (lQ aj) aq))) aq))))))) hN)) bZ) (ao (cO H_ rfl (aU (bH (aR cq hr (af (aa 1) aq)))) (fM rfl (ax 4 hN (ax 5 hN bL))) (aB (cO H_ rfl (aU (aa 3)) (fM rfl (ax 6 hN (ax 7 hN bL))) (aB (Gc 2 T.hw hr ny (be (af (a8 (aa 4) (aa 6)) (af (a8 (aa 5) (aa 7)) aq)))))))) (aB (GT 2)))))))
theorem qA(h:W.At "_law_free" st__law_free)(T:Tx W):kK W:=gH ["halo","ground","one","cell"] 2 h λ_ _ _ _ _ _ _ hr hN=>(ao (cO H_ rfl (aU (aa 0)) (aN 2 hN) (aB (cO H_ rfl (aU (aa 1)) (aN 3 hN) (aB (dZ (Jj T.hw hr (aa 3) (aa 2)) (aB (aV ny)) bZ))))) (aB (aV ny)))
theorem rp(h:W.At "_law_all" st__law_all)(T:Tx W)(k__law_ships:jh W)(k__law_halo:kP W)(cq:dQ W)(k__law_free:kK W):lY W:=gH ["sheet","fleet","rule","rows","place","length","ships","halos","grounds","longer","hiding","halo","k","later"] 3 h λ_ _ _ _ _ _ _ hr hN=>(ao (a9 3 (bH (bN (af (be (af (be aq) (af (bH (bN aq)) aq))) aq))) hN) (ao (cO H_ rfl (u5 T.z_enumerate (aa 1)) (fM rfl (ax 4 hN (ax 5 hN bL))) (ao (a9 6 (bH (aR k__law_ships hr (af (aa 0) (af (aa 5) aq)))) hN) (ao (iX 7 (gM (Nc:=["ship","rule"]) (own:=["ship"]) (caps:=[2]) (bc 0) rfl (aU (aa 6)) rfl rfl (λ_ _ _ _ _ _=>have hN:=(by decide +kernel:List.Nodup (["ship","rule"]:Tb));(aH (λ_ _ z=>z) (aN 0 hN) bj (Fj (aR k__law_halo hr (af (aa 1) (af (aa 0) aq))))))) hN) (ao (iX 8 (gM (Nc:=["ship"]) (own:=["ship"]) (caps:=[]) (bc 0) rfl (aU (aa 6)) rfl rfl (λ_ _ _ _ _ _=>have hN:=(by decide +kernel:List.Nodup (["ship"]:Tb));(aH (λ_ _ z=>z) (aN 0 hN) bj (bH (aR cq hr (af (aa 0) aq)))))) hN) (ao (eU 9 (bN aq) hN) (ao (cO H_ rfl (aU (aa 3)) (fM rfl (ax 10 hN (ax 11 hN bL))) (aB (cO H_ rfl (bJ T.z_range (eH T.z_len (aa 6))) (aN 12 hN) (ao (a9 13 (Iz (sd hr (aa 4) aj) (Iz (ME hr (aP (aa 1) (iI (aa 4) aj)) (aa 5)) (lV (JU hr (aP (aa 10) (lQ aj)) (aP (aa 6) (aa 12)))))) hN) (aB (dZ (Ff (w_and (fw (aa 13)) (pG (fw (aR k__law_free hr (af (aa 11) (af (aP (aa 8) (aa 12)) aq))))))) (aB (ky 9 (be (af (AR (aa 10) (be (af (aP (aa 6) (aa 12)) aq))) (af (bH (jM (aa 11) (bN (af (aP (aa 7) (aa 12)) aq)))) aq))))) bZ)))))) (Bb 9 (aB (a9 3 (aa 9) hN))))))))) (aB (aV (bA (Nc:=["hiding","halo"]) (own:=["hiding","halo"]) (caps:=[]) (iU [0,1]) rfl (aU (aa 3)) rfl rfl (λ_ _ _ _ _ _=>have hN:=(by decide +kernel:List.Nodup (["hiding","halo"]:Tb));(aH (λ_ _ z=>z) (fM rfl (ax 0 hN (ax 1 hN bL))) bj (aa 0))))))))
theorem mi(h:W.At "_law_played" st__law_played)(T:Tx W)(k__law_game:kI W)(mU:lY W):iH W:=gH ["cell","sheet","fleet","rule","rows"] 1 h λ_ _ _ _ _ _ _ hr hN=>(ao (uG rfl (aR k__law_game hr (af (aa 0) aq)) (ax 1 hN (ax 2 hN (ax 3 hN bL)))) (ao (a9 4 (bH (aR mU hr (af (aa 1) (af (aa 2) (af (aa 3) aq))))) hN) (ao (dZ (iB hr (aa 4) (bN aq)) (ao (a9 2 (be (af aj aq)) hN) (aB (a9 4 (bH (aR mU hr (af (aa 1) (af (aa 2) (af (aa 3) aq))))) hN))) bZ) (aB (aV (be (af (aa 1) (af (aa 2) (af (aa 3) (af (aa 4) aq))))))))))
theorem nI(h:W.At "_law_order" st__law_order)(T:Tx W)(dN:eN W):fW W:=gH ["cell","things","found","k","thing"] 2 h λ_ _ _ _ _ _ _ hr hN=>(ao (eU 2 (bN aq) hN) (ao (cO H_ rfl (u5 T.z_enumerate (aa 1)) (fM rfl (ax 3 hN (ax 4 hN bL))) (aB (Je 2 (cE (aR dN hr (af (aa 0) (af (a8 (oR aj (aa 3)) aj) aq))) (a8 (aa 3) aj)) (aa 4)))) (aB (iO 2))))
theorem iw(h:W.At "_law_sheet_cells" st__law_sheet_cells)(T:Tx W):cJ W:=gH ["sheet","found","row"] 1 h λ_ _ _ _ _ _ _ hr hN=>(ao (eU 1 (bN aq) hN) (ao (cO H_ rfl (bJ T.z_range (aP (aa 0) aj)) (aN 2 hN) (aB (JE 1 (bA (Nc:=["column","row"]) (own:=["column"]) (caps:=[2]) (bc 0) rfl (bJ T.z_range (aP (aa 0) aj)) rfl rfl (λ_ _ _ _ _ _=>have hN:=(by decide +kernel:List.Nodup (["column","row"]:Tb));(aH (λ_ _ z=>z) (aN 0 hN) bj (be (af (aa 1) (af (aa 0) aq))))))))) (aB (iO 1))))
theorem kR(h:W.At "_law_answers" st__law_answers)(T:Tx W)(cq:dQ W):cV W:=gH ["hiding","cells","left","grounds","found","cell","answer","k"] 2 h λ_ _ _ _ _ _ _ hr hN=>(ao (Er 2 (gM (Nc:=["ship"]) (own:=["ship"]) (caps:=[]) (bc 0) rfl (o8 (aa 0)) rfl rfl (λ_ _ _ _ _ _=>have hN:=(by decide +kernel:List.Nodup (["ship"]:Tb));(aH (λ_ _ z=>z) (aN 0 hN) bj (eH T.z_len (aR cq hr (af (aa 0) aq)))))) hN) (ao (iX 3 (gM (Nc:=["ship"]) (own:=["ship"]) (caps:=[]) (bc 0) rfl (o8 (aa 0)) rfl rfl (λ_ _ _ _ _ _=>have hN:=(by decide +kernel:List.Nodup (["ship"]:Tb));(aH (λ_ _ z=>z) (aN 0 hN) bj (bH (aR cq hr (af (aa 0) aq)))))) hN) (ao (eU 4 (bN aq) hN) (ao (cO H_ rfl (aU (aa 1)) (aN 5 hN) (ao (a9 6 bf hN) (ao (cO H_ rfl (bJ T.z_range (eH T.z_len (aa 0))) (aN 7 hN) (aB (dZ (Ct hr (aa 5) (aP (aa 3) (aa 7))) (ao (v9 2 (iI (aP (Jg 2) (aa 7)) aj) (aa 7)) (aB (a9 6 (aP (bN (af bf (af bf aq))) (vp T.z_int (sd hr (aP (Jg 2) (aa 7)) aj))) hN))) bZ))) (aB (ky 4 (aa 6)))))) (aB (iO 4))))))
theorem l4(h:W.At "_law_record" st__law_record)(T:Tx W)(gu:fV W)(gv:fW W)(cM:cJ W)(cf:cV W):iJ W:=gH ["cell","sheet","rows","number","many","spoilt","at","word","cells","answers"] 3 h λ_ _ _ _ _ _ _ hr hN=>(ao (E7 rfl (bH (aR gu hr (af (aa 0) (af (bH (bN (af (eH T.z_len (aa 2)) (af aj (af aj (af aj (af aj aq))))))) aq)))) (ax 3 hN (ax 4 hN (ax 5 hN (ax 6 hN (ax 7 hN bL)))))) (ao (a9 8 (bH (Ba (aR gv hr (af (a8 (aa 0) aj) (af (bH (aR cM hr (af (aa 1) aq))) aq))) uC (u6 (aa 4)))) hN) (ao (eU 9 (aR cf hr (af (aP (aa 2) (aa 3)) (af (aa 8) aq))) hN) (ao (dZ (Ff (w_and (iB hr (aa 5) aj) (pG (uv hr (aa 8) (bN aq))))) (aB (v9 9 (aP (bN (af bf (af bf (af bf aq)))) (aa 7)) (cE (aa 6) (eH T.z_len (aa 8))))) bZ) (Bb 9 (aB (aV (bH (y9 rfl T.z_list T.z_zip (aa 8) (aa 9))))))))))
theorem qH(h:W.At "_law_fits" st__law_fits)(T:Tx W)(cf:cV W):kM W:=gH ["hiding","record"] 2 h λ_ _ _ _ _ _ _ hr hN=>(aB (aV (sd hr (aR cf hr (af (aa 0) (af (bH (bA (Nc:=["row"]) (own:=["row"]) (caps:=[]) (bc 0) rfl (aU (aa 1)) rfl rfl (λ_ _ _ _ _ _=>have hN:=(by decide +kernel:List.Nodup (["row"]:Tb));(aH (λ_ _ z=>z) (aN 0 hN) bj (aP (aa 0) aj))))) aq))) (bA (Nc:=["row"]) (own:=["row"]) (caps:=[]) (bc 0) rfl (aU (aa 1)) rfl rfl (λ_ _ _ _ _ _=>have hN:=(by decide +kernel:List.Nodup (["row"]:Tb));(aH (λ_ _ z=>z) (aN 0 hN) bj (aP (aa 0) aj)))))))
theorem pC(h:W.At "all_cells" st_all_cells)(T:Tx W):kn W:=gH ["sheet","rows","columns"] 1 h λ_ _ _ _ _ _ _ hr hN=>(ao (uG rfl (aa 0) (ax 1 hN (ax 2 hN bL))) (aB (aV (bA (Nc:=["row","column","columns"]) (own:=["row","column"]) (caps:=[2]) (bc 0) rfl (bJ T.z_range (aa 1)) rfl rfl (λ_ _ _ _ _ _=>have hN:=(by decide +kernel:List.Nodup (["row","column","columns"]:Tb));(rH (λ_ _ z=>z) rfl (aN 0 hN) bj (bJ T.z_range (aa 2)) (bc 1) (aH (λ_ _ z=>z) (aN 1 hN) bj (be (af (aa 0) (af (aa 1) aq))))))))))
theorem lZ(h:W.At "is_tuple_of" st_is_tuple_of)(T:Tx W):eV W:=gH ["thing","many"] 2 h λ_ _ _ _ _ _ _ hr hN=>(aB (aV (kr (oj .tuple T.z_isinstance T.z_tuple (aa 0)) (lV (sd hr (eH T.z_len (aa 0)) (aa 1))))))
theorem rq(h:W.At "is_whole" st_is_whole)(T:Tx W):iN W:=gH ["thing"] 1 h λ_ _ _ _ _ _ _ hr hN=>(aB (aV (kr (oj .int T.z_isinstance T.z_int (aa 0)) (lV (Fp (oj .bool T.z_isinstance T.z_bool (aa 0)))))))
theorem vg(h:W.At "is_size" st_is_size)(T:Tx W)(gw:iN W):nZ W:=by
 obtain⟨v_GREATEST,u_GREATEST,g_GREATEST,rv_GREATEST,r_GREATEST⟩:=T.e_GREATEST;exact gH ["thing"] 1 h λ_ _ _ _ _ _ _ hr hN=>(aB (aV (kr (aR gw hr (af (aa 0) aq)) (lV (qx oK oK xx xx aj (aa 0) (pT g_GREATEST rv_GREATEST r_GREATEST))))))
theorem uj(h:W.At "is_cell" st_is_cell)(T:Tx W)(fo:eV W)(gw:iN W):o7 W:=gH ["sheet","thing","row","column"] 2 h λ_ _ _ _ _ _ _ hr hN=>(ao (dZ (mH (fw (aR fo hr (af (aa 1) (af aj aq))))) (aB (aV ny)) bZ) (ao (uG rfl (aa 1) (ax 2 hN (ax 3 hN bL))) (aB (aV (kr (aR gw hr (af (aa 2) aq)) (kr (aR gw hr (af (aa 3) aq)) (kr (qx oK zH xx HK aj (aa 2) (aP (aa 0) aj)) (lV (qx oK zH xx HK aj (aa 3) (aP (aa 0) aj))))))))))
theorem vk(h:W.At "is_ship" st_is_ship)(T:Tx W)(fo:eV W)(k_is_size:nZ W)(k_is_cell:o7 W):oM W:=by
 obtain⟨v_WAYS,u_WAYS,vG,q8,vH⟩:=T.e_WAYS;exact gH ["sheet","thing","row","column","way","length"] 2 h λ_ _ _ _ _ _ _ hr hN=>(ao (dZ (mH (fw (aR fo hr (af (aa 1) (af aj aq))))) (aB (aV ny)) bZ) (ao (uG rfl (aa 1) (ax 2 hN (ax 3 hN (ax 4 hN (ax 5 hN bL))))) (ao (dZ (Ff (w_or (JV hr (aa 4) (pT vG q8 vH)) (w_or (mH (fw (aR k_is_size hr (af (aa 5) aq)))) (wb (mH (fw (aR k_is_cell hr (af (aa 0) (af (be (af (aa 2) (af (aa 3) aq))) aq))))))))) (aB (aV ny)) bZ) (ao (dZ (iB hr (aa 4) bf) (aB (aV (kr (CG (aa 5) aj) (lV (JK (a8 (aa 2) (aa 5)) (aP (aa 0) aj)))))) bZ) (aB (aV (JK (a8 (aa 3) (aa 5)) (aP (aa 0) aj))))))))
theorem rA(h:W.At "ships_of" st_ships_of)(T:Tx W)(k_all_cells:kn W)(k_is_ship:oM W):me W:=by
 obtain⟨v_WAYS,u_WAYS,vG,q8,vH⟩:=T.e_WAYS;exact gH ["sheet","length","ships"] 2 h λ_ _ _ _ _ _ _ hr hN=>(ao (iX 2 (gM (Nc:=["row","column","way","length"]) (own:=["row","column","way"]) (caps:=[1]) (iU [0,1]) rfl (aU (bH (aR k_all_cells hr (af (aa 0) aq)))) rfl rfl (λ_ _ _ _ _ _=>have hN:=(by decide +kernel:List.Nodup (["row","column","way","length"]:Tb));(rH (λ_ _ z=>z) rfl (fM rfl (ax 0 hN (ax 1 hN bL))) bj (o8 (pT vG q8 vH)) (bc 2) (aH (λ_ _ z=>z) (aN 2 hN) bj (be (af (aa 0) (af (aa 1) (af (aa 2) (af (aa 3) aq))))))))) hN) (aB (aV (bA (Nc:=["ship","sheet"]) (own:=["ship"]) (caps:=[0]) (bc 0) rfl (aU (aa 2)) rfl rfl (λ_ _ _ _ _ _=>have hN:=(by decide +kernel:List.Nodup (["ship","sheet"]:Tb));(aH (λ_ _ z=>z) (aN 0 hN) (hV (λ_ _ z=>z) (fw (aR k_is_ship hr (af (aa 1) (af (aa 0) aq))))) (aa 0)))))))
theorem rS(h:W.At "cells_of" st_cells_of)(T:Tx W):fU W:=gH ["ship","row","column","way","length"] 1 h λ_ _ _ _ _ _ _ hr hN=>(ao (uG rfl (aa 0) (ax 1 hN (ax 2 hN (ax 3 hN (ax 4 hN bL))))) (ao (dZ (iB hr (aa 3) bf) (aB (aV (bA (Nc:=["step","row","column"]) (own:=["step"]) (caps:=[1,2]) (bc 0) rfl (bJ T.z_range (aa 4)) rfl rfl (λ_ _ _ _ _ _=>have hN:=(by decide +kernel:List.Nodup (["step","row","column"]:Tb));(aH (λ_ _ z=>z) (aN 0 hN) bj (be (af (a8 (aa 1) (aa 0)) (af (aa 2) aq)))))))) bZ) (aB (aV (bA (Nc:=["step","row","column"]) (own:=["step"]) (caps:=[1,2]) (bc 0) rfl (bJ T.z_range (aa 4)) rfl rfl (λ_ _ _ _ _ _=>have hN:=(by decide +kernel:List.Nodup (["step","row","column"]:Tb));(aH (λ_ _ z=>z) (aN 0 hN) bj (be (af (aa 1) (af (a8 (aa 2) (aa 0)) aq))))))))))
theorem pF(h:W.At "answer_to" st_answer_to)(T:Tx W):kF W:=gH ["bodies","cell","shot","body"] 3 h λ_ _ _ _ _ _ _ hr hN=>(ao (cO H_ rfl (aU (aa 0)) (aN 3 hN) (aB (dZ (Ct hr (aa 1) (aa 3)) (aB (aV (sL (fw (Kf T.z_all rfl (bA (Nc:=["part","shot"]) (own:=["part"]) (caps:=[2]) (bc 0) rfl (aU (aa 3)) rfl rfl (λ_ _ _ _ _ _=>have hN:=(by decide +kernel:List.Nodup (["part","shot"]:Tb));(aH (λ_ _ z=>z) (aN 0 hN) bj (Mo hr (aa 0) (aa 1))))))) bf bf))) bZ))) (aB (aV bf)))
theorem nJ(h:W.At "answers_of" st_answers_of)(T:Tx W)(eu:fU W)(k_answer_to:kF W):jt W:=gH ["hiding","cells","bodies"] 2 h λ_ _ _ _ _ _ _ hr hN=>(ao (a9 2 (bH (bA (Nc:=["ship"]) (own:=["ship"]) (caps:=[]) (bc 0) rfl (o8 (aa 0)) rfl rfl (λ_ _ _ _ _ _=>have hN:=(by decide +kernel:List.Nodup (["ship"]:Tb));(aH (λ_ _ z=>z) (aN 0 hN) bj (bH (aR eu hr (af (aa 0) aq))))))) hN) (aB (aV (bA (Nc:=["at","cell","bodies","cells"]) (own:=["at","cell"]) (caps:=[2,1]) (iU [0,1]) rfl (u5 T.z_enumerate (aa 1)) rfl rfl (λ_ _ _ _ _ _=>have hN:=(by decide +kernel:List.Nodup (["at","cell","bodies","cells"]:Tb));(aH (λ_ _ z=>z) (fM rfl (ax 0 hN (ax 1 hN bL))) bj (aR k_answer_to hr (af (aa 2) (af (aa 1) (af (bH (Ba (aa 3) uC (u6 (a8 (aa 0) aj)))) aq))))))))))
theorem nv(h:W.At "shot_cells" st_shot_cells)(T:Tx W):jD W:=gH ["record"] 1 h λ_ _ _ _ _ _ _ hr hN=>(aB (aV (bA (Nc:=["cell","answer"]) (own:=["cell","answer"]) (caps:=[]) (iU [0,1]) rfl (aU (aa 0)) rfl rfl (λ_ _ _ _ _ _=>have hN:=(by decide +kernel:List.Nodup (["cell","answer"]:Tb));(aH (λ_ _ z=>z) (fM rfl (ax 0 hN (ax 1 hN bL))) bj (aa 0))))))
theorem B0(h:W.At "fits" st_fits)(T:Tx W)(k_answers_of:jt W)(k_shot_cells:jD W):zD W:=gH ["hiding","record"] 2 h λ_ _ _ _ _ _ _ hr hN=>(aB (aV (sd hr (aR k_answers_of hr (af (aa 0) (af (bH (aR k_shot_cells hr (af (aa 1) aq))) aq))) (bA (Nc:=["cell","answer"]) (own:=["cell","answer"]) (caps:=[]) (iU [0,1]) rfl (aU (aa 1)) rfl rfl (λ_ _ _ _ _ _=>have hN:=(by decide +kernel:List.Nodup (["cell","answer"]:Tb));(aH (λ_ _ z=>z) (fM rfl (ax 0 hN (ax 1 hN bL))) bj (aa 1)))))))
theorem qu(h:W.At "ship_fits" st_ship_fits)(T:Tx W)(eu:fU W)(k_fits:zD W):kH W:=gH ["ship","record","body"] 2 h λ_ _ _ _ _ _ _ hr hN=>(ao (a9 2 (bH (aR eu hr (af (aa 0) aq))) hN) (aB (aV (aR k_fits hr (af (be (af (aa 0) aq)) (af (bH (bA (Nc:=["cell","answer","body"]) (own:=["cell","answer"]) (caps:=[2]) (iU [0,1]) rfl (aU (aa 1)) rfl rfl (λ_ _ _ _ _ _=>have hN:=(by decide +kernel:List.Nodup (["cell","answer","body"]:Tb));(aH (λ_ _ z=>z) (fM rfl (ax 0 hN (ax 1 hN bL))) (hV (λ_ _ z=>z) (Ct hr (aa 0) (aa 2))) (be (af (aa 0) (af (aa 1) aq))))))) aq))))))
theorem kX(h:W.At "rows_between" st_rows_between)(T:Tx W):gJ W:=gH ["one","other","one_last","other_last"] 2 h λ_ _ _ _ _ _ _ hr hN=>(ao (a9 2 (sL (iB hr (aP (aa 0) aj) bf) (iI (a8 (aP (aa 0) aj) (aP (aa 0) aj)) aj) (aP (aa 0) aj)) hN) (ao (a9 3 (sL (iB hr (aP (aa 1) aj) bf) (iI (a8 (aP (aa 1) aj) (aP (aa 1) aj)) aj) (aP (aa 1) aj)) hN) (aB (aV (AD T.z_max rfl (iI (aP (aa 1) aj) (aa 2)) (iI (aP (aa 0) aj) (aa 3)) aj)))))
theorem iT(h:W.At "columns_between" st_columns_between)(T:Tx W):eR W:=gH ["one","other","one_last","other_last"] 2 h λ_ _ _ _ _ _ _ hr hN=>(ao (a9 2 (sL (iB hr (aP (aa 0) aj) bf) (iI (a8 (aP (aa 0) aj) (aP (aa 0) aj)) aj) (aP (aa 0) aj)) hN) (ao (a9 3 (sL (iB hr (aP (aa 1) aj) bf) (iI (a8 (aP (aa 1) aj) (aP (aa 1) aj)) aj) (aP (aa 1) aj)) hN) (aB (aV (AD T.z_max rfl (iI (aP (aa 1) aj) (aa 2)) (iI (aP (aa 0) aj) (aa 3)) aj)))))
theorem Du(h:W.At "keep" st_keep)(T:Tx W)(k_rows_between:gJ W)(k_columns_between:eR W):yN W:=gH ["rule","one","other","rows","columns"] 3 h λ_ _ _ _ _ _ _ hr hN=>(ao (a9 3 (aR k_rows_between hr (af (aa 1) (af (aa 2) aq))) hN) (ao (a9 4 (aR k_columns_between hr (af (aa 1) (af (aa 2) aq))) hN) (ao (dZ (iB hr (aa 0) bf) (aB (aV (CG (a8 (aa 3) (aa 4)) aj))) bZ) (ao (dZ (iB hr (aa 0) bf) (aB (aV (CG (a8 (aa 3) (aa 4)) aj))) bZ) (aB (aV (CG (Jq T.z_max rfl (aa 3) (aa 4)) aj)))))))
theorem nD(h:W.At "may_follow" st_may_follow)(T:Tx W)(k_keep:yN W):jv W:=gH ["rule","ship","other"] 3 h λ_ _ _ _ _ _ _ hr hN=>(ao (dZ (Ff (w_and (iB hr (aP (aa 2) aj) (aP (aa 1) aj)) (pG (IR hr (aa 2) (aa 1))))) (aB (aV ny)) bZ) (aB (aV (aR k_keep hr (af (aa 0) (af (aa 1) (af (aa 2) aq)))))))
theorem jV(h:W.At "hidings_among" st_hidings_among)(T:Tx W)(k_may_follow:jv W):gB W:=Pw (k:=3) (m:=a0) (fb:=λi=>cF (a0 i)) ["rule","choices","first","rest","found","ship","left"] 2 4 h rfl (λ_=>rfl) λi K_hidings_among _ _ _ _ _ _ _ hr hN=>(ao (G0 2 3 rfl (aa 1) hN) (ao (dZ (mH (J2 (aa 3))) (aB (aV (bA (Nc:=["ship"]) (own:=["ship"]) (caps:=[]) (bc 0) rfl (aU (aa 2)) rfl rfl (λ_ _ _ _ _ _=>have hN:=(by decide +kernel:List.Nodup (["ship"]:Tb));(aH (λ_ _ z=>z) (aN 0 hN) bj (be (af (aa 0) aq))))))) bZ) (ao (eU 4 (bN aq) hN) (ao (cO H_ rfl (aU (aa 2)) (aN 5 hN) (ao (iX 6 (gM (Nc:=["others","rule","ship"]) (own:=["others"]) (caps:=[0,5]) (bc 0) rfl (aU (aa 3)) rfl rfl (λ_ _ _ _ _ _=>have hN:=(by decide +kernel:List.Nodup (["others","rule","ship"]:Tb));(aH (λ_ _ z=>z) (aN 0 hN) bj (bH (bA (Nc:=["other","rule","ship"]) (own:=["other"]) (caps:=[1,2]) (bc 0) rfl (aU (aa 0)) rfl rfl (λ_ _ _ _ _ _=>have hN:=(by decide +kernel:List.Nodup (["other","rule","ship"]:Tb));(aH (λ_ _ z=>z) (aN 0 hN) (hV (λ_ _ z=>z) (fw (aR k_may_follow hr (af (aa 1) (af (aa 2) (af (aa 0) aq)))))) (aa 0)))))))) hN) (aB (Kr 4 (bA (Nc:=["others","ship"]) (own:=["others"]) (caps:=[5]) (bc 0) rfl (aU (bH (yQ K_hidings_among hr (af (aa 0) (af (aa 6) aq))))) rfl rfl (λ_ _ _ _ _ _=>have hN:=(by decide +kernel:List.Nodup (["others","ship"]:Tb));(aH (λ_ _ z=>z) (aN 0 hN) bj (AR (be (af (aa 1) aq)) (aa 0))))) hN)))) (aB (iO 4))))))
theorem l5(h:W.At "all_fitting" st_all_fitting)(T:Tx W)(k_ships_of:me W)(k_ship_fits:kH W)(eu:fU W)(k_hidings_among:gB W):eZ W:=gH ["sheet","fleet","rule","record","struck","choices","strikes","found"] 4 h λ_ _ _ _ _ _ _ hr hN=>(ao (a9 4 (bH (bA (Nc:=["cell","answer"]) (own:=["cell","answer"]) (caps:=[]) (iU [0,1]) rfl (aU (aa 3)) rfl rfl (λ_ _ _ _ _ _=>have hN:=(by decide +kernel:List.Nodup (["cell","answer"]:Tb));(aH (λ_ _ z=>z) (fM rfl (ax 0 hN (ax 1 hN bL))) (hV (λ_ _ z=>z) (uv hr (aa 1) bf)) (aa 0))))) hN) (ao (iX 5 (gM (Nc:=["length","sheet","record"]) (own:=["length"]) (caps:=[0,3]) (bc 0) rfl (o8 (aa 1)) rfl rfl (λ_ _ _ _ _ _=>have hN:=(by decide +kernel:List.Nodup (["length","sheet","record"]:Tb));(aH (λ_ _ z=>z) (aN 0 hN) bj (bH (bA (Nc:=["ship","record"]) (own:=["ship"]) (caps:=[2]) (bc 0) rfl (aU (bH (aR k_ships_of hr (af (aa 1) (af (aa 0) aq))))) rfl rfl (λ_ _ _ _ _ _=>have hN:=(by decide +kernel:List.Nodup (["ship","record"]:Tb));(aH (λ_ _ z=>z) (aN 0 hN) (hV (λ_ _ z=>z) (fw (aR k_ship_fits hr (af (aa 0) (af (aa 1) aq))))) (aa 0)))))))) hN) (ao (a9 6 (Fj (CO (Nc:=["ships","ship","struck"]) (own:=["ships","ship"]) (caps:=[4]) T.hw (bc 0) rfl (aU (aa 5)) rfl rfl (λ_ _ _ _ _ _=>have hN:=(by decide +kernel:List.Nodup (["ships","ship","struck"]:Tb));(yc (λ_ _ z=>z) rfl (aN 0 hN) bj (aU (aa 0)) (bc 1) (yr (wa hr) (λ_ _ z=>z) (aN 1 hN) bj (aa 1) (eH T.z_len (bA (Nc:=["cell","struck"]) (own:=["cell"]) (caps:=[2]) (bc 0) rfl (aU (bH (aR eu hr (af (aa 1) aq)))) rfl rfl (λ_ _ _ _ _ _=>have hN:=(by decide +kernel:List.Nodup (["cell","struck"]:Tb));(aH (λ_ _ z=>z) (aN 0 hN) (hV (λ_ _ z=>z) (Ct hr (aa 0) (aa 1))) (aa 0)))))))))) hN) (ao (a9 7 (bH (aR k_hidings_among hr (af (aa 2) (af (aa 5) aq)))) hN) (aB (aV (bA (Nc:=["hiding","strikes","struck"]) (own:=["hiding"]) (caps:=[6,4]) (bc 0) rfl (aU (aa 7)) rfl rfl (λ_ _ _ _ _ _=>have hN:=(by decide +kernel:List.Nodup (["hiding","strikes","struck"]:Tb));(aH (λ_ _ z=>z) (aN 0 hN) (hV (λ_ _ z=>z) (iB hr (IC T.z_sum rfl (bA (Nc:=["ship","strikes"]) (own:=["ship"]) (caps:=[1]) (bc 0) rfl (o8 (aa 0)) rfl rfl (λ_ _ _ _ _ _=>have hN:=(by decide +kernel:List.Nodup (["ship","strikes"]:Tb));(aH (λ_ _ z=>z) (aN 0 hN) bj (G3 T.hw hr (aa 1) (aa 0)))))) (eH T.z_len (aa 2)))) (aa 0))))))))))
theorem kT(h:W.At "how_many_fit" st_how_many_fit)(T:Tx W)(fq:eZ W):gQ W:=gH ["sheet","fleet","rule","record"] 4 h λ_ _ _ _ _ _ _ hr hN=>(aB (aV (eH T.z_len (aR fq hr (af (aa 0) (af (aa 1) (af (aa 2) (af (aa 3) aq))))))))
theorem nt(h:W.At "_law_whole" st__law_whole)(T:Tx W):jA W:=gH ["thing"] 1 h λ_ _ _ _ _ _ _ hr hN=>(aB (aV (kr (oj .int T.z_isinstance T.z_int (aa 0)) (lV (Fp (oj .bool T.z_isinstance T.z_bool (aa 0)))))))
theorem qU(h:W.At "_law_only" st__law_only)(T:Tx W):ko W:=gH ["word","words"] 1 h λ_ _ _ _ _ _ _ hr hN=>(ao (a9 1 (bH (bN (af bf (af bf (af bf (af bf (af bf (af bf (af bf (af bf (af bf (af bf aq)))))))))))) hN) (aB (aV (jM (bA (Nc:=["one","word"]) (own:=["one"]) (caps:=[0]) (bc 0) rfl (aU (aa 1)) rfl rfl (λ_ _ _ _ _ _=>have hN:=(by decide +kernel:List.Nodup (["one","word"]:Tb));(aH (λ_ _ z=>z) (aN 0 hN) bj (sd hr (aa 0) (aa 1))))) (bN (af ny aq))))))
theorem iR(h:W.At "if_not_too_many" st_if_not_too_many)(T:Tx W)(xc_TooMany:W.X "TooMany"):eJ W:=by
 obtain⟨v_MOST_TOLD,u_MOST_TOLD,g_MOST_TOLD,rv_MOST_TOLD,r_MOST_TOLD⟩:=T.e_MOST_TOLD;exact Oy ["found"] 1 h λ_ _ _ _ _ _ _ hr hN=>(Gj (MI (GP (eH T.z_len (aa 0)) (pT g_MOST_TOLD rv_MOST_TOLD r_MOST_TOLD)) (v5 (AJ xc_TooMany (hr.mono @1) (af bf aq))) (Jf bZ)) (v5 (FR (aV (aa 0)))))
theorem uR(h:W.At "fitting" st_fitting)(T:Tx W)(k_if_not_too_many:eJ W)(fq:eZ W):om W:=Oy ["sheet","fleet","rule","record"] 4 h λ_ _ _ _ _ _ _ hr hN=>(v5 (Js (vU (k_if_not_too_many 8 @1) hr (EN (af (bH (aR fq hr (af (aa 0) (af (aa 1) (af (aa 2) (af (aa 3) aq)))))) aq)))))
theorem qj(h:W.At "_law_told" st__law_told)(T:Tx W)(tx:NQ W.P W.w W.K W.mg W.base cs_)(k_fitting:om W):kJ W:=MR ["game","record","found","e"] 2 h λ_ _ _ _ _ _ _ hr hN=>(v7 (EO (FR (a9 2 Jt hN))) (v7 (Co 3 2 tx hr @1 ⟨rfl,rfl,rfl⟩ hN @1 (λ_=>(v5 (Kp 2 (vU (k_fitting _ (m_ _)) hr (EN (af (aP (aa 0) aj) (af (aP (aa 0) aj) (af (aP (aa 0) aj) (af (aa 1) aq)))))) hN)))) (Ho (EO (FR (aV (aa 2)))))))
theorem GQ{f:Tv}{fd:Tt}(F:yK W.K "law" "law" st_law f fd)(T:Tx W)(k__law_played:iH W)(k__law_record:iJ W)(dN:eN W)(gv:fW W)(cM:cJ W)(cf:cV W)(k__law_fits:kM W)(k_how_many_fit:gQ W)(k__law_whole:jA W)(k__law_only:ko W)(k__law_told:kJ W):dM W.P W.w W.K W.mg W.base kO 11 f fd ["script"] (AY W.K 1 .cl m_law):=PF ["script","cell","sheet","fleet","rule","rows","records","hiding","cells","record","due","handed","found","turn"] 1 F λ_ _ _ _ _ _ _ hr hN=>(ao (cO H_ rfl (aU (bH (jM (bN (af aj aq)) (Ba (aa 0) uC (u6 aj))))) (aN 1 hN) (ao (uG rfl (aR k__law_played hr (af (aa 1) aq)) (ax 2 hN (ax 3 hN (ax 4 hN (ax 5 hN bL))))) (ao (eU 6 (jM (bA (Nc:=["k","cell","sheet","rows"]) (own:=["k"]) (caps:=[1,2,5]) (bc 0) rfl (bJ T.z_range aj) rfl rfl (λ_ _ _ _ _ _=>have hN:=(by decide +kernel:List.Nodup (["k","cell","sheet","rows"]:Tb));(aH (λ_ _ z=>z) (aN 0 hN) bj (aR k__law_record hr (af (a8 (aa 1) (aa 0)) (af (aa 2) (af (aa 3) aq))))))) (bN (af (bH (bN aq)) aq))) hN) (ao (a9 7 (aP (aa 5) (cE (aR dN hr (af (aa 1) (af aj aq))) (eH T.z_len (aa 5)))) hN) (ao (a9 8 (bH (aR gv hr (af (aa 1) (af (bH (aR cM hr (af (aa 2) aq))) aq)))) hN) (ao (ky 6 (bH (y9 rfl T.z_list T.z_zip (aa 8) (bH (aR cf hr (af (aa 7) (af (aa 8) aq))))))) (Bb 6 (aB (cO H_ rfl (aU (aa 6)) (aN 9 hN) (ao (iX 10 (gM (Nc:=["hiding","record"]) (own:=["hiding"]) (caps:=[9]) (bc 0) rfl (aU (aa 5)) rfl rfl (λ_ _ _ _ _ _=>have hN:=(by decide +kernel:List.Nodup (["hiding","record"]:Tb));(aH (λ_ _ z=>z) (aN 0 hN) (hV (λ_ _ z=>z) (fw (aR k__law_fits hr (af (aa 0) (af (aa 1) aq))))) (aa 0)))) hN) (ao (a9 11 (bH (FT T.z_list (aa 9))) hN) (ao (a9 12 (aR k_how_many_fit hr (af (aa 2) (af (aa 3) (af (aa 4) (af (aa 11) aq))))) hN) (ao (dZ (Ff (w_or (mH (fw (aR k__law_whole hr (af (aa 12) aq)))) (w_or (uv hr (aa 12) (eH T.z_len (aa 10))) (wb (uv hr (aa 11) (aa 9)))))) (aB (aV ny)) bZ) (ao (dZ (GP (eH T.z_len (aa 10)) aj) (aB (a9 10 (bH (aR k__law_only hr (af bf aq))) hN)) bZ) (aB (cO H_ rfl (bJ T.z_range aj) (aN 13 hN) (xv 11 12 (Gg T.nl) hN (aR k__law_told hr (af (be (af (aa 2) (af (aa 3) (af (aa 4) aq)))) (af (aa 11) aq))) (Ff (w_or (mH (fw (oj .list T.z_isinstance T.z_list (aa 12)))) (w_or (uv hr (aa 12) (aa 10)) (wb (uv hr (aa 11) (aa 9))))))))))))))))))))))) (aB (aV ny)))
end
section
variable {P:Tp}{w:Ts}{K:Fg}{mg:S5}{base:Tr}
def pZ:TC:=gt 1
def bQ:TC:=(Mp pZ).getD 0 (.Pass ⟨0,0,0,0⟩)
def eX:TC:=gt 44
theorem D0:bW ["self","words","cell"] ["self","words","cell"] (az bQ):=⟨rfl,rfl,rfl,by decide +kernel,rfl,by decide +kernel,by decide +kernel⟩
theorem CA{f HE:Tv}{oc kV dV doc pm bK ct:Tn}{od an:Ta}{rm:S4}(lk:K.lookup f=some ⟨oc,od,.func (PySem.W.fnOf "__init__" "HideError.__init__" (cj bQ) (bp bQ) (az bQ) dV kV doc pm an bK ct),rm⟩)(eC:PySem.W.codeIn K bK "HideError.__init__"=true)(hv:mg "ValueError"=none) :
  dM P w K mg base kO 1 f (PySem.W.fnOf "__init__" "HideError.__init__" (cj bQ) (bp bQ) (az bQ) dV kV doc pm an bK ct) ["self","words","cell"] (JF K HE f):=by
 refine zl lk eC D0 (λvs H Q E ⟨e,C,wd,cv,h,_⟩=>by rw[h];rfl) λA outer s H vs Q E hr ⟨e,C,wd,cv,h,ec,hx,q⟩=>?_;subst h;refine⟨_,d9 (jo (zC hv (aJ (bV (i:=0) rfl (.inl rfl) @1 @1) (aJ (bV (i:=1) rfl (.inl rfl) @1 @1) bS rfl) rfl) rfl rfl rfl rfl) rfl) (fP (Dq (bV (i:=0) rfl (.inl rfl) @1 @1) (bV (i:=2) rfl (.inl rfl) @1 @1) rfl)),?_⟩;exact⟨.ref e,rfl,wd,rfl,e,wd,C,HE,f,rfl,hx,ec,cv,rfl,.ref e,rfl,e,C,HE,f,rfl,hx,ec,λdx h1 h2=>q dx h1 h2⟩
theorem Dn{dV kV doc pm bK ct:Tn}{an od:Ta}{dT:Tv}{n:Nat}{t0:Tok}{sl:S4}(hd:dV=.ref dT)(ld:K.lookup dT=some ⟨.type "tuple",od,.seq #[.str "" t0,.none] n,sl⟩):Binds K (PySem.W.fnOf "__init__" "HideError.__init__" (cj bQ) (bp bQ) (az bQ) dV kV doc pm an bK ct) ["self","words","cell"] [.none]:=by
 subst hd;intro s us X hl;have FK:us.length=2:=by simpa using hl
 match us,FK with
 | [a,b],_=>exact BindsTo.of_defaults (T:=dT) (items:=#[.str "" t0,.none]) (n:=n) rfl (X _ _ ld) rfl rfl rfl
theorem Dl{dV kV doc pm bK ct:Tn}{an od:Ta}{dT:Tv}{n:Nat}{t0:Tok}{sl:S4}(hd:dV=.ref dT)(ld:K.lookup dT=some ⟨.type "tuple",od,.seq #[.str "" t0,.none] n,sl⟩):Binds K (PySem.W.fnOf "__init__" "HideError.__init__" (cj bQ) (bp bQ) (az bQ) dV kV doc pm an bK ct) ["self","words","cell"] []:=by
 subst hd;intro s us X hl;have FK:us.length=3:=by simpa using hl
 match us,FK with
 | [a,b,c],_=>first | exact BindsTo.of_eq rfl | exact BindsTo.of_defaults (T:=dT) (items:=#[.str "" t0,.none]) (n:=n) rfl (X _ _ ld) rfl rfl rfl
theorem rW:bW ["e","flags"] ["e"] (az eX):=⟨rfl,rfl,rfl,by decide +kernel,rfl,by decide +kernel,by decide +kernel⟩
theorem yP{f HE:Tv}{fd:Tt}(F:yK K "_law_flags" "_law_flags" eX f fd)(hi:mg "isinstance"=none)(hv:mg "ValueError"=none){D1 D2 D3 D4 D5 D6 D7 D8 D9 D10:Tv}(m1:mg "NoHiding"=some (.ref D1))(m2:mg "NoNumber"=some (.ref D2))(m3:mg "TooMany"=some (.ref D3))(m4:mg "NoCell"=some (.ref D4))(m5:mg "NoShot"=some (.ref D5))(m6:mg "NothingLeft"=some (.ref D6))(m7:mg "NoCounts"=some (.ref D7))(m8:mg "Over"=some (.ref D8))(m9:mg "NoText"=some (.ref D9))(L7:mg "NoRow"=some (.ref D10)) :
  Lj P w K mg base 1 f fd ["e"] (LA K mg HE):=by
 obtain⟨oc,od,kV,doc,pm,an,bK,ct,rm,rfl,lk,eC⟩:=F.ex;refine GB lk eC rW (λvs H Q E ⟨v,C,c,h,_⟩=>by rw[h];rfl) λA outer s H vs Q lE=>?_;have hN:=rW.nd;have cat:∀{X:Cx},iy X (binaryOp .Add) rCat:=GX;refine⟨_,d9 (gP hN (i:=1) rfl (.inl rfl) (qT (aJ (eY (i:=0) hi m1) (aJ (eY (i:=0) hi m2) (aJ (eY (i:=0) hi m3) (aJ (eY (i:=0) hi m4) bS rfl) rfl) rfl) rfl)) rfl (.inr rfl)) (d9 (gP hN (i:=1) rfl (.inl rfl) (A3 cat (bV (i:=1) rfl (.inl rfl) @1 @1) (qT (aJ (eY (i:=0) hi m5) (aJ (eY (i:=0) hi m6) (aJ (eY (i:=0) hi m7) (aJ (eY (i:=0) hi m8) bS rfl) rfl) rfl) rfl))) rfl (.inr rfl)) (fP (kc (A3 cat (bV (i:=1) rfl (.inl rfl) @1 @1) (qT (aJ (eY (i:=0) hi m9) (aJ (eY (i:=0) hi L7) (aJ (Gw (i:=0) hi hv) bS rfl) rfl) rfl)))))),?_⟩;exact uV m1 m2 m3 m4 m5 m6 m7 m8 m9 L7 lE
end
end K09
namespace K09
open PySem PySem.Spec PyProof.Rows L2 Mi Xc
open PySem.W (nsIn findIn keepIn codeIn mg_of mg_none_of)
theorem all_mk{l:PySem.W.OpenLaw}{w:Ts}{K:Tj}{h:Tr}{mg:S5}{fa:Tv}(X:K.In h)(G:h.Ns mainGlobals mg)(hfa:mg "law"=some (.ref fa))
  {f0 f1 f2 f3 f4 f5 f6 f7 f8 f9 f10 f11 f12 f13 f14 f15 f16 f17 f18 f19 f20 f21 f22 f23 f24 f25 f26 f27 f28 f29 f30 f31 f32 f33 f34 f35 f36 f37 f38 f39 Pm:Tv}
  (h0:ef K "_law_stir" st__law_stir f0)
  (h1:ef K "_law_drawn" st__law_drawn f1)
  (h2:ef K "_law_game" st__law_game f2)
  (h3:ef K "_law_ships" st__law_ships f3)
  (h4:ef K "_law_cells" st__law_cells f4)
  (h5:ef K "_law_halo" st__law_halo f5)
  (h6:ef K "_law_free" st__law_free f6)
  (h7:ef K "_law_all" st__law_all f7)
  (h8:ef K "_law_played" st__law_played f8)
  (h9:ef K "_law_order" st__law_order f9)
  (NZ:ef K "_law_sheet_cells" st__law_sheet_cells f10)
  (N0:ef K "_law_answers" st__law_answers f11)
  (N1:ef K "_law_record" st__law_record f12)
  (N3:ef K "_law_fits" st__law_fits f13)
  (N4:ef K "all_cells" st_all_cells f14)
  (N5:ef K "is_tuple_of" st_is_tuple_of f15)
  (N6:ef K "is_whole" st_is_whole f16)
  (N7:ef K "is_size" st_is_size f17)
  (N8:ef K "is_cell" st_is_cell f18)
  (N9:ef K "is_ship" st_is_ship f19)
  (N':ef K "ships_of" st_ships_of f20)
  (Oa:ef K "cells_of" st_cells_of f21)
  (Ob:ef K "answer_to" st_answer_to f22)
  (Oc:ef K "answers_of" st_answers_of f23)
  (Od:ef K "shot_cells" st_shot_cells f24)
  (Oe:ef K "fits" st_fits f25)
  (Of:ef K "ship_fits" st_ship_fits f26)
  (Og:ef K "rows_between" st_rows_between f27)
  (Oh:ef K "columns_between" st_columns_between f28)
  (Oi:ef K "keep" st_keep f29)
  (Oj:ef K "may_follow" st_may_follow f30)
  (Ol:ef K "hidings_among" st_hidings_among f31)
  (Om:ef K "all_fitting" st_all_fitting f32)
  (On:ef K "how_many_fit" st_how_many_fit f33)
  (Oo:ef K "_law_whole" st__law_whole f34)
  (Oq:ef K "_law_only" st__law_only f35)
  (Os:ef K "if_not_too_many" st_if_not_too_many f36)
  (Ot:ef K "fitting" st_fitting f37)
  (Ou:ef K "_law_told" st__law_told f38)
  (Ov:ef K "law" st_law f39)
  (h40:ef K "_law_flags" eX Pm)
  (z_ValueError:nsIn K mainGlobals "ValueError"=some none)
  (z_all:nsIn K mainGlobals "all"=some none)
  (z_bool:nsIn K mainGlobals "bool"=some none)
  (z_enumerate:nsIn K mainGlobals "enumerate"=some none)
  (z_int:nsIn K mainGlobals "int"=some none)
  (z_isinstance:nsIn K mainGlobals "isinstance"=some none)
  (z_len:nsIn K mainGlobals "len"=some none)
  (z_list:nsIn K mainGlobals "list"=some none)
  (z_max:nsIn K mainGlobals "max"=some none)
  (z_min:nsIn K mainGlobals "min"=some none)
  (z_range:nsIn K mainGlobals "range"=some none)
  (z_sorted:nsIn K mainGlobals "sorted"=some none)
  (z_sum:nsIn K mainGlobals "sum"=some none)
  (z_tuple:nsIn K mainGlobals "tuple"=some none)
  (z_zip:nsIn K mainGlobals "zip"=some none)
  (nl:LJ K=true)
  {t_GREATEST:Tok} (a_GREATEST:nsIn K mainGlobals "GREATEST"=some (some (.int 8 t_GREATEST)))
  {t_MOST_TOLD:Tok} (a_MOST_TOLD:nsIn K mainGlobals "MOST_TOLD"=some (some (.int 1000 t_MOST_TOLD)))
  {lF:Tv} {od_WAYS:Ta} {n_WAYS:Nat} {sl_WAYS:S4} {t0_WAYS t1_WAYS:Tok} (a_WAYS:nsIn K mainGlobals "WAYS"=some (some (.ref lF))) (l_WAYS:K.lookup lF=some ⟨.type "tuple",od_WAYS,.seq #[(.str "along" t0_WAYS),(.str "down" t1_WAYS)] n_WAYS,sl_WAYS⟩)
  {fI dT:Tv} {cH c0 c1 c2 c3 c4 c5 c6 c7 c8 c9:Nat} (xH:sv K "HideError" cH bmV)
  (x0:sv K "NoHiding" c0 (.ref cH::bmV))
  (x1:sv K "NoNumber" c1 (.ref cH::bmV))
  (x2:sv K "TooMany" c2 (.ref cH::bmV))
  (x3:sv K "NoCell" c3 (.ref cH::bmV))
  (x4:sv K "NoShot" c4 (.ref cH::bmV))
  (x5:sv K "NothingLeft" c5 (.ref cH::bmV))
  (x6:sv K "NoCounts" c6 (.ref cH::bmV))
  (x7:sv K "Over" c7 (.ref cH::bmV))
  (x8:sv K "NoText" c8 (.ref cH::bmV))
  (x9:sv K "NoRow" c9 (.ref cH::bmV))
  (r2:OE K c2 fI)
  {kV_i dc_i pm_i cd_i ct_i:Tn} {od_i an_i odT:Ta} {sl_i slT:S4} {nT:Nat} {tT:Tok} (lG:K.lookup fI=some ⟨.type "function",od_i,.func (PySem.W.fnOf "__init__" "HideError.__init__" (cj bQ) (bp bQ) (az bQ) (.ref dT) kV_i dc_i pm_i an_i cd_i ct_i),sl_i⟩) (q9:codeIn K cd_i "HideError.__init__"=true) (xb:K.lookup dT=some ⟨.type "tuple",odT,.seq #[.str "" tT,.none] nT,slT⟩)
  (lt:[cH,c0,c1,c2,c3,c4,c5,c6,c7,c8,c9].Pairwise (@LT.lt Nat _))
  : ∃fd:Tt,(∀(s:To)(v:Tn),BindsTo s fd ⟨[v],[]⟩ [("script",v)])/\∀base:Tr,K.In base->base.Ns mainGlobals mg->dM l.prog w K mg base kO 11 fa fd ["script"] (AY K 1 .cl (@m_law ⟨hashStr w⟩)):=by
 letI:Th:=⟨hashStr w⟩;obtain⟨oc,kV,dc,pm,cd,ct,od,an,sl,aL,lL,cL,kL⟩:=Ov;have e:=hfa.symm.trans (mg_of X G aL);cases e;refine⟨PySem.W.fnOf "law" "law" (cj st_law) (bp st_law) (az st_law) .none kV dc pm an cd ct,λs v=>.of_eq rfl,λbase _ _=>?_⟩
 let W:Wd:=⟨l.prog,w,K,mg,base⟩
 have a {x st f} (A:ef K x st f):W.At x st:=A.at X G;have T:Tx W:=⟨Qr X G z_ValueError,Qr X G z_all,Qr X G z_bool,Qr X G z_enumerate,Qr X G z_int,Qr X G z_isinstance,Qr X G z_len,Qr X G z_list,Qr X G z_max,Qr X G z_min,Qr X G z_range,Qr X G z_sorted,Qr X G z_sum,Qr X G z_tuple,Qr X G z_zip,nl,⟨(.int 8),_,mg_of X G a_GREATEST,⟨_,rfl⟩,λ_=>rfl⟩,⟨(.int 1000),_,mg_of X G a_MOST_TOLD,⟨_,rfl⟩,λ_=>rfl⟩,⟨.ref lF,_,mg_of X G a_WAYS,rfl,λ_=>⟨lF,[(.str "along"),(.str "down")],rfl,.inr ⟨_,_,_,l_WAYS,rfl,rfl,(show(2:Nat)<=sizeLine by decide),(.cons ⟨_,rfl⟩ (.cons ⟨_,rfl⟩ .nil))⟩,⟨_,_,rfl,⟨rfl,by decide +kernel⟩,⟨_,_,rfl,⟨rfl,by decide +kernel⟩,rfl⟩⟩⟩⟩,rfl⟩;have OI:dM l.prog w K mg base kO 1 fI _ _ (JF K cH fI):=CA lG q9 (Qr X G z_ValueError);have e2:=x2.ec r2 lG;have XC_TooMany:XC l.prog w K mg base 1 "TooMany":=⟨c2,cH,fI,_,x2.g X G,e2,OI,Dn rfl xb,Dl rfl xb⟩;have OT:=Hf (L:=[("NoHiding",c0),("NoNumber",c1),("TooMany",c2),("NoCell",c3),("NoShot",c4),("NothingLeft",c5),("NoCounts",c6),("Over",c7),("NoText",c8),("NoRow",c9)]) X G (dB x0 (dB x1 (dB x2 (dB x3 (dB x4 (dB x5 (dB x6 (dB x7 (dB x8 (dB x9 F1)))))))))) lt JB;have CL2:EI K mg cH "TooMany" c2:=F8 e2 r2.2.2.2.2.1 r2.2.2.2.2.2.1 r2.2.2.2.2.2.2 (OT ("TooMany",c2) (.tail _ (.tail _ (.head _))));obtain⟨_,F40,k40,g40⟩:=h40.fn X G;have b40:=F40.binds (ps:=["e"]) λ_ _ _ _ _ _=>Kx λ_=>rfl;have TX:NQ l.prog w K mg base cs_:=by
  have GH:=xH.g X G;obtain⟨_,_,_,_,_,_,_,_,_,_,_,_,_,_,_,lH⟩:=xH;exact⟨cH,_,_,_,_,_,_,_,_,_,_,_,_,_,_,Pm,_,GH,lH,(CY (x2.g X G) CL2 Gb),yP F40 (Qr X G z_isinstance) (Qr X G z_ValueError) (x0.g X G) (x1.g X G) (x2.g X G) (x3.g X G) (x4.g X G) (x5.g X G) (x6.g X G) (x7.g X G) (x8.g X G) (x9.g X G),g40,k40,b40⟩
 have C0:=qR (a h0) T;have C1:=nP (a h1) T C0;have C2:=qm (a h2) T C1;have C3:=nA (a h3) T;have C4:=nz (a h4) T;have C5:=qk (a h5) T C4;have C6:=qA (a h6) T;have C7:=rp (a h7) T C3 C5 C4 C6;have C8:=mi (a h8) T C2 C7;have C9:=nI (a h9) T C0;have C10:=iw (a NZ) T;have C11:=kR (a N0) T C4;have C12:=l4 (a N1) T C1 C9 C10 C11;have C13:=qH (a N3) T C11;have C14:=pC (a N4) T;have C15:=lZ (a N5) T;have C16:=rq (a N6) T;have C17:=vg (a N7) T C16;have C18:=uj (a N8) T C15 C16;have C19:=vk (a N9) T C15 C17 C18;have C20:=rA (a N') T C14 C19;have C21:=rS (a Oa) T;have C22:=pF (a Ob) T;have C23:=nJ (a Oc) T C21 C22;have C24:=nv (a Od) T;have C25:=B0 (a Oe) T C23 C24;have C26:=qu (a Of) T C21 C25;have C27:=kX (a Og) T;have C28:=iT (a Oh) T;have C29:=Du (a Oi) T C27 C28;have C30:=nD (a Oj) T C29;have C31:=jV (a Ol) T C30;have C32:=l5 (a Om) T C20 C26 C21 C31;have C33:=kT (a On) T C32;have C34:=nt (a Oo) T;have C35:=qU (a Oq) T;have C36:=iR (a Os) T XC_TooMany;have C37:=uR (a Ot) T C36 C32;have C38:=qj (a Ou) T TX C37;exact GQ (W:=W) (AC (st:=st_law) lL cL kL) T C8 C12 C0 C9 C10 C11 C13 C33 C34 C35 C38
theorem Bf{l:PySem.W.OpenLaw}{q:Tp}{loose:Tb}{XP:S5->Tr->Prop}{YP:Ts->Tr->Prop}{d:DefRec}{K:Params->Tj}(hn:l.most=some 63)(KN:d.params.defaults=[])
  (hY:∀(w:Ts)(h:Tr),YP w h->(K w.params).In h)
  (F:∀(w:Ts)(mg:S5)(fa:Tv)(h:Tr),(K w.params).In h->h.Ns mainGlobals mg->mg d.name=some (.ref fa)->
   ∃fd:Tt,(∀(s:To)(u:Tn),BindsTo s fd ⟨[u],[]⟩ [("script",u)])/\∀base:Tr,(K w.params).In base->base.Ns mainGlobals mg->dM l.prog w (K w.params) mg base kO 11 fa fd ["script"] (AY (K w.params) 1 .cl (@m_law ⟨hashStr w⟩))) :
  PySem.W.WalkO q loose XP YP l.row.toRowW d [] (λf vs=>PySem.call f vs):=
 L2.Eb (n:=63) (k:=11) (x:="script") (CX:=λ_=>kO) (sp:=λw=>AY (K w.params) 1 .cl (@m_law ⟨hashStr w⟩)) hn @1 KN ⟨rfl,by decide,by decide⟩ hY F
  (λw H a ns hl _ hS=>⟨H,[.lst (ns.map .int)],.bl true,rfl,λ_ _ z=>z,⟨_,_,rfl,⟨a,_,rfl,hS,av.ints ns⟩,rfl⟩,@law_true ⟨hashStr w⟩ ns hl,λv Z' H' _ g=>g⟩) λ_ _ _ _ _ z=>z
end K09
structure PySem.W.Fast:Prop where(tw17483124940839531208 tw7232803314687616743 tw29046360668803206 tw8107519781361786207 tw14122365408832843736 tw2754094219085500449 tw5999628848346652256 tw10415879716932368816 tw974314635397732235 tw14283437815046953902 tw14224690568680200266 tw4674986109419114789 tw5881879555162815654 tw255364707992448941 tw1862679925211712109 tw11586640310705788745 tw7833274855980958891 tw11054310831209321824 tw8613165167535265505 tw1484927447731598875 tw3064907445589515686 tw11142929962814366552 tw8802549562083727244 tw15834038445459662726 tw4368993820163992396 tw4071220772326745576 tw16464628435448574615 tw9819761151800229738 tw13505868989066455281 tw12972386519200665697 tw12272672295516470137 tw6185839444324990900 tw10911467186812398027 tw13717250622460267991 tw3088628837682069803 tw11876066797787351444 tw12285217093983011053 tw5347323966122246378 tw1072182645696792409 tw8308345814633565657 tw6082013919496151426 tw4004953497147186785 tw9430753092810509505 tw2614042172650551568 tw17597783590311995111 tw6858408317182658424 tw14561898276924167747 tw11753124615120517152 tw10389138871417965629 tw12150468874464412223 tw4958982585110954237 tw7468596424337368263 tw5247418625526630352 tw16361833925202626559 tw5331909022213266185 tw4443526333304845738 tw865873644313823773 tw10687231847323739649 tw5743866044639929763 tw10819273722557794375 tw11107504408005056312 tw13770480239954459829 tw7792490655999622768 tw4084062170304668513 tw9471992341984085289 tw5118256142795634357 tw5441631416683342850 tw3734739384056821353 tw13749149690056427639 tw5863692484618957469 tw9113225963102248172 tw16923563378796447645 tw15673256240739852470 tw14611018977830336321 tw12020789916213761273 tw8895713273773930070 tw1690157146628878505 tw10365191349786257791 tw14515401785529170941 tw12400207575310536857 tw5726428223037693860 tw6298266972344812607 tw921283788096623288 tw56837236038026521 tw1050134477128974280 tw2840496813641136570 tw15232135331463002383 tw9411925815555646146 tw12952090808930092240 tw5995616978038904153 tw12900639527717017800 tw16296073244443019847 tw8050543581258627286 tw1329491841966656271 tw12614790217556135368 tw3331722173025795826 tw11426948129244875047 tw7703248741084982866 tw11216161471572137213 tw5182015773070351257 tw12676052490412729681 tw17222046893642577498 tw11820140998464340216 tw95138522549799444 tw8106262327250494348 tw7984086214632579314 tw13838968501183988523 tw14075941152265318693 tw15783878746068383666 tw17856560978551418283 tw16086947539362731525 tw7485202055639058168 tw11288687185626266752 tw2250758811340160709 tw5234007235460001900 tw7502979687679459153 tw12085024526498720 tw6820794276836219629 tw1283791645722349288 tw4478345920343300979 tw3928558150725140725 tw6708513803507193091 tw11339243886488551608 tw13446790649750963114 tw2908641840136239915 tw3785825139932599850 tw13915797150610949433 tw2765166490963560373 tw3739428708019913196 tw8976256026427013380 tw12940979125694374968 tw3573469122763270233 tw12700329365767324260 tw3811070632926782645 tw6560675934101334283 tw236156040322360006 tw12091599747390237059 tw13761389879838761398 tw5159317249341073734 tw12888083859175080805 tw5387710867193502551 tw10381001069330887556 tw12797811885800262233 tw12429015899093574281 tw3014360306907360381 tw17514717424737903096 tw8499050816307356714 tw15383007165312440615 tw12954943006765161927 tw7540329642389435377 tw4180440160592232160 tw7916967881535137570 tw15101928334397623059 tw3811147104550491869 tw17690848362733710960 tw4594804501511386834 tw3591152776528575262 tw17238840378293002313 tw16139191969137072222 tw2428235180451772376 tw12131878530993691748 tw4928435544617070374 tw2496662949384070634 tw5361644400501063059 tw10763258810375461088 tw15251598128036987244 tw13848290318009594005 tw18165528932825020797 tw1604152402283462108 tw1028215255571692537 tw590572935486021466 tw4753986425462172409 tw16299338109877931048 tw10261943164531724352 tw8208549913632124992 tw2508399918879443240 tw8850869823429852904 tw4489238156638711321 tw17975323361865281365 tw8735698646941369652 tw8092517058168217231 tw11131354292004228667 tw11824666656026615295 tw439150225713078859 tw10286388828359865874 tw11450301412548491326 tw2985763673002541282 tw14526795806623387407 tw13022366353750889810 tw6132680705322180673 tw12009611581550520489 tw14944433951287516252 tw17672549392190108200 tw14687505189888679859 tw14793284585787633991 tw12881343530603604469 tw8805870301000790379 tw14813454600165108440 tw11029305337329209063 tw618428226608558600 tw10918768962950042438 tw14851466023376699536 tw17576245047851453431 tw18148947082738118918 tw1712732949138487032 tw17749391988976562687 tw898846819433790646 tw10619354078174704303 tw17292034491351826712 tw11998854860917794914 tw5972026854482560451 tw12054543465388784783 tw10098532086956744846 tw1633944615370324974 tw3994324900487763932 tw8674522868836434830 tw14340008702979520480 tw10815381494607907367 tw11666723906709077542 tw11063298623811420365 tw14311995904306140908 tw10502258081669712951 tw13167400404915776506 tw7268732950967551909 tw10894208108783350521 tw1790660954011663596 tw9740787910696947658 tw4737419399243138301 tw9854128617730784620 tw16411658125384599646 tw16039908614966001042 tw2558485681546587606 tw4115270073462540029 tw8825722601328954146 tw6268085956198155320 tw3263122441785814770 tw7697591228654823073 tw14222814328192627259 tw14029710865291197074 tw9794764285616525130 tw17186106665193139415 tw16042943975238733097 tw2199083167810611306 tw12764496455610771910 tw11407381354079005067 tw3759547391075778092 tw14204936715010466223 tw7698361816985583397 tw17832631298644263595 tw2813952291971979608 tw16619490631739386655 tw15887309852805653307 tw11026561388408702198 tw9538490963322097299 tw4118913227906792272 tw7714663053208235371 tw15330292214703855261 tw5782863422049046689 tw6879489227002289880 tw12048890457158792369 tw3954777020463365877 tw6377163504145880433 tw1145932663617730221 tw16923845403002042895 tw11856252877198434330 tw8635488258576148447 tw15299472301764394787 tw14949202119896955370 tw17930003653531316984 tw13647650318568932727 tw10483849720352555398 tw3805642331816438513 tw5864484889747832529 tw1972349555176760152 tw1639905230325028126 tw16966480705630126044 tw16836324887008493040 tw8317738280635153532 tw12893819049807983565 tw15384852986712648493 tw879884842442783099 tw15322805730033033844 tw4047815697016601152 tw14868126037492369535 tw10218254110792164056 tw3402710343939933206 tw18263392615716866573 tw8352968481216018338 tw11502824584396983020 tw7976976041149118094 tw6842981404578312791 tw2337587533033310885 tw17519602410311798399 tw5028587729101389841 tw12321474642321362407 tw12887333647279806006 tw6122418663210587231 tw2803667527749335837 tw17831603183568792766 tw5216320208342641092 tw9841794514212335288 tw4544448459341392573 tw16406527934436763477 tw12233398464816522921 tw676754262095489959 tw10665864088365309150 tw12979866471444783046 tw13943065600120442509 tw11858645169783666930 tw4873579794189649990 tw8190386493794789576 tw6841213705159939655 tw6631963666609344097 tw12001705189297222995 tw12240554632392669810 tw14171892607898093690 tw1302637750629380111 tw16857343851523269205 tw6276790518271653345 tw13410016781585954489 tw9855086702540292042 tw12905918430145494260 tw10277770771296040574 tw3163080676678466787 tw11552340927261691647 tw16627318222863615632 tw8017099831359095506 tw16702939317618600245 tw977117576998492920 tw7581121612339254278 tw14664313658045087108 tw16451864322483147164 tw9017362729832712567 tw5016566142560479964 tw17105691871588853745 tw11826920107328113926 tw7101202277260049389 tw7245551184785634050 tw5426581686994081185 tw12002401781236041590 tw14638572816194774152 tw17705470815339290929 tw17128712904965249927 tw1884284619142280745 tw16070197850692027994 tw2248236453993416236 tw2468944890818373998 tw2636361242382155777 tw4471783350881565274 tw14753388244512160986 tw4900051715785527006 tw10267480951464482100 tw2838033085866980440 tw1710743708402428339 tw13982377188802758347 tw14118805929777714653 tw16781319554002367601 tw11572018161706833476 tw9033045531831699473 tw15425522936676649588 tw8828426065629945036 tw16841682359574281487 tw12144821518356310667 tw6394488956747912301 tw8126094649242453801 tw12521447390887551904 tw14338833005213287019 tw13992009835459233084 tw11552971452178555611 tw2826246609489534982 tw16371284916359767874 tw5132240463782639496 tw8497595428604942142 tw15595812285387060661 tw2223022667354752441 tw4762265888978540805 tw3391048162151660352 tw6557600410775100758 tw788509297060670121 tw12438109652993141115 tw18143926088867916428 tw7583486536698553364 tw8620622900909582249 tw1292735447838564843 tw2069568526683332179 tw6634763312458051563 tw12314347701737216003 tw4469033072954480332 tw8653931221539149738 tw11624028827853255326 tw8441954919865005071 tw2790208067985053184 tw11043282635117265165 tw16704610771154672321 tw17372387139311182312 tw9041515927292166407 tw13521073194907314160 tw16458834960595782604 tw14286951197984077261 tw4298484971408649315 tw5014924540939650024 tw1932240650470546368 tw3073989929626543329 tw2469504836867243136 tw9190431704293781584 tw932962142661534708 tw2666974073901852209:True)
set_option hygiene true
open PySem PySem.W PyProof.Rows
local macro_rules | `(tactic| walk_at "at") => `(tactic| (refine' Mi.Ke ?a ?l ?c ?k; (case a => k_is); (case l => k_is); (case c => k_is); (case k => k_is)))
local macro_rules | `(tactic| walk_at "cl") => `(tactic| (refine' Mi.G8 ?a ?l; (case a => k_is); (case l => k_is)))
local macro_rules | `(tactic| walk_at "rz") => `(tactic| (refine' ⟨?a, ?b, ?c, ?d, ?e, ?f, ?g⟩; (case a => k_is); (case b => k_is); (case c => k_is); (case d => k_is); (case e => k_is); (case f => k_is); (case g => k_is)))
set_option maxRecDepth 100000 in
set_option maxHeartbeats 0 in
theorem PySem.Challenge.cw_fleethide_k09_what_fits_holds : PySem.Challenge.rw_fleethide_k09_what_fits.Holds := by
  w_on
  o_law
  k_head
  (case hw=>w_witness2)
  k_fill
  refine K09.Bf (l:=PySem.Challenge.rw_fleethide_k09_what_fits) rfl rfl (fun w h Y=>PySem.W.kIn_of Y) ?F
  case F=>
    intro w mg fa h KX G hmg
    refine' K09.all_mk KX G hmg ?h0 ?h1 ?h2 ?h3 ?h4 ?h5 ?h6 ?h7 ?h8 ?h9 ?NZ ?N0 ?N1 ?N3 ?N4 ?N5 ?N6 ?N7 ?N8 ?N9 ?N' ?Oa ?Ob ?Oc ?Od ?Oe ?Of ?Og ?Oh ?Oi ?Oj ?Ol ?Om ?On ?Oo ?Oq ?Os ?Ot ?Ou ?Ov ?h40 ?z_ValueError ?z_all ?z_bool ?z_enumerate ?z_int ?z_isinstance ?z_len ?z_list ?z_max ?z_min ?z_range ?z_sorted ?z_sum ?z_tuple ?z_zip ?nl ?ga_GREATEST ?ga_MOST_TOLD ?ga_WAYS ?gl_WAYS ?xH ?x0 ?x1 ?x2 ?x3 ?x4 ?x5 ?x6 ?x7 ?x8 ?x9 ?r2 ?lG ?q9 ?xb ?lt
    (case h0=>walk_at "at")
    (case h1=>walk_at "at")
    (case h2=>walk_at "at")
    (case h3=>walk_at "at")
    (case h4=>walk_at "at")
    (case h5=>walk_at "at")
    (case h6=>walk_at "at")
    (case h7=>walk_at "at")
    (case h8=>walk_at "at")
    (case h9=>walk_at "at")
    (case NZ=>walk_at "at")
    (case N0=>walk_at "at")
    (case N1=>walk_at "at")
    (case N3=>walk_at "at")
    (case N4=>walk_at "at")
    (case N5=>walk_at "at")
    (case N6=>walk_at "at")
    (case N7=>walk_at "at")
    (case N8=>walk_at "at")
    (case N9=>walk_at "at")
    (case N'=>walk_at "at")
    (case Oa=>walk_at "at")
    (case Ob=>walk_at "at")
    (case Oc=>walk_at "at")
    (case Od=>walk_at "at")
    (case Oe=>walk_at "at")
    (case Of=>walk_at "at")
    (case Og=>walk_at "at")
    (case Oh=>walk_at "at")
    (case Oi=>walk_at "at")
    (case Oj=>walk_at "at")
    (case Ol=>walk_at "at")
    (case Om=>walk_at "at")
    (case On=>walk_at "at")
    (case Oo=>walk_at "at")
    (case Oq=>walk_at "at")
    (case Os=>walk_at "at")
    (case Ot=>walk_at "at")
    (case Ou=>walk_at "at")
    (case Ov=>walk_at "at")
    (case h40=>walk_at "at")
    (case z_ValueError=>k_is)
    (case z_all=>k_is)
    (case z_bool=>k_is)
    (case z_enumerate=>k_is)
    (case z_int=>k_is)
    (case z_isinstance=>k_is)
    (case z_len=>k_is)
    (case z_list=>k_is)
    (case z_max=>k_is)
    (case z_min=>k_is)
    (case z_range=>k_is)
    (case z_sorted=>k_is)
    (case z_sum=>k_is)
    (case z_tuple=>k_is)
    (case z_zip=>k_is)
    (case nl=>kernel_rfl)
    (case ga_GREATEST=>k_is)
    (case ga_MOST_TOLD=>k_is)
    (case ga_WAYS=>k_is)
    (case gl_WAYS=>k_is)
    (case xH=>walk_at "cl")
    (case x0=>walk_at "cl")
    (case x1=>walk_at "cl")
    (case x2=>walk_at "cl")
    (case x3=>walk_at "cl")
    (case x4=>walk_at "cl")
    (case x5=>walk_at "cl")
    (case x6=>walk_at "cl")
    (case x7=>walk_at "cl")
    (case x8=>walk_at "cl")
    (case x9=>walk_at "cl")
    (case r2=>walk_at "rz")
    (case lG=>k_is)
    (case q9=>k_is)
    (case xb=>k_is)
    (case lt=>decide)
