
import PyProof.Rows.All
import Wide.All
import OpenK.AllK
import Wide.FinOn
import Lean
import PyProof.EqAt
import PyProof.EqKinds
import PyProof.TupleCall
import PyProof.SetScanFacts
import PyProof.SetRoads
import PyProof.SetNew
import PyProof.TupleKey
import PyProof.DictFindH
import PyProof.Rows.SetFrom
import KE.KDictOf
import PyProof.AttrMissHeap
import PyProof.MeetsDictList
import PyProof.FString5
import KE.KUnpackStar
import PyProof.StationsW
import PyProof.RulesDel
import PyProof.RulesAs
import PyProof.InstStoreFacts
import PyProof.ExcInit
import PyProof.ExcClass3
import PyProof.ExcBaseAll.ValueError
import PyProof.ExcArgsOwn
import PySem.Challenge.RW_fleethide_k13_parts_of_a_shot
set_option Elab.async false
set_option linter.all false
set_option maxRecDepth 100000
set_option maxHeartbeats 4000000
set_option hygiene false
local macro_rules
|`(@1)=>`((by omega))
|`(@2)=>`((by decide))
|`(@3)=>`((model X.prog X.w))
|`(@4)=>`((.tup [.int R,.int C]))
|`(@5)=>`(Inv X pins σ H s)
|`(@6)=>`((dA nm q C N bs bm sn sub ab col dd k0 k1 k2 k3 k5))
|`(@7)=>`((model prog w))
|`(@8)=>`((by simp))
|`(@9)=>`((x==("__debug__":Str))=false)
|`(@10)=>`((.F (.lst (h.map λs=>eC (gF ru s)))))
|`(@11)=>`(X.fn x=true\/X.env.scope.names.lookup x=some .local)
|`(@12)=>`((.lst (rec.map bp)))
local macro_rules
|`(tactic|show 1)=>`(tactic|(refine(show wpAny _ _ (field (.ref z) 2 >>= _) _ _ _ from a_ (K_ hz rfl (x:=.bool false) rfl ?_));refine(show wpAny _ _ (field (.ref z) 3 >>= _) _ _ _ from a_ (K_ hz rfl (x:=.ref TI) rfl (a_ (Vh mS rfl ?_))));refine(show wpAny _ _ (Builtin.SmallTypes.ownedTupleIsFree (.ref z) >>= _) _ _ _ from a_ ?_);unfold Builtin.SmallTypes.ownedTupleIsFree))
|`(tactic|show 2)=>`(tactic|(obtain⟨o,ho,hc,hd⟩:=id hit;obtain⟨ol,JA,_,nl,Im⟩:=ht;unfold Builtin.SmallTypes.nextOf;refine a_ (UM (name:="__next__") hit.typeIs VY (UJ VY hit.typeIs F.entry_tuple_iterator_next ?_ (F.args_tuple_iterator_next_1 _)));show wpAny _ _ (field (.ref i) 0 >>= _) _ _ s;refine a_ (K_ ho hd (x:=.ref t) rfl (show wpAny _ _ (if(Value.ref t==Value.none)=true then _ else _) _ _ s from ?_));rw[i_ (show ¬((Value.ref t==Value.none)=true)from UY)];refine(show wpAny _ _ (field (.ref i) 1 >>= _) _ _ s from a_ (K_ ho hd (x:=.int k 0) rfl (show wpAny _ _ (seqItems? (.ref t) >>= _) _ _ s from a_ (Vh JA Im ?_))))))
abbrev Yh:=PySem.Value->PySem.Shared->Prop
abbrev Yi:=List (PySem.Addr×PySem.Obj)
abbrev Yj:=Array (Option PySem.Value)
abbrev Yk:=PySem.Str->Option PySem.Value
abbrev Yl:=List (PySem.Str×PySem.Addr)
abbrev Ym:=List (Int×Int)
abbrev Yn:=List PySem.Comprehension
abbrev Yo:=List PySem.Value
abbrev Yp:=Option PySem.Value
abbrev Yq:=Option PySem.Addr
abbrev Yr:=List PySem.Str
abbrev Ys:=List PySem.Addr
abbrev Yt:=List PySem.Expr
abbrev Yu:=List PySem.Stmt
abbrev Yv:=List Nat
abbrev Yw:=List Int
abbrev Yx:=Int×Int
abbrev Yy:=PySem.W.Frag
abbrev Yz:=PySem.Value
abbrev YA:=PySem.Shared
abbrev YB:=PySem.Program
abbrev YC:=PySem.Around
abbrev YD:=PySem.Heap
abbrev YE:=PySem.World
abbrev YF:=PySem.FuncData
abbrev YG:=PySem.Scope
abbrev YH:=PySem.Addr
abbrev YI:=PySem.Expr
abbrev YJ:=PySem.Stmt
def a_:=@PySem.wpAny_bind
def b_:=@Option.bind_eq_some_iff
def c_:=@List.length_map
def d_:=@PySem.Heap.get?_push_of_some
def e_:=@PySem.wpAny_pure
def f_:=@List.mem_cons_of_mem
def g_:=@List.mem_cons_self
def h_:=@if_pos
def i_:=@if_neg
def j_:=@List.getElem?_set_ne
def k_:=@List.getElem?_eq_some_iff
def l_:=@List.getElem?_eq_getElem
def m_:=@Nat.le_refl
def n_:=@PySem.Heap.lt_size
def o_:=@PySem.Heap.get?_push_size
def p_:=@List.mem_cons
def q_:=@Nat.lt_of_lt_of_le
def r_:=@List.getElem?_set_self
def s_:=@List.size_toArray
def t_:=@List.mem_map
def u_:=@List.length_append
def v_:=@List.length_cons
def w_:=@decide_eq_true_eq
def x_:=@List.getElem?_map
def y_:=@decide_eq_true
def z_:=@List.mem_singleton
def A_:=@Nat.ne_of_lt
def B_:=@Nat.le_trans
def C_:=@List.map_cons
def D_:=@Bool.false_eq_true
def E_:=@List.getElem?_eq_none
def F_:=@PySem.wpAny_holding
def G_:=@decide_eq_false
def H_:=@List.filter_cons
def I_:=@Bool.and_eq_true
def J_:=@List.map_append
def K_:=@PySem.wpAny_field
def L_:=@Option.map_eq_some_iff
def M_:=@PySem.Heap.get?_update_other
def N_:=@PySem.PassesOwn.never
def O_:=@List.map_map
def P_:=@PySem.wpAny_setField_rec
def Q_:=@List.length_filter_le
def R_:=@List.getElem?_append_right
def S_:=@List.getElem?_append_left
def T_:=@List.length_nil
def Uz:=@List.pairwise_cons
def UA:=@List.contains_cons
def UB:=@PySem.wpAny_loadPart_at
def UC:=@Nat.ne_of_gt
def UD:=@Bool.eq_iff_iff
def UE:=@List.map_congr_left
def UF:=@List.mem_append
def UG:=@List.append_nil
def UH:=@Nat.zero_add
def UI:=@PySem.sizeLine_eq
def UJ:=@PySem.wpAny_call_entry
def UK:=@List.mem_map_of_mem
def UL:=@List.not_mem_nil
def UM:=@PySem.wpAny_callSpecial?_slot
def UN:=@List.mem_filter
def UO:=@PySem.wpAny_mono
def UP:=@PySem.Heap.size_push
def UQ:=@List.pairwise_append
def UR:=@Nat.le_add_right
def US:=@Ne.symm
def UT:=@List.length_singleton
def UU:=@if_false
def UV:=@List.mem_range
def UW:=@List.mem_of_getElem?
def UX:=@List.flatMap_cons
def UY:=@Bool.false_ne_true
def UZ:=@PySem.Heap.get?_update_self
def U0:=@List.nil_append
def U1:=@Array.getElem?_eq_some_iff
def U2:=@Nat.le_of_not_lt
def U3:=@List.all_eq_true
def U4:=@PySem.Heap.get?_none_of_le
def U5:=@PySem.F.slot_dict_itemiterator_next
def U6:=@PySem.Obj.data_mapFields
def U7:=@Array.length_toList
def U8:=@PySem.mem_of_lookup
def U9:=@PySem.wpAny_isSubtype_exc
def U_:=@List.mem_append_right
def Va:=@PySem.W.mg_none_of
def Vb:=@PySem.wpAny_truthy_bool
def Vc:=@Int.toNat_natCast
def Vd:=@PySem.wpAny_newObj_type
def Ve:=@List.getElem?_replicate
def Vf:=@Int.eq_ofNat_of_zero_le
def Vg:=@List.getD_eq_getElem?_getD
def Vh:=@PySem.wpAny_seqItems
def Vi:=@PySem.W.kia_one
def Vj:=@List.lookup_cons
def Vk:=@List.take_length
def Vl:=@List.getElem?_zip_eq_some
def Vm:=@of_decide_eq_true
def Vn:=@Nat.lt_succ_of_lt
def Vo:=@PySem.wpAny_standAt
def Vp:=@Nat.mul_le_mul
def Vq:=@List.sum_cons
def Vr:=@List.zip_cons_cons
def Vs:=@PySem.tupleKind_room_in1
def Vt:=@Option.bind_some
def Vu:=@List.mem_flatMap
def Vv:=@List.pairwise_singleton
def Vw:=@PyProof.Rows.callWith_type1
def Vx:=@List.pairwise_map
def Vy:=@if_true
def Vz:=@PySem.wpAny_pyIter_list
def VA:=@Bool.or_true
def VB:=@List.pairwise_iff_getElem
def VC:=@List.drop_eq_getElem_cons
def VD:=@List.take_append_drop
def VE:=@congrArg
def VF:=@PySem.Obj.isFreed_of_fields
def VG:=@Int.emod_lt_of_pos
def VH:=@PySem.wpAny_Call_Name_kw
def VI:=@PySem.wpAny_typeNameOfWhole_itemiter
def VJ:=@List.Pairwise.imp_of_mem
def VL:=@PySem.W.looks_findIn
def VM:=@List.append_assoc
def VN:=@PySem.wpAny_specialOf
def VO:=@PySem.F.slot_zip_next
def VP:=@List.getElem?_range
def VQ:=@PySem.F.slot_set_contains
def VR:=@PyProof.Rows.F.plain_set_update_loop
def VS:=@Function.comp_apply
def VT:=@Nat.zero_le
def VU:=@Nat.lt_irrefl
def VV:=@PySem.wpAny_attempt
def VW:=@List.length_take
def VX:=@List.perm_ext_iff_of_nodup
def VY:=@PySem.F.slot_tuple_iterator_next
def VZ:=@PySem.F.excBase_ValueError
def V0:=@Array.getElem?_eq_getElem
def V1:=@PySem.wpAny_typeNameOf_itemiter
def V2:=@Int.emod_nonneg
def V3:=@List.nodup_cons
def V4:=@PySem.codeAny_builtin
def V5:=@or_false
def V6:=@PySem.wpAny_setState_of
def V7:=@PySem.codeAny_mono
def V8:=@PySem.AutoSeq1.wpAny_loadPart'
def V9:=@PySem.Heap.SameBut.update
def V_:=@List.cons_append
def Wa:=@List.getElem_mem
def Wb:=@Bool.and_false
def Wc:=@PySem.F.plainAttrs_list
def We:=@PySem.wpAny_setField
def Wf:=@List.map_flatMap
def Wg:=@decide_eq_false_iff_not
def Wh:=@Nat.pow_succ
def Wi:=@PySem.W.callWith_K
def Wj:=@PySem.W.cellsFrom_some
def Wk:=@PySem.F.called_set
def Wl:=@PySem.wpAny_isOneOf_itemiter
def Wm:=@PyProof.Rows.boot_isinstance
def Wn:=@List.dropLast_concat_getLast
def Wo:=@List.mem_iff_getElem?
def Wp:=@List.length_replicate
def Wq:=@PySem.F.slot_enumerate_next
def Wr:=@List.pairwise_flatMap
def Ws:=@List.length_range
def Wt:=@PySem.wpAny_newFunctionEnv_cells
def Wu:=@PySem.Around.under_plainId
def Wv:=@List.nodup_nil
def Ww:=@PySem.codeAny_call_builtin
def Wx:=@Nat.mod_eq_of_lt
def Wy:=@PySem.wpAny_forIn_list
def Wz:=@PySem.Heap.size_update
def WA:=@Classical.byContradiction
def WB:=@beq_eq_false_iff_ne
def WC:=@List.filterMap_cons
def WD:=@PyProof.Rows.F.entry_set_update_loop
def WE:=@PySem.F.plain_extend_loop
def WG:=@PySem.F.args_tuple_add_2
def WH:=@PySem.wpAny_comprehension_free
def WI:=@PySem.wpAny_onRaise
def WJ:=@List.foldl_cons
def WK:=@PySem.wpAny_execs_nil
def WL:=@PySem.wpAny_passesOwn
def WM:=@List.of_mem_zip
def WN:=@List.forIn_cons
def WO:=@PyProof.Rows.get?_update_seq
def WQ:=@PySem.wpAny_pyIter_tuple
def WR:=@PySem.Calls.spliced_cons
def WS:=@Array.forIn_toList
def WT:=@PySem.Code.quiet_builtin
def WU:=@beq_iff_eq
def WV:=@PySem.wpAny_rule
def WW:=@PySem.F.entry_tuple_add
def WX:=@Nat.le_succ
def WY:=@PySem.wpAny_letGo
def WZ:=@PySem.wpAny_callSpecialUnlessNone?_slot
def W0:=@List.pairwise_lt_range
def W1:=@PySem.wpAny_pyNext_list_item
def W2:=@List.take_sublist
def W3:=@PySem.F.slot_tuple_add
def W4:=@PySem.Calls.callWith_builtin
def W5:=@PyProof.Rows.boot_list
def W6:=@List.drop_eq_nil_of_le
def W7:=@List.take_of_length_le
def W8:=@List.ext_getElem?
def W9:=@PySem.F.args_zip_next_1
def W_:=@List.filter_eq_nil_iff
def Xa:=@PySem.F.args_dict_itemiterator_next_1
def Xb:=@PySem.wpAny_pyNext_list_end
def Xd:=@PySem.codeAny_call_function
def Xe:=@Array.getElem?_toList
def Xf:=@List.set_getElem_self
def Xg:=@PySem.wpAny_execs_cons
def Xh:=@PySem.wpAny_call
def Xi:=@PyProof.Rows.callWith_builtin1
def Xj:=@beq_self_eq_true
def Xk:=@Nat.lt_succ_self
def Xl:=@PySem.F.entry_zip_next
def Xm:=@PySem.wpAny_isInstance
def Xn:=@List.flatMap_map
def Xo:=@Nat.mul_assoc
def Xp:=@Nat.add_assoc
def Xq:=@List.map_take
def Xr:=@Nat.mul_add
def Xs:=@PySem.wpAny_updateSeq_pair
def Xt:=@List.length_set
def Xu:=@PySem.wpAny_loadPart'
def Xv:=@Nat.mul_comm
def Xw:=@Nat.le_of_lt
def Xx:=@PySem.wpAny_typeOf
def Xy:=@List.mem_filterMap
def Xz:=@Bool.false_and
def XA:=@PySem.W.codeRec_of
def XB:=@Nat.lt_of_le_of_lt
def XD:=@List.forIn_nil
def XE:=@PySem.wpAny_newTuple
def XF:=@PySem.isSubtype_stop
def XG:=@PySem.wpAny_fieldsOf
def XI:=@List.take_succ
def XJ:=@List.filter_append
def XM:=@List.mem_take_iff_getElem
def XN:=@List.mem_drop_iff_getElem
def XO:=@PyProof.Rows.assign_Tuple
def XQ:=@Nat.mul_left_comm
def XR:=@PySem.Calls.spliced_nil
def XS:=@PySem.slot_list_getitem
def XT:=@List.reverse_cons
def XU:=@PySem.W.kitx_dict
def XW:=@PySem.wpAny_of_eq
def XX:=@PySem.wpAny_pyIter_enum
def XY:=@PySem.wpAny_dictEntries
def XZ:=@Function.comp_def
def X0:=@List.take_add_one
def X1:=@Bool.not_eq_true'
def X2:=@Bool.not_true
def X3:=@Prod.mk.injEq
def X4:=@Bool.and_true
def X5:=@List.append_inj'
def X6:=@List.any_eq_true
def X7:=@Nat.mod_lt
def X8:=@Nat.lt_trans
def X9:=@Nat.lt_or_ge
def X_:=@List.map_nil
def Ya:=@Nat.mul_succ
def Yb:=@List.set_set
def Yc:=@Int.add_zero
def Yd:=@List.all_map
def Ye:=@List.sum_append
def Yf:=@List.cons.injEq
def Yg:=@exists_eq_left
namespace St
open PySem
def s5:Nat->Nat
 | 0=>0
 | n+1=>5*s5 n+1
def g5:Nat->Nat->Nat
 | 0,x=>x
 | n+1,x=>5*g5 n x+1
theorem Jv(x:Nat):∀n,g5 n x=x+s5 n*(4*x+1)
 | 0=>by simp[g5,s5]
 | n+1=>by
  unfold g5 s5;rw[Jv x n,Nat.add_mul,Xr,Xo];omega
theorem Dy(x m:Nat):∀n,g5 (m+n) x=g5 n (g5 m x)
 | 0=>rfl
 | n+1=>by rw[<- Xp];show 5*g5 (m+n) x+1=_;rw[Dy x m n];rfl
theorem Ec(m:Nat):∀n,s5 (m+n)=s5 m+s5 n+4*(s5 m*s5 n)
 | 0=>by simp[s5]
 | n+1=>by
  rw[<- Xp];show 5*s5 (m+n)+1=s5 m+(5*s5 n+1)+4*(s5 m*(5*s5 n+1));rw[Ec m n,Xr (s5 m),XQ (s5 m) 5];omega
theorem De:∀k,∃a,s5 (2 ^ k)=2 ^ k*(2*a+1)
 | 0=>⟨0,rfl⟩
 | k+1=>by
  obtain⟨a,h⟩:=De k;rw[Wh,Nat.mul_two,Ec];generalize s5 (2 ^ k)=s at h;generalize 2 ^ k=N at h;refine⟨a+s*(2*a+1),?_⟩;have e:(N+N)*(2*(a+s*(2*a+1))+1)=2*(N*(2*a+1))+4*(s*(N*(2*a+1))):=by
   rw[<- Nat.two_mul,Xo 2 N];rw[show N*(2*(a+s*(2*a+1))+1)=N*(2*a+1)+N*(2*(s*(2*a+1))) by rw[<- Xr];congr 1;omega];rw[Xr,show N*(2*(s*(2*a+1)))=2*(s*(N*(2*a+1))) by
    rw[XQ N 2,XQ N s]]
   omega
  rw[e,<- h];omega
theorem Gv(k x:Nat):g5 (2 ^ k) x%2 ^ (k+1)=(x+2 ^ k)%2 ^ (k+1):=by
 obtain⟨a,h⟩:=De k;rw[Jv,h,Wh];generalize 2 ^ k=N;have:x+N*(2*a+1)*(4*x+1)=(x+N)+(N*2)*(a*(4*x+1)+2*x):=by
  rw[Xo N,show(2*a+1)*(4*x+1)=2*(a*(4*x+1)+2*x)+1 by rw[Nat.add_mul,Xo];omega];rw[Xr,Xo N 2];omega
 rw[this,Nat.add_mul_mod_self_left]
theorem full:∀(k x y:Nat),∃n,n<2 ^ k/\g5 n x%2 ^ k=y%2 ^ k
 | 0,x,y=>⟨0,by decide,by simp[Nat.mod_one]⟩
 | k+1,x,y=>by
  obtain⟨n,h1,h2⟩:=full k x y;have hp:2 ^ (k+1)=2*2 ^ k:=by rw[Wh,Xv]
  by_cases h:g5 n x%2 ^ (k+1)=y%2 ^ (k+1)
  .exact⟨n,by omega,h⟩
  .refine⟨n+2 ^ k,by omega,?_⟩;rw[Dy,Gv,hp]at *;generalize g5 n x=z at h h2;have hN:0<2 ^ k:=Nat.two_pow_pos k;generalize 2 ^ k=N at *;have e1:=Nat.mod_mod_of_dvd z (⟨2,by rw[Xv]⟩:N ∣ 2*N);have e2:=Nat.mod_mod_of_dvd y (⟨2,by rw[Xv]⟩:N ∣ 2*N);have b1:=X7 z (show 0<2*N by omega);have b2:=X7 y (show 0<2*N by omega);rw[Nat.add_mod,Wx (show N<2*N by omega)];generalize z%(2*N)=u at *;generalize y%(2*N)=v at *;have d1:=Nat.div_add_mod u N;have d2:=Nat.div_add_mod v N;have q1:u/N<2:=Nat.div_lt_of_lt_mul @1;have q2:v/N<2:=Nat.div_lt_of_lt_mul @1;have r1:=X7 u hN;have hr:u%N=v%N:=by omega
   generalize u/N=c at *;generalize v/N=d at *;rw[hr]at d1 r1;generalize v%N=w at *;have cc:c=0\/c=1:=by clear d1 d2;omega
   have dd:d=0\/d=1:=by clear d1 d2;omega
   rcases cc with rfl | rfl<;>rcases dd with rfl | rfl
   .exact absurd @1 h
   .rw[Wx @1];omega
   .rw[show u+N=2*N+v by omega,Nat.add_mod_left,Wx @1]
   .exact absurd @1 h
theorem gap:∀(l:Yv)(a:Nat),l.Pairwise (· < ·)->(∀x∈l,a<=x)->∃x,a<=x/\x<=a+l.length/\x∉l
 | [],a,_,_=>⟨a,m_ _,by simp,by simp⟩
 | b::r,a,h,hl=>by
  obtain⟨h1,h2⟩:=Uz.mp h;have hb:=hl b g_
  by_cases e:b=a
  .subst e;obtain⟨x,x1,x2,x3⟩:=gap r (b+1) h2 λx hx=>h1 x hx;refine⟨x,by omega,by simp;omega,λhx=>?_⟩;rcases p_.mp hx with z | z
   .omega
   .exact x3 z
  .refine⟨a,m_ _,by simp,λhx=>?_⟩;rcases p_.mp hx with z | z
   .omega
   .have:=h1 a z;omega
theorem nv(xs:Array Nat)(j:Nat)(up:xs.toList.Pairwise (· < ·)):∀(fuel lo hi:Nat),lo<=hi->hi<=xs.size->hi-lo<=fuel->(∀x∈xs.toList.take lo,x<j)->(∀x∈xs.toList.drop hi,j<=x)->
  ∃r,SetTable.below.go xs j fuel lo hi=r/\r<=xs.size/\(∀x∈xs.toList.take r,x<j)/\∀x∈xs.toList.drop r,j<=x
 | 0,lo,hi,h1,h2,h3,h4,h5=>⟨lo,rfl,by omega,h4,by rw[show lo=hi by omega];exact h5⟩
 | fuel+1,lo,hi,h1,h2,h3,h4,h5=>by
  unfold SetTable.below.go
  by_cases hl:lo<hi
  .rw[h_ hl];dsimp only;have hm:(lo+hi)/2<xs.size:=by omega
   have hg:xs.getD ((lo+hi)/2) j=xs.toList[(lo+hi)/2]'(by simpa using hm):=by simp[Array.getD,hm]
   rw[hg];generalize SW:(lo+hi)/2=mid at *;have LJ:mid<xs.toList.length:=by simpa using hm
   by_cases hc:xs.toList[mid]<j
   .rw[h_ hc];refine nv xs j up fuel (mid+1) hi @1 h2 @1 (λx hx=>?_) h5;obtain⟨i,Q7,rfl⟩:=XM.mp hx
    by_cases e:i=mid
    .subst e;exact hc
    .exact X8 (VB.mp up i mid @1 LJ @1) hc
   .rw[i_ hc];refine nv xs j up fuel lo mid @1 @1 @1 h4 (λx hx=>?_);obtain⟨i,Q7,rfl⟩:=XN.mp hx
    by_cases e:i=0
    .subst e;simpa using hc
    .have:=VB.mp up mid (mid+i) LJ @1 @1;omega
  .rw[i_ hl];exact⟨lo,rfl,by omega,h4,by rw[show lo=hi by omega];exact h5⟩
theorem vK(xs:Array Nat)(j:Nat)(up:xs.toList.Pairwise (· < ·)):SetTable.below xs j<=xs.size/\(∀x∈xs.toList.take (SetTable.below xs j),x<j)/\∀x∈xs.toList.drop (SetTable.below xs j),j<=x:=by
 obtain⟨r,h1,h2⟩:=nv xs j up xs.size 0 xs.size (VT _) (m_ _) (m_ _) @8 (λx hx=>by rw[<- U7,List.drop_length]at hx;cases hx);unfold SetTable.below;rw[h1];exact h2
theorem below_at(up:xs.toList.Pairwise (· < ·))(h:xs[i]?=some j):SetTable.below xs j=i:=by
 obtain⟨h1,h2,h3⟩:=vK xs j up;generalize SetTable.below xs j=r at *;have h':xs.toList[i]?=some j:=by simpa using h
 obtain⟨hi,e⟩:=k_.mp h';rcases Nat.lt_trichotomy r i with ix | rfl | hgt
 .have hr:r<xs.toList.length:=by omega
  have a1:=h3 xs.toList[r] (XN.mpr ⟨0,by simpa using hr,by simp⟩);have a2:=VB.mp up r i hr hi ix;omega
 .rfl
 .have:=h2 xs.toList[i] (XM.mpr ⟨i,by omega,rfl⟩);omega
theorem zt(j:Nat):SetTable.has #[] j=false:=by
 unfold SetTable.has;simp
theorem lX{t:SetTable}{i j:Nat}(up:t.place.toList.Pairwise (· < ·))(h:t.place[i]?=some j):t.slot j=.live i:=by
 unfold SetTable.slot;rw[below_at up h];dsimp only;rw[h];simp
theorem w9{t:SetTable}{j:Nat}(hd:t.dummies=#[])(h:j∉t.place.toList):t.slot j=.empty:=by
 unfold SetTable.slot;dsimp only;rw[i_,hd,zt]
 .rfl
 .intro e;have e2:t.place[SetTable.below t.place j]?=some j:=by simpa using e
  exact h (by have:=Array.mem_of_getElem? e2;simpa using this)
def wR(mask:Nat)(p:SetTable.Probe):SetTable.Probe:=
 if p.more>0 then {p with j:=p.j+1,more:=p.more-1}else
 {p with j:=(SetTable.leap mask p.i p.perturb).1,more:=SetTable.runEnd mask (SetTable.leap mask p.i p.perturb).1-(SetTable.leap mask p.i p.perturb).1,i:=(SetTable.leap mask p.i p.perturb).1,perturb:=(SetTable.leap mask p.i p.perturb).2}
theorem JI(t:SetTable)(p:SetTable.Probe):t.advance p=wR t.mask p:=rfl
def it(mask:Nat)(p:SetTable.Probe):Nat->SetTable.Probe
 | 0=>p
 | m+1=>wR mask (it mask p m)
theorem kI(mask:Nat)(p:SetTable.Probe):∀m,it mask p (m+1)=it mask (wR mask p) m
 | 0=>rfl
 | m+1=>by show wR mask (it mask p (m+1))=wR mask (it mask (wR mask p) m);rw[kI mask p m]
theorem jW(mask:Nat)(p:SetTable.Probe)(a:Nat):∀b,it mask p (a+b)=it mask (it mask p a) b
 | 0=>rfl
 | b+1=>by rw[<- Xp];show wR mask (it mask p (a+b))=_;rw[jW mask p a b];rfl
def st(mask i aX:Nat):SetTable.Probe:={j:=i,more:=SetTable.runEnd mask i-i,i:=i,perturb:=aX,dummy:=none}
theorem vS(t:SetTable)(h:Int):t.probeStart h=st t.mask (SetTable.bits h%(t.mask+1)) (SetTable.bits h):=rfl
theorem rP(mask i:Nat)(h:i<=mask):SetTable.runEnd mask i-i<=9/\i<=SetTable.runEnd mask i/\SetTable.runEnd mask i<=mask:=by
 unfold SetTable.runEnd;split<;>omega
theorem nz(mask i aX:Nat):∀r,r<=SetTable.runEnd mask i-i->it mask (st mask i aX) r={j:=i+r,more:=SetTable.runEnd mask i-i-r,i:=i,perturb:=aX,dummy:=none}
 | 0,_=>rfl
 | r+1,h=>by
  show wR mask (it mask (st mask i aX) r)=_;rw[nz mask i aX r @1];unfold wR;rw[h_ (by dsimp only;omega)];dsimp only;congr 1
def lp(mask:Nat):Nat->Nat×Nat->Nat×Nat
 | 0,q=>q
 | n+1,q=>lp mask n (SetTable.leap mask q.1 q.2)
theorem tK(mask i aX:Nat)(h:i<=mask):it mask (st mask i aX) (SetTable.runEnd mask i-i+1)=st mask (SetTable.leap mask i aX).1 (SetTable.leap mask i aX).2:=by
 show wR mask (it mask (st mask i aX) (SetTable.runEnd mask i-i))=_;rw[nz mask i aX _ (m_ _)];unfold wR;rw[i_ (by dsimp only;omega)]
 rfl
theorem nj(mask i aX:Nat):(SetTable.leap mask i aX).1<=mask:=by
 unfold SetTable.leap;have:=X7 (i*5+1+aX/32) (show 0<mask+1 by omega);dsimp only;omega
theorem Ja(mask:Nat):∀(n i aX:Nat),i<=mask->∃m,m<=10*n/\it mask (st mask i aX) m=st mask (lp mask n (i,aX)).1 (lp mask n (i,aX)).2
 | 0,i,aX,_=>⟨0,m_ _,rfl⟩
 | n+1,i,aX,h=>by
  obtain⟨m,h1,h2⟩:=Ja mask n _ (SetTable.leap mask i aX).2 (nj mask i aX);have hr:=(rP mask i h).1;refine⟨SetTable.runEnd mask i-i+1+m,by omega,?_⟩;rw[jW,tK mask i aX h,h2]
  rfl
theorem zS(mask:Nat):∀(n i aX:Nat),(lp mask n (i,aX)).2=aX/32 ^ n
 | 0,i,aX=>by simp[lp]
 | n+1,i,aX=>by
  show(lp mask n ((SetTable.leap mask i aX).1,aX/32)).2=_;rw[zS mask n,Nat.div_div_eq_div_mul,Wh,Xv]
theorem w6(mask a:Nat):∀(b:Nat)(q:Nat×Nat),lp mask (b+a) q=lp mask a (lp mask b q)
 | 0,q=>by rw[UH];rfl
 | b+1,q=>by rw[show b+1+a=(b+a)+1 by omega];show lp mask (b+a) _=lp mask a (lp mask b _);rw[w6 mask a b]
theorem yS(mask:Nat):∀(n i:Nat),i<=mask->lp mask n (i,0)=(g5 n i%(mask+1),0)
 | 0,i,h=>by show(i,0)=(i%(mask+1),0);rw[Wx @1]
 | n+1,i,h=>by
  have e:lp mask (n+1) (i,0)=SetTable.leap mask (lp mask n (i,0)).1 (lp mask n (i,0)).2:=by rw[w6 mask 1 n];rfl
  rw[e,yS mask n i h];show((g5 n i%(mask+1)*5+1+0/32)%(mask+1),0/32)=((5*g5 n i+1)%(mask+1),0);have:(g5 n i%(mask+1)*5+1+0/32)%(mask+1)=(5*g5 n i+1)%(mask+1):=by
   rw[Nat.zero_div,Nat.add_zero,Nat.add_mod,Nat.mod_mul_mod,<- Nat.add_mod,Xv]
  rw[this]
theorem IY(mask:Nat):∀(n i aX:Nat),i<=mask->(lp mask n (i,aX)).1<=mask
 | 0,i,aX,h=>h
 | n+1,i,aX,h=>IY mask n _ _ (nj mask i aX)
theorem zl(h:Int):SetTable.bits h<2 ^ 64:=by
 unfold SetTable.bits;have a:=V2 h (show(2 ^ 64:Int)≠0 by decide);have b:=VG h (show(0:Int)<2 ^ 64 by decide);have c:((2:Int) ^ 64)=((2 ^ 64:Nat):Int):=by decide
 omega
theorem meets(k:Nat)(mask:Nat)(hk:mask+1=2 ^ k)(i aX x:Nat)(hi:i<=mask)(hp:aX<2 ^ 64)(hx:x<=mask):∃n,n<=13+mask/\(lp mask n (i,aX)).1=x:=by
 have z:lp mask 13 (i,aX)=((lp mask 13 (i,aX)).1,0):=by
  have:=zS mask 13 i aX;rw[Nat.div_eq_of_lt (X8 hp @2)]at this;exact Prod.ext rfl this
 obtain⟨n,h1,h2⟩:=full k (lp mask 13 (i,aX)).1 x;refine⟨13+n,by omega,?_⟩;rw[w6 mask n 13,z,yS mask n _ (IY mask 13 i aX hi)];show g5 n _%(mask+1)=x;rw[hk,h2,<- hk,Wx @1]
theorem kn(mask:Nat)(p:SetTable.Probe)(h:p.dummy=none):∀m,(it mask p m).dummy=none
 | 0=>h
 | m+1=>by
  show(wR mask (it mask p m)).dummy=none;unfold wR
  split
  .exact kn mask p h m
  .exact kn mask p h m
theorem Js(mask i aX:Nat)(hi:i<=mask):∀m,(it mask (st mask i aX) m).i<=mask/\(it mask (st mask i aX) m).j+(it mask (st mask i aX) m).more<=mask
 | 0=>⟨hi,by have:=rP mask i hi;show i+(SetTable.runEnd mask i-i)<=mask;omega⟩
 | m+1=>by
  obtain⟨h1,h2⟩:=Js mask i aX hi m;have e:it mask (st mask i aX) (m+1)=wR mask (it mask (st mask i aX) m):=rfl;rw[e];generalize it mask (st mask i aX) m=p at *;unfold wR
  split
  .exact⟨h1,by dsimp only;omega⟩
  .have hl:=nj mask p.i p.perturb;have hr:=rP mask _ hl;exact⟨hl,by dsimp only;omega⟩
structure Ok(t:SetTable)(hs:List Int):Prop where
 dum:t.dummies=#[]
 pw:∃k,t.mask+1=2 ^ k
 up:t.place.toList.Pairwise (· < ·)
 le:∀x∈t.place.toList,x<=t.mask
 len:t.place.size=hs.length
 lt:t.place.size<=t.mask
 ch:∀q∈t.place.toList.zip hs,∃m,(it t.mask (t.probeStart q.2) m).j=q.1/\∀m'<m,(it t.mask (t.probeStart q.2) m').j∈t.place.toList
theorem ph(mask:Nat)(h:Int):SetTable.bits h%(mask+1)<=mask:=by
 have:=X7 (SetTable.bits h) (show 0<mask+1 by omega);omega
theorem qU{l:Yv}{mask:Nat}(hk:∃k,mask+1=2 ^ k)(up:l.Pairwise (· < ·))(hl:l.length<=mask)(i aX:Nat)(hi:i<=mask)(hp:aX<2 ^ 64) :
  ∃n,n<=13+mask/\(lp mask n (i,aX)).1∉l:=by
 obtain⟨k,hk⟩:=hk;obtain⟨x,_,x2,x3⟩:=gap l 0 up λ_ _=>VT _;obtain⟨n,h1,h2⟩:=meets k mask hk i aX x hi hp @1;exact⟨n,h1,by rw[h2];exact x3⟩
theorem Ok.soon{t:SetTable}{hs:Yw}(o:Ok t hs)(h:Int):∃m,m<10*SetTable.turns t.mask/\(it t.mask (t.probeStart h) m).j∉t.place.toList:=by
 obtain⟨n,h1,h2⟩:=qU o.pw o.up (by simpa using o.lt) _ _ (ph t.mask h) (zl h);obtain⟨m,h3,h4⟩:=Ja t.mask n _ (SetTable.bits h) (ph t.mask h);refine⟨m,by unfold SetTable.turns;omega,?_⟩;rw[vS,h4];exact h2
theorem wC(hd:t.dummies=#[])(up:t.place.toList.Pairwise (· < ·))(ha:Nat->Int)(h:Int):∀(fuel:Nat)(p:SetTable.Probe),p.dummy=none->(∃m,m<fuel/\(it t.mask p m).j∉t.place.toList)->
  ∃met m,SetTable.probe.go t ha h fuel p=some met/\(∀m'<m,∃i,t.place[i]?=some (it t.mask p m').j/\ha i≠h)/\
   ((met=.empty (it t.mask p m).j none/\(it t.mask p m).j∉t.place.toList)\/∃i,t.place[i]?=some (it t.mask p m).j/\ha i=h/\met=.candidate (it t.mask p m).j i (it t.mask p (m+1)))
 | 0,p,_,⟨m,h1,_⟩=>by omega
 | fuel+1,p,hp,⟨m,h1,h2⟩=>by
  unfold SetTable.probe.go
  by_cases hm:p.j∈t.place.toList
  .obtain⟨i,hi⟩:=Wo.mp hm;have hi':t.place[i]?=some p.j:=by simpa using hi
   rw[lX up hi'];dsimp only
   by_cases hh:ha i=h
   .rw[h_ (by simpa using hh)];exact⟨_,0,rfl,λm' z=>by omega,.inr ⟨i,hi',hh,rfl⟩⟩
   .rw[i_ (by simpa using hh),JI];have SY:m≠0:=λz=>h2 (by rw[z];exact hm);obtain⟨m1,rfl⟩:∃m1,m=m1+1:=⟨m-1,by omega⟩;obtain⟨met,m2,g1,g2,g3⟩:=wC hd up ha h fuel (wR t.mask p) (by have:=kn t.mask p hp 1;exact this) ⟨m1,by omega,by rw[<- kI];exact h2⟩;refine⟨met,m2+1,g1,λm' hm'=>?_,?_⟩
    .cases m' with
     | zero=>exact⟨i,hi',hh⟩
     | succ m'=>rw[kI];exact g2 m' @1
    .rw[kI,kI];exact g3
  .rw[w9 hd hm];dsimp only;exact⟨_,0,rfl,λm' z=>by omega,.inl ⟨by rw[hp];rfl,hm⟩⟩
theorem zQ:∀(p:Nat)(xs:List α)(ys:List β)(x:α)(y:β),xs.length=ys.length->p<=xs.length->(xs.take p++x::xs.drop p).zip (ys.take p++y::ys.drop p)=(xs.zip ys).take p++(x,y)::(xs.zip ys).drop p
 | 0,xs,ys,x,y,_,_=>rfl
 | p+1,[],_,_,_,_,h=>by simp at h
 | p+1,_::_,[],_,_,h,_=>by simp at h
 | p+1,a::xs,b::ys,x,y,h,hp=>by
  simp only[List.take_succ_cons,List.drop_succ_cons,V_,Vr];rw[zQ p xs ys x y (by simpa using h) (by simpa using hp)]
theorem sM(p:Nat)(l:List α)(x z:α):z∈l.take p++x::l.drop p↔z=x\/z∈l:=by
 rw[UF,p_];constructor
 .rintro(h | h | h)
  .exact .inr (List.mem_of_mem_take h)
  .exact .inl h
  .exact .inr (List.mem_of_mem_drop h)
 .rintro(h | h)
  .exact .inr (.inl h)
  .rw[<- VD p l]at h;rcases UF.mp h with h | h
   .exact .inl h
   .exact .inr (.inr h)
theorem sU(p:Nat)(l:List α)(x:α):(l.take p++x::l.drop p).length=l.length+1:=by
 rw[u_,v_,<- Xp,<- u_,VD]
theorem Ok.put(o:Ok t hs)(h:Int)(m:Nat)(hj:(it t.mask (t.probeStart h) m).j∉t.place.toList)(hb:∀m'<m,(it t.mask (t.probeStart h) m').j∈t.place.toList)(ix:t.place.size+1<=t.mask)(pl:Bool) :
  ∃p,(t.put (it t.mask (t.probeStart h) m).j).2=p/\p<=hs.length/\Ok {(t.put (it t.mask (t.probeStart h) m).j).1 with plain:=pl} (hs.take p++h::hs.drop p):=by
 have hle:=(Js t.mask _ (SetTable.bits h) (ph t.mask h) m).2;rw[<- vS]at hle;generalize hjj:(it t.mask (t.probeStart h) m).j=j at *;obtain⟨b1,b2,b3⟩:=vK t.place j o.up;refine⟨_,rfl,by rw[<- o.len];exact b1,?_⟩;show Ok {t with place:=SetTable.insertAt t.place (SetTable.below t.place j) j,dummies:=if SetTable.has t.dummies j then SetTable.eraseAt t.dummies (SetTable.below t.dummies j)else t.dummies,plain:=pl} (hs.take (SetTable.below t.place j)++h::hs.drop (SetTable.below t.place j));have hd:(if SetTable.has t.dummies j then SetTable.eraseAt t.dummies (SetTable.below t.dummies j)else t.dummies)=#[]:=by
  rw[o.dum,zt];rfl
 rw[hd];have hl:t.place.toList.length=hs.length:=by rw[<- o.len];simp
 have e1:=SetTable.toList_insertAt t.place (SetTable.below t.place j) j;have hsz:(SetTable.insertAt t.place (SetTable.below t.place j) j).size=t.place.size+1:=by
  rw[<- U7,e1,sU];simp
 refine⟨rfl,o.pw,?_,λx hx=>?_,?_,?_,λq hq=>?_⟩
 .show List.Pairwise _ (SetTable.insertAt t.place _ j).toList;rw[e1];have hup:=o.up;rw[<- VD (SetTable.below t.place j) t.place.toList]at hup;obtain⟨u1,u2,u3⟩:=UQ.mp hup;refine UQ.mpr ⟨u1,Uz.mpr ⟨λx hx=>?_,u2⟩,λx hx y hy=>?_⟩
  .have:=b3 x hx;have:x≠j:=λz=>hj (z▸List.mem_of_mem_drop hx);omega
  .rcases p_.mp hy with rfl | hy
   .exact b2 x hx
   .exact u3 x hx y hy
 .have wU:x∈(SetTable.insertAt t.place (SetTable.below t.place j) j).toList:=hx;rw[e1,sM]at wU;rcases wU with rfl | wU
  .show x<=t.mask;omega
  .exact o.le x wU
 .show(SetTable.insertAt t.place _ j).size=_;rw[hsz,sU,o.len]
 .show(SetTable.insertAt t.place _ j).size<=_;rw[hsz];exact ix
 .have tX:q∈(SetTable.insertAt t.place (SetTable.below t.place j) j).toList.zip (hs.take (SetTable.below t.place j)++h::hs.drop (SetTable.below t.place j)):=hq;have sub:∀x,x∈t.place.toList->x∈(SetTable.insertAt t.place (SetTable.below t.place j) j).toList:=λx hx=>by rw[e1,sM];exact .inr hx
  rw[e1,zQ _ _ _ _ _ hl (by simpa using b1),sM]at tX;rcases tX with rfl | tX
  .exact⟨m,hjj,λm' hm'=>sub _ (hb m' hm')⟩
  .obtain⟨m2,g1,g2⟩:=o.ch q tX;exact⟨m2,g1,λm' hm'=>sub _ (g2 m' hm')⟩
def taken(ow:Array (Option Nat))(j:Nat):Prop:=∃k,ow[j]?=some (some k)
theorem ym(n:Nat)(f:Nat->Bool):(∃k,k<n/\(List.range n).find? f=some k/\f k=true/\∀k'<k,f k'=false)\/((List.range n).find? f=none/\∀k<n,f k=false):=by
 cases e:(List.range n).find? f with
 | none=>
  right;refine⟨rfl,λk hk=>?_⟩;have:=List.find?_eq_none.mp e k (UV.mpr hk);simpa using this
 | some k=>
  left;obtain⟨h1,h2⟩:=List.find?_eq_some_iff_append.mp e;obtain⟨as,bs,h3,h4⟩:=h2;have hk:k<n:=by
   have:k∈List.range n:=by rw[h3];simp
   exact UV.mp this
  refine⟨k,hk,rfl,h1,λk' hk'=>?_⟩;have hlen:as.length=k:=by
   have e1:(List.range n)[as.length]?=some k:=by rw[h3];simp
   rw[VP (by have:=VE List.length h3;simp at this;omega)]at e1;exact Option.some.inj e1
  have:k'∈as:=by
   have e1:(List.range n)[k']?=some k':=VP @1;rw[h3,S_ @1]at e1;exact UW e1
  simpa using h4 k' this
theorem ng(hsz:ow.size=mask+1):∀(fuel i aX:Nat),i<=mask->(∃n,n<fuel/\¬taken ow (lp mask n (i,aX)).1)->
  ∃m,SetTable.layClean.free mask ow fuel i aX=some (it mask (st mask i aX) m).j/\¬taken ow (it mask (st mask i aX) m).j/\(it mask (st mask i aX) m).j<=mask/\∀m'<m,taken ow (it mask (st mask i aX) m').j
 | 0,i,aX,_,⟨n,h,_⟩=>by omega
 | fuel+1,i,aX,hi,⟨n,hn,ht⟩=>by
  obtain⟨r1,r2,r3⟩:=rP mask i hi;unfold SetTable.layClean.free;have gd:∀j,j<=mask->((ow.getD j (some 0)).isNone=true↔¬taken ow j):=λj hj=>by
   have hl:j<ow.size:=by omega
   unfold taken;rw[V0 hl];simp only[Array.getD,hl,dif_pos];cases h:ow[j]with
   | none=>simp[h]
   | some k=>simp[h]
  rcases ym (SetTable.runEnd mask i+1-i) (λk=>(ow.getD (i+k) (some 0)).isNone)with ⟨k,k1,k2,k3,k4⟩ | ⟨k2,k4⟩
  .rw[k2];dsimp only;have e:(it mask (st mask i aX) k).j=i+k:=by rw[nz mask i aX k @1]
   refine⟨k,by rw[e],by rw[e];exact(gd _ @1).mp k3,by rw[e];omega,λm' hm'=>?_⟩;rw[nz mask i aX m' @1];have h1:=k4 m' hm';have h2:=gd (i+m') @1
   by_cases hh:taken ow (i+m')
   .exact hh
   .rw[h2.mpr hh]at h1;cases h1
  .rw[k2];dsimp only;have n0:n≠0:=λz=>by
    subst z;have h1:=k4 0 @1;rw[Nat.add_zero,(gd i hi).mpr ht]at h1;cases h1
   obtain⟨n',rfl⟩:∃n',n=n'+1:=⟨n-1,by omega⟩;obtain⟨m,g1,g2,g3,g4⟩:=ng hsz fuel _ (SetTable.leap mask i aX).2 (nj mask i aX) ⟨n',by omega,ht⟩;rw[<- tK mask i aX hi,<- jW]at g1 g2 g3;refine⟨_,g1,g2,g3,λm' hm'=>?_⟩
   by_cases hh:m'<SetTable.runEnd mask i-i+1
   .rw[nz mask i aX m' @1];have h1:=k4 m' @1;have h2:=gd (i+m') @1
    by_cases hk:taken ow (i+m')
    .exact hk
    .rw[h2.mpr hk]at h1;cases h1
   .have:=g4 (m'-(SetTable.runEnd mask i-i+1)) @1;rw[<- tK mask i aX hi,<- jW]at this;rw[show SetTable.runEnd mask i-i+1+(m'-(SetTable.runEnd mask i-i+1))=m' by omega]at this;exact this
structure Lay(mask:Nat)(done:List Int)(ow:Array (Option Nat)):Prop where
 sz:ow.size=mask+1
 bd:∀(j k:Nat),ow[j]?=some (some k)->k<done.length
 on:∀k<done.length,∃j:Nat,ow[j]?=some (some k)
 inj:∀(j j' k:Nat),ow[j]?=some (some k)->ow[j']?=some (some k)->j=j'
 ch:∀(j k:Nat)(h:Int),ow[j]?=some (some k)->done[k]?=some h->∃m,(it mask (st mask (SetTable.bits h%(mask+1)) (SetTable.bits h)) m).j=j/\∀m'<m,taken ow (it mask (st mask (SetTable.bits h%(mask+1)) (SetTable.bits h)) m').j
def lv(mask:Nat)(ow:Array (Option Nat)):List (Nat×Nat):=(List.range (mask+1)).filterMap λj=>(ow.getD j none).map (j,·)
theorem getD_some{ow:Array (Option Nat)}{j k:Nat}:ow.getD j none=some k↔ow[j]?=some (some k):=by
 by_cases h:j<ow.size
 .simp[Array.getD,h]
 .simp[Array.getD,h]
theorem iU{mask:Nat}{ow:Array (Option Nat)}(hsz:ow.size=mask+1){q:Nat×Nat}:q∈lv mask ow↔ow[q.1]?=some (some q.2):=by
 unfold lv;rw[Xy];constructor
 .rintro⟨j,_,h⟩;obtain⟨k,h1,h2⟩:=L_.mp h;subst h2;exact getD_some.mp h1
 .intro h;refine⟨q.1,UV.mpr ?_,L_.mpr ⟨q.2,getD_some.mpr h,rfl⟩⟩;have:=(U1.mp h).1;omega
theorem DH(mask:Nat)(ow:Array (Option Nat)):(lv mask ow).Pairwise λa b=>a.1<b.1:=by
 unfold lv;rw[List.pairwise_filterMap];refine VJ (R:=λ(x y:Nat)=>x<y) (λ{x y} _ _ Q8 a ha b hb=>?_) W0;obtain⟨_,_,rfl⟩:=L_.mp ha;obtain⟨_,_,rfl⟩:=L_.mp hb;exact Q8
theorem Lay.nodup(L:Lay mask done ow):((lv mask ow).map (·.2)).Nodup:=by
 unfold List.Nodup;rw[Vx];refine VJ (λ{a b} ha hb Jw e=>?_) (DH mask ow);have h1:=(iU L.sz).mp ha;have h2:=(iU L.sz).mp hb;rw[e]at h1;have:=L.inj _ _ _ h1 h2;omega
theorem Lay.perm(L:Lay mask done ow):((lv mask ow).map (·.2)).Perm (List.range done.length):=by
 refine(VX L.nodup List.nodup_range).mpr λk=>?_;rw[t_,UV];constructor
 .rintro⟨q,hq,rfl⟩;exact L.bd _ _ ((iU L.sz).mp hq)
 .intro hk;obtain⟨j,hj⟩:=L.on k hk;exact⟨(j,k),(iU L.sz).mpr hj,rfl⟩
theorem Lay.len(L:Lay mask done ow):(lv mask ow).length=done.length:=by
 have:=L.perm.length_eq;simpa using this
theorem qV(hsz:ow.size=mask+1)(j:Nat):taken ow j↔j∈(lv mask ow).map (·.1):=by
 rw[t_];constructor
 .rintro⟨k,hk⟩;exact⟨(j,k),(iU hsz).mpr hk,rfl⟩
 .rintro⟨q,hq,rfl⟩;exact⟨q.2,(iU hsz).mp hq⟩
theorem Lay.step(hk:∃k,mask+1=2 ^ k)(L:Lay mask done ow)(hr:done.length<=mask)(h:Int) :
  ∃j,SetTable.layClean.free mask ow (SetTable.turns mask) (SetTable.bits h%(mask+1)) (SetTable.bits h)=some j/\Lay mask (done++[h]) (ow.setIfInBounds j (some done.length)):=by
 have hup:((lv mask ow).map (·.1)).Pairwise (· < ·):=Vx.mpr (DH mask ow);obtain⟨n,h1,h2⟩:=qU hk hup (by rw[c_,L.len];exact hr) _ _ (ph mask h) (zl h);rw[<- qV L.sz]at h2;obtain⟨m,g1,g2,g3,g4⟩:=ng L.sz (SetTable.turns mask) _ (SetTable.bits h) (ph mask h) ⟨n,by unfold SetTable.turns;omega,h2⟩;refine⟨_,g1,?_⟩;generalize hj:(it mask (st mask (SetTable.bits h%(mask+1)) (SetTable.bits h)) m).j=j at *;have hjl:j<ow.size:=by rw[L.sz];omega
 have at_:∀x:Nat,(ow.setIfInBounds j (some done.length))[x]?=if x=j then some (some done.length)else ow[x]?:=λx=>by
  rw[Array.getElem?_setIfInBounds]
  by_cases e:j=x
  .subst e;simp[hjl]
  .rw[i_ e,i_ (US e)]
 have keep:∀x,taken ow x->taken (ow.setIfInBounds j (some done.length)) x:=λx az=>by
  obtain⟨k,hx⟩:=az;refine⟨k,?_⟩;rw[at_,i_ (λz=>g2 ⟨k,by rw[<- z];exact hx⟩)];exact hx
 refine⟨by rw[Array.size_setIfInBounds];exact L.sz,λx k hx=>?_,λk hk'=>?_,λx y k hx hy=>?_,λx k h' hx hh=>?_⟩
 .rw[at_]at hx;rw[u_,UT]
  split at hx
  .cases hx;omega
  .have:=L.bd x k hx;omega
 .rw[u_,UT]at hk'
  by_cases e:k=done.length
  .exact⟨j,by rw[at_,h_ rfl,e]⟩
  .obtain⟨x,hx⟩:=L.on k @1;exact⟨x,by rw[at_,i_ (λz=>g2 ⟨k,by rw[<- z];exact hx⟩)];exact hx⟩
 .rw[at_]at hx hy
  split at hx<;>split at hy
  .omega
  .cases hx;have:=L.bd y _ hy;omega
  .cases hy;have:=L.bd x _ hx;omega
  .exact L.inj x y k hx hy
 .rw[at_]at hx
  split at hx
  .rename_i e;cases hx;rw[R_ (m_ _),Nat.sub_self]at hh;cases hh;exact⟨m,by rw[hj,e],λm' hm'=>keep _ (g4 m' hm')⟩
  .have hk':=L.bd x k hx;rw[S_ hk']at hh;obtain⟨m2,a1,a2⟩:=L.ch x k h' hx hh;exact⟨m2,a1,λm' hm'=>keep _ (a2 m' hm')⟩
theorem vz(hk:∃k,mask+1=2 ^ k):∀(rest done:Yw)(ow:Array (Option Nat)),Lay mask done ow->done.length+rest.length<=mask->
  ∃PH,rest.foldl (λacc h=>do
   let (owner,k) <- acc
   let j <- SetTable.layClean.free mask owner (SetTable.turns mask) (SetTable.bits h%(mask+1)) (SetTable.bits h)
   pure (owner.setIfInBounds j (some k),k+1)) (some (ow,done.length))=some (PH,done.length+rest.length)/\Lay mask (done++rest) PH
 | [],done,ow,L,_=>⟨ow,rfl,by rw[UG];exact L⟩
 | h::rest,done,ow,L,hl=>by
  rw[v_]at hl;obtain⟨j,h1,L2⟩:=L.step hk @1 h;obtain⟨PH,h3,L3⟩:=vz hk rest (done++[h]) _ L2 (by rw[u_,UT];omega);refine⟨PH,?_,by rw[VM]at L3;exact L3⟩;rw[WJ];have e:(do
   let (owner,k) <- some (ow,done.length)
   let j <- SetTable.layClean.free mask owner (SetTable.turns mask) (SetTable.bits h%(mask+1)) (SetTable.bits h)
   pure (owner.setIfInBounds j (some k),k+1):Option _)=some (ow.setIfInBounds j (some done.length),done.length+1):=by
   show(SetTable.layClean.free mask ow (SetTable.turns mask) (SetTable.bits h%(mask+1)) (SetTable.bits h)).bind _=_;rw[h1];rfl
  rw[e];rw[u_,UT]at h3;rw[h3,v_,Xp,Nat.add_comm 1]
theorem Bg(mask:Nat):Lay mask [] (Array.replicate (mask+1) none):=by
 have no:∀(j k:Nat),(Array.replicate (mask+1) (none:Option Nat))[j]?≠some (some k):=λj k h=>by
  rw[Array.getElem?_replicate]at h
  split at h<;>cases h
 exact⟨by simp,λj k h=>absurd h (no j k),λk h=>by simp at h,λj _ k h=>absurd h (no j k),λj k _ h=>absurd h (no j k)⟩
theorem vj(hk:∃k,mask+1=2 ^ k)(hs:Array Int)(hl:hs.size<=mask):∃ow,SetTable.layClean mask hs=some ow/\Lay mask hs.toList ow:=by
 obtain⟨ow,h1,h2⟩:=vz hk hs.toList [] _ (Bg mask) (by simpa using hl);refine⟨ow,?_,h2⟩;unfold SetTable.layClean;rw[<- Array.foldl_toList];have:(List.foldl (λacc h=>do
   let (owner,k) <- acc
   let j <- SetTable.layClean.free mask owner (SetTable.turns mask) (SetTable.bits h%(mask+1)) (SetTable.bits h)
   pure (owner.setIfInBounds j (some k),k+1)) (some (Array.replicate (mask+1) none,0)) hs.toList)=some (ow,0+hs.toList.length):=h1
 rw[this];rfl
theorem HI{mask:Nat}(hk:∃k,mask+1=2 ^ k)(finger moves:Nat)(led plain:Bool){α:Type}(es:Array (Int×α))(hl:es.size<=mask) :
  ∃t' order es',SetTable.laid mask finger moves led plain (es.map (·.1))=some (t',order)/\order.filterMap (es[·]?)=es'/\es'.size=es.size/\es'.toList.Perm es.toList/\t'.mask=mask/\t'.led=led/\t'.place.size=es.size/\Ok t' (es'.toList.map (·.1)):=by
 obtain⟨ow,h1,L⟩:=vj hk (es.map (·.1)) (by simpa using hl);have hpm:=L.perm;have hln:=L.len;have Im:(es.map (·.1)).toList.length=es.size:=by simp
 rw[Im]at hpm hln;have e0:((lv mask ow).map (·.2)).toArray.filterMap (es[·]?)=(((lv mask ow).map (·.2)).filterMap (es[·]?)).toArray:=by simp
 have hperm:(((lv mask ow).map (·.2)).filterMap (es[·]?)).Perm es.toList:=by
  have:=hpm.filterMap (es[·]?);rwa [filterMap_getElem?_range]at this
 have FH:∀q∈lv mask ow,q.2<es.size:=λq hq=>by
  have:=L.bd _ _ ((iU L.sz).mp hq);rwa [Im]at this
 have hmap:(((lv mask ow).map (·.2)).filterMap (es[·]?)).map (·.1)=(lv mask ow).map λq=>((es.map (·.1)).toList.getD q.2 0):=by
  have:∀l:List (Nat×Nat),(∀q∈l,q.2<es.size)->((l.map (·.2)).filterMap (es[·]?)).map (·.1)=l.map λq=>((es.map (·.1)).toList.getD q.2 0):=by
   intro l
   induction l with
   | nil=>intro _;rfl
   | cons q l ih=>
    intro hq;have hh:=hq q g_;rw[C_,List.filterMap_cons_some (b:=es[q.2]) (V0 hh),C_,ih λx hx=>hq x (f_ _ hx),C_];congr 1;simp[List.getD,hh]
  exact this _ FH
 refine⟨_,_,_,(by unfold SetTable.laid;rw[h1];rfl),rfl,?_,?_,rfl,rfl,?_,?_⟩
 .show(((lv mask ow).map (·.2)).toArray.filterMap (es[·]?)).size=_;rw[e0,s_,hperm.length_eq];simp
 .show(((lv mask ow).map (·.2)).toArray.filterMap (es[·]?)).toList.Perm _;rw[e0];exact hperm
 .show((lv mask ow).map (·.1)).toArray.size=_;simp[hln]
 .have LK:(((lv mask ow).map (·.2)).toArray.filterMap (es[·]?)).toList.map (·.1)=(lv mask ow).map λq=>((es.map (·.1)).toList.getD q.2 0):=by
   rw[e0];exact hmap
  have pm:∀x,x∈((lv mask ow).map (·.1))↔taken ow x:=λx=>(qV L.sz x).symm;refine⟨rfl,hk,Vx.mpr (DH mask ow),λx hx=>?_,?_,?_,λq hq=>?_⟩
  .obtain⟨k,hx⟩:=(pm x).mp hx;have:=(U1.mp hx).1;show x<=mask;have:=L.sz;omega
  .show((lv mask ow).map (·.1)).toArray.size=_;rw[s_,c_];exact(by rw[show(((lv mask ow).map (·.2)).toArray.filterMap (es[·]?)).toList.map (·.1)=(lv mask ow).map λq=>((es.map (·.1)).toList.getD q.2 0)from LK,c_]:(lv mask ow).length=((((lv mask ow).map (·.2)).toArray.filterMap (es[·]?)).toList.map (·.1)).length)
  .show((lv mask ow).map (·.1)).toArray.size<=mask;simp[hln];exact hl
  .have tX:q∈((lv mask ow).map (·.1)).zip ((((lv mask ow).map (·.2)).toArray.filterMap (es[·]?)).toList.map (·.1)):=hq;rw[LK,List.zip_map']at tX;obtain⟨r,hr,rfl⟩:=t_.mp tX;have hr1:=(iU L.sz).mp hr;have hr2:=FH r hr;have hr3:(es.map (·.1)).toList[r.2]?=some ((es.map (·.1)).toList.getD r.2 0):=by
    have:r.2<(es.map (·.1)).toList.length:=by simpa using hr2
    rw[Vg,l_ this];rfl
   obtain⟨m,a1,a2⟩:=L.ch r.1 r.2 _ hr1 hr3;exact⟨m,a1,λm' hm'=>(pm _).mpr (a2 m' hm')⟩
structure SK{prog:Program}{w:World}{K:Type}[DecidableEq K](knd:HeapKind prog w K):Prop where
 cls:∀{A:Around}{E:Value->Shared->Prop}{s:Shared}{k:K}{a:Addr}{Q:Bool->Shared->Prop},knd.is s.heap k a->Q false s->wpAny @7 A (ofAClassStatement 8 (.ref a)) Q E s
 hbv:∀{A:Around}{E:Value->Shared->Prop}{s:Shared}{k:K}{a:Addr}{Q:Bool->Shared->Prop},knd.is s.heap k a->(∀b,Q b s)->wpAny @7 A (hashByValue 8 (.ref a)) Q E s
def eU:Yv:=[7,31,127,511,2047,8191]
theorem rO(h:m∈eU):7<=m/\m<=8191/\m%2=1:=by
 unfold eU at h;simp only[p_,UL,V5]at h;rcases h with rfl | rfl | rfl | rfl | rfl | rfl<;>decide
section
variable {prog:YB}{w:YE}{K:Type}[DecidableEq K]{knd:HeapKind prog w K}{A:YC}{E:Yh}{s:YA}
def ent(knd:HeapKind prog w K)(x:K×YH):Int×Yz:=(knd.hash x.1,.ref x.2)
structure Tab(knd:HeapKind prog w K)(es:Array (Int×Value))(t:SetTable)(xs:List (K×Addr)):Prop where
 perm:es.toList.Perm (xs.map (ent knd))
 ok:Ok t (es.toList.map (·.1))
 msk:t.mask∈eU
 nf:t.place.size*5<t.mask*3
theorem Tab.size(T:Tab knd es t xs):es.size=xs.length:=by
 have:=T.perm.length_eq;simpa using this
theorem Tab.psize(T:Tab knd es t xs):t.place.size=es.size:=by
 have:=T.ok.len;simpa using this
theorem fits_of(o:Ok t hs)(hn:t.place.size=n):t.fits n=true:=by
 unfold SetTable.fits SetTable.fill;rw[o.dum];have:=o.lt;simp[hn];omega
theorem Tab.fits(T:Tab knd es t xs):t.fits es.size=true:=fits_of T.ok T.psize
theorem Tab.mem{es:Array (Int×Yz)}{t:SetTable}{xs:List (K×YH)}(T:Tab knd es t xs){i:Nat}{e:Int×Yz}(h:es[i]?=some e):∃x∈xs,e=ent knd x:=by
 have h1:e∈es.toList:=by have:=Array.mem_of_getElem? h;simpa using this
 obtain⟨x,hx,e2⟩:=t_.mp (T.perm.mem_iff.mp h1);exact⟨x,hx,e2.symm⟩
theorem Ih(S:SK knd){b:YH}{k:K}(gB:knd.is s.heap k b){stored:Yo}(hst:∀v∈stored,∃k' c,v=.ref c/\knd.is s.heap k' c){Q:Bool->YA->Prop}(h:Q false s) :
  wpAny @7 A (searchCouldBeSeen (.ref b) stored) Q E s:=by
 unfold searchCouldBeSeen;refine a_ ?_;refine Wy _ (λrest r s'=>s'=s/\r=(none,())/\∀v∈rest,∃k' c,v=.ref c/\knd.is s.heap k' c) _ ?_ ?_ _ _ ⟨rfl,rfl,hst⟩
 .rintro x rest r s' ⟨rfl,rfl,hr⟩;obtain⟨k',c,rfl,hc⟩:=hr x g_;dsimp only;have uf:∀v∈rest,∃k' c,v=Value.ref c/\knd.is s'.heap k' c:=λv hv=>hr v (f_ _ hv)
  split
  .exact e_ ⟨rfl,rfl,uf⟩
  .refine a_ (knd.quiet gB ?_);simp only[X2,D_,UU];refine a_ (knd.quiet hc ?_);simp only[X2,D_,UU];refine a_ (S.cls gB ?_);simp only[D_,UU];refine a_ (S.cls hc ?_);simp only[D_,UU];exact e_ ⟨rfl,rfl,uf⟩
 .rintro r s' ⟨rfl,rfl,_⟩;exact e_ h
theorem we(h:Q true s):wpAny @7 A (isSame (.ref c) (.ref c)) Q E s:=by
 unfold isSame;dsimp only;rw[h_ @8];exact e_ h
theorem lG(S:SK knd)(hu:knd.room A){a b:YH}{k:K}{o:Obj}{es:Array (Int×Yz)}{ep:Nat}{t:SetTable}{xs:List (K×YH)}(ho:s.heap.get? a=some o)(hd:o.data=.set es ep t)(T:Tab knd es t xs)
  (wJ:∀x∈xs,knd.is s.heap x.1 x.2) (gB:knd.is s.heap k b) {adding:Bool} {Q:SetFound->YA->Prop}
  (hin:∀c,(k,c)∈xs->∀i,Q (.there (if adding=true then none else some i)) s)
  (hout:(∀c,(k,c)∉xs)->∀m,(it t.mask (t.probeStart (knd.hash k)) m).j∉t.place.toList->(∀m'<m,(it t.mask (t.probeStart (knd.hash k)) m').j∈t.place.toList)->Q (.free (it t.mask (t.probeStart (knd.hash k)) m).j false) s)
  (mf:Nat) (hmf:mf<10*SetTable.turns t.mask) (hfr:(it t.mask (t.probeStart (knd.hash k)) mf).j∉t.place.toList) :
  ∀(fuel m:Nat)(FI:Option SetTable.Probe),FI.getD (t.probeStart (knd.hash k))=it t.mask (t.probeStart (knd.hash k)) m->
   (∀m'<m,(it t.mask (t.probeStart (knd.hash k)) m').j∈t.place.toList/\∀i:Nat,t.place[i]?=some (it t.mask (t.probeStart (knd.hash k)) m').j->∀c,(k,c)∈xs->es[i]?≠some (ent knd (k,c)))->mf-m<fuel->
   wpAny @7 A (setSearchFrom a (.ref b) (knd.hash k) adding fuel FI) Q E s
 | 0,m,FI,_,_,h=>by omega
 | fuel+1,m,FI,hst,Mj,hfu=>by
  have hle:m<=mf:=by
   rcases X9 mf m with h | h
   .exact absurd (Mj mf h).1 hfr
   .exact h
  have f:=T.fits;unfold setSearchFrom;refine a_ (V6 ho hd f ?_);dsimp only;rw[i_ (by unfold SetTable.gaveWay;have:=(rO T.msk).2.2;simp[this])];rw[hst];have hdum:(it t.mask (t.probeStart (knd.hash k)) m).dummy=none:=kn _ _ rfl m;obtain⟨met,m1,g1,g2,g3⟩:=wC (t:=t) T.ok.dum T.ok.up (λi=>(es[i]?.map (·.1)).getD 0) (knd.hash k) (10*SetTable.turns t.mask) (it t.mask (t.probeStart (knd.hash k)) m) hdum ⟨mf-m,by omega,by rw[<- jW,show m+(mf-m)=mf by omega];exact hfr⟩;generalize Q9:t.probe _ (knd.hash k) (it t.mask (t.probeStart (knd.hash k)) m)=pr;have hpr2:pr=some met:=Q9.symm.trans g1;subst hpr2;dsimp only;simp only[<- jW]at g2 g3;have Io:∀m'<m+m1,(it t.mask (t.probeStart (knd.hash k)) m').j∈t.place.toList/\∀i:Nat,t.place[i]?=some (it t.mask (t.probeStart (knd.hash k)) m').j->∀c,(k,c)∈xs->es[i]?≠some (ent knd (k,c)):=λm' hm'=>by
   by_cases h:m'<m
   .exact Mj m' h
   .obtain⟨i,e1,e2⟩:=g2 (m'-m) @1;rw[show m+(m'-m)=m' by omega]at e1;have e1':t.place.toList[i]?=some (it t.mask (t.probeStart (knd.hash k)) m').j:=by simpa using e1
    refine⟨UW e1',λi' hi' c hc z=>?_⟩;have e3:=below_at T.ok.up e1;have e4:=below_at T.ok.up hi';rw[e3]at e4;subst e4;rw[z]at e2;exact e2 rfl
  rcases g3 with ⟨rfl,g4⟩ | ⟨i,p1,p2,rfl⟩
  .dsimp only;refine e_ (hout (λc hc=>?_) (m+m1) g4 λm' hm'=>(Io m' hm').1);have h1:ent knd (k,c)∈es.toList:=T.perm.mem_iff.mpr (UK hc);obtain⟨i,hi⟩:=Wo.mp h1;have hil:=(k_.mp hi).1;have fy:i<t.place.toList.length:=by have:=T.psize;simp at hil ⊢;omega
   have hz:(t.place.toList[i],knd.hash k)∈t.place.toList.zip (es.toList.map (·.1)):=by
    refine UW (i:=i) ?_;rw[Vl];exact⟨l_ fy,by rw[x_,hi];rfl⟩
   obtain⟨m0,a1,a2⟩:=T.ok.ch _ hz;simp only at a1 a2;rcases Nat.lt_trichotomy m0 (m+m1)with ix | heq | hgt
   .refine(Io m0 ix).2 i ?_ c hc (by simpa using hi);rw[a1];simpa using l_ fy
   .rw[<- heq,a1]at g4;exact g4 (Wa fy)
   .exact g4 (a2 _ hgt)
  .dsimp only;have hil:i<es.size:=by have:=(U1.mp p1).1;rw[T.psize]at this;exact this
   obtain⟨e,he⟩:∃e,es[i]?=some e:=⟨es[i],V0 hil⟩;obtain⟨x,hx,rfl⟩:=T.mem he;have hxk:=wJ x hx;have sj:∀m2,it t.mask (it t.mask (t.probeStart (knd.hash k)) m) m2=it t.mask (t.probeStart (knd.hash k)) (m+m2):=λm2=>(jW ..).symm;have cont:wpAny @7 A (do
     let some (_,y):=es[i]? | unsupported "internal:set-entry"
     let equal <- holding [y] (eqBool y (.ref b))
     let (es',_,t') <- setState a
     if adding&&equal then return .there none
     let some same:=t'.sameMemory t.moves t.mask | unsupported "set.changed-during-lookup:is-the-new-block-at-the-old-address"
     let still <- match (if same then t'.slot (it t.mask (t.probeStart (knd.hash k)) (m+m1)).j else .empty)with
      | .live i'=>match es'[i']? with
       | some (_,y')=>do pure (if <- isSame y' y then some i' else none)
       | none=>pure none
      | _=>pure none
     match still with
     | none=>rule "set.search.anew";setSearchFrom a (.ref b) (knd.hash k) adding fuel none
     | some i'=>if equal then return .there (some i')else setSearchFrom a (.ref b) (knd.hash k) adding fuel (some (it t.mask (t.probeStart (knd.hash k)) (m+(m1+1))))) Q E s:=by
    rw[he];dsimp only[ent];refine a_ (F_ (knd.eqBool hu hxk gB ?_));refine a_ (V6 ho hd f ?_);dsimp only
    by_cases Ip:x.1=k
    .rw[y_ Ip];have hin':=hin x.2 (by rw[<- Ip];exact hx);cases hadd:adding with
     | true=>
      simp only[Bool.and_self,Vy];have:=hin' 0;rw[hadd]at this;exact e_ this
     | false=>
      simp only[Xz,D_,UU];have yG:t.sameMemory t.moves t.mask=some true:=by unfold SetTable.sameMemory;simp
      rw[yG];dsimp only;simp only[Vy];rw[lX T.ok.up p1];dsimp only;rw[he];dsimp only[ent];refine a_ (we (a_ (e_ ?_)));simp only[Vy];have:=hin' i;rw[hadd]at this;exact e_ this
    .rw[G_ Ip];simp only[Wb,D_,UU];have yG:t.sameMemory t.moves t.mask=some true:=by unfold SetTable.sameMemory;simp
     rw[yG];dsimp only;simp only[Vy];rw[lX T.ok.up p1];dsimp only;rw[he];dsimp only[ent];refine a_ (we (a_ (e_ ?_)));simp only[Vy];refine lG S hu ho hd T wJ gB hin hout mf hmf hfr fuel (m+(m1+1)) _ rfl (λm' hm'=>?_) (by
      have hne:m+m1≠mf:=λz=>hfr (by
       rw[<- z];have:t.place.toList[i]?=some (it t.mask (t.probeStart (knd.hash k)) (m+m1)).j:=by simpa using p1
       exact UW this)
      have hle2:m+m1<=mf:=by
       rcases X9 mf (m+m1)with h | h
       .exact absurd (Io mf h).1 hfr
       .exact h
      omega)
     by_cases h:m'<m+m1
     .exact Io m' h
     .have:m'=m+m1:=by omega
      subst this;have p1':t.place.toList[i]?=some (it t.mask (t.probeStart (knd.hash k)) (m+m1)).j:=by simpa using p1
      refine⟨UW p1',λi' hi' c hc z=>?_⟩;have e3:=below_at T.ok.up p1;have e4:=below_at T.ok.up hi';rw[e3]at e4;subst e4;rw[he]at z;have z2:x.2=c:=by
       have:=Option.some.inj z;simp only[ent,X3,Value.ref.injEq]at this;exact this.2
      have hc':=wJ _ hc;simp only at hc';rw[<- z2]at hc';exact Ip (knd.inj hxk hc')
   by_cases hled:t.led=true
   .rw[i_ (by simp[hled])]
    first | exact cont | exact a_ (e_ cont)
   .rw[h_ (by simpa using hled)];refine a_ (Ih S gB (λv hv=>?_) ?_)
    .obtain⟨e,B0,rfl⟩:=t_.mp hv;have wK:e∈es.toList:=by
      have:=(Array.mem_filter.mp (Array.mem_toList_iff.mp B0)).1;exact Array.mem_toList_iff.mpr this
     obtain⟨y,hy,rfl⟩:=t_.mp (T.perm.mem_iff.mp wK);exact⟨y.1,y.2,rfl,wJ y hy⟩
    .simp only[D_,UU]
     first | exact cont | exact a_ (e_ cont)
end
section
variable {prog:YB}{w:YE}{K:Type}[DecidableEq K]{knd:HeapKind prog w K}{A:YC}{E:Yh}{s:YA}
def df(knd:HeapKind prog w K)(a:YH)(xs:List (K×YH))(h:YD):Prop:=
 ∃o es ep t,h.get? a=some o/\o.ExactSet/\o.data=.set es ep t/\Tab knd es t xs/\(xs.map (·.1)).Nodup
theorem df.typeIs(h:df knd a xs s.heap):s.TypeIs (.ref a) "set":=let ⟨o,_,_,_,ho,hc,_⟩:=h;⟨o,ho,hc.1⟩
theorem vT(h:m∈eU):10*SetTable.turns m<100000:=by
 have:=(rO h).2.1;unfold SetTable.turns;omega
theorem y6(S:SK knd)(hu:knd.room A)(hS:df knd a xs s.heap)(wJ:∀x∈xs,knd.is s.heap x.1 x.2)(gB:knd.is s.heap k b)
  (h:∀r:Option Nat,r.isSome=decide (k∈xs.map (·.1))->Q r s):wpAny @7 A (setFind a (.ref b) (knd.hash k)) Q E s:=by
 obtain⟨o,es,ep,t,ho,_,hd,T,hn⟩:=hS;unfold setFind setFindIn;refine a_ (V6 ho hd T.fits ?_);dsimp only;rw[i_ (by simp[byScan,Value.scannable])];obtain⟨mf,m1,m2⟩:=T.ok.soon (knd.hash k);have ht:=vT T.msk;unfold setSearch;refine a_ (lG S hu ho hd T wJ gB (adding:=false) (λc hc i=>?_) (λhc m _ _=>?_) mf m1 m2 100000 0 none rfl (λm' hm'=>by omega) @1)
 .simp only[D_,UU];refine e_ (h _ ?_);rw[y_ (t_.mpr ⟨(k,c),hc,rfl⟩)];rfl
 .dsimp only;refine e_ (h _ ?_);rw[G_]
  .rfl
  .intro hm;obtain⟨x,hx,e⟩:=t_.mp hm;obtain⟨y,c⟩:=x;simp only at e;subst e;exact hc c hx
theorem Nl(S:SK knd)(hu:knd.room A.in1)(hS:df knd a xs s.heap)(wJ:∀x∈xs,knd.is s.heap x.1 x.2)(gB:knd.is s.heap k b)
  (h:∀tk,Q (.bool (decide (k∈xs.map (·.1)))) {s with toks:=tk}):wpAny @7 A (compareOp .In (.ref b) (.ref a)) Q E s:=by
 show wpAny _ _ (do return .bool (<- contains (.ref a) (.ref b))) Q E s;refine a_ ?_;unfold contains
 try with_reducible refine F_ ?_
 refine a_ (VN hS.typeIs VQ.lookup ?_);show wpAny _ _ (if(some (Value.builtin "set.__contains__")==some Value.none)=true then _ else _) _ E s;rw[i_ (by rw[beq_builtin_none];exact UY)];refine a_ (WZ (name:="__contains__") hS.typeIs VQ
  (UJ VQ hS.typeIs entry_set_contains ?_ (F.args_set_contains_2 _ _)))
 unfold Builtin.«frozenset.__contains__» Builtin.Frozenset.oneOther;simp only[List.isEmpty_nil,bind_assoc];unfold Builtin.Frozenset.addrOf Builtin.Frozenset.withSetAsKey setContains;refine a_ (e_ ?_)
 try dsimp only
 refine a_ (e_ ?_)
 try dsimp only
 refine a_ (wpAny_tryCatch ?_);refine F_ ?_;refine a_ (knd.pyHash hu gB ?_);refine a_ (y6 (s:={s with toks:=s.toks+knd.draws k}) S hu hS wJ gB λr hr=>?_);refine e_ ?_;show wpAny _ _ (ret (Value.bool r.isSome)) _ _ _;rw[hr];exact e_ ⟨_,rfl,Vb (e_ (h _))⟩
theorem Cr(S:SK knd)(hu:knd.room A.in1)(hS:df knd a xs s.heap)(wJ:∀x∈xs,knd.is s.heap x.1 x.2)(gB:knd.is s.heap k b)
  (h:∀tk,Q (.bool (!decide (k∈xs.map (·.1)))) {s with toks:=tk}):wpAny @7 A (compareOp .NotIn (.ref b) (.ref a)) Q E s:=by
 show wpAny _ _ (do return .bool (!(<- contains (.ref a) (.ref b)))) Q E s;refine a_ ?_;unfold contains
 try with_reducible refine F_ ?_
 refine a_ (VN hS.typeIs VQ.lookup ?_);show wpAny _ _ (if(some (Value.builtin "set.__contains__")==some Value.none)=true then _ else _) _ E s;rw[i_ (by rw[beq_builtin_none];exact UY)];refine a_ (WZ (name:="__contains__") hS.typeIs VQ
  (UJ VQ hS.typeIs entry_set_contains ?_ (F.args_set_contains_2 _ _)))
 unfold Builtin.«frozenset.__contains__» Builtin.Frozenset.oneOther;simp only[List.isEmpty_nil,bind_assoc];unfold Builtin.Frozenset.addrOf Builtin.Frozenset.withSetAsKey setContains;refine a_ (e_ ?_)
 try dsimp only
 refine a_ (e_ ?_)
 try dsimp only
 refine a_ (wpAny_tryCatch ?_);refine F_ ?_;refine a_ (knd.pyHash hu gB ?_);refine a_ (y6 (s:={s with toks:=s.toks+knd.draws k}) S hu hS wJ gB λr hr=>?_);refine e_ ?_;show wpAny _ _ (ret (Value.bool r.isSome)) _ _ _;rw[hr];exact e_ ⟨_,rfl,Vb (e_ (h _))⟩
theorem uu{h:YD}{a:YH}{o:Obj}{es:Array (Int×Yz)}{ep:Nat}{t:SetTable}(ho:h.get? a=some o)(hd:o.data=.set es ep t)(es':Array (Int×Yz))(t':SetTable) :
  (h.update a (Obj.putSet es' t')).get? a=some {o with data:=.set es' (ep+1) t'}:=by
 have:=UZ (Obj.putSet es' t') ho (by rw[putSet_of es' t' hd];rfl);rw[putSet_of es' t' hd]at this;exact this
theorem pe(h:n<=5000):n<=sizeLine:=by rw[UI];omega
theorem Bs(hm:m∈eU)(h1:n*5<m*3)(h2:m*3<=(n+1)*5)(h3:n+1<=4914):∃m',m'∈eU/\SetTable.sizeAbove (SetTable.grown (n+1))-1=m'/\SetTable.sizeAbove (SetTable.grown (n+1))<=8192/\(n+1)*5<m'*3/\n+1<=m':=by
 have key:∀n0 m',n=n0->m'∈eU/\SetTable.sizeAbove (SetTable.grown (n0+1))-1=m'/\SetTable.sizeAbove (SetTable.grown (n0+1))<=8192/\(n0+1)*5<m'*3/\n0+1<=m'->∃m',m'∈eU/\SetTable.sizeAbove (SetTable.grown (n+1))-1=m'/\SetTable.sizeAbove (SetTable.grown (n+1))<=8192/\(n+1)*5<m'*3/\n+1<=m':=λn0 m' e h=>⟨m',by subst e;exact h⟩;unfold eU at hm;simp only[p_,UL,V5]at hm;rcases hm with rfl | rfl | rfl | rfl | rfl | rfl
 .exact key 4 31 @1 @2
 .exact key 18 127 @1 @2
 .exact key 76 511 @1 @2
 .exact key 306 2047 @1 @2
 .exact key 1228 8191 @1 @2
 .omega
theorem DJ(h:m∈eU):∃k,m+1=2 ^ k:=by
 unfold eU at h;simp only[p_,UL,V5]at h;rcases h with rfl | rfl | rfl | rfl | rfl | rfl
 .exact⟨3,rfl⟩
 .exact⟨5,rfl⟩
 .exact⟨7,rfl⟩
 .exact⟨9,rfl⟩
 .exact⟨11,rfl⟩
 .exact⟨13,rfl⟩
theorem Fw(ho:s.heap.get? a=some o)(hd:o.data=.set es ep t)(hp:es.toList.Perm l)(ok:Ok t (es.toList.map (·.1)))(hn:es.size=n+1)(hm:t.mask∈eU)(h1:n*5<t.mask*3)(h2:t.mask*3<=(n+1)*5)(h3:n+1<=4914)
  (h:∀es' t',es'.toList.Perm l->Ok t' (es'.toList.map (·.1))->t'.mask∈eU->t'.place.size*5<t'.mask*3->Q () {s with heap:=s.heap.update a (Obj.putSet es' t')}) :
  wpAny @7 A (setRelay a (SetTable.grown (n+1))) Q E s:=by
 obtain⟨m',k1,k2,k3,k4,k5⟩:=Bs hm h1 h2 h3;have hsz:t.place.size=es.size:=by have:=ok.len;simpa using this
 obtain⟨t',order,es',g1,g2,g3,g4,g5,g6,g7,g8⟩:=HI (DJ k1) t.finger (t.movedTo (SetTable.sizeAbove (SetTable.grown (n+1))-1)) t.led t.plain es @1;have hr:t.relaid (es.map (·.1)) (SetTable.grown (n+1))=some (t',order):=by
  unfold SetTable.relaid;rw[<- g1,k2]
 unfold setRelay;refine a_ (V6 ho hd (fits_of ok hsz) ?_);dsimp only;rw[i_ (by have:=UI;omega)];refine a_ ?_;show wpAny _ _ (do
  let some (t,order):=t.relaid (es.map (·.1)) (SetTable.grown (n+1)) | unsupported "internal:set-table-without-room"
  let es':=order.filterMap (es[·]?)
  if es'.size != es.size then unsupported "internal:set-table-lost-an-element"
  pure (es',t)) _ _ _
 rw[hr];dsimp only;rw[g2,i_ (by simp[g3])];refine e_ ?_;dsimp only;exact wpAny_storeSet_of ho hd (h es' t' (g4.trans hp) g8 (by rw[g5];exact k1) (by rw[g5,g7,hn];exact k4)) (by rw[g3,hn];exact pe @1)
theorem Gx(S:SK knd)(hu:knd.room A){a b:YH}{k:K}{xs:List (K×YH)}(hS:df knd a xs s.heap)(wJ:∀x∈xs,knd.is s.heap x.1 x.2)(gB:knd.is s.heap k b)(hl:xs.length+1<=4914){Q:Bool->YA->Prop}
  (hin:k∈xs.map (·.1)->Q false s) (hout:k∉xs.map (·.1)->∀h',Heap.SameBut a s.heap h'->df knd a (xs++[(k,b)]) h'->Q true {s with heap:=h'}) :
  wpAny @7 A (setAddHashed a (.ref b) (knd.hash k)) Q E s:=by
 obtain⟨o,es,ep,t,ho,hex,hd,T,hn⟩:=hS;unfold setAddHashed;refine F_ ?_;unfold setAddHashedIn;refine a_ (V6 ho hd T.fits ?_);dsimp only;rw[i_ (by simp[byScan,Value.scannable])];obtain⟨mf,m1,m2⟩:=T.ok.soon (knd.hash k);have ht:=vT T.msk;unfold setSearch;refine a_ (lG S hu ho hd T wJ gB (adding:=true) (λc hc i=>?_) (λhc m hm1 hm2=>?_) mf m1 m2 100000 0 none rfl (λm' hm'=>by omega) @1)
 .simp only[Vy];exact e_ (hin (t_.mpr ⟨(k,c),hc,rfl⟩))
 .dsimp only;have hk:k∉xs.map (·.1):=λhm=>by
   obtain⟨x,hx,e⟩:=t_.mp hm;obtain⟨y,c⟩:=x;simp only at e;subst e;exact hc c hx
  refine a_ (V6 ho hd T.fits ?_);dsimp only;have hmk:=rO T.msk;have hnf:=T.nf;have hps:=T.psize;have hes:=T.size;generalize hj:(it t.mask (t.probeStart (knd.hash k)) m).j=j at *;have rest:∀pl:Bool,wpAny @7 A (do
    storeSet a (SetTable.insertAt es (t.put j).2 (knd.hash k,.ref b)) {(t.put j).1 with plain:=pl}
    if({(t.put j).1 with plain:=pl}:SetTable).tooFull then setRelay a (SetTable.grown (es.size+1))
    return true) Q E s:=λpl=>by
   obtain⟨p,q1,q2,q3⟩:=T.ok.put (knd.hash k) m (by rw[hj];exact hm1) hm2 @1 pl;rw[hj]at q1 q3;rw[q1];have i1:=SetTable.toList_insertAt es p (knd.hash k,Value.ref b);have i2:(SetTable.insertAt es p (knd.hash k,Value.ref b)).toList.map (·.1)=(es.toList.map (·.1)).take p++knd.hash k::(es.toList.map (·.1)).drop p:=by
    rw[i1,J_,C_,Xq,List.map_drop]
   have i3:(SetTable.insertAt es p (knd.hash k,Value.ref b)).toList.Perm ((xs++[(k,b)]).map (ent knd)):=by
    have e1:=SetTable.insertAt_perm es p (knd.hash k,Value.ref b);rw[Array.toList_push]at e1;refine e1.trans ?_;rw[J_];exact T.perm.append_right _
   have i4:(SetTable.insertAt es p (knd.hash k,Value.ref b)).size=es.size+1:=by
    rw[<- U7,i1,sU];simp
   rw[<- i2]at q3;have PJ:((xs++[(k,b)]).map (·.1)).Nodup:=by
    rw[J_];refine List.nodup_append.mpr ⟨hn,by simp,λx hx y hy=>?_⟩;rw[C_,X_,z_]at hy;subst hy;rintro rfl;exact hk hx
   have hst:=uu ho hd (SetTable.insertAt es p (knd.hash k,Value.ref b)) {(t.put j).1 with plain:=pl};have hsb:=V9 s.heap a (Obj.putSet (SetTable.insertAt es p (knd.hash k,Value.ref b)) {(t.put j).1 with plain:=pl});have Ah:({(t.put j).1 with plain:=pl}:SetTable).mask=t.mask:=rfl;have Ov:({(t.put j).1 with plain:=pl}:SetTable).place.size=es.size+1:=by
    have:=q3.len;rw[c_,U7,i4]at this;exact this
   refine a_ (wpAny_storeSet_of ho hd ?_ (by rw[i4];exact pe @1))
   by_cases hf:({(t.put j).1 with plain:=pl}:SetTable).tooFull=true
   .rw[h_ hf];have Ra:t.mask*3<=(es.size+1)*5:=by
     unfold SetTable.tooFull SetTable.fill at hf;rw[q3.dum]at hf;rw[Ov,Ah]at hf;simpa using hf
    refine a_ (Fw (s:={s with heap:=s.heap.update a (Obj.putSet (SetTable.insertAt es p (knd.hash k,Value.ref b)) {(t.put j).1 with plain:=pl})}) hst rfl i3 q3 (n:=es.size) i4 T.msk (by rw[Ah];omega) (by rw[Ah];exact Ra) @1 λes' t' r1 r2 r3 r4=>?_);refine e_ (hout hk _ (hsb.trans (V9 _ a _)) ?_);exact⟨_,es',_,t',uu hst rfl es' t',hex,rfl,⟨r1,r2,r3,r4⟩,PJ⟩
   .rw[i_ hf]
    first
     | refine e_ (hout hk _ hsb ?_)
     | refine a_ (e_ (e_ (hout hk _ hsb ?_)))
    refine⟨_,_,_,_,hst,hex,rfl,⟨i3,q3,T.msk,?_⟩,PJ⟩;unfold SetTable.tooFull SetTable.fill at hf;rw[q3.dum]at hf;rw[Ov,Ah]at hf ⊢;simpa using hf
  have SZ:({(t.put j).1 with plain:=t.plain}:SetTable)=(t.put j).1:=rfl
  by_cases fy:t.plain=true
  .rw[h_ (show(t.put j).1.plain=true from fy)];refine a_ (S.hbv gB λbv=>?_);cases bv with
   | true=>
    have:=rest t.plain;rw[SZ]at this;simpa using this
   | false=>
    have:=rest false;simpa using this
  .rw[i_ (show ¬(t.put j).1.plain=true from fy)];refine a_ (e_ ?_);have:=rest t.plain;rw[SZ]at this;simpa using this
end
end St
abbrev PySem.Shared.sz(s:PySem.Shared):Nat:=s.heap.objs.size
namespace L2
open PySem PySem.Spec PyProof.Rows
abbrev Key:=Sum Int Str
abbrev YL:=List Key
abbrev YK:=List YL
def oS:Key->Yz->Bool
 | .inl k,v=>Value.isInt k v
 | .inr x,v=>Value.isStrOf x v
def QC(w:YE):Key->Int
 | .inl k=>hashInt k
 | .inr x=>hashStr w x
theorem bI:∀{k:Key}{v:Yz},oS k v=true->(∃i t,k=Sum.inl i/\v=Value.int i t)\/(∃x t,k=Sum.inr x/\v=Value.str x t)
 | .inl i,v,h=>by
  obtain⟨t,e⟩:=Value.isInt_shape (k:=i) (v:=v) h;exact .inl ⟨i,t,rfl,e⟩
 | .inr x,v,h=>by
  obtain⟨t,e⟩:=Value.isStrOf_shape (x:=x) (v:=v) h;exact .inr ⟨x,t,rfl,e⟩
theorem BF(i:Int)(t:Tok):oS (.inl i) (.int i t)=true:=by simp[oS,Value.isInt]
theorem Bn(x:Str)(t:Tok):oS (.inr x) (.str x t)=true:=by simp[oS,Value.isStrOf]
theorem LG(a b:Int):decide ((Sum.inl a:Key)=Sum.inl b)=(a==b):=by
 by_cases e:a=b
 .subst e;simp
 .have h:¬(Sum.inl a:Key)=Sum.inl b:=λq=>e (Sum.inl.inj q);rw[G_ h];exact(WB.mpr e).symm
theorem K9(a b:Str):decide ((Sum.inr a:Key)=Sum.inr b)=decide (a=b):=by
 by_cases e:a=b
 .subst e;simp
 .have h:¬(Sum.inr a:Key)=Sum.inr b:=λq=>e (Sum.inr.inj q);rw[G_ h,G_ e]
theorem K4(a:Int)(b:Str):decide ((Sum.inl a:Key)=Sum.inr b)=false:=G_ (λq=>nomatch q)
theorem Kc(a:Str)(b:Int):decide ((Sum.inr a:Key)=Sum.inl b)=false:=G_ (λq=>nomatch q)
def aJ(prog:YB)(w:YE):PySem.KeyKind prog w Key where
 is:=oS
 hash:=QC w
 inj:=λv a b ha hb=>by
  rcases bI ha with ⟨i,t,rfl,rfl⟩ | ⟨x,t,rfl,rfl⟩
  .rcases bI hb with ⟨j,u,rfl,e⟩ | ⟨y,u,rfl,e⟩
   .injection e with e1 _;rw[e1]
   .exact nomatch e
  .rcases bI hb with ⟨j,u,rfl,e⟩ | ⟨y,u,rfl,e⟩
   .exact nomatch e
   .injection e with e1 _;rw[e1]
 byValue:=λk v h=>by
  rcases bI h with ⟨i,t,rfl,rfl⟩ | ⟨x,t,rfl,rfl⟩<;>rfl
 pyHash:=λhv h=>by
  rcases bI hv with ⟨i,t,rfl,rfl⟩ | ⟨x,t,rfl,rfl⟩
  .exact wpAny_pyHash_int h
  .exact wpAny_pyHash_str h
 eqBool:=λhu hv h=>by
  rcases bI hu with ⟨i,t,rfl,rfl⟩ | ⟨x,t,rfl,rfl⟩
  .rcases bI hv with ⟨j,u,rfl,rfl⟩ | ⟨y,u,rfl,rfl⟩
   .rw[LG]at h;exact wpAny_eqBool_int h
   .rw[K4]at h;exact SeqAt.EqAt.int_str i t y u _ _ _ _ h
  .rcases bI hv with ⟨j,u,rfl,rfl⟩ | ⟨y,u,rfl,rfl⟩
   .rw[Kc]at h;exact SeqAt.EqAt.str_int x t j u _ _ _ _ h
   .rw[K9]at h;exact wpAny_eqBool_str h
 «strs»:=λk x t v h=>by
  rcases bI h with ⟨i,u,rfl,e⟩ | ⟨y,u,rfl,e⟩
  .exact nomatch e
  .injection e with e1 _
   subst e1;cases v<;>rfl
theorem uF(prog:YB)(w:YE)(i:Int)(t:Tok):(aJ prog w).is (.inl i) (.int i t)=true:=BF i t
theorem vo(prog:YB)(w:YE)(x:Str)(t:Tok):(aJ prog w).is (.inr x) (.str x t)=true:=Bn x t
inductive V where
 | non | bl (b:Bool) | int (i:Int) | str (x:Str) | byt (b:Array UInt8) | flt (b:UInt64) | ref (a:Addr) | ty (n:String)
 deriving DecidableEq
abbrev YR:=List V
def RelV:V->Yz->Prop
 | .non,u=>u=Value.none
 | .bl b,u=>u=Value.bool b
 | .int i,u=>∃t,u=Value.int i t
 | .str x,u=>∃t,u=Value.str x t
 | .byt b,u=>∃t,u=Value.bytes b t
 | .flt b,u=>∃t,u=Value.float b t
 | .ref a,u=>u=Value.ref a
 | .ty n,u=>u=Value.type n
abbrev aB:YR->Yo->Prop:=Paired RelV
theorem aB.length(r:aB xs us):xs.length=us.length:=Paired.length r
theorem aB.get:∀{xs:YR}{us:Yo}{i:Nat}{x:V},aB xs us->xs[i]?=some x->∃u,us[i]?=some u/\RelV x u
 | _,_,_,_,.nil,e=>by simp at e
 | _,_,0,_,.cons r _,e=>by simp at e;subst e;exact⟨_,rfl,r⟩
 | _,_,i+1,x,.cons _ t,e=>by
  obtain⟨u,h1,h2⟩:=aB.get (i:=i) (x:=x) t (by simpa using e);exact⟨u,by simpa using h1,h2⟩
theorem aB.set(r:RelV x u):∀{xs:YR}{us:Yo}(i:Nat),aB xs us->aB (xs.set i x) (us.set i u)
 | _,_,_,.nil=>.nil
 | _,_,0,.cons _ t=>.cons r t
 | _,_,i+1,.cons q t=>.cons q (aB.set r i t)
theorem aB.append:∀{xs ys:YR}{us ws:Yo},aB xs us->aB ys ws->aB (xs++ys) (us++ws)
 | _,_,_,_,.nil,s=>s
 | _,_,_,_,.cons r t,s=>.cons r (aB.append t s)
theorem aB.take:∀{xs:YR}{us:Yo}(n:Nat),aB xs us->aB (xs.take n) (us.take n)
 | _,_,0,_=>.nil
 | _,_,_+1,.nil=>.nil
 | _,_,n+1,.cons r t=>.cons r (aB.take n t)
theorem aB.drop:∀{xs:YR}{us:Yo}(n:Nat),aB xs us->aB (xs.drop n) (us.drop n)
 | _,_,0,r=>r
 | _,_,_+1,.nil=>.nil
 | _,_,n+1,.cons _ t=>aB.drop n t
def Np:Option V->Yp->Prop
 | some v,some u=>RelV v u
 | none,none=>True
 | _,_=>False
def KV:List (κ×V)->List (κ×Yz)->Prop:=Paired λ(p:κ×V) (q:κ×Yz)=>p.1=q.1/\RelV p.2 q.2
def kV:Key->V
 | .inl i=>.int i
 | .inr x=>.str x
inductive HO where
  | lst (xs:List V)
  | tup (xs:List V)
  | dK (lg:List (Key×V)) | dT (lg:List (List Key×V))
  | set (S:Int->Bool) (n:Nat)
  | ins (C dx:Addr) (fs:List (Str×V))
  | own (x:Addr)
  | xd (fs:List (Str×V))
  | met (f x:Addr)
  | rng (lo hi:Int)
  | frz (o:Obj) (u:HO)
  | tbl (ps:Array Value)
  | ext (φ:Heap->Prop)
abbrev Hp:=YH->Option HO
def upd(H:Hp)(a:YH)(o:HO):Hp:=λb=>if b=a then some o else H b
theorem au:upd H a o a=some o:=by unfold upd;rw[h_ rfl]
theorem ax(h:b≠a):upd H a o b=H b:=by unfold upd;rw[i_ h]
theorem cX{H:Hp}{a b:YH}{o:HO}(h:H a=some o)(h':H b=none):a≠b:=by
 intro e;subst e;rw[h]at h';cases h'
section
variable (P:YB)(w:YE)
def bE(H:Hp)(h:YD)(a:YH):HO->Prop
 | .lst xs=>xs.length<=sizeLine/\∃(br:Yo)(n:Nat),aB xs br/\h.get? a=some {cls:=.type "list",data:=.seq br.toArray n}
 | .tup xs=>xs.length<=sizeLine/\∃br:Yo,aB xs br/\IsTup h a br.toArray
 | .dK lg=>lg.length<=sizeLine/\(a==sysModules)=false/\∃vs,KV lg vs/\h.DictOf (aJ P w) a vs
 | .dT lg=>lg.length<=sizeLine/\(a==sysModules)=false/\∃xs:List (YL×YH×Yz),
   Paired (λ(p:YL×V) (q:YL×YH×Yz)=>p.1=q.1/\H q.2.1=some (.tup (p.1.map kV))/\RelV p.2 q.2.2) lg xs/\
   ∃o es ep,h.get? a=some o/\o.ExactDict/\o.data=.dict es ep/\es.toList=xs.map (entryOfKey (tupleKind (aJ P w)))/\(xs.map (·.1)).Nodup
 | .set S n=>h.SetOf (intKind P w) a S n
 | .ins C dx fs=>H dx=some (.own a)/\fs.length<=1000/\dx≠a/\h.get? a=some (PySem.W.instObj C dx)/\
   ∃mA,h.Ns1 dx mA/\(∀f,Np (fs.lookup f) (mA f))/\PySem.Within mA (fs.map (·.1))
 | .own _=>∃o,h.get? a=some o
 | .xd fs=>∃mA,h.Ns1 a mA/\∀f,Np (fs.lookup f) (mA f)
 | .rng lo hi=>∃t u v,h.get? a=some {cls:=.type "range",data:=.fields #[.int lo t,.int hi u,.int 1 v]}
 | .frz o u=>h.get? a=some o/\bE H h a u
 | .tbl ps=>h.get? a=some {cls:=.none,data:=.fields ps}
 | .met f x=>h.get? a=some (PySem.W.methodObj (.ref f) (.ref x))
 | .ext φ=>φ h/\(∃o,h.get? a=some o)/\∀h1 h2:YD,φ h1->(∀o,h1.get? a=some o->h2.get? a=some o)->φ h2
def mI(H:Hp)(h:YD):Prop:=∀a o,H a=some o->bE P w H h a o
end
section
variable {P:YB}{w:YE}{H H':Hp}{h h':YD}{a:YH}{o:HO}
theorem bE.lt(x:bE P w H h a o):a<h.objs.size:=by
 cases o with
 | lst xs=>obtain⟨_,_,_,_,e⟩:=x;exact n_ e
 | tup xs=>obtain⟨_,_,_,p⟩:=x;exact p.lt
 | dK lg=>obtain⟨_,_,_,_,o,_,_,e,_⟩:=x;exact n_ e
 | dT lg=>obtain⟨_,_,_,_,o,_,_,e,_⟩:=x;exact n_ e
 | set S n=>obtain⟨o,_,_,_,e,_⟩:=x;exact n_ e
 | ins C dx fs=>obtain⟨_,_,_,e,_⟩:=x;exact n_ e
 | own y=>obtain⟨_,e⟩:=x;exact n_ e
 | xd fs=>obtain⟨_,⟨_,_,_,e,_⟩,_⟩:=x;exact n_ e
 | rng lo hi=>obtain⟨_,_,_,e⟩:=x;exact n_ e
 | frz ob u=>obtain⟨e,_⟩:=x;exact n_ e
 | tbl ps=>exact n_ (show h.get? a=some _ from x)
 | met f y=>exact n_ (show h.get? a=some _ from x)
 | ext φ=>obtain⟨_,⟨_,e⟩,_⟩:=x;exact n_ e
theorem Paired.mapP:∀{l₁:List α}{l₂:List β},Paired F l₁ l₂->(∀a b,F a b->G a b)->Paired G l₁ l₂
 | _,_,.nil,_=>.nil
 | _,_,.cons r t,f=>.cons (f _ _ r) (Paired.mapP t f)
theorem bE.stay(x:bE P w H h a o)(k:∀b u,(b=a\/H b=some (.own a))->h.get? b=some u->h'.get? b=some u)
  (ho:∀b,H b=some (.own a)->H' b=some (.own a)) (ht:∀b xs,H b=some (.tup xs)->H' b=some (.tup xs)):bE P w H' h' a o:=by
 induction o with
 | lst xs=>obtain⟨z,br,n,r,e⟩:=x;exact⟨z,br,n,r,k _ _ (.inl rfl) e⟩
 | tup xs=>obtain⟨z,br,r,ob,e,c⟩:=x;exact⟨z,br,r,ob,k _ _ (.inl rfl) e,c⟩
 | dK lg=>obtain⟨z,y,vs,r,ob,es,ep,e,c⟩:=x;exact⟨z,y,vs,r,ob,es,ep,k _ _ (.inl rfl) e,c⟩
 | dT lg=>
  obtain⟨z,y,xs,r,ob,es,ep,e,c⟩:=x;exact⟨z,y,xs,Paired.mapP r λp q z=>⟨z.1,ht _ _ z.2.1,z.2.2⟩,ob,es,ep,k _ _ (.inl rfl) e,c⟩
 | set S n=>obtain⟨ob,es,ep,t,e,c⟩:=x;exact⟨ob,es,ep,t,k _ _ (.inl rfl) e,c⟩
 | ins C dx fs=>
  obtain⟨d,z,ne,e,mA,⟨od,es,ep,e2,c⟩,r⟩:=x;exact⟨ho _ d,z,ne,k _ _ (.inl rfl) e,mA,⟨od,es,ep,k _ _ (.inr d) e2,c⟩,r⟩
 | own y=>obtain⟨ob,e⟩:=x;exact⟨ob,k _ _ (.inl rfl) e⟩
 | xd fs=>obtain⟨mA,⟨od,es,ep,e,c⟩,r⟩:=x;exact⟨mA,⟨od,es,ep,k _ _ (.inl rfl) e,c⟩,r⟩
 | rng lo hi=>obtain⟨t,u,v,e⟩:=x;exact⟨t,u,v,k _ _ (.inl rfl) e⟩
 | frz ob u ih=>obtain⟨e,q⟩:=x;exact⟨k _ _ (.inl rfl) e,ih q⟩
 | tbl ps=>
  have e:h.get? a=some {cls:=.none,data:=.fields ps}:=x;show h'.get? a=some {cls:=.none,data:=.fields ps};exact k a _ (.inl rfl) e
 | met f y=>
  have e:h.get? a=some (PySem.W.methodObj (.ref f) (.ref y)):=x;show h'.get? a=some (PySem.W.methodObj (.ref f) (.ref y));exact k a _ (.inl rfl) e
 | ext φ=>obtain⟨p,⟨o,e⟩,st⟩:=x;exact⟨st _ _ p λo q=>k _ _ (.inl rfl) q,⟨o,k _ _ (.inl rfl) e⟩,st⟩
theorem mI.lt(x:mI P w H h)(e:H a=some o):a<h.objs.size:=(x a o e).lt
theorem mI.fresh(x:mI P w H h)(e:h.objs.size<=a):H a=none:=by
 cases q:H a with
 | none=>rfl
 | some u=>exact absurd (q_ (x.lt q) e) (VU _)
theorem mI.kept(x:mI P w H h)(k:∀b u,h.get? b=some u->h'.get? b=some u):mI P w H h':=λa o e=>
 (x a o e).stay (λb u _ q=>k b u q) (λ_ q=>q) λ_ _ q=>q
theorem mI.laid(x:mI P w H h)(k:∀b u,h.get? b=some u->h'.get? b=some u)(hp:h.objs.size<=a)(new:bE P w (upd H a o) h' a o):mI P w (upd H a o) h':=λb u e=>by
 have hn:=x.fresh hp
 by_cases hb:b=a
 .subst hb;rw[au]at e;cases e;exact new
 .rw[ax hb]at e;exact(x b u e).stay (λc v _ q=>k c v q) (λc q=>by rw[ax (cX q hn)];exact q) λc xs q=>by rw[ax (cX q hn)];exact q
end
def Rd(H:Hp)(a:YH)(u:HO):Prop:=H a=some u\/∃o,H a=some (.frz o u)
theorem Rd.ok(r:Rd H a u)(x:mI P w H h):bE P w H h a u:=by
 rcases r with r | ⟨o,r⟩
 .exact x a u r
 .obtain⟨_,q⟩:=x a _ r;exact q
def Po:Option HO->Prop
 | some (.lst _)=>True
 | some (.dK _)=>True
 | some (.dT _)=>True
 | some (.set _ _)=>True
 | some (.ins _ _ _)=>True
 | some (.ext _)=>True
 | _=>False
section
variable {P:YB}{w:YE}{H:Hp}{h h':YD}{x e:YH}{o':HO}
theorem mI.write(ok:mI P w H h)(mu:Po (H x))(he:e=x\/H e=some (.own x))(k:∀b u,b≠e->h.get? b=some u->h'.get? b=some u)(Ml:∃u,h'.get? e=some u)
  (new:bE P w (upd H x o') h' x o'):mI P w (upd H x o') h':=λb u q=>by
 have Ow:∀c y,H c=some (.own y)->c≠x:=λc y r z=>by subst z;rw[r]at mu;exact mu
 have ntup:∀c xs,H c=some (.tup xs)->c≠x:=λc xs r z=>by subst z;rw[r]at mu;exact mu
 by_cases hb:b=x
 .subst hb;rw[au]at q;cases q;exact new
 .rw[ax hb]at q
  by_cases F5:b=e
  .have q':H b=some (.own x):=by
    rcases he with z | z
    .exact absurd (F5.trans z) hb
    .rw[F5];exact z
   rw[q]at q';cases q';obtain⟨v,hv⟩:=Ml;exact⟨v,by rw[F5];exact hv⟩
  .refine(ok b u q).stay (λc v hc r=>k c v ?_ r) (λc r=>by rw[ax (Ow c b r)];exact r) λc xs r=>by rw[ax (ntup c xs r)];exact r
   rcases hc with rfl | hc
   .exact F5
   .rintro rfl;rcases he with z | z
    .exact Ow c b hc z
    .rw[hc]at z;cases z;exact hb rfl
end
structure Un(fs ex:List Addr)(H H':Hp)(h h':Heap):Prop where
 keep:∀b o,h.get? b=some o->H b=none->b∉fs->b∉ex->h'.get? b=some o
 slot:∀b o,h.get? b=some o->H b=none->b∈fs->b∉ex->∃sl,h'.get? b=some {o with slots:=sl}
 free:∀b o,h.get? b=some o->H b=none->b∉ex->H' b=none
 there:∀b o,h.get? b=some o->b∉ex->∃o',h'.get? b=some o'
 tups:∀b xs,H b=some (.tup xs)->H' b=some (.tup xs)
 frzs:∀b o u,H b=some (.frz o u)->H' b=some (.frz o u)
 tbls:∀b ps,H b=some (.tbl ps)->∃more,H' b=some (.tbl (ps++more))
section
variable {fs Ox ex ex':Ys}{H H1 H2:Hp}{h h1 h2 h':YD}{a x e:YH}{o:HO}
theorem Un.any(u:Un fs ex H H1 h h1)(q:h.get? b=some ob)(n:H b=none)(hx:b∉ex):∃sl,h1.get? b=some {ob with slots:=sl}:=by
 by_cases hb:b∈fs
 .exact u.slot b ob q n hb hx
 .exact⟨ob.slots,u.keep b ob q n hb hx⟩
theorem Un.trans(a:Un fs ex H H1 h h1)(b:Un fs ex H1 H2 h1 h2):Un fs ex H H2 h h2 where
 keep:=λc ob q n hc hx=>b.keep c ob (a.keep c ob q n hc hx) (a.free c ob q n hx) hc hx
 slot:=λc ob q n hc hx=>by
  obtain⟨sl,e1⟩:=a.slot c ob q n hc hx;obtain⟨Oy,e2⟩:=b.slot c _ e1 (a.free c ob q n hx) hc hx;exact⟨Oy,e2⟩
 free:=λc ob q n hx=>by
  obtain⟨o',e1⟩:=a.there c ob q hx;exact b.free c o' e1 (a.free c ob q n hx) hx
 there:=λc ob q hx=>by
  obtain⟨o',e1⟩:=a.there c ob q hx;exact b.there c o' e1 hx
 tups:=λc xs q=>b.tups c xs (a.tups c xs q)
 frzs:=λc ob xs q=>b.frzs c ob xs (a.frzs c ob xs q)
 tbls:=λc ps q=>by
  obtain⟨m1,e1⟩:=a.tbls c ps q;obtain⟨m2,e2⟩:=b.tbls c _ e1;exact⟨m1++m2,by rw[e2,Array.append_assoc]⟩
theorem Un.kept(k:∀b u,h.get? b=some u->h'.get? b=some u):Un fs ex H H h h':=
 ⟨λb ob q _ _ _=>k b ob q,λb ob q _ _ _=>⟨ob.slots,k b ob q⟩,λ_ _ _ n _=>n,λb ob q _=>⟨ob,k b ob q⟩,λ_ _ q=>q,λ_ _ _ q=>q,λ_ ps q=>⟨#[],by rw[q];simp⟩⟩
theorem Un.refl:Un fs ex H H h h:=Un.kept λ_ _ q=>q
theorem Un.laid(k:∀b u,h.get? b=some u->h'.get? b=some u)(hp:h.objs.size<=a)(hn:H a=none):Un fs ex H (upd H a o) h h' where
 keep:=λb u q _ _ _=>k b u q
 slot:=λb u q _ _ _=>⟨u.slots,k b u q⟩
 free:=λb u q n _=>by rw[ax (A_ (q_ (n_ q) hp))];exact n
 there:=λb u q _=>⟨u,k b u q⟩
 tups:=λb xs q=>by rw[ax (cX q hn)];exact q
 frzs:=λb u xs q=>by rw[ax (cX q hn)];exact q
 tbls:=λb ps q=>⟨#[],by rw[ax (cX q hn),q];simp⟩
theorem Un.write(mu:Po (H x))(he:e=x\/H e=some (.own x))(k:∀b u,b≠e->h.get? b=some u->h'.get? b=some u)(Ml:∃u,h'.get? e=some u):Un fs ex H (upd H x o) h h':=by
 have hx:∀b,H b=none->b≠x:=λb n z=>by subst z;rw[n]at mu;exact mu
 have hb:∀b,H b=none->b≠e:=λb n z=>by
  subst z;rcases he with r | r
  .exact hx b n r
  .rw[n]at r;cases r
 have hm:∀b u,H b=some u->¬Po (some u)->b≠x:=λb u q nm z=>by subst z;rw[q]at mu;exact nm mu
 refine⟨λb u q n _ _=>k b u (hb b n) q,λb u q n _ _=>⟨u.slots,k b u (hb b n) q⟩,λb u q n _=>by rw[ax (hx b n)];exact n,λb u q _=>?_,
  λb xs q=>by rw[ax (hm b _ q λz=>z)];exact q,λb u xs q=>by rw[ax (hm b _ q λz=>z)];exact q,λb ps q=>⟨#[],by rw[ax (hm b _ q λz=>z),q];simp⟩⟩
 by_cases F5:b=e
 .subst F5;exact Ml
 .exact⟨u,k b u F5 q⟩
end
def Pw(h:YD)(H:Hp):Ys:=(List.range h.objs.size).filter λa=>(H a).isSome
def tm(h:YD)(H:Hp):YD:=PySem.W.hideAll h (Pw h H)
theorem BE(h:YD)(H:Hp):(tm h H).objs.size=h.objs.size:=PySem.W.hideAll_size _ _
theorem ET(e:h.get? b=some o)(n:H b=none):(tm h H).get? b=some o:=
 PySem.W.hideAll_get _ e λhm=>by
  have q:(H b).isSome=true:=(UN.mp hm).2;rw[n]at q;simp at q
theorem HC(e:(tm h H).get? b=some o):h.get? b=some o/\H b=none:=by
 have e':h.get? b=some o:=PySem.W.of_hideAll (Pw h H) e;refine⟨e',?_⟩;cases q:H b with
 | none=>rfl
 | some x=>
  have hm:b∈Pw h H:=UN.mpr ⟨UV.mpr (n_ e'),by simp[q]⟩;have z:(tm h H).get? b=none:=PySem.W.hideAll_none (Pw h H) hm;rw[z]at e;cases e
def Hi(g h:YD)(L:YH):Yi:=(List.range h.objs.size).filterMap λa=>if a=L\/(g.get? a).isSome=true then none else(h.get? a).map λo=>(a,o)
def rest(g h:YD)(L d:YH):Yi:=(Hi g h L).filter λp=>decide (p.1≠d)
structure Mod(K:PySem.W.Frag)(mg:Str->Option Value)(base:Heap):Prop where
 kin:K.In base
 glob:base.Ns mainGlobals mg
 blt:∃mb,base.Ns builtinsNs mb/\∀x:Str,x≠"__name__"->mb x=bootBuiltins x
 nolimit:base.NoLimit
structure Cx where
 prog:Program
 w:World
 K:PySem.W.Frag
 mg:Str->Option Value
 base:Heap
 A:Around
 N:List Str
 s₀:Shared
 H₀:Hp
 env:Env
 outer:List Env
 stack:List Env
 ex:List Addr
 fn:Str->Bool
 calm:Bool
 pn:List (Addr×Obj)
 xe:Value->Shared->Prop
def mP(l:List Env):Ys:=l.filterMap (·.frame)
abbrev Cx.fs(X:Cx):Ys:=mP X.outer
def rm(sc:YG)(x:Str):Prop:=sc.names.lookup x=some .local\/sc.names.lookup x=some .cell\/sc.names.lookup x=some .free
def Loc(sc:YG)(x:Str):Prop:=sc.names.lookup x=some .local\/sc.names.lookup x=some .cell
def Look(env:Env)(h:YD)(m:Yk)(x:Str)(u:Yz):Prop:=
 (env.kindOf x=some .local/\m x=some u)\/((env.kindOf x=some .cell\/env.kindOf x=some .free)/\∃c,env.cells.lookup x=some c/\h.IsCell c (some u))
structure Cx.Ok(X:Cx):Prop where
 mod:Mod X.K X.mg X.base
 kind:X.env.scope.kind=.function
 glob:X.env.globals=mainGlobals
 blt:X.env.builtins=builtinsNs
 above:X.s₀.sz<=X.env.locals
 inj:∀x y c,X.env.cells.lookup x=some c->X.env.cells.lookup y=some c->x=y
 has:∀x,(X.env.kindOf x=some .cell\/X.env.kindOf x=some .free)->∃c,X.env.cells.lookup x=some c
 cab:∀x c,X.fn x=true->X.env.cells.lookup x=some c->X.s₀.sz<=c
 hd:X.calm=true->X.A.handled=none
 frames:X.A.frames=some X.stack
 stk:X.stack=X.outer\/(X.stack=X.env::X.outer/\X.env.frame=some X.env.locals)
 exf:∀b∈X.ex,b≠X.env.locals/\∀x c,X.env.cells.lookup x=some c->c≠b
 bs:∀b o,X.base.get? b=some o->X.s₀.heap.get? b=some o/\X.H₀ b=none
 bsz:X.base.objs.size<=X.s₀.sz
 noex:∀b o,X.base.get? b=some o->b∉X.ex
 exfs:∀b∈X.ex,b∉X.fs
 funs:X.s₀.heap.FunFrames X.base X.outer
 frf:∀b∈X.fs,X.H₀ b=none
structure Inv(X:Cx)(pins:List (Addr×Obj))(σ:List (Option V))(H:Hp)(s:Shared):Prop where
 ok:X.Ok
 os:s.os=X.s₀.os
 bare:AllBare s.gens
 base:Un X.fs X.ex X.H₀ H X.s₀.heap s.heap
 loc:∃m,s.heap.Ns X.env.locals m/\∀(i:Nat)(x:Str)(v:V),X.N[i]?=some x->σ[i]?=some (some v)->rm X.env.scope x->∃u,RelV v u/\Look X.env s.heap m x u
 cell:∀x c,X.env.cells.lookup x=some c->∃v,s.heap.IsCell c v
 free:H X.env.locals=none
 freeC:∀x c,X.env.cells.lookup x=some c->H c=none
 pin:∀p∈X.pn++pins,s.heap.get? p.1=some p.2/\H p.1=none/\p.1≠X.env.locals/\p.1∉X.fs/\∀v,p.2.data≠.cell v
 hok:mI X.prog X.w H s.heap
 len:σ.length=X.N.length
section
variable {X:Cx}{pins:Yi}{σ:List (Option V)}{H H':Hp}{s:YA}{h':YD}
theorem Cx.Ok.nofr(ok:X.Ok)(e:X.base.get? b=some o):b∉X.fs:=λhb=>by
 have:=(ok.funs.mem hb).1;rw[e]at this;cases this
theorem Inv.bs(I:@5):∀b o,X.base.get? b=some o->s.heap.get? b=some o/\H b=none:=λb o e=>
 ⟨I.base.keep b o (I.ok.bs b o e).1 (I.ok.bs b o e).2 (I.ok.nofr e) (I.ok.noex b o e),I.base.free b o (I.ok.bs b o e).1 (I.ok.bs b o e).2 (I.ok.noex b o e)⟩
theorem Inv.bk(I:@5):∀b o,X.base.get? b=some o->s.heap.get? b=some o:=λb o e=>(I.bs b o e).1
theorem Inv.mod(I:@5):Mod X.K X.mg X.base:=I.ok.mod
theorem Inv.kIn(I:@5):X.K.In s.heap:=I.ok.mod.kin.keeps I.bk
theorem Inv.fr(I:@5):∃m,Fr X.base X.env.locals s.heap m:=
 let ⟨m,hn,_⟩:=I.loc
 ⟨m,hn,I.bk,B_ I.ok.bsz I.ok.above⟩
theorem Inv.lt(I:@5):X.env.locals<s.sz:=let ⟨_,hn,_⟩:=I.loc;hn.lt
theorem Inv.sz(I:@5):X.s₀.sz<=s.sz:=B_ I.ok.above (Xw I.lt)
theorem Inv.nofs(I:@5)(h:s.sz<=a):a∉X.fs:=λhb=>by
 obtain⟨_,o,ho,_⟩:=I.ok.funs.mem hb;exact absurd (q_ (n_ ho) (B_ I.sz h)) (VU _)
theorem Inv.cne(I:@5):∀x c,X.env.cells.lookup x=some c->c≠X.env.locals:=λx c e z=>by
 obtain⟨v,o,ho,hd⟩:=I.cell x c e;obtain⟨m,⟨o',es,ep,wV,Oz,_⟩,_⟩:=I.loc;rw[z,wV]at ho;cases ho;rw[Oz]at hd;cases hd
theorem Inv.funs(I:@5):s.heap.FunFrames X.base X.outer:=by
 have all:∀(l:List Env),(∀b∈mP l,b∈X.fs)->X.s₀.heap.FunFrames X.base l->s.heap.FunFrames X.base l:=by
  intro l
  induction l with
  | nil=>intro _ _;trivial
  | cons env r ih=>
   intro hs hl;obtain⟨hk,⟨L,o,hf,hn,ho,hd⟩,hr⟩:=hl;have hL:L∈X.fs:=hs L (by unfold mP;rw[WC,hf];exact g_);obtain⟨sl,e⟩:=I.base.slot L o ho (I.ok.frf L hL) hL λz=>I.ok.exfs L z hL;exact⟨hk,⟨L,_,hf,hn,e,hd⟩,ih (λb hb=>hs b (by unfold mP;rw[WC,hf];exact f_ _ hb)) hr⟩
 exact all X.outer (λ_ hb=>hb) I.ok.funs
theorem Inv.stack(I:@5):s.heap.FunFrames X.base X.stack:=by
 rcases I.ok.stk with e | ⟨e,hf⟩
 .rw[e];exact I.funs
 .rw[e];obtain⟨m,hn,_⟩:=I.loc;refine .cons (by rw[I.ok.kind];decide) hf hn ?_ I.funs;exact U4 (B_ I.ok.bsz I.ok.above)
theorem Inv.stkSub(I:@5):∀b∈mP X.stack,b∈X.env.locals::X.fs:=λb hb=>by
 rcases I.ok.stk with e | ⟨e,hf⟩
 .rw[e]at hb;exact f_ _ hb
 .rw[e]at hb;unfold mP at hb;rw[WC,hf]at hb;exact hb
theorem Inv.stkFree(I:@5):∀b∈mP X.stack,H b=none:=λb hb=>by
 rcases p_.mp (I.stkSub b hb)with e | hb
 .rw[e];exact I.free
 .obtain⟨_,o,ho,_⟩:=I.ok.funs.mem hb;exact I.base.free b o ho (I.ok.frf b hb) λz=>I.ok.exfs b z hb
theorem Inv.step{g':Array GenState}{t':Nat}{d':Drawn}{ch:Ys}(I:@5)
  (hch:∀b∈ch,(b∈X.ex\/X.s₀.sz<=b)/\b≠X.env.locals/\(∀x c,X.env.cells.lookup x=some c->c≠b)/\∀p∈X.pn++pins,p.1≠b)
  (keep:∀b o,b≠X.env.locals->b∉X.fs->b∉ch->s.heap.get? b=some o->H b=none->h'.get? b=some o)
  (slot:∀b o,b≠X.env.locals->b∈X.fs->b∉ch->s.heap.get? b=some o->H b=none->∃sl,h'.get? b=some {o with slots:=sl}) (free:∀b o,b∉ch->s.heap.get? b=some o->H b=none->H' b=none)
  (there:∀b o,b∉ch->s.heap.get? b=some o->∃o',h'.get? b=some o')
  (tups:∀b xs,H b=some (.tup xs)->H' b=some (.tup xs)) (frzs:∀b o u,H b=some (.frz o u)->H' b=some (.frz o u)) (tbls:∀b ps,H b=some (.tbl ps)->∃more,H' b=some (.tbl (ps++more)))
  (ns:∀m,s.heap.Ns X.env.locals m->h'.Ns X.env.locals m) (hok:mI X.prog X.w H' h') (hg:AllBare g') :
  Inv X pins σ H' {s with heap:=h',gens:=g',drawn:=d',toks:=t'}:=by
 have S0:∀b o,X.s₀.heap.get? b=some o->b≠X.env.locals:=λb o e=>A_ (q_ (n_ e) I.ok.above);have PK:∀b o,X.s₀.heap.get? b=some o->b∉X.ex->b∉ch:=λb o e hx hb=>by
  rcases(hch b hb).1 with z | z
  .exact hx z
  .exact absurd (q_ (n_ e) z) (VU _)
 have cellK:∀x c,X.env.cells.lookup x=some c->∀v,s.heap.IsCell c v->h'.IsCell c v:=λx c e v az=>by
  obtain⟨o,ho,hd⟩:=az;have OA:c∉ch:=λz=>(hch c z).2.2.1 x c e rfl
  by_cases hc:c∈X.fs
  .obtain⟨sl,q⟩:=slot c o (I.cne x c e) hc OA ho (I.freeC x c e);exact⟨_,q,hd⟩
  .exact⟨o,keep c o (I.cne x c e) hc OA ho (I.freeC x c e),hd⟩
 refine⟨I.ok,I.os,hg,⟨λb o e n hb hx=>?_,λb o e n hb hx=>?_,λb o e n hx=>?_,λb o e hx=>?_,λb xs e=>tups b xs (I.base.tups b xs e),λb o xs e=>frzs b o xs (I.base.frzs b o xs e),λb ps e=>?_⟩,?_,λx c e=>?_,?_,λx c e=>?_,λp hp=>?_,hok,I.len⟩
 .exact keep b o (S0 b o e) hb (PK b o e hx) (I.base.keep b o e n hb hx) (I.base.free b o e n hx)
 .obtain⟨sl,e1⟩:=I.base.slot b o e n hb hx;obtain⟨Oy,e2⟩:=slot b _ (S0 b o e) hb (PK b o e hx) e1 (I.base.free b o e n hx);exact⟨Oy,e2⟩
 .obtain⟨o',e1⟩:=I.base.there b o e hx;exact free b o' (PK b o e hx) e1 (I.base.free b o e n hx)
 .obtain⟨o',e1⟩:=I.base.there b o e hx;exact there b o' (PK b o e hx) e1
 .obtain⟨m1,e1⟩:=I.base.tbls b ps e;obtain⟨m2,e2⟩:=tbls b _ e1;exact⟨m1++m2,by rw[e2,Array.append_assoc]⟩
 .obtain⟨m,hn,hl⟩:=I.loc;refine⟨m,ns m hn,λi x v e1 e2 e3=>?_⟩;obtain⟨u,r,l⟩:=hl i x v e1 e2 e3;refine⟨u,r,?_⟩;rcases l with l | ⟨k,c,e,z⟩
  .exact .inl l
  .exact .inr ⟨k,c,e,cellK x c e _ z⟩
 .obtain⟨v,z⟩:=I.cell x c e;exact⟨v,cellK x c e v z⟩
 .obtain⟨m,⟨o,_,_,ho,_⟩,_⟩:=I.loc;exact free _ o (λz=>(hch _ z).2.1 rfl) ho I.free
 .obtain⟨v,o,ho,hd⟩:=I.cell x c e;exact free c o (λz=>(hch c z).2.2.1 x c e rfl) ho (I.freeC x c e)
 .obtain⟨e,n,ne,nf,d⟩:=I.pin p hp;have OA:p.1∉ch:=λz=>(hch p.1 z).2.2.2 p hp rfl;exact⟨keep p.1 p.2 ne nf OA e n,free p.1 p.2 OA e n,ne,nf,d⟩
theorem Inv.un{t':Nat}(I:@5)(u:Un X.fs [] H H' s.heap h')(hok:mI X.prog X.w H' h'):Inv X pins σ H' {s with heap:=h',toks:=t'}:=by
 obtain⟨m,⟨o,es,ep,ho,r⟩,_⟩:=id I.loc;obtain⟨sl,hL⟩:=u.any ho I.free @8;exact I.step (g':=s.gens) (d':=s.drawn) (ch:=[]) (λ_ z=>nomatch z) (λb o _ hb _ e n=>u.keep b o e n hb @8) (λb o _ hb _ e n=>u.slot b o e n hb @8) (λb o _ e n=>u.free b o e n @8) (λb o _ e=>u.there b o e @8) u.tups u.frzs u.tbls (λm' hm=>by
  obtain⟨o',es',Rb,wV,r'⟩:=hm;rw[ho]at wV;cases wV;exact⟨_,es',Rb,hL,r'⟩) hok I.bare
theorem Inv.call{g':Array GenState}{t':Nat}{d':Drawn}{ch:Ys}(I:@5)(u:Un (mP X.stack) ch H H' s.heap h')(hok:mI X.prog X.w H' h')(hg:AllBare g')
  (hch:∀b∈ch,(b∈X.ex\/X.s₀.sz<=b)/\b≠X.env.locals/\(∀x c,X.env.cells.lookup x=some c->c≠b)/\∀p∈X.pn++pins,p.1≠b) :
  Inv X pins σ H' {s with heap:=h',gens:=g',drawn:=d',toks:=t'}:=by
 obtain⟨m,⟨o,es,ep,ho,r⟩,_⟩:=id I.loc;obtain⟨sl,hL⟩:=u.any ho I.free λz=>(hch _ z).2.1 rfl;exact I.step (ch:=ch) hch (λb o hL hb hc e n=>u.keep b o e n (λz=>(p_.mp (I.stkSub b z)).elim hL hb) hc) (λb o _ _ hc e n=>u.any e n hc) (λb o hc e n=>u.free b o e n hc) (λb o hc e=>u.there b o e hc) u.tups u.frzs u.tbls (λm' hm=>by
  obtain⟨o',es',Rb,wV,r'⟩:=hm;rw[ho]at wV;cases wV;exact⟨_,es',Rb,hL,r'⟩) hok hg
theorem Inv.turned{t':Nat}{it:YH}(I:@5)(k:∀b o,b≠it->s.heap.get? b=some o->h'.get? b=some o)(hn:H it=none)(hL:it≠X.env.locals)
  (h1:it∈X.ex\/X.s₀.sz<=it) (h2:∀x c,X.env.cells.lookup x=some c->c≠it) (h3:∀p∈X.pn++pins,p.1≠it):Inv X pins σ H {s with heap:=h',toks:=t'}:=by
 have OB:∀b u,H b=some u->b≠it:=λb u e z=>by rw[z,hn]at e;cases e
 refine I.step (g':=s.gens) (d':=s.drawn) (ch:=[it]) (λb hb=>?_) (λb o _ _ hc e _=>k b o (λz=>hc (by simp[z])) e) (λb o _ _ hc e _=>⟨o.slots,k b o (λz=>hc (by simp[z])) e⟩) (λ_ _ _ _ n=>n)
  (λb o hc e=>⟨o,k b o (λz=>hc (by simp[z])) e⟩) (λ_ _ e=>e) (λ_ _ _ e=>e) (λb ps e=>⟨#[],by rw[e];simp⟩) (λm hm=>?_) (λb u e=>?_) I.bare
 .have e:b=it:=by simpa using hb
  subst e;exact⟨h1,hL,h2,h3⟩
 .obtain⟨o,es,ep,ho,r⟩:=hm;exact⟨o,es,ep,k _ o (US hL) ho,r⟩
 .refine(I.hok b u e).stay (λc v hc q=>k c v ?_ q) (λ_ q=>q) λ_ _ q=>q;rcases hc with z | z
  .rw[z];exact OB b u e
  .exact OB c _ z
theorem Inv.tok(I:@5)(t:Nat):Inv X pins σ H {s with toks:=t}:=I.un (h':=s.heap) (t':=t) Un.refl I.hok
theorem Inv.kept(I:@5)(k:∀b u,s.heap.get? b=some u->h'.get? b=some u):Inv X pins σ H {s with heap:=h',toks:=t'}:=I.un (Un.kept k) (I.hok.kept k)
theorem Inv.laid(I:@5)(k:∀b u,s.heap.get? b=some u->h'.get? b=some u)(hp:s.sz<=a)(new:bE X.prog X.w (upd H a o) h' a o) :
  Inv X pins σ (upd H a o) {s with heap:=h',toks:=t'}:=I.un (Un.laid k hp (I.hok.fresh hp)) (I.hok.laid k hp new)
theorem Inv.write(I:@5)(mu:Po (H x))(he:e=x\/H e=some (.own x))(k:∀b u,b≠e->s.heap.get? b=some u->h'.get? b=some u)(Ml:∃u,h'.get? e=some u)
  (new:bE X.prog X.w (upd H x o) h' x o):Inv X pins σ (upd H x o) {s with heap:=h',toks:=t'}:=I.un (Un.write mu he k Ml) (I.hok.write mu he k Ml new)
theorem Inv.pins_of(I:@5)(h:∀p∈pins',s.heap.get? p.1=some p.2/\H p.1=none/\p.1≠X.env.locals/\p.1∉X.fs/\∀v,p.2.data≠.cell v):Inv X pins' σ H s:=
 ⟨I.ok,I.os,I.bare,I.base,I.loc,I.cell,I.free,I.freeC,λp hp=>(UF.mp hp).elim (λz=>I.pin p (List.mem_append_left _ z)) (h p),I.hok,I.len⟩
theorem vL{N:Yr}(hN:N.Nodup){i j:Nat}{x:Str}(a:N[i]?=some x)(b:N[j]?=some x):i=j:=by
 obtain⟨h1,e1⟩:=k_.mp a;obtain⟨h2,e2⟩:=k_.mp b;exact(List.getElem_inj hN).mp (e1.trans e2.symm)
theorem qE{M:Model}{A:YC}{E:Yh}{i:Nat}{x:Str}{v:V}{u:Yz}{Q:Unit->YA->Prop}(I:@5)(hN:X.N.Nodup)(hi:X.N[i]?=some x)(hx:Loc X.env.scope x)(r:RelV v u)
  (h:∀s',Inv X pins (σ.set i (some v)) H s'->(∃a,Heap.SameBut a s.heap s'.heap/\(a=X.env.locals\/X.env.cells.lookup x=some a))->Q () s') (hf:@11:=by first | exact .inl rfl | exact .inr rfl | assumption):wpAny M A (storeName X.env x u) Q E s:=by
 obtain⟨m,hn,hl⟩:=id I.loc;have yH:(X.env.scope.kind==.class||(X.env.scope.kind==.module&&X.env.locals != X.env.globals))=false:=by rw[I.ok.kind];rfl
 have LL:i < σ.length:=by rw[I.len];exact(k_.mp hi).1
 have cne:=I.cne;have tracked:∀{a:YH}{h':YD},(∃o,s.heap.get? a=some o/\H a=none)->Heap.SameBut a s.heap h'->mI X.prog X.w H h':=λ{a h'} ha hs b ob e=>by
  obtain⟨_,_,Jx⟩:=ha;refine(I.hok b ob e).stay (λc w' hc q=>(hs.2 c ?_).trans q) (λ_ q=>q) λ_ _ q=>q;rintro rfl;rcases hc with rfl | hc
  .rw[Jx]at e;cases e
  .rw[Jx]at hc;cases hc
 rcases hx with hk | hk
 .refine wpAny_storeName_local hk hn (λh' LM hs=>?_) yH;obtain⟨oL,_,_,hoL,_⟩:=id hn;refine h _ ⟨I.ok,I.os,I.bare,⟨λb o e n hb hx=>?_,λb o e n hb hx=>?_,I.base.free,λb o e hx=>?_,I.base.tups,I.base.frzs,I.base.tbls⟩,⟨_,LM,λj y v' e1 e2 e3=>?_⟩,λy c e=>?_,I.free,I.freeC,λp hp=>?_,tracked ⟨oL,hoL,I.free⟩ hs,by simpa using I.len⟩ ⟨_,hs,.inl rfl⟩
  .exact(hs.2 b (A_ (q_ (n_ e) I.ok.above))).trans (I.base.keep b o e n hb hx)
  .obtain⟨sl,e1⟩:=I.base.slot b o e n hb hx;exact⟨sl,(hs.2 b (A_ (q_ (n_ e) I.ok.above))).trans e1⟩
  .obtain⟨o',e1⟩:=I.base.there b o e hx;exact⟨o',(hs.2 b (A_ (q_ (n_ e) I.ok.above))).trans e1⟩
  .by_cases hj:j=i
   .subst hj;rw[hi]at e1;cases e1;rw[r_ LL]at e2;cases e2;exact⟨u,r,.inl ⟨hk,by simp⟩⟩
   .rw[j_ (US hj)]at e2;obtain⟨u',r',q⟩:=hl j y v' e1 e2 e3;refine⟨u',r',?_⟩;rcases q with ⟨k,e⟩ | ⟨k,c,e,z⟩
    .refine .inl ⟨k,?_⟩;have:y≠x:=λe=>hj (vL hN e1 (e▸hi));simp[this,e]
    .exact .inr ⟨k,c,e,z.sameBut hs (cne y c e)⟩
  .obtain⟨w',z⟩:=I.cell y c e;exact⟨w',z.sameBut hs (cne y c e)⟩
  .obtain⟨e,n,ne,nf,d⟩:=I.pin p hp;exact⟨(hs.2 p.1 ne).trans e,n,ne,nf,d⟩
 .have Rc:X.fn x=true:=by
   rcases hf with z | z
   .exact z
   .rw[z]at hk;cases hk
  obtain⟨c,hc⟩:=I.ok.has x (.inl hk);obtain⟨w',z⟩:=I.cell x c hc;refine wpAny_storeName_cell I.ok.kind hk hc z (λh' hc' hs=>?_);obtain⟨oc,S3,hocd⟩:=id z;refine h {s with heap:=h'} ⟨I.ok,I.os,I.bare,⟨λb o e n hb hx=>?_,λb o e n hb hx=>?_,I.base.free,λb o e hx=>?_,I.base.tups,I.base.frzs,I.base.tbls⟩,⟨m,hn.sameBut hs (US (cne x c hc)),λj y v' e1 e2 e3=>?_⟩,λy c' e=>?_,I.free,I.freeC,λp hp=>?_,tracked ⟨oc,S3,I.freeC x c hc⟩ hs,by simpa using I.len⟩ ⟨c,hs,.inr hc⟩
  .exact(hs.2 b (A_ (q_ (n_ e) (I.ok.cab x c Rc hc)))).trans (I.base.keep b o e n hb hx)
  .obtain⟨sl,e1⟩:=I.base.slot b o e n hb hx;exact⟨sl,(hs.2 b (A_ (q_ (n_ e) (I.ok.cab x c Rc hc)))).trans e1⟩
  .obtain⟨o',e1⟩:=I.base.there b o e hx;exact⟨o',(hs.2 b (A_ (q_ (n_ e) (I.ok.cab x c Rc hc)))).trans e1⟩
  .by_cases hj:j=i
   .subst hj;rw[hi]at e1;cases e1;rw[r_ LL]at e2;cases e2;exact⟨u,r,.inr ⟨.inl hk,c,hc,hc'⟩⟩
   .rw[j_ (US hj)]at e2;obtain⟨u',r',q⟩:=hl j y v' e1 e2 e3;refine⟨u',r',?_⟩;rcases q with q | ⟨k,c',e,z'⟩
    .exact .inl q
    .refine .inr ⟨k,c',e,z'.sameBut hs ?_⟩;rintro rfl;exact hj (vL hN e1 (I.ok.inj _ _ _ e hc▸hi))
  .by_cases F6:c'=c
   .subst F6;exact⟨_,hc'⟩
   .obtain⟨w2,z2⟩:=I.cell y c' e;exact⟨w2,z2.sameBut hs F6⟩
  .obtain⟨e,n,ne,nf,d⟩:=I.pin p hp;refine⟨(hs.2 p.1 ?_).trans e,n,ne,nf,d⟩;intro q;rw[q,S3]at e;have q':oc=p.2:=Option.some.inj e;exact d w' (by rw[<- q'];exact hocd)
theorem iE(I:@5)(hN:X.N.Nodup)(hi:X.N[i]?=some x)(hx:Loc X.env.scope x)(r:RelV v u)
  (h:∀s',Inv X pins (σ.set i (some v)) H s'->Q () s') (hf:@11:=by first | exact .inl rfl | exact .inr rfl | assumption):wpAny M A (storeName X.env x u) Q E s:=
 qE I hN hi hx r (λs' I' _=>h s' I') hf
theorem Inv.call'(I:@5)(ho:s'.os=s.os)(u:Un (mP X.stack) ch H H' s.heap s'.heap)(hok:mI X.prog X.w H' s'.heap)(hg:AllBare s'.gens)
  (hch:∀b∈ch,(b∈X.ex\/X.s₀.sz<=b)/\b≠X.env.locals/\(∀x c,X.env.cells.lookup x=some c->c≠b)/\∀p∈X.pn++pins,p.1≠b):Inv X pins σ H' s':=by
 obtain⟨h',g',d',t',o'⟩:=s';have e:o'=s.os:=ho;subst e;exact I.call (g':=g') (t':=t') (d':=d') u hok hg hch
end
abbrev XK:=Yz->Yq->Hp->Prop
abbrev St:=List (Option V)
abbrev VK:=V->Hp->Prop
abbrev TE:=St->Hp->VK->Prop
abbrev TT:=St->Hp->(Bool->Hp->Prop)->Prop
abbrev TA:=St->Hp->(YR->Hp->Prop)->Prop
structure Ends where
 nx:St->Hp->Prop
 rt:VK
 bk:St->Hp->Prop:=λ_ _=>False
 ct:St->Hp->Prop:=λ_ _=>False
abbrev TS:=Ends->St->Hp->Prop
def EP(X:Cx)(pins:Yi)(σ:St)(Q:VK)(u:Yz)(s':YA):Prop:=∃v H',Inv X pins σ H' s'/\RelV v u/\Q v H'
def TP(X:Cx)(pins:Yi)(σ:St)(Q:Bool->Hp->Prop)(b:Bool)(s':YA):Prop:=∃H',Inv X pins σ H' s'/\Q b H'
def AP(X:Cx)(pins:Yi)(σ:St)(Q:YR->Hp->Prop)(us:Yo)(s':YA):Prop:=∃vs H',Inv X pins σ H' s'/\aB vs us/\Q vs H'
def SP(X:Cx)(pins:Yi)(D:Ends)(f:Flow)(s':YA):Prop:=
 match f with
 | .next=>∃σ' H',Inv X pins σ' H' s'/\D.nx σ' H'
 | .brk=>∃σ' H',Inv X pins σ' H' s'/\D.bk σ' H'
 | .cont=>∃σ' H',Inv X pins σ' H' s'/\D.ct σ' H'
 | .ret u=>∃v σ' H',Inv X pins σ' H' s'/\RelV v u/\D.rt v H'
def PE(X:Cx)(e:YI)(t:TE):Prop:=
 ∀(pins:Yi)(s:YA)(σ:St)(H:Hp)(Q:VK),Inv X pins σ H s->t σ H Q->wpAny @3 X.A (eval e X.env) (EP X pins σ Q) X.xe s
def PT(X:Cx)(e:YI)(t:TT):Prop:=
 ∀(pins:Yi)(s:YA)(σ:St)(H:Hp)(Q:Bool->Hp->Prop),Inv X pins σ H s->t σ H Q->wpAny @3 X.A (isTrue e X.env (eval e X.env)) (TP X pins σ Q) X.xe s
def PW(X:Cx)(e:YI)(t:TT):Prop:=
 ∀(whole:Sem Yz)(pins:Yi)(s:YA)(σ:St)(H:Hp)(Q:Bool->Hp->Prop),Inv X pins σ H s->t σ H Q->wpAny @3 X.A (isTrue e X.env whole) (TP X pins σ Q) X.xe s
theorem PW.pt(h:PW X e t):PT X e t:=h _
def PA(X:Cx)(es:Yt)(t:TA):Prop:=
 ∀(pos:Pos)(pins:Yi)(s:YA)(σ:St)(H:Hp)(Q:YR->Hp->Prop),Inv X pins σ H s->t σ H Q->wpAny @3 X.A (spliced (backTo pos (starEach es X.env))) (AP X pins σ Q) X.xe s
def PS(X:Cx)(st:YJ)(t:TS):Prop:=
 ∀(pins:Yi)(s:YA)(σ:St)(H:Hp)(D:Ends),Inv X pins σ H s->t D σ H->wpAny @3 X.A (exec st X.env) (SP X pins D) X.xe s
def PSs(X:Cx)(st:Yu)(t:TS):Prop:=
 ∀(pins:Yi)(s:YA)(σ:St)(H:Hp)(D:Ends),Inv X pins σ H s->t D σ H->wpAny @3 X.A (execs st X.env) (SP X pins D) X.xe s
theorem bB(h:wpAny M A t Q E s)(hQ:∀a s,Q a s->Q' a s):wpAny M A t Q' E s:=UO h hQ λ_ _ x=>x
section
variable {X:Cx}
def xo(i:Nat):TE:=λσ H Q=>∃v,σ[i]?=some (some v)/\Q v H
def tC(v:V):TE:=λ_ H Q=>Q v H
theorem bK(hN:X.N[i]?=some x)(hv:rm X.env.scope x)(hd:@9:=by decide)(fX:(x==("__classdict__":Str))=false:=by decide):PE X (.Name x pos) (xo i):=by
 intro pins s σ H Q I h;obtain⟨v,e,h⟩:=h;obtain⟨m,hn,hl⟩:=I.loc;obtain⟨u,r,l⟩:=hl i x v hN e hv;have fin:EP X pins σ Q u s:=⟨v,H,I,r,h⟩;rcases l with ⟨hk,hm⟩ | ⟨hk,c,hc,pF⟩
 .exact wpAny_Name (wpAny_loadName_local I.ok.kind hk hn hm fin) hd
 .rcases hk with hk | hk
  .exact wpAny_Name (wpAny_loadName_cell I.ok.kind hk hc pF fin) hd
  .exact wpAny_Name (wpAny_loadName_free I.ok.kind hk hc pF fin fX) hd
theorem Ef{i j pos}:PE X (.Constant (.int i) j pos) (tC (.int i)):=λ_ _ _ H _ I h=>wpAny_Constant_int ⟨.int i,H,I.tok _,⟨_,rfl⟩,h⟩
theorem MQ{b j pos}:PE X (.Constant (.bool b) j pos) (tC (.bl b)):=λ_ _ _ H _ I h=>Constant_bool ⟨.bl b,H,I,rfl,h⟩
theorem LF{j pos}:PE X (.Constant .none j pos) (tC .non):=λ_ _ _ H _ I h=>Constant_none ⟨.non,H,I,rfl,h⟩
theorem Le{x j pos}:PE X (.Constant (.str x) j pos) (tC (.str x)):=λ_ _ _ H _ I h=>Calls.Constant_str ⟨.str x,H,I.tok _,⟨_,rfl⟩,h⟩
def Gl(X:Cx)(x:Str):Prop:=X.env.kindOf x=some .globalImplicit
theorem jb(I:@5)(hg:Gl X x)(hm:X.mg x=some u)(h:Q u s)
  (hd:@9:=by decide):wpAny @3 X.A (eval (.Name x pos) X.env) Q E s:=
 Calls.Name_function_global I.ok.kind hg (Calls.loadGlobal_global (by rw[I.ok.glob];exact I.mod.glob.keeps I.bk) hm h) hd
theorem gU(I:@5)(hg:Gl X x)(hm:X.mg x=none)(hv:bootBuiltins x=some u)(h:Q u s)
  (hn:x≠"__name__":=by decide) (hd:@9:=by decide):wpAny @3 X.A (eval (.Name x pos) X.env) Q E s:=by
 obtain⟨mb,h1,h2⟩:=I.mod.blt;exact Calls.Name_function_global I.ok.kind hg (Calls.loadGlobal_builtin (by rw[I.ok.glob];exact I.mod.glob.keeps I.bk) hm (by rw[I.ok.blt];exact h1.keeps I.bk) ((h2 x hn).trans hv) h) hd
theorem za(hg:Gl X x)(hm:X.mg x=some u)(r:RelV v u)(hd:@9:=by decide):PE X (.Name x pos) (tC v):=
 λ_ _ _ H _ I h=>jb I hg hm ⟨v,H,I,r,h⟩ hd
theorem Gs(hg:Gl X x)(hm:X.mg x=none)(hv:bootBuiltins x=some u)(r:RelV v u)(hn:x≠"__name__":=by decide)(hd:@9:=by decide):PE X (.Name x pos) (tC v):=
 λ_ _ _ H _ I h=>gU I hg hm hv ⟨v,H,I,r,h⟩ hn hd
variable {a b:YI}{ta tb:TE}{pos:Pos}
def tB(t:TE):TT:=λσ H Q=>t σ H λx H1=>∃c,x=.bl c/\Q c H1
theorem Kr(h:PE X e t)(he:∀whole,isTrue e X.env whole=(do let v <- whole;standAt e.pos;holding [v] (truthy v)):=by intro _;rfl):PT X e (tB t):=by
 intro pins s σ H Q I hw;refine isTrue_plain (bB (h pins s σ H _ I hw) λv s1 az=>?_) (he _);obtain⟨x,H1,I1,r1,q1⟩:=az;obtain⟨d,rfl,q⟩:=q1;cases r1;exact Vb ⟨H1,I1,q⟩
variable {tA tB':TT}{rest:Yt}
def Qe(t u:TT):TT:=λσ H Q=>t σ H λc H1=>if c=true then u σ H1 Q else Q false H1
def Uu(t u:TT):TT:=λσ H Q=>t σ H λc H1=>if c=true then Q true H1 else u σ H1 Q
def QE(t:TT):TT:=λσ H Q=>t σ H λc H1=>Q (!c) H1
theorem Ic(ha:PT X a tA):PW X (.BoolOp .And [a] pos) tA:=by
 intro wh pins s σ H Q I h;refine isTrue_and (bB (ha pins s σ H Q I h) λc s1 e=>?_);cases c with
 | true=>exact isTrue_and_nil e
 | false=>exact e
theorem J6(ha:PT X a tA):PW X (.BoolOp .Or [a] pos) tA:=by
 intro wh pins s σ H Q I h;refine isTrue_or (bB (ha pins s σ H Q I h) λc s1 e=>?_);cases c with
 | false=>exact isTrue_or_nil e
 | true=>exact e
theorem KS(ha:PT X a tA)(hb:PW X (.BoolOp .And (b::rest) pos) tB'):PW X (.BoolOp .And (a::b::rest) pos) (Qe tA tB'):=by
 intro wh pins s σ H Q I h;refine isTrue_and (bB (ha pins s σ H _ I h) λc s1 az=>?_);obtain⟨H1,I1,q1⟩:=az;cases c with
 | true=>exact hb wh pins s1 σ H1 Q I1 q1
 | false=>exact⟨H1,I1,q1⟩
theorem Nd(ha:PT X a tA)(hb:PW X (.BoolOp .Or (b::rest) pos) tB'):PW X (.BoolOp .Or (a::b::rest) pos) (Uu tA tB'):=by
 intro wh pins s σ H Q I h;refine isTrue_or (bB (ha pins s σ H _ I h) λc s1 az=>?_);obtain⟨H1,I1,q1⟩:=az;cases c with
 | true=>exact⟨H1,I1,q1⟩
 | false=>exact hb wh pins s1 σ H1 Q I1 q1
theorem JK(ha:PT X a tA):PT X (.UnaryOp .Not a pos) (QE tA):=by
 intro pins s σ H Q I h;exact isTrue_not (ha pins s σ H (λc H1=>Q (!c) H1) I h)
def NJ(ta tb:TE):TE:=λσ H Q=>ta σ H λx H1=>∃c,x=.bl c/\if c=true then tb σ H1 Q else Q (.bl false) H1
def Qi(ta tb:TE):TE:=λσ H Q=>ta σ H λx H1=>∃c,x=.bl c/\if c=true then Q (.bl true) H1 else tb σ H1 Q
def Mo(ta:TE):TE:=λσ H Q=>ta σ H λx H1=>∃c,x=.bl c/\Q (.bl (!c)) H1
theorem J1{op}(h:PE X a t):PE X (.BoolOp op [a] pos) t:=λpins s σ H Q I hw=>BoolOp_one (h pins s σ H Q I hw)
theorem KH(ha:PE X a ta)(hb:PE X (.BoolOp .And (b::rest) pos) tb):PE X (.BoolOp .And (a::b::rest) pos) (NJ ta tb):=by
 intro pins s σ H Q I h;refine BoolOp_and (bB (ha pins s σ H _ I h) λv s1 az=>?_);obtain⟨x,H1,I1,r1,q1⟩:=az;obtain⟨c,rfl,q1⟩:=q1;cases r1;refine Vb ?_;cases c with
 | true=>exact hb pins s1 σ H1 Q I1 q1
 | false=>exact⟨.bl false,H1,I1,rfl,q1⟩
theorem Mx(ha:PE X a ta)(hb:PE X (.BoolOp .Or (b::rest) pos) tb):PE X (.BoolOp .Or (a::b::rest) pos) (Qi ta tb):=by
 intro pins s σ H Q I h;refine BoolOp_or (bB (ha pins s σ H _ I h) λv s1 az=>?_);obtain⟨x,H1,I1,r1,q1⟩:=az;obtain⟨c,rfl,q1⟩:=q1;cases r1;refine Vb ?_;cases c with
 | false=>exact hb pins s1 σ H1 Q I1 q1
 | true=>exact⟨.bl true,H1,I1,rfl,q1⟩
theorem KG(ha:PE X a ta):PE X (.UnaryOp .Not a pos) (Mo ta):=by
 intro pins s σ H Q I h;refine UnaryOp_ (bB (ha pins s σ H _ I h) λv s1 az=>?_);obtain⟨x,H1,I1,r1,q1⟩:=az;obtain⟨c,rfl,q1⟩:=q1;cases r1;exact not_of (Vb ⟨.bl (!c),H1,I1,rfl,q1⟩)
def Ur(t:TT)(ta tb:TE):TE:=λσ H Q=>t σ H λc H1=>if c=true then ta σ H1 Q else tb σ H1 Q
theorem ve(hc:PT X c tA)(ha:PE X a ta)(hb:PE X b tb):PE X (.IfExp c a b pos) (Ur tA ta tb):=by
 intro pins s σ H Q I h;refine wpAny_IfExp (bB (hc pins s σ H _ I h) λd s1 az=>?_);obtain⟨H1,I1,q1⟩:=az;cases d with
 | true=>exact ha pins s1 σ H1 Q I1 q1
 | false=>exact hb pins s1 σ H1 Q I1 q1
end
def cY(K:Yy)(H:Hp)(a:YH)(xs:YR):Prop:=
 Rd H a (.lst xs)\/
  ∃(o:Obj)(br:Array Yz)(n:Nat),K.lookup a=some o/\o.cls=.type "list"/\o.dict=none/\o.data=.seq br n/\br.size<=sizeLine/\aB xs br.toList
def cR(K:Yy)(H:Hp)(a:YH)(xs:YR):Prop:=
 Rd H a (.tup xs)\/
  ∃(o:Obj)(br:Array Yz)(n:Nat),K.lookup a=some o/\o.cls=.type "tuple"/\o.data=.seq br n/\br.size<=sizeLine/\aB xs br.toList
def Qq:Yz->Option V
 | .none=>some .non
 | .bool b=>some (.bl b)
 | .int i _=>some (.int i)
 | .str x _=>some (.str x)
 | .bytes b _=>some (.byt b)
 | .float b _=>some (.flt b)
 | .ref a=>some (.ref a)
 | .type n=>some (.ty n)
 | _=>none
theorem RelV.abs(r:RelV x u):Qq u=some x:=by
 cases x with
 | non=>cases r;rfl
 | bl _=>cases r;rfl
 | int _=>obtain⟨t,rfl⟩:=r;rfl
 | str _=>obtain⟨t,rfl⟩:=r;rfl
 | byt _=>obtain⟨t,rfl⟩:=r;rfl
 | flt _=>obtain⟨t,rfl⟩:=r;rfl
 | ref _=>cases r;rfl
 | ty _=>cases r;rfl
theorem RelV.inj(r:RelV x u)(q:RelV y u):x=y:=Option.some.inj (r.abs.symm.trans q.abs)
theorem aB.inj:∀{xs ys:YR}{us:Yo},aB xs us->aB ys us->xs=ys
 | _,_,_,.nil,.nil=>rfl
 | _,_,_,.cons r t,.cons r' t'=>by rw[r.inj r',aB.inj t t']
section
variable {X:Cx}{pins:Yi}{σ:St}{H:Hp}{s:YA}{a:YH}{xs ys:YR}
theorem cY.of{K:Yy}(h:H a=some (.lst xs)):cY K H a xs:=.inl (.inl h)
theorem cR.of{K:Yy}(h:H a=some (.tup xs)):cR K H a xs:=.inl (.inl h)
theorem Inv.list(I:@5)(h:cY X.K H a xs):∃br:Yo,aB xs br/\PlainL s.heap a br.toArray/\xs.length<=sizeLine:=by
 rcases h with h | ⟨o,br,n,hk,hc,hd,hs,hz,r⟩
 .obtain⟨z,br,n,r,e⟩:=h.ok I.hok;exact⟨br,r,⟨_,n,e,rfl,rfl,rfl⟩,z⟩
 .refine⟨br.toList,r,⟨o,n,I.kIn a o hk,hc,hd,by simpa using hs⟩,?_⟩;have e:=r.length;simp only[U7]at e;omega
theorem Inv.tuple(I:@5)(h:cR X.K H a xs):∃br:Yo,aB xs br/\IsTup s.heap a br.toArray/\xs.length<=sizeLine:=by
 rcases h with h | ⟨o,br,n,hk,hc,hs,hz,r⟩
 .obtain⟨z,br,r,p⟩:=h.ok I.hok;exact⟨br,r,p,z⟩
 .refine⟨br.toList,r,⟨o,I.kIn a o hk,hc,n,by simpa using hs⟩,?_⟩;have e:=r.length;simp only[U7]at e;omega
theorem Inv.list_inj(I:@5)(h:cY X.K H a xs)(h':cY X.K H a ys):xs=ys:=by
 obtain⟨br,r,⟨o,n,e,_,_,d⟩,_⟩:=I.list h;obtain⟨its',r',⟨o',n',e',_,_,d'⟩,_⟩:=I.list h';rw[e]at e';cases e';rw[d]at d'
 injection d' with d1 _
 have:br=its':=by simpa using VE Array.toList d1
 subst this;exact r.inj r'
theorem Inv.tuple_inj(I:@5)(h:cR X.K H a xs)(h':cR X.K H a ys):xs=ys:=by
 obtain⟨br,r,⟨o,e,_,n,d⟩,_⟩:=I.tuple h;obtain⟨its',r',⟨o',e',_,n',d'⟩,_⟩:=I.tuple h';rw[e]at e';cases e';rw[d]at d'
 injection d' with d1 _
 have:br=its':=by simpa using VE Array.toList d1
 subst this;exact r.inj r'
end
abbrev Cx.wish(X:Cx)(E:Yh):Cx:={X with xe:=E}
abbrev Cx.nox(X:Cx):Cx:=X.wish λ_ _=>False
theorem Cx.Ok.wish{X:Cx}(ok:X.Ok)(E:Yh):(X.wish E).Ok:=
 ⟨ok.mod,ok.kind,ok.glob,ok.blt,ok.above,ok.inj,ok.has,ok.cab,ok.hd,ok.frames,ok.stk,ok.exf,ok.bs,ok.bsz,ok.noex,ok.exfs,ok.funs,ok.frf⟩
theorem Cx.Ok.unwish{X:Cx}{E:Yh}(ok:(X.wish E).Ok):X.Ok:=
 ⟨ok.mod,ok.kind,ok.glob,ok.blt,ok.above,ok.inj,ok.has,ok.cab,ok.hd,ok.frames,ok.stk,ok.exf,ok.bs,ok.bsz,ok.noex,ok.exfs,ok.funs,ok.frf⟩
section
variable {X:Cx}{pins:Yi}{σ:St}{H:Hp}{s:YA}{E:Yh}
theorem Inv.wish(I:@5)(E:Yh):Inv (X.wish E) pins σ H s:=⟨I.ok.wish E,I.os,I.bare,I.base,I.loc,I.cell,I.free,I.freeC,I.pin,I.hok,I.len⟩
theorem Inv.unwish(I:Inv (X.wish E) pins σ H s):Inv X pins σ H s:=⟨I.ok.unwish,I.os,I.bare,I.base,I.loc,I.cell,I.free,I.freeC,I.pin,I.hok,I.len⟩
theorem SP.unwish(h:SP (X.wish E) pins D f s'):SP X pins D f s':=by
 cases f with
 | next=>obtain⟨σ',H',I,q⟩:=h;exact⟨σ',H',I.unwish,q⟩
 | brk=>obtain⟨σ',H',I,q⟩:=h;exact⟨σ',H',I.unwish,q⟩
 | cont=>obtain⟨σ',H',I,q⟩:=h;exact⟨σ',H',I.unwish,q⟩
 | ret u=>obtain⟨v,σ',H',I,r,q⟩:=h;exact⟨v,σ',H',I.unwish,r,q⟩
theorem PT.nox(h:PT X.nox e t):PT X e t:=λpins s σ H Q I hw=>
 UO (h pins s σ H Q (I.wish _) hw) (λ_ _ ⟨H',I',q⟩=>⟨H',I'.unwish,q⟩) λ_ _ z=>False.elim z
theorem PSs.nox{st:Yu}{t:TS}(h:PSs X.nox st t):PSs X st t:=λpins s σ H D I hw=>
 UO (h pins s σ H D (I.wish _) hw) (λ_ _ q=>q.unwish) λ_ _ z=>False.elim z
end
section
variable {X:Cx}{st:YJ}{rest:Yu}{t u:TS}{e:YI}{te:TE}{pos:Pos}
def tNext:TS:=λD σ H=>D.nx σ H
def La(t u:TS):TS:=λD σ H=>t {D with nx:=u D} σ H
theorem G8:PSs X [] tNext:=λ_ _ σ H _ I h=>WK ⟨σ,H,I,h⟩
theorem gw(h1:PS X st t)(h2:PSs X rest u):PSs X (st::rest) (La t u):=by
 intro pins s σ H D I h;refine Xg (bB (h1 pins s σ H {D with nx:=u D} I h) λf s1 q=>?_);cases f with
 | next=>
  obtain⟨σ',H',I',q⟩:=q;exact h2 pins s1 σ' H' D I' q
 | ret v=>exact q
 | brk=>exact q
 | cont=>exact q
theorem gO(h1:PS X st t):PSs X [st] t:=by
 intro pins s σ H D I h;refine Xg (bB (h1 pins s σ H D I h) λf s1 q=>?_);cases f with
 | next=>exact WK q
 | ret v=>exact q
 | brk=>exact q
 | cont=>exact q
theorem Inv.quiet(I:@5):interactive X.env=false:=by simp[interactive,I.ok.kind]
def ML(te:TE):TS:=λD σ H=>te σ H λ_ H1=>D.nx σ H1
theorem kF(he:PE X e te)(hs:swapsWith e none pos.line X.env=pure false:=by rfl):PS X (.Expr e pos) (ML te):=by
 intro pins s σ H D I h;exact wpAny_Expr_any (bB (he pins s σ H _ I h) λv s1 ⟨x,H1,I1,r1,q1⟩=>⟨σ,H1,I1,q1⟩) I.quiet hs
def NH(te:TE):TS:=λD σ H=>te σ H D.rt
theorem rX(he:PE X e te):PS X (.Return (some e) pos) (NH te):=by
 intro pins s σ H D I h;exact wpAny_Return_some (bB (he pins s σ H _ I h) λv s1 ⟨x,H1,I1,r1,q1⟩=>⟨x,σ,H1,I1,r1,q1⟩)
def QM(c:TT)(t u:TS):TS:=λD σ H=>c σ H λb H1=>if b=true then t D σ H1 else u D σ H1
theorem Jm(hc:PT X c tc)(ha:PSs X a t)(hb:PSs X b u):PS X (.If c a b pos) (QM tc t u):=by
 intro pins s σ H D I h;refine wpAny_If (bB (hc pins s σ H _ I h) λd s1 az=>?_);obtain⟨H1,I1,q1⟩:=az;cases d with
 | true=>exact ha pins s1 σ H1 D I1 q1
 | false=>exact hb pins s1 σ H1 D I1 q1
end
abbrev TG:=V->St->Hp->(St->Hp->Prop)->Prop
abbrev TGs:=YR->St->Hp->(St->Hp->Prop)->Prop
def PG(X:Cx)(target:YI)(t:TG):Prop:=
 ∀(pins:Yi)(s:YA)(σ:St)(H:Hp)(v:V)(u:Yz)(Q:St->Hp->Prop),Inv X pins σ H s->RelV v u->t v σ H Q->
  wpAny @3 X.A (assign target X.env u) (λ_ s'=>∃σ' H',Inv X pins σ' H' s'/\Q σ' H') X.xe s
def BU(X:Cx)(ts:Yt)(t:TGs):Prop:=
 ∀(pins:Yi)(s:YA)(σ:St)(H:Hp)(vs:YR)(us:Yo)(Q:St->Hp->Prop),Inv X pins σ H s->aB vs us->t vs σ H Q->
  wpAny @3 X.A (assignInOrder ((assignEach ts X.env).map (·.2)) us) (λ_ s'=>∃σ' H',Inv X pins σ' H' s'/\Q σ' H') X.xe s
abbrev TSet:=V->V->V->Hp->(Hp->Prop)->Prop
def MH(X:Cx)(t:TSet):Prop:=
 ∀(pins:Yi)(s:YA)(σ:St)(H:Hp)(o i v:V)(ov iv u:Yz)(Q:Hp->Prop),Inv X pins σ H s->RelV o ov->RelV i iv->RelV v u->t o i v H Q->
  wpAny @3 X.A (setItem ov iv u) (λ_ s'=>∃H',Inv X pins σ H' s'/\Q H') X.xe s
abbrev TIp:=V->V->Hp->VK->Prop
def SL(X:Cx)(op:Operator)(t:TIp):Prop:=
 ∀(pins:Yi)(s:YA)(σ:St)(H:Hp)(x y:V)(v u:Yz)(Q:VK),Inv X pins σ H s->RelV x v->RelV y u->t x y H Q->
  wpAny @3 X.A (inplaceOp op v u) (EP X pins σ Q) X.xe s
section
variable {X:Cx}{pos:Pos}
def my(i:Nat):TG:=λv σ H Q=>Q (σ.set i (some v)) H
theorem kP(hN:X.N.Nodup)(hi:X.N[i]?=some x)(hx:Loc X.env.scope x)(hf:@11:=by first | exact .inl rfl | exact .inr rfl | assumption):PG X (.Name x pos) (my i):=by
 intro pins s σ H v u Q I r h;exact wpAny_assign_Name (iE I hN hi hx r (λs' I'=>⟨_,H,I',h⟩) hf)
def gNil:TGs:=λvs σ H Q=>vs=[]/\Q σ H
def Ji(t:TG)(u:TGs):TGs:=λvs σ H Q=>∃v r,vs=v::r/\t v σ H λσ' H'=>u r σ' H' Q
theorem G7:BU X [] gNil:=by
 intro pins s σ H vs us Q I r h;obtain⟨e,h⟩:=h;subst e;cases r;exact assignInOrder_nil ⟨σ,H,I,h⟩
theorem vE(h1:PG X e t)(h2:BU X es u)
  (hs:(assignEach (e::es) X.env).map (·.2)=assign e X.env::(assignEach es X.env).map (·.2):=by rfl):BU X (e::es) (Ji t u):=by
 intro pins s σ H vs us Q I r h;obtain⟨v,vr,e1,h⟩:=h;subst e1;cases r with
 | cons r rr=>
  rw[hs];refine assignInOrder_cons (bB (h1 pins s σ H _ _ _ I r h) λ_ s1 az=>?_);obtain⟨σ1,H1,I1,q1⟩:=az;exact h2 pins s1 σ1 H1 _ _ Q I1 rr q1
def QL(K:Yy)(n:Nat)(t:TGs):TG:=λv σ H Q=>∃a xs,v=.ref a/\cR K H a xs/\xs.length=n/\t xs σ H Q
theorem Lw(hc:X.calm=true)(h:BU X es t)
  (hn:(assignEach es X.env).length=n:=by rfl) (hst:(assignEach es X.env).findIdx? (·.1)=none:=by rfl):PG X (.Tuple es k pos) (QL X.K n t):=by
 intro pins s σ H v u Q I r hw;obtain⟨a,xs,e1,hq,hl,hw⟩:=hw;subst e1;cases r;obtain⟨br,rv,ht,hz⟩:=I.tuple hq;refine assign_Tuple_tuple (I.ok.hd hc) ht (by simp[hn,<- hl,rv.length]) hst λh' hx=>?_;have I1:Inv X pins σ H {s with heap:=h'}:=I.kept (t':=s.toks) λb o e=>hx b o (A_ (n_ e)) e;exact h pins _ σ H xs _ Q I1 (by simpa using rv) hw
def Qu(to ti:TE)(t:TSet):TG:=λv σ H Q=>to σ H λo H1=>ti σ H1 λi H2=>t o i v H2 λH3=>Q σ H3
theorem Lo(ho:PE X o to)(hi:PE X i ti)(hs:MH X t)
  (ha:∀v,assign (.Subscript o i pos) X.env v=(do
   let ov <- holding [v] (eval o X.env)
   let iv <- holding [v,ov] (eval i X.env)
   standAt pos
   holding [v,ov,iv] (setItem ov iv v)
   release [v,ov,iv] []):=by intro _;rfl):PG X (.Subscript o i pos) (Qu to ti t):=by
 intro pins s σ H v u Q I r h;rw[ha];refine a_ (F_ (bB (ho pins s σ H _ I h) λov s1 az=>?_));obtain⟨x,H1,I1,r1,q1⟩:=az;refine a_ (F_ (bB (hi pins s1 σ H1 _ I1 q1) λiv s2 az=>?_));obtain⟨y,H2,I2,r2,q2⟩:=az;refine a_ (Vo (a_ (F_ (bB (hs pins s2 σ H2 x y v ov iv u _ I2 r1 r2 r q2) λ_ s3 az=>?_))));obtain⟨H3,I3,q3⟩:=az;exact wpAny_release ⟨σ,H3,I3,q3⟩
def uN(te:TE)(g:TG):TS:=λD σ H=>te σ H λx H1=>g x σ H1 D.nx
theorem sW(he:PE X e te)(hg:PG X tg g)(hs:swapsWithSole [tg] e pos.line X.env=pure false:=by rfl)(hw:swappedStores [tg] e X.env=pure none:=by rfl)
  (h1:(assignEach [tg] X.env).map (·.2)=[assign tg X.env]:=by rfl):PS X (.Assign [tg] e pos) (uN te g):=by
 intro pins s σ H D I h;refine wpAny_Assign_stores (bB (he pins s σ H _ I h) λv s1 az=>?_) hs hw;obtain⟨x,H1,I1,r1,q1⟩:=az;rw[h1];exact bB (hg pins s1 σ H1 x v _ I1 r1 q1) λ_ s2 q=>q
theorem iD(hN:X.N.Nodup)(hi:X.N[i]?=some x)(hx:Loc X.env.scope x)(he:PE X e te)(hs:swapsWith e (some (.Name x pos')) pos.line X.env=pure false:=by rfl)(hf:@11:=by first | exact .inl rfl | exact .inr rfl | assumption) :
  PS X (.Assign [.Name x pos'] e pos) (uN te (my i)):=by
 intro pins s σ H D I h;refine wpAny_Assign_Name (bB (he pins s σ H _ I h) λv s1 az=>?_) hs;obtain⟨y,H1,I1,r1,q1⟩:=az;exact iE I1 hN hi hx r1 (λs2 I2=>⟨_,H1,I2,q1⟩) hf
def Qo(i:Nat)(te:TE)(ti:TIp):TS:=λD σ H=>∃x,σ[i]?=some (some x)/\te σ H λy H1=>ti x y H1 λz H2=>D.nx (σ.set i (some z)) H2
theorem J0(hN:X.N.Nodup)(hi:X.N[i]?=some x)(hx:Loc X.env.scope x)(he:PE X e te)(ho:SL X op ti)(hf:@11:=by first | exact .inl rfl | exact .inr rfl | assumption) :
  PS X (.AugAssign (.Name x pos') op e pos) (Qo i te ti):=by
 intro pins s σ H D I h;obtain⟨v,e1,h⟩:=h;obtain⟨m,hn,hl⟩:=I.loc;have vis:rm X.env.scope x:=by rcases hx with k | k;exact .inl k;exact .inr (.inl k)
 obtain⟨u,r,l⟩:=hl i x v hi e1 vis;refine wpAny_AugAssign_Name ?_;have go:wpAny @3 X.A (eval e X.env) (λw s₂=>wpAny @3 X.A (inplaceOp op u w) (λr s₃=>wpAny @3 X.A (storeName X.env x r) (λ_=>SP X pins D .next) X.xe s₃) X.xe s₂) X.xe s:=by
  refine bB (he pins s σ H _ I h) λw s1 az=>?_;obtain⟨y,H1,I1,r1,q1⟩:=az;refine bB (ho pins s1 σ H1 v y u w _ I1 r r1 q1) λz s2 az=>?_;obtain⟨zv,H2,I2,r2,q2⟩:=az;exact iE I2 hN hi hx r2 (λs3 I3=>⟨_,H2,I3,q2⟩) hf
 rcases l with ⟨hk,hm⟩ | ⟨hk,c,hc,pF⟩
 .exact wpAny_loadName_local I.ok.kind hk hn hm go
 .rcases hk with hk | hk
  .exact wpAny_loadName_cell I.ok.kind hk hc pF go
  .rcases hx with k | k
   .have:X.env.scope.names.lookup x=some .free:=hk;rw[k]at this;cases this
   .have:X.env.scope.names.lookup x=some .free:=hk;rw[k]at this;cases this
end
section
variable {X:Cx}{pos:Pos}
end
structure It where
 go:Nat->Hp->Prop
 yld:Nat->Hp->V->Hp->Prop
 stop:Nat->Hp->Prop
def fS(X:Cx)(pins:Yi)(H:Hp)(b:YH):Prop:=
 H b=none/\b≠X.env.locals/\b∉X.fs/\(b∈X.ex\/X.s₀.sz<=b)/\(∀x c,X.env.cells.lookup x=some c->c≠b)/\∀p∈X.pn++pins,p.1≠b
theorem Inv.fpOk(I:@5)(hb:s.sz<=b)(hn:H' b=none):fS X pins H' b:=by
 refine⟨hn,UC (q_ I.lt hb),I.nofs hb,.inr (B_ I.sz hb),λx c e z=>?_,λp hp z=>?_⟩
 .obtain⟨v,q⟩:=I.cell x c e;exact absurd (q_ q.lt (by rw[z];exact hb)) (VU _)
 .exact absurd (q_ (n_ (I.pin p hp).1) (by rw[z];exact hb)) (VU _)
structure Turn(P:Program)(w:World)(K:PySem.W.Frag)(tg:Expr)(J:It)(fp:List Addr)(it:Addr)(tn:Nat->Heap->Prop):Prop where
 mem:it∈fp
 obj:∀i h,tn i h->∀b∈fp,∃o,h.get? b=some o/\∀v,o.data≠.cell v
 keep:∀i h h',tn i h->(∀b∈fp,∀o,h.get? b=some o->h'.get? b=some o)->tn i h'
 item:∀(X:Cx),X.prog=P->X.w=w->X.K=K->X.calm=true->∀(i:Nat)(pins:List (Addr×Obj))(s:Shared)(σ:St)(H:Hp)(E:Value->Shared->Prop),Inv X pins σ H s->(∀b∈fp,fS X pins H b)->tn i s.heap->J.go i H->
  wpAny (model P w) X.A (pyNext (.ref it)) (λr s1=>∃u,r=some u/\
   wpAny (model P w) X.A (letOwnedTupleGo tg (.ref it) u) (λ_ s2=>∃x H',Inv X pins σ H' s2/\RelV x u/\J.yld i H x H'/\tn (i+1) s2.heap/\∀b∈fp,H' b=none) E s1) E s
 done:∀(X:Cx),X.prog=P->X.w=w->X.K=K->X.calm=true->∀(i:Nat)(pins:List (Addr×Obj))(s:Shared)(σ:St)(H:Hp)(E:Value->Shared->Prop),Inv X pins σ H s->(∀b∈fp,fS X pins H b)->tn i s.heap->J.stop i H->
  wpAny (model P w) X.A (pyNext (.ref it)) (λr s1=>r=none/\Inv X pins σ H s1) E s
 self:∀(A:Around)(i:Nat)(s:Shared)(Q:Value->Shared->Prop)(E:Value->Shared->Prop),tn i s.heap->Q (.ref it) s->wpAny (model P w) A (pyIter (.ref it)) Q E s
abbrev TI:=St->Hp->(It->Hp->Prop)->Prop
def SV(X:Cx)(pins:Yi)(σ:St)(tg:YI)(R:It->Hp->Prop)(OC:Yz)(s2:YA):Prop:=
 ∃(it:YH)(fp:Ys)(tn:Nat->YD->Prop)(J:It)(H':Hp),OC=.ref it/\Inv X pins σ H' s2/\Turn X.prog X.w X.K tg J fp it tn/\tn 0 s2.heap/\(∀b∈fp,fS X pins H' b)/\R J H'
def PI(X:Cx)(tg iter:YI)(wi:TI):Prop:=
 ∀(pins:Yi)(s:YA)(σ:St)(H:Hp)(R:It->Hp->Prop),Inv X pins σ H s->wi σ H R->
  wpAny @3 X.A (eval iter X.env) (λv s1=>wpAny @3 X.A (pyIter v) (SV X pins σ tg R) X.xe s1) X.xe s
theorem E7(ho:s.heap.get? it=some o)(hc:o.cls=.type n)(hd:o.data=.fields vs)
    (hn:["enumerate","zip","dict_itemiterator","dict_reverseitemiterator","odict_iterator","itertools.zip_longest","itertools.pairwise"].contains n=false) (hQ:Q () s):wpAny M A (letOwnedTupleGo tg (.ref it) u) Q E s:=by
  unfold letOwnedTupleGo;cases tg<;>first
    | exact e_ hQ
    | (cases u<;>first
        | exact e_ hQ
        | (refine a_ (wpAny_load ho ?_)
           rw[hc,hd];show wpAny M A (if(["enumerate","zip","dict_itemiterator","dict_reverseitemiterator","odict_iterator","itertools.zip_longest","itertools.pairwise"].contains n&&vs[0]?==some (rawInt _))=true then _ else _) Q E s;rw[i_ (by intro h;rw[hn,Xz]at h;cases h)];exact e_ hQ))
def QD(K:Yy)(a:YH):It:=
 ⟨λi H=>∃xs x,cY K H a xs/\xs[i]?=some x,λi H x H'=>H'=H/\∀xs,cY K H a xs->xs[i]?=some x,λi H=>∃xs,cY K H a xs/\xs.length<=i⟩
def QA(K:Yy)(a:YH):It:=
 ⟨λi H=>∃xs x,cR K H a xs/\xs[i]?=some x,λi H x H'=>H'=H/\∀xs,cR K H a xs->xs[i]?=some x,λi H=>∃xs,cR K H a xs/\xs.length<=i⟩
def Pz(lo:Int)(n:Nat):It:=⟨λi _=>i<n,λi H x H'=>H'=H/\x=.int (lo+i),λi _=>n<=i⟩
theorem BZ{P:YB}{w:YE}{K:Yy}{tg:YI}(a it:YH):Turn P w K tg (QD K a) [it] it (λi h=>h.IsListIter it a i) where
 mem:=by simp
 obj:=λi h st b hb=>by
  have e:b=it:=by simpa using hb
  subst e;obtain⟨o,e,c,d⟩:=st;exact⟨o,e,λv z=>by rw[d]at z;cases z⟩
 keep:=λi h h' st k=>st.at λo e=>k it @8 o e
 item:=by
  intro X hP hw hK hc i pins s σ H E I hf st hg;subst hP hw hK;obtain⟨xs,x,hq,hx⟩:=hg;obtain⟨br,rv,p,hz⟩:=I.list hq;obtain⟨u,hu,ru⟩:=rv.get hx;obtain⟨f0,f1,f2,f3,f4,f5⟩:=hf it @8;refine W1 st p.isList (x:=u) (by simpa using hu) λh' Jy sb=>?_;have I1:Inv X pins σ H {s with heap:=h'}:=I.turned (t':=s.toks) (λb o hb e=>(sb.2 b hb).trans e) f0 f1 f3 f4 f5;obtain⟨o,e,c,d⟩:=id Jy;exact⟨u,rfl,E7 (s:={s with heap:=h'}) e c d @2 ⟨x,H,I1,ru,⟨rfl,λys hy=>by rw[I.list_inj hy hq];exact hx⟩,Jy,λb hb=>(hf b hb).1⟩⟩
 done:=by
  intro X hP hw hK hc i pins s σ H E I hf st hg;subst hP hw hK;obtain⟨xs,hq,hx⟩:=hg;obtain⟨br,rv,p,hz⟩:=I.list hq;obtain⟨f0,f1,f2,f3,f4,f5⟩:=hf it @8;have hl:=rv.length;exact Xb (I.ok.hd hc) st p.isList (by simp;omega) λh' eb=>⟨rfl,I.turned (t':=s.toks) (λb o hb e=>eb b o hb e) f0 f1 f3 f4 f5⟩
 self:=λ_ _ _ _ _ st h=>wpAny_pyIter_listiter st h
theorem w5{P:YB}{w:YE}{K:Yy}{tg:YI}(a it:YH):Turn P w K tg (QA K a) [it] it (λi h=>h.IsTupleIter it a i) where
 mem:=by simp
 obj:=λi h st b hb=>by
  have e:b=it:=by simpa using hb
  subst e;obtain⟨o,e,c,d⟩:=st;exact⟨o,e,λv z=>by rw[d]at z;cases z⟩
 keep:=λi h h' st k=>st.at λo e=>k it @8 o e
 item:=by
  intro X hP hw hK hc i pins s σ H E I hf st hg;subst hP hw hK;obtain⟨xs,x,hq,hx⟩:=hg;obtain⟨br,rv,p,hz⟩:=I.tuple hq;obtain⟨u,hu,ru⟩:=rv.get hx;obtain⟨f0,f1,f2,f3,f4,f5⟩:=hf it @8;refine wpAny_pyNext_tuple_item st (show s.heap.IsTuple a br.toArray from p) (x:=u) (by simpa using hu) λh' Jy sb=>?_;have I1:Inv X pins σ H {s with heap:=h'}:=I.turned (t':=s.toks) (λb o hb e=>(sb.2 b hb).trans e) f0 f1 f3 f4 f5;obtain⟨o,e,c,d⟩:=id Jy;exact⟨u,rfl,E7 (s:={s with heap:=h'}) e c d @2 ⟨x,H,I1,ru,⟨rfl,λys hy=>by rw[I.tuple_inj hy hq];exact hx⟩,Jy,λb hb=>(hf b hb).1⟩⟩
 done:=by
  intro X hP hw hK hc i pins s σ H E I hf st hg;subst hP hw hK;obtain⟨xs,hq,hx⟩:=hg;obtain⟨br,rv,p,hz⟩:=I.tuple hq;obtain⟨f0,f1,f2,f3,f4,f5⟩:=hf it @8;have hl:=rv.length;exact wpAny_pyNext_tuple_end (I.ok.hd hc) st (show s.heap.IsTuple a br.toArray from p) (by simp;omega) λh' eb=>⟨rfl,I.turned (t':=s.toks) (λb o hb e=>eb b o hb e) f0 f1 f3 f4 f5⟩
 self:=λ_ _ _ _ _ st h=>wpAny_pyIter_tupleiter st h
theorem xR{P:YB}{w:YE}{K:Yy}{tg:YI}(it:YH)(lo:Int)(n:Nat):Turn P w K tg (Pz lo n) [it] it (λi h=>IsRangeIter h it (lo+(i:Nat)*1) ((n:Int)-(i:Nat)) 1) where
 mem:=by simp
 obj:=λi h st b hb=>by
  have e:b=it:=by simpa using hb
  subst e;exact⟨_,st,λv z=>by
   have z':Data.fields _=Data.cell v:=z;cases z'⟩
 keep:=λi h h' st k=>k it @8 _ st
 item:=by
  intro X hP hw hK hc i pins s σ H E I hf st hg;subst hP hw hK;obtain⟨f0,f1,f2,f3,f4,f5⟩:=hf it @8;have W:=Walks.range (prog:=X.prog) (w:=X.w) (I.ok.hd hc) it lo 1 n;refine W.item i s _ _ hg st λv h' tk hv Jy kk=>?_;obtain⟨t,rfl⟩:=hv;have I1:Inv X pins σ H {s with heap:=h',toks:=tk}:=I.turned (λb o hb e=>kk b o (by simpa using hb) e) f0 f1 f3 f4 f5;refine⟨_,rfl,E7 (s:={s with heap:=h',toks:=tk}) (n:="range_iterator") Jy rfl rfl @2 ⟨.int (lo+i),H,I1,⟨t,?_⟩,⟨rfl,rfl⟩,Jy,λb hb=>(hf b hb).1⟩⟩;rw[Int.mul_one]
 done:=by
  intro X hP hw hK hc i pins s σ H E I hf st hg;subst hP hw hK;obtain⟨f0,f1,f2,f3,f4,f5⟩:=hf it @8;exact wpAny_pyNext_range_end (I.ok.hd hc) st (by have:n<=i:=hg;omega) λh' eb=>⟨rfl,I.turned (t':=s.toks) (λb o hb e=>eb b o hb e) f0 f1 f3 f4 f5⟩
 self:=λ_ _ _ _ _ st h=>wpAny_pyIter_rangeiter st h
section
variable {X:Cx}{tg:YI}
def Og(K:Yy)(tl:TE):TI:=λσ H R=>tl σ H λx H1=>∃a,x=.ref a/\(∃xs,cY K H1 a xs)/\R (QD K a) H1
def Qj(K:Yy)(tl:TE):TI:=λσ H R=>tl σ H λx H1=>∃a,x=.ref a/\(∃xs,cR K H1 a xs)/\R (QA K a) H1
theorem Hr{l:YI}{tl:TE}(hl:PE X l tl):PI X tg l (Og X.K tl):=by
 intro pins s σ H R I h;refine bB (hl pins s σ H _ I h) λv s1 az=>?_;obtain⟨x,H1,I1,r1,q1⟩:=az;obtain⟨a,e,⟨xs,hq⟩,q⟩:=q1;subst e;cases r1;obtain⟨br,rv,p,hz⟩:=I1.list hq;refine Vz p.isList ?_;refine⟨s1.sz,[s1.sz],_,_,H1,rfl,I1.kept (t':=s1.toks) λb o e=>d_ _ e,BZ a _,⟨_,o_ _ rfl,rfl,rfl⟩,λb hb=>?_,q⟩;have e:b=s1.sz:=by simpa using hb
 subst e;exact I1.fpOk (m_ _) (I1.hok.fresh (m_ _))
theorem Kp{l:YI}{tl:TE}(hl:PE X l tl):PI X tg l (Qj X.K tl):=by
 intro pins s σ H R I h;refine bB (hl pins s σ H _ I h) λv s1 az=>?_;obtain⟨x,H1,I1,r1,q1⟩:=az;obtain⟨a,e,⟨xs,hq⟩,q⟩:=q1;subst e;cases r1;obtain⟨br,rv,p,hz⟩:=I1.tuple hq;refine WQ (show s1.heap.IsTuple a br.toArray from p) ?_;refine⟨s1.sz,[s1.sz],_,_,H1,rfl,I1.kept (t':=s1.toks) λb o e=>d_ _ e,w5 a _,⟨_,o_ _ rfl,rfl,rfl⟩,λb hb=>?_,q⟩;have e:b=s1.sz:=by simpa using hb
 subst e;exact I1.fpOk (m_ _) (I1.hok.fresh (m_ _))
theorem CG{pins:Yi}{σ:St}{H:Hp}{s:YA}{R:It->Hp->Prop}{E:Yh}{lo hi:Int}{t u v:Tok}{tk:Nat}(I:@5)(h1:-(2 ^ 62)<=lo)(h2:lo<2 ^ 62)(h3:-(2 ^ 62)<=hi)(h4:hi<2 ^ 62)
  (q:R (Pz lo (hi-lo).toNat) H):wpAny @3 X.A (pyIter (.ref s.sz)) (SV X pins σ tg R) E {s with heap:=s.heap.push {cls:=.type "range",data:=.fields #[.int lo t,.int hi u,.int 1 v]},toks:=tk}:=by
 refine wpAny_pyIter_range (IsRange.new ..) (small_one h1 h2 h3 h4) ?_;have I1:Inv X pins σ H {s with heap:=s.heap.push {cls:=.type "range",data:=.fields #[.int lo t,.int hi u,.int 1 v]},toks:=tk}:=I.kept λb o e=>d_ _ e;refine⟨(s.heap.push {cls:=.type "range",data:=.fields #[.int lo t,.int hi u,.int 1 v]}).objs.size,[(s.heap.push {cls:=.type "range",data:=.fields #[.int lo t,.int hi u,.int 1 v]}).objs.size],_,_,H,rfl,
  I1.kept (t':=tk) λb o e=>d_ _ e,xR _ lo (hi-lo).toNat,?_,λb hb=>?_,q⟩
 .have e1:lo+((0:Nat):Int)*1=lo:=by simp
  have e2:(((hi-lo).toNat:Nat):Int)-((0:Nat):Int)=Builtin.Range.rangeSize lo hi 1:=by rw[rangeSize_one];split<;>omega
  show IsRangeIter _ _ (lo+((0:Nat):Int)*1) ((((hi-lo).toNat:Nat):Int)-((0:Nat):Int)) 1;rw[e1,e2];exact o_ _ rfl
 .have e:b=(s.heap.push {cls:=.type "range",data:=.fields #[.int lo t,.int hi u,.int 1 v]}).objs.size:=by simpa using hb
  subst e;exact I1.fpOk (m_ _) (I1.hok.fresh (m_ _))
def MF(ta:TA):TI:=λσ H R=>ta σ H λvs H1=>∃j:Int,vs=[.int j]/\-(2 ^ 62)<=j/\j<2 ^ 62/\R (Pz 0 j.toNat) H1
theorem AQ{a:YI}{ta:TA}{p pos:Pos}(hg:Gl X "range")(hm:X.mg "range"=none)(ha:PA X [a] ta)(hs:starEach [a] X.env=[(false,eval a X.env)]:=by rfl):PI X tg (.Call (.Name "range" p) [a] [] pos) (MF ta):=by
 intro pins s σ H R I h;refine Call_ (gU I hg hm boot_range (Vw (bB (ha pos pins s σ H _ I h) λus s1 az=>?_) hs rfl));obtain⟨vs,H1,I1,r1,q1⟩:=az;obtain⟨j,e,q1,q2,q⟩:=q1;subst e;cases r1 with
 | cons r rr=>
  cases rr;obtain⟨t,rfl⟩:=r;exact call_range_1 (CG I1 @1 @1 q1 q2 (by simpa using q))
def Qy(wi:TI)(g:TG)(tb:TS):TS:=λD σ H=>wi σ H λJ H1=>∃W:Nat->Nat->St->Hp->Prop,(∃m,W 0 m σ H1)/\∀i m σ H,W i m σ H->
 (J.stop i H/\D.nx σ H)\/(J.go i H/\∃N:St->Hp->Prop,(∀σ' H',N σ' H'->∃m',m'<m/\W (i+1) m' σ' H')/\∀x H',J.yld i H x H'->g x σ H' λσ2 H2=>tb {D with nx:=N,ct:=N,bk:=D.nx} σ2 H2)
def lJ(fp:Ys)(h:YD):Yi:=fp.filterMap λb=>(h.get? b).map λo=>(b,o)
theorem jP(hb:b∈fp)(e:h.get? b=some o):(b,o)∈lJ fp h:=Xy.mpr ⟨b,hb,by rw[e];rfl⟩
theorem AG(hp:p∈lJ fp h):p.1∈fp/\h.get? p.1=some p.2:=by
 obtain⟨b,hb,e⟩:=Xy.mp hp;cases q:h.get? b with
 | none=>rw[q]at e;cases e
 | some o=>
  rw[q]at e;have e':(b,o)=p:=Option.some.inj e;subst e';exact⟨hb,q⟩
theorem Inv.pinned(I:@5)(hf:∀b∈fp,fS X pins H b)(ho:∀b∈fp,∃o,s.heap.get? b=some o/\∀v,o.data≠.cell v):Inv X (pins++lJ fp s.heap) σ H s:=
 I.pins_of λp hp=>(UF.mp hp).elim (λz=>I.pin p (U_ _ z)) λz=>by
  obtain⟨hb,e⟩:=AG z;obtain⟨f0,f1,f2,_⟩:=hf p.1 hb;obtain⟨o,e',d⟩:=ho p.1 hb;rw[e]at e';cases e';exact⟨e,f0,f1,f2,d⟩
theorem Inv.unpinned(I:Inv X (pins++pl) σ H s):Inv X pins σ H s:=I.pins_of λp hp=>I.pin p (U_ _ (List.mem_append_left _ hp))
theorem ER(hp:PassesOwn @3 X.A X.env X.xe)(hc:X.calm=true)(hi:PI X tg iter wi)(hg:PG X tg g)(hb:PSs X body tb)
  (hs:∀x,foldedSetIterable iter X.env x=pure x:=by intro _;rfl):PS X (.For tg iter body [] pos) (Qy wi g tb):=by
 intro pins s σ H D I h;refine wpAny_For (bB (hi pins s σ H _ I h) λv s1 h1=>bB h1 λOC s2 h2=>?_) hs;obtain⟨it,fp,tn,J,H2,e,I2,T,st2,f2,W,⟨m0,w0⟩,turn⟩:=h2;subst e;have yI:∀{H':Hp},(∀b∈fp,H' b=none)->∀b∈fp,fS X pins H' b:=λhn b hb=>⟨hn b hb,(f2 b hb).2⟩;refine codeAny_forLoop_any (λn s'=>∃i σ' H',Inv X pins σ' H' s'/\tn i s'.heap/\(∀b∈fp,H' b=none)/\W i n σ' H') ?_ m0 ⟨0,σ,H2,I2,st2,λb hb=>(f2 b hb).1,w0⟩;rintro n s3 ⟨i,σ3,H3,I3,S4,PM,w3⟩;rcases turn i n σ3 H3 w3 with ⟨stop,qn⟩ | ⟨go,N,hN,step⟩
 .refine WL hp (bB (T.done X rfl rfl rfl hc i pins s3 σ3 H3 X.xe I3 (yI PM) S4 stop) λr s4 az=>?_);obtain⟨hr,I4⟩:=az;subst hr;exact WK ⟨σ3,H3,I4,qn⟩
 .refine WL hp (bB (T.item X rfl rfl rfl hc i pins s3 σ3 H3 X.xe I3 (yI PM) S4 go) λr s4 az=>?_);obtain⟨u,hr,h4⟩:=az;subst hr;refine WL hp (bB h4 λ_ s5 az=>?_);obtain⟨x,H5,I5,r5,y5,Re,fr5⟩:=az;have I5':=I5.pinned (yI fr5) (T.obj _ _ Re);refine WL hp (bB (hg _ s5 σ3 H5 x u _ I5' r5 (step x H5 y5)) λ_ s6 az=>?_);obtain⟨σ6,H6,I6,q6⟩:=az;refine WL hp (bB (hb _ s6 σ6 H6 _ I6 q6) λf s7 q7=>?_);have again:∀{σ7:St}{H7:Hp},Inv X (pins++lJ fp s5.heap) σ7 H7 s7->N σ7 H7->∃m,m<n/\∃i σ' H',Inv X pins σ' H' s7/\tn i s7.heap/\(∀b∈fp,H' b=none)/\W i m σ' H':=λ{σ7 H7} I7 n7=>by
   obtain⟨m',hm,w7⟩:=hN σ7 H7 n7;refine⟨m',hm,i+1,σ7,H7,I7.unpinned,T.keep _ _ _ Re λb hb o e=>(I7.pin (b,o) (U_ _ (U_ _ (jP hb e)))).1,λb hb=>?_,w7⟩;obtain⟨o,e,d⟩:=T.obj _ _ Re b hb;exact(I7.pin (b,o) (U_ _ (U_ _ (jP hb e)))).2.1
  cases f with
  | next=>obtain⟨σ7,H7,I7,n7⟩:=q7;exact again I7 n7
  | cont=>obtain⟨σ7,H7,I7,n7⟩:=q7;exact again I7 n7
  | brk=>obtain⟨σ7,H7,I7,q7⟩:=q7;exact⟨σ7,H7,I7.unpinned,q7⟩
  | ret v=>obtain⟨x7,σ7,H7,I7,r7,q7⟩:=q7;exact⟨x7,σ7,H7,I7.unpinned,r7,q7⟩
end
abbrev R2:=V->V->Hp->VK->Prop
def jf(X:Cx)(f:Yz->Yz->Sem Yz)(r:R2):Prop:=
 ∀(pins:Yi)(s:YA)(σ:St)(H:Hp)(x y:V)(v u:Yz)(Q:VK),Inv X pins σ H s->RelV x v->RelV y u->r x y H Q->
  wpAny @3 X.A (f v u) (EP X pins σ Q) X.xe s
def QJ(X:Cx)(f:Yz->Sem Yz)(r:V->Hp->VK->Prop):Prop:=
 ∀(pins:Yi)(s:YA)(σ:St)(H:Hp)(x:V)(v:Yz)(Q:VK),Inv X pins σ H s->RelV x v->r x H Q->
  wpAny @3 X.A (f v) (EP X pins σ Q) X.xe s
def dG(X:Cx)(f:Yz)(r:YR->Hp->VK->Prop):Prop:=
 ∀(pins:Yi)(s:YA)(σ:St)(H:Hp)(xs:YR)(us:Yo)(Q:VK),Inv X pins σ H s->aB xs us->r xs H Q->
  wpAny @3 X.A (call f us) (EP X pins σ Q) X.xe s
def Qh(X:Cx)(r:V->Hp->(Bool->Hp->Prop)->Prop):Prop:=
 ∀(pins:Yi)(s:YA)(σ:St)(H:Hp)(x:V)(v:Yz)(Q:Bool->Hp->Prop),Inv X pins σ H s->RelV x v->r x H Q->
  wpAny @3 X.A (truthy v) (TP X pins σ Q) X.xe s
def IT(r:R2)(ta tb:TE):TE:=λσ H Q=>ta σ H λx H1=>tb σ H1 λy H2=>r x y H2 Q
def Uj(r:V->Hp->VK->Prop)(ta:TE):TE:=λσ H Q=>ta σ H λx H1=>r x H1 Q
def rI(C:Int->Int->Prop)(g:Int->Int->V):R2:=λx y H Q=>∃i j,x=.int i/\y=.int j/\C i j/\Q (g i j) H
def Bh(g:Int->Int->V):R2:=λx y H Q=>∃i j,x=.int i/\y=.int j/\Q (g i j) H
def rU(g:Int->V):V->Hp->VK->Prop:=λx H Q=>∃i,x=.int i/\Q (g i) H
section
variable {X:Cx}{a b c:YI}{ta tb tc:TE}{pos:Pos}
theorem Kd(ha:PE X a ta)(hb:PE X b tb){pins:Yi}{s:YA}{σ:St}{H:Hp}{R:V->V->Hp->Prop}(I:@5)
  (h:ta σ H λx H1=>tb σ H1 λy H2=>R x y H2) {Q:Yh} {f:Yz->Yz->Sem Yz}
  (hf:∀v u s2 x y H2,Inv X pins σ H2 s2->RelV x v->RelV y u->R x y H2->wpAny @3 X.A (f v u) Q X.xe s2) :
  wpAny @3 X.A (eval a X.env) (λv s₁=>wpAny @3 X.A (eval b X.env) (λu s₂=>wpAny @3 X.A (f v u) Q X.xe s₂) X.xe s₁) X.xe s:=by
 refine bB (ha pins s σ H _ I h) λv s1 az=>?_;obtain⟨x,H1,I1,r1,q1⟩:=az;refine bB (hb pins s1 σ H1 _ I1 q1) λu s2 az=>?_;obtain⟨y,H2,I2,r2,q2⟩:=az;exact hf v u s2 x y H2 I2 r1 r2 q2
theorem EM{op:Operator}{r:R2}(ho:jf X (binaryOp op) r)(ha:PE X a ta)(hb:PE X b tb):PE X (.BinOp a op b pos) (IT r ta tb):=by
 intro pins s σ H Q I h;exact wpAny_BinOp (Kd ha hb I h λv u s2 x y H2 I2 rx ry q=>ho pins s2 σ H2 x y v u Q I2 rx ry q)
theorem Jr(ho:QJ X (unaryOp op) r)(ha:PE X a ta):PE X (.UnaryOp op a pos) (Uj r ta):=by
 intro pins s σ H Q I h;exact UnaryOp_ (bB (ha pins s σ H _ I h) λv s1 ⟨x,H1,I1,r1,q1⟩=>ho pins s1 σ H1 x v Q I1 r1 q1)
theorem PC{f:Yz->Yz->Sem Yz}{C:Int->Int->Prop}{g:Int->Int->Int}
  (rule:∀(i j:Int)(t u:Tok)(s:YA)(Q:Yh)(E:Yh),C i j->Q (.int (g i j) s.toks) {s with toks:=s.toks+1}->wpAny @3 X.A (f (.int i t) (.int j u)) Q E s) :
  jf X f (rI C λi j=>.int (g i j)):=by
 intro pins s σ H x y v u Q I rx ry h;obtain⟨i,j,rfl,rfl,hc,q⟩:=h;obtain⟨t,rfl⟩:=rx;obtain⟨t',rfl⟩:=ry;exact rule i j t t' s _ _ hc ⟨.int (g i j),H,I.tok _,⟨_,rfl⟩,q⟩
theorem Mv{f:Yz->Yz->Sem Yz}{g:Int->Int->Int}
  (rule:∀(i j:Int)(t u:Tok)(s:YA)(Q:Yh)(E:Yh),Q (.int (g i j) s.toks) {s with toks:=s.toks+1}->wpAny @3 X.A (f (.int i t) (.int j u)) Q E s) :
  jf X f (Bh λi j=>.int (g i j)):=by
 intro pins s σ H x y v u Q I rx ry h;obtain⟨i,j,rfl,rfl,q⟩:=h;obtain⟨t,rfl⟩:=rx;obtain⟨t',rfl⟩:=ry;exact rule i j t t' s _ _ ⟨.int (g i j),H,I.tok _,⟨_,rfl⟩,q⟩
theorem JU{f:Yz->Yz->Sem Yz}{g:Int->Int->Bool}
  (rule:∀(i j:Int)(t u:Tok)(s:YA)(Q:Yh)(E:Yh),Q (.bool (g i j)) s->wpAny @3 X.A (f (.int i t) (.int j u)) Q E s) :
  jf X f (Bh λi j=>.bl (g i j)):=by
 intro pins s σ H x y v u Q I rx ry h;obtain⟨i,j,rfl,rfl,q⟩:=h;obtain⟨t,rfl⟩:=rx;obtain⟨t',rfl⟩:=ry;exact rule i j t t' s _ _ ⟨.bl (g i j),H,I,rfl,q⟩
def M4(i j:Int):Prop:=0<j/\j<1073741824
theorem KW:jf X (binaryOp .Add) (Bh λi j=>.int (i+j)):=Mv λ_ _ _ _ _ _ _ q=>add_int q
theorem K3:jf X (binaryOp .Sub) (Bh λi j=>.int (i-j)):=Mv λ_ _ _ _ _ _ _ q=>sub_int q
theorem Ia:jf X (binaryOp .FloorDiv) (rI M4 λi j=>.int (i/j)):=PC λi j _ _ _ _ _ hc q=>by
 have h1:(0:Int)<j:=hc.1;have h2:j<1073741824:=hc.2;exact floordiv_int @1 (by rw[Int.fdiv_eq_ediv_of_nonneg i @1];exact q) (.inl (PyProof.noPylong_small @1))
theorem Lb:jf X (binaryOp .Mod) (rI (λ_ j=>0<j) λi j=>.int (i%j)):=PC λi j _ _ _ _ _ hc q=>by
 have h1:(0:Int)<j:=hc;exact mod_int' @1 (by rw[Int.fmod_eq_emod_of_nonneg i @1];exact q)
theorem Up{f:Yz->Sem Yz}{g:Int->Int}
  (rule:∀(i:Int)(t:Tok)(s:YA)(Q:Yh)(E:Yh),Q (.int (g i) s.toks) {s with toks:=s.toks+1}->wpAny @3 X.A (f (.int i t)) Q E s) :
  QJ X f (rU λi=>.int (g i)):=by
 intro pins s σ H x v Q I rx h;obtain⟨i,rfl,q⟩:=h;obtain⟨t,rfl⟩:=rx;exact rule i t s _ _ ⟨.int (g i),H,I.tok _,⟨_,rfl⟩,q⟩
theorem Dd:QJ X (unaryOp .USub) (rU λi=>.int (-i)):=Up λ_ _ _ _ _ q=>neg_int q
end
section
variable {X:Cx}{a b c:YI}{ta tb tc:TE}{pos:Pos}
theorem Fk:jf X (compareOp .Lt) (Bh λi j=>.bl (decide (i<j))):=JU λ_ _ _ _ _ _ _ q=>lt_int q
theorem rj:jf X (compareOp .LtE) (Bh λi j=>.bl (decide (i<=j))):=JU λ_ _ _ _ _ _ _ q=>le_int q
theorem Jo:jf X (compareOp .Gt) (Bh λi j=>.bl (decide (j<i))):=JU λ_ _ _ _ _ _ _ q=>gt_int q
theorem eQ(b:YI)(h:op≠.In:=by decide)(h2:op≠.NotIn:=by decide):behindInMarks op b=false:=by
 have e1:(op==CmpOp.In)=false:=by cases op<;>first | rfl | exact absurd rfl h
 have e2:(op==CmpOp.NotIn)=false:=by cases op<;>first | rfl | exact absurd rfl h2
 cases b<;>simp[behindInMarks,e1,e2]
theorem HG{op:CmpOp}{r:R2}(ho:jf X (compareOp op) r)(ha:PE X a ta)(hb:PE X b tb)(hm:behindInMarks op b=false):PE X (.Compare a [op] [b] pos) (IT r ta tb):=by
 intro pins s σ H Q I h;exact wpAny_Compare1 (Kd ha hb I h λv u s2 x y H2 I2 rx ry q=>ho pins s2 σ H2 x y v u Q I2 rx ry q) hm
def NL(t:TE):TT:=λσ H Q=>t σ H λx H'=>∃k,x=.bl k/\Q k H'
theorem HD(ho:jf X (compareOp op) r)(ha:PE X a ta)(hb:PE X b tb)(hm:behindInMarks op b=false):PT X (.Compare a [op] [b] pos) (NL (IT r ta tb)):=by
 intro pins s σ H Q I h;refine wpAny_isTrue_Compare1 (bB (ha pins s σ H _ I h) λv s1 ⟨x,H1,I1,r1,q1⟩=>bB (hb pins s1 σ H1 _ I1 q1) λu s2 ⟨y,H2,I2,r2,q2⟩=>
  bB (ho pins s2 σ H2 x y v u _ I2 r1 r2 q2) λc s3 ⟨z,H3,I3,r3,k,e,q3⟩=>?_) hm
 subst e;cases r3;exact Vb ⟨H3,I3,q3⟩
def Fd(r r':R2)(ta tb tc:TE):TE:=λσ H Q=>ta σ H λx H1=>tb σ H1 λy H2=>r x y H2 λz H3=>∃k,z=.bl k/\
 (if k=true then tc σ H3 λw' H4=>r' y w' H4 Q else Q (.bl false) H3)
theorem EW(ho:jf X (compareOp op) r)(wV:jf X (compareOp op') r')(ha:PE X a ta)(hb:PE X b tb)(hc:PE X c tc)
  (hm:lastMarks [op,op'] [b,c]=false:=by with_unfolding_all rfl):PE X (.Compare a [op,op'] [b,c] pos) (Fd r r' ta tb tc):=by
 intro pins s σ H Q I h;refine Compare_chain (bB (ha pins s σ H _ I h) λv s1 ⟨x,H1,I1,r1,q1⟩=>chain_link (bB (hb pins s1 σ H1 _ I1 q1) λu s2 ⟨y,H2,I2,r2,q2⟩=>
  bB (ho pins s2 σ H2 x y v u _ I2 r1 r2 q2) λd s3 ⟨z,H3,I3,r3,k,e,q3⟩=>?_)) hm
 subst e;cases r3;refine Vb ?_;cases k with
 | false=>exact ite_ff ⟨.bl false,H3,I3,rfl,q3⟩
 | true=>exact ite_tt (chain_last (bB (hc pins s3 σ H3 _ I3 q3) λw' s4 ⟨z',H4,I4,r4,q4⟩=>wV pins s4 σ H4 y z' u w' Q I4 r2 r4 q4))
def NF(K:Yy)(x:V)(H:Hp)(k:Bool):Prop:=
 match x with
 | .non=>k=false
 | .bl b=>k=b
 | .int i=>k=(i != 0)
 | .str y=>y.length<=sizeLine/\k=((y.length:Int) != 0)
 | .byt y=>y.size<=sizeLine/\k=((y.size:Int) != 0)
 | .ref p=>(∃xs,cY K H p xs/\k=!xs.isEmpty)\/(∃xs,cR K H p xs/\k=!xs.isEmpty)\/∃lg,H p=some (.dK lg)/\k=!lg.isEmpty
 | _=>False
theorem xS(r:KV lg vs):(!vs.isEmpty)=!lg.isEmpty:=by
 cases r<;>rfl
theorem nV(r:aB xs br):(!br.toArray.isEmpty)=!xs.isEmpty:=by
 cases r<;>simp
theorem nQ:(sizeLine:Nat)<2 ^ 63:=by rw[UI];decide
theorem Lx:Qh X (λx H Q=>∃k,NF X.K x H k/\Q k H):=by
 intro pins s σ H x v Q I rx h;obtain⟨k,e,q⟩:=h;have hl:=nQ;have hs:sizeLine=16777216:=UI;cases x with
 | non=>
  cases rx;have e':k=false:=e;subst e';exact truthy_none ⟨H,I,q⟩
 | bl b=>
  cases rx;have e':k=b:=e;subst e';exact Vb ⟨H,I,q⟩
 | int i=>
  obtain⟨t,rfl⟩:=rx;have e':k=(i != 0):=e;subst e';exact PySem.P.truthy_int ⟨H,I,q⟩
 | str y=>
  obtain⟨t,rfl⟩:=rx;obtain⟨hy,e'⟩:y.length<=sizeLine/\k=((y.length:Int) != 0):=e;subst e';exact PySem.P.truthy_str @1 ⟨H,I.tok _,q⟩
 | byt y=>
  obtain⟨t,rfl⟩:=rx;obtain⟨hy,e'⟩:y.size<=sizeLine/\k=((y.size:Int) != 0):=e;subst e';exact PySem.W.truthy_bytes @1 ⟨H,I.tok _,q⟩
 | ref p=>
  cases rx;have e':(∃xs,cY X.K H p xs/\k=!xs.isEmpty)\/(∃xs,cR X.K H p xs/\k=!xs.isEmpty)\/∃lg,H p=some (.dK lg)/\k=!lg.isEmpty:=e;rcases e' with ⟨xs,hx,e'⟩ | ⟨xs,hx,e'⟩ | ⟨lg,hx,e'⟩
  .subst e';obtain⟨br,r,pl,hz⟩:=I.list hx;have hlen:=r.length;exact wpAny_truthy_list pl.isList (by simp only[s_];omega) ⟨H,I.tok _,by rw[nV r];exact q⟩
  .subst e';obtain⟨br,r,pl,hz⟩:=I.tuple hx;have hlen:=r.length;exact truthy_tuple pl (by simp only[s_];omega) ⟨H,I.tok _,by rw[nV r];exact q⟩
  .subst e';obtain⟨hz,hS,vs,r,m⟩:lg.length<=sizeLine/\(p==sysModules)=false/\∃vs,KV lg vs/\s.heap.DictOf (aJ X.prog X.w) p vs:=I.hok p _ hx;have hlen:lg.length=vs.length:=Paired.length r;exact wpAny_truthy_dict hS m @1 ⟨H,I.tok _,by rw[xS r];exact q⟩
 | _=>exact(show False from e).elim
theorem El(ha:PE X a ta)(he:∀whole,isTrue a X.env whole=(do let v <- whole;standAt a.pos;holding [v] (truthy v))) :
  PT X a (λσ H Q=>ta σ H λx H'=>∃k,NF X.K x H' k/\Q k H'):=by
 intro pins s σ H Q I h;exact isTrue_plain (bB (ha pins s σ H _ I h) λv s1 ⟨x,H1,I1,r1,q1⟩=>Lx pins s1 σ H1 x v Q I1 r1 q1) (he _)
theorem vals1(r:aB [x] us):∃u,us=[u]/\RelV x u:=by
 cases r with
 | cons r1 r2=>cases r2;exact⟨_,rfl,r1⟩
theorem vals2(r:aB [x,y] us):∃u w',us=[u,w']/\RelV x u/\RelV y w':=by
 cases r with
 | cons r1 r2=>
  cases r2 with
  | cons r3 r4=>cases r4;exact⟨_,_,rfl,r1,r3⟩
theorem BP(hc:X.calm=true):dG X (.builtin "max") (λxs H Q=>∃i j,xs=[.int i,.int j]/\Q (.int (if j>i then j else i)) H):=by
 intro pins s σ H xs us Q I r h;obtain⟨i,j,rfl,q⟩:=h;obtain⟨u,w',rfl,⟨t,rfl⟩,⟨t',rfl⟩⟩:=vals2 r;refine max_two_ints (I.ok.hd hc) λh' tk k=>⟨_,H,I.kept k,?_,q⟩
 by_cases hj:j>i
 .rw[h_ hj,h_ hj];exact⟨_,rfl⟩
 .rw[i_ hj,i_ hj];exact⟨_,rfl⟩
theorem Bz(hc:X.calm=true):dG X (.builtin "min") (λxs H Q=>∃i j,xs=[.int i,.int j]/\Q (.int (if j<i then j else i)) H):=by
 intro pins s σ H xs us Q I r h;obtain⟨i,j,rfl,q⟩:=h;obtain⟨u,w',rfl,⟨t,rfl⟩,⟨t',rfl⟩⟩:=vals2 r;refine min_two_ints (I.ok.hd hc) λh' tk k=>⟨_,H,I.kept k,?_,q⟩
 by_cases hj:j<i
 .rw[h_ hj,h_ hj];exact⟨_,rfl⟩
 .rw[i_ hj,i_ hj];exact⟨_,rfl⟩
theorem A9:dG X (.type "int") (λxs H Q=>(∃i,xs=[.int i]/\Q (.int i) H)\/∃k,xs=[.bl k]/\Q (.int (if k then 1 else 0)) H):=by
 intro pins s σ H xs us Q I r h;rcases h with ⟨i,rfl,q⟩ | ⟨k,rfl,q⟩
 .obtain⟨u,rfl,t,rfl⟩:=vals1 r;exact call_int_int ⟨.int i,H,I,⟨_,rfl⟩,q⟩
 .obtain⟨u,rfl,r1⟩:=vals1 r;cases r1;exact call_int_bool ⟨.int (if k then 1 else 0),H,I.tok _,⟨_,rfl⟩,q⟩
end
structure ObjM(h:Heap)(x dx C:Addr)(mA:Str->Option Value):Prop where
 obj:h.get? x=some (PySem.W.instObj C dx)
 ns:h.Ns1 dx mA
 ne:dx≠x
section
variable {prog:YB}{w:YE}{A:YC}{E:Yh}{s:YA}{K:Yy}{x dx C f:YH}{mA:Yk}{name:Str}{v:Yz}
end
section
variable {P:YB}{w:YE}{H H':Hp}{h h':YD}{a C dx:YH}{fs Ox:List (Str×V)}
end
structure Cls(K:PySem.W.Frag)(C:Addr):Prop where
 pg:PySem.W.plainGet K C Str.empty=true
 hd:PySem.W.hasDictIn K C=true
 po:PySem.W.plainOver K C=true
 sa:PySem.W.findIn K (.ref C) "__setattr__"=some (some (.builtin "object.__setattr__"))
structure Con(K:PySem.W.Frag)(C:Addr)(f:Str)(v:V)(u:Value):Prop where
 at_:PySem.W.findIn K (.ref C) f=some (some u)
 rel:RelV v u
 get:PySem.W.specialIn K u "__get__"=some none
 cp:PySem.W.copiedNames.contains f=false
structure Meth(K:PySem.W.Frag)(C:Addr)(m:Str)(f:Addr):Prop where
 at_:PySem.W.findIn K (.ref C) m=some (some (.ref f))
 fn:PySem.W.isFn K (.ref f)=true
 kp:PySem.W.keepIn K (.ref f)=true
section
variable {X:Cx}{pins:Yi}{σ:St}{H:Hp}{s:YA}{a C dx:YH}{fs:List (Str×V)}{f:Str}{v:V}{A:YC}{E:Yh}
end
def Qb(X:Cx)(op:Operator)(rd:V->V->Hp->VK->Prop):Prop:=
 ∀(pins:Yi)(s:YA)(σ:St)(H:Hp)(x y:V)(u v:Yz)(Q:VK),Inv X pins σ H s->RelV x u->RelV y v->rd x y H Q->wpAny @3 X.A (inplaceOp op u v) (EP X pins σ Q) X.xe s
section
variable {X:Cx}{o e value:YI}{f:Str}{pos pos' tpos:Pos}{ta tv:TE}
def rAdd:V->V->Hp->VK->Prop:=λx y H Q=>∃i j,x=.int i/\y=.int j/\Q (.int (i+j)) H
theorem JO:Qb X .Add rAdd:=by
 rintro pins s σ H x y u v Q I rx ry ⟨i,j,rfl,rfl,q⟩;obtain⟨t,rfl⟩:=(show ∃t,u=Value.int i t from rx);obtain⟨t',rfl⟩:=(show ∃t',v=Value.int j t' from ry);exact PyProof.Rows.iadd_int ⟨.int (i+j),H,I.tok _,⟨_,rfl⟩,q⟩
end
section
variable {X:Cx}{pins:Yi}{σ:St}{H:Hp}{s:YA}{A:YC}{E:Yh}{Q:Yh}{c:Yz}{b:Bool}
inductive pG(K:PySem.W.Frag)(H:Hp):V->Value->Prop where
 | non:pG K H .non (.type "NoneType")
 | bl (x:Bool):pG K H (.bl x) (.type "bool")
 | int (i:Int):pG K H (.int i) (.type "int")
 | str (x:Str):pG K H (.str x) (.type "str")
 | flt (x:UInt64):pG K H (.flt x) (.type "float")
 | lst {a:Addr} {xs:List V} (e:H a=some (.lst xs)):pG K H (.ref a) (.type "list")
 | frz {a:Addr} {o:Obj} {xs:List V} (e:H a=some (.frz o (.lst xs))):pG K H (.ref a) (.type "list")
 | tup {a:Addr} {xs:List V} (e:H a=some (.tup xs)):pG K H (.ref a) (.type "tuple")
 | dK {a:Addr} {lg:List (Key×V)} (e:H a=some (.dK lg)):pG K H (.ref a) (.type "dict")
 | dT {a:Addr} {lg:List (List Key×V)} (e:H a=some (.dT lg)):pG K H (.ref a) (.type "dict")
 | ins {a C dx:Addr} {fs:List (Str×V)} (e:H a=some (.ins C dx fs)) (cl:Cls K C) (ha:PySem.W.findIn K (.ref C) "__class__"=some (some (.builtin "object.__class__")))
   (hn:PySem.W.specialIn K (.builtin "object.__class__") "__get__"=some (some (.builtin "getset_descriptor.__get__"))) (LN:PySem.W.takesIn K (.builtin "object.__class__")=some true)
   (hm:PySem.W.mroIn K C (.type "object")=some true):pG K H (.ref a) (.ref C)
end
structure bF(k:Nat)(A:Around):Prop where
 hd:A.handled=none
 dp:A.depth+3*k+5<recursionLimit
 un:A.units+16*k+200<cLine
theorem bF.mono(r:bF k A)(h:j<=k):bF j A:=⟨r.hd,by have:=r.dp;omega,by have:=r.un;omega⟩
theorem bF.deeper(r:bF (k+1) A)(env:Env):bF k (A.deeper env):=
 ⟨r.hd,by have:=r.dp;show A.depth+1+3*k+5<_;omega,by have:=r.un;show A.units+3+16*k+200<_;omega⟩
theorem wY{A:YC}{C:YH}{us:Yo}{kw:List (Str×Yz)}:(A.under (.builtin "type.__call__" ⟨.ref C::us,kw⟩)).depth=A.depth+1:=by
 first | rfl | simp[Around.under,Code.weight,Code.isCreation,Code.isGuard,Code.isCaller,Code.frames,Code.isFrame,guardIds]
theorem xb{A:YC}{C:YH}{us:Yo}{kw:List (Str×Yz)}:(A.under (.builtin "type.__call__" ⟨.ref C::us,kw⟩)).units=A.units+1:=by
 first | rfl | simp[Around.under,Code.cUnits,Code.frames,Code.isFrame]
theorem bF.make(r:bF (k+1) A)(C:YH)(us:Yo)(kw:List (Str×Yz)):bF k (A.under (.builtin "type.__call__" ⟨.ref C::us,kw⟩)):=
 ⟨r.hd,by have:=r.dp;rw[wY];omega,by have:=r.un;rw[xb];omega⟩
theorem bF.depth(r:bF k A):A.depth<recursionLimit:=by have:=r.dp;omega
theorem bF.units(r:bF k A):A.units+64<cLine:=by have:=r.un;omega
def tNil:TA:=λ_ H Q=>Q [] H
def eu(ta:TE)(tr:TA):TA:=λσ H Q=>ta σ H λx H1=>tr σ H1 λxs H2=>Q (x::xs) H2
section
variable {X:Cx}{e:YI}{es:Yt}{te:TE}{t:TA}{pos:Pos}
theorem b9:PA X [] tNil:=λ_ _ _ _ H Q I h=>XR ⟨[],H,I,.nil,h⟩
theorem aP(ha:PE X e te)(hr:PA X es t)(hs:starEach (e::es) X.env=(false,eval e X.env)::starEach es X.env:=by rfl):PA X (e::es) (eu te t):=by
 intro pos pins s σ H Q I h;rw[hs];show wpAny _ _ (spliced ((false,eval e X.env)::backTo pos (starEach es X.env))) _ _ s;refine WR (bB (ha pins s σ H _ I h) λu s1 az=>?_);obtain⟨x,H1,I1,r1,q1⟩:=az;exact bB (hr pos pins s1 σ H1 _ I1 q1) λus s2 ⟨xs,H2,I2,r2,q2⟩=>⟨x::xs,H2,I2,.cons r1 r2,q2⟩
def Qw(t:TA):TE:=λσ H Q=>t σ H λxs H1=>xs.length<=sizeLine/\∀p,H1 p=none->Q (.ref p) (upd H1 p (.tup xs))
def Ht(t:TA):TE:=λσ H Q=>t σ H λxs H1=>xs.length<=sizeLine/\∀p,H1 p=none->Q (.ref p) (upd H1 p (.lst xs))
theorem JZ{x1}(h:PA X es t):PE X (.Tuple es x1 pos) (Qw t):=by
 intro pins s σ H Q I hq;refine wpAny_Tuple_spliced (bB (h pos pins s σ H _ I hq) λus s1 ⟨xs,H1,I1,r,z,q⟩=>⟨by rw[<- r.length];exact z,?_⟩);have hf:H1 s1.sz=none:=I1.hok.fresh (m_ _);refine⟨.ref s1.sz,upd H1 s1.sz (.tup xs),I1.laid (t':=s1.toks) (λb u e=>d_ _ e) (m_ _) ?_,rfl,q _ hf⟩;exact⟨z,us,r,⟨_,o_ _ rfl,rfl,_,rfl⟩⟩
theorem sD(h:PA X es t):PE X (.List es pos) (Ht t):=by
 intro pins s σ H Q I hq;refine wpAny_List_spliced (bB (h pos pins s σ H _ I hq) λus s1 ⟨xs,H1,I1,r,z,q⟩=>⟨by rw[<- r.length];exact z,?_⟩);have hf:H1 s1.sz=none:=I1.hok.fresh (m_ _);refine⟨.ref s1.sz,upd H1 s1.sz (.lst xs),I1.laid (t':=s1.toks) (λb u e=>d_ _ e) (m_ _) ?_,rfl,q _ hf⟩;exact⟨z,us,0,r,o_ _ rfl⟩
end
abbrev Sp:=YR->Hp->VK->XK->Prop
abbrev CXT:=List Env->Hp->YA->XK->Yh
structure wL(P:Program)(w:World)(K:PySem.W.Frag)(mg:Str->Option Value)(base:Heap)(A:Around)(outer:List Env)(s:Shared)(H:Hp):Prop where
 frames:A.frames=some outer
 mod:Mod K mg base
 bs:∀b o,base.get? b=some o->s.heap.get? b=some o/\H b=none
 bsz:base.objs.size<=s.sz
 funs:s.heap.FunFrames base outer
 frf:∀b∈mP outer,H b=none
 hok:mI P w H s.heap
 bare:AllBare s.gens
def CE(outer:List Env)(P:YB)(w:YE)(H:Hp)(s:YA)(Q:VK)(u:Yz)(s':YA):Prop:=
 ∃v H',s'.os=s.os/\AllBare s'.gens/\Un (mP outer) [] H H' s.heap s'.heap/\mI P w H' s'.heap/\RelV v u/\Q v H'
def CR(CX:CXT)(outer:List Env)(P:YB)(w:YE)(H:Hp)(s:YA)(Q:VK)(E:XK)(r:Result)(s':YA):Prop:=
 match r with
 | .ok (.ret u)=>CE outer P w H s Q u s'
 | .ok _=>False
 | .error e=>CX outer H s E e s'
structure eh(P:Program)(w:World)(K:PySem.W.Frag)(mg:Str->Option Value)(base:Heap)(CX:CXT)(k:Nat)(f:Addr)(fd:FuncData)(ps:List Str)(sp:Sp):Prop where
 len:∀vs H Q E,sp vs H Q E->vs.length=ps.length
 run:∀(A:Around)(outer:List Env)(s:Shared)(H:Hp)(args:Args)(us:List Value)(vs:List V)(Q:VK)(E:XK),bF k A->wL P w K mg base A outer s H->BindsTo s fd args (ps.zip us)->aB vs us->sp vs H Q E->
  codeAny (model P w) A (.call (.ref f) args) (CR CX outer P w H s Q E) s
theorem eh.mono{P:YB}{w:YE}{K:Yy}{mg:Yk}{base:YD}{CX:CXT}{j k:Nat}{f:YH}{fd:YF}{ps:Yr}{sp:Sp}(F:eh P w K mg base CX j f fd ps sp)(h:j<=k) :
  eh P w K mg base CX k f fd ps sp:=⟨F.len,λA outer s H args us vs Q E hr=>F.run A outer s H args us vs Q E (hr.mono h)⟩
theorem wL.make{P:YB}{w:YE}{K:Yy}{mg:Yk}{base:YD}{A:YC}{outer:List Env}{s:YA}{H:Hp}(e:wL P w K mg base A outer s H)(C:YH)(us:Yo)(kw:List (Str×Yz)) :
  wL P w K mg base (A.under (.builtin "type.__call__" ⟨.ref C::us,kw⟩)) outer s H:=⟨by first | exact e.frames | (simpa [Around.under,Code.envs,Code.isFrame,pushEnvs]using e.frames),e.mod,e.bs,e.bsz,e.funs,e.frf,e.hok,e.bare⟩
section
variable {X:Cx}{pins:Yi}{σ:St}{H:Hp}{s s':YA}
theorem Inv.env0(I:@5):wL X.prog X.w X.K X.mg X.base X.A X.stack s H:=
 ⟨I.ok.frames,I.ok.mod,I.bs,B_ I.ok.bsz I.sz,I.stack,I.stkFree,I.hok,I.bare⟩
theorem Inv.after(I:@5)(h:CE X.stack X.prog X.w H s Q u s'):EP X pins σ Q u s':=by
 obtain⟨v,H',os,bare,un,hok,r,q⟩:=h;obtain⟨hh,g,d,t,os'⟩:=s';obtain rfl:os'=s.os:=os;exact⟨v,H',I.call (h':=hh) (g':=g) (d':=d) (t':=t) (ch:=[]) un hok bare (λb z=>absurd z @8),r,q⟩
end
def CS(sp:Sp)(dvs:YR)(E:XK)(t:TA):TE:=λσ H Q=>t σ H λvs H1=>sp (vs++dvs) H1 Q E
def Binds(K:Yy)(fd:YF)(ps:Yr)(ds:Yo):Prop:=
 ∀(s:YA)(us:Yo),K.In s.heap->(us++ds).length=ps.length->BindsTo s fd ⟨us,[]⟩ (ps.zip (us++ds))
theorem Binds.all{K:Yy}{fd:YF}{ps:Yr}(h:∀us:Yo,us.length=ps.length->bindArgs fd ⟨us,[]⟩=pure (ps.zip us)):Binds K fd ps []:=λs us _ hl=>by
 rw[UG]at hl ⊢;exact .of_eq (h us hl)
def yq(CX:CXT)(X:Cx)(E:XK):Prop:=∀(pins:Yi)(σ:St)(H:Hp)(s:YA)(e:Yz)(s':YA),Inv X pins σ H s->CX X.stack H s E e s'->X.xe e s'
section
variable {X:Cx}{CX:CXT}{k:Nat}{f C:YH}{fd:YF}{ps:Yr}{sp:Sp}{dvs:YR}{ds:Yo}{E:XK}{x m:Str}{p pos apos:Pos}{e o:YI}{es:Yt}{ta:TE}{t:TA}
theorem KJ(F:eh X.prog X.w X.K X.mg X.base CX k f fd ps sp)(hr:bF k X.A)(hb:Binds X.K fd ps ds)(hd:aB dvs ds)(hx:yq CX X E)
  (I:@5) (r:aB vs us) (h:sp (vs++dvs) H Q E):wpAny @3 X.A (call (.ref f) us) (EP X pins σ Q) X.xe s:=by
 have r2:aB (vs++dvs) (us++ds):=r.append hd;have hl:(us++ds).length=ps.length:=by rw[<- r2.length];exact F.len _ _ _ _ h
 refine Xh (V7 (F.run X.A X.stack s H ⟨us,[]⟩ (us++ds) (vs++dvs) Q E hr I.env0 (hb s us I.kIn hl) r2 h) λr s' hq=>?_);cases r with
 | error e=>exact hx pins σ H s e s' I hq
 | ok fl=>
  cases fl with
  | ret u=>exact I.after hq
  | next=>exact False.elim hq
  | brk=>exact False.elim hq
  | cont=>exact False.elim hq
theorem Gz(F:eh X.prog X.w X.K X.mg X.base CX k f fd ps sp)(hr:bF k X.A)(hg:Gl X x)(hm:X.mg x=some (.ref f))(hk:PySem.W.keepIn X.K (.ref f)=true)(hb:Binds X.K fd ps ds)(hd:aB dvs ds)(hx:yq CX X E)
  (ha:PA X (e::es) t) (k8:@9:=by decide) (he:starEach (e::es) X.env=(false,eval e X.env)::starEach es X.env:=by rfl) (fy:(backTo pos (starEach es X.env)).any (·.1)=false:=by rfl) :
  PE X (.Call (.Name x p) (e::es) [] pos) (CS sp dvs E t):=by
 intro pins s σ H Q I h;refine VH (jb I hg hm ?_ k8);refine Wi (h₀:=X.base) I.ok.mod.kin hk (bB (ha pos pins s σ H _ I h) λus s1 ⟨vs,H1,I1,r,q⟩=>⟨I1.kIn,?_⟩) he fy;exact KJ F hr hb hd hx I1 r q
structure Mk(K:PySem.W.Frag)(C f:Addr):Prop where
 makes:PySem.W.makesIn K C=true
 init:PySem.W.findIn K (.ref C) "__init__"=some (some (.ref f))
 fn:PySem.W.isFn K (.ref f)=true
 kp:PySem.W.keepIn K (.ref C)=true
end
section
variable {X:Cx}{CX:CXT}{k:Nat}{f C:YH}{fd:YF}{ps ks:Yr}{sp:Sp}{E:XK}{x m:Str}{p pos apos kpos:Pos}{e o:YI}{es:Yt}{kws:List Keyword}{te ta:TE}{t tk:TA}{nm:Option Str}
structure KBinds(K:PySem.W.Frag)(fd:FuncData)(ps ks:List Str)(g:List Value->List Value->List Value)(gV:List V->List V->List V):Prop where
 to:∀(s:Shared)(us ws:List Value),K.In s.heap->(g us ws).length=ps.length->BindsTo s fd ⟨us,ks.zip ws⟩ (ps.zip (g us ws))
 rel:∀{vs:List V}{us:List Value}{zs:List V}{ws:List Value},aB vs us->aB zs ws->aB (gV vs zs) (g us ws)
variable {g:Yo->Yo->Yo}{gV:YR->YR->YR}
end
structure cm(N P:List Str)(sc:Scope):Prop where
 kind:sc.kind=.function
 co:sc.isCoroutine=false
 gen:sc.isGenerator=false
 nd:N.Nodup
 pre:N.take P.length=P
 par:∀x∈P,sc.names.lookup x=some .local\/sc.names.lookup x=some .cell
 nofree:∀y∈sc.names,y.2≠.free
theorem qD{kindOf:Str->Option NameKind}{x:Str}:∀{binds:List (Str×Yz)}{m:Yk},(∀v,(x,v)∉binds)->bindL kindOf binds m x=m x
 | [],_,_=>rfl
 | (n,v)::r,m,h=>by
  unfold bindL;rw[qD λw hw=>h w (f_ _ hw)]
  split
  .have:x≠n:=by rintro rfl;exact h v g_
   simp[this]
  .rfl
theorem qF{kindOf:Str->Option NameKind}{x:Str}:∀{binds:List (Str×Yz)}{m:Yk},(∀v,(x,v)∉binds)->bindC kindOf binds m x=m x
 | [],_,_=>rfl
 | (n,v)::r,m,h=>by
  unfold bindC;rw[qF λw hw=>h w (f_ _ hw)]
  split
  .rfl
  .have:x≠n:=by rintro rfl;exact h v g_
   simp[this]
theorem qO{kindOf:Str->Option NameKind}{x:Str}{v:Yz}:∀{P:Yr}{vs:Yo}{i:Nat}{m:Yk},P.Nodup->P[i]?=some x->vs[i]?=some v->kindOf x=some .local->
  bindL kindOf (P.zip vs) m x=some v
 | [],_,_,_,_,h,_,_=>by simp at h
 | _::_,[],_,_,_,_,h,_=>by simp at h
 | p::P,w::vs,0,m,nd,h1,h2,hk=>by
  simp at h1 h2;subst h1;subst h2;show bindL kindOf ((p,w)::P.zip vs) m p=_;unfold bindL;rw[qD λv hv=>(V3.mp nd).1 (WM hv).1,h_ hk];simp
 | p::P,w::vs,i+1,m,nd,h1,h2,hk=>by
  show bindL kindOf ((p,w)::P.zip vs) m x=_;unfold bindL;exact qO (i:=i) (V3.mp nd).2 (by simpa using h1) (by simpa using h2) hk
theorem qu{kindOf:Str->Option NameKind}{x:Str}{v:Yz}:∀{P:Yr}{vs:Yo}{i:Nat}{m:Yk},P.Nodup->P[i]?=some x->vs[i]?=some v->kindOf x≠some .local->
  bindC kindOf (P.zip vs) m x=some v
 | [],_,_,_,_,h,_,_=>by simp at h
 | _::_,[],_,_,_,_,h,_=>by simp at h
 | p::P,w::vs,0,m,nd,h1,h2,hk=>by
  simp at h1 h2;subst h1;subst h2;show bindC kindOf ((p,w)::P.zip vs) m p=_;unfold bindC;rw[qF λv hv=>(V3.mp nd).1 (WM hv).1,i_ hk];simp
 | p::P,w::vs,i+1,m,nd,h1,h2,hk=>by
  show bindC kindOf ((p,w)::P.zip vs) m x=_;unfold bindC;exact qu (i:=i) (V3.mp nd).2 (by simpa using h1) (by simpa using h2) hk
def start(N:Yr)(vs:YR):St:=vs.map some++List.replicate (N.length-vs.length) none
def gu(CX:CXT)(P:YB)(w:YE)(K:Yy)(mg:Yk)(base:YD)(N:Yr)(qual:Str)(scope:YG)(f:YH)(cd:Yz)(A:YC)(outer:List Env)(s:YA)(H:Hp)(E:XK):Cx where
 prog:=P
 w:=w
 K:=K
 mg:=mg
 base:=base
 A:=A.deeper (envOfC qual scope s.sz f cd)
 N:=N
 s₀:=s
 H₀:=H
 env:=envOfC qual scope s.sz f cd
 outer:=outer
 stack:=envOfC qual scope s.sz f cd::outer
 ex:=[]
 calm:=true
 fn:=λ_=>true
 pn:=[]
 xe:=λe s'=>wpAny (model P w) (A.deeper (envOfC qual scope s.sz f cd)) (leaving (envOfC qual scope s.sz f cd) e) (λ_ OD=>CX outer H s E e OD) (λe' OD=>CX outer H s E e' OD) s'
theorem ux{sc:YG}{n:Nat}{x:Str}(h:sc.names.lookup x=some .cell):∃c,(cellsFrom n sc.names []).lookup x=some c:=by
 have q:=Wj sc.names n [] (.inl h);exact Option.isSome_iff_exists.mp q
theorem lB{CX:CXT}{P:YB}{w:YE}{K:Yy}{mg:Yk}{base:YD}{N ps:Yr}{qual:Str}{scope:YG}{f:YH}{cd:Yz}{A:YC}{outer:List Env}{s s1:YA}{H:Hp}{E:XK}{us:Yo}{vs:YR}
  (S:cm N ps scope) (hd:A.handled=none) (e0:wL P w K mg base A outer s H) (hl:vs.length=ps.length) (r:aB vs us)
  (x:InCallC s s.sz (bindL (envOfC qual scope s.sz f cd).kindOf (ps.zip us) λ_=>none) (cellsFrom (s.sz+1) scope.names []) (bindC (envOfC qual scope s.sz f cd).kindOf (ps.zip us) λ_=>none) s1) :
  Inv (gu CX P w K mg base N qual scope f cd A outer s H E) [] (start N vs) H s1:=by
 have fy:ps.length<=N.length:=by have:=VE List.length S.pre;rw[VW]at this;omega
 obtain⟨h1,tk,rfl,hk⟩:=x.done;have OE:∀b:YH,b∉(gu CX P w K mg base N qual scope f cd A outer s H E).ex:=λb z=>absurd (show b∈([]:Ys)from z) @8;refine⟨⟨e0.mod,S.kind,rfl,rfl,m_ _,λy z c h1 h2=>?_,λy hy=>?_,λy c _ h=>?_,λ_=>hd,Around.frames_deeper e0.frames,.inr ⟨rfl,rfl⟩,λb z=>absurd z (OE b),e0.bs,e0.bsz,λb _ _=>OE b,λb z=>absurd z (OE b),e0.funs,e0.frf⟩,
  rfl,e0.bare,Un.kept hk,⟨_,x.toInCall.ns,λi y v h1 h2 h3=>?_⟩,λy c h=>⟨_,x.cell y c h⟩,e0.hok.fresh (m_ _),λy c h=>?_,λp hp=>absurd (show p∈([]:Yi)from hp) @8,e0.hok.kept hk,?_⟩
 .exact name_of_addr x.apart (U8 h1) (U8 h2)
 .have hy:scope.names.lookup y=some .cell\/scope.names.lookup y=some .free:=hy;rcases hy with hy | hy
  .exact ux hy
  .exact absurd rfl (S.nofree _ (U8 hy))
 .exact Xw (x.above y c (U8 h))
 .have hi:i<vs.length:=by
   unfold start at h2
   by_cases hi:i<vs.length
   .exact hi
   .rw[R_ (by simpa using hi)]at h2;rw[Ve]at h2
    split at h2<;>cases h2
  have ha:vs[i]?=some v:=by
   unfold start at h2;rw[S_ (by simpa using hi),x_]at h2;cases e:vs[i]? with
   | none=>rw[e]at h2;cases h2
   | some a=>rw[e]at h2;cases h2;rfl
  obtain⟨u,hu,rv⟩:=r.get ha;have hp:ps[i]?=some y:=by
   rw[<- S.pre,List.getElem?_take_of_lt @1];exact h1
  have S5:ps.Nodup:=by rw[<- S.pre];exact S.nd.sublist (W2 _ _)
  refine⟨u,rv,?_⟩;rcases S.par y (UW hp)with k | k
  .exact .inl ⟨k,qO S5 hp hu k⟩
  .obtain⟨c,e⟩:=ux (n:=s.sz+1) k;refine .inr ⟨.inl k,c,e,?_⟩;have q:=x.cell y c e;rw[qu S5 hp hu (by show scope.names.lookup y≠_;rw[k];decide)]at q;exact q
 .exact e0.hok.fresh (Xw (x.above y c (U8 h)))
 .unfold start;show _=N.length;rw[u_,c_,Wp];omega
theorem EH{CX:CXT}{P:YB}{w:YE}{K:Yy}{mg:Yk}{base:YD}{k:Nat}{f:YH}{name qual:Str}{params:Arguments}{body:Yu}{scope:YG}{dV kV doc pm bS ct oc:Yz}{an od:Yq}
  {ug:Yj} {N ps:Yr} {sp:Sp} (lk:K.lookup f=some ⟨oc,od,.func (PySem.W.fnOf name qual params body scope dV kV doc pm an bS ct),ug⟩) (fX:PySem.W.codeIn K bS qual=true) (S:cm N ps scope)
  (len:∀vs H Q E,sp vs H Q E->vs.length=ps.length)
  (hbody:∀(A:YC)(outer:List Env)(s:YA)(H:Hp)(vs:YR)(Q:VK)(E:XK),bF k (A.deeper (envOfC qual scope s.sz f bS))->sp vs H Q E->
   ∃t,PSs (gu CX P w K mg base N qual scope f bS A outer s H E) body t/\t {nx:=λ_ H'=>Q .non H',rt:=Q} (start N vs) H) :
  eh P w K mg base CX (k+1) f (PySem.W.fnOf name qual params body scope dV kV doc pm an bS ct) ps sp:=by
 refine⟨len,λA outer s H args us vs Q E hr e0 hb r mE=>?_⟩;have hl:=len _ _ _ _ mE;have KX:K.In s.heap:=e0.mod.kin.keeps λb o e=>(e0.bs b o e).1;have lim:s.heap.NoLimit:=e0.mod.nolimit.keeps λb o e=>(e0.bs b o e).1;have cM:∀y∈ps.zip us,scope.names.lookup y.1=some .local\/(scope.names.lookup y.1=some .cell/\((cellsFrom (s.sz+1) scope.names []).lookup y.1).isSome=true):=λ⟨n,v⟩ hy=>by
  rcases S.par n (WM hy).1 with q | q
  .exact .inl q
  .exact .inr ⟨q,Wj _ _ _ (.inl q)⟩
 refine Xd hr.depth (KX _ _ lk) rfl S.co S.gen rfl (XA KX fX) (hb _ _ _ _ ?_);refine Wt S.kind cM λenv he s1 x=>?_;subst he;refine⟨lim.keeps x.toInCall.keep,codeAny_func ?_⟩;obtain⟨t,ht,hq⟩:=hbody A outer s H vs Q E (hr.deeper _) mE;have I:Inv (gu CX P w K mg base N qual scope f bS A outer s H E) [] (start N vs) H s1:=lB S hr.hd e0 hl r x;refine UO (ht [] s1 (start N vs) H _ I hq) (λfl s' hs=>?_) λe s' hs=>hs;have fin:∀{σ':St}{H':Hp}{v:V}{u:Yz},Inv (gu CX P w K mg base N qual scope f bS A outer s H E) [] σ' H' s'->RelV v u->Q v H'->CE outer P w H s Q u s':=
  λ{σ' H' v u} J rv q=>⟨v,H',J.os,J.bare,J.base,J.hok,rv,q⟩
 cases fl with
 | ret u=>
  obtain⟨v,σ',H',J,rv,q⟩:=hs;exact fin J rv q
 | next=>
  obtain⟨σ',H',J,q⟩:=hs;exact fin (v:=V.non) (u:=Value.none) J rfl q
 | brk=>
  obtain⟨_,_,_,q⟩:=hs;exact False.elim q
 | cont=>
  obtain⟨_,_,_,q⟩:=hs;exact False.elim q
section
variable {X:Cx}{x:Str}{p pos:Pos}{e:YI}{es:Yt}{t:TA}{id T:String}{r:YR->Hp->VK->Prop}
def Pj(r:YR->Hp->VK->Prop)(t:TA):TE:=λσ H Q=>t σ H λvs H1=>r vs H1 Q
theorem gx(hc:dG X (.builtin id) r)(hg:Gl X x)(hm:X.mg x=none)(hv:bootBuiltins x=some (.builtin id))(ha:PA X (e::es) t)(hn:x≠"__name__":=by decide)(k8:@9:=by decide)
  (he:starEach (e::es) X.env=(false,eval e X.env)::starEach es X.env:=by rfl) (fy:(backTo pos (starEach es X.env)).any (·.1)=false:=by rfl):PE X (.Call (.Name x p) (e::es) [] pos) (Pj r t):=by
 intro pins s σ H Q I h;refine VH (gU I hg hm hv ?_ hn k8);exact Xi (bB (ha pos pins s σ H _ I h) λus s1 ⟨vs,H1,I1,r1,q1⟩=>hc pins s1 σ H1 vs us Q I1 r1 q1) he fy
theorem BG(hc:dG X (.type T) r)(hg:Gl X x)(hm:X.mg x=none)(hv:bootBuiltins x=some (.type T))(ha:PA X (e::es) t)(hn:x≠"__name__":=by decide)(k8:@9:=by decide)
  (he:starEach (e::es) X.env=(false,eval e X.env)::starEach es X.env:=by rfl) (fy:(backTo pos (starEach es X.env)).any (·.1)=false:=by rfl):PE X (.Call (.Name x p) (e::es) [] pos) (Pj r t):=by
 intro pins s σ H Q I h;refine VH (gU I hg hm hv ?_ hn k8);exact Vw (bB (ha pos pins s σ H _ I h) λus s1 ⟨vs,H1,I1,r1,q1⟩=>hc pins s1 σ H1 vs us Q I1 r1 q1) he fy
end
end L2
namespace HT
open PySem PyProof.Rows
theorem CF(A:YC)(s:YA)(a:Int)(t:Tok)(c:Int)(u:Tok)(prog:YB)(w:YE)(E:Yh)(Q:Yh)(h:Q (.bool (decide (a<c))) s) :
  wpAny @7 A (richCompare .Lt (.int a t) (.int c u)) Q E s:=
 (PyProof.Rows.lt_int h:wpAny @7 A (compareOp .Lt (.int a t) (.int c u)) Q E s)
section
open PySem.SeqAt
open PySem.AutoSeq1 (wpAny_loadPart')
open PySem.MeetsSeq PySem.MeetsSeq2 PySem.MeetsSeq3
end
section
variable {prog:YB}{w:YE}{A:YC}{E:Yh}{s:YA}
theorem Hz(ht:IsTup s.heap t vs.toArray)(hb:IsTup s.heap b ws.toArray)(hv:vs≠[])
  (h1:ws=[]->Q (.ref t) s) (h2:ws≠[]->Q (.ref s.sz) {s with heap:=s.heap.push {cls:=.type "tuple",data:=.seq (vs++ws).toArray}})
  (hsz:vs.length+ws.length<=sizeLine):wpAny @7 A (binaryOp .Add (.ref t) (.ref b)) Q E s:=by
 obtain⟨⟨cls,dd,data,sl⟩,ho,hc,n,hd⟩:=id ht;obtain⟨⟨Iq,wM,data2,Ai⟩,B1,Aj,n2,hd2⟩:=id hb;simp only at hc hd Aj hd2;subst hc hd Aj hd2;have e:vs.toArray++ws.toArray=(vs++ws).toArray:=by simp
 by_cases hw:ws=[]
 .exact concat_meets ⟨_,ho,rfl⟩ ⟨_,B1,rfl⟩ noFill_tuple_add seq_tuple_add W3 WW (WG _ _)
   (tuple_addW1 t b vs.toArray ws.toArray n n2 dd wM sl Ai (by simpa using hv) (by simp[hw])) ⟨ho,B1,h1 hw⟩
 .refine concat_meets ⟨_,ho,rfl⟩ ⟨_,B1,rfl⟩ noFill_tuple_add seq_tuple_add W3 WW (WG _ _)
   (tuple_addW2 t b vs.toArray ws.toArray n n2 dd wM sl Ai (by simpa using hv) (by simpa using hw) (by rw[s_,s_];exact hsz)) ⟨ho,B1,?_⟩
  rw[e];exact h2 hw
def qG(n d:Nat):Option Int->Nat
 | none=>d
 | some v=>if v<0 then(v+(n:Int)).toNat else min v.toNat n
theorem Fp(n d:Nat):qG n d none=d:=rfl
theorem Hk(n d k:Nat):qG n d (some (k:Int))=min k n:=by
 show(if(k:Int)<0 then((k:Int)+(n:Int)).toNat else min (k:Int).toNat n)=min k n;rw[i_ @1,Vc]
end
end HT
namespace L2
open PySem PySem.Spec PyProof.Rows
abbrev TO:=St->Hp->(Option Int->Hp->Prop)->Prop
def PO(X:Cx)(e:Option YI)(t:TO):Prop:=
 ∀(pins:Yi)(s:YA)(σ:St)(H:Hp)(Q:Option Int->Hp->Prop),Inv X pins σ H s->t σ H Q->
  wpAny @3 X.A (evalPart e X.env) (λu s'=>∃o H',Inv X pins σ H' s'/\IsPart u o/\Q o H') X.xe s
def tNoPart:TO:=λ_ H Q=>Q none H
def NY(t:TE):TO:=λσ H Q=>t σ H λx H1=>∃i,x=.int i/\Q (some i) H1
section
variable {X:Cx}{e:YI}{te:TE}{lo hi:Option YI}{tl th:TO}{pos p2:Pos}
theorem Gu:PO X none tNoPart:=by
 intro pins s σ H Q I h;rw[evalPart_none];exact e_ ⟨none,H,I,.none,h⟩
theorem ze(h:PE X e te):PO X (some e) (NY te):=by
 intro pins s σ H Q I hw;rw[evalPart_some];refine bB (h pins s σ H _ I hw) λu s1 az=>?_;obtain⟨x,H1,I1,r1,q1⟩:=az;obtain⟨i,rfl,q⟩:=q1;obtain⟨t,rfl⟩:=r1;exact⟨some i,H1,I1,.int i t,q⟩
def SN(X:Cx)(r:V->Option Int->Option Int->Hp->VK->Prop):Prop:=
 ∀(pins:Yi)(s:YA)(σ:St)(H:Hp)(x:V)(v vl vu:Yz)(lo hi:Option Int)(sl:YH)(Q:VK),Inv X pins σ H s->RelV x v->s.heap.IsSliceOf sl vl vu .none->IsPart vl lo->IsPart vu hi->r x lo hi H Q->
  ∃T id,typeLookup (.type T) "__getitem__"=pure (some (.builtin id))/\s.TypeIs v T/\wpAny @3 X.A (getItem v (.ref sl)) (EP X pins σ Q) X.xe s
def Ub(r:V->Option Int->Option Int->Hp->VK->Prop)(te:TE)(tl th:TO):TE:=λσ H Q=>te σ H λx H1=>tl σ H1 λl H2=>th σ H2 λu H3=>r x l u H3 Q
theorem CC(hr:SN X r)(he:PE X e te)(hl:PO X lo tl)(hu:PO X hi th):PE X (.Subscript e (.Slice lo hi none p2) pos) (Ub r te tl th):=by
 intro pins s σ H Q I h;refine Subscript_ (bB (he pins s σ H _ I h) λv s1 az=>?_);obtain⟨x,H1,I1,r1,q1⟩:=az;refine wpAny_Slice (bB (hl pins s1 σ H1 _ I1 q1) λvl s2 ⟨l,H2,I2,pl,q2⟩=>bB (hu pins s2 σ H2 _ I2 q2) λvu s3 az=>?_);obtain⟨u,H3,I3,pu,q3⟩:=az;rw[evalPart_none];refine e_ ?_;have I4:Inv X pins σ H3 {s3 with heap:=s3.heap.push {cls:=.type "slice",data:=.fields #[vl,vu,.none]}}:=I3.kept (t':=s3.toks) λb ob q=>d_ _ q;obtain⟨T,id,hT,ht,hg⟩:=hr pins {s3 with heap:=s3.heap.push {cls:=.type "slice",data:=.fields #[vl,vu,.none]}} σ H3 x v vl vu l u s3.sz Q I4 r1 (Heap.IsSliceOf.new ..) pl pu q3;show wpAny @3 X.A (subscriptTail e (.Slice lo hi none p2) v (.ref s3.sz)) (EP X pins σ Q) X.xe {s3 with heap:=s3.heap.push {cls:=.type "slice",data:=.fields #[vl,vu,.none]}};exact tail_any (ops:=[.ref s3.sz,v]) ht hT hg (by with_unfolding_all rfl)
def BB(xs:YR)(lo hi:Option Int):YR:=(xs.drop (HT.qG xs.length 0 lo)).take (HT.qG xs.length xs.length hi-HT.qG xs.length 0 lo)
theorem vR(xs:YR)(lo hi:Option Int):(BB xs lo hi).length<=xs.length:=by
 unfold BB;rw[VW,List.length_drop];omega
def Nx(K:Yy):R2:=λx y H Q=>∃a b xs ys,x=.ref a/\y=.ref b/\cR K H a xs/\cR K H b ys/\xs≠[]/\xs.length+ys.length<=sizeLine/\
 (ys=[]->Q (.ref a) H)/\(ys≠[]->∀p,H p=none->Q (.ref p) (upd H p (.tup (xs++ys))))
theorem aB.nil_iff(r:aB xs us):us=[]↔xs=[]:=by
 cases r with
 | nil=>simp
 | cons _ _=>simp
theorem HS:jf X (binaryOp .Add) (Nx X.K):=by
 intro pins s σ H x y v u Q I rx ry h;obtain⟨a,b,xs,ys,rfl,rfl,ha,hb,hx,hz,q1,q2⟩:=h;cases rx;cases ry;obtain⟨br,r1,p1,_⟩:=I.tuple ha;obtain⟨pH,r2,p2,_⟩:=I.tuple hb;refine HT.Hz p1 p2 (λz=>hx (r1.nil_iff.mp z)) (λz=>⟨.ref a,H,I,rfl,q1 (r2.nil_iff.mp z)⟩) (λz=>?_) (by rw[<- r1.length,<- r2.length];exact hz);refine⟨.ref s.sz,_,I.laid (t':=s.toks) (o:=.tup (xs++ys)) (λb ob q=>d_ _ q) (m_ _) ?_,rfl,q2 (λw=>z (r2.nil_iff.mpr w)) _ (I.hok.fresh (m_ _))⟩;exact⟨by rw[u_];exact hz,_,r1.append r2,IsTup.new _ _⟩
end
def Bo(n:Nat)(i:Int):Option Nat:=if 0<=i then(if i<n then some i.toNat else none)else if -(n:Int)<=i then some (i+n).toNat else none
def atI(xs:List α)(i:Int):Option α:=(Bo xs.length i).bind λj=>xs[j]?
theorem zI(h:Bo n i=some j):seqIndex? i n=some j/\j<n/\-(n:Int)<=i/\i<n:=by
 unfold Bo at h
 by_cases h0:0<=i
 .rw[h_ h0]at h
  by_cases h1:i<n
  .rw[h_ h1]at h;have e:i.toNat=j:=Option.some.inj h;exact⟨by rw[seqIndex_of h0 h1,e],by omega,by omega,h1⟩
  .rw[i_ h1]at h;cases h
 .rw[i_ h0]at h
  by_cases h1:-(n:Int)<=i
  .rw[h_ h1]at h;have e:(i+n).toNat=j:=Option.some.inj h;exact⟨by rw[seqIndex_neg @1 h1,e],by omega,h1,by omega⟩
  .rw[i_ h1]at h;cases h
theorem zx(h:atI xs i=some v):∃j,seqIndex? i xs.length=some j/\xs[j]?=some v/\j<xs.length/\-(xs.length:Int)<=i/\i<xs.length:=by
 unfold atI at h;cases e:Bo xs.length i with
 | none=>rw[e]at h;cases h
 | some j=>
  rw[e]at h;obtain⟨h1,h2,h3,h4⟩:=zI e;exact⟨j,h1,h,h2,h3,h4⟩
theorem vb(xs:List α)(v:α):atI (xs++[v]) (-1)=some v:=by
 have hl:(xs++[v]).length=xs.length+1:=by simp
 have e:Bo (xs++[v]).length (-1)=some xs.length:=by
  unfold Bo;rw[hl,i_ @2,h_ @1];congr 1;omega
 unfold atI;rw[e];show(xs++[v])[xs.length]?=some v;simp
def yY(b:YI):Prop:=∀o i,subscripted b false o i=operate [o,i] (getItem o i)
def JQ(X:Cx)(r:R2):Prop:=
 ∀(value slice:YI)(pins:Yi)(s:YA)(σ:St)(H:Hp)(x y:V)(v u:Yz)(Q:VK),Inv X pins σ H s->RelV x v->RelV y u->r x y H Q->
  subscripted slice false v u=operate [v,u] (getItem v u)->wpAny @3 X.A (subscriptTail value slice v u) (EP X pins σ Q) X.xe s
def SM(X:Cx)(id:String)(r:V->YR->Hp->VK->Prop):Prop:=
 ∀(pins:Yi)(s:YA)(σ:St)(H:Hp)(x:V)(xs:YR)(v:Yz)(us:Yo)(Q:VK),Inv X pins σ H s->RelV x v->aB xs us->r x xs H Q->
  wpAny @3 X.A (call (.builtin id) (v::us)) (EP X pins σ Q) X.xe s
section
variable {X:Cx}{a b:YI}{ta tb:TE}{pos:Pos}
theorem JQ.or(h:JQ X r)(h':JQ X r'):JQ X (λx y H Q=>r x y H Q\/r' x y H Q):=by
 intro value slice pins s σ H x y v u Q I rx ry q hs;rcases q with q | q
 .exact h value slice pins s σ H x y v u Q I rx ry q hs
 .exact h' value slice pins s σ H x y v u Q I rx ry q hs
theorem NS(hr:JQ X r)(ha:PE X a ta)(hb:PE X b tb)(hs:yY b):PE X (.Subscript a b pos) (IT r ta tb):=by
 intro pins s σ H Q I h;exact Subscript_ (Kd ha hb I h λv u s2 x y H2 I2 rx ry q=>hr a b pins s2 σ H2 x y v u Q I2 rx ry q (hs _ _))
def MG(K:Yy):R2:=λx y H Q=>∃p xs i v,x=.ref p/\y=.int i/\cY K H p xs/\atI xs i=some v/\Q v H
def Nf(K:Yy):R2:=λx y H Q=>∃p xs i v,x=.ref p/\y=.int i/\cR K H p xs/\atI xs i=some v/\Q v H
theorem G5:JQ X (MG X.K):=by
 intro value slice pins s σ H x y v u Q I rx ry h hs;obtain⟨p,xs,i,z,rfl,rfl,hq,he,q⟩:=h;cases rx;obtain⟨t,rfl⟩:=ry;obtain⟨br,r,pl,hz⟩:=I.list hq;obtain⟨j,h1,h2,h3,h4,h5⟩:=zx he;obtain⟨w,ew,B9⟩:=r.get h2;have hl:=r.length;have hn:=nQ;have fin:EP X pins σ Q w s:=⟨z,H,I,B9,q⟩
 by_cases h0:0<=i
 .have hj:i.toNat=j:=by
   rw[seqIndex_of h0 h5]at h1;exact Option.some.inj h1
  exact item_listR pl.isList h0 @1 (by rw[hj];simpa using ew) fin hs
 .have hj:(i+(br.toArray.size:Int)).toNat=j:=by
   rw[seqIndex_neg @1 h4]at h1;rw[s_,<- hl];exact Option.some.inj h1
  exact subscriptTail_builtinR (x:=w) pl.isList.typeIs XS.lookup
   (wpAny_getItem_list_neg (Q:=λr s'=>r=w/\EP X pins σ Q r s') pl.isList @1 (by rw[s_]<;>omega) @1 (by rw[hj];simpa using ew) ⟨rfl,fin⟩) hs
theorem J9:JQ X (Nf X.K):=by
 intro value slice pins s σ H x y v u Q I rx ry h hs;obtain⟨p,xs,i,z,rfl,rfl,hq,he,q⟩:=h;cases rx;obtain⟨t,rfl⟩:=ry;obtain⟨br,r,pl,hz⟩:=I.tuple hq;obtain⟨j,h1,h2,h3,h4,h5⟩:=zx he;obtain⟨w,ew,B9⟩:=r.get h2;have hl:=r.length;have hn:=nQ;have fin:EP X pins σ Q w s:=⟨z,H,I,B9,q⟩;exact subscriptTail_builtinR (x:=w) pl.typeIs slot_tuple_getitem.lookup
  (getItem_tuple (j:=j) (Q:=λr s'=>r=w/\EP X pins σ Q r s') pl @1 @1 (by rw[s_,<- hl];exact h1) (by simpa using ew) ⟨rfl,fin⟩) hs
theorem xx(br:Yo)(n j:Nat)(u:Yz):Obj.mapSeq (·.setIfInBounds j u) {cls:=.type "list",data:=.seq br.toArray n}={cls:=.type "list",data:=.seq (br.set j u).toArray n}:=by
 simp[Obj.mapSeq]
theorem Inv.lst{pins:Yi}{σ:St}{H:Hp}{s:YA}{p:YH}{xs:YR}(I:@5)(h:H p=some (.lst xs)) :
  ∃(br:Yo)(n:Nat),aB xs br/\s.heap.get? p=some {cls:=.type "list",data:=.seq br.toArray n}/\xs.length<=sizeLine:=by
 obtain⟨z,br,n,r,e⟩:=I.hok p _ h;exact⟨br,n,r,e,z⟩
theorem Inv.lstUpd{pins:Yi}{σ:St}{H:Hp}{s:YA}{p:YH}{xs ys:YR}{br its':Yo}{n n':Nat}{f:Obj->Obj}(I:@5)(h:H p=some (.lst xs))
  (ho:s.heap.get? p=some {cls:=.type "list",data:=.seq br.toArray n}) (hf:f {cls:=.type "list",data:=.seq br.toArray n}={cls:=.type "list",data:=.seq its'.toArray n'}) (r:aB ys its') (hz:ys.length<=sizeLine) (t:Nat) :
  Inv X pins σ (upd H p (.lst ys)) {s with heap:=s.heap.update p f,toks:=t}:=by
 have e:(s.heap.update p f).get? p=some {cls:=.type "list",data:=.seq its'.toArray n'}:=by
  rw[UZ f ho (by rw[hf]<;>rfl),hf]
 refine I.write (x:=p) (e:=p) (by rw[h];trivial) (.inl rfl) (λb u hb q=>(M_ _ _ (US hb)).trans q) ⟨_,e⟩ ?_;exact⟨hz,its',n',r,e⟩
def rSetL:V->V->V->Hp->(Hp->Prop)->Prop:=λo i v H Q=>∃p xs k j,o=.ref p/\i=.int k/\H p=some (.lst xs)/\Bo xs.length k=some j/\Q (upd H p (.lst (xs.set j v)))
theorem set_list:MH X rSetL:=by
 intro pins s σ H o i v ov iv u Q I ro ri rv h;obtain⟨p,xs,k,j,rfl,rfl,hp,hj,q⟩:=h;cases ro;obtain⟨t,rfl⟩:=ri;obtain⟨br,n,r,ho,hz⟩:=I.lst hp;obtain⟨h1,h2,h3,h4⟩:=zI hj;have hl:=r.length;have hn:=nQ;have I':Inv X pins σ (upd H p (.lst (xs.set j v))) {s with heap:=s.heap.update p (Obj.mapSeq (·.setIfInBounds j u))}:=
  I.lstUpd hp ho (xx br n j u) (r.set rv j) (by rw[Xt];exact hz) s.toks
 by_cases h0:0<=k
 .have hk:k.toNat=j:=by
   rw[seqIndex_of h0 h4]at h1;exact Option.some.inj h1
  exact PySem.W.ki_setAt ho h0 @1 (by rw[s_,<- hl];exact h4) (by rw[hk];exact⟨_,I',q⟩)
 .have hk:(k+(br.toArray.size:Int)).toNat=j:=by
   rw[seqIndex_neg @1 h3]at h1;rw[s_,<- hl];exact Option.some.inj h1
  exact PySem.W.ki_setBack ho @1 (by rw[s_,<- hl];exact h3) @1 (by rw[hk];exact⟨_,I',q⟩)
theorem rW(lo hi:Option Int)(n:Nat):(sliceBounds lo hi none n).1=((HT.qG n 0 lo:Nat):Int)/\(sliceBounds lo hi none n).2.1=((HT.qG n n hi:Nat):Int)/\(sliceBounds lo hi none n).2.2=1:=by
 refine⟨?_,?_,rfl⟩
 .cases lo with
  | none=>simp[sliceBounds,HT.qG]
  | some i=>
   simp only[sliceBounds,HT.qG,Option.getD_none,show(1:Int)>0 by decide,Vy]
   by_cases h:i<0
   .simp only[h,Vy]<;>omega
   .simp only[h,UU]<;>omega
 .cases hi with
  | none=>simp[sliceBounds,HT.qG]
  | some i=>
   simp only[sliceBounds,HT.qG,Option.getD_none,show(1:Int)>0 by decide,Vy]
   by_cases h:i<0
   .simp only[h,Vy]<;>omega
   .simp only[h,UU]<;>omega
theorem pU(br:Yo)(lo hi:Option Int):slicePick br.toArray lo hi none=((br.drop (HT.qG br.length 0 lo)).take (HT.qG br.length br.length hi-HT.qG br.length 0 lo)).toArray:=by
 obtain⟨h1,h2,h3⟩:=rW lo hi br.toArray.size;unfold slicePick;rw[h1,h2,h3];simp only[sliceRange_one,pick_run,s_]<;>rfl
def Qn(K:Yy):V->Option Int->Option Int->Hp->VK->Prop:=λx lo hi H Q=>∃a xs,x=.ref a/\cY K H a xs/\∀p,H p=none->Q (.ref p) (upd H p (.lst (BB xs lo hi)))
theorem GK:SN X (Qn X.K):=by
 intro pins s σ H x v vl vu lo hi sl Q I rx hs pl pu h;obtain⟨a,xs,rfl,hx,q⟩:=h;cases rx;obtain⟨br,r,ht,hz⟩:=I.list hx;have hlen:=r.length;refine⟨"list",_,XS.lookup,ht.isList.typeIs,?_⟩;refine wpAny_getItem_list_slice ht.isList hs pl pu .none @8 ?_ (by rw[s_]<;>omega);rw[pU,<- hlen];refine⟨.ref s.sz,_,I.laid (t':=s.toks) (o:=.lst (BB xs lo hi)) (λb ob q=>d_ _ q) (m_ _) ?_,rfl,q _ (I.hok.fresh (m_ _))⟩;exact⟨B_ (vR xs lo hi) hz,_,0,(r.drop (HT.qG xs.length 0 lo)).take (HT.qG xs.length xs.length hi-HT.qG xs.length 0 lo),o_ _ rfl⟩
theorem sY:dG X (.builtin "len") (λxs H Q=>∃p ys,xs=[.ref p]/\(cY X.K H p ys\/cR X.K H p ys)/\Q (.int ys.length) H):=by
 intro pins s σ H xs us Q I r h;obtain⟨p,ys,rfl,hq,q⟩:=h;obtain⟨u,rfl,rx⟩:=vals1 r;cases rx;have hn:=nQ;rcases hq with hq | hq
 .obtain⟨br,r',pl,hz⟩:=I.list hq;have hlen:=r'.length;exact Calls.call_len_list pl.isList (by simp only[s_]<;>omega) ⟨.int ys.length,H,I.tok _,⟨s.toks+1,by rw[s_,hlen]⟩,q⟩
 .obtain⟨br,r',pl,hz⟩:=I.tuple hq;have hlen:=r'.length;exact len_tuple pl (by simp only[s_]<;>omega) ⟨.int ys.length,H,I.tok _,⟨s.toks+1,by rw[s_,hlen]⟩,q⟩
theorem sv:dG X (.type "list") (λxs H Q=>∃p ys,xs=[.ref p]/\(cY X.K H p ys\/cR X.K H p ys)/\∀l,H l=none->Q (.ref l) (upd H l (.lst ys))):=by
 intro pins s σ H xs us Q I r h;obtain⟨p,ys,rfl,hq,q⟩:=h;obtain⟨u,rfl,rx⟩:=vals1 r;cases rx;have fin:∀(br:Yo),aB ys br->ys.length<=sizeLine->∀(h':YD)(c':Nat),(∀b o',s.heap.get? b=some o'->h'.get? b=some o')->
   h'.get? s.sz=some {cls:=.type "list",dict:=none,data:=.seq br.toArray c',slots:=#[]}->EP X pins σ Q (.ref s.sz) {s with heap:=h'}:=λbr r' hz h' c' kp e=>
  ⟨.ref s.sz,_,I.laid (t':=s.toks) kp (m_ _) (show bE X.prog X.w _ h' _ (.lst ys)from⟨hz,br,c',r',e⟩),rfl,q _ (I.hok.fresh (m_ _))⟩
 rcases hq with hq | hq
 .obtain⟨br,r',pl,hz⟩:=I.list hq;have hlen:=r'.length;obtain⟨o,ho,hc,n,hd⟩:=pl.isList;exact call_list_seq p (.inl rfl) ho hc hd (λh' c' kp e=>fin br r' hz h' c' kp e) (by simp only[s_]<;>omega)
 .obtain⟨br,r',pl,hz⟩:=I.tuple hq;have hlen:=r'.length;obtain⟨o,ho,hc,n,hd⟩:=pl;exact call_list_seq p (.inr rfl) ho hc hd (λh' c' kp e=>fin br r' hz h' c' kp e) (by simp only[s_]<;>omega)
theorem pV:dG X (.type "tuple") (λxs H Q=>∃p ys,xs=[.ref p]/\((cY X.K H p ys/\∀l,H l=none->Q (.ref l) (upd H l (.tup ys)))\/(cR X.K H p ys/\Q (.ref p) H))):=by
 intro pins s σ H xs us Q I r h;obtain⟨p,ys,rfl,h⟩:=h;obtain⟨u,rfl,rx⟩:=vals1 r;cases rx;rcases h with ⟨hq,q⟩ | ⟨hq,q⟩
 .obtain⟨br,r',pl,hz⟩:=I.list hq;have hlen:=r'.length;refine call_tuple_list pl.isList (λh' kp=>?_) (by simp only[s_]<;>omega);have I1:Inv X pins σ H {s with heap:=h'}:=I.kept (t':=s.toks) kp;have I2:Inv X pins σ (upd H h'.objs.size (.tup ys)) {s with heap:=h'.push {cls:=.type "tuple",data:=.seq br.toArray}}:=
   I1.laid (t':=s.toks) (λb o e=>d_ _ e) (m_ _) (show bE X.prog X.w _ _ _ (.tup ys)from⟨hz,br,r',IsTup.new _ _⟩)
  exact⟨.ref h'.objs.size,_,I2,rfl,q _ (I1.hok.fresh (m_ _))⟩
 .obtain⟨br,r',pl,hz⟩:=I.tuple hq;exact call_tuple_same pl ⟨.ref p,H,I,rfl,q⟩
def SO(K:Yy)(T:String)(x:V)(H:Hp):Prop:=match x with
 | .str _=>T="str"
 | .int _=>T="int"
 | .ref p=>(T="list"/\∃xs,cY K H p xs)\/(T="tuple"/\∃o,K.lookup p=some o/\o.cls=.type "tuple"/\o.dict=none)\/
   (T="dict"/\((∃lg,H p=some (.dK lg))\/∃lg,H p=some (.dT lg)))\/(T="set"/\∃S n,H p=some (.set S n))
 | _=>False
theorem Kf(I:@5)(r:RelV x v)(ty:SO X.K T x H) :
  s.TypeIs v T/\∀a,v=.ref a->∃ob,s.heap.get? a=some ob/\ob.dict=none:=by
 cases x with
 | str z=>
  obtain⟨t,rfl⟩:=r;cases(show T="str" from ty);exact⟨typeIs_str s z t,λ_ e=>nomatch e⟩
 | int i=>
  obtain⟨t,rfl⟩:=r;cases(show T="int" from ty);exact⟨typeIs_int s i t,λ_ e=>nomatch e⟩
 | ref p=>
  cases r;rcases ty with ⟨rfl,xs,hq⟩ | ⟨rfl,o,hk,hc,hd⟩ | ⟨rfl,hk⟩ | ⟨rfl,S,n,hk⟩
  .obtain⟨br,_,pl,_⟩:=I.list hq;refine⟨pl.isList.typeIs,λa e=>?_⟩;cases e;obtain⟨o,n,e,c,hd,_⟩:=pl;exact⟨o,e,hd⟩
  .refine⟨⟨o,I.kIn p o hk,hc⟩,λa e=>?_⟩;cases e;exact⟨o,I.kIn _ o hk,hd⟩
  .have z:∃o,s.heap.get? p=some o/\o.ExactDict:=by
    rcases hk with ⟨lg,hk⟩ | ⟨lg,hk⟩
    .obtain⟨_,_,_,_,o,_,_,e,ex,_⟩:=I.hok p _ hk;exact⟨o,e,ex⟩
    .obtain⟨_,_,_,_,o,_,_,e,ex,_⟩:=I.hok p _ hk;exact⟨o,e,ex⟩
   obtain⟨o,e,ex⟩:=z;refine⟨⟨o,e,ex.1⟩,λa e2=>?_⟩;cases e2;exact⟨o,e,ex.2.1⟩
  .obtain⟨o,_,_,_,e,ex,_⟩:=I.hok p _ hk;refine⟨⟨o,e,ex.1⟩,λa e2=>?_⟩;cases e2;exact⟨o,e,ex.2.1⟩
 | _=>exact False.elim ty
def Uq(K:Yy)(T:String)(r:V->YR->Hp->VK->Prop)(to:TE)(t:TA):TE:=λσ H Q=>to σ H λx H1=>SO K T x H1/\t σ H1 λxs H2=>r x xs H2 Q
variable {o e:YI}{es:Yt}{to:TE}{t:TA}{name:Str}{apos bG:Pos}{T id:String}{r:V->YR->Hp->VK->Prop}
theorem yR(pa:PlainAttrs T)(slot:Slot T name id)(hty:typeOf (.builtin id)=pure (.type "method_descriptor"))(hm:SM X id r)(ho:PE X o to)(ha:PA X (e::es) t)
  (gC:attributeBase o name X.env (eval o X.env)=eval o X.env:=by rfl)
  (tY:((backTo bG (starEach (e::es) X.env)).all (λx=>!x.1)&&(backToKw bG (keywordEach [] X.env)).all (λx=>x.1.isSome)
   && decide ((e::es).length+([]:List Keyword).length+(if([]:List Keyword).isEmpty then 0 else 1)<30))=true:=by rfl)
  (gD:(apos.endLine==bG.line)=true:=by rfl) (hs:starEach (e::es) X.env=(false,eval e X.env)::starEach es X.env:=by rfl) (hplain:(backTo bG (starEach es X.env)).any (·.1)=false:=by rfl) :
  PE X (.Call (.Attribute o name apos) (e::es) [] bG) (Uq X.K T r to t):=by
 intro pins s σ H Q I h;refine wpAny_Call_method_late gC tY gD rfl (bB (ho pins s σ H _ I h) λv s1 az=>?_);obtain⟨x,H1,I1,r1,ty,q1⟩:=az;obtain⟨h1,h2⟩:=Kf I1 r1 ty;refine⟨T,id,pa,slot,hty,h1,h2,?_⟩;have hA:=ha bG pins s1 σ H1 _ I1 q1;rw[hs]at hA ⊢;refine W4 (by show(false||(backTo bG (starEach es X.env)).any (·.1))=false;rw[hplain]<;>rfl) (Calls.evalArgs_plain ?_);exact bB hA λus s2 ⟨vs,H2,I2,r2,q2⟩=>hm pins s2 σ H2 x vs v us Q I2 r1 r2 q2
end
def QI(X:Cx)(id:String)(r:V->YR->Hp->VK->Prop):Prop:=
 ∀(pins:Yi)(s:YA)(σ:St)(H:Hp)(x:V)(xs:YR)(v:Yz)(us:Yo)(Q:VK),Inv X pins σ H s->RelV x v->aB xs us->r x xs H Q->
  wpAny @3 X.A (call (.builtin id) (v::us)) (EP X pins σ Q) X.xe s
theorem aB.one:∀{x:V}{us:Yo},aB [x] us->∃u,us=[u]/\RelV x u
 | _,_,.cons r .nil=>⟨_,rfl,r⟩
theorem aB.two:∀{x y:V}{us:Yo},aB [x,y] us->∃u v,us=[u,v]/\RelV x u/\RelV y v
 | _,_,_,.cons r (.cons q .nil)=>⟨_,_,rfl,r,q⟩
section
variable {X:Cx}{pins:Yi}{σ:St}{H:Hp}{s:YA}{l b:YH}{xs ys zs:YR}
theorem Inv.lset{br its':Yo}{n:Nat}{f:Array Yz->Array Yz}{t':Nat}(I:@5)(hH:H l=some (.lst xs))
  (e:s.heap.get? l=some {cls:=.type "list",data:=.seq br.toArray n}) (hf:f br.toArray=its'.toArray) (hv:aB ys its') (hz:ys.length<=sizeLine) :
  Inv X pins σ (upd H l (.lst ys)) {s with heap:=s.heap.update l (Obj.mapSeq f),toks:=t'}:=by
 have q:=PySem.IsL.update e f;rw[hf]at q;refine I.write (x:=l) (e:=l) (by rw[hH];exact trivial) (.inl rfl) (λb' u hb hu=>(M_ s.heap (Obj.mapSeq f) (US hb)).trans hu) ⟨_,q⟩ ?_;exact⟨hz,its',_,hv,q⟩
theorem Inv.lnew(I:@5)(hv:aB ys br)(hz:ys.length<=sizeLine) :
  Inv X pins σ (upd H s.sz (.lst ys)) {s with heap:=s.heap.push {cls:=.type "list",data:=.seq br.toArray},toks:=t'}:=
 I.laid (λ_ _ q=>d_ _ q) (m_ _) ⟨hz,br,0,hv,o_ _ rfl⟩
theorem Inv.fresh(I:@5):H s.sz=none:=I.hok.fresh (m_ _)
theorem Inv.lstM(I:@5)(hH:H l=some (.lst xs)):xs.length<=sizeLine/\∃(br:Yo)(n:Nat),aB xs br/\xs.length=br.length/\s.heap.get? l=some {cls:=.type "list",data:=.seq br.toArray n}:=by
 obtain⟨z,br,n,r,e⟩:=I.hok l _ hH;exact⟨z,br,n,r,r.length,e⟩
theorem vJ(h:n<=sizeLine):Builtin.List.listTooLong n=false:=by
 unfold Builtin.List.listTooLong;exact G_ @1
end
section
variable {X:Cx}
def rAppend:V->YR->Hp->VK->Prop:=λx vs H Q=>∃l xs y,x=.ref l/\vs=[y]/\H l=some (.lst xs)/\xs.length<sizeLine/\Q .non (upd H l (.lst (xs++[y])))
theorem qx:QI X "list.append" rAppend:=by
 intro pins s σ H x vs v us Q I rx rv h;obtain⟨l,xs,y,rfl,rfl,hH,hz,q⟩:=h;cases rx;obtain⟨u,rfl,ru⟩:=rv.one;obtain⟨z,br,n,r,hl,e⟩:=I.lstM hH;refine call_meets F.slot_list_append ⟨_,e,rfl⟩ F.entry_list_append (F.args_list_append_2 _ _) (PySem.list_append l br.toArray n u (by rw[s_];omega)) ⟨e,?_⟩;refine⟨.non,_,I.lset (its':=br++[u]) hH e @8 (r.append (.cons ru .nil)) ?_,rfl,q⟩;rw[u_,UT];omega
def rExtend:V->YR->Hp->VK->Prop:=λx vs H Q=>∃l b xs zs,x=.ref l/\vs=[.ref b]/\H l=some (.lst xs)/\H b=some (.lst zs)/\xs.length+zs.length<=sizeLine/\Q .non (upd H l (.lst (xs++zs)))
theorem BR:QI X "list.extend" rExtend:=by
 intro pins s σ H x vs v us Q I rx rv h;obtain⟨l,b,xs,zs,rfl,rfl,hH,hB,hz,q⟩:=h;cases rx;obtain⟨u,rfl,ru⟩:=rv.one;cases ru;obtain⟨z,br,n,r,hl,e⟩:=I.lstM hH;obtain⟨z2,pH,n2,r2,LK,e2⟩:=I.lstM hB;have hsz:br.toArray.size+pH.toArray.size<=sizeLine:=by rw[s_,s_];omega
 have FJ:¬(!br.toArray.isEmpty&&Builtin.List.listTooLong (br.toArray.size+pH.toArray.size))=true:=by
  rw[vJ hsz,Wb];exact UY
 refine call_meets F.slot_list_extend ⟨_,e,rfl⟩ F.entry_list_extend (F.args_list_extend_2 _ _)
  (AutoSeq1.list_extend_list_list_0 l br.toArray n b pH.toArray n2 FJ (by rw[s_];omega) @1) ⟨e,e2,?_⟩
 refine⟨.non,_,I.lset (its':=br++pH) hH e @8 (r.append r2) ?_,rfl,q⟩;rw[u_];omega
def rCat:R2:=λx y H Q=>∃l b xs zs,x=.ref l/\y=.ref b/\H l=some (.lst xs)/\H b=some (.lst zs)/\xs.length+zs.length<=sizeLine/\∀p,H p=none->Q (.ref p) (upd H p (.lst (xs++zs)))
theorem JH:jf X (binaryOp .Add) rCat:=by
 intro pins s σ H x y v u Q I rx ry h;obtain⟨l,b,xs,zs,rfl,rfl,hH,hB,hz,q⟩:=h;cases rx;cases ry;obtain⟨z,br,n,r,hl,e⟩:=I.lstM hH;obtain⟨z2,pH,n2,r2,LK,e2⟩:=I.lstM hB;refine PySem.P.add_list e e2 ?_ (by rw[s_,s_];omega);have ea:br.toArray++pH.toArray=(br++pH).toArray:=by simp
 rw[ea];exact⟨.ref _,_,I.lnew (t':=s.toks) (r.append r2) (by rw[u_];omega),rfl,q _ I.fresh⟩
end
section
variable {prog:YB}{w:YE}{A:YC}{E:Yh}{s:YA}
end
section
variable {X:Cx}
end
end L2
namespace Att
open PySem PySem.W PySem.Calls PyProof.Rows
theorem mL:∀(ns:Yw)(vs:Yo),WellAll P h vs (ns.map WData.int)->IntsAre vs ns:=by
 intro ns
 induction ns with
 | nil=>
  intro vs w;rw[X_]at w;cases w;exact .nil
 | cons n ns ih=>
  intro vs w;rw[C_]at w;cases w with
  | cons a b=>
   cases a;exact .cons _ _ (ih _ b)
theorem AZ{l:OpenLaw}{n:Nat}(hn:l.most=some n){P:Params}{h:YD}{args:List WData}{vals:Yo}
  (qr:l.row.toRowW.claim.pre args=true) (Rf:WellAll P h vals args) :
  ∃a vs ns,vals=[Value.ref a]/\args=[WData.list (ns.map WData.int)]/\h.get? a=some {cls:=.type "list",data:=.seq vs.toArray}/\IntsAre vs ns/\ns.length<=n:=by
 have hsh:WShape.hasAll [] args [.list .int]=true:=(pre_splitW qr).1;have hc:l.pre.holds [] {args:=args}=true:=(pre_splitW qr).2;obtain⟨d,r,rfl,h1,h2⟩:=hasAllW_cons hsh;obtain rfl:=hasAllW_nil h2;obtain⟨xs,rfl,h3⟩:=hasW_list h1;obtain⟨ns,rfl⟩:=items_int h3;have hlen:ns.length<=n:=by
  unfold OpenLaw.pre at hc;have h4:(WTm.not (.lt (.lit (.int (n:Int))) (.len (.arg 0)))).holds [] {args:=[.list (ns.map .int)]}=true:=by
   have h4:=(holds_andW hc).1;rw[hn]at h4;exact h4
  have h5:=condW_of h4 (w_not (w_lt w_lit (w_len_list (w_arg rfl))));rw[c_]at h5;refine U2 λq=>?_;have q':(n:Int)<((ns.length:Nat):Int):=by omega
  first
   | (rw[y_ q']at h5;exact absurd h5 @2)
   | (simp at h5;omega)
 cases Rf with
 | cons w1 w2=>
  cases w2;cases w1 with
  | list ho mQ=>exact⟨_,_,ns,rfl,rfl,ho,mL ns _ mQ,hlen⟩
theorem AA(l:OpenLaw)(args:List WData):l.row.toRowW.claim.post args (.bool true) args=true:=
 postW_of (r:=l.row.toRowW) (X:=(true==true))
  (show WShape.has [] (.bool true) .bool=true by first | rfl | decide | simp[WShape.has,WShape.arms,WShape.armsAll])
  (show(WTm.eq .res (.lit (.bool true))).value [] {args:=args,res:=some (.bool true),after:=args}=some (.bool (true==true))from w_eq_bool (w_res rfl) w_lit) rfl
theorem uS{l:OpenLaw}{n:Nat}{q:YB}{loose:Yr}{XP:Yk->YD->Prop}{YP:YE->YD->Prop}{d:DefRec}
  (hn:l.most=some n) (OF:d.params.defaults=[])
  (call:∀(w:YE)(s₀ s₁:YA)(mg mb:Yk)(fa:YH)(o:Obj)(pm cd doc:Yz)(a:YH)(vs:Yo)(ns:Yw),
   Ground q loose [] XP w s₀ mg mb s₁.heap->YP w s₁.heap->
   s₁.heap.get? fa=some o->o.data=.func (docDef d.name d.params d.body d.scope pm cd doc)->s₁.heap.CodeRec cd d.name->mg d.name=some (.ref fa)->
   s₁.heap.get? a=some {cls:=.type "list",data:=.seq vs.toArray}->IntsAre vs ns->ns.length<=n->s₁.gens=#[]->
   codeAny (model l.prog w) callerA (.call (.ref fa) ⟨[.ref a],[]⟩) (λr s'=>r=.ok (.ret (.bool true))/\OldK s₁.heap s'.heap/\s'.os=s₁.os/\AllBare s'.gens) s₁) :
  WalkO q loose XP YP l.row.toRowW d [] (λf vs=>PySem.call f vs):=by
 intro w s₀ s₁ mg mb G Y fa o pm cd doc dV kV ho hd fX hD hmg hg args vals as qr hlay hrd Rf Rg;obtain rfl:dV=.none:=Dflts.none hD OF;obtain rfl:kV=.none:=Dflts.noKw hD;obtain⟨a,vs,ns,rfl,rfl,LO,hints,hlen⟩:=AZ hn qr Rf;refine enter_call (V7 (call w s₀ s₁ mg mb fa o pm cd doc a vs ns G Y ho (fd_plain hd) fX hmg LO hints hlen hg) λr s' hq=>?_);obtain⟨rfl,h2,h3,h4⟩:=hq;exact⟨.inl ⟨.bool true,.bool true,[],rfl,λ_=>rfl,.bool true,AA l _,λ_=>⟨List.Pairwise.nil,λ_ hm=>(nomatch hm)⟩⟩,h2,h3,h4⟩
section
variable {prog:YB}{w:YE}{A:YC}{E:Yh}{s:YA}{K:Frag}
end
end Att
namespace L2
open PySem PySem.Spec PyProof.Rows
theorem gh:∀{vs:Yo}{ns:Yw},IntsAre vs ns->aB (ns.map V.int) vs
 | _,_,.nil=>.nil
 | _,_,.cons n t h=>.cons ⟨t,rfl⟩ (gh h)
def K'(H:Hp):Prop:=∀b,H b=none\/∃o xs,H b=some (.frz o (.lst xs))
theorem Ct{P:YB}{w:YE}{K:Yy}{mg mb:Yk}{CX:CXT}{k:Nat}{fa a:YH}{fd:YF}{x:Str}{sp:Sp}{s₁:YA}{vs:Yo}{ns:Yw}
  (KX:K.In s₁.heap) (Jz:s₁.heap.Ns mainGlobals mg) (hb:s₁.heap.Ns builtinsNs mb) (Rh:∀x:Str,x≠"__name__"->mb x=bootBuiltins x) (hlim:s₁.heap.NoLimit) (hg:s₁.gens=#[])
  (ha:s₁.heap.get? a=some {cls:=.type "list",data:=.seq vs.toArray}) (hi:IntsAre vs ns) (hl:ns.length<=sizeLine) (hr:bF k callerA)
  (F:∀base:YD,K.In base->base.Ns mainGlobals mg->eh P w K mg base CX k fa fd [x] sp) (hbind:∀(s:YA)(u:Yz),BindsTo s fd ⟨[u],[]⟩ [(x,u)])
  (mE:∀H:Hp,K' H->cY K H a (ns.map V.int)->sp [.ref a] H (λv _=>v=.bl true) λ_ _ _=>False)
  (hCX:∀H e s',CX [] H s₁ (λ_ _ _=>False) e s'->False) :
  codeAny (model P w) callerA (.call (.ref fa) ⟨[.ref a],[]⟩) (λr s'=>r=.ok (.ret (.bool true))/\OldK s₁.heap s'.heap/\s'.os=s₁.os/\AllBare s'.gens) s₁:=by
 have rv:=gh hi;have lenV:=hi.length;have core:∀H:Hp,K' H->cY K H a (ns.map V.int)->mI P w H s₁.heap->(∀b,H b≠none->b=a)->(H a≠none->K.lookup a=none)->
   codeAny (model P w) callerA (.call (.ref fa) ⟨[.ref a],[]⟩) (λr s'=>r=.ok (.ret (.bool true))/\OldK s₁.heap s'.heap/\s'.os=s₁.os/\AllBare s'.gens) s₁:=by
  intro H hO hS hok hA hK;have Ak:∀{b:YH}{o:Obj},s₁.heap.get? b=some o->H b=none->(tm s₁.heap H).get? b=some o:=λe n=>ET e n;have OE:∀{b:YH}{o:Obj}{es:Array DictEntry}{ep:Nat},s₁.heap.get? b=some o->o.data=.dict es ep->H b=none:=λ{b o es ep} e d=>by
   cases q:H b with
   | none=>rfl
   | some u=>
    have e':b=a:=hA b (by rw[q];simp);subst e';rw[ha]at e;cases e;have d':Data.seq vs.toArray _=Data.dict es ep:=d;cases d'
  have PN:∀{b:YH}{m:Yk},s₁.heap.Ns b m->(tm s₁.heap H).Ns b m:=λ{b m} ⟨o,es,ep,e,d,r⟩=>⟨o,es,ep,Ak e (OE e d),d,r⟩;have S6:K.In (tm s₁.heap H):=λb o e=>Ak (KX b o e) (by
   cases q:H b with
   | none=>rfl
   | some u=>
    have e':b=a:=hA b (by rw[q];simp);subst e';rw[hK (by rw[q];simp)]at e;cases e)
  have hM:Mod K mg (tm s₁.heap H):=⟨S6,PN Jz,⟨mb,PN hb,Rh⟩,let ⟨mc,h1,h2⟩:=hlim;⟨mc,PN h1,h2⟩⟩;have e0:wL P w K mg (tm s₁.heap H) callerA [] s₁ H:=⟨rfl,hM,λb o e=>HC e,Nat.le_of_eq (BE _ _),trivial,λb hb=>absurd (show b∈([]:Ys)from hb) @8,hok,.of_eq hg⟩;refine V7 ((F _ S6 (PN Jz)).run callerA [] s₁ H ⟨[.ref a],[]⟩ [.ref a] [.ref a] _ _ hr e0 (hbind s₁ (.ref a)) (.cons rfl .nil) (mE H hO hS)) λr s' h=>?_;cases r with
  | error e=>exact(hCX H e s' h).elim
  | ok fl=>
   cases fl with
   | next=>exact False.elim h
   | brk=>exact False.elim h
   | cont=>exact False.elim h
   | ret u=>
    obtain⟨v,H',os,bare,un,hok',r',q⟩:=h;have q':v=.bl true:=q;subst q';obtain rfl:u=Value.bool true:=r';refine⟨rfl,OldK.of_keep λb o e=>?_,os,bare⟩;cases q:H b with
    | none=>exact un.keep b o e q (by intro z;exact absurd (show b∈([]:Ys)from z) @8) @8
    | some u=>
     rcases hO b with z | ⟨ob,xs,z⟩
     .rw[q]at z;cases z
     .have z2:=un.frzs b ob _ z;obtain⟨e1,_⟩:=hok b _ z;obtain⟨e2,_⟩:=hok' b _ z2;rw[e]at e1;cases e1;exact e2
 cases hk:K.lookup a with
 | some o=>
  have e:=KX a o hk;rw[ha]at e;cases e;refine core (λ_=>none) (λ_=>.inl rfl) (.inr ⟨_,vs.toArray,_,hk,rfl,rfl,rfl,by rw[s_,lenV];exact hl,by simpa using rv⟩) (λb u z=>by have z':(none:Option HO)=some u:=z;cases z') (λb z=>absurd rfl z) λz=>absurd rfl z
 | none=>
  refine core (λb=>if b=a then some (.frz {cls:=.type "list",data:=.seq vs.toArray} (.lst (ns.map V.int)))else none) (λb=>?_) (.inl (.inr ⟨{cls:=.type "list",data:=.seq vs.toArray},h_ rfl⟩)) (λb u z=>?_) (λb z=>?_) λ_=>hk
  .by_cases hb:b=a
   .exact .inr ⟨_,_,h_ hb⟩
   .exact .inl (i_ hb)
  .by_cases hb:b=a
   .have z':=(h_ hb).symm.trans z;cases z';subst hb;exact⟨ha,by rw[c_];exact hl,vs,_,rv,ha⟩
   .have z':=(i_ hb).symm.trans z;cases z'
  .by_cases hb:b=a
   .exact hb
   .exact absurd (i_ hb) z
theorem G4{l:PySem.W.OpenLaw}{n k:Nat}{q:YB}{loose:Yr}{XP:Yk->YD->Prop}{YP:YE->YD->Prop}{d:DefRec}{K:Params->Yy}{CX:YE->CXT}{sp:YE->Sp}{x:Str}
  (hn:l.most=some n) (hn2:n<=sizeLine) (OF:d.params.defaults=[]) (hr:bF k callerA)
  (hY:∀(w:YE)(h:YD),YP w h->(K w.params).In h)
  (F:∀(w:YE)(mg:Yk)(fa:YH)(h:YD),(K w.params).In h->h.Ns mainGlobals mg->mg d.name=some (.ref fa)->
   ∃fd:YF,(∀(s:YA)(u:Yz),BindsTo s fd ⟨[u],[]⟩ [(x,u)])/\
    ∀base:YD,(K w.params).In base->base.Ns mainGlobals mg->eh l.prog w (K w.params) mg base (CX w) k fa fd [x] (sp w))
  (mE:∀(w:YE)(H:Hp)(a:YH)(ns:Yw),ns.length<=n->K' H->cY (K w.params) H a (ns.map V.int)->sp w [.ref a] H (λv _=>v=.bl true) λ_ _ _=>False)
  (hCX:∀(w:YE)(H:Hp)(s:YA)(e:Yz)(s':YA),CX w [] H s (λ_ _ _=>False) e s'->False) :
  PySem.W.WalkO q loose XP YP l.row.toRowW d [] (λf vs=>PySem.call f vs):=by
 refine Att.uS hn OF λw s₀ s₁ mg mb fa o pm cd doc a vs ns G Y ho hd fX hmg LO hints hlen hg=>?_;have KX:=hY w _ Y;obtain⟨fd,hb,hF⟩:=F w mg fa _ KX G.T.g hmg;exact Ct KX G.T.g G.T.b G.T.builtins G.T.nolimit hg LO hints (B_ hlen hn2) hr hF hb (λH hO hS=>mE w H a ns hlen hO hS) λH e s'=>hCX w H s₁ e s'
def cI(s:YJ):Arguments:=match s with
 | .FunctionDef _ a _ _ _ _ _ _ _ _=>a
 | _=>{posonlyargs:=[],args:=[],vararg:=none,kwonlyargs:=[],kw_defaults:=[],kwarg:=none,defaults:=[]}
def bt(s:YJ):Yu:=match s with
 | .FunctionDef _ _ b _ _ _ _ _ _ _=>b
 | _=>[]
def aC(s:YJ):YG:=match s with
 | .FunctionDef _ _ _ _ _ _ sc _ _ _=>sc
 | _=>{kind:=.function,names:=[],isGenerator:=false,isCoroutine:=false}
abbrev l9:CXT:=λ_ _ _ _ _ _=>False
abbrev E0:XK:=λ_ _ _=>False
theorem Oj:yq l9 X E0:=λ_ _ _ _ _ _ _ h=>h.elim
structure Ca(K:PySem.W.Frag)(x qual:Str)(st:Stmt)(f:Addr)(fd:FuncData):Prop where
 ex:∃(oc:Value)(od:Option Addr)(kV doc pm:Value)(an:Option Addr)(bS ct:Value)(ug:Array (Option Value)),
  fd=PySem.W.fnOf x qual (cI st) (bt st) (aC st) .none kV doc pm an bS ct/\K.lookup f=some ⟨oc,od,.func fd,ug⟩/\PySem.W.codeIn K bS qual=true
 kp:PySem.W.keepIn K (.ref f)=true
section
variable {P:YB}{w:YE}{K:Yy}{mg:Yk}{base:YD}
theorem Ca.ok{x qual:Str}{st:YJ}{f:YH}{fd:YF}{N ps:Yr}{k:Nat}{sp:Sp}(F:Ca K x qual st f fd)(S:cm N ps (aC st))(len:∀vs H Q E,sp vs H Q E->vs.length=ps.length)
  (hbody:∀(bS:Yz)(A:YC)(outer:List Env)(s:YA)(H:Hp)(vs:YR)(Q:VK)(E:XK),bF k (A.deeper (envOfC qual (aC st) s.sz f bS))->sp vs H Q E->
   ∃t,PSs (gu l9 P w K mg base N qual (aC st) f bS A outer s H E).nox (bt st) t/\t {nx:=λ_ H'=>Q .non H',rt:=Q} (start N vs) H):eh P w K mg base l9 (k+1) f fd ps sp:=by
 obtain⟨oc,od,kV,doc,pm,an,bS,ct,ug,rfl,lk,fX⟩:=F.ex;refine EH lk fX S len λA outer s H vs Q E hr mE=>?_;obtain⟨t,h,q⟩:=hbody bS A outer s H vs Q E hr mE;exact⟨t,h.nox,q⟩
theorem Ca.binds{x qual:Str}{st:YJ}{f:YH}{fd:YF}{ps:Yr}(F:Ca K x qual st f fd)
  (h:∀(kV doc pm:Yz)(an:Yq)(bS ct:Yz)(us:Yo),us.length=ps.length->bindArgs (PySem.W.fnOf x qual (cI st) (bt st) (aC st) .none kV doc pm an bS ct) ⟨us,[]⟩=pure (ps.zip us)):Binds K fd ps []:=by
 obtain⟨oc,od,kV,doc,pm,an,bS,ct,ug,rfl,lk,fX⟩:=F.ex;exact .all (h kV doc pm an bS ct)
theorem Dw{x qual:Str}{st:YJ}{f:YH}{oc:Yz}{od an:Yq}{ug:Yj}{kV doc pm bS ct:Yz}(l:K.lookup f=some ⟨oc,od,.func (PySem.W.fnOf x qual (cI st) (bt st) (aC st) .none kV doc pm an bS ct),ug⟩)
  (c:PySem.W.codeIn K bS qual=true) (k:PySem.W.keepIn K (.ref f)=true):Ca K x qual st f (PySem.W.fnOf x qual (cI st) (bt st) (aC st) .none kV doc pm an bS ct):=⟨⟨oc,od,kV,doc,pm,an,bS,ct,ug,rfl,l,c⟩,k⟩
end
theorem jA(hr:bF k A):A.units+1<cLine:=XB (Nat.add_le_add_left (by decide:1<=64) _) hr.units
theorem qA(h:n<=1000):n<sizeLine:=XB h @2
section
variable {X:Cx}
end
theorem vn{A B:Prop}(h:B):if false=true then A else B:=by
 rw[i_ UY];exact h
theorem uz{A B:Prop}(h:A):if true=true then A else B:=by
 rw[h_ rfl];exact h
def aO(H H':Hp):Prop:=∀b o,H b=some o->H' b=some o
theorem aO.refl(H:Hp):aO H H:=λ_ _ h=>h
theorem aO.trans(a:aO H H1)(b:aO H1 H2):aO H H2:=λc o h=>b c o (a c o h)
theorem aO.free(e:aO H H')(h:H' l=Option.none):H l=Option.none:=by
 cases q:H l with
 | none=>rfl
 | some o=>
  rw[e l o q]at h;cases h
theorem aO.seq{K:Yy}{H H':Hp}{a:YH}{xs:YR}(e:aO H H')(h:cY K H a xs):cY K H' a xs:=by
 rcases h with (h | ⟨o,h⟩) | h
 .exact .inl (.inl (e _ _ h))
 .exact .inl (.inr ⟨o,e _ _ h⟩)
 .exact .inr h
section
variable {κ:Type}[DecidableEq κ]
end
theorem N5(r:RelV (kV k) u):(aJ P w).is k u=true:=by
 cases k with
 | inl i=>obtain⟨t,e⟩:=(show ∃t,u=Value.int i t from r);subst e;exact uF P w i t
 | inr x=>obtain⟨t,e⟩:=(show ∃t,u=Value.str x t from r);subst e;exact vo P w x t
theorem lr:∀{ks:YL}{us:Yo},aB (ks.map kV) us->ItemsAre (aJ P w) ks us
 | [],_,r=>by rw[X_]at r;cases r;exact .nil
 | k::ks,_,r=>by
  rw[C_]at r;cases r with
  | cons h t=>exact .cons (N5 h) (lr t)
section
variable {P:YB}{w:YE}{H:Hp}{h:YD}{a:YH}
end
section
variable {X:Cx}{pins:Yi}{σ:St}{H:Hp}{s:YA}{a:YH}{y v:V}{u r:Yz}{o:Option V}{A:YC}{E:Yh}
theorem Inv.big(I:@5):sysModules<s.sz:=by
 have h:mainGlobals<s.sz:=(I.mod.glob.keeps I.bk).lt;exact X8 @2 h
end
section
variable {X:Cx}{pins:Yi}{σ:St}{H:Hp}{s:YA}{a:YH}{lg:List (Key×V)}{k:Key}{u:Yz}{A:YC}{E:Yh}
end
def Ke(i:YI):Prop:=∀ov iv,subscripted i false ov iv=operate [ov,iv] (getItem ov iv)
theorem GB{prog:YB}{w:YE}{A:YC}{E:Yh}{s:YA}{env:Env}{value slice:YI}{pos:Pos}{T id:String}{Q:Yh}
  (hl:typeLookup (.type T) "__getitem__"=pure (some (.builtin id))) (hs:Ke slice)
  (h:wpAny @7 A (eval value env) (λo s₁=>wpAny @7 A (eval slice env) (λi s₂=>s₂.TypeIs o T/\wpAny @7 A (getItem o i) Q E s₂) E s₁) E s) :
  wpAny @7 A (eval (.Subscript value slice pos) env) Q E s:=by
 refine Subscript_ (UO h (λo s₁ h₁=>UO h₁ (λi s₂ h₂=>?_) λ_ _ x=>x) λ_ _ x=>x);obtain⟨hT,h₂⟩:=h₂;unfold subscriptTail;refine a_ ?_;rw[getitemInPython_of_ne hT.not_modules];refine a_ (VN hT hl ?_);have fin:wpAny @7 A (subscripted slice false o i) (λr s₃=>wpAny @7 A (letTemporaryGo value o r >>= λ_=>pure r) Q E s₃) E s₂:=by
  rw[hs o i];exact wpAny_operating (UO h₂ (λr s₃ h₃=>a_ (wpAny_letTemporaryGo (e_ h₃))) λ_ _ x=>x)
 first
  | exact e_ (a_ fin)
  | exact a_ (e_ (a_ fin))
  | exact a_ fin
section
variable {X:Cx}{o i e value:YI}{pos pos' tpos:Pos}{td ty tv:TE}
end
section
variable {X:Cx}{pos:Pos}
end
structure M1(X:Cx)(o:Expr)(m:Str)(apos:Pos)(e:Expr)(bG:Pos):Prop where
 base:attributeBase o m X.env (eval o X.env)=eval o X.env
 few:((backTo bG (starEach [e] X.env)).all (λx=>!x.1)&&(backToKw bG (keywordEach [] X.env)).all (λx=>x.1.isSome)
  && decide (([e]:List Expr).length+([]:List Keyword).length+(if([]:List Keyword).isEmpty then 0 else 1)<30))=true
 line:(apos.endLine==bG.line)=true
 trees:backTo bG (starEach [e] X.env)=[(false,eval e X.env)]
structure M2(X:Cx)(o:Expr)(m:Str)(apos:Pos)(e f:Expr)(bG:Pos):Prop where
 base:attributeBase o m X.env (eval o X.env)=eval o X.env
 few:((backTo bG (starEach [e,f] X.env)).all (λx=>!x.1)&&(backToKw bG (keywordEach [] X.env)).all (λx=>x.1.isSome)
  && decide (([e,f]:List Expr).length+([]:List Keyword).length+(if([]:List Keyword).isEmpty then 0 else 1)<30))=true
 line:(apos.endLine==bG.line)=true
 trees:backTo bG (starEach [e,f] X.env)=[(false,eval e X.env),(false,eval f X.env)]
section
variable {X:Cx}{pins:Yi}{σ:St}{H:Hp}{s:YA}{a:YH}{y d:V}{u r:Yz}{o:Option V}{A:YC}{E:Yh}
end
section
variable {X:Cx}{o e f:YI}{apos bG:Pos}{td ty tx:TE}
end
section
variable {X:Cx}{pins:Yi}{σ:St}{H:Hp}{s:YA}{a:YH}{lg:List (Key×V)}{A:YC}{E:Yh}
end
section
variable {X:Cx}{pins:Yi}{σ:St}{H:Hp}{s:YA}{a:YH}{y:V}{u:Yz}{A:YC}{E:Yh}
end
end L2
namespace St
open PySem L2
theorem Hc(n:Nat)(h:carriedByValue v=true):ofAClassStatement n v=pure false:=by
 cases v with
 | ref a=>simp[carriedByValue]at h
 | _=>first | rfl | (unfold ofAClassStatement;rfl) | (cases n<;>rfl)
theorem Hd(n:Nat)(h:oS k v=true):∃b,hashByValue n v=pure b:=by
 rcases bI h with ⟨i,t,rfl,rfl⟩ | ⟨x,t,rfl,rfl⟩
 .exact⟨true,by cases n<;>simp[hashByValue]⟩
 .exact⟨false,by cases n<;>simp[hashByValue]⟩
theorem nB:SK (tupleKind (aJ prog w)) where
 cls:=λ{A E s k a Q} hk h=>by
  have hT:s.TypeIs (.ref a) "tuple":=IsTupleKey.typeIs hk;obtain⟨o,items,n,ho,_,hd,hi⟩:=hk;unfold ofAClassStatement;refine a_ (Xx hT ?_);dsimp only;simp only[Xj,Vy];refine a_ (e_ ?_);simp only[X2,D_,UU];refine a_ (Vh ho hd ?_);dsimp only;refine a_ ?_;rw[<- WS];refine Wy _ (λrest r s'=>r.1=none/\s'=s/\∀v∈rest,carriedByValue v=true) _ ?_ ?_ _ _ ⟨rfl,rfl,hi.byValue⟩
  .rintro v rest r s' ⟨hr,rfl,mQ⟩;rw[Hc _ (mQ v g_)];refine a_ (e_ ?_);simp only[D_,UU];exact e_ ⟨rfl,rfl,λu LP=>mQ u (f_ _ LP)⟩
  .rintro⟨r1,r2⟩ s' ⟨hr,rfl,_⟩;simp only at hr;subst hr;exact e_ h
 hbv:=λ{A E s k a Q} hk h=>by
  have hT:s.TypeIs (.ref a) "tuple":=IsTupleKey.typeIs hk;obtain⟨o,items,n,ho,_,hd,hi⟩:=hk;unfold hashByValue;refine a_ (VN hT F.slot_tuple_hash.lookup ?_);dsimp only;refine a_ (Vh ho hd ?_);refine a_ ?_;show wpAny _ _ (forIn items _ _) _ _ s;rw[<- WS];refine Wy _ (λrest r s'=>r.1=none/\s'=s/\∃ks,ItemsAre (aJ prog w) ks rest) _ ?_ ?_ _ _ ⟨rfl,rfl,_,hi⟩
  .rintro v rest r s' ⟨hr,rfl,ks,Ir⟩;cases Ir with
   | cons h1 uf=>
    obtain⟨b,hb⟩:=Hd 7 h1;rw[hb];refine a_ (e_ ?_);cases b with
    | true=>
     simp only[X2,D_,UU];exact e_ ⟨rfl,rfl,_,uf⟩
    | false=>
     simp only[Bool.not_false,Vy];exact e_ (e_ (h _))
  .rintro⟨r1,r2⟩ s' ⟨hr,rfl,_⟩;simp only at hr;subst hr;exact e_ (h _)
theorem vi(x:(tupleKind (aJ prog w)).is h ks a)(k:∀o,h.get? a=some o->h'.get? a=some o):(tupleKind (aJ prog w)).is h' ks a:=by
 obtain⟨o,items,n,ho,hc,hd,hi⟩:=x;exact⟨o,items,n,k o ho,hc,hd,hi⟩
theorem df.keep{prog:YB}{w:YE}{K:Type}[DecidableEq K]{knd:HeapKind prog w K}{h h':YD}{a:YH}{xs:List (K×YH)}(x:df knd a xs h)(k:∀o,h.get? a=some o->h'.get? a=some o):df knd a xs h':=by
 obtain⟨o,es,ep,t,ho,rest⟩:=x;exact⟨o,es,ep,t,k o ho,rest⟩
def js[DecidableEq K](xs:List (K×YH))(x:K×YH):List (K×YH):=if x.1∈xs.map (·.1)then xs else xs++[x]
section
variable {prog:YB}{w:YE}{A:YC}{E:Yh}{s:YA}{R:Result->YA->Prop}
theorem Dm(xs:List (YL×YH))(x:YL×YH):(js xs x).length<=xs.length+1:=by unfold js;split<;>simp
theorem DN{xs:List (YL×YH)}{x y:YL×YH}(h:y∈js xs x):y∈xs\/y=x:=by
 unfold js at h
 split at h
 .exact .inl h
 .simpa using h
theorem A0(hu:A.units<cLine)(hS:df (tupleKind (aJ prog w)) a xs s.heap)(wJ:∀x∈xs,(tupleKind (aJ prog w)).is s.heap x.1 x.2)(gB:(tupleKind (aJ prog w)).is s.heap k b)(hl:xs.length+1<=4914)
  (h:∀r h' tk,Heap.SameBut a s.heap h'->df (tupleKind (aJ prog w)) a (js xs (k,b)) h'->Q r {s with heap:=h',toks:=tk}):wpAny @7 A (setAdd a (.ref b)) Q E s:=by
 unfold setAdd;refine F_ ?_;refine a_ ((tupleKind (aJ prog w)).pyHash (show(tupleKind (aJ prog w)).room A from hu) gB ?_);refine Gx (s:={s with toks:=s.toks+(tupleKind (aJ prog w)).draws k}) nB (show(tupleKind (aJ prog w)).room A from hu) hS wJ gB hl (λhk=>?_) (λhk h' hsb LQ=>?_)
 .have e:js xs (k,b)=xs:=by unfold js;rw[h_ hk]
  exact h false s.heap _ ⟨rfl,λ_ _=>rfl⟩ (by rw[e];exact hS)
 .have e:js xs (k,b)=xs++[(k,b)]:=by unfold js;rw[i_ hk]
  exact h true h' _ hsb (by rw[e];exact LQ)
theorem vd(hh:A.in1.handled=none)(hu:A.in1.units<cLine){h0:YD}{N d it l:Nat}(PP:d≠it)(S7:N<=d)(Ri:N<=it){items:Array Yz}(hl:h0.IsList l items)(Rj:l<N){ks:List (YL×YH)}(hit:items.toList=ks.map λx=>Value.ref x.2)
  (Ir:∀x∈ks,x.2<N/\(tupleKind (aJ prog w)).is h0 x.1 x.2) (hlen:ks.length<=4900) :
  ∀(rest pre:List (YL×YH))(s:YA)(xs:List (YL×YH)),ks=pre++rest->(∀b o,b<N->h0.get? b=some o->s.heap.get? b=some o)->s.heap.IsListIter it l pre.length->df (tupleKind (aJ prog w)) d xs s.heap->(∀x∈xs,x∈ks)->xs.length<=pre.length->
   (∀h' tk,(∀b o,b<N->h0.get? b=some o->h'.get? b=some o)->df (tupleKind (aJ prog w)) d (rest.foldl js xs) h'->R (.ok (.ret .none)) {s with heap:=h',toks:=tk})->
   codeAny @7 A (.builtin "set.update.loop" ⟨[.ref d,.ref it],[]⟩) R s
 | [],pre,s,xs,hk,hold,hi,hS,hx,hxl,hR=>by
  refine V4 WD ?_;rw[Wu VR _];have Cb:s.heap.IsList l items:=by obtain⟨o,ho,r⟩:=hl;exact⟨o,hold l o Rj ho,r⟩
  show wpAny _ A.in1 (pyNext (.ref it) >>= _) _ _ s;refine a_ (Xb hh hi Cb (by
   rw[<- Xe,hit,hk];simp) λh' hb=>?_)
  show wpAny _ A.in1 (ret Value.none) _ _ _;refine e_ (hR h' s.toks (λb o hbN e=>hb b o (A_ (q_ hbN Ri)) (hold b o hbN e)) (hS.keep λo e=>hb d o PP e))
 | x::rest,pre,s,xs,hk,hold,hi,hS,hx,hxl,hR=>by
  refine V4 WD ?_;rw[Wu VR _];have Cb:s.heap.IsList l items:=by obtain⟨o,ho,r⟩:=hl;exact⟨o,hold l o Rj ho,r⟩
  have S8:x∈ks:=by rw[hk];simp
  obtain⟨xN,xk⟩:=Ir x S8;have S9:pre.length+1<=ks.length:=by rw[hk];simp
  show wpAny _ A.in1 (pyNext (.ref it) >>= _) _ _ s;refine a_ (W1 hi Cb (x:=.ref x.2) (by
   rw[<- Xe,hit,hk];simp) λh1 Q7 hsb1=>?_)
  have FK:∀b o,b<N->h0.get? b=some o->h1.get? b=some o:=λb o hbN e=>by
   rw[hsb1.2 b (A_ (q_ hbN Ri))];exact hold b o hbN e
  have hS1:df (tupleKind (aJ prog w)) d xs h1:=hS.keep λo e=>by rw[hsb1.2 d PP];exact e
  show wpAny _ A.in1 (holding [Value.ref x.2] (setAdd d (.ref x.2)) >>= _) _ _ {s with heap:=h1};refine a_ (F_ (A0 (s:={s with heap:=h1}) hu hS1 (λy hy=>?_) (k:=x.1) (vi xk λo e=>FK _ o xN e) @1 λr h2 tk hsb2 LR=>?_))
  .obtain⟨yN,yk⟩:=Ir y (hx y hy);exact vi yk λo e=>FK _ o yN e
  .refine e_ ⟨plainId_quiet VR _,?_⟩;have hold2:∀b o,b<N->h0.get? b=some o->h2.get? b=some o:=λb o hbN e=>by
    rw[hsb2.2 b (A_ (q_ hbN S7))];exact FK b o hbN e
   have hi2:h2.IsListIter it l (pre++[x]).length:=by
    rw[u_,UT];obtain⟨o,ho,r⟩:=Q7;exact⟨o,by rw[hsb2.2 it (US PP)];exact ho,r⟩
   have:=Dm xs x;exact vd hh hu PP S7 Ri hl Rj hit Ir hlen rest (pre++[x]) {s with heap:=h2,toks:=tk} (js xs x) (by rw[hk];simp) hold2 hi2 LR (λy hy=>by
    rcases DN hy with h | h
    .exact hx y h
    .exact h▸S8) (by rw[u_,UT];omega) hR
theorem Fj(led:Bool)(e:h.get? a=some {cls:=.type "set",dict:=none,data:=.set #[] 0 (.fresh 0 0 led)}):df (tupleKind (aJ prog w)) a [] h:=by
 refine⟨_,#[],0,_,e,⟨rfl,rfl,rfl⟩,rfl,⟨by simp,⟨rfl,⟨3,rfl⟩,by simp[SetTable.fresh],λx hx=>?_,rfl,by simp[SetTable.fresh],λq hq=>?_⟩,by simp[SetTable.fresh,eU],by simp[SetTable.fresh]⟩,Wv⟩
 .simp[SetTable.fresh]at hx
 .simp[SetTable.fresh]at hq
theorem pR{l:YH}{items:Array Yz}{ks:List (YL×YH)}{Q:Yh}(hh:A.handled=none)(hu:A.units+4<cLine)(hl:s.heap.IsList l items)(hit:items.toList=ks.map λx=>Value.ref x.2)
  (Ir:∀x∈ks,(tupleKind (aJ prog w)).is s.heap x.1 x.2) (hlen:ks.length<=4900)
  (h:∀(h':YD)(tk:Nat),df (tupleKind (aJ prog w)) s.sz (ks.foldl js []) h'->(∀b o,b<s.sz->s.heap.get? b=some o->h'.get? b=some o)->Q (.ref s.sz) {s with heap:=h',toks:=tk}) :
  wpAny @7 A (call (.type "set") [.ref l]) Q E s:=by
 obtain⟨c,tl,hmro⟩:=Wk.mro;have hmade:=Wk.made;have hsub:=Wk.sub;refine Xh (codeAny_of_tree ?_);show wpAny _ _ (callAny (.type "set") _) _ _ _;refine e_ ⟨WT _ (by decide +kernel),V4 F.entry_type_call ?_⟩;rw[Around.under_plain (weight_type_call_type "set" [.ref l] []) rfl];have h1:=Wk.notType;have h2:=Wk.canCreate;have hct:=F.typeCall_set_1 (.ref l)
 repeat (any_goals (first | assumption | wp_step))
 refine V7 (code_set_new_1 (.ref l) (E:=E) (Q₁:=λobj s₁=>∃led:Bool,obj=.ref s.sz/\s₁={s with heap:=s.heap.push {cls:=.type "set",dict:=none,data:=.set #[] 0 (.fresh 0 0 led)}}) λled=>⟨led,rfl,rfl⟩) λr s₁ hr=>?_;cases r with
 | error e=>exact hr
 | ok fl=>
  cases fl with
  | ret obj=>
   obtain⟨led,rfl,rfl⟩:=hr;have hS:(s.heap.push {cls:=.type "set",dict:=none,data:=.set #[] 0 (.fresh 0 0 led)}).get? s.sz=some {cls:=.type "set",dict:=none,data:=.set #[] 0 (.fresh 0 0 led)}:=o_ _ rfl;have hT:Shared.TypeIs {s with heap:=s.heap.push {cls:=.type "set",dict:=none,data:=.set #[] 0 (.fresh 0 0 led)}} (.ref s.sz) "set":=⟨_,hS,rfl⟩;have hli:=Wk.init.lookup;have hbi:=Wk.init.bind (.ref s.sz)
   repeat (any_goals (first | assumption | wp_step))
   refine V7 (Ww (R:=wants (λr s₂=>r=.none/\∃h' tk,s₂={s with heap:=h',toks:=tk}/\
     df (tupleKind (aJ prog w)) s.sz (ks.foldl js []) h'/\
     (∀b o,b<s.sz->s.heap.get? b=some o->h'.get? b=some o)) E) Wk.init.plain F.entry_set_init (check_set_init_1 hT ?_)) λr₂ s₂ hr₂=>?_
   .obtain⟨ol,JA,jZ,nl,Im⟩:=id hl;obtain⟨ocls,odict,odata,oslots⟩:=ol;simp only at jZ Im;subst jZ;subst Im;have hol':(s.heap.push {cls:=.type "set",dict:=none,data:=.set #[] 0 (.fresh 0 0 led)}).get? l=some {cls:=.type "list",dict:=odict,data:=.seq items nl,slots:=oslots}:=d_ _ JA;have hsls:=F.sub_list_set;have hslf:=F.sub_list_frozenset;have hne:(Value.type "list"==Value.type "dict")=false:=by decide
    have OG:(s.heap.push {cls:=.type "set",dict:=none,data:=.set #[] 0 (.fresh 0 0 led)}).IsList l items:=⟨_,hol',rfl,nl,rfl⟩;unfold Builtin.«set.__init__» noKeywords Builtin.Frozenset.updateFrom;generalize hPI:pyIter=PI
    wp_walk
    subst hPI;refine Vz OG ?_;refine a_ (wpAny_runValue ?_);have hlS:l<s.sz:=n_ JA;have hsz:(s.heap.push {cls:=.type "set",dict:=none,data:=.set #[] 0 (.fresh 0 0 led)}).objs.size=s.sz+1:=UP _ _;refine vd (h0:=s.heap) (N:=s.sz) (ks:=ks) (items:=items) (by simp[hh]) ?Rk (by rw[hsz];exact A_ (Xk _)) (m_ _) (by rw[hsz];exact WX _) hl hlS hit (λx hx=>⟨?_,Ir x hx⟩) hlen ks [] _ [] rfl (λb o _ e=>d_ _ (d_ _ e)) ⟨_,o_ _ rfl,rfl,rfl⟩ (Fj led (d_ _ hS)) (λx hx=>by cases hx) (m_ _) λh' tk hold LQ=>?_
    case Rk=>simp only[Around.in1];first | omega | (simp[Around.in1];omega)
    .obtain⟨o,_,_,ho,_⟩:=Ir x hx;exact n_ ho
    .show wpAny _ _ _ _ _ _;refine e_ ?_;show wpAny _ _ (ret Value.none) _ _ _;exact e_ ⟨rfl,h',tk,rfl,LQ,hold⟩
   .cases r₂ with
    | error e=>exact hr₂
    | ok fl₂=>
     cases fl₂ with
     | ret r=>
      obtain⟨rfl,h',tk,rfl,LQ,hk'⟩:=hr₂
      repeat (any_goals (first | assumption | wp_step))
      exact h _ _ LQ hk'
     | _=>exact hr₂.elim
  | _=>exact hr.elim
end
section
variable {prog:YB}{w:YE}{A:YC}{E:Yh}{s:YA}{R:Result->YA->Prop}
section
variable {K:Type}[DecidableEq K]{knd:HeapKind prog w K}
end
end
end St
namespace Mi
open PySem PySem.Spec PyProof.Rows L2
inductive D where
 | non | bl (b:Bool) | int (i:Int) | str (x:Str) | tup (ds:List D) | lst (ds:List D) | dct (ks:List (Int×Int))
  | st (ps:List (Int×Int)) | ln (n:Nat)
  | mp (th:Str->Int) (ks:List (List Key)) (ds:List D)
 deriving Inhabited
abbrev YQ:=Option D
abbrev YO:=List D
abbrev YN:=Option YO
def kk(p:Yx):YL:=[.inl p.1,.inl p.2]
abbrev Fg:=Yy
def MV(x:Yx×YH):Int×Yz:=(reduceHash (Builtin.Tuple.tupleHashOf [hashInt x.1.1,hashInt x.1.2]),.ref x.2)
def jR(a:YH)(ps:Ym)(bs:Ys)(h:YD):Prop:=
 ∃o es ep t,h.get? a=some o/\o.ExactSet/\o.data=.set es ep t/\es.toList.Perm ((ps.zip bs).map MV)/\St.Ok t (es.toList.map (·.1))/\t.mask∈St.eU/\t.place.size*5<t.mask*3/\ps.Nodup
def P8(x:Yx×YH):DictEntry:=⟨reduceHash (Builtin.Tuple.tupleHashOf [hashInt x.1.1,hashInt x.1.2]),.ref x.2,.bool true⟩
def K6(a:YH)(ps:Ym)(bs:Ys)(h:YD):Prop:=
 ∃o es ep,h.get? a=some o/\o.ExactDict/\o.data=.dict es ep/\es.toList=(ps.zip bs).map P8/\ps.Nodup/\(a==sysModules)=false/\ps.length<=16000000
def jn(K:Fg)(H:Hp)(ps:Ym)(bs:Ys):Prop:=bs.length=ps.length/\∀(i:Nat) p b,ps[i]?=some p->bs[i]?=some b->cR K H b [.int p.1,.int p.2]
def Av(K:Fg)(Z H:Hp)(a:YH)(ks:Ym):Prop:=∃bs,H a=some (.ext (K6 a ks bs))/\jn K Z ks bs
def MD(a:YH)(n:Nat)(h:YD):Prop:=∃o es ep,h.get? a=some o/\o.ExactDict/\o.data=.dict es ep/\es.size=n/\(a==sysModules)=false
def hK(th:Str->Int):Key->Int
 | .inl k=>hashInt k
 | .inr x=>th x
def Ei(th:Str->Int)(x:YL×YH×Yz):DictEntry:=⟨reduceHash (Builtin.Tuple.tupleHashOf (x.1.map (hK th))),.ref x.2.1,x.2.2⟩
def ij(ks:YK)(bs:Ys)(us:Yo):List (YL×YH×Yz):=ks.zip (bs.zip us)
def cb(th:Str->Int)(a:YH)(ks:YK)(bs:Ys)(vs:YR)(h:YD):Prop:=
 ∃o es ep us,h.get? a=some o/\o.ExactDict/\o.data=.dict es ep/\aB vs us/\es.toList=(ij ks bs us).map (Ei th)/\ks.Nodup/\(a==sysModules)=false/\ks.length<=16000000/\bs.length=ks.length/\us.length=ks.length
def ff(K:Fg)(H:Hp)(ks:YK)(bs:Ys):Prop:=∀(i:Nat) k b,ks[i]?=some k->bs[i]?=some b->cR K H b (k.map kV)
mutual
def Rep(K:Fg)(H:Hp):D->V->Prop
 | .non,v=>v=.non
 | .bl b,v=>v=.bl b
 | .int i,v=>v=.int i
 | .str x,v=>v=.str x/\PyData.strOk x=true
 | .tup ds,v=>∃a vs,v=.ref a/\cR K H a vs/\av K H ds vs
 | .lst ds,v=>∃a vs,v=.ref a/\cY K H a vs/\av K H ds vs
 | .dct ks,v=>∃a,v=.ref a/\Av K H H a ks
 | .st ps,v=>∃a bs,v=.ref a/\bs.length=ps.length/\H a=some (.ext (jR a ps bs))/\∀(i:Nat) p b,ps[i]?=some p->bs[i]?=some b->cR K H b [.int p.1,.int p.2]
 | .ln n,v=>∃a,v=.ref a/\H a=some (.ext (MD a n))
 | .mp th ks ds,v=>∃a bs vs,v=.ref a/\H a=some (.ext (cb th a ks bs vs))/\ff K H ks bs/\av K H ds vs
def av(K:Fg)(H:Hp):YO->YR->Prop
 | [],vs=>vs=[]
 | d::ds,vs=>∃v r,vs=v::r/\Rep K H d v/\av K H ds r
end
theorem eo{K:Fg}{H H':Hp}{a:YH}{xs:YR}(e:aO H H')(h:cR K H a xs):cR K H' a xs:=by
 rcases h with (h | ⟨o,h⟩) | h
 .exact .inl (.inl (e _ _ h))
 .exact .inl (.inr ⟨o,e _ _ h⟩)
 .exact .inr h
theorem ff.mono{K:Fg}{H H':Hp}(s:aO H H'){ks:YK}{bs:Ys}(h:ff K H ks bs):ff K H' ks bs:=λi k b h1 h2=>eo s (h i k b h1 h2)
theorem jn.mono{K:Fg}{H H':Hp}(s:aO H H'){ps:Ym}{bs:Ys}(h:jn K H ps bs):jn K H' ps bs:=⟨h.1,λi p b h1 h2=>eo s (h.2 i p b h1 h2)⟩
theorem Av.mono{K:Fg}{Z Z' H H':Hp}(z:aO Z Z')(s:aO H H'){a:YH}{ks:Ym}(h:Av K Z H a ks):Av K Z' H' a ks:=let ⟨bs,e,r⟩:=h;⟨bs,s _ _ e,r.mono z⟩
mutual
theorem Rep.mono{K:Fg}{H H':Hp}(s:aO H H'):∀(d:D){v:V},Rep K H d v->Rep K H' d v
 | .non,_,h=>h
 | .bl _,_,h=>h
 | .int _,_,h=>h
 | .str _,_,h=>h
 | .tup ds,_,⟨a,vs,e,q,r⟩=>⟨a,vs,e,eo s q,av.mono s ds r⟩
 | .lst ds,_,⟨a,vs,e,q,r⟩=>⟨a,vs,e,s.seq q,av.mono s ds r⟩
 | .dct ks,_,⟨a,e,q⟩=>⟨a,e,q.mono s s⟩
 | .st ps,_,⟨a,bs,e,l,q,r⟩=>⟨a,bs,e,l,s _ _ q,λi p b h1 h2=>eo s (r i p b h1 h2)⟩
 | .ln n,_,⟨a,e,q⟩=>⟨a,e,s _ _ q⟩
 | .mp th ks ds,_,⟨a,bs,vs,e,q,r,t⟩=>⟨a,bs,vs,e,s _ _ q,r.mono s,av.mono s ds t⟩
theorem av.mono{K:Fg}{H H':Hp}(s:aO H H'):∀(ds:YO){vs:YR},av K H ds vs->av K H' ds vs
 | [],_,h=>h
 | d::ds,_,⟨v,r,e,h,q⟩=>⟨v,r,e,Rep.mono s d h,av.mono s ds q⟩
end
theorem av.len{K:Fg}{H:Hp}:∀{ds:YO}{vs:YR},av K H ds vs->ds.length=vs.length
 | [],_,h=>by cases(show _=[]from h);rfl
 | d::ds,_,⟨v,r,e,_,q⟩=>by subst e;simp[av.len q]
theorem av.get{K:Fg}{H:Hp}:∀{ds:YO}{vs:YR}{i:Nat}{d:D},av K H ds vs->ds[i]?=some d->∃v,vs[i]?=some v/\Rep K H d v
 | [],_,_,_,_,e=>by simp at e
 | d::ds,_,0,_,⟨v,r,e,h,q⟩,e2=>by subst e;simp at e2;subst e2;exact⟨v,rfl,h⟩
 | d::ds,_,i+1,_,⟨v,r,e,h,q⟩,e2=>by subst e;simpa using av.get (i:=i) q (by simpa using e2)
theorem av.getV{K:Fg}{H:Hp}{ds:YO}{vs:YR}{i:Nat}{v:V}(h:av K H ds vs)(e:vs[i]?=some v):∃d,ds[i]?=some d/\Rep K H d v:=by
 have hl:=h.len;have hi:i<vs.length:=(k_.mp e).1;have hd:ds[i]?=some (ds[i]'@1):=by simp[hl,hi]
 obtain⟨w,e2,r⟩:=h.get hd;rw[e]at e2;cases e2;exact⟨_,hd,r⟩
theorem av.app{K:Fg}{H:Hp}:∀{ds es:YO}{vs us:YR},av K H ds vs->av K H es us->av K H (ds++es) (vs++us)
 | [],_,_,_,h,q=>by cases(show _=[]from h);exact q
 | d::ds,_,_,_,⟨v,r,e,h,q⟩,q2=>by subst e;exact⟨v,_,rfl,h,av.app q q2⟩
theorem av.one{K:Fg}{H:Hp}{d:D}{v:V}(h:Rep K H d v):av K H [d] [v]:=⟨v,[],rfl,h,rfl⟩
theorem av.cons{K:Fg}{H:Hp}{d:D}{v:V}{ds:YO}{vs:YR}(h:Rep K H d v)(r:av K H ds vs):av K H (d::ds) (v::vs):=⟨v,vs,rfl,h,r⟩
theorem av.set{K:Fg}{H:Hp}{d:D}{v:V}(h:Rep K H d v):∀{ds:YO}{vs:YR}(i:Nat),av K H ds vs->av K H (ds.set i d) (vs.set i v)
 | [],_,_,q=>by cases(show _=[]from q);rfl
 | d::ds,_,0,⟨w,r,e,_,q⟩=>by subst e;exact⟨v,r,rfl,h,q⟩
 | d::ds,_,i+1,⟨w,r,e,z,q⟩=>by subst e;exact⟨w,_,rfl,z,av.set h i q⟩
theorem av.drop{K:Fg}{H:Hp}:∀{ds:YO}{vs:YR}(n:Nat),av K H ds vs->av K H (ds.drop n) (vs.drop n)
 | _,_,0,q=>q
 | [],_,_+1,q=>by cases(show _=[]from q);rfl
 | _::_,_,n+1,⟨w,r,e,z,q⟩=>by subst e;exact av.drop n q
theorem av.take{K:Fg}{H:Hp}:∀{ds:YO}{vs:YR}(n:Nat),av K H ds vs->av K H (ds.take n) (vs.take n)
 | _,_,0,q=>rfl
 | [],_,_+1,q=>by cases(show _=[]from q);rfl
 | _::_,_,n+1,⟨w,r,e,z,q⟩=>by subst e;exact⟨w,_,rfl,z,av.take n q⟩
theorem av.rev{K:Fg}{H:Hp}:∀{ds:YO}{vs:YR},av K H ds vs->av K H ds.reverse vs.reverse
 | [],_,q=>by cases(show _=[]from q);rfl
 | _::_,_,⟨w,r,e,z,q⟩=>by subst e;simp only[XT];exact(av.rev q).app (av.one z)
theorem av.ints{K:Fg}{H:Hp}:∀(ns:Yw),av K H (ns.map D.int) (ns.map V.int)
 | []=>rfl
 | n::ns=>⟨_,_,rfl,rfl,av.ints ns⟩
structure Ex(Z H Z' H':Hp):Prop where
 h:aO H H'
 z:aO Z Z'
 zh:aO Z' H'
 fr:∀a,H a≠none->Z a=none->Z' a=none
theorem Ex.refl(s:aO Z H):Ex Z H Z H:=⟨aO.refl _,aO.refl _,s,λ_ _ h=>h⟩
theorem oC(s:aO H H')(h:H a≠none):H' a≠none:=by
 cases e:H a with
 | none=>exact absurd e h
 | some o=>rw[s a o e];simp
theorem Ex.trans(x:Ex Z H Z1 H1)(y:Ex Z1 H1 Z2 H2):Ex Z H Z2 H2:=
 ⟨x.h.trans y.h,x.z.trans y.z,y.zh,λa h e=>y.fr a (oC x.h h) (x.fr a h e)⟩
theorem Ex.transB(x:Ex Z B Z1 H1)(y:Ex Z1 B Z2 H2):Ex Z B Z2 H2:=
 ⟨y.h,x.z.trans y.z,y.zh,λa h e=>y.fr a h (x.fr a h e)⟩
theorem Ex.part(b:aO B H)(x:Ex Z H Z' H'):Ex Z B Z' H':=⟨b.trans x.h,x.z,x.zh,λa h e=>x.fr a (oC b h) e⟩
theorem cj(h:H p=none):aO H (upd H p o):=λb u e=>by rw[ax (cX e h)];exact e
theorem Kw(s:aO Z H)(h:H p=none):aO (upd Z p o) (upd H p o):=λb u e=>by
 by_cases hb:b=p
 .subst hb;rw[au]at e ⊢;exact e
 .rw[ax hb]at e ⊢;exact s b u e
theorem eV(s:aO Z H)(h:Z p=none):aO Z (upd H p o):=λb u e=>by
 rw[ax (cX e h)];exact s b u e
theorem oK(s:aO Z H)(h:H p=some o):aO (upd Z p o) H:=λb u e=>by
 by_cases hb:b=p
 .subst hb;rw[au]at e;cases e;exact h
 .rw[ax hb]at e;exact s b u e
theorem Ex.new(s:aO Z H)(h:H p=none):Ex Z H (upd Z p o) (upd H p o):=
 ⟨cj h,cj (s.free h),Kw s h,λa ha e=>by rw[ax (λz=>ha (by rw[z];exact h))];exact e⟩
theorem Ex.newL(s:aO Z H)(h:H p=none):Ex Z H Z (upd H p o):=
 ⟨cj h,aO.refl _,eV s (s.free h),λ_ _ e=>e⟩
def AI(K:Fg)(Z H:Hp)(a:YH)(th:Str->Int)(ks:YK)(ds:YO):Prop:=∃bs vs,H a=some (.ext (cb th a ks bs vs))/\ff K Z ks bs/\av K Z ds vs
theorem AI.mono{K:Fg}{Z Z' H H':Hp}(z:aO Z Z')(s:aO H H'){a:YH}{th:Str->Int}{ks:YK}{ds:YO}(h:AI K Z H a th ks ds):AI K Z' H' a th ks ds:=let ⟨bs,vs,e,r,t⟩:=h;⟨bs,vs,s _ _ e,r.mono z,av.mono z ds t⟩
inductive Gr where | pk | cl | nw | nd | nm
def Gd(K:Fg)(Z' H H':Hp):Gr->D->V->Prop
 | .pk,d,v=>Rep K Z' d v\/(∃a vs ds,v=.ref a/\d=.lst ds/\H' a=some (.lst vs)/\av K Z' ds vs)\/(∃a ks,v=.ref a/\d=.dct ks/\Av K Z' H' a ks)\/∃a th ks ds,v=.ref a/\d=.mp th ks ds/\AI K Z' H' a th ks ds
 | .cl,d,v=>Rep K Z' d v
 | .nw,d,v=>∃a vs ds,v=.ref a/\d=.lst ds/\H a=none/\H' a=some (.lst vs)/\Z' a=none/\av K Z' ds vs
 | .nd,d,v=>∃a ks,v=.ref a/\d=.dct ks/\H a=none/\Av K Z' H' a ks/\Z' a=none
 | .nm,d,v=>∃a th ks ds,v=.ref a/\d=.mp th ks ds/\H a=none/\AI K Z' H' a th ks ds/\Z' a=none
section
variable {K:Fg}{Z Z' H H':Hp}{g:Gr}{d:D}{v:V}
theorem Gd.pk(h:Gd K Z' H H' g d v):Gd K Z' H3 H' .pk d v:=by
 cases g with
 | pk=>exact h
 | cl=>exact .inl h
 | nw=>obtain⟨a,vs,ds,e1,e2,_,e3,_,r⟩:=h;exact .inr (.inl ⟨a,vs,ds,e1,e2,e3,r⟩)
 | nd=>obtain⟨a,ks,e1,e2,_,e3,_⟩:=h;exact .inr (.inr (.inl ⟨a,ks,e1,e2,e3⟩))
 | nm=>obtain⟨a,th,ks,ds,e1,e2,_,e3,_⟩:=h;exact .inr (.inr (.inr ⟨a,th,ks,ds,e1,e2,e3⟩))
theorem Gd.rep(s:aO Z' H')(h:Gd K Z' H H' g d v):Rep K H' d v:=by
 rcases(h.pk (H3:=H))with h | ⟨a,vs,ds,rfl,rfl,e,r⟩ | ⟨a,ks,rfl,rfl,e⟩ | ⟨a,th,ks,ds,rfl,rfl,bs,vs,e,r,t⟩
 .exact Rep.mono s d h
 .exact⟨a,vs,rfl,cY.of e,av.mono s ds r⟩
 .exact⟨a,rfl,e.mono s (aO.refl _)⟩
 .exact⟨a,bs,vs,rfl,e,r.mono s,av.mono s ds t⟩
theorem Gd.lst{ds:YO}(s:aO Z' H')(h:Gd K Z' H H' g (.lst ds) v):∃a vs,v=.ref a/\cY K H' a vs/\av K Z' ds vs:=by
 rcases(h.pk (H3:=H))with ⟨a,vs,e,q,r⟩ | ⟨a,vs,ds',rfl,e,e2,r⟩ | ⟨_,_,_,e,_⟩ | ⟨_,_,_,_,_,e,_⟩
 .exact⟨a,vs,e,s.seq q,r⟩
 .cases e;exact⟨a,vs,rfl,cY.of e2,r⟩
 .cases e
 .cases e
theorem Gd.mp(s:aO Z' H')(h:Gd K Z' H H' g (.mp th ks ds) v):∃a,v=.ref a/\AI K Z' H' a th ks ds:=by
 rcases(h.pk (H3:=H))with ⟨a,bs,vs,e,q,r,t⟩ | ⟨_,_,_,_,e,_⟩ | ⟨_,_,_,e,_⟩ | ⟨a,F7,uh,ds',rfl,e,q⟩
 .exact⟨a,e,bs,vs,s _ _ q,r,t⟩
 .cases e
 .cases e
 .cases e;exact⟨a,rfl,q⟩
theorem Gd.tup{ds:YO}(s:aO Z' H')(h:Gd K Z' H H' g (.tup ds) v):∃a vs,v=.ref a/\cR K H' a vs/\av K Z' ds vs:=by
 rcases(h.pk (H3:=H))with ⟨a,vs,e,q,r⟩ | ⟨a,vs,ds',rfl,e,e2,r⟩ | ⟨_,_,_,e,_⟩ | ⟨_,_,_,_,_,e,_⟩
 .exact⟨a,vs,e,eo s q,r⟩
 .cases e
 .cases e
 .cases e
theorem Gd.int{i:Int}(h:Gd K Z' H H' g (.int i) v):v=.int i:=by
 rcases(h.pk (H3:=H))with h | ⟨_,_,_,_,e,_⟩ | ⟨_,_,_,e,_⟩ | ⟨_,_,_,_,_,e,_⟩
 .exact h
 .cases e
 .cases e
 .cases e
theorem Gd.bl(h:Gd K Z' H H' g (.bl b) v):v=.bl b:=by
 rcases(h.pk (H3:=H))with h | ⟨_,_,_,_,e,_⟩ | ⟨_,_,_,e,_⟩ | ⟨_,_,_,_,_,e,_⟩
 .exact h
 .cases e
 .cases e
 .cases e
theorem Gd.later(x:Ex Z' H' Z2 H2)(h:Gd K Z' H H' g d v):Gd K Z2 H3 H2 .pk d v:=by
 rcases(h.pk (H3:=H))with h | ⟨a,vs,ds,e1,e2,e3,r⟩ | ⟨a,ks,e1,e2,e3⟩ | ⟨a,th,ks,ds,e1,e2,e3⟩
 .exact .inl (Rep.mono x.z d h)
 .exact .inr (.inl ⟨a,vs,ds,e1,e2,x.h _ _ e3,av.mono x.z ds r⟩)
 .exact .inr (.inr (.inl ⟨a,ks,e1,e2,e3.mono x.z x.h⟩))
 .exact .inr (.inr (.inr ⟨a,th,ks,ds,e1,e2,e3.mono x.z x.h⟩))
end
inductive wN where
 | L (ds:List D) | T (ks:List (Int×Int)) | M (th:Str->Int) (ks:List (List Key)) (ds:List D)
def de(K:Fg)(Z:Hp)(a:YH):wN->HO->Prop
 | .L ds,o=>∃vs,o=.lst vs/\av K Z ds vs
 | .T ks,o=>∃bs,o=.ext (K6 a ks bs)/\jn K Z ks bs
 | .M th ks ds,o=>∃bs vs,o=.ext (cb th a ks bs vs)/\ff K Z ks bs/\av K Z ds vs
def wN.d:wN->D
 | .L ds=>.lst ds
 | .T ks=>.dct ks
 | .M th ks ds=>.mp th ks ds
theorem de.l{K:Fg}{Z:Hp}{a:YH}{ds:YO}{vs:YR}(h:av K Z ds vs):de K Z a (.L ds) (.lst vs):=⟨vs,rfl,h⟩
theorem de.mono{K:Fg}{Z Z':Hp}(s:aO Z Z'){a:YH}{w:wN}{o:HO}(h:de K Z a w o):de K Z' a w o:=by
 cases w with
 | L ds=>obtain⟨vs,e,r⟩:=h;exact⟨vs,e,av.mono s ds r⟩
 | T ks=>obtain⟨bs,e,r⟩:=h;exact⟨bs,e,r.mono s⟩
 | M th ks ds=>obtain⟨bs,vs,e,r,t⟩:=h;exact⟨bs,vs,e,r.mono s,av.mono s ds t⟩
theorem de.rep{K:Fg}{Z:Hp}{w:wN}{o:HO}{a:YH}(h:de K Z a w o)(e:Z a=some o):Rep K Z w.d (.ref a):=by
 cases w with
 | L ds=>obtain⟨vs,rfl,r⟩:=h;exact⟨a,vs,rfl,cY.of e,r⟩
 | T ks=>obtain⟨bs,rfl,r⟩:=h;exact⟨a,rfl,bs,e,r⟩
 | M th ks ds=>obtain⟨bs,vs,rfl,r,t⟩:=h;exact⟨a,bs,vs,rfl,e,r,t⟩
inductive Slot where
 | un | F (d:D) | O (w:wN)
def sN(K:Fg)(Z H:Hp):Slot->Option V->Prop
 | .un,_=>True
 | .F d,x=>∃v,x=some v/\Rep K Z d v
 | .O w,x=>∃a o,x=some (.ref a)/\H a=some o/\Z a=none/\de K Z a w o
abbrev En:=List Slot
abbrev YM:=En->YN
structure Rl(K:Fg)(B Z H:Hp)(env:En)(σ:L2.St):Prop where
 bh:aO B H
 zh:aO Z H
 len:env.length=σ.length
 sl:∀(i:Nat) s,env[i]?=some s->∃x,σ[i]?=some x/\sN K Z H s x
 ob:∀(i:Nat) ds a,env[i]?=some (.O ds)->σ[i]?=some (some (.ref a))->B a=none
 ap:∀(i j:Nat) ds es a,i≠j->env[i]?=some (.O ds)->env[j]?=some (.O es)->σ[i]?=some (some (.ref a))->σ[j]?≠some (some (.ref a))
section
variable {K:Fg}{B Z H Z' H':Hp}{env:En}{σ:L2.St}
theorem sN.ext(e:Ex Z H Z' H')(h:sN K Z H s x):sN K Z' H' s x:=by
 cases s with
 | un=>trivial
 | F d=>obtain⟨v,e1,r⟩:=h;exact⟨v,e1,Rep.mono e.z d r⟩
 | O w=>obtain⟨a,o,e1,e2,e3,r⟩:=h;exact⟨a,o,e1,e.h _ _ e2,e.fr a (by rw[e2];simp) e3,r.mono e.z⟩
theorem Rl.ext(R:Rl K B Z H env σ)(e:Ex Z H Z' H'):Rl K B Z' H' env σ:=
 ⟨R.bh.trans e.h,e.zh,R.len,λi s h=>let ⟨x,h1,h2⟩:=R.sl i s h;⟨x,h1,h2.ext e⟩,R.ob,R.ap⟩
theorem Rl.setF(R:Rl K B Z H env σ)(i:Nat)(r:Rep K Z d v):Rl K B Z H (env.set i (.F d)) (σ.set i (some v)):=by
 refine⟨R.bh,R.zh,by simp[R.len],λj s h=>?_,λj ds a h h2=>?_,λj k ds es a hne h1 h2 h3 h4=>?_⟩
 .by_cases hj:i=j
  .subst hj
   by_cases hl:i<env.length
   .rw[r_ hl]at h;cases h;exact⟨some v,r_ (by rw[<- R.len];exact hl),v,rfl,r⟩
   .rw[E_ (by simpa using U2 hl)]at h;cases h
  .rw[j_ hj]at h ⊢;exact R.sl j s h
 .by_cases hj:i=j
  .subst hj
   by_cases hl:i<env.length
   .rw[r_ hl]at h;cases h
   .rw[E_ (by simpa using U2 hl)]at h;cases h
  .rw[j_ hj]at h h2;exact R.ob j ds a h h2
 .have Iu:∀{j:Nat}{ds:wN},(env.set i (.F d))[j]?=some (.O ds)->i≠j:=λ{j ds} h z=>by
   subst z
   by_cases hl:i<env.length
   .rw[r_ hl]at h;cases h
   .rw[E_ (by simpa using U2 hl)]at h;cases h
  have n1:=Iu h1;have n2:=Iu h2;rw[j_ n1]at h1 h3;rw[j_ n2]at h2 h4;exact R.ap j k ds es a hne h1 h2 h3 h4
theorem Rl.setO(R:Rl K B Z H env σ)(i:Nat)(hb:B a=none)(hz:Z a=none)(hh:H a=some vs)(r:de K Z a ds vs)
  (hn:∀(j:Nat) es,j≠i->env[j]?=some (.O es)->σ[j]?≠some (some (.ref a))):Rl K B Z H (env.set i (.O ds)) (σ.set i (some (.ref a))):=by
 have atI:∀{s:Slot},(env.set i (.O ds))[i]?=some s->s=.O ds/\(σ.set i (some (V.ref a)))[i]?=some (some (.ref a)):=λ{s} h=>by
  by_cases hl:i<env.length
  .rw[r_ hl]at h;cases h;exact⟨rfl,r_ (by rw[<- R.len];exact hl)⟩
  .rw[E_ (by simpa using U2 hl)]at h;cases h
 refine⟨R.bh,R.zh,by simp[R.len],λj s h=>?_,λj es b h h2=>?_,λj k es fs b hne h1 h2 h3 h4=>?_⟩
 .by_cases hj:i=j
  .subst hj;obtain⟨e1,e2⟩:=atI h;subst e1;exact⟨_,e2,a,vs,rfl,hh,hz,r⟩
  .rw[j_ hj]at h ⊢;exact R.sl j s h
 .by_cases hj:i=j
  .subst hj;obtain⟨_,e2⟩:=atI h;rw[e2]at h2;cases h2;exact hb
  .rw[j_ hj]at h h2;exact R.ob j es b h h2
 .by_cases hj:i=j
  .subst hj;obtain⟨_,e2⟩:=atI h1;rw[e2]at h3;cases h3;rw[j_ hne]at h2 h4;exact hn k fs (US hne) h2 h4
  .by_cases hk:i=k
   .subst hk;obtain⟨_,e2⟩:=atI h2;rw[e2]at h4;cases h4;rw[j_ hj]at h1 h3;exact hn j es (US hj) h1 h3
   .rw[j_ hj]at h1 h3;rw[j_ hk]at h2 h4;exact R.ap j k es fs b hne h1 h2 h3 h4
theorem Rl.wr(R:Rl K B Z H env σ)(hi:env[i]?=some (.O ds))(ha:σ[i]?=some (some (.ref a)))(r:de K Z a es vs) :
  Rl K B Z (upd H a vs) (env.set i (.O es)) σ/\Ex Z B Z (upd H a vs):=by
 have hb:=R.ob i ds a hi ha;obtain⟨x,e1,b,us,e2,e3,hz,_⟩:=R.sl i _ hi;rw[ha]at e1;cases e1;cases e2;have hl:i<env.length:=(k_.mp hi).1;have sb:aO B (upd H a vs):=eV R.bh hb;have sz:aO Z (upd H a vs):=eV R.zh hz;refine⟨⟨sb,sz,by simp[R.len],λj s h=>?_,λj fs b h h2=>?_,λj k fs gs b hne h1 h2 h3 h4=>?_⟩,⟨sb,aO.refl _,sz,λ_ _ e=>e⟩⟩
 .by_cases hj:i=j
  .subst hj;rw[r_ hl]at h;cases h;exact⟨_,ha,a,vs,rfl,au,hz,r⟩
  .rw[j_ hj]at h;obtain⟨x,e1,q⟩:=R.sl j s h;refine⟨x,e1,?_⟩;cases s with
   | un=>trivial
   | F d=>exact q
   | O fs=>
    obtain⟨b,us',e4,e5,e6,q⟩:=q;refine⟨b,us',e4,?_,e6,q⟩;rw[ax (λz=>?_)]
    .exact e5
    .subst z;subst e4;exact R.ap i j ds fs b hj hi h ha e1
 .by_cases hj:i=j
  .subst hj;rw[ha]at h2;cases h2;exact hb
  .rw[j_ hj]at h;exact R.ob j fs b h h2
 .have old:∀{j:Nat}{fs:wN},(env.set i (.O es))[j]?=some (.O fs)->∃Ox,env[j]?=some (.O Ox):=λ{j fs} h=>by
   by_cases hj:i=j
   .subst hj;exact⟨ds,hi⟩
   .rw[j_ hj]at h;exact⟨fs,h⟩
  obtain⟨Ox,LS⟩:=old h1;obtain⟨gs',h2'⟩:=old h2;exact R.ap j k Ox gs' b hne LS h2' h3 h4
theorem Rl.frz{ds:wN}(R:Rl K B Z H env σ){i:Nat}(hi:env[i]?=some (.O ds)):∃Z',Rl K B Z' H (env.set i (.F ds.d)) σ/\Ex Z B Z' H:=by
 obtain⟨x,e1,a,vs,e2,e3,hz,r⟩:=R.sl i _ hi;subst e2;have hb:=R.ob i ds a hi e1;have hl:i<env.length:=(k_.mp hi).1;have s1:aO Z (upd Z a vs):=cj hz;have s2:aO (upd Z a vs) H:=oK R.zh e3;refine⟨upd Z a vs,⟨R.bh,s2,by simp[R.len],λj s h=>?_,λj fs b h h2=>?_,λj k fs gs b hne h1 h2 h3 h4=>?_⟩,⟨R.bh,s1,s2,λb hbn e=>?_⟩⟩
 .by_cases hj:i=j
  .subst hj;rw[r_ hl]at h;cases h;exact⟨_,e1,_,rfl,(r.mono s1).rep au⟩
  .rw[j_ hj]at h;obtain⟨y,e4,q⟩:=R.sl j s h;refine⟨y,e4,?_⟩;cases s with
   | un=>trivial
   | F d=>obtain⟨v,e5,q⟩:=q;exact⟨v,e5,Rep.mono s1 d q⟩
   | O fs=>
    obtain⟨b,us',e5,e6,e7,q⟩:=q;refine⟨b,us',e5,e6,?_,q.mono s1⟩;rw[ax (λz=>?_)]
    .exact e7
    .subst z;subst e5;exact R.ap i j ds fs b hj hi h e1 e4
 .by_cases hj:i=j
  .subst hj;rw[r_ hl]at h;cases h
  .rw[j_ hj]at h;exact R.ob j fs b h h2
 .have Iu:∀{j:Nat}{es:wN},(env.set i (.F ds.d))[j]?=some (.O es)->i≠j:=λ{j es} h z=>by
   subst z;rw[r_ hl]at h;cases h
  have n1:=Iu h1;have n2:=Iu h2;rw[j_ n1]at h1;rw[j_ n2]at h2;exact R.ap j k fs gs b hne h1 h2 h3 h4
 .rw[ax (λz=>hbn (by rw[z];exact hb))];exact e
end
abbrev Fe:=En->YQ
abbrev Fb:=En->Option Bool
abbrev YX:Fb:=λ_=>some true
abbrev Fes:=En->YN
def T(K:Fg)(g:Gr)(f:Fe):TE:=λσ H Q=>∃env B Z d,Rl K B Z H env σ/\f env=some d/\∀v Z' H',Ex Z H Z' H'->Gd K Z' H H' g d v->Q v H'
def TB(K:Fg)(f:Fb):TT:=λσ H Q=>∃env B Z b,Rl K B Z H env σ/\f env=some b/\∀Z' H',Ex Z H Z' H'->Q b H'
def TL(K:Fg)(f:Fes):TA:=λσ H Q=>∃env B Z ds,Rl K B Z H env σ/\f env=some ds/\∀vs Z' H',Ex Z H Z' H'->av K Z' ds vs->Q vs H'
def PD(X:Cx)(g:Gr)(e:YI)(f:Fe):Prop:=PE X e (T X.K g f)
def PB(X:Cx)(e:YI)(f:Fb):Prop:=PT X e (TB X.K f)
def JT(X:Cx)(e:YI)(f:Fb):Prop:=PW X e (TB X.K f)
structure PL(X:Cx)(es:List Expr)(f:Fes):Prop where
 p:PA X es (TL X.K f)
 l:∀env ds,f env=some ds->ds.length=es.length
section
variable {X:Cx}
theorem PE.imp(h:PE X e t)(i:∀σ H Q,t' σ H Q->t σ H Q):PE X e t':=λpins s σ H Q I q=>h pins s σ H Q I (i σ H Q q)
theorem PT.imp(h:PT X e t)(i:∀σ H Q,t' σ H Q->t σ H Q):PT X e t':=λpins s σ H Q I q=>h pins s σ H Q I (i σ H Q q)
theorem PW.imp(h:PW X e t)(i:∀σ H Q,t' σ H Q->t σ H Q):PW X e t':=λwh pins s σ H Q I q=>h wh pins s σ H Q I (i σ H Q q)
theorem PA.imp(h:PA X e t)(i:∀σ H Q,t' σ H Q->t σ H Q):PA X e t':=λpos pins s σ H Q I q=>h pos pins s σ H Q I (i σ H Q q)
def fC(d:D):Fe:=λ_=>some d
abbrev YW:Fe:=fC (.int 4)
abbrev YV:Fe:=fC (.int 3)
abbrev YU:Fe:=fC (.int 2)
abbrev YT:Fe:=fC (.int 1)
abbrev YS:Fe:=fC (.int 0)
theorem E6{K:Fg}{g:D}{v:V}{σ:L2.St}{H:Hp}{Q:VK}(h:T K .cl (fC g) σ H Q)(r:∀Z,Rep K Z g v):Q v H:=by
 obtain⟨env,B,Z,d,R,e,k⟩:=h;cases e;exact k v Z H (Ex.refl R.zh) (r Z)
theorem aj{i j pos}:PD X .cl (.Constant (.int i) j pos) (fC (.int i)):=PE.imp Ef λ_ _ _ h=>E6 h λ_=>rfl
theorem pY{b j pos}:PD X .cl (.Constant (.bool b) j pos) (fC (.bl b)):=PE.imp MQ λ_ _ _ h=>E6 h λ_=>rfl
theorem NK{j pos}:PD X .cl (.Constant .none j pos) (fC .non):=PE.imp LF λ_ _ _ h=>E6 h λ_=>rfl
theorem a7{x j pos}(hk:PyData.strOk x=true:=by decide +kernel):PD X .cl (.Constant (.str x) j pos) (fC (.str x)):=PE.imp Le λ_ _ _ h=>E6 h λ_=>⟨rfl,hk⟩
theorem xY(hm:X.mg x=some u)(rv:RelV v u)(r:∀Z,Rep X.K Z d v)(hg:Gl X x:=by rfl)(hd:@9:=by decide) :
  PD X .cl (.Name x pos) (fC d):=PE.imp (za hg hm rv hd) λ_ _ _ h=>E6 h r
def dR(env:En)(i:Nat):YQ:=match env[i]? with | some (.F d)=>some d | _=>none
def tL(env:En)(i:Nat):YQ:=match env[i]? with | some (.F d)=>some d | some (.O w)=>some w.d | _=>none
theorem ae(i:Nat)(hN:X.N[i]?=some x:=by rfl)(hv:rm X.env.scope x:=by first | exact Or.inl rfl | exact Or.inr (Or.inl rfl) | exact Or.inr (Or.inr rfl))(hd:@9:=by decide)
  (fX:(x==("__classdict__":Str))=false:=by decide):PD X .cl (.Name x pos) (λenv=>dR env i):=PE.imp (bK hN hv hd fX) λσ H Q h=>by
 obtain⟨env,B,Z,d,R,e,k⟩:=h;dsimp only[dR]at e
 split at e
 .rename_i d' h1;cases e;obtain⟨x,h2,v,h3,r⟩:=R.sl i _ h1;subst h3;exact⟨v,h2,k v Z H (Ex.refl R.zh) r⟩
 .cases e
theorem K8(i:Nat)(hN:X.N[i]?=some x:=by rfl)(hv:rm X.env.scope x:=by first | exact Or.inl rfl | exact Or.inr (Or.inl rfl) | exact Or.inr (Or.inr rfl))(hd:@9:=by decide)
  (fX:(x==("__classdict__":Str))=false:=by decide):PD X .pk (.Name x pos) (λenv=>tL env i):=PE.imp (bK hN hv hd fX) λσ H Q h=>by
 obtain⟨env,B,Z,d,R,e,k⟩:=h;dsimp only[tL]at e
 split at e
 .rename_i d' h1;cases e;obtain⟨x,h2,v,h3,r⟩:=R.sl i _ h1;subst h3;exact⟨v,h2,k v Z H (Ex.refl R.zh) (.inl r)⟩
 .rename_i ds h1;cases e;obtain⟨x,h2,a,vs,h3,h4,h5,r⟩:=R.sl i _ h1;subst h3;refine⟨_,h2,k _ Z H (Ex.refl R.zh) ?_⟩;cases ds with
  | L ds=>obtain⟨us,rfl,r⟩:=r;exact .inr (.inl ⟨a,us,ds,rfl,rfl,h4,r⟩)
  | T ks=>obtain⟨bs,rfl,r⟩:=r;exact .inr (.inr (.inl ⟨a,ks,rfl,rfl,bs,h4,r⟩))
  | M th ks ds=>obtain⟨bs,vs,rfl,r,t⟩:=r;exact .inr (.inr (.inr ⟨a,th,ks,ds,rfl,rfl,bs,vs,h4,r,t⟩))
 .cases e
theorem bL(h:PD X .nw e f):PD X .cl e f:=PE.imp h λσ H Q az=>by
 obtain⟨env,B,Z,d,R,e,k⟩:=az;refine⟨env,B,Z,d,R,e,λv Z' H' x g=>?_⟩;obtain⟨a,vs,ds,rfl,rfl,h1,h2,h3,r⟩:=g;have s1:aO Z' (upd Z' a (.lst vs)):=cj h3;exact k _ (upd Z' a (.lst vs)) H' ⟨x.h,x.z.trans s1,oK x.zh h2,λb hb e=>by rw[ax (λz=>hb (by rw[z];exact h1))];exact x.fr b hb e⟩ ⟨a,vs,rfl,cY.of au,av.mono s1 ds r⟩
theorem Jb(h:PD X .nm e f):PD X .cl e f:=PE.imp h λσ H Q az=>by
 obtain⟨env,B,Z,d,R,e,k⟩:=az;refine⟨env,B,Z,d,R,e,λv Z' H' x g=>?_⟩;obtain⟨a,th,ks,ds,rfl,rfl,h1,⟨bs,vs,h2,hp,r⟩,h3⟩:=g;have s1:aO Z' (upd Z' a (.ext (cb th a ks bs vs))):=cj h3;exact k _ (upd Z' a (.ext (cb th a ks bs vs))) H' ⟨x.h,x.z.trans s1,oK x.zh h2,λb hb e=>by rw[ax (λz=>hb (by rw[z];exact h1))];exact x.fr b hb e⟩ ⟨a,bs,vs,rfl,au,hp.mono s1,av.mono s1 ds r⟩
def fNil:Fes:=λ_=>some []
def aa(f:Fe)(fs:Fes):Fes:=λenv=>(f env).bind λd=>(fs env).bind λds=>some (d::ds)
theorem ak:PL X [] fNil:=⟨PA.imp b9 λσ H Q ⟨env,B,Z,ds,R,e,k⟩=>by cases e;exact k [] Z H (Ex.refl R.zh) rfl,λenv ds e=>by cases e;rfl⟩
theorem ny(h:aa f fs env=some ds):∃d r,f env=some d/\fs env=some r/\ds=d::r:=by
 unfold aa at h;obtain⟨d,h1,h2⟩:=b_.mp h;obtain⟨r,h3,h4⟩:=b_.mp h2;cases h4;exact⟨d,r,h1,h3,rfl⟩
theorem af(h:PD X .cl e f)(hs:PL X es fs)(hst:starEach (e::es) X.env=(false,eval e X.env)::starEach es X.env:=by rfl):PL X (e::es) (aa f fs):=by
 refine⟨PA.imp (aP h hs.p hst) λσ H Q ⟨env,B,Z,ds,R,e,k⟩=>?_,λenv ds e=>?_⟩
 .obtain⟨d,r,h1,h2,rfl⟩:=ny e;refine⟨env,B,Z,d,R,h1,λv Z1 H1 x1 g1=>⟨env,B,Z1,r,R.ext x1,h2,λvs Z2 H2 x2 g2=>?_⟩⟩;exact k (v::vs) Z2 H2 (x1.trans x2) ⟨v,vs,rfl,Rep.mono x2.z d g1,g2⟩
 .obtain⟨d,r,h1,h2,rfl⟩:=ny e;simp[hs.l env r h2]
def bj(fs:Fes):Fe:=λenv=>(fs env).bind λds=>some (.tup ds)
def bO(fs:Fes):Fe:=λenv=>(fs env).bind λds=>some (.lst ds)
theorem a8{x1 pos}(h:PL X es fs)(hl:es.length<=1000:=by decide):PD X .cl (.Tuple es x1 pos) (bj fs):=PE.imp (JZ h.p) λσ H Q az=>by
 obtain⟨env,B,Z,d,R,e,k⟩:=az;obtain⟨ds,h1,h2⟩:=b_.mp e;cases h2;refine⟨env,B,Z,ds,R,h1,λvs Z1 H1 x1 r=>⟨?_,λp hp=>?_⟩⟩
 .rw[<- r.len,h.l env ds h1];exact Xw (qA hl)
 .have s1:aO Z1 (upd Z1 p (.tup vs)):=cj (x1.zh.free hp);exact k _ (upd Z1 p (.tup vs)) _ (x1.trans (Ex.new x1.zh hp)) ⟨p,vs,rfl,cR.of au,av.mono s1 ds r⟩
theorem bR{pos}(h:PL X es fs)(hl:es.length<=1000:=by decide):PD X .nw (.List es pos) (bO fs):=PE.imp (sD h.p) λσ H Q az=>by
 obtain⟨env,B,Z,d,R,e,k⟩:=az;obtain⟨ds,h1,h2⟩:=b_.mp e;cases h2;refine⟨env,B,Z,ds,R,h1,λvs Z1 H1 x1 r=>⟨?_,λp hp=>?_⟩⟩
 .rw[<- r.len,h.l env ds h1];exact Xw (qA hl)
 .exact k _ Z1 _ (x1.trans (Ex.newL x1.zh hp)) ⟨p,vs,ds,rfl,rfl,x1.h.free hp,au,x1.zh.free hp,r⟩
theorem qe[Decidable c](h:(if c then some a else none)=some d):c/\a=d:=by
 by_cases hc:c
 .rw[h_ hc]at h;exact⟨hc,Option.some.inj h⟩
 .rw[i_ hc]at h;cases h
def ar(b:D->D->YQ)(fa fb:Fe):Fe:=λenv=>(fa env).bind λx=>(fb env).bind λy=>b x y
theorem wu(h:ar b fa fb env=some d):∃x y,fa env=some x/\fb env=some y/\b x y=some d:=by
 unfold ar at h;obtain⟨x,h1,h2⟩:=b_.mp h;obtain⟨y,h3,h4⟩:=b_.mp h2;exact⟨x,y,h1,h3,h4⟩
theorem Gd.frm{K:Fg}{Z' H0 H H':Hp}{g:Gr}{d:D}{v:V}(s:aO H0 H)(h:Gd K Z' H H' g d v):Gd K Z' H0 H' g d v:=by
 cases g with
 | pk=>exact h
 | cl=>exact h
 | nw=>obtain⟨a,vs,ds,e1,e2,e3,e4⟩:=h;exact⟨a,vs,ds,e1,e2,s.free e3,e4⟩
 | nd=>obtain⟨a,ks,e1,e2,e3,e4⟩:=h;exact⟨a,ks,e1,e2,s.free e3,e4⟩
 | nm=>obtain⟨a,th,ks,ds,e1,e2,e3,e4⟩:=h;exact⟨a,th,ks,ds,e1,e2,s.free e3,e4⟩
def cV(K:Fg)(g:Gr)(b:D->D->YQ)(r:R2):Prop:=
 ∀{Z H:Hp}{x y:V}{dx dy d:D}{Q:VK},aO Z H->Gd K Z H H .pk dx x->Gd K Z H H .pk dy y->b dx dy=some d->(∀v Z' H',Ex Z H Z' H'->Gd K Z' H H' g d v->Q v H')->r x y H Q
theorem i9{K:Fg}{g ga gb:Gr}{b:D->D->YQ}{r:R2}(hb:cV K g b r){fa fb:Fe}{σ:L2.St}{H:Hp}{Q:VK}(h:T K g (ar b fa fb) σ H Q):IT r (T K ga fa) (T K gb fb) σ H Q:=by
 obtain⟨env,B,Z,d,R,e,k⟩:=h;obtain⟨dx,dy,h1,h2,h3⟩:=wu e;refine⟨env,B,Z,dx,R,h1,λv Z1 H1 x1 g1=>⟨env,B,Z1,dy,R.ext x1,h2,λu Z2 H2 x2 g2=>?_⟩⟩;refine hb x2.zh (g1.later x2) (show Gd K Z2 H2 H2 .pk dy u from g2.pk) h3 λw Z3 H3 x3 g3=>?_;exact k w Z3 H3 ((x1.trans x2).trans x3) (Gd.frm (x1.h.trans x2.h) g3)
theorem vN(ho:jf X (binaryOp op) r)(hd:cV X.K g b r)(ha:PD X ga l fa)(hb:PD X gb rr fb) :
  PD X g (.BinOp l op rr pos) (ar b fa fb):=PE.imp (EM ho ha hb) λ_ _ _ h=>i9 hd h
theorem q8(ho:jf X (compareOp op) r)(hd:cV X.K g b r)(ha:PD X ga l fa)(hb:PD X gb rr fb)(hm:behindInMarks op rr=false:=by rfl) :
  PD X g (.Compare l [op] [rr] pos) (ar b fa fb):=PE.imp (HG ho ha hb hm) λ_ _ _ h=>i9 hd h
def SU:D->Option Bool
 | .bl b=>some b
 | _=>none
def fB(f:Fe):Fb:=λenv=>(f env).bind SU
theorem DR(h:SU d=some b):d=.bl b:=by
 cases d<;>cases h;rfl
theorem Jg{K:Fg}{g:Gr}{f:Fe}{σ:L2.St}{H:Hp}{Q:Bool->Hp->Prop}(h:TB K (fB f) σ H Q):T K g f σ H (λx H'=>∃k,x=.bl k/\Q k H'):=by
 obtain⟨env,B,Z,b,R,e,k⟩:=h;obtain⟨d,h1,h2⟩:=b_.mp e;cases DR h2;exact⟨env,B,Z,_,R,h1,λv Z' H' x g=>⟨b,g.bl,k Z' H' x⟩⟩
theorem jv(ho:jf X (compareOp op) r)(hd:cV X.K .cl b r)(ha:PD X ga l fa)(hb:PD X gb rr fb)(hm:behindInMarks op rr=false:=by rfl) :
  PB X (.Compare l [op] [rr] pos) (fB (ar b fa fb)):=PT.imp (HD ho ha hb hm) λ_ _ _ h=>i9 hd (Jg h)
theorem hW(h:PD X g e f)(he:∀whole,isTrue e X.env whole=(do let v <- whole;standAt e.pos;holding [v] (truthy v)):=by intro _;rfl):PB X e (fB f):=
 PT.imp (Kr h he) λ_ _ _ h=>Jg h
def iF(g:Int->Int->D):D->D->YQ
 | .int i,.int j=>some (g i j)
 | _,_=>none
theorem kA{K:Fg}{g:Int->Int->V}{g':Int->Int->D}(hg:∀Z i j,Rep K Z (g' i j) (g i j)):cV K .cl (iF g') (Bh g):=λ{Z H x y dx dy d Q} s h1 h2 e k=>by
 cases dx<;>try cases e
 all_goals (cases dy<;>cases e)
 exact⟨_,_,h1.int,h2.int,k _ Z H (Ex.refl s) (hg _ _ _)⟩
def NO(c:Int->Int->Bool)(g:Int->Int->D):D->D->YQ
 | .int i,.int j=>if c i j then some (g i j)else none
 | _,_=>none
theorem su{K:Fg}{C:Int->Int->Prop}{c:Int->Int->Bool}{g:Int->Int->V}{g':Int->Int->D}(hc:∀i j,c i j=true->C i j)(hg:∀Z i j,Rep K Z (g' i j) (g i j)):cV K .cl (NO c g') (rI C g):=λ{Z H x y dx dy d Q} s h1 h2 e k=>by
 cases dx<;>try cases e
 all_goals (cases dy<;>try cases e)
 rename_i i j;have e':(if c i j=true then some (g' i j)else none)=some d:=e
 by_cases F6:c i j=true
 .rw[h_ F6]at e';cases e';exact⟨_,_,h1.int,h2.int,hc _ _ F6,k _ Z H (Ex.refl s) (hg _ _ _)⟩
 .rw[i_ F6]at e';cases e'
abbrev addI:=iF λi j=>.int (i+j)
abbrev subI:=iF λi j=>.int (i-j)
abbrev ltI:=iF λi j=>.bl (decide (i<j))
abbrev leI:=iF λi j=>.bl (decide (i<=j))
abbrev gtI:=iF λi j=>.bl (decide (j<i))
def big(i:Int):Bool:=decide (i.natAbs<2 ^ 4096)
abbrev mulI:=NO (λi j=>(big i&&big j)) λi j=>.int (i*j)
abbrev fdivI:=NO (λ_ j=>decide (0<j/\j<1073741824)) λi j=>.int (i/j)
abbrev modI:=NO (λ_ j=>decide (0<j)) λi j=>.int (i%j)
abbrev powI:=NO (λi j=>big i&&decide (0<=j/\j<=1000)) λi j=>.int (i ^ j.toNat)
theorem NX{K:Fg}:cV K .cl addI (Bh λi j=>.int (i+j)):=kA (by intro _ _ _;rfl)
theorem NV{K:Fg}:cV K .cl subI (Bh λi j=>.int (i-j)):=kA (by intro _ _ _;rfl)
theorem KF{K:Fg}:cV K .cl ltI (Bh λi j=>.bl (decide (i<j))):=kA (by intro _ _ _;rfl)
theorem AR{K:Fg}:cV K .cl leI (Bh λi j=>.bl (decide (i<=j))):=kA (by intro _ _ _;rfl)
theorem My{K:Fg}:cV K .cl gtI (Bh λi j=>.bl (decide (j<i))):=kA (by intro _ _ _;rfl)
theorem LH{K:Fg}:cV K .cl fdivI (rI M4 λi j=>.int (i/j)):=su (λi j h=>Vm h) (by intro _ _ _;rfl)
theorem Mw{K:Fg}:cV K .cl modI (rI (λ_ j=>0<j) λi j=>.int (i%j)):=su (λi j h=>Vm h) (by intro _ _ _;rfl)
theorem oA(h:big i=true):Builtin.Int.intBits i<=4096:=by
 have h':i.natAbs<2 ^ 4096:=Vm h;unfold Builtin.Int.intBits
 split
 .omega
 .rename_i hz;have hn:i.natAbs≠0:=by simpa using hz
  have:=(Nat.log2_lt hn).mpr h';omega
def IP(i j:Int):Prop:=big i=true/\big j=true
theorem GQ:jf X (binaryOp .Mult) (rI IP λi j=>.int (i*j)):=PC λ_ _ _ _ _ _ _ hc q=>mul_int q (.of_bits (B_ (oA hc.1) @2) (B_ (oA hc.2) @2))
theorem M8{K:Fg}:cV K .cl mulI (rI IP λi j=>.int (i*j)):=su (λi j h=>by
 simp only[I_]at h;exact h) (by intro _ _ _;rfl)
def IL(i j:Int):Prop:=big i=true/\0<=j/\j<=1000
theorem Ij:jf X (binaryOp .Pow) (rI IL λi j=>.int (i ^ j.toNat)):=PC λi j _ _ _ _ _ hc q=>pow_int hc.2.1 (by
 have h1:(Builtin.Int.intBits i:Int)<=4096:=by have:=oA hc.1;omega
 have h2:(Builtin.Int.intBits i:Int)*j<=4096*1000:=Int.mul_le_mul h1 hc.2.2 hc.2.1 @2;exact Int.le_trans h2 @2) q
theorem Os{K:Fg}:cV K .cl powI (rI IL λi j=>.int (i ^ j.toNat)):=su (λi j h=>by
 simp only[I_,w_]at h;exact⟨h.1,h.2.1,h.2.2⟩) (by intro _ _ _;rfl)
variable {l r c:YI}{fa fb fc:Fe}{ga gb gc:Gr}{pos:Pos}
theorem bf(ha:PD X ga l fa)(hb:PD X gb r fb):PD X .cl (.BinOp l .Add r pos) (ar addI fa fb):=vN KW NX ha hb
theorem eR(ha:PD X ga l fa)(hb:PD X gb r fb):PD X .cl (.BinOp l .Sub r pos) (ar subI fa fb):=vN K3 NV ha hb
theorem qW(ha:PD X ga l fa)(hb:PD X gb r fb):PD X .cl (.BinOp l .Mult r pos) (ar mulI fa fb):=vN GQ M8 ha hb
theorem DD(ha:PD X ga l fa)(hb:PD X gb r fb):PD X .cl (.BinOp l .FloorDiv r pos) (ar fdivI fa fb):=vN Ia LH ha hb
theorem cS(ha:PD X ga l fa)(hb:PD X gb r fb):PD X .cl (.BinOp l .Mod r pos) (ar modI fa fb):=vN Lb Mw ha hb
theorem vU(ha:PD X ga l fa)(hb:PD X gb r fb):PD X .cl (.BinOp l .Pow r pos) (ar powI fa fb):=vN Ij Os ha hb
theorem MA(ha:PD X ga l fa)(hb:PD X gb r fb):PD X .cl (.Compare l [.LtE] [r] pos) (ar leI fa fb):=q8 rj AR ha hb (eQ _)
theorem Gk(ha:PD X ga l fa)(hb:PD X gb r fb):PD X .cl (.Compare l [.Gt] [r] pos) (ar gtI fa fb):=q8 Jo My ha hb (eQ _)
theorem P'(ha:PD X ga l fa)(hb:PD X gb r fb):PB X (.Compare l [.Lt] [r] pos) (fB (ar ltI fa fb)):=jv Fk KF ha hb (eQ _)
theorem Nh(ha:PD X ga l fa)(hb:PD X gb r fb):PB X (.Compare l [.LtE] [r] pos) (fB (ar leI fa fb)):=jv rj AR ha hb (eQ _)
theorem Qk(ha:PD X ga l fa)(hb:PD X gb r fb):PB X (.Compare l [.Gt] [r] pos) (fB (ar gtI fa fb)):=jv Jo My ha hb (eQ _)
def bN(g:D->YQ)(f:Fe):Fe:=λenv=>(f env).bind g
def jI:D->YQ
 | .int i=>some (.int (-i))
 | _=>none
theorem ki(ha:PD X ga l fa):PD X .cl (.UnaryOp .USub l pos) (bN jI fa):=PE.imp (Jr Dd ha) λσ H Q az=>by
 obtain⟨env,B,Z,d,R,e,k⟩:=az;obtain⟨x,h1,h2⟩:=b_.mp e;refine⟨env,B,Z,x,R,h1,λv Z1 H1 x1 g1=>?_⟩;cases x<;>cases h2;exact⟨_,g1.int,k _ Z1 H1 x1 rfl⟩
def ka(f g:Fe):Fe:=λenv=>(f env).bind λx=>match x with | .bl true=>g env | .bl false=>some (.bl false) | _=>none
def J2(f g:Fe):Fe:=λenv=>(f env).bind λx=>match x with | .bl true=>some (.bl true) | .bl false=>g env | _=>none
def MK:D->YQ
 | .bl b=>some (.bl !b)
 | _=>none
variable {rest:Yt}{fr:Fe}{gr:Gr}
theorem qX{op}(ha:PD X ga l fa):PD X ga (.BoolOp op [l] pos) fa:=J1 ha
theorem nP(ha:PD X ga l fa)(hb:PD X .cl (.BoolOp .And (r::rest) pos) fr):PD X .cl (.BoolOp .And (l::r::rest) pos) (ka fa fr):=PE.imp (KH ha hb) λσ H Q az=>by
 obtain⟨env,B,Z,d,R,e,k⟩:=az;obtain⟨x,h1,h2⟩:=b_.mp e;refine⟨env,B,Z,x,R,h1,λv Z1 H1 x1 g1=>?_⟩;cases x with
 | bl b=>
  refine⟨b,g1.bl,?_⟩;cases b with
  | true=>exact uz ⟨env,B,Z1,d,R.ext x1,h2,λu Z2 H2 x2 g2=>k u Z2 H2 (x1.trans x2) g2⟩
  | false=>cases h2;exact vn (k _ Z1 H1 x1 rfl)
 | _=>cases h2
theorem Nv(ha:PD X ga l fa)(hb:PD X .cl (.BoolOp .Or (r::rest) pos) fr):PD X .cl (.BoolOp .Or (l::r::rest) pos) (J2 fa fr):=PE.imp (Mx ha hb) λσ H Q az=>by
 obtain⟨env,B,Z,d,R,e,k⟩:=az;obtain⟨x,h1,h2⟩:=b_.mp e;refine⟨env,B,Z,x,R,h1,λv Z1 H1 x1 g1=>?_⟩;cases x with
 | bl b=>
  refine⟨b,g1.bl,?_⟩;cases b with
  | false=>exact vn ⟨env,B,Z1,d,R.ext x1,h2,λu Z2 H2 x2 g2=>k u Z2 H2 (x1.trans x2) g2⟩
  | true=>cases h2;exact uz (k _ Z1 H1 x1 rfl)
 | _=>cases h2
theorem Nz(ha:PD X ga l fa):PD X .cl (.UnaryOp .Not l pos) (bN MK fa):=PE.imp (KG ha) λσ H Q az=>by
 obtain⟨env,B,Z,d,R,e,k⟩:=az;obtain⟨x,h1,h2⟩:=b_.mp e;refine⟨env,B,Z,x,R,h1,λv Z1 H1 x1 g1=>?_⟩;cases x<;>cases h2;exact⟨_,g1.bl,k _ Z1 H1 x1 rfl⟩
def qp(f g:Fb):Fb:=λenv=>(f env).bind λx=>if x=true then g env else some false
def Ek(f g:Fb):Fb:=λenv=>(f env).bind λx=>if x=true then some true else g env
def oR(f:Fb):Fb:=λenv=>(f env).bind λx=>some !x
variable {ta tb:Fb}
theorem sr(ha:PB X l ta):JT X (.BoolOp .And [l] pos) ta:=Ic ha
theorem DF(ha:PB X l ta):JT X (.BoolOp .Or [l] pos) ta:=J6 ha
theorem w_and(ha:PB X l ta)(hb:JT X (.BoolOp .And (r::rest) pos) tb):JT X (.BoolOp .And (l::r::rest) pos) (qp ta tb):=PW.imp (KS ha hb) λσ H Q az=>by
 obtain⟨env,B,Z,d,R,e,k⟩:=az;obtain⟨x,h1,h2⟩:=b_.mp e;refine⟨env,B,Z,x,R,h1,λZ1 H1 x1=>?_⟩;cases x with
 | true=>rw[h_ rfl]at h2;exact uz ⟨env,B,Z1,d,R.ext x1,h2,λZ2 H2 x2=>k Z2 H2 (x1.trans x2)⟩
 | false=>rw[i_ @8]at h2;cases h2;exact vn (k Z1 H1 x1)
theorem w_or(ha:PB X l ta)(hb:JT X (.BoolOp .Or (r::rest) pos) tb):JT X (.BoolOp .Or (l::r::rest) pos) (Ek ta tb):=PW.imp (Nd ha hb) λσ H Q az=>by
 obtain⟨env,B,Z,d,R,e,k⟩:=az;obtain⟨x,h1,h2⟩:=b_.mp e;refine⟨env,B,Z,x,R,h1,λZ1 H1 x1=>?_⟩;cases x with
 | false=>rw[i_ @8]at h2;exact vn ⟨env,B,Z1,d,R.ext x1,h2,λZ2 H2 x2=>k Z2 H2 (x1.trans x2)⟩
 | true=>rw[h_ rfl]at h2;cases h2;exact uz (k Z1 H1 x1)
theorem K7(h:JT X l ta):PB X l ta:=PW.pt h
theorem nX(ha:PB X l ta):PB X (.UnaryOp .Not l pos) (oR ta):=PT.imp (JK ha) λσ H Q az=>by
 obtain⟨env,B,Z,d,R,e,k⟩:=az;obtain⟨x,h1,h2⟩:=b_.mp e;cases h2;exact⟨env,B,Z,x,R,h1,λZ1 H1 x1=>k Z1 H1 x1⟩
def iteFn(t:Fb)(f g:Fe):Fe:=λenv=>(t env).bind λb=>if b=true then f env else g env
theorem vH(ht:PB X t ta)(ha:PD X g l fa)(hb:PD X g r fb):PD X g (.IfExp t l r pos) (iteFn ta fa fb):=PE.imp (ve ht ha hb) λσ H Q az=>by
 obtain⟨env,B,Z,d,R,e,k⟩:=az;obtain⟨x,h1,h2⟩:=b_.mp e;refine⟨env,B,Z,x,R,h1,λZ1 H1 x1=>?_⟩;cases x with
 | true=>rw[h_ rfl]at h2;exact uz ⟨env,B,Z1,d,R.ext x1,h2,λv Z2 H2 x2 g2=>k v Z2 H2 (x1.trans x2) (g2.frm x1.h)⟩
 | false=>rw[i_ @8]at h2;exact vn ⟨env,B,Z1,d,R.ext x1,h2,λv Z2 H2 x2 g2=>k v Z2 H2 (x1.trans x2) (g2.frm x1.h)⟩
def KL(b b':D->D->YQ)(fa fb fc:Fe):Fe:=λenv=>(fa env).bind λx=>(fb env).bind λy=>(b x y).bind λz=>match z with
 | .bl true=>(fc env).bind λw=>b' y w
 | .bl false=>some (.bl false)
 | _=>none
theorem HR{K:Fg}{b b':D->D->YQ}{r r':R2}(hb:cV K .cl b r)(hb':cV K .cl b' r'){σ:L2.St}{H:Hp}{Q:VK}(h:T K .cl (KL b b' fa fb fc) σ H Q):Fd r r' (T K ga fa) (T K gb fb) (T K gc fc) σ H Q:=by
 obtain⟨env,B,Z,d,R,e,k⟩:=h;obtain⟨dx,h1,e⟩:=b_.mp e;obtain⟨dy,h2,e⟩:=b_.mp e;obtain⟨dz,h3,e⟩:=b_.mp e;refine⟨env,B,Z,dx,R,h1,λv Z1 H1 x1 g1=>⟨env,B,Z1,dy,R.ext x1,h2,λu Z2 H2 x2 g2=>?_⟩⟩;refine hb x2.zh (g1.later x2) (show Gd K Z2 H2 H2 .pk dy u from g2.pk) h3 λz Z3 H3 x3 g3=>?_;cases dz with
 | bl t=>
  refine⟨t,g3.bl,?_⟩;cases t with
  | false=>cases e;exact vn (k _ Z3 H3 ((x1.trans x2).trans x3) rfl)
  | true=>
   obtain⟨dw,h4,h5⟩:=b_.mp e;refine uz ⟨env,B,Z3,dw,((R.ext x1).ext x2).ext x3,h4,λw Z4 H4 x4 g4=>?_⟩;refine hb' x4.zh (show Gd K Z4 H4 H4 .pk dy u from Gd.later x4 (Gd.later (H3:=H3) x3 g2)) (show Gd K Z4 H4 H4 .pk dw w from g4.pk) h5 λq Z5 H5 x5 g5=>?_;exact k q Z5 H5 (((x1.trans x2).trans x3).trans (x4.trans x5)) g5
 | _=>cases e
theorem tF(ho:jf X (compareOp op) r1)(wV:jf X (compareOp op') r2)(hd:cV X.K .cl b r1)(Oz:cV X.K .cl b' r2)(ha:PD X ga l fa)(hb:PD X gb r fb)(hc:PD X gc c fc)
  (hm:lastMarks [op,op'] [r,c]=false:=by with_unfolding_all rfl):PD X .cl (.Compare l [op,op'] [r,c] pos) (KL b b' fa fb fc):=PE.imp (EW ho wV ha hb hc hm) λ_ _ _ h=>HR hd Oz h
end
section
variable {X:Cx}{l r c:YI}{fa fb fc:Fe}{ga gb gc:Gr}{pos p:Pos}
def aI:D->D->YQ
 | .lst ds,.int i=>atI ds i
 | .tup ds,.int i=>atI ds i
 | _,_=>none
theorem av.atI{K:Fg}{H:Hp}{ds:YO}{vs:YR}{i:Int}{d:D}(h:av K H ds vs)(e:L2.atI ds i=some d):∃v,L2.atI vs i=some v/\Rep K H d v:=by
 unfold L2.atI at e ⊢;rw[<- h.len];obtain⟨j,h1,h2⟩:=b_.mp e;obtain⟨v,h3,h4⟩:=h.get h2;exact⟨v,by rw[h1];exact h3,h4⟩
theorem MO{K:Fg}:cV K .cl aI (λx y H Q=>MG K x y H Q\/Nf K x y H Q):=λ{Z H x y dx dy d Q} s h1 h2 e k=>by
 cases dx<;>try cases e
 all_goals (cases dy<;>try cases e)
 .rename_i ds i;obtain⟨a,vs,rfl,hq,rr⟩:=h1.tup s;obtain⟨v,e1,e2⟩:=rr.atI e;exact .inr ⟨a,vs,i,v,rfl,h2.int,hq,e1,k v Z H (Ex.refl s) e2⟩
 .rename_i ds i;obtain⟨a,vs,rfl,hq,rr⟩:=h1.lst s;obtain⟨v,e1,e2⟩:=rr.atI e;exact .inl ⟨a,vs,i,v,rfl,h2.int,hq,e1,k v Z H (Ex.refl s) e2⟩
theorem aS(ha:PD X ga l fa)(hb:PD X gb r fb)(hs:yY r:=by intro _ _;rfl):PD X .cl (.Subscript l r pos) (ar aI fa fb):=PE.imp (NS (G5.or J9) ha hb hs) λ_ _ _ h=>i9 MO h
abbrev Fo:=En->Option (Option Int)
def Ud(K:Fg)(f:Fo):TO:=λσ H Q=>∃env B Z o,Rl K B Z H env σ/\f env=some o/\∀Z' H',Ex Z H Z' H'->Q o H'
def Pu(X:Cx)(e:Option YI)(f:Fo):Prop:=PO X e (Ud X.K f)
theorem PO.imp(h:PO X e t)(i:∀σ H Q,t' σ H Q->t σ H Q):PO X e t':=λpins s σ H Q I q=>h pins s σ H Q I (i σ H Q q)
def oNone:Fo:=λ_=>some none
def k6(f:Fe):Fo:=λenv=>(f env).bind λd=>match d with | .int i=>some (some i) | _=>none
theorem xA:Pu X none oNone:=PO.imp Gu λσ H Q ⟨env,B,Z,o,R,e,k⟩=>by cases e;exact k Z H (Ex.refl R.zh)
theorem yi(h:PD X ga l fa):Pu X (some l) (k6 fa):=PO.imp (ze h) λσ H Q az=>by
 obtain⟨env,B,Z,o,R,e,k⟩:=az;obtain⟨d,h1,h2⟩:=b_.mp e;refine⟨env,B,Z,d,R,h1,λv Z' H' x g=>?_⟩;cases d<;>cases h2;exact⟨_,g.int,k Z' H' x⟩
def cutD(ds:YO)(lo hi:Option Int):YO:=(ds.drop (HT.qG ds.length 0 lo)).take (HT.qG ds.length ds.length hi-HT.qG ds.length 0 lo)
theorem av.cut{K:Fg}{H:Hp}{ds:YO}{vs:YR}(h:av K H ds vs)(lo hi:Option Int):av K H (cutD ds lo hi) (BB vs lo hi):=by
 unfold cutD BB;rw[<- h.len];exact(h.drop _).take _
def GX(b:D->Option Int->Option Int->YQ)(f:Fe)(lo hi:Fo):Fe:=λenv=>(f env).bind λx=>(lo env).bind λi=>(hi env).bind λj=>b x i j
def iK:D->Option Int->Option Int->YQ
 | .lst ds,lo,hi=>some (.lst (cutD ds lo hi))
 | _,_,_=>none
variable {lo hi:Option YI}{fl fh:Fo}{p2:Pos}
theorem FG(ha:PD X ga l fa)(hl:Pu X lo fl)(hh:Pu X hi fh):PD X .nw (.Subscript l (.Slice lo hi none p2) pos) (GX iK fa fl fh):=PE.imp (CC GK ha hl hh) λσ H Q az=>by
 obtain⟨env,B,Z,d,R,e,k⟩:=az;obtain⟨x,h1,e⟩:=b_.mp e;obtain⟨i,h2,e⟩:=b_.mp e;obtain⟨j,h3,e⟩:=b_.mp e;cases x<;>cases e;rename_i ds;refine⟨env,B,Z,_,R,h1,λv Z1 H1 x1 g1=>⟨env,B,Z1,i,R.ext x1,h2,λZ2 H2 x2=>⟨env,B,Z2,j,(R.ext x1).ext x2,h3,λZ3 H3 x3=>?_⟩⟩⟩;obtain⟨a,vs,rfl,hq,rr⟩:=Gd.lst x3.zh (Gd.later (H3:=H3) x3 (Gd.later (H3:=H3) x2 g1));refine⟨a,vs,rfl,hq,λq hp=>?_⟩;have x0:=(x1.trans x2).trans x3;exact k _ Z3 _ (x0.trans (Ex.newL x3.zh hp)) ⟨q,_,_,rfl,rfl,x0.h.free hp,au,x3.zh.free hp,rr.cut i j⟩
def kS:D->D->YQ
 | .lst xs,.lst ys=>if xs.length+ys.length<=16000000 then some (.lst (xs++ys))else none
 | _,_=>none
theorem LC(h:n<=16000000):n<=sizeLine:=by rw[UI];omega
theorem Ku{K:Fg}:cV K .nw kS (λx y H Q=>∃l b xs zs,x=.ref l/\y=.ref b/\cY K H l xs/\cY K H b zs/\xs.length+zs.length<=sizeLine/\∀p,H p=none->Q (.ref p) (upd H p (.lst (xs++zs)))):=λ{Z H x y dx dy d Q} s h1 h2 e k=>by
 cases dx<;>try cases e
 all_goals (cases dy<;>try cases e)
 rename_i xs ys;obtain⟨hl,rfl⟩:=qe e
 .obtain⟨a,vs,rfl,q1,r1⟩:=h1.lst s;obtain⟨b,us,rfl,q2,r2⟩:=h2.lst s;refine⟨a,b,vs,us,rfl,rfl,q1,q2,by rw[<- r1.len,<- r2.len];exact LC hl,λp hp=>?_⟩;exact k _ Z _ (Ex.newL s hp) ⟨p,_,_,rfl,rfl,hp,au,s.free hp,r1.app r2⟩
def iV(K:Fg)(g:Gr)(b:D->YQ)(r:YR->Hp->VK->Prop):Prop:=
 ∀{Z H:Hp}{x:V}{dx d:D}{Q:VK},aO Z H->Gd K Z H H .pk dx x->b dx=some d->(∀v Z' H',Ex Z H Z' H'->Gd K Z' H H' g d v->Q v H')->r [x] H Q
theorem oQ{K:Fg}{g:Gr}{b:D->YQ}{rr:YR->Hp->VK->Prop}(hb:iV K g b rr){σ:L2.St}{H:Hp}{Q:VK}(h:T K g (bN b fa) σ H Q):Pj rr (eu (T K ga fa) tNil) σ H Q:=by
 obtain⟨env,B,Z,d,R,e,k⟩:=h;obtain⟨x,h1,h2⟩:=b_.mp e;refine⟨env,B,Z,x,R,h1,λv Z1 H1 x1 g1=>?_⟩;exact hb x1.zh (show Gd K Z1 H1 H1 .pk x v from g1.pk) h2 λw Z2 H2 x2 g2=>k w Z2 H2 (x1.trans x2) (g2.frm x1.h)
variable {x:Str}{id TT:String}{g:Gr}{b:D->YQ}{rr:YR->Hp->VK->Prop}
theorem zO(hc:dG X (.builtin id) rr)(hd:iV X.K g b rr)(hv:bootBuiltins x=some (.builtin id))(hm:X.mg x=none)(ha:PD X ga l fa)(hn:x≠"__name__":=by decide)(k8:@9:=by decide)(hg:Gl X x:=by rfl)
  (he:starEach [l] X.env=[(false,eval l X.env)]:=by rfl):PD X g (.Call (.Name x p) [l] [] pos) (bN b fa):=PE.imp (gx hc hg hm hv (aP ha b9 he) hn k8 he rfl) λ_ _ _ h=>oQ hd h
theorem zU(hc:dG X (.type TT) rr)(hd:iV X.K g b rr)(hv:bootBuiltins x=some (.type TT))(hm:X.mg x=none)(ha:PD X ga l fa)(hn:x≠"__name__":=by decide)(k8:@9:=by decide)(hg:Gl X x:=by rfl)
  (he:starEach [l] X.env=[(false,eval l X.env)]:=by rfl):PD X g (.Call (.Name x p) [l] [] pos) (bN b fa):=PE.imp (BG hc hg hm hv (aP ha b9 he) hn k8 he rfl) λ_ _ _ h=>oQ hd h
def dM:D->YQ
 | .lst ds=>some (.int ds.length)
 | .tup ds=>some (.int ds.length)
 | _=>none
theorem MY{K:Fg}:iV K .cl dM (λxs H Q=>∃p ys,xs=[.ref p]/\(cY K H p ys\/cR K H p ys)/\Q (.int ys.length) H):=λ{Z H x dx d Q} s h e k=>by
 cases dx<;>cases e
 .obtain⟨a,vs,rfl,q,r⟩:=h.tup s;exact⟨a,vs,rfl,.inr q,k _ Z H (Ex.refl s) (by rw[r.len];rfl)⟩
 .obtain⟨a,vs,rfl,q,r⟩:=h.lst s;exact⟨a,vs,rfl,.inl q,k _ Z H (Ex.refl s) (by rw[r.len];rfl)⟩
theorem iy(hm:X.mg "len"=none)(ha:PD X ga l fa)(hg:Gl X "len":=by rfl)(he:starEach [l] X.env=[(false,eval l X.env)]:=by rfl):PD X .cl (.Call (.Name "len" p) [l] [] pos) (bN dM fa):=
 zO sY MY PySem.boot_len hm ha @2 @2 hg he
def zL:D->YQ
 | .lst ds=>some (.lst ds)
 | .tup ds=>some (.lst ds)
 | _=>none
theorem J7{K:Fg}:iV K .nw zL (λxs H Q=>∃p ys,xs=[.ref p]/\(cY K H p ys\/cR K H p ys)/\∀l,H l=none->Q (.ref l) (upd H l (.lst ys))):=λ{Z H x dx d Q} s h e k=>by
 cases dx<;>cases e
 .obtain⟨a,vs,rfl,q,r⟩:=h.tup s;exact⟨a,vs,rfl,.inr q,λp hp=>k _ Z _ (Ex.newL s hp) ⟨p,_,_,rfl,rfl,hp,au,s.free hp,r⟩⟩
 .obtain⟨a,vs,rfl,q,r⟩:=h.lst s;exact⟨a,vs,rfl,.inl q,λp hp=>k _ Z _ (Ex.newL s hp) ⟨p,_,_,rfl,rfl,hp,au,s.free hp,r⟩⟩
theorem Kn(hm:X.mg "list"=none)(ha:PD X ga l fa)(hg:Gl X "list":=by rfl)(he:starEach [l] X.env=[(false,eval l X.env)]:=by rfl):PD X .nw (.Call (.Name "list" p) [l] [] pos) (bN zL fa):=
 zU sv J7 W5 hm ha @2 @2 hg he
def lZ:D->YQ
 | .lst ds=>some (.tup ds)
 | .tup ds=>some (.tup ds)
 | _=>none
theorem GR{K:Fg}:iV K .cl lZ (λxs H Q=>∃p ys,xs=[.ref p]/\((cY K H p ys/\∀l,H l=none->Q (.ref l) (upd H l (.tup ys)))\/(cR K H p ys/\Q (.ref p) H))):=λ{Z H x dx d Q} s h e k=>by
 cases dx<;>cases e
 .rename_i ds;rcases h with h | ⟨_,_,_,_,e,_⟩ | ⟨_,_,_,e,_⟩ | ⟨_,_,_,_,_,e,_⟩
  .obtain⟨a,vs,rfl,q,r⟩:=id h;exact⟨a,vs,rfl,.inr ⟨eo s q,k _ Z H (Ex.refl s) h⟩⟩
  .cases e
  .cases e
  .cases e
 .obtain⟨a,vs,rfl,q,r⟩:=h.lst s;refine⟨a,vs,rfl,.inl ⟨q,λp hp=>?_⟩⟩;have s1:aO Z (upd Z p (.tup vs)):=cj (s.free hp);exact k _ _ _ (Ex.new s hp) ⟨p,_,rfl,cR.of au,av.mono s1 _ r⟩
theorem Hs(hm:X.mg "tuple"=none)(ha:PD X ga l fa)(hg:Gl X "tuple":=by rfl)(he:starEach [l] X.env=[(false,eval l X.env)]:=by rfl):PD X .cl (.Call (.Name "tuple" p) [l] [] pos) (bN lZ fa):=
 zU pV GR PyProof.Rows.boot_tuple hm ha @2 @2 hg he
def intD:D->YQ
 | .int i=>some (.int i)
 | .bl b=>some (.int (if b then 1 else 0))
 | _=>none
theorem NG{K:Fg}:iV K .cl intD (λxs H Q=>(∃i,xs=[.int i]/\Q (.int i) H)\/∃k,xs=[.bl k]/\Q (.int (if k then 1 else 0)) H):=λ{Z H x dx d Q} s h e k=>by
 cases dx<;>cases e
 .cases h.bl;exact .inr ⟨_,rfl,k _ Z H (Ex.refl s) rfl⟩
 .cases h.int;exact .inl ⟨_,rfl,k _ Z H (Ex.refl s) rfl⟩
theorem xq(hm:X.mg "int"=none)(ha:PD X ga l fa)(hg:Gl X "int":=by rfl)(he:starEach [l] X.env=[(false,eval l X.env)]:=by rfl):PD X .cl (.Call (.Name "int" p) [l] [] pos) (bN intD fa):=
 zU A9 NG PyProof.Rows.boot_int hm ha @2 @2 hg he
def zg(K:Fg)(g:Gr)(b:D->D->YQ)(r:YR->Hp->VK->Prop):Prop:=cV K g b (λx y H Q=>r [x,y] H Q)
theorem yu{K:Fg}{g:Gr}{b:D->D->YQ}{rr:YR->Hp->VK->Prop}(hb:zg K g b rr){σ:L2.St}{H:Hp}{Q:VK}(h:T K g (ar b fa fb) σ H Q):Pj rr (eu (T K ga fa) (eu (T K gb fb) tNil)) σ H Q:=i9 (r:=λx y H Q=>rr [x,y] H Q) hb h
variable {b2:D->D->YQ}
theorem Jh(hc:dG X (.builtin id) rr)(hd:zg X.K g b2 rr)(hv:bootBuiltins x=some (.builtin id))(hm:X.mg x=none)(ha:PD X ga l fa)(hb:PD X gb r fb)(hn:x≠"__name__":=by decide)(k8:@9:=by decide)(hg:Gl X x:=by rfl)
  (he:starEach [l,r] X.env=(false,eval l X.env)::starEach [r] X.env:=by rfl) (wK:starEach [r] X.env=[(false,eval r X.env)]:=by rfl) (fy:(backTo pos (starEach [r] X.env)).any (·.1)=false:=by rfl):PD X g (.Call (.Name x p) [l,r] [] pos) (ar b2 fa fb):=
 PE.imp (gx hc hg hm hv (aP ha (aP hb b9 wK) he) hn k8 he fy) λ_ _ _ h=>yu hd h
abbrev maxI:=iF λi j=>.int (if j>i then j else i)
abbrev minI:=iF λi j=>.int (if j<i then j else i)
theorem MC{K:Fg}:zg K .cl maxI (λxs H Q=>∃i j,xs=[.int i,.int j]/\Q (.int (if j>i then j else i)) H):=λ{Z H x y dx dy d Q} s h1 h2 e k=>by
 cases dx<;>try cases e
 all_goals (cases dy<;>cases e)
 cases h1.int;cases h2.int;exact⟨_,_,rfl,k _ Z H (Ex.refl s) rfl⟩
theorem NP{K:Fg}:zg K .cl minI (λxs H Q=>∃i j,xs=[.int i,.int j]/\Q (.int (if j<i then j else i)) H):=λ{Z H x y dx dy d Q} s h1 h2 e k=>by
 cases dx<;>try cases e
 all_goals (cases dy<;>cases e)
 cases h1.int;cases h2.int;exact⟨_,_,rfl,k _ Z H (Ex.refl s) rfl⟩
theorem N8(hm:X.mg "max"=none)(bP:X.calm=true)(ha:PD X ga l fa)(hb:PD X gb r fb)(hg:Gl X "max":=by rfl)(he:starEach [l,r] X.env=(false,eval l X.env)::starEach [r] X.env:=by rfl)(wK:starEach [r] X.env=[(false,eval r X.env)]:=by rfl)(fy:(backTo pos (starEach [r] X.env)).any (·.1)=false:=by rfl) :
  PD X .cl (.Call (.Name "max" p) [l,r] [] pos) (ar maxI fa fb):=Jh (BP bP) MC PyProof.Rows.boot_max hm ha hb @2 @2 hg he wK fy
theorem MP(hm:X.mg "min"=none)(bP:X.calm=true)(ha:PD X ga l fa)(hb:PD X gb r fb)(hg:Gl X "min":=by rfl)(he:starEach [l,r] X.env=(false,eval l X.env)::starEach [r] X.env:=by rfl)(wK:starEach [r] X.env=[(false,eval r X.env)]:=by rfl)(fy:(backTo pos (starEach [r] X.env)).any (·.1)=false:=by rfl) :
  PD X .cl (.Call (.Name "min" p) [l,r] [] pos) (ar minI fa fb):=Jh (Bz bP) NP PyProof.Rows.boot_min hm ha hb @2 @2 hg he wK fy
def EI(K:Fg)(n:Nat)(g:Gr)(m:YO->YQ):Sp:=λvs H Q _=>∃Z ds d,ds.length=n/\aO Z H/\av K Z ds vs/\m ds=some d/\∀v Z' H',Ex Z H Z' H'->Gd K Z' H H' g d v->Q v H'
structure OH(P:Program)(w:World)(K:Fg)(mg:Str->Option Value)(base:Heap)(k:Nat)(x:Str)(n:Nat)(g:Gr)(m:List D->Option D):Prop where
 ex:∃f fd ps,ps.length=n/\eh P w K mg base l9 k f fd ps (EI K n g m)/\mg x=some (.ref f)/\PySem.W.keepIn K (.ref f)=true/\Binds K fd ps []
variable {m:YO->YQ}{k n:Nat}{es:Yt}{fs:Fes}
theorem FE(C:OH X.prog X.w X.K X.mg X.base k x n g m)(hr:bF k X.A)(hl:PL X (l::es) fs)(hn:(l::es).length=n:=by rfl)(hg:Gl X x:=by rfl)(k8:@9:=by decide)
  (he:starEach (l::es) X.env=(false,eval l X.env)::starEach es X.env:=by rfl) (fy:(backTo pos (starEach es X.env)).any (·.1)=false:=by rfl):PD X g (.Call (.Name x p) (l::es) [] pos) (λenv=>(fs env).bind m):=by
 obtain⟨f,fd,ps,hps,F,hm,hk,hb⟩:=C.ex;refine PE.imp (Gz F hr hg hm hk hb .nil Oj hl.p k8 he fy) λσ H Q az=>?_;obtain⟨env,B,Z,d,R,e,kk⟩:=az;obtain⟨ds,h1,h2⟩:=b_.mp e;refine⟨env,B,Z,ds,R,h1,λvs Z1 H1 x1 r=>?_⟩;show EI X.K n g m (vs++[]) H1 Q E0;rw[UG];exact⟨Z1,ds,d,by rw[hl.l env ds h1];exact hn,x1.zh,r,h2,λv Z' H' x2 g2=>kk v Z' H' (x1.trans x2) (g2.frm x1.h)⟩
end
inductive Out where
 | nx (env:En) | rt (d:D) | bk (env:En) | ct (env:En)
abbrev Fs:=En->Option Out
def vD(K:Fg)(rg:Gr)(B Z:Hp)(E:Ends):Out->Prop
 | .nx env'=>∀σ' Z' H',Ex Z B Z' H'->Rl K B Z' H' env' σ'->E.nx σ' H'
 | .bk env'=>∀σ' Z' H',Ex Z B Z' H'->Rl K B Z' H' env' σ'->E.bk σ' H'
 | .ct env'=>∀σ' Z' H',Ex Z B Z' H'->Rl K B Z' H' env' σ'->E.ct σ' H'
 | .rt d=>∀v Z' H',Ex Z B Z' H'->Gd K Z' B H' rg d v->E.rt v H'
def Mg(K:Fg)(rg:Gr)(f:Fs):TS:=λE σ H=>∃env B Z o,Rl K B Z H env σ/\f env=some o/\vD K rg B Z E o
def SD(X:Cx)(rg:Gr)(st:YJ)(f:Fs):Prop:=PS X st (Mg X.K rg f)
def yw(X:Cx)(rg:Gr)(st:Yu)(f:Fs):Prop:=PSs X st (Mg X.K rg f)
section
variable {X:Cx}{rg:Gr}{st:YJ}{ui:Yu}{f g:Fs}{pos:Pos}
theorem PS.imp(h:PS X st t)(i:∀E σ H,t' E σ H->t E σ H):PS X st t':=λpins s σ H E I q=>h pins s σ H E I (i E σ H q)
theorem PSs.imp(h:PSs X ui t)(i:∀E σ H,t' E σ H->t E σ H):PSs X ui t':=λpins s σ H E I q=>h pins s σ H E I (i E σ H q)
theorem vD.later{K:Fg}{B Z Z1 H1:Hp}{E:Ends}{o:Out}(x:Ex Z B Z1 H1)(h:vD K rg B Z E o):vD K rg B Z1 E o:=by
 cases o with
 | nx e=>exact λσ' Z' H' y=>h σ' Z' H' (x.transB y)
 | bk e=>exact λσ' Z' H' y=>h σ' Z' H' (x.transB y)
 | ct e=>exact λσ' Z' H' y=>h σ' Z' H' (x.transB y)
 | rt e=>exact λv Z' H' y=>h v Z' H' (x.transB y)
def nxF:Fs:=λenv=>some (.nx env)
def aE(f g:Fs):Fs:=λenv=>(f env).bind λo=>match o with | .nx e=>g e | o=>some o
theorem bV:yw X rg [] nxF:=PSs.imp G8 λE σ H ⟨env,B,Z,o,R,e,k⟩=>by cases e;exact k σ Z H ⟨R.bh,aO.refl _,R.zh,λ_ _ h=>h⟩ R
theorem ao(h1:SD X rg st f)(h2:yw X rg ui g):yw X rg (st::ui) (aE f g):=PSs.imp (gw h1 h2) λE σ H az=>by
 obtain⟨env,B,Z,o,R,e,k⟩:=az;obtain⟨o1,e1,e2⟩:=b_.mp e;refine⟨env,B,Z,o1,R,e1,?_⟩;cases o1 with
 | nx Iv=>exact λσ' Z' H' x R'=>⟨Iv,B,Z',o,R',e2,k.later x⟩
 | rt d=>cases e2;exact k
 | bk d=>cases e2;exact k
 | ct d=>cases e2;exact k
theorem aA(h1:SD X rg st f):yw X rg [st] f:=gO h1
def vp(i:Nat):Fs:=λenv=>match env[i]? with
 | some (.O w)=>some (.nx (env.set i (.F w.d)))
 | some (.F d)=>some (.nx env)
 | _=>none
theorem zE(i:Nat)(h:yw X rg ui g):yw X rg ui (aE (vp i) g):=PSs.imp h λE σ H az=>by
 obtain⟨env,B,Z,o,R,e,k⟩:=az;obtain⟨o1,e1,e2⟩:=b_.mp e;unfold vp at e1
 split at e1
 .rename_i ds hi;cases e1;obtain⟨Z',R',x⟩:=R.frz hi;exact⟨_,B,Z',o,R',e2,k.later x⟩
 .cases e1;exact⟨env,B,Z,o,R,e2,k⟩
 .cases e1
def bw(f:Fe):Fs:=λenv=>(f env).bind λd=>some (.rt d)
theorem aY{e:YI}{f:Fe}(h:PD X rg e f):SD X rg (.Return (some e) pos) (bw f):=PS.imp (rX h) λE σ H az=>by
 obtain⟨env,B,Z,o,R,e,k⟩:=az;obtain⟨d,e1,e2⟩:=b_.mp e;cases e2;exact⟨env,B,Z,d,R,e1,λv Z' H' x g=>k v Z' H' (x.part R.bh) (g.frm R.bh)⟩
def rL(i:Nat):Fs:=λenv=>match env[i]? with
 | some (.O (.L ds))=>some (.rt (.lst ds))
 | _=>none
theorem jY(i:Nat)(hN:X.N[i]?=some x:=by rfl)(hv:rm X.env.scope x:=by first | exact Or.inl rfl | exact Or.inr (Or.inl rfl) | exact Or.inr (Or.inr rfl))(hd:@9:=by decide)
  (fX:(x==("__classdict__":Str))=false:=by decide):SD X .nw (.Return (some (.Name x p)) pos) (rL i):=PS.imp (rX (bK hN hv hd fX)) λE σ H az=>by
 obtain⟨env,B,Z,o,R,e,k⟩:=az;unfold rL at e
 split at e
 .rename_i ds hi;cases e;obtain⟨y,e1,a,o,e2,e3,e4,vs,rfl,r⟩:=R.sl i _ hi;subst e2;exact⟨_,e1,k _ Z H ⟨R.bh,aO.refl _,R.zh,λ_ _ h=>h⟩ ⟨a,vs,ds,rfl,rfl,R.ob i _ a hi e1,e3,e4,r⟩⟩
 .cases e
def jr(t:Fb)(f g:Fs):Fs:=λenv=>(t env).bind λb=>if b=true then f env else g env
theorem ed(hc:PB X c t)(ha:yw X rg a f)(hb:yw X rg b g):SD X rg (.If c a b pos) (jr t f g):=PS.imp (Jm hc ha hb) λE σ H az=>by
 obtain⟨env,B,Z,o,R,e,k⟩:=az;obtain⟨x,e1,e2⟩:=b_.mp e;refine⟨env,B,Z,x,R,e1,λZ1 H1 x1=>?_⟩;cases x with
 | true=>rw[h_ rfl]at e2;exact uz ⟨env,B,Z1,o,R.ext x1,e2,k.later (x1.part R.bh)⟩
 | false=>rw[i_ @8]at e2;exact vn ⟨env,B,Z1,o,R.ext x1,e2,k.later (x1.part R.bh)⟩
def setF(i:Nat)(f:Fe):Fs:=λenv=>(f env).bind λd=>some (.nx (env.set i (.F d)))
def setO(i:Nat)(f:Fe):Fs:=λenv=>(f env).bind λd=>match d with | .lst ds=>some (.nx (env.set i (.O (.L ds)))) | _=>none
theorem Dl{f:Fe}{i:Nat}{E:Ends}{σ:L2.St}{H:Hp}(h:Mg X.K rg (setF i f) E σ H):uN (T X.K .cl f) (my i) E σ H:=by
 obtain⟨env,B,Z,o,R,e,k⟩:=h;obtain⟨d,e1,e2⟩:=b_.mp e;cases e2;exact⟨env,B,Z,d,R,e1,λv Z' H' x g=>k _ Z' H' (x.part R.bh) ((R.ext x).setF i g)⟩
theorem AN{f:Fe}{i:Nat}{E:Ends}{σ:L2.St}{H:Hp}(h:Mg X.K rg (setO i f) E σ H):uN (T X.K .nw f) (my i) E σ H:=by
 obtain⟨env,B,Z,o,R,e,k⟩:=h;obtain⟨d,e1,e2⟩:=b_.mp e;cases d<;>cases e2;rename_i ds;refine⟨env,B,Z,_,R,e1,λv Z' H' x g=>?_⟩;obtain⟨a,vs,ds',rfl,e3,h1,h2,h3,r⟩:=g;cases e3;refine k _ Z' H' (x.part R.bh) ((R.ext x).setO i (R.bh.free h1) h3 h2 ⟨vs,rfl,r⟩ λj es hj hje Iw=>?_);obtain⟨y,e4,b,us,e5,e6,_⟩:=R.sl j _ hje;rw[Iw]at e4;cases e4;cases e5;rw[h1]at e6;cases e6
section
variable {x:Str}{e:YI}{fe:Fe}{pos':Pos}
theorem ba(i:Nat)(he:PD X .cl e fe)(hN:X.N.Nodup)(hi:X.N[i]?=some x:=by rfl)(hx:Loc X.env.scope x:=by first | exact Or.inl rfl | exact Or.inr rfl)(hs:swapsWith e (some (.Name x pos')) pos.line X.env=pure false:=by rfl)
  (hf:@11:=by first | exact .inl rfl | exact .inr rfl | assumption):SD X rg (.Assign [.Name x pos'] e pos) (setF i fe):=PS.imp (iD hN hi hx he hs hf) λE σ H h=>Dl h
theorem gI(i:Nat)(he:PD X .nw e fe)(hN:X.N.Nodup)(hi:X.N[i]?=some x:=by rfl)(hx:Loc X.env.scope x:=by first | exact Or.inl rfl | exact Or.inr rfl)(hs:swapsWith e (some (.Name x pos')) pos.line X.env=pure false:=by rfl)
  (hf:@11:=by first | exact .inl rfl | exact .inr rfl | assumption):SD X rg (.Assign [.Name x pos'] e pos) (setO i fe):=PS.imp (iD hN hi hx he hs hf) λE σ H h=>AN h
end
def ju(i:Nat)(f:Fe):Fs:=λenv=>match env[i]? with
 | some (.O (.L ds))=>(f env).bind λd=>if ds.length<16000000 then some (.nx (env.set i (.O (.L (ds++[d])))))else none
 | _=>none
theorem pb(i:Nat)(he:PD X .cl e fe)(hN:X.N[i]?=some x:=by rfl)(hv:rm X.env.scope x:=by first | exact Or.inl rfl | exact Or.inr (Or.inl rfl) | exact Or.inr (Or.inr rfl))
  (hd:@9:=by decide) (fX:(x==("__classdict__":Str))=false:=by decide) (hst:starEach [e] X.env=[(false,eval e X.env)]:=by rfl)
  (gC:attributeBase (.Name x px) "append" X.env (eval (.Name x px) X.env)=eval (.Name x px) X.env:=by rfl)
  (tY:((backTo bG (starEach [e] X.env)).all (λx=>!x.1)&&(backToKw bG (keywordEach [] X.env)).all (λx=>x.1.isSome)
   && decide (([e]:Yt).length+([]:List Keyword).length+(if([]:List Keyword).isEmpty then 0 else 1)<30))=true:=by rfl)
  (gD:(apos.endLine==bG.line)=true:=by rfl)
  (hs:swapsWith (.Call (.Attribute (.Name x px) "append" apos) [e] [] bG) none pos.line X.env=pure false:=by rfl) :
  SD X rg (.Expr (.Call (.Attribute (.Name x px) "append" apos) [e] [] bG) pos) (ju i fe):=by
 refine PS.imp (kF (yR Wc PySem.F.slot_list_append PySem.F.type_list_append qx (bK hN hv hd fX) (aP he b9 hst) gC tY gD hst rfl) hs) λE σ H az=>?_;obtain⟨env,B,Z,o,R,e,k⟩:=az;unfold ju at e
 split at e
 .rename_i ds hi;obtain⟨d,e1,e2⟩:=b_.mp e;obtain⟨hl,rfl⟩:=qe e2
  .obtain⟨y,e3,a,o,e4,e5,e6,vs,rfl,r⟩:=R.sl i _ hi;subst e4;refine⟨_,e3,.inl ⟨rfl,vs,cY.of e5⟩,env,B,Z,d,R,e1,λv Z1 H1 x1 g1=>?_⟩;have R1:=R.ext x1;have r1:=av.mono x1.z ds r;have ha:=x1.h _ _ e5;refine⟨a,vs,v,rfl,rfl,ha,by rw[<- r.len,UI];omega,?_⟩;obtain⟨R2,x2⟩:=R1.wr hi e3 (de.l (r1.app (av.one g1)));exact k σ Z1 _ ((x1.part R.bh).transB x2) R2
 .cases e
def vq(i:Nat)(fk fe:Fe):Fs:=λenv=>(fe env).bind λd=>match env[i]? with
 | some (.O (.L ds))=>(fk env).bind λkd=>match kd with
  | .int j=>(Bo ds.length j).bind λn=>some (.nx (env.set i (.O (.L (ds.set n d)))))
  | _=>none
 | _=>none
theorem zH(i:Nat)(he:PD X .cl e fe)(hk:PD X gk ke fk)(hN:X.N[i]?=some x:=by rfl)(hv:rm X.env.scope x:=by first | exact Or.inl rfl | exact Or.inr (Or.inl rfl) | exact Or.inr (Or.inr rfl))
  (hd:@9:=by decide) (fX:(x==("__classdict__":Str))=false:=by decide)
  (ha:∀v,assign (.Subscript (.Name x px) ke p2) X.env v=(do
   let ov <- holding [v] (eval (.Name x px) X.env)
   let iv <- holding [v,ov] (eval ke X.env)
   standAt p2
   holding [v,ov,iv] (setItem ov iv v)
   release [v,ov,iv] []):=by intro _;rfl)
  (hs:swapsWithSole [.Subscript (.Name x px) ke p2] e pos.line X.env=pure false:=by rfl) (hw:swappedStores [.Subscript (.Name x px) ke p2] e X.env=pure none:=by rfl)
  (h1:(assignEach [.Subscript (.Name x px) ke p2] X.env).map (·.2)=[assign (.Subscript (.Name x px) ke p2) X.env]:=by rfl) :
  SD X rg (.Assign [.Subscript (.Name x px) ke p2] e pos) (vq i fk fe):=by
 refine PS.imp (sW he (Lo (bK hN hv hd fX) hk set_list ha) hs hw h1) λE σ H az=>?_;obtain⟨env,B,Z,o,R,e,k⟩:=az;obtain⟨d,e1,e⟩:=b_.mp e;refine⟨env,B,Z,d,R,e1,λv Z1 H1 x1 g1=>?_⟩
 split at e
 .rename_i ds hi;obtain⟨kd,e2,e⟩:=b_.mp e;cases kd<;>try cases e
  rename_i j;obtain⟨n,e3,e⟩:=b_.mp e;cases e;have R1:=R.ext x1;obtain⟨y,e4,a,o,e5,e6,e7,vs,rfl,r⟩:=R1.sl i _ hi;subst e5;refine⟨_,e4,env,B,Z1,_,R1,e2,λkv Z2 H2 x2 g2=>?_⟩;have R2:=R1.ext x2;refine⟨a,vs,j,n,rfl,g2.int,x2.h _ _ e6,by rw[<- r.len];exact e3,?_⟩;obtain⟨R3,x3⟩:=R2.wr hi e4 (de.l ((av.mono x2.z ds r).set (Rep.mono x2.z d g1) n));exact k σ Z2 _ (((x1.trans x2).part R.bh).transB x3) R3
 .cases e
end
abbrev Ft:=D->En->Option En
def Ux(K:Fg)(t:Ft):TG:=λv σ H Q=>∃env B Z d env',Rl K B Z H env σ/\Rep K Z d v/\t d env=some env'/\∀σ',Rl K B Z H env' σ'->Q σ' H
def GD(X:Cx)(tg:YI)(t:Ft):Prop:=PG X tg (Ux X.K t)
section
variable {X:Cx}{rg:Gr}
theorem PG.imp(h:PG X e t)(i:∀v σ H Q,t' v σ H Q->t v σ H Q):PG X e t':=λpins s σ H v u Q I r q=>h pins s σ H v u Q I r (i v σ H Q q)
def bq(i:Nat):Ft:=λd env=>some (env.set i (.F d))
theorem aH(i:Nat)(hN:X.N.Nodup)(hi:X.N[i]?=some x:=by rfl)(hx:Loc X.env.scope x:=by first | exact Or.inl rfl | exact Or.inr rfl)
  (hf:@11:=by first | exact .inl rfl | exact .inr rfl | assumption):GD X (.Name x pos) (bq i):=PG.imp (kP hN hi hx hf) λv σ H Q az=>by
 obtain⟨env,B,Z,d,env',R,r,e,k⟩:=az;cases e;exact k _ (R.setF i r)
def eZ:Yv->YO->En->Option En
 | [],[],env=>some env
 | i::is,d::ds,env=>eZ is ds (env.set i (.F d))
 | _,_,_=>none
def QY(K:Fg)(is:Yv):TGs:=λvs σ H Q=>∃env B Z ds env',Rl K B Z H env σ/\av K Z ds vs/\eZ is ds env=some env'/\∀σ',Rl K B Z H env' σ'->Q σ' H
def Lh(X:Cx)(OJ:Yt)(is:Yv):Prop:=BU X OJ (QY X.K is)
theorem BU.imp(h:BU X e t)(i:∀v σ H Q,t' v σ H Q->t v σ H Q):BU X e t':=λpins s σ H v u Q I r q=>h pins s σ H v u Q I r (i v σ H Q q)
theorem bQ:Lh X [] []:=BU.imp G7 λv σ H Q az=>by
 obtain⟨env,B,Z,ds,env',R,r,e,k⟩:=az;cases ds with
 | nil=>cases e;exact⟨r,k _ R⟩
 | cons d ds=>cases e
theorem aw(i:Nat)(hN:X.N.Nodup)(h:Lh X OJ is)(hi:X.N[i]?=some x:=by rfl)(hx:Loc X.env.scope x:=by first | exact Or.inl rfl | exact Or.inr rfl)
  (hf:@11:=by first | exact .inl rfl | exact .inr rfl | assumption)
  (hs:(assignEach (.Name x pos::OJ) X.env).map (·.2)=assign (.Name x pos) X.env::(assignEach OJ X.env).map (·.2):=by rfl):Lh X (.Name x pos::OJ) (i::is):=BU.imp (vE (kP hN hi hx hf) h hs) λv σ H Q az=>by
 obtain⟨env,B,Z,ds,env',R,r,e,k⟩:=az;cases ds with
 | nil=>cases e
 | cons d ds=>
  obtain⟨w,rr,e1,r1,r2⟩:=r;exact⟨w,rr,e1,env.set i (.F d),B,Z,ds,env',R.setF i r1,r2,e,k⟩
def lb(is:Yv):Ft:=λd env=>match d with
 | .tup ds=>eZ is ds env
 | _=>none
theorem jV:∀{is:Yv}{ds:YO}{env env':En},eZ is ds env=some env'->ds.length=is.length
 | [],[],_,_,_=>rfl
 | i::is,d::ds,_,_,h=>by simp[jV (is:=is) (ds:=ds) h]
 | [],_::_,_,_,h=>by cases h
 | _::_,[],_,_,h=>by cases h
theorem fJ(hc:X.calm=true)(h:Lh X es is)(hn:(assignEach es X.env).length=is.length:=by rfl)(hst:(assignEach es X.env).findIdx? (·.1)=none:=by rfl):GD X (.Tuple es k pos) (lb is):=
 PG.imp (Lw hc h hn hst) λv σ H Q az=>by
  obtain⟨env,B,Z,d,env',R,r,e,k⟩:=az;cases d<;>try cases e
  rename_i ds;obtain⟨a,vs,e1,hq,rr⟩:=r;exact⟨a,vs,e1,eo R.zh hq,by rw[<- rr.len];exact jV e,env,B,Z,ds,env',R,rr,e,k⟩
def cK(t:Ft)(body:Fs):YO->Fs
 | [],env=>some (.nx env)
 | d::ds,env=>(t d env).bind λe1=>(body e1).bind λo=>match o with
  | .nx e2=>cK t body ds e2
  | .ct e2=>cK t body ds e2
  | .bk e2=>some (.nx e2)
  | .rt d=>some (.rt d)
abbrev Fi:=En->YN
def Walk(K:Fg)(Z1:Hp)(ds:YO)(J:It):Prop:=∀(Z' H':Hp),aO Z1 Z'->aO Z' H'->∀i,
 (i<ds.length->J.go i H'/\∀x H'',J.yld i H' x H''->∃Z'' d,Ex Z' H' Z'' H''/\ds[i]?=some d/\Rep K Z'' d x)/\(ds.length<=i->J.stop i H')
def Uo(K:Fg)(f:Fi):TI:=λσ H R=>∃env B Z ds,Rl K B Z H env σ/\f env=some ds/\∀J Z1 H1,Ex Z H Z1 H1->Walk K Z1 ds J->R J H1
def ID(X:Cx)(tg iter:YI)(f:Fi):Prop:=PI X tg iter (Uo X.K f)
theorem PI.imp(h:PI X tg e t)(i:∀σ H R,t' σ H R->t σ H R):PI X tg e t':=λpins s σ H R I q=>h pins s σ H R I (i σ H R q)
def cx(f:Fe):Fi:=λenv=>(f env).bind λd=>match d with | .lst ds=>some ds | _=>none
def Ae(f:Fe):Fi:=λenv=>(f env).bind λd=>match d with | .tup ds=>some ds | _=>none
theorem BO{K:Fg}{Z1:Hp}{a:YH}{vs:YR}{ds:YO}(q:cY K Z1 a vs)(rr:av K Z1 ds vs):Walk K Z1 ds (QD K a):=λZ' H' s1 s2 i=>by
 have q':=(s1.trans s2).seq q;refine⟨λhi=>⟨⟨vs,vs[i]'(by rw[<- rr.len];exact hi),q',by simp[<- rr.len,hi]⟩,λx H'' y=>?_⟩,λhi=>⟨vs,q',by rw[<- rr.len];exact hi⟩⟩;obtain⟨e,y⟩:=y;obtain⟨d,h1,h2⟩:=rr.getV (y vs q');subst e;exact⟨Z',d,Ex.refl s2,h1,Rep.mono s1 d h2⟩
theorem Dr{K:Fg}{Z1:Hp}{a:YH}{vs:YR}{ds:YO}(q:cR K Z1 a vs)(rr:av K Z1 ds vs):Walk K Z1 ds (QA K a):=λZ' H' s1 s2 i=>by
 have q':=eo (s1.trans s2) q;refine⟨λhi=>⟨⟨vs,vs[i]'(by rw[<- rr.len];exact hi),q',by simp[<- rr.len,hi]⟩,λx H'' y=>?_⟩,λhi=>⟨vs,q',by rw[<- rr.len];exact hi⟩⟩;obtain⟨e,y⟩:=y;obtain⟨d,h1,h2⟩:=rr.getV (y vs q');subst e;exact⟨Z',d,Ex.refl s2,h1,Rep.mono s1 d h2⟩
theorem aT(h:PD X .cl l f):ID X tg l (cx f):=PI.imp (Hr h) λσ H R az=>by
 obtain⟨env,B,Z,ds,Rr,e,k⟩:=az;obtain⟨d,e1,e2⟩:=b_.mp e;cases d<;>cases e2;refine⟨env,B,Z,_,Rr,e1,λv Z1 H1 x1 g1=>?_⟩;obtain⟨a,vs,e,q,r⟩:=g1;exact⟨a,e,⟨vs,x1.zh.seq q⟩,k _ Z1 H1 x1 (BO q r)⟩
theorem ot(h:PD X .cl l f):ID X tg l (Ae f):=PI.imp (Kp h) λσ H R az=>by
 obtain⟨env,B,Z,ds,Rr,e,k⟩:=az;obtain⟨d,e1,e2⟩:=b_.mp e;cases d<;>cases e2;refine⟨env,B,Z,_,Rr,e1,λv Z1 H1 x1 g1=>?_⟩;obtain⟨a,vs,e,q,r⟩:=g1;exact⟨a,e,⟨vs,eo x1.zh q⟩,k _ Z1 H1 x1 (Dr q r)⟩
def aR(lo:Int)(n:Nat):YO:=(List.range n).map λi=>.int (lo+(i:Nat))
theorem Df{K:Fg}{Z1:Hp}(lo:Int)(n:Nat):Walk K Z1 (aR lo n) (Pz lo n):=λZ' H' s1 s2 i=>by
 have hl:(aR lo n).length=n:=by simp[aR]
 rw[hl];refine⟨λhi=>⟨hi,λx H'' y=>?_⟩,λh=>h⟩;obtain⟨e,y⟩:=y;subst e;subst y;exact⟨Z',.int (lo+i),Ex.refl s2,by simp[aR,hi],rfl⟩
def CV(j:Int):Bool:=decide (-4000000000000000000<j/\j<4000000000000000000)
def ir(f:Fe):Fi:=λenv=>(f env).bind λd=>match d with
 | .int j=>if CV j then some (aR 0 j.toNat)else none
 | _=>none
theorem bZ(hm:X.mg "range"=none)(h:PD X ga l f)(hg:Gl X "range":=by rfl)(hs:starEach [l] X.env=[(false,eval l X.env)]:=by rfl):ID X tg (.Call (.Name "range" p) [l] [] pos) (ir f):=
 PI.imp (AQ hg hm (aP h b9 hs) hs) λσ H R az=>by
  obtain⟨env,B,Z,ds,Rr,e,k⟩:=az;obtain⟨d,e1,e2⟩:=b_.mp e;cases d<;>try cases e2
  rename_i j;obtain⟨hj,rfl⟩:=qe e2
  .have hj':=Vm hj;refine⟨env,B,Z,_,Rr,e1,λv Z1 H1 x1 g1=>⟨j,by rw[g1.int],by omega,by omega,k _ Z1 H1 x1 (Df 0 j.toNat)⟩⟩
def dS(fi:Fi)(t:Ft)(body:Fs):Fs:=λenv=>(fi env).bind λds=>cK t body ds env
theorem cC(hp:PassesOwn @3 X.A X.env X.xe)(hc:X.calm=true)(hi:ID X tg iter fi)(hg:GD X tg t)(hb:yw X rg body fb)
  (hs:∀x,foldedSetIterable iter X.env x=pure x:=by intro _;rfl):SD X rg (.For tg iter body [] pos) (dS fi t fb):=PS.imp (ER hp hc hi hg hb hs) λE σ H az=>by
 obtain⟨env,B,Z,o,R,e,k⟩:=az;obtain⟨ds,e1,e2⟩:=b_.mp e;refine⟨env,B,Z,ds,R,e1,λJ Z1 H1 x1 wk=>?_⟩
 let In:Nat->L2.St->Hp->Prop:=λi σ H=>∃env' Z',Ex Z B Z' H/\aO Z1 Z'/\Rl X.K B Z' H env' σ/\cK t fb (ds.drop i) env'=some o
 refine⟨λi m σ H=>m=ds.length-i/\i<=ds.length/\In i σ H,⟨ds.length,by simp,VT _,env,Z1,x1.part R.bh,aO.refl _,R.ext x1,by simpa using e2⟩,?_⟩;rintro i m σ2 H2 ⟨rfl,hi,env',Z',x2,s2,R2,e3⟩;obtain⟨w1,w2⟩:=wk Z' H2 s2 R2.zh i
 by_cases ix:i<ds.length
 .obtain⟨go,yl⟩:=w1 ix;refine .inr ⟨go,In (i+1),λσ' H' n=>⟨ds.length-(i+1),by omega,rfl,ix,n⟩,λx H3 y=>?_⟩;obtain⟨Z3,d,x3,hd,r3⟩:=yl x H3 y;have OK:ds.drop i=d::ds.drop (i+1):=by
   obtain⟨h1,h2⟩:=k_.mp hd;rw[VC h1,h2]
  rw[OK]at e3;unfold cK at e3;obtain⟨S',e4,e5⟩:=b_.mp e3;obtain⟨o1,e6,e7⟩:=b_.mp e5;have R3:=R2.ext x3;have x4:=x2.transB (x3.part R2.bh);refine⟨env',B,Z3,d,S',R3,r3,e4,λσ4 R4=>⟨S',B,Z3,o1,R4,e6,?_⟩⟩;cases o1 with
  | nx PQ=>exact λσ5 Z5 H5 x5 R5=>⟨PQ,Z5,x4.transB x5,(s2.trans x3.z).trans x5.z,R5,e7⟩
  | ct PQ=>exact λσ5 Z5 H5 x5 R5=>⟨PQ,Z5,x4.transB x5,(s2.trans x3.z).trans x5.z,R5,e7⟩
  | bk PQ=>cases e7;exact λσ5 Z5 H5 x5 R5=>k σ5 Z5 H5 (x4.transB x5) R5
  | rt d=>cases e7;exact λv Z5 H5 x5 g5=>k v Z5 H5 (x4.transB x5) g5
 .refine .inl ⟨w2 @1,?_⟩;rw[W6 @1]at e3;cases e3;exact k σ2 Z' H2 x2 R2
def B8(is:Yv)(f:Fe):Fs:=λenv=>(f env).bind λd=>(lb is d env).bind λe=>some (.nx e)
theorem xO(hc:X.calm=true)(he:PD X .cl e fe)(h:Lh X es is)(hn:(assignEach es X.env).length=is.length:=by rfl)(hst:(assignEach es X.env).findIdx? (·.1)=none:=by rfl)
  (hs:swapsWithSole [.Tuple es k p2] e pos.line X.env=pure false:=by rfl) (hw:swappedStores [.Tuple es k p2] e X.env=pure none:=by rfl) (h1:(assignEach [.Tuple es k p2] X.env).map (·.2)=[assign (.Tuple es k p2) X.env]:=by rfl) :
  SD X rg (.Assign [.Tuple es k p2] e pos) (B8 is fe):=PS.imp (sW he (fJ hc h hn hst) hs hw h1) λE σ H az=>by
 obtain⟨env,B,Z,o,R,e,k⟩:=az;obtain⟨d,e1,e⟩:=b_.mp e;obtain⟨en,e2,e⟩:=b_.mp e;cases e;refine⟨env,B,Z,d,R,e1,λv Z1 H1 x1 g1=>⟨env,B,Z1,d,en,R.ext x1,g1,e2,λσ' R'=>k σ' Z1 H1 (x1.part R.bh) R'⟩⟩
def bU(n:Nat)(ds:YO):En:=ds.map .F++List.replicate (n-ds.length) .un
def bJ(f:Fs)(n:Nat)(ds:YO):YQ:=(f (bU n ds)).bind λo=>match o with | .rt d=>some d | _=>none
theorem Rl.start{K:Fg}{Z H:Hp}{N:Yr}{ds:YO}{vs:YR}(s:aO Z H)(r:av K Z ds vs):Rl K H Z H (bU N.length ds) (start N vs):=by
 have hl:=r.len;have noO:∀(i:Nat)(es:wN),(bU N.length ds)[i]?≠some (.O es):=λi es h=>by
  unfold bU at h
  by_cases hi:i<ds.length
  .rw[S_ (by simpa using hi),x_]at h;cases q:ds[i]? with
   | none=>rw[q]at h;cases h
   | some d=>rw[q]at h;cases h
  .rw[R_ (by simpa using hi),Ve]at h
   split at h<;>cases h
 refine⟨aO.refl _,s,by simp[bU,L2.start,hl],λi sl h=>?_,λi es a h=>absurd h (noO i es),λi j es _ a _ h=>absurd h (noO i es)⟩;unfold bU at h;unfold L2.start
 by_cases hi:i<ds.length
 .rw[S_ (by simpa using hi),x_]at h;cases q:ds[i]? with
  | none=>rw[q]at h;cases h
  | some d=>
   rw[q]at h;cases h;obtain⟨v,h1,h2⟩:=r.get q;exact⟨some v,by rw[S_ (by simpa [<- hl]using hi),x_,h1];rfl,v,rfl,h2⟩
 .rw[R_ (by simpa using hi),Ve]at h
  split at h
  .rename_i hk;cases h;refine⟨none,?_,trivial⟩;rw[R_ (by simpa [<- hl]using hi),Ve,h_ (by simpa [hl]using hk)]
  .cases h
end
section
variable {P:YB}{w:YE}{K:Fg}{mg:Yk}{base:YD}
theorem SH{x qual:Str}{st:YJ}{f:YH}{fd:YF}{N ps:Yr}{k:Nat}{g:Gr}{m:YO->YQ}{fb:Fs}(F:Ca K x qual st f fd)(S:cm N ps (aC st))
  (hb:∀(bS:Yz)(A:YC)(outer:List Env)(s:YA)(H:Hp)(E:XK),bF k (A.deeper (envOfC qual (aC st) s.sz f bS))->yw (gu l9 P w K mg base N qual (aC st) f bS A outer s H E).nox g (bt st) fb)
  (hm:∀ds d,ds.length=ps.length->m ds=some d->bJ fb N.length ds=some d):eh P w K mg base l9 (k+1) f fd ps (EI K ps.length g m):=by
 refine F.ok S (λvs H Q E ⟨Z,ds,d,hl,_,r,_⟩=>by rw[<- r.len];exact hl) λbS A outer s H vs Q E hr az=>?_;obtain⟨Z,ds,d,hl,s1,r,e,kk⟩:=az;refine⟨_,hb bS A outer s H E hr,?_⟩;obtain⟨o,e1,e2⟩:=b_.mp (hm ds d hl e);refine⟨_,H,Z,o,Rl.start s1 r,e1,?_⟩;cases o with
 | rt d'=>cases e2;exact kk
 | nx _=>cases e2
 | bk _=>cases e2
 | ct _=>cases e2
end
mutual
def toPy:D->PyData
 | .non=>.none
 | .bl b=>.bool b
 | .int i=>.int i
 | .str x=>.str x
 | .tup ds=>.tuple (eg ds)
 | .lst ds=>.list (eg ds)
 | .dct _=>.none
 | .st _=>.none
 | .ln _=>.none
 | .mp _ _ _=>.none
def eg:YO->List PyData
 | []=>[]
 | d::ds=>toPy d::eg ds
end
mutual
def pl:D->Bool
 | .tup ds=>gf ds
 | .lst ds=>gf ds
 | .dct _=>false
 | .st _=>false
 | .ln _=>false
 | .mp _ _ _=>false
 | _=>true
def gf:YO->Bool
 | []=>true
 | d::ds=>pl d&&gf ds
end
mutual
def g9:D->D->Bool
 | .non,.non=>true
 | .bl a,.bl b=>a==b
 | .bl a,.int j=>(if a then 1 else 0)==j
 | .int i,.bl b=>i==(if b then 1 else 0)
 | .int i,.int j=>i==j
 | .str x,.str y=>x==y
 | .tup xs,.tup ys=>kQ xs ys
 | .lst xs,.lst ys=>kQ xs ys
 | _,_=>false
def kQ:YO->YO->Bool
 | [],[]=>true
 | x::xs,y::ys=>g9 x y&&kQ xs ys
 | _,_=>false
end
mutual
theorem nk:∀(d e:D),pl d=true->pl e=true->PyData.eqv (toPy d) (toPy e)=g9 d e
 | .non,e,_,h=>by cases e<;>first | (simp[pl]at h;done) | simp[toPy,PyData.eqv,g9]
 | .bl b,e,_,h=>by cases e<;>first | (simp[pl]at h;done) | simp[toPy,PyData.eqv,g9]
 | .int i,e,_,h=>by cases e<;>first | (simp[pl]at h;done) | simp[toPy,PyData.eqv,g9]
 | .str x,e,_,h=>by cases e<;>first | (simp[pl]at h;done) | simp[toPy,PyData.eqv,g9]
 | .tup ds,e,h1,h=>by
  unfold pl at h1;cases e
  case tup es=>unfold pl at h;simp[toPy,PyData.eqv,g9,iI ds es h1 h]
  case lst es=>unfold pl at h;simp[toPy,PyData.eqv,g9,iI ds es h1 h]
  all_goals first | (simp[pl]at h;done) | simp[toPy,PyData.eqv,g9]
 | .lst ds,e,h1,h=>by
  unfold pl at h1;cases e
  case tup es=>unfold pl at h;simp[toPy,PyData.eqv,g9,iI ds es h1 h]
  case lst es=>unfold pl at h;simp[toPy,PyData.eqv,g9,iI ds es h1 h]
  all_goals first | (simp[pl]at h;done) | simp[toPy,PyData.eqv,g9]
theorem iI:∀(ds es:YO),gf ds=true->gf es=true->PyData.eqvAll (eg ds) (eg es)=kQ ds es
 | [],es,_,_=>by cases es<;>simp[eg,PyData.eqvAll,kQ]
 | d::ds,es,h1,h2=>by
  unfold gf at h1;rw[I_]at h1;cases es with
  | nil=>simp[eg,PyData.eqvAll,kQ]
  | cons e es=>
   unfold gf at h2;rw[I_]at h2;simp[eg,PyData.eqvAll,kQ,nk d e h1.1 h2.1,iI ds es h1.2 h2.2]
end
mutual
def dH:D->Nat
 | .tup ds=>gY ds+1
 | .lst ds=>gY ds+1
 | _=>0
def gY:YO->Nat
 | []=>0
 | d::ds=>max (dH d) (gY ds)
end
mutual
theorem dP:∀(d:D),(toPy d).depth=dH d
 | .non=>by simp[toPy,PyData.depth,dH]
 | .bl b=>by simp[toPy,PyData.depth,dH]
 | .int i=>by simp[toPy,PyData.depth,dH]
 | .str x=>by simp[toPy,PyData.depth,dH]
 | .tup ds=>by simp[toPy,PyData.depth,dH,jT ds]
 | .lst ds=>by simp[toPy,PyData.depth,dH,jT ds]
 | .dct ks=>by simp[toPy,PyData.depth,dH]
 | .st ks=>by simp[toPy,PyData.depth,dH]
 | .ln ks=>by simp[toPy,PyData.depth,dH]
 | .mp _ _ _=>by simp[toPy,PyData.depth,dH]
theorem jT:∀(ds:YO),PyData.depthAll (eg ds)=gY ds
 | []=>by simp[eg,PyData.depthAll,gY]
 | d::ds=>by simp[eg,PyData.depthAll,gY,dP d,jT ds]
end
section
variable {X:Cx}{pins:Yi}{σ:L2.St}{H:Hp}{s:YA}
mutual
theorem d8(I:@5):∀(d:D){x:V}{v:Yz},pl d=true->Rep X.K H d x->RelV x v->∃as,Reads s.heap v (toPy d) as
 | .non,_,_,_,h,r=>by cases(show _=V.non from h);cases r;exact⟨_,.none⟩
 | .bl b,_,_,_,h,r=>by cases(show _=V.bl b from h);cases r;exact⟨_,.bool b⟩
 | .int i,_,_,_,h,r=>by cases(show _=V.int i from h);obtain⟨t,rfl⟩:=r;exact⟨_,.int i t⟩
 | .str y,_,_,_,h,r=>by obtain⟨h,_⟩:=h;subst h;obtain⟨t,rfl⟩:=r;exact⟨_,.str y t⟩
 | .tup ds,_,_,hp,h,r=>by
  unfold pl at hp;obtain⟨a,vs,e,q,rr⟩:=h;subst e;cases r;obtain⟨br,rv,⟨o,ho,hc,n,hd⟩,_⟩:=I.tuple q;obtain⟨as,ra⟩:=l7 I ds hp rr rv;exact⟨as,.tuple ho hc hd (by simpa [toPy]using ra)⟩
 | .lst ds,_,_,hp,h,r=>by
  unfold pl at hp;obtain⟨a,vs,e,q,rr⟩:=h;subst e;cases r;obtain⟨br,rv,pl,_⟩:=I.list q;obtain⟨o,ho,hc,n,hd⟩:=pl.isList;obtain⟨as,ra⟩:=l7 I ds hp rr rv;exact⟨_,.list ho hc hd (by simpa [toPy]using ra)⟩
 | .dct ks,_,_,hp,_,_=>by unfold pl at hp;cases hp
 | .st ks,_,_,hp,_,_=>by unfold pl at hp;cases hp
 | .ln ks,_,_,hp,_,_=>by unfold pl at hp;cases hp
 | .mp _ _ _,_,_,hp,_,_=>by unfold pl at hp;cases hp
theorem l7(I:@5):∀(ds:YO){vs:YR}{us:Yo},gf ds=true->av X.K H ds vs->aB vs us->∃as,ReadsAll s.heap us (eg ds) as
 | [],_,_,_,h,r=>by cases(show _=[]from h);cases r;exact⟨_,by simpa [eg]using ReadsAll.nil⟩
 | d::ds,_,_,hp,h,r=>by
  unfold gf at hp;rw[I_]at hp;obtain⟨v,vr,e,h1,h2⟩:=h;subst e;cases r with
  | cons r1 r2=>
   obtain⟨as,q1⟩:=d8 I d hp.1 h1 r1;obtain⟨bs,q2⟩:=l7 I ds hp.2 h2 r2;exact⟨_,by simpa [eg]using ReadsAll.cons q1 q2⟩
end
mutual
theorem gP:∀(d:D){x:V},Rep X.K H d x->(toPy d).canLay0=true
 | .non,_,_=>by simp[toPy,PyData.canLay0]
 | .bl b,_,_=>by simp[toPy,PyData.canLay0]
 | .int i,_,_=>by simp[toPy,PyData.canLay0]
 | .str y,_,h=>by simp[toPy,PyData.canLay0,h.2]
 | .tup ds,_,⟨a,vs,e,q,rr⟩=>by simp[toPy,PyData.canLay0,sJ ds rr]
 | .lst ds,_,⟨a,vs,e,q,rr⟩=>by simp[toPy,PyData.canLay0,sJ ds rr]
 | .dct ks,_,_=>by simp[toPy,PyData.canLay0]
 | .st ks,_,_=>by simp[toPy,PyData.canLay0]
 | .ln ks,_,_=>by simp[toPy,PyData.canLay0]
 | .mp _ _ _,_,_=>by simp[toPy,PyData.canLay0]
theorem sJ:∀(ds:YO){vs:YR},av X.K H ds vs->PyData.canLayAll0 (eg ds)=true
 | [],_,_=>by simp[eg,PyData.canLayAll0]
 | d::ds,_,⟨v,vr,e,h1,h2⟩=>by simp[eg,PyData.canLayAll0,gP d h1,sJ ds h2]
end
def gy(d e:D):Bool:=(pl d&&pl e)&&(decide (dH d<=60)||decide (dH e<=60))
def Gm(K:Fg)(neg:Bool):R2:=λx y H Q=>∃dx dy,Rep K H dx x/\Rep K H dy y/\gy dx dy=true/\Q (.bl (if neg then !g9 dx dy else g9 dx dy)) H
theorem ye(h:u+64<cLine)(h2:a<=60\/b<=60):u+min a b<cLine:=by omega
theorem wx(h:gy d e=true):dH d<=60\/dH e<=60:=by unfold gy at h;rw[I_]at h;simpa using h.2
theorem uv(h:gy d e=true):pl d=true/\pl e=true:=by unfold gy at h;rw[I_,I_]at h;exact h.1
theorem Et(hu:X.A.units+64<cLine):jf X (compareOp .Eq) (Gm X.K false):=by
 intro pins s σ H x y v u Q I rx ry h;obtain⟨dx,dy,h1,h2,hd,q⟩:=h;obtain⟨p1,p2⟩:=uv hd;obtain⟨as,r1⟩:=d8 I dx p1 h1 rx;obtain⟨bs,r2⟩:=d8 I dy p2 h2 ry;refine SeqAt.compareEq_reads r1 r2 (gP dx h1) (gP dy h2) (by rw[dP,dP];exact ye hu (wx hd)) ?_;rw[nk _ _ p1 p2];exact⟨.bl _,H,I,rfl,q⟩
theorem EJ(hu:X.A.units+64<cLine):jf X (compareOp .NotEq) (Gm X.K true):=by
 intro pins s σ H x y v u Q I rx ry h;obtain⟨dx,dy,h1,h2,hd,q⟩:=h;obtain⟨p1,p2⟩:=uv hd;obtain⟨as,r1⟩:=d8 I dx p1 h1 rx;obtain⟨bs,r2⟩:=d8 I dy p2 h2 ry;refine SeqAt.compareNe_reads r1 r2 (gP dx h1) (gP dy h2) (by rw[dP,dP];exact ye hu (wx hd)) ?_;rw[nk _ _ p1 p2];exact⟨.bl _,H,I,rfl,q⟩
def eJ:D->D->YQ:=λa b=>if gy a b=true then some (.bl (g9 a b))else none
def ud:D->D->YQ:=λa b=>if gy a b=true then some (.bl !g9 a b)else none
theorem Ms{K:Fg}:cV K .cl eJ (Gm K false):=λ{Z H x y dx dy d Q} s h1 h2 e k=>by
 obtain⟨hd,rfl⟩:=qe e;exact⟨dx,dy,h1.rep s,h2.rep s,hd,k _ Z H (Ex.refl s) rfl⟩
theorem Oe{K:Fg}:cV K .cl ud (Gm K true):=λ{Z H x y dx dy d Q} s h1 h2 e k=>by
 obtain⟨hd,rfl⟩:=qe e;exact⟨dx,dy,h1.rep s,h2.rep s,hd,k _ Z H (Ex.refl s) rfl⟩
variable {l r c:YI}{fa fb fc:Fe}{ga gb gc:Gr}{pos p p2:Pos}{k:Nat}
theorem vY(hr:bF k X.A)(ha:PD X ga l fa)(hb:PD X gb r fb):PD X .cl (.Compare l [.Eq] [r] pos) (ar eJ fa fb):=q8 (Et hr.units) Ms ha hb (eQ _)
theorem QS(hr:bF k X.A)(ha:PD X ga l fa)(hb:PD X gb r fb):PD X .cl (.Compare l [.NotEq] [r] pos) (ar ud fa fb):=q8 (EJ hr.units) Oe ha hb (eQ _)
theorem iq(hr:bF k X.A)(ha:PD X ga l fa)(hb:PD X gb r fb):PB X (.Compare l [.Eq] [r] pos) (fB (ar eJ fa fb)):=jv (Et hr.units) Ms ha hb (eQ _)
theorem Ee(hr:bF k X.A)(ha:PD X ga l fa)(hb:PD X gb r fb):PB X (.Compare l [.NotEq] [r] pos) (fB (ar ud fa fb)):=jv (EJ hr.units) Oe ha hb (eQ _)
def inD(d:D)(es:YO):Bool:=es.any λe=>g9 e d
def j7(neg:Bool):D->D->YQ
 | d,.lst es=>if dH d<=60/\(pl d&&gf es)=true then some (.bl (if neg then !inD d es else inD d es))else none
 | d,.tup es=>if dH d<=60/\(pl d&&gf es)=true then some (.bl (if neg then !inD d es else inD d es))else none
 | _,_=>none
def Na(K:Fg)(neg:Bool):R2:=λx y H Q=>∃dx es p ys,Rep K H dx x/\y=.ref p/\(cY K H p ys\/cR K H p ys)/\av K H es ys/\(dH dx<=60/\(pl dx&&gf es)=true)/\Q (.bl (if neg then !inD dx es else inD dx es)) H
noncomputable def jw(h:YD)(d:PyData)(y:Yz):Bool:=@decide (∃e as,Reads h y e as/\e.canLay0=true/\PyData.eqv e d=true) (Classical.propDecidable _)
theorem uA(r:Reads h y e as)(c:e.canLay0=true):jw h d y=PyData.eqv e d:=by
 unfold jw;cases q:PyData.eqv e d with
 | true=>exact @y_ _ (Classical.propDecidable _) ⟨e,as,r,c,q⟩
 | false=>
  refine @G_ _ (Classical.propDecidable _) λaz=>?_;obtain⟨e',as',r',c',q'⟩:=az;rw[SeqAt.Reads.unique e' e y as' as c' r' r]at q';rw[q]at q';cases q'
theorem lP(I:@5)(dx:D)(hx:pl dx=true):∀{es:YO}{ys:YR}{us:Yo},gf es=true->av X.K H es ys->aB ys us->us.any (jw s.heap (toPy dx))=inD dx es
 | [],_,_,_,h,r=>by cases(show _=[]from h);cases r;rfl
 | e::es,_,_,hp,h,r=>by
  unfold gf at hp;rw[I_]at hp;obtain⟨v,vr,z,h1,h2⟩:=h;subst z;cases r with
  | cons r1 r2=>
   obtain⟨as,q⟩:=d8 I e hp.1 h1 r1;have ih:=lP I dx hx hp.2 h2 r2;unfold inD at ih ⊢;rw[List.any_cons,List.any_cons,ih,uA q (gP e h1),nk _ _ hp.1 hx]
theorem oq(I:@5)(hx:Rep X.K H dx x)(rx:RelV x v)(hu:A.units+64<cLine)(hd:dH dx<=60)(LU:pl dx=true):∀{es:YO}{ys:YR}{us:Yo},gf es=true->av X.K H es ys->aB ys us->
  ∀u∈us,SeqAt.EqAt A s u v (jw s.heap (toPy dx) u)
 | [],_,_,_,h,r,u,hm=>by cases(show _=[]from h);cases r;cases hm
 | e::es,_,_,hp,h,r,u,hm=>by
  unfold gf at hp;rw[I_]at hp;obtain⟨w,vr,z,h1,h2⟩:=h;subst z;cases r with
  | cons r1 r2=>
   rcases p_.mp hm with rfl | hm
   .obtain⟨as,q⟩:=d8 I e hp.1 h1 r1;obtain⟨bs,q2⟩:=d8 I dx LU hx rx;rw[uA q (gP e h1)];exact SeqAt.eqAt_reads _ _ A s _ _ as bs q q2 (gP e h1) (gP dx hx) (by rw[dP,dP];exact ye hu (.inr hd))
   .exact oq I hx rx hu hd LU hp.2 h2 r2 u hm
theorem yF(hu:X.A.units+66<cLine)(neg:Bool):jf X (compareOp (if neg then .NotIn else .In)) (Na X.K neg):=by
 intro pins s σ H x y v u Q I rx ry h;obtain⟨dx,es,p,ys,h1,rfl,h2,rr,⟨hd,Ta⟩,q⟩:=h;rw[I_]at Ta;obtain⟨LU,PR⟩:=Ta;cases ry;have LP:X.A.in1.units+64<cLine:=by show X.A.units+1+64<cLine;omega
 rcases h2 with h2 | h2
 .obtain⟨br,r',pl,hz⟩:=I.list h2;have ha:=lP I dx LU PR rr r';have mQ:∀y,y∈br.toArray->SeqAt.EqAt X.A.in1 s y v (jw s.heap (toPy dx) y):=λy hy=>oq I h1 rx LP hd LU PR rr r' y (by simpa using hy);have fin:EP X pins σ Q (.bool (if neg then !br.toArray.any (jw s.heap (toPy dx))else br.toArray.any (jw s.heap (toPy dx)))) s:=⟨_,H,I,(by rw[List.any_toArray,ha]<;>rfl),q⟩;cases neg with
  | false=>exact SeqAt.in_listAt _ pl.isList mQ fin
  | true=>exact SeqAt.notIn_listAt _ pl.isList mQ fin
 .obtain⟨br,r',pl,hz⟩:=I.tuple h2;have ha:=lP I dx LU PR rr r';have mQ:∀y,y∈br.toArray->SeqAt.EqAt X.A.in1 s y v (jw s.heap (toPy dx) y):=λy hy=>oq I h1 rx LP hd LU PR rr r' y (by simpa using hy);have fin:EP X pins σ Q (.bool (if neg then !br.toArray.any (jw s.heap (toPy dx))else br.toArray.any (jw s.heap (toPy dx)))) s:=⟨_,H,I,(by rw[List.any_toArray,ha]<;>rfl),q⟩;cases neg with
  | false=>exact SeqAt.in_tupleAt _ (show s.heap.IsTuple p br.toArray from pl) mQ fin
  | true=>exact SeqAt.notIn_tupleAt _ (show s.heap.IsTuple p br.toArray from pl) mQ fin
theorem Ln{K:Fg}{neg:Bool}:cV K .cl (j7 neg) (Na K neg):=λ{Z H x y dx dy d Q} s h1 h2 e k=>by
 cases dy<;>try cases e
 .obtain⟨hd,rfl⟩:=qe e;obtain⟨a,vs,rfl,q,r⟩:=h2.tup s;exact⟨dx,_,a,vs,h1.rep s,rfl,.inr q,av.mono s _ r,hd,k _ Z H (Ex.refl s) rfl⟩
 .obtain⟨hd,rfl⟩:=qe e;obtain⟨a,vs,rfl,q,r⟩:=h2.lst s;exact⟨dx,_,a,vs,h1.rep s,rfl,.inl q,av.mono s _ r,hd,k _ Z H (Ex.refl s) rfl⟩
theorem mW(r:bF k A):A.units+66<cLine:=by have:=r.un;omega
theorem Ql(hr:bF k X.A)(ha:PD X ga l fa)(hb:PD X gb r fb)(hm:behindInMarks .In r=false:=by rfl):PD X .cl (.Compare l [.In] [r] pos) (ar (j7 false) fa fb):=q8 (yF (mW hr) false) Ln ha hb hm
theorem Bu(hr:bF k X.A)(ha:PD X ga l fa)(hb:PD X gb r fb)(hm:behindInMarks .In r=false:=by rfl):PB X (.Compare l [.In] [r] pos) (fB (ar (j7 false) fa fb)):=jv (yF (mW hr) false) Ln ha hb hm
theorem IW(hr:bF k X.A)(ha:PD X ga l fa)(hb:PD X gb r fb)(hm:behindInMarks .NotIn r=false:=by rfl):PB X (.Compare l [.NotIn] [r] pos) (fB (ar (j7 true) fa fb)):=jv (yF (mW hr) true) Ln ha hb hm
inductive Ty where | int | bool | str | tuple | list
def Ty.nm:Ty->String
 | .int=>"int" | .bool=>"bool" | .str=>"str" | .tuple=>"tuple" | .list=>"list"
def Pv:Ty->D->Bool
 | .int,.int _=>true
 | .int,.bl _=>true
 | .bool,.bl _=>true
 | .str,.str _=>true
 | .tuple,.tup _=>true
 | .list,.lst _=>true
 | _,_=>false
def Ug:D->String
 | .non=>"NoneType" | .bl _=>"bool" | .int _=>"int" | .str _=>"str" | .tup _=>"tuple" | .lst _=>"list" | .dct _=>"dict" | .st _=>"set" | .ln _=>"dict" | .mp _ _ _=>"dict"
theorem Gi{K:Fg}(T:Ty)(d:D):PySem.W.kitOne K (.type (Ug d)) (.type T.nm)=some (Pv T d):=by
 cases T<;>cases d<;>rfl
theorem DP(T:Ty):dG X (.builtin "isinstance") (λxs H Q=>∃x d,xs=[x,.ty T.nm]/\Rep X.K H d x/\Q (.bl (Pv T d)) H):=by
 intro pins s σ H xs us Q I r h;obtain⟨x,d,rfl,hd,q⟩:=h;obtain⟨u,w,rfl,rx,rt⟩:=r.two;cases(show w=Value.type T.nm from rt);have e:=Gi (K:=X.K) T d;have fin:∀tk,EP X pins σ Q (.bool (Pv T d)) {s with toks:=tk}:=λtk=>⟨.bl _,H,I.tok tk,rfl,q⟩;cases d with
 | non=>cases(show x=V.non from hd);cases(show u=Value.none from rx);exact Vi PySem.W.kitx_none I.kIn True.intro e (λz=>nomatch z) fin
 | bl b=>cases(show x=V.bl b from hd);cases(show u=Value.bool b from rx);exact Vi PySem.W.kitx_bool I.kIn True.intro e (λz=>nomatch z) fin
 | int i=>cases(show x=V.int i from hd);obtain⟨t,z⟩:=(show ∃t,u=Value.int i t from rx);cases z;exact Vi PySem.W.kitx_int I.kIn True.intro e (λz=>nomatch z) fin
 | str y=>obtain⟨hd,_⟩:=hd;subst hd;obtain⟨t,z⟩:=(show ∃t,u=Value.str y t from rx);cases z;exact Vi PySem.W.kitx_str I.kIn True.intro e (λz=>nomatch z) fin
 | tup ds=>
  obtain⟨a,vs,e1,hq,rr⟩:=hd;subst e1;cases(show u=Value.ref a from rx);obtain⟨br,_,⟨o,h1,h2,_⟩,_⟩:=I.tuple hq;exact Vi PySem.W.kitx_tuple I.kIn ⟨o,h1,h2⟩ e (λz=>nomatch z) fin
 | lst ds=>
  obtain⟨a,vs,e1,hq,rr⟩:=hd;subst e1;cases(show u=Value.ref a from rx);obtain⟨br,_,pl,_⟩:=I.list hq;obtain⟨o,h1,h2,_⟩:=pl.isList;exact Vi PySem.W.kitx_list I.kIn ⟨o,h1,h2⟩ e (λz=>nomatch z) fin
 | dct ks=>
  obtain⟨a,e1,hq⟩:=hd;subst e1;cases(show u=Value.ref a from rx);obtain⟨bs,hq,_⟩:=hq;obtain⟨⟨o,es,ep,h1,h2,_⟩,_⟩:=(show bE X.prog X.w H s.heap a (.ext (K6 a ks bs))from I.hok a _ hq);exact Vi XU I.kIn ⟨o,h1,h2.1⟩ e (λz=>nomatch z) fin
 | st ps=>
  obtain⟨a,bs,e1,_,hq,_⟩:=hd;subst e1;cases(show u=Value.ref a from rx);obtain⟨⟨o,es,ep,t,h1,h2,_⟩,_⟩:=(show bE X.prog X.w H s.heap a (.ext (jR a ps bs))from I.hok a _ hq);exact Vi PySem.W.kitx_set I.kIn ⟨o,h1,h2.1⟩ e (λz=>nomatch z) fin
 | ln n=>
  obtain⟨a,e1,hq⟩:=hd;subst e1;cases(show u=Value.ref a from rx);obtain⟨⟨o,es,ep,h1,h2,_⟩,_⟩:=(show bE X.prog X.w H s.heap a (.ext (MD a n))from I.hok a _ hq);exact Vi XU I.kIn ⟨o,h1,h2.1⟩ e (λz=>nomatch z) fin
 | mp th ks ds=>
  obtain⟨a,bs,vs,e1,hq,_⟩:=hd;subst e1;cases(show u=Value.ref a from rx);obtain⟨⟨o,es,ep,us,h1,h2,_⟩,_⟩:=(show bE X.prog X.w H s.heap a (.ext (cb th a ks bs vs))from I.hok a _ hq);exact Vi XU I.kIn ⟨o,h1,h2.1⟩ e (λz=>nomatch z) fin
def Hl(T:Ty):D->YQ:=λd=>some (.bl (Pv T d))
theorem HU(T:Ty):bootBuiltins (Str.ofString T.nm)=some (.type T.nm):=by
 cases T
 .exact PyProof.Rows.boot_int
 .exact PyProof.Rows.boot_bool
 .exact PyProof.Rows.boot_str
 .exact PyProof.Rows.boot_tuple
 .exact W5
theorem DK(T:Ty)(hm:X.mg "isinstance"=none)(hm2:X.mg (Str.ofString T.nm)=none)(ha:PD X ga l fa)(hg:Gl X "isinstance":=by rfl)(OL:Gl X (Str.ofString T.nm):=by rfl)
  (hn:(Str.ofString T.nm)≠"__name__":=by decide) (k8:((Str.ofString T.nm)==("__debug__":Str))=false:=by decide)
  (he:starEach [l,.Name (Str.ofString T.nm) p2] X.env=(false,eval l X.env)::starEach [.Name (Str.ofString T.nm) p2] X.env:=by rfl) :
  PD X .cl (.Call (.Name "isinstance" p) [l,.Name (Str.ofString T.nm) p2] [] pos) (bN (Hl T) fa):=by
 refine PE.imp (gx (DP T) hg hm Wm (aP ha (aP (Gs OL hm2 (HU T) (show RelV (.ty T.nm) (.type T.nm)from rfl) hn k8) b9 rfl) he) @2 @2 he rfl) λσ H Q az=>?_;obtain⟨env,B,Z,d,R,e,k⟩:=az;obtain⟨x,h1,h2⟩:=b_.mp e;cases h2;exact⟨env,B,Z,x,R,h1,λv Z1 H1 x1 g1=>⟨v,x,rfl,g1.rep x1.zh,k _ Z1 H1 x1 rfl⟩⟩
end
section
variable {elt:YI}{gens:Yn}{scope:YG}{pos:Pos}{d:Nat}{tg iter:YI}{ifs:Yt}{it acc:Yz}{env:Env}
def zD(ce tg iter:YI)(ifs:Yt)(d:Nat)(it acc:Yz)(env:Env)(em:Sem Unit):Sem Fin:=do
  standAt iter.pos
  match <- pyNext it with
  | none=>pure (.done .next)
  | some v=>
   letOwnedTupleGo tg it v
   assign tg env v
   let ok <- forIn ifs true λc r=>if r=true then do let ok <- isTrue c env (eval c env);pure (ForInStep.yield ok)else pure (ForInStep.yield r)
   if ok then em
   again (.compLoop ce d it acc env)
def z9(ce tg iter cy:YI)(ifs:Yt)(d:Nat)(it acc:Yz)(env:Env):Sem Fin:=do
  standAt iter.pos
  match <- pyNext it with
  | none=>pure (.done .next)
  | some v=>
   letOwnedTupleGo tg it v
   assign tg env v
   let ok <- forIn ifs true λc r=>if r=true then do let ok <- isTrue c env (eval c env);pure (ForInStep.yield ok)else pure (ForInStep.yield r)
   if ok=true then(do
    let x <- eval cy env
    standAt cy.pos
    let x <- foldedSetIterable cy env x
    let i' <- holding [x] (pyIter x)
    let _ <- runOwn (.compStart ce (d+1) i' acc env) env
    again (.compLoop ce d it acc env))
   else again (.compLoop ce d it acc env)
theorem A8(h:gens[d]?=some ⟨tg,iter,ifs,0⟩)(h2:gens[d+1]?=none):compTurn (.ListComp elt gens scope pos) d it acc env=zD (.ListComp elt gens scope pos) tg iter ifs d it acc env (do let _ <- call (.builtin "list.append") [acc,<- eval elt env]):=by
 unfold compTurn;simp only[h,h2]
 rfl
theorem AL(h:gens[d]?=some ⟨tg,iter,ifs,0⟩)(h2:gens[d+1]?=some ⟨yJ,cy,mR,0⟩):compTurn (.ListComp elt gens scope pos) d it acc env=z9 (.ListComp elt gens scope pos) tg iter cy ifs d it acc env:=by
 unfold compTurn;simp only[h,h2]
 rfl
end
def jS(lk:Str->Yq):List (Str×NameKind)->Yl->Option Yl
 | [],acc=>some acc
 | (n,k)::r,acc=>if(k==.free)=true then(lk n).bind λc=>jS lk r ((n,c)::acc)else jS lk r acc
theorem lY:∀(names:List (Str×NameKind))(acc cl:Yl),jS (λx=>env.cells.lookup x) names acc=some cl->
  (forIn names acc λ(x:Str×NameKind) (r:Yl)=>(do if x.2==.free then(do let c <- cellOf env x.1;pure (ForInStep.yield ((x.1,c)::r)))else pure (ForInStep.yield r)):Sem Yl)=pure cl
 | [],acc,cl,h=>by cases h;rfl
 | (n,k)::r,acc,cl,h=>by
  rw[WN];unfold jS at h
  by_cases hk:(k==NameKind.free)=true
  .rw[h_ hk]at h;obtain⟨c,h1,h2⟩:=b_.mp h;have LS:cellOf env n=pure c:=by unfold cellOf;rw[show env.cells.lookup n=some c from h1]
   simp only[hk,Vy,LS,pure_bind];exact lY r _ cl h2
  .rw[i_ hk]at h;simp only[hk,UU,pure_bind];exact lY r _ cl h
theorem jJ(h:jS (λx=>env.cells.lookup x) scope.names []=some cl):closureFor scope env=pure cl:=by
 have:=lY scope.names [] cl h;unfold closureFor;simp only;rw[this]
 rfl
theorem iA:∀{names:List (Str×NameKind)}{acc cl:Yl},jS lk names acc=some cl->(∀p∈acc,lk p.1=some p.2)->∀p∈cl,lk p.1=some p.2
 | [],acc,cl,h,ha=>by cases h;exact ha
 | (n,k)::r,acc,cl,h,ha=>by
  unfold jS at h
  split at h
  .obtain⟨c,h1,h2⟩:=b_.mp h;exact iA h2 λp hp=>by
    rcases p_.mp hp with rfl | hp
    .exact h1
    .exact ha p hp
  .exact iA h ha
theorem kE:∀{names:List (Str×NameKind)}{acc cl:Yl},jS lk names acc=some cl->∀x,((x,NameKind.free)∈names\/∃c,(x,c)∈acc)->∃c,(x,c)∈cl
 | [],acc,cl,h,x,hx=>by
  cases h;rcases hx with hx | hx
  .cases hx
  .exact hx
 | (n,k)::r,acc,cl,h,x,hx=>by
  unfold jS at h
  split at h
  .rename_i hk;obtain⟨c,h1,h2⟩:=b_.mp h;refine kE h2 x ?_;rcases hx with hx | ⟨c',hx⟩
   .rcases p_.mp hx with e | hx
    .cases e;exact .inr ⟨c,g_⟩
    .exact .inl hx
   .exact .inr ⟨c',f_ _ hx⟩
  .rename_i hk;refine kE h x ?_;rcases hx with hx | hx
   .rcases p_.mp hx with e | hx
    .cases e;exact absurd rfl hk
    .exact .inl hx
   .exact .inr hx
theorem fR:∀{cl:Yl},(x,c)∈cl->∃c',cl.lookup x=some c'
 | [],h=>by cases h
 | (y,b)::r,h=>by
  by_cases e:(x==y)=true
  .exact⟨b,by simp[Vj,e]⟩
  .rcases p_.mp h with z | z
   .cases z;exact absurd (Xj x) e
   .obtain⟨c',h'⟩:=fR z;exact⟨c',by simp[Vj,e,h']⟩
theorem dZ{scope:YG}{env:Env}:∀{names:List (Str×NameKind)}{x:Str}{k:NameKind},
  (names.map λ(n,k)=>if(k==NameKind.free&&env.scope.kind==.function&&env.kindOf n==some .cell)then(n,NameKind.cell)else(n,k)).lookup x=some k->k=.cell\/k=.free->(x,NameKind.free)∈names\/(x,NameKind.cell)∈names
 | [],x,k,h,_=>by simp at h
 | (n,q)::r,x,k,h,hk=>by
  simp only[C_]at h
  by_cases hc:(q==NameKind.free&&env.scope.kind==.function&&env.kindOf n==some .cell)=true
  .rw[h_ hc]at h;simp only[Vj]at h;cases e:x==n with
   | true=>
    have e':=eq_of_beq e;subst e';simp only[I_,WU]at hc;exact .inl (by rw[hc.1.1];exact g_)
   | false=>
    rw[e]at h;rcases dZ (scope:=scope) h hk with z | z
    .exact .inl (f_ _ z)
    .exact .inr (f_ _ z)
  .rw[i_ hc]at h;simp only[Vj]at h;cases e:x==n with
   | true=>
    rw[e]at h;have e':=eq_of_beq e;subst e';cases h;rcases hk with rfl | rfl
    .exact .inr g_
    .exact .inl g_
   | false=>
    rw[e]at h;rcases dZ (scope:=scope) h hk with z | z
    .exact .inl (f_ _ z)
    .exact .inr (f_ _ z)
def eX(X:Cx)(scope:YG)(cl:Yl)(Nc:Yr)(C:YH)(s:YA)(H:Hp)(ex:Ys)(pn:Yi):Cx:=
 {X with N:=Nc,s₀:=s,H₀:=H,env:=compEnvC scope cl C X.env,outer:=X.stack,stack:=X.stack,ex:=ex,fn:=λ_=>false,pn:=pn,xe:=λ_ _=>False}
def sA(n:Nat)(caps:Yv)(σ:L2.St):L2.St:=List.replicate n none++caps.map λj=>(σ[j]?).getD none
def dJ(n:Nat)(caps:Yv)(env:En):En:=List.replicate n .un++caps.map λj=>match env[j]? with | some (.F d)=>.F d | _=>.un
def qJ(X:Cx)(scope:YG)(caps:Yv):Bool:=caps.all λj=>match X.N[j]? with
 | some x=>(X.env.scope.names.lookup x==some .cell||X.env.scope.names.lookup x==some .free)&&scope.names.lookup x==some .free
 | none=>false
theorem gJ{env:Env}:∀{names:List (Str×NameKind)}{x:Str},names.lookup x=some .free->
  (names.map λ(n,k)=>if(k==NameKind.free&&env.scope.kind==.function&&env.kindOf n==some .cell)then(n,NameKind.cell)else(n,k)).lookup x=some .free\/
  (names.map λ(n,k)=>if(k==NameKind.free&&env.scope.kind==.function&&env.kindOf n==some .cell)then(n,NameKind.cell)else(n,k)).lookup x=some .cell
 | [],x,h=>by simp at h
 | (n,q)::r,x,h=>by
  simp only[C_];simp only[Vj]at h;cases e:x==n with
  | true=>
   rw[e]at h;cases h
   by_cases hc:(NameKind.free==NameKind.free&&env.scope.kind==.function&&env.kindOf n==some .cell)=true
   .rw[h_ hc];simp[Vj,e]
   .rw[i_ hc];simp[Vj,e]
  | false=>
   rw[e]at h
   by_cases hc:(q==NameKind.free&&env.scope.kind==.function&&env.kindOf n==some .cell)=true
   .rw[h_ hc];simp only[Vj,e];exact gJ h
   .rw[i_ hc];simp only[Vj,e];exact gJ h
section
variable {X:Cx}{pins:Yi}{σ:L2.St}{H:Hp}{s:YA}{scope:YG}{cl:Yl}{Nc own:Yr}{caps:Yv}{fp:Ys}
theorem iZ(I:@5)(h1:b≠X.env.locals)(h2:b∉X.fs):b∉mP X.stack:=λhb=>(p_.mp (I.stkSub b hb)).elim h1 h2
theorem wq{h1:YD}{tk:Nat}{m:Yk}(I:@5)(jZ:jS (λx=>X.env.cells.lookup x) scope.names []=some cl)(cM:scope.kind=.function)(hnc:∀y∈scope.names,y.2≠.cell)
  (hfp:∀b∈fp,fS X pins H b) (yK:∀b∈fp,b<s.sz) (hN:Nc.map some=own.map some++caps.map (λj=>X.N[j]?)) (pI:qJ X scope caps=true)
  (Jz:h1.Ns s.sz m) (hk:∀b o,s.heap.get? b=some o->h1.get? b=some o) :
  Inv (eX X scope cl Nc s.sz s H fp (X.pn++pins)) [] (sA own.length caps σ) H {s with heap:=h1,toks:=tk}:=by
 have mem:=iA jZ (λp hp=>by cases hp);have low:∀x c,cl.lookup x=some c->X.env.cells.lookup x=some c:=λx c h=>mem (x,c) (U8 h);have cellAt:∀x c,cl.lookup x=some c->c<s.sz:=λx c h=>by
  obtain⟨v,q⟩:=I.cell x c (low x c h);exact q.lt
 refine⟨⟨I.ok.mod,cM,I.ok.glob,I.ok.blt,m_ _,λx y c h1 h2=>I.ok.inj x y c (low x c h1) (low y c h2),λx hx=>?_,λx c hf _=>absurd (show false=true from hf) UY,I.ok.hd,I.ok.frames,.inl rfl,λb hb=>⟨A_ (yK b hb),λx c h=>(hfp b hb).2.2.2.2.1 x c (low x c h)⟩,
   I.bs,B_ I.ok.bsz I.sz,λb o e hb=>?_,λb hb hf=>iZ I (hfp b hb).2.1 (hfp b hb).2.2.1 hf,I.stack,I.stkFree⟩,
  rfl,I.bare,Un.kept hk,⟨m,Jz,λi x v e1 e2 e3=>?_⟩,λx c h=>?_,I.hok.fresh (m_ _),λx c h=>I.freeC x c (low x c h),λp hp=>?_,I.hok.kept hk,?_⟩
 .have wU:(relabel scope X.env).names.lookup x=some .cell\/(relabel scope X.env).names.lookup x=some .free:=hx;have FL:(x,NameKind.free)∈scope.names:=by
   rcases wU with h | h
   .rcases dZ (scope:=scope) h (.inl rfl)with z | z
    .exact z
    .exact absurd rfl (hnc _ z)
   .rcases dZ (scope:=scope) h (.inr rfl)with z | z
    .exact z
    .exact absurd rfl (hnc _ z)
  obtain⟨c,hc⟩:=kE jZ x (.inl FL);exact fR hc
 .rcases(hfp b hb).2.2.2.1 with z | z
  .exact I.ok.noex b o e z
  .exact absurd (q_ (n_ e) (B_ I.ok.bsz z)) (VU _)
 .have PU:own.length<=i:=by
   by_cases hi:i<own.length
   .unfold sA at e2;rw[S_ (by simpa using hi),Ve,h_ hi]at e2;cases e2
   .omega
  unfold sA at e2;rw[R_ (by simpa using PU),x_]at e2;simp only[Wp]at e2;cases hj:caps[i-own.length]? with
  | none=>rw[hj]at e2;cases e2
  | some j=>
   rw[hj]at e2;have PV:(σ[j]?).getD none=some v:=Option.some.inj e2;have hσ:σ[j]?=some (some v):=by
    cases q:σ[j]? with
    | none=>rw[q]at PV;cases PV
    | some o=>rw[q]at PV;exact VE some PV
   have hx:X.N[j]?=some x:=by
    have h1:(Nc.map some)[i]?=some (some x):=by rw[x_,show Nc[i]?=some x from e1];rfl
    rw[hN,R_ (by simpa using PU),x_]at h1;simp only[c_]at h1;rw[hj]at h1;exact Option.some.inj h1
   have hc1:=U3.mp pI j (UW hj);rw[hx]at hc1;simp only[I_,Bool.or_eq_true,WU]at hc1;obtain⟨hc1,Aj⟩:=hc1;obtain⟨m0,hn0,Tb⟩:=I.loc;obtain⟨u,ru,lk⟩:=Tb j x v hx hσ (.inr hc1);refine⟨u,ru,.inr ?_⟩;have lk2:∃c,X.env.cells.lookup x=some c/\s.heap.IsCell c (some u):=by
    rcases lk with ⟨h1,_⟩ | ⟨_,c,h1,h2⟩
    .have LS:X.env.scope.names.lookup x=some .local:=h1;rcases hc1 with z | z<;>· rw[LS]at z;cases z
    .exact⟨c,h1,h2⟩
   obtain⟨c,h1c,h2c⟩:=lk2;obtain⟨c',hc'⟩:=kE jZ x (.inl (U8 Aj));obtain⟨c'',OM⟩:=fR hc';have e4:=low x c'' OM;rw[h1c]at e4;cases e4;refine⟨?_,c,OM,?_⟩
   .rcases gJ (env:=X.env) Aj with z | z
    .exact .inr z
    .exact .inl z
   .obtain⟨o,ho,hd⟩:=h2c;exact⟨o,hk c o ho,hd⟩
 .obtain⟨v,o,ho,hd⟩:=I.cell x c (low x c h);exact⟨v,o,hk c o ho,hd⟩
 .have hp':p∈X.pn++pins:=by simpa [eX]using hp
  obtain⟨h1,h2,h3,h4,h5⟩:=I.pin p hp';exact⟨hk _ _ h1,h2,A_ (n_ h1),iZ I h3 h4,h5⟩
 .have:=VE List.length hN;simp only[c_,u_]at this;simp only[sA,u_,Wp,c_];exact this.symm
end
def dv(is:Yv)(env:En):Bool:=is.all λi=>match env[i]? with | some .un=>true | _=>false
def fq(t:Ft)(c:Fb)(k:YM)(env:En):YO->YN
 | []=>some []
 | d::ds=>(t d env).bind λe1=>(c e1).bind λb=>(if b=true then k e1 else some []).bind λxs=>(fq t c k env ds).bind λys=>some (xs++ys)
structure pJ(is:List Nat)(t:Ft):Prop where
 len:∀{d:D}{env env':En},t d env=some env'->env'.length=env.length
 oth:∀{d:D}{env env':En},t d env=some env'->∀(j:Nat),j∉is->env'[j]?=env[j]?
 noO:∀{d:D}{env env':En},t d env=some env'->∀(j:Nat)(ds:wN),env'[j]?=some (.O ds)->env[j]?=some (.O ds)
theorem zG{env:En}{i:Nat}{d:D}{j:Nat}{ds:wN}(h:(env.set i (.F d))[j]?=some (.O ds)):env[j]?=some (.O ds):=by
 by_cases e:i=j
 .subst e
  by_cases hl:i<env.length
  .rw[r_ hl]at h;cases h
  .rw[E_ (by simpa using U2 hl)]at h;cases h
 .rw[j_ e]at h;exact h
theorem a0(i:Nat):pJ [i] (bq i):=⟨λh=>by cases h;simp,λh j hj=>by cases h;exact j_ (λz=>hj (by simp[z])),λh j ds hj=>by cases h;exact zG hj⟩
theorem ja:∀{is:Yv}{ds:YO}{env env':En},eZ is ds env=some env'->env'.length=env.length/\(∀(j:Nat),j∉is->env'[j]?=env[j]?)/\∀(j:Nat)(es:wN),env'[j]?=some (.O es)->env[j]?=some (.O es)
 | [],[],env,env',h=>by cases h;exact⟨rfl,λ_ _=>rfl,λ_ _ h=>h⟩
 | i::is,d::ds,env,env',h=>by
  obtain⟨h1,h2,h3⟩:=ja (is:=is) (ds:=ds) h;refine⟨by simpa using h1,λj hj=>?_,λj es hj=>zG (h3 j es hj)⟩;rw[h2 j λz=>hj (f_ _ z)];exact j_ λz=>hj (by simp[z])
 | [],_::_,_,_,h=>by cases h
 | _::_,[],_,_,h=>by cases h
theorem rH(h:lb is d env=some env'):∃ds,eZ is ds env=some env':=by
 cases d with
 | tup ds=>exact⟨ds,h⟩
 | _=>cases h
theorem jQ(is:Yv):pJ is (lb is):=
 ⟨λh=>let ⟨_,q⟩:=rH h;(ja q).1,λh=>let ⟨_,q⟩:=rH h;(ja q).2.1,λh=>let ⟨_,q⟩:=rH h;(ja q).2.2⟩
theorem Rl.forget{K:Fg}{B Z H:Hp}{e1 env:En}{σ:L2.St}{is:Yv}(R:Rl K B Z H e1 σ)(hl:e1.length=env.length)(ho:∀(j:Nat),j∉is->e1[j]?=env[j]?)(hu:dv is env=true):Rl K B Z H env σ:=by
 have key:∀(j:Nat) s,env[j]?=some s->s=.un\/e1[j]?=some s:=λj s h=>by
  by_cases hj:j∈is
  .have:=U3.mp hu j hj;rw[h]at this;cases s with
   | un=>exact .inl rfl
   | F d=>cases this
   | O ds=>cases this
  .exact .inr ((ho j hj).trans h)
 have LV:∀(j:Nat) ds,env[j]?=some (.O ds)->e1[j]?=some (.O ds):=λj ds h=>by
  rcases key j _ h with z | z
  .cases z
  .exact z
 refine⟨R.bh,R.zh,hl.symm.trans R.len,λj s h=>?_,λj ds a h=>R.ob j ds a (LV j ds h),λi j ds es a hne h1 h2=>R.ap i j ds es a hne (LV i ds h1) (LV j es h2)⟩;rcases key j s h with rfl | z
 .have hj:j < σ.length:=by rw[<- R.len,hl];exact(k_.mp h).1
  exact⟨σ[j],by simp[hj],trivial⟩
 .exact R.sl j s z
theorem Rl.other{K:Fg}{B Z H:Hp}{env:En}{σ:L2.St}{a:YH}{o:HO}(R:Rl K B Z H env σ)(hb:B a=none)(hz:Z a=none)(nO:∀(i:Nat) ds,env[i]?≠some (.O ds)):Rl K B Z (upd H a o) env σ:=
 ⟨eV R.bh hb,eV R.zh hz,R.len,λj s h=>by
  obtain⟨x,e,q⟩:=R.sl j s h;refine⟨x,e,?_⟩;cases s with
  | un=>trivial
  | F d=>exact q
  | O ds=>exact absurd h (nO j ds),R.ob,R.ap⟩
abbrev Qv:=YH->Hp->Hp->YO->YR->Prop
def QT:Qv:=λ_ _ _ _ _=>True
structure PY(qv:Qv):Prop where
 nil:∀{a B H},qv a B H [] []
 mon:∀{a B H H' pre vs},(∀b o,b≠a->H b=some o->H' b=some o)->qv a B H pre vs->qv a B H' pre vs
 base:∀{a B B' H pre vs},aO B B'->qv a B' H pre vs->qv a B H pre vs
theorem KO:PY QT:=⟨trivial,λ_ _=>trivial,λ_ _=>trivial⟩
abbrev Qa:=Hp->Hp->Hp->YO->Prop
structure Iy(a:Addr)(qa:Qa):Prop where
 ne:∀{B Z H pre},qa B Z H pre->H a≠none
 mon:∀{B Z H Z' H' pre},Ex Z H Z' H'->qa B Z H pre->qa B Z' H' pre
structure Ac(X:Cx)(qa:Qa)(pins:List (Addr×Obj))(a:Addr)(B Z H:Hp)(env:En)(σ:L2.St)(pre:List D)(s:Shared):Prop where
 I:Inv X pins σ H s
 R:Rl X.K B Z H env σ
 nO:∀(i:Nat) ds,env[i]?≠some (.O ds)
 hb:B a=none
 hz:Z a=none
 ac:qa B Z H pre
abbrev qL(K:Fg)(qv:Qv)(a:YH):Qa:=λB Z H pre=>∃vs,H a=some (.lst vs)/\av K Z pre vs/\qv a B H pre vs
theorem IZ{K:Fg}{qv:Qv}{a:YH}(qo:PY qv):Iy a (qL K qv a):=⟨λ⟨vs,h,_⟩ z=>(by rw[z]at h;cases h),λx ⟨vs,h,r,q⟩=>⟨vs,x.h _ _ h,av.mono x.z _ r,qo.mon (λb o _ h=>x.h b o h) q⟩⟩
abbrev QQ(X:Cx)(qv:Qv)(pins:Yi)(a:YH)(B Z H:Hp)(env:En)(σ:L2.St)(pre:YO)(s:YA):Prop:=Ac X (qL X.K qv a) pins a B Z H env σ pre s
abbrev BdT:=(YA->Prop)->Yh->YA->Prop
def By(X:Cx)(qa:Qa)(a:YH)(Bd:BdT)(k:YM):Prop:=∀(pins:Yi)(s:YA)(σ:L2.St)(H B Z:Hp)(env:En)(pre xs:YO)(P:YA->Prop)(E:Yh),
 Ac X qa pins a B Z H env σ pre s->k env=some xs->pre.length+xs.length<=16000000->(∀s' σ' H' Z',Ac X qa pins a B Z' H' env σ' (pre++xs) s'->Ex Z B Z' H'->P s')->Bd P E s
abbrev Act(X:Cx)(qv:Qv)(a:YH)(Bd:BdT)(k:YM):Prop:=By X (qL X.K qv a) a Bd k
def QB(X:Cx)(em:Sem Unit):BdT:=λP E s=>wpAny @3 X.A em (λ_ s'=>P s') E s
structure FM(P:Program)(w:World)(ce:Expr):Prop where
 lp:∀{A:Around}{d:Nat}{it acc:Value}{env:Env}{Q:Fin->Shared->Prop}{E:Value->Shared->Prop}{s:Shared},wpAny (model P w) A ((compTurn ce d it acc env).onRaise (λx=>do noteFrame x env;theTreesLotGoes x)) Q E s->wpAny (model P w) (A.under (.compLoop ce d it acc env)) ((model P w).den (.compLoop ce d it acc env)) Q E s
 st:∀{A:Around}{d:Nat}{it acc:Value}{env:Env}{Q:Fin->Shared->Prop}{E:Value->Shared->Prop}{s:Shared},wpAny (model P w) A ((compStart ce d it acc env).onRaise (λx=>do noteFrame x env;standAt theWindowsPlace)) Q E s->wpAny (model P w) (A.under (.compStart ce d it acc env)) ((model P w).den (.compStart ce d it acc env)) Q E s
theorem Qr{P:YB}{w:YE}{elt:YI}{gens:Yn}{scope:YG}{pos:Pos}:FM P w (.ListComp elt gens scope pos):=⟨λh=>h,λh=>h⟩
def Tw(X:Cx)(ce:YI)(d:Nat)(it:YH)(acc:Yz)(tg:YI)(ifs:Yt)(Bd:BdT):Prop:=∀(s:YA)(Q:Fin->YA->Prop)(E:Yh),
   wpAny @3 X.A (pyNext (.ref it)) (λr s1=>match r with
    | none=>Q (.done .next) s1
    | some v=>wpAny @3 X.A (letOwnedTupleGo tg (.ref it) v) (λ_ s2=>wpAny @3 X.A (assign tg X.env v) (λ_ s3=>
      wpAny @3 X.A (forIn ifs true λc r=>if r=true then do let ok <- isTrue c X.env (eval c X.env);pure (ForInStep.yield ok)else pure (ForInStep.yield r)) (λok s4=>
       if ok=true then Bd (λs5=>Q (.again (.compLoop ce d (.ref it) acc X.env)) s5) E s4 else Q (.again (.compLoop ce d (.ref it) acc X.env)) s4) E s3) E s2) E s1) E s->
   wpAny @3 X.A (compTurn ce d (.ref it) acc X.env) Q E s
section
variable {X:Cx}{a:YH}{elt:YI}{fe:Fe}
def aF(f:Fe):YM:=λenv=>(f env).bind λd=>some [d]
abbrev KC(X:Cx)(a:YH)(elt:YI):BdT:=QB X (do let _ <- call (.builtin "list.append") [.ref a,<- eval elt X.env])
theorem Cm(hx:∀e s,¬X.xe e s)(h:PD X .cl elt fe):Act X QT a (KC X a elt) (aF fe):=by
 intro pins s σ H B Z env pre xs P E A e hl hP;obtain⟨d,e1,e2⟩:=b_.mp e;cases e2;obtain⟨vs,hv,rr,_⟩:=A.ac;refine a_ (UO (h pins s σ H _ A.I ⟨env,B,Z,d,A.R,e1,λv Z1 H1 x1 g1=>(show ∃Z1,Ex Z H Z1 H1/\Rep X.K Z1 d v from⟨Z1,x1,g1⟩)⟩) (λu s1 az=>?_) λe s z=>(hx e s z).elim);obtain⟨v,H1,I1,r1,Z1,x1,g1⟩:=az;have hne:H a≠none:=by rw[hv];simp
 refine a_ (UO (qx pins s1 σ H1 (.ref a) [v] (.ref a) [u] (λy H2=>H2=upd H1 a (.lst (vs++[v]))) I1 rfl (.cons r1 .nil) ⟨a,vs,v,rfl,rfl,x1.h _ _ hv,by rw[<- rr.len,UI];simp at hl;omega,rfl⟩) (λw s2 az=>?_) λe s z=>(hx e s z).elim);obtain⟨y,H2,I2,r2,q⟩:=az;subst q;have hz1:=x1.fr a hne A.hz;have R1:=A.R.ext x1;refine e_ (hP s2 σ _ Z1 ⟨I2,R1.other A.hb hz1 A.nO,A.nO,A.hb,hz1,vs++[v],au,(av.mono x1.z pre rr).app (av.one g1),trivial⟩ ?_);exact⟨eV R1.bh A.hb,x1.z,eV R1.zh hz1,λb hb e=>x1.fr b (oC A.R.bh hb) e⟩
def F4(X:Cx)(ifs:Yt)(c:Fb):Prop:=∀(pins:Yi)(s:YA)(σ:L2.St)(H:Hp)(Q:Bool->Hp->Prop)(E:Yh),Inv X pins σ H s->TB X.K c σ H Q->
 wpAny @3 X.A (forIn ifs true λc r=>if r=true then do let ok <- isTrue c X.env (eval c X.env);pure (ForInStep.yield ok)else pure (ForInStep.yield r)) (TP X pins σ Q) E s
theorem bc:F4 X [] YX:=λpins s σ H Q E I az=>by
 obtain⟨env,B,Z,b,R,e,k⟩:=az;cases e;exact wpAny_tests_nil ⟨H,I,k Z H (Ex.refl R.zh)⟩
theorem fO(hx:∀e s,¬X.xe e s)(h:PB X c f):F4 X [c] f:=λpins s σ H Q E I q=>
 wpAny_tests_one (UO (h pins s σ H Q I q) (λ_ _ z=>z) λe s z=>(hx e s z).elim)
theorem l5{ce:YI}{qa:Qa}(co:FM X.prog X.w ce)(qo:Iy a qa)
  (hx:∀e s,¬X.xe e s) (bP:X.calm=true) (T:Turn X.prog X.w X.K tg J fp it tn) (hg:GD X tg t) (ht:pJ is t) (B2:F4 X ifs c) (pK:By X qa a Bd k)
  (FN:Tw X ce dd it acc tg ifs Bd) (A:Ac X qa pins a B Z H env σ pre s) (hfp:∀b∈fp,fS X pins H b) (htn:tn 0 s.heap) (hw:Walk X.K Z ds J) (hu:dv is env=true)
  (FO:fq t c k env ds=some xs) (hl:pre.length+xs.length<=16000000) (hR:∀s' σ' H' Z',Ac X qa pins a B Z' H' env σ' (pre++xs) s'->Ex Z B Z' H'->(∀b∈fp,H' b=none)->R (.ok .next) s') :
  codeAny @3 X.A (.compLoop ce dd (.ref it) acc X.env) R s:=by
 have yI:∀{H':Hp},(∀b∈fp,H' b=none)->∀b∈fp,fS X pins H' b:=λhn b hb=>⟨hn b hb,(hfp b hb).2⟩;refine codeAny_loop rfl (λn s'=>∃i σ' H' Z' pre' rest,Ac X qa pins a B Z' H' env σ' pre' s'/\tn i s'.heap/\(∀b∈fp,H' b=none)/\n=ds.length-i/\i<=ds.length/\Ex Z B Z' H'/\fq t c k env (ds.drop i)=some rest/\pre'++rest=pre++xs)
  (λn s1 hI=>?_) ds.length ⟨0,σ,H,Z,pre,xs,A,htn,λb hb=>(hfp b hb).1,by simp,VT _,⟨A.R.bh,aO.refl _,A.R.zh,λ_ _ h=>h⟩,by simpa using FO,rfl⟩
 obtain⟨i,σ1,H1,Z1,Iz,rest,A1,Tc,Rm,rfl,hi,x1,B3,qr⟩:=hI;refine co.lp (wpAny_noted (FN s1 _ _ ?_));obtain⟨w1,w2⟩:=hw Z1 H1 x1.z A1.R.zh i
 by_cases ix:i<ds.length
 .obtain⟨go,yl⟩:=w1 ix;refine bB (T.item X rfl rfl rfl bP i pins s1 σ1 H1 _ A1.I (yI Rm) Tc go) λr s2 az=>?_;obtain⟨u,hr,h2⟩:=az;subst hr;refine bB h2 λ_ s3 az=>?_;obtain⟨x,H3,I3,r3,y3,Rn,PM⟩:=az;obtain⟨Z3,d,x3,hd,rep3⟩:=yl x H3 y3;have OK:ds.drop i=d::ds.drop (i+1):=by
   obtain⟨h1,h2⟩:=k_.mp hd;rw[VC h1,h2]
  rw[OK]at B3;unfold fq at B3;obtain⟨e1,g1,B3⟩:=b_.mp B3;obtain⟨b,g2,B3⟩:=b_.mp B3;obtain⟨ys,g3,B3⟩:=b_.mp B3;obtain⟨zs,g4,B3⟩:=b_.mp B3;cases B3;have I3':=I3.pinned (yI PM) (T.obj _ _ Rn);have hne:=qo.ne A1.ac;have hz3:=x3.fr a hne A1.hz;have R3:=A1.R.ext x3;refine UO (hg _ s3 σ1 H3 x u (λσ4 H4=>H4=H3/\Rl X.K B Z3 H3 e1 σ4) I3' r3 ⟨env,B,Z3,d,e1,R3,rep3,g1,λσ4 R4=>⟨rfl,R4⟩⟩) (λ_ s4 az=>?_) λe s z=>(hx e s z).elim;obtain⟨σ4,H4,I4,h4,R4⟩:=az;subst h4;have JB:∀(s7:YA)(σ7:L2.St)(H7 Z7:Hp)(IA:YO),Ac X qa (pins++lJ fp s3.heap) a B Z7 H7 e1 σ7 IA s7->Ex Z B Z7 H7->IA++zs=pre++xs->
    ∃m,m<ds.length-i/\∃i σ' H' Z' pre' rest,Ac X qa pins a B Z' H' env σ' pre' s7/\tn i s7.heap/\(∀b∈fp,H' b=none)/\m=ds.length-i/\i<=ds.length/\Ex Z B Z' H'/\fq t c k env (ds.drop i)=some rest/\pre'++rest=pre++xs:=by
   intro s7 σ7 H7 Z7 IA A7 x7 h7;have ON:∀b∈fp,∀o,s3.heap.get? b=some o->s7.heap.get? b=some o/\H7 b=none:=λb hb o e=>
    let q:=A7.I.pin (b,o) (U_ _ (U_ _ (jP hb e)))
    ⟨q.1,q.2.1⟩
   refine⟨ds.length-(i+1),by omega,i+1,σ7,H7,Z7,IA,zs,⟨A7.I.unpinned,A7.R.forget (ht.len g1) (ht.oth g1) hu,A1.nO,A7.hb,A7.hz,A7.ac⟩,T.keep _ _ _ Rn λb hb o e=>(ON b hb o e).1,λb hb=>?_,rfl,ix,x7,g4,h7⟩;obtain⟨o,e,_⟩:=T.obj _ _ Rn b hb;exact(ON b hb o e).2
  refine bB (B2 _ s4 σ4 H4 (λb' H5=>b'=b/\∃Z5,Ex Z3 H4 Z5 H5) _ I4 ⟨e1,B,Z3,b,R4,g2,λZ5 H5 x5=>⟨rfl,Z5,x5⟩⟩) λok s5 az=>?_;obtain⟨H5,I5,hok,Z5,x5⟩:=az;subst hok;have hne4:H4 a≠none:=oC x3.h hne;have hz5:=x5.fr a hne4 hz3;have x35:=x3.trans x5;have A5:Ac X qa (pins++lJ fp s3.heap) a B Z5 H5 e1 σ4 Iz s5:=⟨I5,R4.ext x5,λj es h=>A1.nO j es (ht.noO g1 j es h),A1.hb,hz5,qo.mon x35 A1.ac⟩;have xB:Ex Z B Z5 H5:=x1.transB (x35.part A1.R.bh);cases ok with
  | false=>
   rw[i_ @8]at g3;cases g3;rw[i_ @8];exact⟨rfl,JB s5 σ4 H5 Z5 Iz A5 xB (by simpa using qr)⟩
  | true=>
   rw[h_ rfl]at g3;rw[h_ rfl];have hlen:=VE List.length qr;simp only[u_]at hlen;exact pK _ s5 σ4 H5 B Z5 e1 Iz ys _ _ A5 g3 @1 λs7 σ7 H7 Z7 A7 x7=>⟨rfl,JB s7 σ7 H7 Z7 (Iz++ys) A7 (xB.transB x7) (by rw[VM];exact qr)⟩
 .have hii:i=ds.length:=by omega
  subst hii;rw[W6 @1]at B3;cases B3;rw[UG]at qr;refine bB (T.done X rfl rfl rfl bP _ pins s1 σ1 H1 _ A1.I (yI Rm) Tc (w2 (m_ _))) λr s2 az=>?_;obtain⟨hr,I2⟩:=az;subst hr;exact hR s2 σ1 H1 Z1 ⟨I2,A1.R,A1.nO,A1.hb,A1.hz,by rw[<- qr];exact A1.ac⟩ x1 Rm
end
section
variable {P:YB}{w:YE}{A:YC}{elt:YI}{gens:Yn}{scope:YG}{pos:Pos}{d:Nat}{tg iter:YI}{ifs:Yt}{it acc:Yz}{env:Env}{R:Result->YA->Prop}{s:YA}
theorem tw{ce:YI}(co:FM P w ce)(hc:(clausesOf ce)[d]?=some ⟨tg,iter,ifs,0⟩)(h0:codeAny (model P w) A (.compLoop ce d it acc env) R s)
    (h1:wpAny (model P w) A (pyIter it) (λRo s'=>codeAny (model P w) A (.compLoop ce d Ro acc env) R s') (notedBy (model P w) A env λx s'=>R (.error x) s') s) :
    codeAny (model P w) A (.compStart ce d it acc env) R s:=by
  refine codeAny_of_tree (co.st (wpAny_notedAt ?_));unfold compStart;rw[hc];show wpAny (model P w) A (ask >>= _) _ _ s;refine a_ (wpAny_askSetting (wpAny_ite ?_))<;>skip
  split
  . first
      | exact a_ (e_ (e_ ⟨rfl,h0⟩))
      | exact e_ ⟨rfl,h0⟩
  . refine a_ (WV ?_)
    first
      | exact a_ (Vo (a_ (UO h1 (λRo s' q=>e_ ⟨rfl,q⟩) λ_ _ x=>x)))
      | (show wpAny (model P w) A (standAt iter.pos >>= _) _ _ s
         exact a_ (Vo (a_ (UO h1 (λRo s' q=>e_ ⟨rfl,q⟩) λ_ _ x=>x))))
end
section
variable {X:Cx}{a:YH}{elt:YI}{gens:Yn}{scope:YG}{pos:Pos}{d:Nat}{tg iter yJ cy:YI}{ifs mR:Yt}{it:YH}
theorem zm{ce:YI}{em:Sem Unit}(ht:compTurn ce d (.ref it) (.ref a) X.env=zD ce tg iter ifs d (.ref it) (.ref a) X.env em):Tw X ce d it (.ref a) tg ifs (QB X em):=by
 intro s Q E hw;rw[ht];unfold zD;refine a_ (Vo (a_ (bB hw λr s1 q1=>?_)));cases r with
 | none=>exact e_ q1
 | some v=>
  refine a_ (bB q1 λ_ s2 q2=>a_ (bB q2 λ_ s3 q3=>a_ (bB q3 λok s4 q4=>?_)));cases ok with
  | false=>exact e_ (show Q (.again (.compLoop ce d (.ref it) (.ref a) X.env)) s4 from by rw[i_ @8]at q4;exact q4)
  | true=>
   rw[h_ rfl]at q4;exact a_ (bB q4 λ_ s5 q5=>e_ q5)
def Co(X:Cx)(a:YH)(ce:YI)(d:Nat)(cy:YI):BdT:=λP E s=>
 wpAny @3 X.A (eval cy X.env) (λx s5=>wpAny @3 X.A (pyIter x) (λi' s6=>
  codeAny @3 X.A (.compStart ce (d+1) i' (.ref a) X.env) (λr s7=>match r with | .ok _=>P s7 | .error e=>cameBackBy @3 X.A X.env E e s7) s6) E s5) E s
theorem Af{ce:YI}(ht:compTurn ce d (.ref it) (.ref a) X.env=z9 ce tg iter cy ifs d (.ref it) (.ref a) X.env)(hs:∀x,foldedSetIterable cy X.env x=pure x):Tw X ce d it (.ref a) tg ifs (Co X a ce d cy):=by
 intro s Q E hw;rw[ht];unfold z9;refine a_ (Vo (a_ (bB hw λr s1 q1=>?_)));cases r with
 | none=>exact e_ q1
 | some v=>
  refine a_ (bB q1 λ_ s2 q2=>a_ (bB q2 λ_ s3 q3=>a_ (bB q3 λok s4 q4=>?_)));cases ok with
  | false=>exact e_ (show Q (.again (.compLoop ce d (.ref it) (.ref a) X.env)) s4 from by rw[i_ @8]at q4;exact q4)
  | true=>
   rw[h_ rfl]at q4;refine a_ (bB q4 λx s5 q5=>a_ (Vo (a_ (XW (hs x) (a_ (F_ (bB q5 λi' s6 q6=>?_)))))));refine a_ (wpAny_runOwn (V7 q6 λr s7 q7=>?_));cases r with
   | ok f=>exact e_ q7
   | error e=>exact q7
def gA(fi:Fi)(is:Yv)(t:Ft)(c:Fb)(k:YM):YM:=λenv=>(fi env).bind λds=>if dv is env=true then fq t c k env ds else none
theorem vg{ce:YI}{qa:Qa}(co:FM X.prog X.w ce)(qo:Iy a qa)(hx:∀e s,¬X.xe e s)(bP:X.calm=true)(h2:(clausesOf ce)[d+1]?=some ⟨yJ,cy,mR,0⟩)
  (hi:ID X yJ cy fi) (hg:GD X yJ t) (ht:pJ is t) (B2:F4 X mR c) (pK:By X qa a Bd k)
  (FN:∀it,Tw X ce (d+1) it (.ref a) yJ mR Bd) :
  By X qa a (Co X a ce d cy) (gA fi is t c k):=by
 intro pins s σ H B Z env pre xs P E Aq e hl hP;obtain⟨ds,e1,e2⟩:=b_.mp e;have hu:dv is env=true:=by
  by_cases hu:dv is env=true
  .exact hu
  .rw[i_ hu]at e2;cases e2
 rw[h_ hu]at e2;refine UO (hi pins s σ H (λJ H1=>∃Z1,Ex Z H Z1 H1/\Walk X.K Z1 ds J) Aq.I ⟨env,B,Z,ds,Aq.R,e1,λJ Z1 H1 x1 wk=>⟨Z1,x1,wk⟩⟩) (λx s5 q5=>?_) λe s z=>(hx e s z).elim;refine UO q5 (λi' s6 az=>?_) λe s z=>(hx e s z).elim;obtain⟨it,fp,tn,J,H6,hit,I6,T,Td,fp6,Z6,x6,wk⟩:=az;subst hit;have A6:Ac X qa pins a B Z6 H6 env σ pre s6:=⟨I6,Aq.R.ext x6,Aq.nO,Aq.hb,x6.fr a (qo.ne Aq.ac) Aq.hz,qo.mon x6 Aq.ac⟩;have go:=l5 co qo (a:=a) hx bP T hg ht B2 pK (FN it) A6 fp6 Td wk hu e2 hl
  (R:=λr s7=>match r with | .ok _=>P s7 | .error e=>cameBackBy @3 X.A X.env E e s7)
  λs' σ' H' Z' A' x' _=>hP s' σ' H' Z' A' ((x6.part Aq.R.bh).transB x')
 exact tw co h2 go (T.self _ 0 _ _ _ Td go)
end
structure OO(X:Cx)(qa:Qa)(a:Addr)(ce:Expr)(d:Nat)(tg:Expr)(ifs:List Expr)(t:Ft)(c:Fb)(k:En->Option (List D)):Prop where
 g:GD X tg t
 ts:F4 X ifs c
 ex:∃Bd,By X qa a Bd k/\∀it,Tw X ce d it (.ref a) tg ifs Bd
abbrev KN(X:Cx)(qv:Qv)(a:YH)(elt:YI)(gens:Yn)(scope:YG)(pos:Pos)(d:Nat)(tg:YI)(ifs:Yt)(t:Ft)(c:Fb)(k:YM):Prop:=OO X (qL X.K qv a) a (.ListComp elt gens scope pos) d tg ifs t c k
section
variable {X:Cx}{a:YH}{elt:YI}{gens:Yn}{scope:YG}{pos:Pos}{d:Nat}{tg iter yJ cy:YI}{ifs mR:Yt}{t t':Ft}{c c':Fb}{k:YM}{fe:Fe}{fi:Fi}{is:Yv}{qv:Qv}
theorem aG(hx:∀e s,¬X.xe e s)(hg:GD X tg t)(B2:F4 X ifs c)(he:PD X .cl elt fe)(h:gens[d]?=some ⟨tg,iter,ifs,0⟩:=by rfl)(h2:gens[d+1]?=none:=by rfl):KN X QT a elt gens scope pos d tg ifs t c (aF fe):=
 ⟨hg,B2,_,Cm hx he,λ_=>zm (A8 h h2)⟩
theorem uy(hx:∀e s,¬X.xe e s)(bP:X.calm=true)(hg:GD X tg t)(B2:F4 X ifs c)(hi:ID X yJ cy fi)(ht:pJ is t')(b:KN X QT a elt gens scope pos (d+1) yJ mR t' c' k)
  (h:gens[d]?=some ⟨tg,iter,ifs,0⟩:=by rfl) (h2:gens[d+1]?=some ⟨yJ,cy,mR,0⟩:=by rfl) (hs:∀x,foldedSetIterable cy X.env x=pure x:=by intro _;rfl):KN X QT a elt gens scope pos d tg ifs t c (gA fi is t' c' k):=by
 obtain⟨Bd,pK,FN⟩:=b.ex;exact⟨hg,B2,_,vg Qr (IZ KO) hx bP h2 hi b.g ht b.ts pK FN,λ_=>Af (AL h h2) hs⟩
end
def aM(fi:Fi)(is:Yv)(t:Ft)(c:Fb)(k:YM)(n:Nat)(caps:Yv):Fe:=λenv=>(fi env).bind λds=>if dv is (dJ n caps env)=true then(fq t c k (dJ n caps env) ds).bind λxs=>if xs.length<=16000000 then some (.lst xs)else none else none
theorem pq(h:aM fi is t c k n caps env=some d) :
  ∃ds xs,fi env=some ds/\dv is (dJ n caps env)=true/\fq t c k (dJ n caps env) ds=some xs/\xs.length<=16000000/\d=.lst xs:=by
 obtain⟨ds,e1,e2⟩:=b_.mp h
 by_cases hu:dv is (dJ n caps env)=true
 .rw[h_ hu]at e2;obtain⟨xs,e3,e4⟩:=b_.mp e2;obtain⟨e5,e6⟩:=qe e4;exact⟨ds,xs,e1,hu,e3,e5,e6.symm⟩
 .rw[i_ hu]at e2;cases e2
theorem kR(n:Nat)(caps:Yv)(env:En):∀(i:Nat) ds,(dJ n caps env)[i]?≠some (.O ds):=λi ds h=>by
 unfold dJ at h
 by_cases hi:i<n
 .rw[S_ (by simpa using hi),Ve,h_ hi]at h;cases h
 .rw[R_ (by simpa using hi),x_]at h;cases q:caps[i-(List.replicate n Slot.un).length]? with
  | none=>rw[q]at h;cases h
  | some j=>
   rw[q]at h;simp only[Option.map_some,Option.some.injEq]at h
   split at h<;>cases h
theorem Rl.cap{K:Fg}{B Z H H':Hp}{env:En}{σ:L2.St}(R:Rl K B Z H env σ)(n:Nat)(caps:Yv)(s1:aO H H')(s2:aO Z H'):Rl K H Z H' (dJ n caps env) (sA n caps σ):=by
 refine⟨s1,s2,by simp[dJ,sA],λi s h=>?_,λi ds a h=>absurd h (kR n caps env i ds),λi j ds es a _ h=>absurd h (kR n caps env i ds)⟩;unfold dJ at h;unfold sA
 by_cases hi:i<n
 .rw[S_ (by simpa using hi),Ve,h_ hi]at h ⊢;cases h;exact⟨none,rfl,trivial⟩
 .rw[R_ (by simpa using hi),x_]at h ⊢;simp only[Wp]at h ⊢;cases q:caps[i-n]? with
  | none=>rw[q]at h;cases h
  | some j=>
   rw[q]at h;simp only[Option.map_some,Option.some.injEq]at h ⊢;refine⟨_,rfl,?_⟩
   split at h
   .rename_i dd hj;subst h;obtain⟨x,h1,v,h2,r⟩:=R.sl j _ hj;rw[h1,h2];exact⟨v,rfl,r⟩
   .subst h;trivial
section
variable {X:Cx}{elt:YI}{rest:Yn}{scope:YG}{pos:Pos}{tg iter:YI}{ifs:Yt}{t:Ft}{c:Fb}{k:YM}{fi:Fi}{is caps:Yv}{cl:Yl}{Nc own:Yr}
theorem qz{qv:Qv}(qo:PY qv)(ht:pJ is t)(bP:X.calm=true)(jZ:jS (λx=>X.env.cells.lookup x) scope.names []=some cl)(cM:scope.kind=.function)(hnc:∀y∈scope.names,y.2≠.cell)
  (hN:Nc.map some=own.map some++caps.map (λj=>X.N[j]?)) (pI:qJ X scope caps=true)
  (hb:∀C s H ex pn a,KN (eX X scope cl Nc C s H ex pn) qv a elt (⟨tg,iter,ifs,0⟩::rest) scope pos 0 tg ifs t c k)
  {pins:Yi} {σ:L2.St} {s2:YA} {H2 B Z2:Hp} {env:En} {ds xs:YO} {E:Yh} {RR:Yz->YH->Result->YA->Prop} {it:YH} {fp:Ys} {tn:Nat->YD->Prop} {J:It}
  (I2:Inv X pins σ H2 s2) (R2:Rl X.K B Z2 H2 env σ) (T:Turn X.prog X.w X.K tg J fp it tn) (FP:tn 0 s2.heap) (tZ:∀b∈fp,fS X pins H2 b) (wk:Walk X.K Z2 ds J) (hu:dv is (dJ own.length caps env)=true)
  (FO:fq t c k (dJ own.length caps env) ds=some xs) (hl:xs.length<=16000000)
  (Rp:∀a C H' Z' s' vs m,Inv X pins σ H' s'->s'.heap.Ns C m->fS X pins H' C->Ex Z2 H2 Z' H'->H2 a=none->H' a=some (.lst vs)->Z' a=none->av X.K Z' xs vs->qv a H2 H' xs vs->RR (.ref a) C (.ok .next) s') :
  wpAny @3 X.A (newList []) (λacc s₃=>wpAny @3 X.A (newFunctionEnv scope X.env.globals cl [] X.env.qual none .none (some X.env)) (λLW s₄=>
   codeAny @3 X.A (.compStart (.ListComp elt (⟨tg,iter,ifs,0⟩::rest) scope pos) 0 (.ref it) acc {LW with scope:=relabel scope X.env}) (RR acc LW.locals) s₄) E s₃) E s2:=by
 refine Vd ?_ (by size_fits);have hf:H2 s2.sz=none:=I2.hok.fresh (m_ _);have I3:Inv X pins σ (upd H2 s2.sz (.lst [])) {s2 with heap:=s2.heap.push {cls:=.type "list",dict:=none,data:=.seq ([]:Yo).toArray}}:=
  I2.laid (t':=s2.toks) (λb u e=>d_ _ e) (m_ _) (show bE X.prog X.w _ _ _ (.lst [])from⟨by simp,[],0,.nil,o_ _ rfl⟩)
 generalize Cc:({s2 with heap:=s2.heap.push {cls:=.type "list",dict:=none,data:=.seq ([]:Yo).toArray}}:YA)=s3 at I3 ⊢;have OP:∀b o,s2.heap.get? b=some o->s3.heap.get? b=some o:=λb o e=>by rw[<- Cc];exact d_ _ e
 have OQ:s3.sz=s2.sz+1:=by rw[<- Cc];exact UP _ _
 have yK:∀b∈fp,b<s2.sz:=λb hb=>let ⟨o,e,_⟩:=T.obj _ _ FP b hb;n_ e;have OR:∀b∈fp,fS X pins (upd H2 s2.sz (.lst [])) b:=λb hb=>⟨by rw[ax (A_ (yK b hb))];exact(tZ b hb).1,(tZ b hb).2⟩;refine wpAny_newFunctionEnv hnc (by intro y hy;simp at hy) (λh1 Jz hsb=>?_) cM;have OS:∀b o,s3.heap.get? b=some o->h1.get? b=some o:=λb o e=>hsb.extBut b o (A_ (n_ e)) (d_ _ e);have I4:=wq (tk:=s3.toks+([]:List (Str×Yz)).length) I3 jZ cM hnc OR (λb hb=>by rw[OQ];exact Vn (yK b hb)) hN pI Jz OS;generalize hXc:eX X scope cl Nc s3.sz s3 (upd H2 s2.sz (.lst [])) fp (X.pn++pins)=Xc at I4;have bb:KN Xc qv s2.sz elt (⟨tg,iter,ifs,0⟩::rest) scope pos 0 tg ifs t c k:=by rw[<- hXc];exact hb _ _ _ _ _ _
 obtain⟨Bd,pK,FN⟩:=bb.ex;have eP:Xc.prog=X.prog:=by rw[<- hXc];rfl
 have eW:Xc.w=X.w:=by rw[<- hXc];rfl
 have eK:Xc.K=X.K:=by rw[<- hXc];rfl
 have eA:Xc.A=X.A:=by rw[<- hXc];rfl
 have eE:Xc.env=compEnvC scope cl s3.sz X.env:=by rw[<- hXc];rfl
 have hx:∀e s,¬Xc.xe e s:=λe s z=>by rw[<- hXc]at z;exact z
 have F6:Xc.calm=true:=by rw[<- hXc];exact bP
 have T':Turn Xc.prog Xc.w Xc.K tg J fp it tn:=by rw[eP,eW,eK];exact T
 have A4:QQ Xc qv [] s2.sz H2 Z2 (upd H2 s2.sz (.lst [])) (dJ own.length caps env) (sA own.length caps σ) [] {s3 with heap:=h1,toks:=s3.toks+([]:List (Str×Yz)).length}:=
  ⟨I4,by rw[eK];exact R2.cap _ _ (cj hf) (eV R2.zh (R2.zh.free hf)),kR _ _ _,hf,R2.zh.free hf,[],au,rfl,qo.nil⟩
 have Rq:∀b∈fp,fS Xc [] (upd H2 s2.sz (.lst [])) b:=λb hb=>by
  obtain⟨f1,f2,f3,f4,f5,f6⟩:=OR b hb;have mem:=iA jZ (λp hp=>by cases hp);rw[<- hXc];refine⟨f1,?_,iZ I3 f2 f3,.inl hb,λx c h=>f5 x c (mem (x,c) (U8 h)),λp hp=>f6 p (by simpa [eX]using hp)⟩;show b≠s3.sz;rw[OQ];exact A_ (Vn (yK b hb))
 have OU:tn 0 ({s3 with heap:=h1,toks:=s3.toks+([]:List (Str×Yz)).length}:YA).heap:=T.keep _ _ _ FP λb _ o e=>OS b o (OP b o e);have go:=l5 Qr (IZ qo) (a:=s2.sz) hx F6 T' bb.g ht bb.ts pK (FN it) A4 Rq OU (by rw[eK];exact wk) hu FO (by simpa using hl) (R:=RR (.ref s2.sz) s3.sz) λs' σ' H' Z' A' x' fr'=>by
  obtain⟨vs,hv,rr,qq⟩:=A'.ac;have base:=A'.I.base;obtain⟨mC,OV,_⟩:=A'.I.loc;have hok:=A'.I.hok;have hos:=A'.I.os;have free:=A'.I.free;rw[eE]at OV free;rw[eP,eW]at hok;rw[eK]at rr;have u1:Un (mP X.stack) fp H2 (upd H2 s2.sz (.lst [])) s2.heap s3.heap:=Un.laid OP (m_ _) hf;have u2:Un (mP X.stack) fp (upd H2 s2.sz (.lst [])) H' s3.heap s'.heap:=by rw[<- hXc]at base;exact base
  have LX:s'.os=s2.os:=by rw[<- hXc]at hos;exact hos.trans (by rw[<- Cc];rfl)
  have I':Inv X pins σ H' s':=I2.call' LX (u1.trans u2) hok A'.I.bare λb hb=>⟨(tZ b hb).2.2.2.1,(tZ b hb).2.1,(tZ b hb).2.2.2.2.1,(tZ b hb).2.2.2.2.2⟩;exact Rp s2.sz s3.sz H' Z' s' vs mC I' OV (I3.fpOk (m_ _) free) x' hf hv A'.hz (by simpa using rr) (by simpa using qq)
 rw[eP,eW,eA,eE]at go;exact tw Qr rfl go (T.self _ 0 _ _ _ OU go)
theorem bH(ht:pJ is t)(bP:X.calm=true)(hi:ID X tg iter fi)(jZ:jS (λx=>X.env.cells.lookup x) scope.names []=some cl)(hN:Nc.map some=own.map some++caps.map (λj=>X.N[j]?))
  (hb:∀C s H ex pn a,KN (eX X scope cl Nc C s H ex pn) QT a elt (⟨tg,iter,ifs,0⟩::rest) scope pos 0 tg ifs t c k)
  (pI:qJ X scope caps=true:=by rfl) (cM:scope.kind=.function:=by rfl) (hnc:∀y∈scope.names,y.2≠.cell:=by decide +kernel) (OW:∀x∈scope.names,x.2=.local->scope.names.lookup x.1=some .local:=by decide +kernel)
  (hs:∀x,foldedSetIterable iter X.env x=pure x:=by intro _;rfl) :
  PD X .nw (.ListComp elt (⟨tg,iter,ifs,0⟩::rest) scope pos) (aM fi is t c k own.length caps):=by
 intro pins s σ H Q I hT;obtain⟨env,B,Z,d,R,e,kk⟩:=hT;obtain⟨ds,xs,e1,hu,FO,hl,rfl⟩:=pq e;rw[eval_ListComp];refine WH (use:=none) rfl hs (jJ jZ) cM OW ?_;refine bB (hi pins s σ H (λJ H1=>∃Z1,Ex Z H Z1 H1/\Walk X.K Z1 ds J) I ⟨env,B,Z,ds,R,e1,λJ Z1 H1 x1 wk=>⟨Z1,x1,wk⟩⟩) λx s1 q1=>bB q1 λOC s2 az=>?_;obtain⟨it,fp,tn,J,H2,hit,I2,T,FP,tZ,Z2,x2,wk⟩:=az;subst hit;refine qz KO ht bP jZ cM hnc hN pI hb I2 (R.ext x2) T FP tZ wk hu FO hl (RR:=λacc C=>compPost @3 X.A X.xe none (EP X pins σ Q) acc C) λa C H' Z' s' vs m I' ns fpC x' hf hv hz rr _=>?_;refine⟨m,ns,λh' hs'=>?_⟩;obtain⟨f1,f2,f3,f4,f5,f6⟩:=fpC;refine⟨.ref a,H',I'.turned (t':=s'.toks) (it:=C) (λb o hb e=>hs'.extBut b o hb e) f1 f2.symm.symm f4 f5 f6,rfl,kk _ Z' H' (x2.trans x') ⟨a,vs,xs,rfl,rfl,x2.h.free hf,hv,hz,rr⟩⟩
end
section
variable {P:YB}{w:YE}{A:YC}{E:Yh}
theorem Jf(hne:l≠it):∀(n i:Nat)(s:YA)(Q:Yo->YA->Prop),s.heap.IsListIter it l i->s.heap.IsList l items->i+n<=items.size->
  (∀h',h'.IsListIter it l (i+n)->Heap.SameBut it s.heap h'->Q ((items.toList.drop i).take n) {s with heap:=h'})->wpAny (model P w) A (draw (.ref it) n) Q E s:=by
 intro n
 induction n with
 | zero=>intro i s Q hit hl hle hQ;exact e_ (show Q [] s from by simpa using hQ s.heap (by simpa using hit) (Heap.SameBut.refl ..))
 | succ n ih=>
  intro i s Q hit hl hle hQ;have ix:i<items.size:=by omega
  refine(show wpAny (model P w) A (pyNext (.ref it) >>= _) Q E s from a_ (W1 hit hl (x:=items[i]) (by simp[ix]) λh1 LY Rt=>?_));refine a_ (F_ (ih (i+1) _ _ LY (hl.extBut Rt.extBut hne) @1 λh2 hit2 F8=>e_ ?_));have q:=hQ h2 (by rw[show i+(n+1)=i+1+n by omega];exact hit2) (Rt.trans F8);have hd:items.toList.drop i=items[i]::items.toList.drop (i+1):=by simp[VC,ix]
  rw[hd,List.take_succ_cons]at q;exact q
theorem GA(hh:A.handled=none)(hl:s.heap.IsList l items)(hQ:∀h',Heap.ExtBut s.sz s.heap h'->Q items.toList {s with heap:=h'}) :
  wpAny (model P w) A (unpackItems (.ref l) items.size none) Q E s:=by
 have ix:l≠s.sz:=by obtain⟨o,ho,_⟩:=hl;exact A_ (n_ ho)
 unfold unpackItems;refine a_ (m:=notIterableAtAll (.ref l)) ?_
 .unfold notIterableAtAll;refine a_ (VN hl.typeIs PySem.slot_list_iter.lookup (e_ ?_));simp only[D_,UU];have OG:(s.heap.push {cls:=.type "list_iterator",data:=.fields #[.ref l,rawInt 0]}).IsList l items:=by obtain⟨o,ho,r⟩:=hl;exact⟨o,d_ _ ho,r⟩
  refine a_ (F_ (Vz hl (a_ (F_ (Jf ix items.size 0 _ _ ⟨_,o_ _ rfl,rfl,rfl⟩ OG @1 λh1 LY Rt=>?_)))));have mQ:((items.toList.drop 0).take items.size)=items.toList:=by rw[List.drop_zero];exact W7 @8
  rw[mQ,i_ @8];refine a_ (F_ (Xb hh LY (OG.extBut Rt.extBut ix) @8 λh2 wK=>?_));simp only[Option.isSome_none,D_,UU];exact e_ (hQ h2 λb o hb e=>wK b o hb (Rt.extBut b o hb (d_ _ e)))
end
section
variable {X:Cx}{rg:Gr}
def Qx(K:Yy)(n:Nat)(t:TGs):TG:=λv σ H Q=>∃a xs,v=.ref a/\cY K H a xs/\xs.length=n/\t xs σ H Q
theorem K2(hc:X.calm=true)(h:BU X es t)(hn:(assignEach es X.env).length=n:=by rfl)(hst:(assignEach es X.env).findIdx? (·.1)=none:=by rfl):PG X (.Tuple es k pos) (Qx X.K n t):=by
 intro pins s σ H v u Q I r hw;obtain⟨a,xs,e1,hq,hl,hw⟩:=hw;subst e1;cases r;obtain⟨br,rv,pl,hz⟩:=I.list hq;have hlen:=rv.length;rw[XO];refine a_ (Vo ?_);unfold unpack;rw[hst,hn,show n=br.toArray.size by rw[s_];omega];refine a_ (F_ (GA (I.ok.hd hc) pl.isList λh' hx=>?_));have I1:Inv X pins σ H {s with heap:=h'}:=I.kept (t':=s.toks) λb o e=>hx b o (A_ (n_ e)) e;exact h pins _ σ H xs _ Q I1 (by simpa using rv) hw
def SG(is:Yv):Ft:=λd env=>match d with
 | .lst ds=>eZ is ds env
 | _=>none
theorem Oh(hc:X.calm=true)(h:Lh X es is)(hn:(assignEach es X.env).length=is.length:=by rfl)(hst:(assignEach es X.env).findIdx? (·.1)=none:=by rfl):GD X (.Tuple es k pos) (SG is):=
 PG.imp (K2 hc h hn hst) λv σ H Q az=>by
  obtain⟨env,B,Z,d,env',R,r,e,k⟩:=az;cases d<;>try cases e
  rename_i ds;obtain⟨a,vs,e1,hq,rr⟩:=r;exact⟨a,vs,e1,R.zh.seq hq,by rw[<- rr.len];exact jV e,env,B,Z,ds,env',R,rr,e,k⟩
def Lq(is:Yv)(f:Fe):Fs:=λenv=>(f env).bind λd=>(SG is d env).bind λe=>some (.nx e)
theorem Jj(hc:X.calm=true)(he:PD X .cl e fe)(h:Lh X es is)(hn:(assignEach es X.env).length=is.length:=by rfl)(hst:(assignEach es X.env).findIdx? (·.1)=none:=by rfl)
  (hs:swapsWithSole [.Tuple es k p2] e pos.line X.env=pure false:=by rfl) (hw:swappedStores [.Tuple es k p2] e X.env=pure none:=by rfl) (h1:(assignEach [.Tuple es k p2] X.env).map (·.2)=[assign (.Tuple es k p2) X.env]:=by rfl) :
  SD X rg (.Assign [.Tuple es k p2] e pos) (Lq is fe):=PS.imp (sW he (Oh hc h hn hst) hs hw h1) λE σ H az=>by
 obtain⟨env,B,Z,o,R,e,k⟩:=az;obtain⟨d,e1,e⟩:=b_.mp e;obtain⟨en,e2,e⟩:=b_.mp e;cases e;refine⟨env,B,Z,d,R,e1,λv Z1 H1 x1 g1=>⟨env,B,Z1,d,en,R.ext x1,g1,e2,λσ' R'=>k σ' Z1 H1 (x1.part R.bh) R'⟩⟩
variable {l r:YI}{fa fb:Fe}{ga gb:Gr}{pos p:Pos}
theorem Ga:jf X (binaryOp .Add) (λx y H Q=>∃l b xs zs,x=.ref l/\y=.ref b/\cY X.K H l xs/\cY X.K H b zs/\xs.length+zs.length<=sizeLine/\∀p,H p=none->Q (.ref p) (upd H p (.lst (xs++zs)))):=by
 intro pins s σ H x y v u Q I rx ry h;obtain⟨l,b,xs,zs,rfl,rfl,hH,hB,hz,q⟩:=h;cases rx;cases ry;obtain⟨br,r,⟨o,n,e,c1,c2,c3⟩,_⟩:=I.list hH;obtain⟨pH,r2,⟨o2,n2,e2,d1,d2,d3⟩,_⟩:=I.list hB;obtain⟨cls,dd,dt,sl⟩:=o;obtain⟨Iq,wM,dt2,Ai⟩:=o2;simp only at c1 c2 c3 d1 d2 d3;subst c1 c2 c3 d1 d2 d3;have h1:=r.length;have h2:=r2.length;have hsz:br.toArray.size+pH.toArray.size<=sizeLine:=by simp only[s_];omega
 refine concat_meets ⟨_,e,rfl⟩ ⟨_,e2,rfl⟩ noFill_list_add seq_list_add PySem.F.slot_list_add PySem.F.entry_list_add (PySem.F.args_list_add_2 _ _) (list_addW l b br.toArray pH.toArray n n2 none none sl Ai hsz) ⟨e,e2,?_⟩;rw[show br.toArray++pH.toArray=(br++pH).toArray by simp];exact⟨.ref _,_,I.lnew (t':=s.toks) (r.append r2) (by rw[u_];omega),rfl,q _ I.fresh⟩
theorem jH(ha:PD X ga l fa)(hb:PD X gb r fb):PD X .nw (.BinOp l .Add r pos) (ar kS fa fb):=vN Ga Ku ha hb
end
section
variable {X:Cx}{rg:Gr}{elt:YI}{rest:Yn}{scope:YG}{pos spos py:Pos}{tg iter:YI}{ifs:Yt}{t:Ft}{c:Fb}{k:YM}{fi:Fi}{is caps:Yv}{cl:Yl}{Nc own:Yr}{y:Str}
structure JC(X:Cx)(qv:Qv)(e:Expr)(f:Fe):Prop where
 ex:∀(y:Str)(py spos:Pos)(i:Nat),swapsWith e (some (.Name y py)) spos.line X.env=pure true->X.N.Nodup->X.N[i]?=some y->Loc X.env.scope y->(X.fn y=true\/X.env.scope.names.lookup y=some .local)->
  ∀(pins:List (Addr×Obj))(s:Shared)(σ:L2.St)(H:Hp)(E:Ends),Inv X pins σ H s->(∃env B Z d,Rl X.K B Z H env σ/\f env=some d/\∀v Z' H',Ex Z H Z' H'->Gd X.K Z' H H' .nw d v->(∃a xs vs,v=.ref a/\d=.lst xs/\H' a=some (.lst vs)/\qv a H H' xs vs)->E.nx (σ.set i (some v)) H')->
   wpAny @3 X.A (exec (.Assign [.Name y py] e spos) X.env) (SP X pins E) X.xe s
abbrev Ad(X:Cx)(e:YI)(f:Fe):Prop:=JC X QT e f
theorem fg(ht:pJ is t)(bP:X.calm=true)(hi:ID X tg iter fi)(jZ:jS (λx=>X.env.cells.lookup x) scope.names []=some cl)(hN:Nc.map some=own.map some++caps.map (λj=>X.N[j]?))
  (hb:∀C s H ex pn a,KN (eX X scope cl Nc C s H ex pn) qv a elt (⟨tg,iter,ifs,0⟩::rest) scope pos 0 tg ifs t c k)
  (pI:qJ X scope caps=true:=by rfl) (cM:scope.kind=.function:=by rfl) (hnc:∀y∈scope.names,y.2≠.cell:=by decide +kernel) (OW:∀x∈scope.names,x.2=.local->scope.names.lookup x.1=some .local:=by decide +kernel)
  (hs:∀x,foldedSetIterable iter X.env x=pure x:=by intro _;rfl) (qo:PY qv:=by exact KO) :
  JC X qv (.ListComp elt (⟨tg,iter,ifs,0⟩::rest) scope pos) (aM fi is t c k own.length caps):=by
 refine⟨λy py spos j FQ hNd hj hy hf pins s σ H E I hT=>?_⟩;obtain⟨env,B,Z,d,R,e,kk⟩:=hT;obtain⟨ds,xs,e1,hu,FO,hl,rfl⟩:=pq e;rw[exec_Assign_Name_used _ _ _ _ FQ];refine a_ (Vo (a_ ?_));refine(show wpAny @3 X.A (comprehension (.ListComp elt (⟨tg,iter,ifs,0⟩::rest) scope pos) scope X.env (firstIterPos (⟨tg,iter,ifs,0⟩::rest) pos) (newList []) false (eval iter X.env) (some (assign (.Name y py) X.env)) >>= λ_=>pure ()) _ _ s from ?_);refine a_ (bB (WH (use:=some (assign (.Name y py) X.env)) (Q:=λ_ s'=>SP X pins E .next s') rfl hs (jJ jZ) cM OW ?_) λ_ s' hq=>e_ (e_ hq));refine bB (hi pins s σ H (λJ H1=>∃Z1,Ex Z H Z1 H1/\Walk X.K Z1 ds J) I ⟨env,B,Z,ds,R,e1,λJ Z1 H1 x1 wk=>⟨Z1,x1,wk⟩⟩) λx s1 q1=>bB q1 λOC s2 az=>?_;obtain⟨it,fp,tn,J,H2,hit,I2,T,FP,tZ,Z2,x2,wk⟩:=az;subst hit;refine qz qo ht bP jZ cM hnc hN pI hb I2 (R.ext x2) T FP tZ wk hu FO hl (RR:=λacc C=>compPost @3 X.A X.xe (some (assign (.Name y py) X.env)) (λ_ s'=>SP X pins E .next s') acc C) λa C H' Z' s' vs m I' ns fpC x' Ra hv hz rr qq=>?_;refine(show wpAny @3 X.A (assign (.Name y py) X.env (.ref a)) _ _ s' from wpAny_assign_Name (qE I' hNd hj hy (show RelV (.ref a) (.ref a)from rfl) (λs2' I2' az=>?_) hf));obtain⟨b,hsb,Rh⟩:=az;obtain⟨f1,f2,f3,f4,f5,f6⟩:=fpC;have hCb:C≠b:=λz=>by
  rcases Rh with z2 | z2
  .exact f2 (z.trans z2)
  .exact f5 y b z2 z.symm
 refine⟨m,ns.sameBut hsb hCb,λh' hs'=>?_⟩;exact⟨_,H',I2'.turned (t':=s2'.toks) (it:=C) (λb o hb e=>hs'.extBut b o hb e) f1 f2 f4 f5 f6,kk _ Z' H' (x2.trans x') ⟨a,vs,xs,rfl,rfl,x2.h.free Ra,hv,hz,rr⟩ ⟨a,xs,vs,rfl,rfl,hv,qo.base x2.h qq⟩⟩
variable {e:YI}{fe:Fe}
theorem fU(i:Nat)(h:Ad X e fe)(hN:X.N.Nodup)(hi:X.N[i]?=some y:=by rfl)(hx:Loc X.env.scope y:=by first | exact Or.inl rfl | exact Or.inr rfl)(FQ:swapsWith e (some (.Name y py)) spos.line X.env=pure true:=by rfl)
  (hf:X.fn y=true\/X.env.scope.names.lookup y=some .local:=by first | exact .inl rfl | exact .inr rfl | assumption):SD X rg (.Assign [.Name y py] e spos) (setF i fe):=λpins s σ H E I hw=>by
 obtain⟨env,B,Z,o,R,e0,kk⟩:=hw;obtain⟨d,e1,e2⟩:=b_.mp e0;cases e2;refine h.ex y py spos i FQ hN hi hx hf pins s σ H E I ⟨env,B,Z,d,R,e1,λv Z' H' x g _=>?_⟩;obtain⟨a,vs,ds,rfl,rfl,h1,h2,h3,r⟩:=g;have s1:aO Z' (upd Z' a (.lst vs)):=cj h3;have x2:Ex Z H (upd Z' a (.lst vs)) H':=⟨x.h,x.z.trans s1,oK x.zh h2,λb hb e=>by rw[ax (λz=>hb (by rw[z];exact h1))];exact x.fr b hb e⟩;exact kk _ _ H' (x2.part R.bh) ((R.ext x2).setF i ⟨a,vs,rfl,cY.of au,av.mono s1 ds r⟩)
theorem HQ(i:Nat)(h:Ad X e fe)(hN:X.N.Nodup)(hi:X.N[i]?=some y:=by rfl)(hx:Loc X.env.scope y:=by first | exact Or.inl rfl | exact Or.inr rfl)(FQ:swapsWith e (some (.Name y py)) spos.line X.env=pure true:=by rfl)
  (hf:X.fn y=true\/X.env.scope.names.lookup y=some .local:=by first | exact .inl rfl | exact .inr rfl | assumption):SD X rg (.Assign [.Name y py] e spos) (setO i fe):=λpins s σ H E I hw=>by
 obtain⟨env,B,Z,o,R,e0,kk⟩:=hw;obtain⟨d,e1,e2⟩:=b_.mp e0;cases d<;>cases e2;rename_i ds;refine h.ex y py spos i FQ hN hi hx hf pins s σ H E I ⟨env,B,Z,_,R,e1,λv Z' H' x g _=>?_⟩;obtain⟨a,vs,ds',rfl,e3,h1,h2,h3,r⟩:=g;cases e3;refine kk _ Z' H' (x.part R.bh) ((R.ext x).setO i (R.bh.free h1) h3 h2 (de.l r) λj es hj hje Iw=>?_);obtain⟨q,e4,b,us,e5,e6,_⟩:=R.sl j _ hje;rw[Iw]at e4;cases e4;cases e5;rw[h1]at e6;cases e6
end
section
variable {X:Cx}{rg:Gr}
end
end Mi
namespace Mi
open PySem L2
theorem oB(n:Nat)(h:i.natAbs<=n)(hn:n<2 ^ 4096:=by decide +kernel):big i=true:=y_ (XB h hn)
theorem oz(h1:-1000000000<=i)(h2:i<=1000000000):big i=true:=oB 1000000000 @1
theorem nG(h1:-1000000000<=i)(h2:i<=1000000000)(h3:-1000000000<=j)(h4:j<=1000000000):mulI (.int i) (.int j)=some (.int (i*j)):=by
 show(if(big i&&big j)=true then _ else _)=_;rw[oz h1 h2,oz h3 h4];rfl
theorem iQ(h:0<j):modI (.int i) (.int j)=some (.int (i%j)):=by
 show(if decide (0<j)=true then _ else _)=_;rw[y_ h];rfl
theorem y8(h:0<j)(h2:j<1073741824):fdivI (.int i) (.int j)=some (.int (i/j)):=by
 show(if decide (0<j/\j<1073741824)=true then _ else _)=_;rw[y_ (And.intro h h2)];rfl
theorem oF(h:big i=true)(h2:0<=j)(h3:j<=1000):powI (.int i) (.int j)=some (.int (i ^ j.toNat)):=by
 show(if(big i&&decide (0<=j/\j<=1000))=true then _ else _)=_;rw[h,y_ (And.intro h2 h3)];rfl
theorem H8(h:big i=true)(h2:big j=true):mulI (.int i) (.int j)=some (.int (i*j)):=by
 show(if(big i&&big j)=true then _ else _)=_;rw[h,h2];rfl
theorem fH(i j:Int):addI (.int i) (.int j)=some (.int (i+j)):=rfl
theorem EE(i j:Int):subI (.int i) (.int j)=some (.int (i-j)):=rfl
theorem Lu(i j:Int):ltI (.int i) (.int j)=some (.bl (decide (i<j))):=rfl
theorem AE(i j:Int):leI (.int i) (.int j)=some (.bl (decide (i<=j))):=rfl
theorem Ka(i j:Int):gtI (.int i) (.int j)=some (.bl (decide (j<i))):=rfl
theorem BX(i j:Int):eJ (.int i) (.int j)=some (.bl (i==j)):=rfl
theorem P7(i j:Int):ud (.int i) (.int j)=some (.bl !(i==j)):=rfl
theorem aU(h1:f env=some x)(h2:g env=some y):ar b f g env=b x y:=by
 unfold ar;rw[h1,h2];rfl
theorem o4(h1:f env=some x):bN b f env=b x:=by
 unfold bN;rw[h1];rfl
theorem GW{x:Int}(n k:Nat)(h1:x.natAbs<=n):(x ^ k).natAbs<=n ^ k:=by
 rw[Int.natAbs_pow];exact Nat.pow_le_pow_left h1 k
theorem Ge{x y:Int}(n m:Nat)(h1:x.natAbs<=n)(h2:y.natAbs<=m):(x+y).natAbs<=n+m:=by omega
theorem kb(I:En->Prop):∀(ds:YO)(env:En),I env->(∀d∈ds,∀e,I e->∃e1,(t d e).bind body=some (.nx e1)/\I e1)->∃e2,cK t body ds env=some (.nx e2)/\I e2
 | [],env,h,_=>⟨env,rfl,h⟩
 | d::ds,env,h,hb=>by
  obtain⟨e1,h1,h2⟩:=hb d g_ env h;obtain⟨e2,h3,h4⟩:=kb I ds e1 h2 λd' hd=>hb d' (f_ _ hd);refine⟨e2,?_,h4⟩;obtain⟨e0,h5,h6⟩:=b_.mp h1;show(t d env).bind (λe1=>(body e1).bind _)=_;rw[h5];show(body e0).bind _=_;rw[h6];exact h3
theorem fG(I:Nat->En->Prop):∀(ds:YO)(n:Nat)(env:En),I n env->(∀i d e,ds[i]?=some d->I (n+i) e->∃e1,(t d e).bind body=some (.nx e1)/\I (n+i+1) e1)->∃e2,cK t body ds env=some (.nx e2)/\I (n+ds.length) e2
 | [],n,env,h,_=>⟨env,rfl,h⟩
 | d::ds,n,env,h,hb=>by
  obtain⟨e1,h1,h2⟩:=hb 0 d env rfl h;obtain⟨e2,h3,h4⟩:=fG I ds (n+1) e1 h2 λi d' e hd he=>by
   have:=hb (i+1) d' e (by simpa using hd) (by rw[show n+(i+1)=n+1+i by omega];exact he);rw[show n+1+i+1=n+(i+1)+1 by omega];exact this
  refine⟨e2,?_,by rw[show n+(d::ds).length=n+1+ds.length by simp;omega];exact h4⟩;obtain⟨e0,h5,h6⟩:=b_.mp h1;show(t d env).bind (λe1=>(body e1).bind _)=_;rw[h5];show(body e0).bind _=_;rw[h6];exact h3
theorem d7{α:Type}{xs:List α}{k:Nat}{x:α}(h:xs[k]?=some x):L2.atI xs (k:Int)=some x:=by
 have hk:=(k_.mp h).1;unfold L2.atI L2.Bo;rw[h_ @1,h_ @1];simpa using h
theorem yZ(h:(aR 0 n)[i]?=some d):d=.int i/\i<n:=by
 unfold aR at h;rw[x_]at h;cases e:(List.range n)[i]? with
 | none=>rw[e]at h;cases h
 | some j=>
  rw[e]at h;have hi:=(k_.mp e).1;rw[Ws]at hi;rw[VP hi]at e;cases e;cases h;exact⟨by simp,hi⟩
end Mi
namespace Mi
theorem KU(d:D)(env:En):dR (.F d::env) 0=some d:=rfl
theorem Kx(s:Slot)(env:En)(i:Nat):dR (s::env) (i+1)=dR env i:=rfl
theorem mi(h:env[i]?=some (.O (.L ds)))(hf:f env=some d)(hl:ds.length<16000000):ju i f env=some (.nx (env.set i (.O (.L (ds++[d]))))):=by
 unfold ju;rw[h];show(f env).bind _=_;rw[hf];show(if ds.length<16000000 then _ else _)=_;rw[h_ hl]
theorem aq(h:f env=some (.nx e)):aE f g env=g e:=by unfold aE;rw[h];rfl
theorem aW(h:f env=some d):setF i f env=some (.nx (env.set i (.F d))):=by unfold setF;rw[h];rfl
theorem bD(h:f env=some d):bw f env=some (.rt d):=by unfold bw;rw[h];rfl
theorem cq(h:t env=some true):jr t f g env=f env:=by unfold jr;rw[h];rfl
theorem bC(h:t env=some false):jr t f g env=g env:=by unfold jr;rw[h];rfl
theorem cf(h:fi env=some ds):dS fi t b env=cK t b ds env:=by unfold dS;rw[h];rfl
theorem cA(h:f env=some (.bl b)):fB f env=some b:=by unfold fB;rw[h];rfl
theorem NI(h:f env=some true):Ek f g env=some true:=by unfold Ek;rw[h];rfl
theorem IS(h:f env=some false):Ek f g env=g env:=by unfold Ek;rw[h];rfl
theorem q9(h:f env=some b):oR f env=some !b:=by unfold oR;rw[h];rfl
theorem call_v{fs:Fes}{m:YO->YQ}{env:En}{ds:YO}(h:fs env=some ds):(fs env).bind m=m ds:=by rw[h];rfl
theorem ai(h:f env=some d)(h2:fs env=some ds):aa f fs env=some (d::ds):=by unfold aa;rw[h,h2];rfl
theorem aK:fNil env=some []:=rfl
theorem aZ(h:f (bU n ds)=some (.rt d)):bJ f n ds=some d:=by unfold bJ;rw[h];rfl
theorem ek(h:f env=some (.int (n:Int)))(h2:n<=1000000000):ir f env=some (aR 0 n):=by
 have hr:CV (n:Int)=true:=by
  simp only[CV,w_];omega
 unfold ir;rw[h,Vt];dsimp only;rw[h_ hr,Vc]
theorem kX(h:f env=some (.lst ds)):bN dM f env=some (.int (ds.length:Int)):=by unfold bN;rw[h];rfl
theorem J3(h:f env=some (.tup ds)):bN dM f env=some (.int (ds.length:Int)):=by unfold bN;rw[h];rfl
theorem fj(h:f env=some (.lst ds))(h2:g env=some (.int i))(h3:L2.atI ds i=some d):ar aI f g env=some d:=(aU h h2).trans h3
theorem oy(h:f env=some (.tup ds))(h2:g env=some (.int i))(h3:L2.atI ds i=some d):ar aI f g env=some d:=(aU h h2).trans h3
theorem Jq(h:f env=some (.lst ds))(h2:eZ is ds env=some e):Lq is f env=some (.nx e):=by
 unfold Lq;rw[h];show(eZ is ds env).bind _=_;rw[h2];rfl
theorem nW(h:f env=some (.tup ds))(h2:eZ is ds env=some e):B8 is f env=some (.nx e):=by
 unfold B8;rw[h];show(eZ is ds env).bind _=_;rw[h2];rfl
theorem be(h:f env=some (.lst ds)):cx f env=some ds:=by unfold cx;rw[h];rfl
theorem qT(h:f env=some (.tup ds)):Ae f env=some ds:=by unfold Ae;rw[h];rfl
theorem dI(h:f env=some (.rt d)):aE f g env=some (.rt d):=by unfold aE;rw[h];rfl
theorem rh(ns:YO)(k:Nat):cutD ns none (some (k:Int))=ns.take k:=by
 unfold cutD;rw[HT.Fp,HT.Hk,List.drop_zero,Nat.sub_zero]
 by_cases h:ns.length<=k
 .rw[Nat.min_eq_right h,Vk,W7 h]
 .rw[Nat.min_eq_left @1]
end Mi
namespace Mi
open PySem PySem.Spec PyProof.Rows L2
def Bw:YO->Option (List Bool)
 | []=>some []
 | .bl b::r=>(Bw r).bind λbs=>some (b::bs)
 | _=>none
theorem zk:∀{ds:YO}{bs:List Bool},Bw ds=some bs->ds=bs.map .bl
 | [],bs,h=>by cases h;rfl
 | d::r,bs,h=>by
  cases d<;>try cases h
  rename_i b;obtain⟨cs,h1,h2⟩:=b_.mp h;cases h2;rw[zk h1];rfl
def G6:D->YQ
 | .lst ds=>(Bw ds).bind λbs=>some (.bl (bs.all id))
 | _=>none
theorem av.bls{K:Fg}{H:Hp}:∀{bs:List Bool}{vs:YR},av K H (bs.map .bl) vs->vs=bs.map .bl
 | [],vs,h=>h
 | b::bs,vs,⟨v,r,e,h1,h2⟩=>by subst e;cases(show v=V.bl b from h1);rw[av.bls h2];rfl
theorem aB.bls:∀{bs:List Bool}{us:Yo},aB (bs.map V.bl) us->us=bs.map .bool
 | [],us,h=>by cases h;rfl
 | b::bs,us,h=>by
  cases h with
  | cons p q=>cases(show _=Value.bool b from p);rw[aB.bls q];rfl
theorem Gy(bs:List Bool):(List.range bs.length).all (λi=>bs.getD i false)=bs.all id:=by
 rw[UD];simp only[U3,UV,id_eq];constructor
 .intro h b hb;obtain⟨i,hi,rfl⟩:=List.getElem_of_mem hb;simpa [List.getD,hi]using h i hi
 .intro h i hi;simpa [List.getD,hi]using h _ (Wa hi)
section
variable {X:Cx}{l r:YI}{fa fb:Fe}{ga gb:Gr}{pos p p2 p3 p4:Pos}
theorem DY{A:YC}{pins:Yi}{σ:L2.St}{H:Hp}{s:YA}{a:YH}{bs:List Bool}{E:Yh}{Q:Yh}{g:List Bool->Bool}{r2:Yv->(Nat->Bool)->Bool}
  (hh:A.handled=none) (I:@5) (hq:cY X.K H a (bs.map V.bl)) (hg:∀n,n=bs.length->r2 (List.range n) (λi=>bs.getD i false)=g bs) (q:∀s',Inv X pins σ H s'->Q (.bool (g bs)) s') :
  wpAny @3 A.in1 (pyIter (.ref a)) (λit s₂=>∃I fp wr n P St tr,it=.ref I/\Walks X.prog X.w A.in1 I fp wr n P St/\St 0 s₂.heap/\TruthOf X.prog X.w A.in1 P tr/\
   ∀h' tk,(∀b o,b∉wr->s₂.heap.get? b=some o->h'.get? b=some o)->Q (.bool (r2 (List.range n) tr)) {s₂ with heap:=h',toks:=tk}) E s:=by
 obtain⟨br,rv,pl,hz⟩:=I.list hq;cases aB.bls rv;have ix:a<s.sz:=by obtain⟨o,ho,_⟩:=pl.isList;exact n_ ho
 refine Vz pl.isList ?_;refine⟨s.sz,_,_,_,_,_,λi=>bs.getD i false,rfl,Walks.list (A:=A.in1) (show A.in1.handled=none from hh) s.sz a (A_ ix) (bs.map Value.bool).toArray,⟨⟨_,o_ _ rfl,rfl,rfl⟩,pl.isList.push _⟩,λi v s1 Q1 E1 hv hQ=>?_,λh' tk hk=>?_⟩
 .have wO:(bs.map Value.bool)[i]?=some v:=by simpa using hv
  rw[x_]at wO;cases e:bs[i]? with
  | none=>rw[e]at wO;cases wO
  | some b=>
   rw[e]at wO;cases wO;have hb:bs.getD i false=b:=by simp[List.getD,e]
   have hQ:Q1 (bs.getD i false) s1:=hQ;rw[hb]at hQ;exact Vb hQ
 .rw[hg _ @8];refine q _ (I.kept λb o e=>hk b o (λhb=>?_) (d_ _ e));have:b=s.sz:=by simpa using hb
  exact A_ (n_ e) this
theorem Ax(hc:X.calm=true):dG X (.builtin "all") (λxs H Q=>∃(a:YH)(bs:List Bool),xs=[.ref a]/\cY X.K H a (bs.map V.bl)/\Q (.bl (bs.all id)) H):=by
 intro pins s σ H xs us Q I rs h;obtain⟨a,bs,rfl,hq,q⟩:=h;obtain⟨u,rfl,rx⟩:=vals1 rs;cases rx;exact call_all_walk (DY (g:=λbs=>bs.all id) (r2:=λl f=>l.all f) (I.ok.hd hc) I hq (λn e=>by subst e;exact Gy bs) λs' I'=>⟨.bl _,H,I',rfl,q⟩)
theorem MR{K:Fg}:iV K .cl G6 (λxs H Q=>∃(a:YH)(bs:List Bool),xs=[.ref a]/\cY K H a (bs.map V.bl)/\Q (.bl (bs.all id)) H):=λ{Z H x dx d Q} s h e k=>by
 cases dx<;>try cases e
 obtain⟨bs,h1,h2⟩:=b_.mp e;cases h2;cases zk h1;obtain⟨a,vs,rfl,q,rr⟩:=h.lst s;cases av.bls rr;exact⟨a,bs,rfl,q,k _ Z H (Ex.refl s) rfl⟩
theorem AJ:bootBuiltins "all"=some (.builtin "all"):=by decide +kernel
theorem NA(hm:X.mg "all"=none)(bP:X.calm=true)(ha:PD X ga l fa)(hg:Gl X "all":=by rfl)(he:starEach [l] X.env=[(false,eval l X.env)]:=by rfl):PD X .cl (.Call (.Name "all" p) [l] [] pos) (bN G6 fa):=
 zO (Ax bP) MR AJ hm ha @2 @2 hg he
theorem Ab:∀(l:List α),(∀x∈l,f x=some (g x))->l.filterMap f=l.map g
 | [],_=>rfl
 | a::l,h=>by
  rw[WC,h a g_,C_];exact VE _ (Ab l λx hx=>h x (f_ _ hx))
theorem Cu(br:Yo):slicePick br.toArray none none (some (-1))=br.reverse.toArray:=by
 unfold slicePick sliceBounds sliceRange;simp only[Option.getD_some,s_,show ¬((-1:Int)>0) by decide,UU];congr 1;have hc:(if(br.length:Int)-1 > -1 then((br.length:Int)-1 - -1 - -1-1)/(- -1)else 0).toNat=br.length:=by
  split
  .rw[show(- -1:Int)=1 by decide,Int.ediv_one];omega
  .omega
 rw[hc];apply W8;intro i;rw[List.filterMap_map];have key:(List.range br.length).filterMap ((λx=>br.toArray[x]?) ∘ λ(k:Nat)=>((br.length:Int)-1+-1*(k:Int)).toNat)=(List.range br.length).map λk=>br.getD (br.length-1-k) .none:=by
  refine Ab _ λk hk=>?_;have hk':k<br.length:=by simpa using hk
  simp only[Function.comp];rw[show((br.length:Int)-1+-1*(k:Int)).toNat=br.length-1-k by omega];simp[List.getD,show br.length-1-k<br.length by omega]
 rw[key,x_]
 by_cases hi:i<br.length
 .rw[VP hi,List.getElem?_reverse hi];simp[List.getD,show br.length-1-i<br.length by omega]
 .rw[E_ (by simpa using hi),E_ (by simpa using hi)];rfl
def Fl:D->YQ
 | .lst ds=>some (.lst ds.reverse)
 | _=>none
theorem aB.rev:∀{xs:YR}{us:Yo},aB xs us->aB xs.reverse us.reverse
 | [],us,h=>by cases h;exact .nil
 | x::xs,us,h=>by
  cases h with
  | cons p q=>rw[XT,XT];exact(aB.rev q).append (.cons p .nil)
def Q2(K:Fg)(te:TE):TE:=λσ H Q=>te σ H λx H1=>∃a xs,x=.ref a/\cY K H1 a xs/\∀q,H1 q=none->Q (.ref q) (upd H1 q (.lst xs.reverse))
theorem Ki{e:YI}{te:TE}{i j:Int}{k:Nat}(he:PE X e te):PE X (.Subscript e (.Slice none none (some (.UnaryOp .USub (.Constant (.int 1) k p3) p4)) p2) pos) (Q2 X.K te):=by
 intro pins s σ H Q I h;refine Subscript_ (bB (he pins s σ H _ I h) λv s1 az=>?_);obtain⟨x,H1,I1,r1,q1⟩:=az;obtain⟨a,xs,e1,hx,q⟩:=q1;subst e1;cases r1;refine wpAny_Slice ?_;rw[evalPart_none];refine e_ (e_ ?_);refine bB (ze (X:=X) (Jr Dd Ef) pins s1 σ H1 (λo H2=>o=some (-1)/\H2=H1) I1 ⟨_,rfl,_,rfl,rfl,rfl⟩) λTe s2 az=>?_;obtain⟨o,H2,I2,ps,e2,e3⟩:=az;subst e2;subst e3;have I4:Inv X pins σ H2 {s2 with heap:=s2.heap.push {cls:=.type "slice",data:=.fields #[.none,.none,Te]}}:=I2.kept (t':=s2.toks) λb ob z=>d_ _ z;obtain⟨br,rv,ht,hz⟩:=I4.list hx;have hlen:=rv.length;show wpAny @3 X.A (subscriptTail e (.Slice none none (some (.UnaryOp .USub (.Constant (.int 1) k p3) p4)) p2) (.ref a) (.ref s2.sz)) (EP X pins σ Q) X.xe {s2 with heap:=s2.heap.push {cls:=.type "slice",data:=.fields #[.none,.none,Te]}};refine tail_any (ops:=[.ref a,.ref s2.sz]) ht.isList.typeIs XS.lookup ?_ (by with_unfolding_all rfl);refine wpAny_getItem_list_slice ht.isList (Heap.IsSliceOf.new ..) .none .none ps @8 ?_ (by rw[s_]<;>omega);rw[Cu];exact⟨.ref _,_,I4.laid (t':=s2.toks) (o:=.lst xs.reverse) (λb ob z=>d_ _ z) (m_ _) ⟨by rw[List.length_reverse];exact hz,_,0,aB.rev rv,o_ _ rfl⟩,rfl,q _ (I4.hok.fresh (m_ _))⟩
theorem Nk{k:Nat}(ha:PD X ga l fa):PD X .nw (.Subscript l (.Slice none none (some (.UnaryOp .USub (.Constant (.int 1) k p3) p4)) p2) pos) (bN Fl fa):=PE.imp (Ki (i:=0) (j:=0) ha) λσ H Q az=>by
 obtain⟨env,B,Z,d,R,e,kk⟩:=az;obtain⟨x,h1,h2⟩:=b_.mp e;cases x<;>try cases h2
 rename_i ds;refine⟨env,B,Z,_,R,h1,λv Z1 H1 x1 g1=>?_⟩;obtain⟨a,vs,rfl,q,rr⟩:=(show Gd X.K Z1 H1 H1 .pk (.lst ds) v from g1.pk).lst x1.zh;exact⟨a,vs,rfl,q,λp hp=>kk _ Z1 _ (x1.trans (Ex.newL x1.zh hp)) ⟨p,_,_,rfl,rfl,x1.h.free hp,au,x1.zh.free hp,av.rev rr⟩⟩
end
def insI(x:Int):Yw->Yw
 | []=>[x]
 | y::r=>if x<=y then x::y::r else y::insI x r
def lq:Yw->Yw
 | []=>[]
 | x::r=>insI x (lq r)
theorem insI_perm(x:Int):∀l,(insI x l).Perm (x::l)
 | []=>.refl _
 | y::r=>by
  unfold insI
  split
  .exact .refl _
  .exact((insI_perm x r).cons y).trans (List.Perm.swap x y r)
theorem jj:∀l,(lq l).Perm l
 | []=>.refl _
 | x::r=>(insI_perm x _).trans ((jj r).cons x)
theorem zb(x:Int):∀{l:Yw},l.Pairwise (·<=·)->(insI x l).Pairwise (·<=·)
 | [],_=>by simp[insI]
 | y::r,h=>by
  obtain⟨h1,h2⟩:=Uz.mp h;unfold insI
  split
  .rename_i hx;exact Uz.mpr ⟨λz hz=>by
    rcases p_.mp hz with rfl | hz
    .exact hx
    .exact Int.le_trans hx (h1 z hz),h⟩
  .rename_i hx;refine Uz.mpr ⟨λz hz=>?_,zb x h2⟩;rcases p_.mp ((insI_perm x r).mem_iff.mp hz)with rfl | hz
   .omega
   .exact h1 z hz
theorem sk:∀l,(lq l).Pairwise (·<=·)
 | []=>.nil
 | x::r=>zb x (sk r)
theorem rn:∀{l m:Yw},l.Perm m->l.Pairwise (·<=·)->m.Pairwise (·<=·)->l=m
 | [],m,p,_,_=>(List.Perm.nil_eq p)
 | x::l,[],p,_,_=>absurd p.symm (by intro h;exact absurd (List.Perm.nil_eq h) @8)
 | x::l,y::m,p,h1,h2=>by
  obtain⟨a1,a2⟩:=Uz.mp h1;obtain⟨b1,b2⟩:=Uz.mp h2;have e:x=y:=by
   have hx:x∈y::m:=p.mem_iff.mp g_;have hy:y∈x::l:=p.mem_iff.mpr g_;rcases p_.mp hx with e | hx
   .exact e
   .rcases p_.mp hy with e | hy
    .exact e.symm
    .have:=b1 x hx;have:=a1 y hy;omega
  subst e;rw[rn ((List.perm_cons x).mp p) a2 b2]
theorem GS(p:m.Perm l)(h:m.Pairwise (·<=·)):m=lq l:=rn (p.trans (jj l).symm) h (sk l)
theorem wb(l:Yw):(lq l).length=l.length:=(jj l).length_eq
section
variable {prog:YB}{w:YE}{A:YC}{E:Yh}{s:YA}
theorem DT(ho:s.heap.get? a=some o)(hc:o.cls=.type "list"\/o.cls=.type "tuple")(hd:o.data=.seq vs.toArray n)
    (q:Q vs {s with heap:=(s.heap.push (seqObj "list" #[] 0)).update s.sz (Obj.mapSeq (·++vs.toArray))}) (hz:vs.length<=sizeLine):wpAny @7 A (collect (.ref a)) Q E s:=by
  unfold collect;refine a_ (wpAny_runValue (V4 PyProof.Rows.entry_proto_collect' (show wpAny _ _ (newList [] >>= λz=>again (.builtin "list.__iadd__" ⟨[z,.ref a],[]⟩)) _ _ s from
    a_ (wpAny_newList (e_ ⟨WT _ (by decide +kernel),V4 PyProof.Rows.entry_list_iadd' ?_⟩)))))
  have e1:(s.heap.push (seqObj "list" #[] 0)).get? a=some o:=d_ _ ho;have e2:(s.heap.push (seqObj "list" #[] 0)).get? s.sz=some (seqObj "list" #[] 0):=o_ _ rfl;obtain⟨T,hT,ht⟩:∃T:String,o.cls=.type T/\(Value.type T==Value.type "list"||Value.type T==Value.type "tuple")=true:=by
    rcases hc with h | h
    . exact⟨"list",h,rfl⟩
    . exact⟨"tuple",h,rfl⟩
  show wpAny _ _ (Builtin.List.listExtendWith (.ref s.sz) (.ref a) (.ref s.sz)) _ _ {s with heap:=s.heap.push (seqObj "list" #[] 0)};unfold Builtin.List.listExtendWith;refine a_ (Xx (T:=T) ⟨o,e1,hT⟩ ?_);rw[h_ (by rw[Bool.or_assoc,ht,VA])];refine a_ (listItems_at e1 hd (a_ (listItems_at (xs:=#[]) (n:=0) e2 rfl ?_)));rw[i_ @8];refine a_ (listUpdate_at (xs:=#[]) (n:=0) e2 rfl (e_ ?_) (VT _) (by simp only[Array.size_append,s_,T_];omega));show wpAny @7 A (load s.sz >>= λo=>match o.data with | .seq xs _=>pure xs.toList | _=>unsupported "internal:collect") Q E {s with heap:=(s.heap.push (seqObj "list" #[] 0)).update s.sz (Obj.mapSeq (·++vs.toArray))};refine a_ (wpAny_load (WO e2 _) ?_);show wpAny _ _ (pure ((#[]:Array Yz)++vs.toArray).toList) Q E _;rw[show((#[]:Array Yz)++vs.toArray).toList=vs by simp];exact e_ q
theorem sortedS(ho:s.heap.get? a=some o)(hc:o.cls=.type "list"\/o.cls=.type "tuple")(hd:o.data=.seq vs.toArray n)(hI:IntsAre vs ns)(hz:vs.length<64)
  (q:∀(out:Array Yz)(mF:Yw),IntsAre out.toList mF->mF.Perm ns->mF.Pairwise (·<=·)->Q (.ref (s.sz+1)) {s with heap:=sortedAll s.heap vs out}):wpAny @7 A (call (.builtin "sorted") [.ref a]) Q E s:=by
 refine Calls.call_function_entry PyProof.Rows.kind_sorted plain_sorted entry_sorted (args_sorted1 _) ?_;unfold Builtin.«sorted»;refine a_ (m:=checkCount "sorted" 1 1 _) (e_ (a_ (DT ho hc hd (a_ (wpAny_newList ?_)) (by have:=UI;omega))));have z1:((s.heap.push (seqObj "list" #[] 0)).update s.sz (Obj.mapSeq (·++vs.toArray))).objs.size=s.sz+1:=by rw[Wz,size_push']
 have z2:(((s.heap.push (seqObj "list" #[] 0)).update s.sz (Obj.mapSeq (·++vs.toArray))).push (seqObj "list" vs.toArray 0)).get? (s.sz+1)=some (seqObj "list" vs.toArray 0):=by
  rw[<- z1];exact o_ _ rfl
 show wpAny _ _ _ _ _ {s with heap:=((s.heap.push (seqObj "list" #[] 0)).update s.sz (Obj.mapSeq (·++vs.toArray))).push (seqObj "list" vs.toArray 0)};rw[z1];exact a_ (F_ (UJ slot_list_sort ⟨_,z2,rfl⟩ entry_list_sort (list_sort_tree z2 hI hz λout mF a1 a2 a3=>⟨_,rfl,e_ ⟨_,rfl,q out mF a1 a2 a3⟩⟩) (args_list_sort _)))
end
def kZ:YO->Option Yw
 | []=>some []
 | .int i::r=>(kZ r).bind λbs=>some (i::bs)
 | _=>none
theorem kr:∀{ds:YO}{bs:Yw},kZ ds=some bs->ds=bs.map .int
 | [],bs,h=>by cases h;rfl
 | d::r,bs,h=>by
  cases d<;>try cases h
  obtain⟨cs,h1,h2⟩:=b_.mp h;cases h2;rw[kr h1];rfl
theorem ll:∀(ns:Yw),kZ (ns.map .int)=some ns
 | []=>rfl
 | n::ns=>by show(kZ (ns.map .int)).bind _=_;rw[ll ns];rfl
theorem av.intsV{K:Fg}{H:Hp}:∀{bs:Yw}{vs:YR},av K H (bs.map .int) vs->vs=bs.map .int
 | [],vs,h=>h
 | b::bs,vs,⟨v,r,e,h1,h2⟩=>by subst e;cases(show v=V.int b from h1);rw[av.intsV h2];rfl
theorem aB.ints:∀{bs:Yw}{us:Yo},aB (bs.map V.int) us->IntsAre us bs
 | [],us,h=>by cases h;exact .nil
 | b::bs,us,h=>by
  cases h with
  | cons p q=>obtain⟨t,rfl⟩:=(show ∃t,_=Value.int b t from p);exact .cons b t (aB.ints q)
theorem aB.ofInts:∀{bs:Yw}{us:Yo},IntsAre us bs->aB (bs.map V.int) us
 | [],us,h=>by cases h;exact .nil
 | b::bs,us,h=>by
  cases h with
  | cons n t q=>exact .cons ⟨t,rfl⟩ (aB.ofInts q)
def sortI:D->YQ
 | .lst ds=>(kZ ds).bind λns=>if ns.length<64 then some (.lst ((lq ns).map .int))else none
 | .tup ds=>(kZ ds).bind λns=>if ns.length<64 then some (.lst ((lq ns).map .int))else none
 | _=>none
section
variable {X:Cx}{l r:YI}{fa fb:Fe}{ga gb:Gr}{pos p:Pos}
theorem sP:dG X (.builtin "sorted") (λxs H Q=>∃(a:YH)(ns:Yw),xs=[.ref a]/\(cY X.K H a (ns.map V.int)\/cR X.K H a (ns.map V.int))/\ns.length<64/\∀q,H q=none->Q (.ref q) (upd H q (.lst ((lq ns).map V.int)))):=by
 intro pins s σ H xs us Q I rs h;obtain⟨a,ns,rfl,hq,hl,q⟩:=h;obtain⟨u,rfl,rx⟩:=vals1 rs;cases rx;have fin:∀(br:Yo)(out:Array Yz)(mF:Yw),IntsAre out.toList mF->mF.Perm ns->mF.Pairwise (·<=·)->EP X pins σ Q (.ref (s.sz+1)) {s with heap:=sortedAll s.heap br out}:=λbr out mF a1 a2 a3=>by
  cases GS a2 a3;obtain⟨e,he⟩:=sortedAll_at s.heap br out;refine⟨.ref _,_,I.laid (t':=s.toks) (o:=.lst ((lq ns).map V.int)) (λb o z=>sortedAll_old z) (WX _) ⟨?_,out.toList,e,aB.ofInts a1,by simpa using he⟩,rfl,q _ (I.hok.fresh (WX _))⟩;have:=UI;rw[c_,wb];omega
 rcases hq with hq | hq
 .obtain⟨br,rv,pl,hz⟩:=I.list hq;have hlen:=rv.length;obtain⟨o,ho,hc,n,hd⟩:=pl.isList;exact sortedS ho (.inl hc) hd (aB.ints rv) (by rw[<- hlen,c_];exact hl) (fin br)
 .obtain⟨br,rv,pl,hz⟩:=I.tuple hq;have hlen:=rv.length;obtain⟨o,ho,hc,n,hd⟩:=pl;exact sortedS ho (.inr hc) hd (aB.ints rv) (by rw[<- hlen,c_];exact hl) (fin br)
theorem DC{K:Fg}:iV K .nw sortI (λxs H Q=>∃(a:YH)(ns:Yw),xs=[.ref a]/\(cY K H a (ns.map V.int)\/cR K H a (ns.map V.int))/\ns.length<64/\∀q,H q=none->Q (.ref q) (upd H q (.lst ((lq ns).map V.int)))):=λ{Z H x dx d Q} s h e k=>by
 cases dx<;>try cases e
 .obtain⟨ns,h1,h2⟩:=b_.mp e;obtain⟨hl,rfl⟩:=qe h2;cases kr h1;obtain⟨a,vs,rfl,q,rr⟩:=h.tup s;cases av.intsV rr;exact⟨a,ns,rfl,.inr q,hl,λp hp=>k _ Z _ (Ex.newL s hp) ⟨p,_,_,rfl,rfl,hp,au,s.free hp,av.ints _⟩⟩
 .obtain⟨ns,h1,h2⟩:=b_.mp e;obtain⟨hl,rfl⟩:=qe h2;cases kr h1;obtain⟨a,vs,rfl,q,rr⟩:=h.lst s;cases av.intsV rr;exact⟨a,ns,rfl,.inl q,hl,λp hp=>k _ Z _ (Ex.newL s hp) ⟨p,_,_,rfl,rfl,hp,au,s.free hp,av.ints _⟩⟩
theorem DZ(hm:X.mg "sorted"=none)(ha:PD X ga l fa)(hg:Gl X "sorted":=by rfl)(he:starEach [l] X.env=[(false,eval l X.env)]:=by rfl):PD X .nw (.Call (.Name "sorted" p) [l] [] pos) (bN sortI fa):=
 zO sP DC PyProof.Rows.boot_sorted hm ha @2 @2 hg he
end
structure Src(prog:Program)(w:World)(i l:Addr)(it:Nat->Heap->Prop)(at_:List Value->Heap->Prop):Prop where
 nxt:∀{A:Around}{E:Value->Shared->Prop}{s:Shared}{k:Nat}{xs:List Value}{x:Value}{Q:Value->Shared->Prop},it k s.heap->at_ xs s.heap->xs[k]?=some x->(∀h',it (k+1) h'->Heap.SameBut i s.heap h'->Q x {s with heap:=h'})->
  wpAny @7 A (Builtin.SmallTypes.nextOf (.ref i)) Q E s
 fin:∀{A:Around}{E:Value->Shared->Prop}{s:Shared}{k:Nat}{xs:List Value}{Q:Value->Shared->Prop},A.handled=none->it k s.heap->at_ xs s.heap->xs[k]?=none->
  (∀h' e,Heap.ExtBut i s.heap h'->(∃o,h'.get? e=some o/\o.cls=.type "StopIteration")->E (.ref e) {s with heap:=h'})->wpAny @7 A (Builtin.SmallTypes.nextOf (.ref i)) Q E s
 itx:∀{k:Nat}{h h':Heap},it k h->(∀o,h.get? i=some o->h'.get? i=some o)->it k h'
 atx:∀{xs:List Value}{h h':Heap},at_ xs h->(∀o,h.get? l=some o->h'.get? l=some o)->at_ xs h'
 obj:∀{k:Nat}{h:Heap},it k h->∃o,h.get? i=some o/\∀v,o.data≠.cell v
 lt:∀{xs:List Value}{h:Heap},at_ xs h->∃o,h.get? l=some o
section
variable {prog:YB}{w:YE}
theorem yt(hit:s.heap.IsTupleIter i t k)(ht:s.heap.IsTuple t items)(hx:items[k]?=some x)
  (hQ:∀h',h'.IsTupleIter i t (k+1)->Heap.SameBut i s.heap h'->Q x {s with heap:=h'}):wpAny @7 A (Builtin.SmallTypes.nextOf (.ref i)) Q E s:=by
 show 2;simp only[Vc,hx];refine a_ (We ho hd @8 (e_ ⟨x,rfl,e_ (hQ _ ?_ (V9 ..))⟩));exact⟨_,UZ _ ho (VF (U6 hd _)),(Obj.cls_mapFields ..).trans hc,by rw[U6 hd];simp[rawInt]⟩
theorem AU(hh:A.handled=none)(hit:s.heap.IsTupleIter i t k)(ht:s.heap.IsTuple t items)(hx:items[k]?=none)
  (hE:∀h' e,Heap.ExtBut i s.heap h'->(∃o,h'.get? e=some o/\o.cls=.type "StopIteration")->E (.ref e) {s with heap:=h'}):wpAny @7 A (Builtin.SmallTypes.nextOf (.ref i)) Q E s:=by
 show 2;simp only[Vc,hx];refine a_ (WV (a_ (We ho hd @8 ?_)));refine(show wpAny _ _ (newExc (.type "StopIteration") [] >>= _) _ _ _ from a_ ?_);simp only[newExc,newTuple];refine a_ (Vd (a_ (m:=firstArgMember _ _) (XW (a:=Value.none) (by first | rfl | (simp only[firstArgMember];rfl)) ?_)) (by size_fits));refine Vd ?_ (by size_fits);simp only[raiseNew];refine a_ (wpAny_handled ?_)
 first | rw[show A.in1.handled=none from hh] | rw[hh]
 exact a_ (e_ (wpAny_throw (hE _ _ (((V9 ..).extBut.push _).push _) ⟨_,o_ _ rfl,rfl⟩)))
theorem Q6(i l:YH):Src prog w i l (λk h=>h.IsTupleIter i l k) (λxs h=>h.IsTuple l xs.toArray) where
 nxt:=λh1 h2 h3 h4=>yt h1 h2 (by simpa using h3) h4
 fin:=λhh h1 h2 h3 h4=>AU hh h1 h2 (by simpa using h3) h4
 itx:=λh1 h2=>h1.at h2
 atx:=λ⟨o,h1,h2⟩ h3=>⟨o,h3 o h1,h2⟩
 obj:=λ⟨o,e,c,d⟩=>⟨o,e,λv z=>by rw[d]at z;cases z⟩
 lt:=λ⟨o,h1,_⟩=>⟨o,h1⟩
theorem KR(i l:YH):Src prog w i l (λk h=>h.IsListIter i l k) (λxs h=>h.IsList l xs.toArray) where
 nxt:=λh1 h2 h3 h4=>wpAny_nextOf_list_item h1 h2 (by simpa using h3) h4
 fin:=λhh h1 h2 h3 h4=>wpAny_nextOf_list_end hh h1 h2 (by simpa using h3) h4
 itx:=λh1 h2=>h1.at h2
 atx:=λh1 h2=>h1.at h2
 obj:=λ⟨o,e,c,d⟩=>⟨o,e,λv z=>by rw[d]at z;cases z⟩
 lt:=λ⟨o,h1,_⟩=>⟨o,h1⟩
variable {A:YC}{E:Yh}{s:YA}{z TI TO i1 i2 l1 l2:YH}{k1 k2:Nat}{xs ys:Yo}{x y a b:Yz}{mG it2:Nat->YD->Prop}{ua at2:Yo->YD->Prop}
theorem jo(hs:Heap.ExtBut e h h')(n:c≠e):∀o,h.get? c=some o->h'.get? c=some o:=λo q=>hs c o n q
theorem BY{Q:Yh}(S1:Src prog w i1 l1 mG ua)(S2:Src prog w i2 l2 it2 at2)(D:ZipApart z TI TO i1 i2 l1 l2)(hz:IsZip s.heap z TI TO .none)(mS:IsPair s.heap TI (.ref i1) (.ref i2))(Al:IsPair s.heap TO a b)
  (h1:mG k1 s.heap) (h2:it2 k2 s.heap) (a1:ua xs s.heap) (a2:at2 ys s.heap) (hx:xs[k1]?=some x) (hy:ys[k2]?=some y)
  (hQ:∀(g h':YD),IsZip h' z TI TO (rawInt s.heap.objs.size)->IsPair h' TO x y->mG (k1+1) h'->it2 (k2+1) h'->g.objs.size=s.heap.objs.size->(∀c o,c≠z->c≠TO->c≠i1->c≠i2->s.heap.get? c=some o->g.get? c=some o)->
   (∀c o,c≠z->(g.push {cls:=.type "tuple",data:=.seq #[x,y]}).get? c=some o->h'.get? c=some o)->h'.objs.size=s.heap.objs.size+1->Q (.ref s.heap.objs.size) {s with heap:=h'}) :
  wpAny @7 A (Builtin.«zip.__next__» ⟨[.ref z],[]⟩) (λf s'=>∃v,f=.done (.ret v)/\Q v s') E s:=by
 show 1;refine a_ (K_ hz rfl (x:=.none) rfl (e_ ?_));simp only[Vy];refine a_ (WV (a_ (K_ hz rfl (x:=.ref TO) rfl (a_ (P_ hz @8 λg1 hz1 s1=>?_)))))
 replace hz1:IsZip g1 z TI TO .ellipsis:=hz1
 refine a_ ?_;simp only[List.zipIdx_cons,List.zipIdx_nil,WN,XD];refine a_ (a_ (WI (show wpAny _ _ (Builtin.SmallTypes.nextOf (.ref i1) >>= _) _ _ _ from ?_)));refine a_ (S1.nxt (S1.itx h1 (jo s1.extBut D.i1z)) (S1.atx a1 (jo s1.extBut D.l1z)) hx λg2 it1' s2=>e_ ?_);have t2:IsPair g2 TO a b:=s2.extBut _ _ D.TOi1 (s1.extBut _ _ D.TOz Al);refine a_ (Vh t2 rfl (a_ (Xs t2 λg3 t3 s3=>a_ (WY (e_ ?_)))))
 replace t3:IsPair g3 TO x b:=t3
 refine a_ (a_ (WI (show wpAny _ _ (Builtin.SmallTypes.nextOf (.ref i2) >>= _) _ _ _ from ?_)));refine a_ (S2.nxt (S2.itx (S2.itx (S2.itx h2 (jo s1.extBut D.i2z)) (jo s2.extBut D.i12.symm)) (jo s3.extBut D.TOi2.symm)) (S2.atx (S2.atx (S2.atx a2 (jo s1.extBut D.l2z)) (jo s2.extBut D.l2i1)) (jo s3.extBut D.l2TO)) hy λg4 it2' s4=>e_ ?_);have t4:IsPair g4 TO x b:=s4.extBut _ _ D.TOi2 t3;refine a_ (Vh t4 rfl (a_ (Xs t4 λg5 t5 s5=>a_ (WY (e_ (e_ ?_))))))
 replace t5:IsPair g5 TO x y:=t5
 refine a_ (Vh t5 rfl (a_ (XE ?_)));have sz:g5.objs.size=s.heap.objs.size:=by rw[s5.1,s4.1,s3.1,s2.1,s1.1]
 have z5:IsZip g5 z TI TO .ellipsis:=s5.extBut _ _ D.TOz.symm (s4.extBut _ _ D.i2z.symm (s3.extBut _ _ D.TOz.symm (s2.extBut _ _ D.i1z.symm hz1)));have k5:∀c o,c≠z->c≠TO->c≠i1->c≠i2->s.heap.get? c=some o->g5.get? c=some o:=λc o c1 c2 c3 c4 e=>s5.extBut _ _ c2 (s4.extBut _ _ c4 (s3.extBut _ _ c2 (s2.extBut _ _ c3 (s1.extBut _ _ c1 e))));have w1:mG (k1+1) g5:=S1.itx (S1.itx (S1.itx it1' (jo s3.extBut D.TOi1.symm)) (jo s4.extBut D.i12)) (jo s5.extBut D.TOi1.symm);have w2:it2 (k2+1) g5:=S2.itx it2' (jo s5.extBut D.TOi2.symm);have Tf:z<g5.objs.size:=n_ z5;refine(show wpAny _ _ (Builtin.SmallTypes.ownedTupleHandOut (.ref z) (.ref g5.objs.size) >>= _) _ _ _ from a_ ?_);unfold Builtin.SmallTypes.ownedTupleHandOut;have z6:IsZip (g5.push {cls:=.type "tuple",data:=.seq #[x,y]}) z TI TO .ellipsis:=d_ _ z5;refine a_ (P_ z6 @8 λg7 z7 s7=>?_)
 replace z7:IsZip g7 z TI TO (rawInt g5.objs.size):=z7
 refine P_ z7 @8 λg8 z8 s8=>?_
 replace z8:IsZip g8 z TI TO (rawInt g5.objs.size):=z8
 have up:∀c o,c≠z->g5.get? c=some o->g8.get? c=some o:=λc o c1 e=>s8.extBut _ _ c1 (s7.extBut _ _ c1 (d_ _ e));have t8:IsPair g8 g5.objs.size x y:=s8.extBut _ _ (UC Tf) (s7.extBut _ _ (UC Tf) (o_ _ rfl));have e8:g8.objs.size=g5.objs.size+1:=by rw[s8.1,s7.1,UP]
 rw[sz]at z8 t8 e8;refine e_ ⟨_,rfl,(show Q (.ref g5.objs.size) _ from ?_)⟩;rw[sz];exact hQ g5 g8 z8 (up _ _ D.TOz t5) (S1.itx w1 λo e=>up _ o D.i1z e) (S2.itx w2 λo e=>up _ o D.i2z e) sz k5 (λc o c1 e=>s8.extBut _ _ c1 (s7.extBut _ _ c1 e)) e8
theorem Ej(hh:A.handled=none)(S1:Src prog w i1 l1 mG ua)(S2:Src prog w i2 l2 it2 at2)(D:ZipApart z TI TO i1 i2 l1 l2)(hz:IsZip s.heap z TI TO .none)(mS:IsPair s.heap TI (.ref i1) (.ref i2))(Al:IsPair s.heap TO a b)
  (h1:mG k1 s.heap) (h2:it2 k2 s.heap) (a1:ua xs s.heap) (a2:at2 ys s.heap) (wQ:xs[k1]?=none\/ys[k2]?=none)
  (hE:∀h' e,(∀c o,c≠z->c≠TO->c≠i1->c≠i2->s.heap.get? c=some o->h'.get? c=some o)->(∃o,h'.get? e=some o/\o.cls=.type "StopIteration")->E (.ref e) {s with heap:=h'}) :
  wpAny @7 A (Builtin.«zip.__next__» ⟨[.ref z],[]⟩) Q E s:=by
 show 1;refine a_ (K_ hz rfl (x:=.none) rfl (e_ ?_));simp only[Vy];refine a_ (WV (a_ (K_ hz rfl (x:=.ref TO) rfl (a_ (P_ hz @8 λg1 hz1 s1=>?_)))))
 replace hz1:IsZip g1 z TI TO .ellipsis:=hz1
 refine a_ ?_;simp only[List.zipIdx_cons,List.zipIdx_nil,WN,XD];refine a_ (a_ (WI (show wpAny _ _ (Builtin.SmallTypes.nextOf (.ref i1) >>= _) _ _ _ from ?_)));cases hx:xs[k1]? with
 | none=>
  refine a_ (S1.fin hh (S1.itx h1 (jo s1.extBut D.i1z)) (S1.atx a1 (jo s1.extBut D.l1z)) hx λg2 e s2 he=>?_);obtain⟨oe,LZ,OX⟩:=he;have z2:IsZip g2 z TI TO .ellipsis:=s2 _ _ D.i1z.symm hz1;have Ru:e≠z:=λq=>by subst q;rw[z2]at LZ;cases LZ;simp at OX
  exact P_ z2 @8 λg3 _ s3=>hE g3 e (λc o c1 _ c3 _ q=>s3.extBut _ _ c1 (s2 _ _ c3 (s1.extBut _ _ c1 q))) ⟨oe,s3.extBut _ _ Ru LZ,OX⟩
 | some x=>
  have hy:ys[k2]?=none:=by
   rcases wQ with h | h
   .rw[hx]at h;cases h
   .exact h
  refine a_ (S1.nxt (S1.itx h1 (jo s1.extBut D.i1z)) (S1.atx a1 (jo s1.extBut D.l1z)) hx λg2 it1' s2=>e_ ?_);have t2:IsPair g2 TO a b:=s2.extBut _ _ D.TOi1 (s1.extBut _ _ D.TOz Al);refine a_ (Vh t2 rfl (a_ (Xs t2 λg3 t3 s3=>a_ (WY (e_ ?_)))));refine a_ (a_ (WI (show wpAny _ _ (Builtin.SmallTypes.nextOf (.ref i2) >>= _) _ _ _ from ?_)));refine a_ (S2.fin hh (S2.itx (S2.itx (S2.itx h2 (jo s1.extBut D.i2z)) (jo s2.extBut D.i12.symm)) (jo s3.extBut D.TOi2.symm)) (S2.atx (S2.atx (S2.atx a2 (jo s1.extBut D.l2z)) (jo s2.extBut D.l2i1)) (jo s3.extBut D.l2TO)) hy λg4 e s4 he=>?_);obtain⟨oe,LZ,OX⟩:=he;have z4:IsZip g4 z TI TO .ellipsis:=s4 _ _ D.i2z.symm (s3.extBut _ _ D.TOz.symm (s2.extBut _ _ D.i1z.symm hz1));have Ru:e≠z:=λq=>by subst q;rw[z4]at LZ;cases LZ;simp at OX
  exact P_ z4 @8 λg5 _ s5=>hE g5 e (λc o c1 c2 c3 c4 q=>s5.extBut _ _ c1 (s4 _ _ c4 (s3.extBut _ _ c2 (s2.extBut _ _ c3 (s1.extBut _ _ c1 q))))) ⟨oe,s5.extBut _ _ Ru LZ,OX⟩
theorem BQ(S1:Src prog w i1 l1 mG ua)(S2:Src prog w i2 l2 it2 at2)(D:ZipApart z TI TO i1 i2 l1 l2)(hz:IsZip s.heap z TI TO .none)(mS:IsPair s.heap TI (.ref i1) (.ref i2))(Al:IsPair s.heap TO a b)
  (h1:mG k1 s.heap) (h2:it2 k2 s.heap) (a1:ua xs s.heap) (a2:at2 ys s.heap) (hx:xs[k1]?=some x) (hy:ys[k2]?=some y)
  (hQ:∀(g h':YD),IsZip h' z TI TO (rawInt s.heap.objs.size)->IsPair h' TO x y->mG (k1+1) h'->it2 (k2+1) h'->g.objs.size=s.heap.objs.size->(∀c o,c≠z->c≠TO->c≠i1->c≠i2->s.heap.get? c=some o->g.get? c=some o)->
   (∀c o,c≠z->(g.push {cls:=.type "tuple",data:=.seq #[x,y]}).get? c=some o->h'.get? c=some o)->h'.objs.size=s.heap.objs.size+1->Q (some (.ref s.heap.objs.size)) {s with heap:=h'}):wpAny @7 A (pyNext (.ref z)) Q E s:=by
 have hT:s.TypeIs (.ref z) "zip":=⟨_,hz,rfl⟩;unfold pyNext;exact a_ (VV (UM (name:="__next__") hT VO (UJ VO hT Xl (BY S1 S2 D hz mS Al h1 h2 a1 a2 hx hy λg h' b1 b2 b3 b4 b5 b6 b7 b8=>e_ (hQ g h' b1 b2 b3 b4 b5 b6 b7 b8)) (W9 _))))
theorem Bk(hh:A.handled=none)(S1:Src prog w i1 l1 mG ua)(S2:Src prog w i2 l2 it2 at2)(D:ZipApart z TI TO i1 i2 l1 l2)(hz:IsZip s.heap z TI TO .none)(mS:IsPair s.heap TI (.ref i1) (.ref i2))(Al:IsPair s.heap TO a b)
  (h1:mG k1 s.heap) (h2:it2 k2 s.heap) (a1:ua xs s.heap) (a2:at2 ys s.heap) (wQ:xs[k1]?=none\/ys[k2]?=none)
  (hQ:∀h',(∀c o,c≠z->c≠TO->c≠i1->c≠i2->s.heap.get? c=some o->h'.get? c=some o)->Q none {s with heap:=h'}):wpAny @7 A (pyNext (.ref z)) Q E s:=by
 have hT:s.TypeIs (.ref z) "zip":=⟨_,hz,rfl⟩;unfold pyNext;refine a_ (VV (UM (name:="__next__") hT VO (UJ VO hT Xl (Ej hh S1 S2 D hz mS Al h1 h2 a1 a2 wQ λh' e hk he=>?_) (W9 _))));obtain⟨o,ho,hc⟩:=he;exact a_ (Xm (T:="StopIteration") (b:=true) ⟨o,ho,hc⟩ XF (e_ (hQ _ hk)))
end
section
variable {X:Cx}{pins:Yi}{σ:L2.St}{H:Hp}{s:YA}{h':YD}
theorem jd{t':Nat}{ch:Ys}(I:L2.Inv X pins σ H s)(hf:∀b∈ch,fS X pins H b)(k:∀b o,b∉ch->s.heap.get? b=some o->h'.get? b=some o):L2.Inv X pins σ H {s with heap:=h',toks:=t'}:=by
 have OB:∀b u,H b=some u->b∉ch:=λb u e z=>by rw[(hf b z).1]at e;cases e
 refine I.step (g':=s.gens) (d':=s.drawn) (ch:=ch) (λb hb=>?_) (λb o _ _ hc e _=>k b o hc e) (λb o _ _ hc e _=>⟨o.slots,k b o hc e⟩) (λ_ _ _ _ n=>n)
  (λb o hc e=>⟨o,k b o hc e⟩) (λ_ _ e=>e) (λ_ _ _ e=>e) (λb ps e=>⟨#[],by rw[e];simp⟩) (λm hm=>?_) (λb u e=>?_) I.bare
 .obtain⟨f0,f1,f2,f3,f4,f5⟩:=hf b hb;exact⟨f3,f1,f4,f5⟩
 .obtain⟨o,es,ep,ho,r⟩:=hm;exact⟨o,es,ep,k _ o (λz=>(hf _ z).2.1 rfl) ho,r⟩
 .refine(I.hok b u e).stay (λc v hc q=>k c v ?_ q) (λ_ q=>q) λ_ _ q=>q;rcases hc with z | z
  .rw[z];exact OB b u e
  .exact OB c _ z
end
structure Rv(K:Fg)(l:Addr)(S:Hp->List V->Prop)(at_:List Value->Heap->Prop):Prop where
 get:∀{X:Cx}{pins:List (Addr×Obj)}{σ:L2.St}{H:Hp}{s:Shared}{xs:List V},X.K=K->L2.Inv X pins σ H s->S H xs->∃br,aB xs br/\at_ br s.heap
 inj:∀{X:Cx}{pins:List (Addr×Obj)}{σ:L2.St}{H:Hp}{s:Shared}{xs ys:List V},X.K=K->L2.Inv X pins σ H s->S H xs->S H ys->xs=ys
theorem QO{K:Fg}(l:YH):Rv K l (λH xs=>cR K H l xs) (λxs h=>h.IsTuple l xs.toArray):=
 ⟨λe I h=>by subst e;obtain⟨br,rv,p,hz⟩:=I.tuple h;exact⟨br,rv,p⟩,λe I h1 h2=>by subst e;exact I.tuple_inj h1 h2⟩
theorem QG{K:Fg}(l:YH):Rv K l (λH xs=>cY K H l xs) (λxs h=>h.IsList l xs.toArray):=
 ⟨λe I h=>by subst e;obtain⟨br,rv,p,hz⟩:=I.list h;exact⟨br,rv,p.isList⟩,λe I h1 h2=>by subst e;exact I.list_inj h1 h2⟩
abbrev xI(c:String)(h:YD)(l:YH):YD:=h.push {cls:=.type c,data:=.fields #[.ref l,.int 0 0]}
abbrev Pl(c d:String)(h:YD)(l1 l2:YH):YD:=(xI d (xI c h l1) l2).push {cls:=.type "tuple",data:=.seq #[.ref h.objs.size,.ref (xI c h l1).objs.size]}
abbrev NQ(c d:String)(h:YD)(l1 l2:YH):YD:=(Pl c d h l1 l2).push {cls:=.type "tuple",data:=.seq #[.none,.none]}
abbrev zF(c d:String)(h:YD)(l1 l2:YH):YD:=(NQ c d h l1 l2).push {cls:=.type "zip",data:=.fields #[.none,.bool false,.bool false,.ref (xI d (xI c h l1) l2).objs.size,.ref (Pl c d h l1 l2).objs.size]}
theorem DE(l1 l2:YH)(xs ys:Array Yz):Meets (Builtin.«zip.__new__» ⟨[.type "zip",.ref l1,.ref l2],[]⟩) (λ_ R s=>s.heap.IsList l1 xs/\s.heap.IsList l2 ys/\
   R (.ok (.ret (.ref (NQ "list_iterator" "list_iterator" s.heap l1 l2).objs.size))) {s with heap:=zF "list_iterator" "list_iterator" s.heap l1 l2}):=
 .of_wp λprog w A R s h=>by
  obtain⟨hp,g,d,tk,os⟩:=s;obtain⟨m1,m2,h⟩:=h;have hsub:=sub_zip;have t1:Heap.IsList (Shared.heap ⟨hp,g,d,tk,os⟩) l1 xs:=m1;have t2:Heap.IsList (Shared.heap ⟨hp.push {cls:=.type "list_iterator",data:=.fields #[.ref l1,.int 0 0]},g,d,tk,os⟩) l2 ys:=Heap.IsList.push m2 _
  wp_walk using Vz t1,Vz t2
  exact⟨_,rfl,h⟩
theorem LI(c d:String)(h:YD)(l1 l2:YH):(NQ c d h l1 l2).objs.size=h.objs.size+4/\IsZip (zF c d h l1 l2) (h.objs.size+4) (h.objs.size+2) (h.objs.size+3) .none/\IsPair (zF c d h l1 l2) (h.objs.size+2) (.ref h.objs.size) (.ref (h.objs.size+1))/\
  IsPair (zF c d h l1 l2) (h.objs.size+3) .none .none/\(zF c d h l1 l2).get? h.objs.size=some {cls:=.type c,data:=.fields #[.ref l1,.int 0 0]}/\(zF c d h l1 l2).get? (h.objs.size+1)=some {cls:=.type d,data:=.fields #[.ref l2,.int 0 0]}/\
  (zF c d h l1 l2).objs.size=h.objs.size+5/\∀b o,h.get? b=some o->(zF c d h l1 l2).get? b=some o:=by
 have z1:(xI c h l1).objs.size=h.objs.size+1:=UP ..;have z2:(xI d (xI c h l1) l2).objs.size=h.objs.size+2:=by rw[UP,z1]
 have z3:(Pl c d h l1 l2).objs.size=h.objs.size+3:=by rw[UP,z2]
 have z4:(NQ c d h l1 l2).objs.size=h.objs.size+4:=by rw[UP,z3]
 have z5:(zF c d h l1 l2).objs.size=h.objs.size+5:=by rw[UP,z4]
 have g5:(zF c d h l1 l2).get? (NQ c d h l1 l2).objs.size=some _:=o_ _ rfl;have g4:(zF c d h l1 l2).get? (Pl c d h l1 l2).objs.size=some _:=d_ _ (o_ _ rfl);have g3:(zF c d h l1 l2).get? (xI d (xI c h l1) l2).objs.size=some _:=d_ _ (d_ _ (o_ _ rfl));have g2:(zF c d h l1 l2).get? (xI c h l1).objs.size=some _:=d_ _ (d_ _ (d_ _ (o_ _ rfl)));have g1:(zF c d h l1 l2).get? h.objs.size=some _:=d_ _ (d_ _ (d_ _ (d_ _ (o_ _ rfl))));rw[z4,z3,z2]at g5;rw[z3]at g4;rw[z2,z1]at g3;rw[z1]at g2;exact⟨z4,g5,g3,g4,g1,g2,z5,λb o e=>d_ _ (d_ _ (d_ _ (d_ _ (d_ _ e))))⟩
theorem KM(n:Nat)(h1:l1<n)(h2:l2<n):ZipApart (n+4) (n+2) (n+3) n (n+1) l1 l2:=by
 have f:∀{l:YH}(k:Nat),l<n->l≠n+k:=λk h=>A_ (q_ h (UR n k));have g:∀{i j:Nat},i≠j->n+i≠n+j:=λh e=>h (Nat.add_left_cancel e);exact⟨g @2,g @2,g (i:=0) @2,g @2,g @2,g (j:=0) @2,g @2,g (j:=0) @2,g @2,g (i:=0) @2,f 4 h1,f 3 h1,f 0 h1,f 1 h1,f 4 h2,f 3 h2,f 0 h2,f 1 h2⟩
section
variable {X:Cx}{es:Yt}{kk:Nat}{tp:Pos}
theorem Bq:bootBuiltins "zip"=some (.type "zip"):=by decide +kernel
def pairs:YO->YO->YO
 | x::xs,y::ys=>.tup [x,y]::pairs xs ys
 | _,_=>[]
theorem pairs_len:∀(xs ys:YO),(pairs xs ys).length=min xs.length ys.length
 | [],ys=>by simp[pairs]
 | x::xs,[]=>by simp[pairs]
 | x::xs,y::ys=>by simp[pairs,pairs_len xs ys]
theorem rA:∀{xs ys:YO}{i:Nat}{x y:D},xs[i]?=some x->ys[i]?=some y->(pairs xs ys)[i]?=some (.tup [x,y])
 | [],ys,i,x,y,h,_=>by simp at h
 | x::xs,[],i,_,y,_,h=>by simp at h
 | x::xs,y::ys,0,_,_,h1,h2=>by cases h1;cases h2;rfl
 | x::xs,y::ys,i+1,u,v,h1,h2=>by
  show(pairs xs ys)[i]?=_;exact rA (x:=u) (y:=v) (by simpa using h1) (by simpa using h2)
end
end Mi
namespace Mi
open PySem L2
theorem IR(h1:f env=some (.bl p))(h2:p=true->g env=some (.bl q)):ka f g env=some (.bl (p&&q)):=by
 unfold ka;rw[h1];cases p with
 | true=>exact h2 rfl
 | false=>rfl
theorem Lr(h1:f env=some (.bl p))(h2:p=false->g env=some (.bl q)):J2 f g env=some (.bl (p||q)):=by
 unfold J2;rw[h1];cases p with
 | false=>exact h2 rfl
 | true=>rfl
theorem r8(h1:f env=some p)(h2:p=true->g env=some q):qp f g env=some (p&&q):=by
 unfold qp;rw[h1];cases p with
 | true=>exact h2 rfl
 | false=>rfl
theorem FD(h1:f env=some p)(h2:p=false->g env=some q):Ek f g env=some (p||q):=by
 unfold Ek;rw[h1];cases p with
 | false=>exact h2 rfl
 | true=>rfl
theorem Ky(hx:fa env=some x)(hy:fb env=some y)(hw:fc env=some w)(h1:b x y=some (.bl p))(h2:b' y w=some (.bl q)):KL b b' fa fb fc env=some (.bl (p&&q)):=by
 unfold KL;rw[hx];show(fb env).bind _=_;rw[hy];show(b x y).bind _=_;rw[h1];cases p with
 | true=>show(fc env).bind _=_;rw[hw];exact h2
 | false=>rfl
theorem a9(h1:fi env=some ds)(h2:dv is (dJ n caps env)=true)(h3:fq t c k (dJ n caps env) ds=some xs)(hl:xs.length<=16000000):aM fi is t c k n caps env=some (.lst xs):=by
 unfold aM;rw[h1];show(if dv is (dJ n caps env)=true then _ else _)=_;rw[h_ h2,h3];show(if xs.length<=16000000 then _ else _)=_;rw[h_ hl]
theorem w8(p:D->Bool)(g:D->D):∀(ds:YO),(∀d∈ds,∃e1,t d env=some e1/\c e1=some (p d)/\(p d=true->k e1=some [g d]))->fq t c k env ds=some ((ds.filter p).map g)
 | [],_=>rfl
 | d::ds,h=>by
  obtain⟨e1,h1,h2,h3⟩:=h d g_;have ih:=w8 p g ds λx hx=>h x (f_ _ hx);unfold fq;rw[h1];show(c e1).bind _=_;rw[h2];cases hp:p d with
  | true=>
   show(if true=true then k e1 else some []).bind _=_;rw[h_ rfl,h3 hp];show(fq t c k env ds).bind _=_;rw[ih,H_,h_ hp];rfl
  | false=>
   simp only[Vt,D_,UU,ih,U0,H_,hp]
theorem dk(h:f env=some d):aF f env=some [d]:=by unfold aF;rw[h];rfl
theorem iG(I:YO->En->Prop)(g:D->YO)(B M:Nat):∀(ds:YO)(acc:YO)(env:En),I acc env->acc.length+B*ds.length<=M->(∀d∈ds,(g d).length<=B/\∀acc e,I acc e->acc.length+B<=M->∃e1,(t d e).bind body=some (.nx e1)/\I (acc++g d) e1)->
  ∃e2,cK t body ds env=some (.nx e2)/\I (acc++ds.flatMap g) e2
 | [],acc,env,h,_,_=>⟨env,rfl,by simpa using h⟩
 | d::ds,acc,env,h,hl,hb=>by
  obtain⟨b1,b2⟩:=hb d g_;rw[v_,Ya]at hl;obtain⟨e1,h1,h2⟩:=b2 acc env h @1;obtain⟨e2,h3,h4⟩:=iG I g B M ds (acc++g d) e1 h2 (by rw[u_];omega) λd' hd=>hb d' (f_ _ hd);refine⟨e2,?_,by rw[UX,<- VM];exact h4⟩;obtain⟨e0,h5,h6⟩:=b_.mp h1;show(t d env).bind (λe1=>(body e1).bind _)=_;rw[h5];show(body e0).bind _=_;rw[h6];exact h3
theorem wj{g:D->YO}{B:Nat}:∀(ds:YO),(∀d∈ds,(g d).length<=B)->(ds.flatMap g).length<=B*ds.length
 | [],_=>by simp
 | d::ds,h=>by
  rw[UX,u_,v_,Ya];have:=h d g_;have:=wj ds λx hx=>h x (f_ _ hx);omega
theorem gT:d∈aR 0 n↔∃i:Nat,i<n/\d=.int i:=by
 unfold aR;simp only[t_,UV];constructor
 .rintro⟨i,h,rfl⟩;exact⟨i,h,by simp⟩
 .rintro⟨i,h,rfl⟩;exact⟨i,h,by simp⟩
theorem eG(n:Nat):(aR 0 n).length=n:=by simp[aR]
theorem sg:∀{ds:YO},(∀d∈ds,dH d<=n)->gY ds<=n
 | [],_=>by unfold gY;omega
 | d::ds,h=>by
  unfold gY;have:=h d g_;have:=sg λx hx=>h x (f_ _ hx);omega
theorem mY(h:∀d∈ds,dH d<=n):dH (.tup ds)<=n+1:=by unfold dH;have:=sg h;omega
theorem tE(h:∀d∈ds,dH d<=n):dH (.lst ds)<=n+1:=by unfold dH;have:=sg h;omega
theorem fE(i:Int):dH (.int i)=0:=by unfold dH;rfl
theorem kj(x:Str):dH (.str x)=0:=by unfold dH;rfl
theorem Lf(b:Bool):dH (.bl b)=0:=by unfold dH;rfl
theorem Q3(h1:f env=some d)(h2:g env=some (.lst es))(h3:dH d<=60)(hb:inD d es=b)(h4:(pl d&&gf es)=true:=by rfl):ar (j7 false) f g env=some (.bl b):=by
 rw[aU h1 h2];show(if dH d<=60/\(pl d&&gf es)=true then _ else _)=_;rw[h_ ⟨h3,h4⟩,<- hb];rfl
theorem N4(h1:f env=some d)(h2:g env=some (.lst es))(h3:dH d<=60)(hb:inD d es=b)(h4:(pl d&&gf es)=true:=by rfl):ar (j7 true) f g env=some (.bl !b):=by
 rw[aU h1 h2];show(if dH d<=60/\(pl d&&gf es)=true then _ else _)=_;rw[h_ ⟨h3,h4⟩,<- hb];rfl
theorem Ko(h1:f env=some d)(h2:g env=some (.tup es))(h3:dH d<=60)(hb:inD d es=b)(h4:(pl d&&gf es)=true:=by rfl):ar (j7 true) f g env=some (.bl !b):=by
 rw[aU h1 h2];show(if dH d<=60/\(pl d&&gf es)=true then _ else _)=_;rw[h_ ⟨h3,h4⟩,<- hb];rfl
theorem G0(h1:f env=some d)(h2:g env=some e)(h3:gy d e=true)(hb:g9 d e=b):ar eJ f g env=some (.bl b):=by
 rw[aU h1 h2];unfold eJ;rw[h_ h3,hb]
theorem Kt(h1:f env=some d)(h2:g env=some e)(h3:gy d e=true)(hb:g9 d e=b):ar ud f g env=some (.bl !b):=by
 rw[aU h1 h2];unfold ud;rw[h_ h3,hb]
theorem Ik(h:dH d<=60)(h2:(pl d&&pl e)=true):gy d e=true:=by unfold gy;rw[h2,y_ h];rfl
theorem JP(h:dH e<=60)(h2:(pl d&&pl e)=true):gy d e=true:=by unfold gy;rw[h2,y_ h,VA];rfl
theorem Ag(xs:YO):g9 (.lst xs) (.lst [])=xs.isEmpty:=by
 cases xs<;>(unfold g9;rfl)
theorem kf(h:fs env=some ds):bj fs env=some (.tup ds):=by unfold bj;rw[h];rfl
theorem Jc(h:fs env=some ds):bO fs env=some (.lst ds):=by unfold bO;rw[h];rfl
theorem MZ(h:t env=some b)(h1:b=true->f env=some d)(h2:b=false->g env=some d):iteFn t f g env=some d:=by
 unfold iteFn;rw[h];cases b with
 | true=>exact h1 rfl
 | false=>exact h2 rfl
theorem Ff{α:Type}{xs:List α}{i:Int}(h0:0<=i)(h1:i<xs.length):∃x,L2.atI xs i=some x/\x∈xs:=by
 obtain⟨n,rfl⟩:=Vf h0;have hn:n<xs.length:=by omega
 exact⟨xs[n],d7 (l_ hn),Wa hn⟩
theorem E2(h:f env=some (.lst ds)):bN lZ f env=some (.tup ds):=by unfold bN;rw[h];rfl
theorem GP(h:f env=some (.lst ds)):bN zL f env=some (.lst ds):=by unfold bN;rw[h];rfl
theorem rQ(h:f env=some (.lst xs))(h2:g env=some (.lst ys))(hl:xs.length+ys.length<=16000000):ar kS f g env=some (.lst (xs++ys)):=by
 rw[aU h h2];show(if xs.length+ys.length<=16000000 then _ else _)=_;rw[h_ hl]
theorem wG:∀(bs:List Bool),Bw (bs.map .bl)=some bs
 | []=>rfl
 | b::bs=>by show(Bw (bs.map .bl)).bind _=_;rw[wG bs];rfl
theorem M6{f:Fe}{env:En}{bs:List Bool}(h:f env=some (.lst (bs.map .bl))):bN G6 f env=some (.bl (bs.all id)):=by
 rw[o4 h];show(Bw (bs.map .bl)).bind _=_;rw[wG];rfl
theorem gL(h:f env=some (.lst ds)):setO i f env=some (.nx (env.set i (.O (.L ds)))):=by unfold setO;rw[h];rfl
end Mi
namespace Mi
theorem DM(h1:f env=some (.bl false)):ka f g env=some (.bl false):=by unfold ka;rw[h1];rfl
theorem EK(h1:f env=some (.bl true)):ka f g env=g env:=by unfold ka;rw[h1];rfl
theorem fu{t:Ft}{d:D}{e e0:En}{b:Fs}{o:Out}(h:t d e=some e0)(h2:b e0=some o):(t d e).bind b=some o:=by rw[h];exact h2
theorem fF(g:D->D)(ds:YO)(h:∀d∈ds,∃e1,t d env=some e1/\k e1=some [g d]):fq t YX k env ds=some (ds.map g):=by
 have:=w8 (t:=t) (c:=λ_=>some true) (k:=k) (env:=env) (λ_=>true) g ds λd hd=>by
  obtain⟨e1,h1,h2⟩:=h d hd;exact⟨e1,h1,rfl,λ_=>h2⟩
 rwa [List.filter_eq_self.mpr (λ_ _=>rfl)]at this
theorem zp(h:fe env=some d)(h1:env[i]?=some (.O (.L ds)))(h2:fk env=some (.int j))(h3:L2.Bo ds.length j=some n):vq i fk fe env=some (.nx (env.set i (.O (.L (ds.set n d))))):=by
 unfold vq;rw[h,Vt,h1];show(fk env).bind _=_;rw[h2];show(L2.Bo ds.length j).bind _=_;rw[h3];rfl
theorem Ew{n:Nat}{j:Int}(h0:0<=j)(h1:j<n):L2.Bo n j=some j.toNat:=by unfold L2.Bo;rw[h_ h0,h_ h1]
end Mi
namespace Mi
open PySem PySem.Spec PyProof.Rows L2
def ou(ks:Ym)(p:Yx):Ym:=if p∈ks then ks else ks++[p]
theorem yy(h:kk p=kk q):p=q:=by
 obtain⟨a,b⟩:=p;obtain⟨c,d⟩:=q;unfold kk at h;simp at h;exact Prod.ext h.1 h.2
theorem kc:∀{xs:List α}{ys:List β},xs.length=ys.length->(xs.zip ys).map (·.1)=xs
 | [],[],_=>rfl
 | [],_::_,h=>by simp at h
 | _::_,[],h=>by simp at h
 | x::xs,y::ys,h=>by rw[Vr,C_,kc (by simpa using h)]
theorem BK{α β:Type}{f:α->β}(hf:∀x y,f x=f y->x=y){l:List α}:(l.map f).Nodup↔l.Nodup:=by
 unfold List.Nodup;rw[Vx];exact⟨λh=>h.imp λhne e=>hne (by rw[e]),λh=>h.imp λhne e=>hne (hf _ _ e)⟩
def kd(x:Yx×YH):YL×YH×Yz:=(kk x.1,x.2,.bool true)
theorem jn.zip{K:Fg}{H:Hp}{ps:Ym}{bs:Ys}(h:jn K H ps bs):∀x∈ps.zip bs,cR K H x.2 [.int x.1.1,.int x.1.2]:=λx hx=>by
 obtain⟨i,hi⟩:=Wo.mp hx;obtain⟨h1,h2⟩:=Vl.mp hi;exact h.2 i _ _ h1 h2
section
variable {P:YB}{w:YE}{a:YH}{ps:Ym}{bs:Ys}{h:YD}
end
section
variable {X:Cx}{rg:Gr}{l r:YI}{fa fb:Fe}{ga gb:Gr}{pos p:Pos}{k:Nat}
theorem tG{pins σ H s}(I:@5)(hq:cR X.K H b [.int m,.int n]):(tupleKind (aJ X.prog X.w)).is s.heap (kk (m,n)) b:=by
 obtain⟨br,rv,⟨o,h1,h2,n',h3⟩,_⟩:=I.tuple hq;exact⟨o,br.toArray,n',h1,h2,h3,by simpa using lr (ks:=kk (m,n)) rv⟩
end
section
variable {X:Cx}{rg:Gr}{pos:Pos}
def tQ(i:Nat)(f:Fe):Fs:=λenv=>match env[i]? with
 | some (.O (.L ds))=>(f env).bind λd=>match d with
  | .lst es=>if ds.length+es.length<=16000000 then some (.nx (env.set i (.O (.L (ds++es)))))else none
  | _=>none
 | _=>none
theorem Oq(i:Nat)(he:PD X .nw e fe)(hN:X.N[i]?=some x:=by rfl)(hv:rm X.env.scope x:=by first | exact Or.inl rfl | exact Or.inr (Or.inl rfl) | exact Or.inr (Or.inr rfl))
  (hd:@9:=by decide) (fX:(x==("__classdict__":Str))=false:=by decide) (hst:starEach [e] X.env=[(false,eval e X.env)]:=by rfl)
  (gC:attributeBase (.Name x px) "extend" X.env (eval (.Name x px) X.env)=eval (.Name x px) X.env:=by rfl)
  (tY:((backTo bG (starEach [e] X.env)).all (λx=>!x.1)&&(backToKw bG (keywordEach [] X.env)).all (λx=>x.1.isSome)
   && decide (([e]:Yt).length+([]:List Keyword).length+(if([]:List Keyword).isEmpty then 0 else 1)<30))=true:=by rfl)
  (gD:(apos.endLine==bG.line)=true:=by rfl)
  (hs:swapsWith (.Call (.Attribute (.Name x px) "extend" apos) [e] [] bG) none pos.line X.env=pure false:=by rfl) :
  SD X rg (.Expr (.Call (.Attribute (.Name x px) "extend" apos) [e] [] bG) pos) (tQ i fe):=by
 refine PS.imp (kF (yR Wc PySem.F.slot_list_extend PySem.F.type_list_extend BR (bK hN hv hd fX) (aP he b9 hst) gC tY gD hst rfl) hs) λE σ H az=>?_;obtain⟨env,B,Z,o,R,e,k⟩:=az;unfold tQ at e
 split at e
 .rename_i ds hi;obtain⟨d,e1,e2⟩:=b_.mp e;cases d<;>try cases e2
  rename_i es;obtain⟨hl,rfl⟩:=qe e2;obtain⟨y,e3,a,o,e4,e5,e6,vs,rfl,r⟩:=R.sl i _ hi;subst e4;refine⟨_,e3,.inl ⟨rfl,vs,cY.of e5⟩,env,B,Z,_,R,e1,λv Z1 H1 x1 g1=>?_⟩;obtain⟨b,us,es',rfl,e7,h1,h2,h3,r2⟩:=g1;cases e7;have R1:=R.ext x1;have r1:=av.mono x1.z ds r;refine⟨a,b,vs,us,rfl,rfl,x1.h _ _ e5,h2,by rw[<- r.len,<- r2.len,UI];omega,?_⟩;obtain⟨R2,x2⟩:=R1.wr hi e3 (de.l (r1.app r2));exact k σ Z1 _ ((x1.part R.bh).transB x2) R2
 .cases e
def insAt(xs:List α)(k:Nat)(y:α):List α:=xs.take k++y::xs.drop k
theorem aB.insAt(r:aB xs us)(ru:RelV y u)(k:Nat):aB (Mi.insAt xs k y) (Mi.insAt us k u):=(r.take k).append (.cons ru (r.drop k))
theorem av.insAt{K:Fg}{H:Hp}{ds:YO}{vs:YR}{d:D}{v:V}(r:av K H ds vs)(rd:Rep K H d v)(k:Nat):av K H (Mi.insAt ds k d) (Mi.insAt vs k v):=(r.take k).app (av.cons rd (r.drop k))
theorem AX(xs:List α)(k:Nat)(y:α):(insAt xs k y).length=xs.length+1:=by
 unfold insAt;rw[u_,v_,VW,List.length_drop];omega
def rInsert:V->YR->Hp->VK->Prop:=λx vs H Q=>∃(l:YH)(xs:YR)(k:Nat)(y:V),x=.ref l/\vs=[.int (k:Int),y]/\H l=some (.lst xs)/\k<=xs.length/\xs.length<sizeLine/\Q .non (upd H l (.lst (insAt xs k y)))
theorem As:QI X "list.insert" rInsert:=by
 intro pins s σ H x vs v us Q I rx rv h;obtain⟨l,xs,k,y,rfl,rfl,hH,hk,hz,q⟩:=h;cases rx;obtain⟨u,w,rfl,ru,B9⟩:=rv.two;obtain⟨t,rfl⟩:=ru;obtain⟨z,br,n,r,hl,e⟩:=I.lstM hH;have hb:=UI;have hf:¬(!Builtin.List.listFitsIndex (k:Int))=true:=by
  rw[fitsIndex_both @1 @1];exact UY
 have hsz:br.toArray.size<=sizeLine:=by rw[s_];omega
 generalize Ip:(k:Int)=kz at hf ⊢;have M:=AutoListH.list_insert_list_int_val_1 l br.toArray n kz t w hf hsz;refine call_meets F.slot_list_insert ⟨_,e,rfl⟩ F.entry_list_insert (F.args_list_insert_3 _ _ _) M ⟨e,?_⟩;subst Ip;refine⟨.non,_,I.lset (its':=insAt br k w) hH e ?_ (aB.insAt r B9 k) (by rw[AX];omega),rfl,q⟩;simp only[s_];rw[i_ @1,Vc,Nat.min_eq_left @1];simp[insAt,List.push_toArray,List.extract_toArray,W7]
def CK(i:Nat)(fk f:Fe):Fs:=λenv=>match env[i]? with
 | some (.O (.L ds))=>(fk env).bind λkd=>(f env).bind λd=>match kd with
  | .int j=>if 0<=j/\j<=ds.length/\ds.length<16000000 then some (.nx (env.set i (.O (.L (insAt ds j.toNat d)))))else none
  | _=>none
 | _=>none
theorem M3(i:Nat)(hk:PD X .cl ke fk)(he:PD X .cl e fe)(hN:X.N[i]?=some x:=by rfl)(hv:rm X.env.scope x:=by first | exact Or.inl rfl | exact Or.inr (Or.inl rfl) | exact Or.inr (Or.inr rfl))
  (hd:@9:=by decide) (fX:(x==("__classdict__":Str))=false:=by decide) (hst:starEach [ke,e] X.env=(false,eval ke X.env)::starEach [e] X.env:=by rfl) (hst2:starEach [e] X.env=[(false,eval e X.env)]:=by rfl)
  (gC:attributeBase (.Name x px) "insert" X.env (eval (.Name x px) X.env)=eval (.Name x px) X.env:=by rfl)
  (tY:((backTo bG (starEach [ke,e] X.env)).all (λx=>!x.1)&&(backToKw bG (keywordEach [] X.env)).all (λx=>x.1.isSome)
   && decide (([ke,e]:Yt).length+([]:List Keyword).length+(if([]:List Keyword).isEmpty then 0 else 1)<30))=true:=by rfl)
  (gD:(apos.endLine==bG.line)=true:=by rfl) (fy:(backTo bG (starEach [e] X.env)).any (·.1)=false:=by rfl)
  (hs:swapsWith (.Call (.Attribute (.Name x px) "insert" apos) [ke,e] [] bG) none pos.line X.env=pure false:=by rfl) :
  SD X rg (.Expr (.Call (.Attribute (.Name x px) "insert" apos) [ke,e] [] bG) pos) (CK i fk fe):=by
 refine PS.imp (kF (yR Wc PySem.F.slot_list_insert PySem.F.type_list_insert As (bK hN hv hd fX) (aP hk (aP he b9 hst2) hst) gC tY gD hst fy) hs) λE σ H az=>?_;obtain⟨env,B,Z,o,R,e,kq⟩:=az;unfold CK at e
 split at e
 .rename_i ds hi;obtain⟨kd,e1,e⟩:=b_.mp e;obtain⟨d,e2,e⟩:=b_.mp e;cases kd<;>try cases e
  rename_i j _;obtain⟨⟨h0,h1,h2⟩,rfl⟩:=qe e;obtain⟨y,e3,a,o,e4,e5,e6,vs,rfl,r⟩:=R.sl i _ hi;subst e4;refine⟨_,e3,.inl ⟨rfl,vs,cY.of e5⟩,env,B,Z,_,R,e1,λv Z1 H1 x1 g1=>⟨env,B,Z1,_,R.ext x1,e2,λu Z2 H2 x2 g2=>?_⟩⟩;have x12:=x1.trans x2;have R2:=R.ext x12;have hl:=r.len;refine⟨a,vs,j.toNat,u,rfl,by rw[g1.int,Int.toNat_of_nonneg h0],x12.h _ _ e5,by omega,by rw[UI];omega,?_⟩;obtain⟨R3,x3⟩:=R2.wr hi e3 (de.l (av.insAt (av.mono x12.z ds r) g2 j.toNat));exact kq σ Z2 _ ((x12.part R.bh).transB x3) R3
 .cases e
end
section
variable {X:Cx}{rg:Gr}{l r:YI}{fa fb:Fe}{ga gb:Gr}{pos p p3:Pos}
end
section
variable {X:Cx}{tg:YI}
end
section
variable {prog:YB}{w:YE}{A:YC}{E:Yh}{s:YA}{e i l:YH}{k:Nat}{xs:Yo}{x old:Yz}{it:Nat->YD->Prop}{at_:Yo->YD->Prop}
theorem CZ{Q:Yh}(S:Src prog w i l it at_)(he:IsEnum s.heap e i k old)(hit:it k s.heap)(JD:at_ xs s.heap)(hx:xs[k]?=some x)(hne:e≠i)
  (hQ:∀(g h':YD),IsEnumOut h' e i ((k:Int)+1) x s.sz->it (k+1) h'->g.objs.size=s.sz->(∀b o,b≠e->b≠i->s.heap.get? b=some o->g.get? b=some o)->
   (∀b o,b≠e->(g.push {cls:=.type "tuple",data:=.seq #[.int k s.toks,x]}).get? b=some o->h'.get? b=some o)->Q (.ref s.sz) {s with heap:=h',toks:=s.toks+1}) :
  wpAny @7 A (Builtin.«enumerate.__next__» ⟨[.ref e],[]⟩) (λf s'=>∃v,f=.done (.ret v)/\Q v s') E s:=by
 obtain⟨hp,gn,d,tk,os⟩:=s;refine(show wpAny _ _ (field (.ref e) 2 >>= _) _ _ _ from a_ (K_ he rfl (x:=.ref i) rfl (a_ (S.nxt hit JD hx λg1 mG s1=>?_))))
 replace s1:Heap.SameBut i hp g1:=s1
 have Rw:IsEnum g1 e i k old:=(s1.2 e hne).trans he;refine(show wpAny _ _ (field (.ref e) 3 >>= _) _ _ ⟨g1,gn,d,tk,os⟩from a_ (K_ Rw rfl (x:=rawInt k) rfl ?_));refine(show wpAny _ _ (field (.ref e) 4 >>= _) _ _ ⟨g1,gn,d,tk,os⟩from a_ (K_ Rw rfl (x:=.none) rfl ?_));refine(show wpAny _ _ (mkInt k >>= _) _ _ ⟨g1,gn,d,tk,os⟩from a_ (wpAny_mkInt ?_));refine(show wpAny _ _ (setField (.ref e) 3 (rawInt ((k:Int)+1)) >>= _) _ _ ⟨g1,gn,d,tk+1,os⟩from a_ (P_ Rw @8 λg2 wK s2=>?_))
 replace s2:Heap.SameBut e g1 g2:=s2
 replace wK:IsEnum g2 e i ((k:Int)+1) old:=wK
 refine(show wpAny _ _ (setField (.ref e) 4 .none >>= _) _ _ ⟨g2,gn,d,tk+1,os⟩from a_ (P_ wK @8 λg3 OY s3=>?_))
 replace s3:Heap.SameBut e g2 g3:=s3
 replace OY:IsEnum g3 e i ((k:Int)+1) old:=OY
 refine(show wpAny _ _ (newTuple [.int k tk,x] >>= _) _ _ ⟨g3,gn,d,tk+1,os⟩from a_ (XE ?_));have PZ:IsEnum (g3.push {cls:=.type "tuple",data:=.seq #[.int k tk,x]}) e i ((k:Int)+1) old:=d_ _ OY;have hit3:it (k+1) g3:=S.itx (S.itx mG (jo s2.extBut (US hne))) (jo s3.extBut (US hne));have OZ:it (k+1) (g3.push {cls:=.type "tuple",data:=.seq #[.int k tk,x]}):=S.itx hit3 λo q=>d_ _ q;have hsz:g3.objs.size=hp.objs.size:=by rw[s3.1,s2.1,s1.1]
 have hk3:∀b o,b≠e->b≠i->hp.get? b=some o->g3.get? b=some o:=λb o b1 b2 q=>s3.extBut b o b1 (s2.extBut b o b1 (s1.extBut b o b2 q));generalize hh:g3.push {cls:=.type "tuple",data:=.seq #[.int k tk,x]}=g4 at PZ OZ;refine(show wpAny _ _ (Builtin.SmallTypes.ownedTupleIsFree (.ref e) >>= _) _ _ ⟨g4,gn,d,tk+1,os⟩from ?_);rw[hsz];refine a_ ?_;unfold Builtin.SmallTypes.ownedTupleIsFree;refine a_ (K_ PZ rfl (x:=.none) rfl (e_ ?_));simp only[Vy];refine a_ (WV (a_ (K_ PZ rfl (x:=old) rfl (a_ (P_ PZ @8 λg5 he5 s5=>?_)))))
 replace s5:Heap.SameBut e g4 g5:=s5
 replace he5:IsEnum g5 e i ((k:Int)+1) x:=he5
 refine(show wpAny _ _ (Builtin.SmallTypes.ownedTupleHandOut (.ref e) (.ref hp.objs.size) >>= _) _ _ ⟨g5,gn,d,tk+1,os⟩from a_ ?_);unfold Builtin.SmallTypes.ownedTupleHandOut;refine a_ (P_ he5 @8 λg6 he6 s6=>?_)
 replace s6:Heap.SameBut e g5 g6:=s6
 replace he6:IsEnumOut g6 e i ((k:Int)+1) x hp.objs.size:=he6
 refine P_ he6 @8 λg7 he7 s7=>?_
 replace s7:Heap.SameBut e g6 g7:=s7
 replace he7:IsEnumOut g7 e i ((k:Int)+1) x hp.objs.size:=he7
 refine a_ (WY (e_ ⟨_,rfl,hQ g3 g7 he7 (S.itx (S.itx (S.itx OZ (jo s5.extBut (US hne))) (jo s6.extBut (US hne))) (jo s7.extBut (US hne))) hsz hk3 λb o b1 q=>?_⟩));rw[hh]at q;exact s7.extBut b o b1 (s6.extBut b o b1 (s5.extBut b o b1 q))
theorem Dg(S:Src prog w i l it at_)(he:IsEnum s.heap e i k old)(hit:it k s.heap)(JD:at_ xs s.heap)(hx:xs[k]?=some x)(hne:e≠i)
  (hQ:∀(g h':YD),IsEnumOut h' e i ((k:Int)+1) x s.sz->it (k+1) h'->g.objs.size=s.sz->(∀b o,b≠e->b≠i->s.heap.get? b=some o->g.get? b=some o)->
   (∀b o,b≠e->(g.push {cls:=.type "tuple",data:=.seq #[.int k s.toks,x]}).get? b=some o->h'.get? b=some o)->Q (some (.ref s.sz)) {s with heap:=h',toks:=s.toks+1}):wpAny @7 A (pyNext (.ref e)) Q E s:=by
 have hT:s.TypeIs (.ref e) "enumerate":=⟨_,he,rfl⟩;unfold pyNext;exact a_ (VV (UM (name:="__next__") hT Wq (UJ Wq hT F.entry_enumerate_next (CZ S he hit JD hx hne λg h' b1 b2 b3 b4 b5=>e_ (hQ g h' b1 b2 b3 b4 b5)) (F.args_enumerate_next_1 _))))
theorem FF(hh:A.handled=none)(S:Src prog w i l it at_)(he:IsEnum s.heap e i k old)(hit:it k s.heap)(JD:at_ xs s.heap)(hx:xs[k]?=none)
  (hQ:∀h',Heap.ExtBut i s.heap h'->Q none {s with heap:=h'}):wpAny @7 A (pyNext (.ref e)) Q E s:=by
 have hT:s.TypeIs (.ref e) "enumerate":=⟨_,he,rfl⟩;unfold pyNext;refine a_ (VV (UM (name:="__next__") hT Wq (UJ Wq hT F.entry_enumerate_next ?_ (F.args_enumerate_next_1 _))));refine(show wpAny _ _ (field (.ref e) 2 >>= _) _ _ _ from a_ (K_ he rfl (x:=.ref i) rfl (a_ (S.fin hh hit JD hx λh' y B0 hy=>?_))));obtain⟨o,ho,hc⟩:=hy;exact a_ (Xm (T:="StopIteration") (b:=true) ⟨o,ho,hc⟩ XF (e_ (hQ _ B0)))
theorem Lc{es:Yt}{x1:Nat}{pos:Pos}{n:Int}{T:YH}{Q:Unit->YA->Prop}(he:IsEnumOut s.heap e i n x T)(hQ:∀h',IsEnum h' e i n x->Heap.SameBut e s.heap h'->Q () {s with heap:=h'}) :
  wpAny @7 A (letOwnedTupleGo (.Tuple es x1 pos) (.ref e) (.ref T)) Q E s:=by
 unfold letOwnedTupleGo;refine a_ (wpAny_load he ?_);show wpAny _ _ (if(["enumerate","zip","dict_itemiterator","dict_reverseitemiterator","odict_iterator","itertools.zip_longest","itertools.pairwise"].contains "enumerate"&&(#[rawInt T,.bool false,.ref i,rawInt n,.none,x]:Array Yz)[0]?==some (rawInt T))=true then _ else _) Q E s;rw[h_ @8];exact a_ (WV (show wpAny _ _ (setField (.ref e) 0 .none) Q E s from P_ he @8 λh' B0 hs'=>hQ h' B0 hs'))
end
def Pk(S:Hp->YR->Prop):It:=
 ⟨λi H=>∃xs x,S H xs/\xs[i]?=some x,
  λi H v H'=>∃(q:YH),H q=none/\v=.ref q/\∀xs x,S H xs->xs[i]?=some x->H'=upd H q (.tup [.int (i:Nat),x]),
  λi H=>∃xs,S H xs/\xs.length<=i⟩
theorem qY{P:YB}{w:YE}{K:Fg}{es:Yt}{k:Nat}{pos:Pos}{e i l:YH}{it:Nat->YD->Prop}{at_:Yo->YD->Prop}{S:Hp->YR->Prop}(W:Src P w i l it at_)(K1:Rv K l S at_)(hne:e≠i) :
  Turn P w K (.Tuple es k pos) (Pk S) [e,i] e (λn h=>(∃old,IsEnum h e i (n:Nat) old)/\it n h) where
 mem:=by simp
 obj:=λn h ⟨⟨old,he⟩,h1⟩ c hc=>by
  simp only[p_,UL,V5]at hc;rcases hc with rfl | rfl
  .exact⟨_,he,λv q=>by cases q⟩
  .exact W.obj h1
 keep:=λn h h' ⟨⟨old,he⟩,h1⟩ kk=>⟨⟨old,kk e @8 _ he⟩,W.itx h1 λo q=>kk i @8 o q⟩
 item:=by
  intro X hP hw hK hc n pins s σ H E I hf st hg;subst hP hw;obtain⟨⟨old,he⟩,h1⟩:=st;obtain⟨xs,x,q1,hx⟩:=hg;obtain⟨us,r1,m1⟩:=K1.get hK I q1;obtain⟨u,hu,ru⟩:=r1.get hx;refine Dg W he h1 m1 hu hne λg g' b1 b2 b3 b4 b5=>?_;have hT:H s.sz=none:=I.hok.fresh (m_ _);have ne:∀c∈[e,i],c<s.sz:=λc hc=>by
   simp only[p_,UL,V5]at hc;rcases hc with rfl | rfl
   .exact n_ he
   .obtain⟨o,ho,_⟩:=W.obj h1;exact n_ ho
  have I1:L2.Inv X pins σ H {s with heap:=g,toks:=s.toks+1}:=jd (t':=s.toks+1) (ch:=[e,i]) I hf λc o hc q=>b4 c o (λz=>hc (by simp[z])) (λz=>hc (by simp[z])) q;have I2:L2.Inv X pins σ (upd H g.objs.size (.tup [.int n,x])) {s with heap:=g.push {cls:=.type "tuple",data:=.seq #[.int n s.toks,u]},toks:=s.toks+1}:=
   I1.laid (t':=s.toks+1) (λc o q=>d_ _ q) (m_ _) (show bE X.prog X.w _ _ _ (.tup [.int n,x])from⟨by have:=UI;simp;omega,[.int n s.toks,u],.cons ⟨_,rfl⟩ (.cons ru .nil),IsTup.new _ _⟩)
  rw[b3]at I2;have fz:∀c∈[e,i],fS X pins (upd H s.sz (.tup [.int n,x])) c:=λc hc=>⟨by rw[ax (A_ (ne c hc))];exact(hf c hc).1,(hf c hc).2⟩;have I3:L2.Inv X pins σ (upd H s.sz (.tup [.int n,x])) {s with heap:=g',toks:=s.toks+1}:=jd (s:={s with heap:=g.push {cls:=.type "tuple",data:=.seq #[.int n s.toks,u]},toks:=s.toks+1}) (h':=g') (t':=s.toks+1) (ch:=[e]) I2 (λc hc=>fz c (by simp at hc;simp[hc])) λc o hc q=>b5 c o (λz=>hc (by simp[z])) q;refine⟨_,rfl,Lc b1 λg2 wK s2=>?_⟩;have I4:L2.Inv X pins σ (upd H s.sz (.tup [.int n,x])) {s with heap:=g2,toks:=s.toks+1}:=jd (s:={s with heap:=g',toks:=s.toks+1}) (h':=g2) (t':=s.toks+1) (ch:=[e]) I3 (λc hc=>fz c (by simp at hc;simp[hc])) λc o hc q=>s2.extBut c o (λz=>hc (by simp[z])) q;refine⟨.ref s.sz,_,I4,rfl,⟨s.sz,hT,rfl,λxs' x' p1 wU=>?_⟩,⟨⟨u,wK⟩,W.itx b2 (jo s2.extBut (US hne))⟩,λc hc=>(fz c hc).1⟩;cases K1.inj hK I q1 p1;rw[hx]at wU;cases wU
  rfl
 done:=by
  intro X hP hw hK hc n pins s σ H E I hf st hg;subst hP hw;obtain⟨⟨old,he⟩,h1⟩:=st;obtain⟨xs,q1,hl⟩:=hg;obtain⟨us,r1,m1⟩:=K1.get hK I q1;have e1:=r1.length;refine FF (I.ok.hd hc) W he h1 m1 (E_ @1) λg' kk=>⟨rfl,?_⟩;exact jd (t':=s.toks) (ch:=[i]) I (λc hc=>hf c (by simp at hc;simp[hc])) λc o hc q=>kk c o (λz=>hc (by simp[z])) q
 self:=λ_ n _ _ _ ⟨⟨_,he⟩,_⟩ h=>XX he h
abbrev SR(c:String)(h:YD)(l:YH):YD:=(xI c h l).push {cls:=.type "enumerate",data:=.fields #[.none,.bool false,.ref h.objs.size,rawInt 0,.none,.none]}
theorem Bb(l:YH)(items:Array Yz)(n:Nat)(dct:Yq)(sl:Yj):Meets (Builtin.«enumerate.__new__» ⟨[.type "enumerate",.ref l],[]⟩) (λ_ R s=>s.heap.get? l=some {cls:=.type "tuple",dict:=dct,data:=.seq items n,slots:=sl}/\
   R (.ok (.ret (.ref (xI "tuple_iterator" s.heap l).objs.size))) {s with heap:=SR "tuple_iterator" s.heap l}):=
 .of_wp λprog w A R s h=>by
  obtain⟨hp,g,d,tk,os⟩:=s;obtain⟨hl,h⟩:=h;have hsub:=sub_enumerate;have hL:Heap.IsTuple (Shared.heap ⟨hp,g,d,tk,os⟩) l items:=⟨_,hl,rfl,n,rfl⟩
  wp_walk using V8 hl
  refine wpAny_stack_any λst=>e_ ?_
  split
  .rename_i c _ _ _ _ _;cases(c==Value.type "enumerate")
   .wp_walk using V8 hl,WQ hL
    exact⟨_,rfl,h⟩
   .wp_walk using V8 hl,WQ hL
    exact⟨_,rfl,h⟩
  .wp_walk using V8 hl,WQ hL
   exact⟨_,rfl,h⟩
theorem wW(hL:s.heap.IsTuple l items)
  (h:∀h',IsEnum h' (s.sz+1) s.sz 0 .none->h'.IsTupleIter s.sz l 0->(∀b o,s.heap.get? b=some o->h'.get? b=some o)->Q (.ref (s.sz+1)) {s with heap:=h'}) :
  wpAny @7 A (call (.type "enumerate") [.ref l]) Q E s:=by
 obtain⟨⟨c,dct,dt,sl⟩,hl,hc,n,hd⟩:=hL
 replace hc:c=.type "tuple":=hc
 replace hd:dt=.seq items n:=hd
 subst hc hd;refine callType_new F.called_enumerate @2 (F.typeCall_enumerate_1 _) (F.newCall_enumerate_1 _) (λobj=>F.args_object_init_2 obj _) F.entry_enumerate_new (Bb l items n dct sl) ⟨hl,?_⟩;have hz:(xI "tuple_iterator" s.heap l).objs.size=s.sz+1:=UP ..;show _/\_;rw[hz];have he:IsEnum (SR "tuple_iterator" s.heap l) (s.sz+1) s.sz 0 .none:=by
  have:=o_ (xI "tuple_iterator" s.heap l) (o:={cls:=.type "enumerate",data:=.fields #[.none,.bool false,.ref s.sz,rawInt 0,.none,.none]}) rfl;rw[hz]at this;exact this
 exact⟨⟨_,he,rfl⟩,h _ he ⟨_,d_ _ (o_ _ rfl),rfl,rfl⟩ λb o x=>d_ _ (d_ _ x)⟩
section
variable {X:Cx}{es:Yt}{kk:Nat}{tp:Pos}
theorem yo:bootBuiltins "enumerate"=some (.type "enumerate"):=by decide +kernel
def Ol(K:Fg)(ta:TA):TI:=λσ H R=>ta σ H λvs H1=>∃(l:YH)(xs:YR),vs=[.ref l]/\((cR K H1 l xs/\R (Pk (λH xs=>cR K H l xs)) H1)\/(cY K H1 l xs/\R (Pk (λH xs=>cY K H l xs)) H1))
theorem HL(hg:Gl X "enumerate")(hm:X.mg "enumerate"=none)(ha:PA X [a] ta)(hs:starEach [a] X.env=[(false,eval a X.env)]:=by rfl):PI X (.Tuple es kk tp) (.Call (.Name "enumerate" p) [a] [] pos) (Ol X.K ta):=by
 intro pins s σ H R I h;refine Call_ (gU I hg hm yo (Vw (bB (ha pos pins s σ H _ I h) λus s1 az=>?_) hs rfl));obtain⟨vs,H1,I1,r1,q1⟩:=az;obtain⟨l,xs,e,q⟩:=q1;subst e;obtain⟨u,rfl,ru⟩:=vals1 r1;cases ru;have fp:∀b∈[s1.sz+1,s1.sz],fS X pins H1 b:=λb hb=>by
  have hb':s1.sz<=b:=by
   simp only[p_,UL,V5]at hb;rcases hb with rfl | rfl
   .exact WX _
   .exact m_ _
  exact I1.fpOk hb' (I1.hok.fresh hb')
 rcases q with ⟨m,q⟩ | ⟨m,q⟩
 .obtain⟨us,_,p1,_⟩:=I1.tuple m;refine wW (show s1.heap.IsTuple l us.toArray from p1) λh' he hi old=>XX he ?_;exact⟨s1.sz+1,_,_,_,H1,rfl,I1.kept (t':=s1.toks) old,qY (Q6 _ _) (QO l) (Nat.succ_ne_self _),⟨⟨_,he⟩,hi⟩,fp,q⟩
 .obtain⟨us,_,p1,_⟩:=I1.list m;refine call_enumerate_list p1.isList λh' he hi _ old=>XX he ?_;exact⟨s1.sz+1,_,_,_,H1,rfl,I1.kept (t':=s1.toks) old,qY (KR _ _) (QG l) (Nat.succ_ne_self _),⟨⟨_,he⟩,hi⟩,fp,q⟩
def kN:Nat->YO->YO
 | _,[]=>[]
 | n,d::ds=>.tup [.int (n:Int),d]::kN (n+1) ds
theorem gm:∀(n:Nat)(ds:YO),(kN n ds).length=ds.length
 | _,[]=>rfl
 | n,d::ds=>by simp[kN,gm (n+1) ds]
theorem kT:∀{n:Nat}{ds:YO}{i:Nat}{d:D},ds[i]?=some d->(kN n ds)[i]?=some (.tup [.int ((n+i:Nat):Int),d])
 | n,[],i,d,h=>by simp at h
 | n,x::ds,0,d,h=>by cases h;rfl
 | n,x::ds,i+1,d,h=>by
  show(kN (n+1) ds)[i]?=_;rw[kT (n:=n+1) (d:=d) (by simpa using h),show n+1+i=n+(i+1) by omega]
theorem qP{K:Fg}{Z1:Hp}{S:Hp->YR->Prop}{vs:YR}{xs:YO}(m1:∀{H H'},aO H H'->S H vs->S H' vs)(q1:S Z1 vs)(r1:av K Z1 xs vs):Walk K Z1 (kN 0 xs) (Pk S):=λZ' H' s1 s2 i=>by
 have l1:=r1.len;have w1:=m1 (s1.trans s2) q1;rw[gm];refine⟨λhi=>?_,λhi=>⟨vs,w1,by omega⟩⟩;have h1:i<vs.length:=by omega
 refine⟨⟨vs,vs[i],w1,l_ h1⟩,λx H'' ⟨q,hq,e,hy⟩=>?_⟩;subst e;have e2:=hy vs _ w1 (l_ h1);subst e2;obtain⟨d1,e1,p1⟩:=r1.getV (l_ h1);have s3:aO Z' (upd Z' q (.tup [.int (i:Nat),vs[i]])):=cj (s2.free hq);exact⟨_,_,Ex.new s2 hq,kT e1,q,_,rfl,cR.of au,av.mono s3 _ ⟨_,_,rfl,by rw[UH];rfl,_,_,rfl,Rep.mono s1 _ p1,rfl⟩⟩
def IU(f:Fe):Fi:=λenv=>(f env).bind λd=>match d with
 | .tup xs=>some (kN 0 xs)
 | .lst xs=>some (kN 0 xs)
 | _=>none
theorem ya(hm:X.mg "enumerate"=none)(h:PD X .cl l f)(hg:Gl X "enumerate":=by rfl)(hs:starEach [l] X.env=[(false,eval l X.env)]:=by rfl):ID X (.Tuple es kk tp) (.Call (.Name "enumerate" p) [l] [] pos) (IU f):=
 PI.imp (HL hg hm (aP h b9 hs) hs) λσ H R az=>by
  obtain⟨env,B,Z,ds,Rr,e,k⟩:=az;obtain⟨d,e1,e2⟩:=b_.mp e;cases d<;>cases e2
  .refine⟨env,B,Z,_,Rr,e1,λv Z1 H1 x1 g1=>?_⟩;obtain⟨l1,vs,rfl,w1,r1⟩:=g1;exact⟨l1,vs,rfl,.inl ⟨eo x1.zh w1,k _ Z1 H1 x1 (qP (λs q=>eo s q) w1 r1)⟩⟩
  .refine⟨env,B,Z,_,Rr,e1,λv Z1 H1 x1 g1=>?_⟩;obtain⟨l1,vs,rfl,w1,r1⟩:=g1;exact⟨l1,vs,rfl,.inr ⟨x1.zh.seq w1,k _ Z1 H1 x1 (qP (λs q=>s.seq q) w1 r1)⟩⟩
end
end Mi
namespace Mi
open PySem PySem.Spec PyProof.Rows L2
section
variable {X:Cx}{l r:YI}{fa fb:Fe}{ga gb:Gr}{pos p:Pos}{k:Nat}
def Jk(K:Fg):R2:=λx y H Q=>∃a b xs ys,x=.ref a/\y=.ref b/\cR K H a xs/\cR K H b ys/\xs.length+ys.length<=sizeLine/\(xs=[]->Q (.ref b) H)/\(xs≠[]->ys=[]->Q (.ref a) H)/\(xs≠[]->ys≠[]->∀p,H p=none->Q (.ref p) (upd H p (.tup (xs++ys))))
theorem GT:jf X (binaryOp .Add) (Jk X.K):=by
 intro pins s σ H x y v u Q I rx ry h;obtain⟨a,b,xs,ys,rfl,rfl,ha,hb,hz,q0,q1,q2⟩:=h
 by_cases hx:xs=[]
 .cases rx;cases ry;obtain⟨br,r1,p1,_⟩:=I.tuple ha;obtain⟨pH,r2,p2,_⟩:=I.tuple hb;obtain⟨⟨cls,dd,data,sl⟩,ho,hc,n,hd⟩:=id p1;obtain⟨⟨Iq,wM,data2,Ai⟩,B1,Aj,n2,hd2⟩:=id p2;simp only at hc hd Aj hd2;subst hc hd Aj hd2;have hi:br=[]:=r1.nil_iff.mpr hx;exact concat_meets ⟨_,ho,rfl⟩ ⟨_,B1,rfl⟩ noFill_tuple_add seq_tuple_add W3 WW (WG _ _) (tuple_addW0 a b br.toArray pH.toArray n n2 dd wM sl Ai (by simp[hi])) ⟨ho,B1,⟨.ref b,H,I,rfl,q0 hx⟩⟩
 .exact HS pins s σ H _ _ v u Q I rx ry ⟨a,b,xs,ys,rfl,rfl,ha,hb,hx,hz,q1 hx,q2 hx⟩
def Bv:D->D->YQ
 | .tup xs,.tup ys=>if xs.length+ys.length<=16000000 then some (.tup (xs++ys))else none
 | _,_=>none
theorem av.nil_iff{K:Fg}{H:Hp}{ds:YO}{vs:YR}(h:av K H ds vs):vs=[]↔ds=[]:=by
 have:=h.len;cases ds<;>cases vs<;>simp at this ⊢
theorem J'{K:Fg}:cV K .cl Bv (Jk K):=λ{Z H x y dx dy d Q} s h1 h2 e kq=>by
 cases dx<;>try cases e
 all_goals (cases dy<;>try cases e)
 rename_i xs ys;obtain⟨hl,rfl⟩:=qe e;rcases h1 with h1 | ⟨_,_,_,_,e1,_⟩ | ⟨_,_,_,e1,_⟩ | ⟨_,_,_,_,_,e1,_⟩
 .rcases h2 with h2 | ⟨_,_,_,_,e1,_⟩ | ⟨_,_,_,e1,_⟩ | ⟨_,_,_,_,_,e1,_⟩
  .obtain⟨a,vs,rfl,q1,r1⟩:=id h1;obtain⟨b,us,rfl,q2,r2⟩:=id h2;refine⟨a,b,vs,us,rfl,rfl,eo s q1,eo s q2,by rw[<- r1.len,<- r2.len,UI];omega,λz=>?_,λz1 z=>?_,λz1 z2 p hp=>?_⟩
   .have hx:=r1.nil_iff.mp z;subst hx;exact kq _ Z H (Ex.refl s) h2
   .have hy:=r2.nil_iff.mp z;subst hy;rw[UG]at kq;exact kq _ Z H (Ex.refl s) h1
   .have s1:aO Z (upd Z p (.tup (vs++us))):=cj (s.free hp);exact kq _ _ _ (Ex.new s hp) ⟨p,_,rfl,cR.of au,av.mono s1 _ (r1.app r2)⟩
  .cases e1
  .cases e1
  .cases e1
 .cases e1
 .cases e1
 .cases e1
theorem EU(ha:PD X ga l fa)(hb:PD X gb r fb):PD X .cl (.BinOp l .Add r pos) (ar Bv fa fb):=vN GT J' ha hb
end
def Kk:Key->Key->Option Bool
 | .inl a,.inl b=>some (decide (a<b))
 | .inr a,.inr b=>some (decide (a.cps.toList<b.cps.toList))
 | _,_=>none
def fw:YL->YL->Option Bool
 | [],[]=>some false
 | [],_::_=>some true
 | _::_,[]=>some false
 | x::xs,y::ys=>if x=y then fw xs ys else Kk x y
inductive cF:List Value->List Key->Prop
 | nil:cF [] []
 | int (n:Int) (t:Tok) {vs ks}:cF vs ks->cF (.int n t::vs) (.inl n::ks)
 | str (x:Str) (t:Tok) {vs ks}:cF vs ks->cF (.str x t::vs) (.inr x::ks)
theorem cF.length:∀{vs:Yo}{ks:YL},cF vs ks->vs.length=ks.length
 | _,_,.nil=>rfl
 | _,_,.int _ _ h=>by simp[cF.length h]
 | _,_,.str _ _ h=>by simp[cF.length h]
theorem cF.of:∀{ks:YL}{us:Yo},aB (ks.map kV) us->cF us ks
 | [],_,r=>by rw[X_]at r;cases r;exact .nil
 | .inl n::ks,_,r=>by
  rw[C_]at r;cases r with
  | cons h t=>obtain⟨tk,rfl⟩:=(show ∃t,_=Value.int n t from h);exact .int n tk (cF.of t)
 | .inr x::ks,_,r=>by
  rw[C_]at r;cases r with
  | cons h t=>obtain⟨tk,rfl⟩:=(show ∃t,_=Value.str x t from h);exact .str x tk (cF.of t)
theorem CM(A:YC)(s:YA)(a:Str)(t:Tok)(c:Str)(u:Tok)(prog:YB)(w:YE)(E:Yh)(Q:Yh)(h:Q (.bool (decide (a.cps.toList<c.cps.toList))) s) :
  wpAny @7 A (richCompare .Lt (.str a t) (.str c u)) Q E s:=
 (PyProof.Rows.lt_str h:wpAny @7 A (compareOp .Lt (.str a t) (.str c u)) Q E s)
section
open PySem.SeqAt
open PySem.AutoSeq1 (wpAny_loadPart')
open PySem.MeetsSeq PySem.MeetsSeq2 PySem.MeetsSeq3
theorem HX(hv:cF (y::vs) ns)(hw:cF (x::ws) ms):∃a c mF qt,ns=a::mF/\ms=c::qt/\cF vs mF/\cF ws qt/\
  ∀(A:YC)(s:YA)(q:Bool),(if a=c then fw mF qt else Kk a c)=some q->∃e,SeqAt.EqAt A s y x e/\(e=true↔a=c)/\(e=false->∀(prog:YB)(w:YE)(E:Yh)(Q:Yh),Q (.bool q) s->wpAny @7 A (richCompare .Lt y x) Q E s):=by
 cases hv with
 | int n t wO=>
  cases hw with
  | int m u yL=>
   refine⟨_,_,_,_,rfl,rfl,wO,yL,λA s q hq=>⟨(n==m),SeqAt.EqAt.int_int n t m u,by simp,λhe=>?_⟩⟩;have hne:n≠m:=by simpa using he
   rw[i_ (λz=>hne (Sum.inl.inj z))]at hq;cases hq;exact λprog w E Q h=>HT.CF A s n t m u prog w E Q h
  | str y u yL=>
   refine⟨_,_,_,_,rfl,rfl,wO,yL,λA s q hq=>?_⟩;rw[i_ (λz=>nomatch z)]at hq;cases hq
 | str a t wO=>
  cases hw with
  | int m u yL=>
   refine⟨_,_,_,_,rfl,rfl,wO,yL,λA s q hq=>?_⟩;rw[i_ (λz=>nomatch z)]at hq;cases hq
  | str b u yL=>
   refine⟨_,_,_,_,rfl,rfl,wO,yL,λA s q hq=>⟨(a==b),SeqAt.EqAt.str_str a t b u,by simp,λhe=>?_⟩⟩;have hne:a≠b:=by simpa using he
   rw[i_ (λz=>hne (Sum.inr.inj z))]at hq;cases hq;exact λprog w E Q h=>CM A s a t b u prog w E Q h
theorem qd(l b:YH)(items items2:Array Yz)(n n2:Nat)(dd wM:Yq)(sl Ai:Yj)(ns ms:YL)(q:Bool)(hi:cF items.toList ns)(hj:cF items2.toList ms)(hq:fw ns ms=some q) :
  Meets (Builtin.«tuple.__lt__» ⟨[.ref l,.ref b],[]⟩)
   (λ_ R s=>s.heap.get? l=some {cls:=.type "tuple",dict:=dd,data:=.seq items n,slots:=sl}/\s.heap.get? b=some {cls:=.type "tuple",dict:=wM,data:=.seq items2 n2,slots:=Ai}/\R (.ok (.ret (.bool q))) s):=
 .of_wp λprog w A R s h=>by
  obtain⟨hp,g,d,tk,os⟩:=s;obtain⟨hl,hb,h⟩:=h;have f2:=AutoSeq1.sub_tuple_tuple;have z1:items.size=ns.length:=by rw[<- hi.length];simp
  have z2:items2.size=ms.length:=by rw[<- hj.length];simp
  wp_walk using Xu hl,Xu hb,Wy _ (λrest b s'=>b.1=none/\s'=⟨hp,g,d,tk,os⟩/\∃(vs ws:Yo)(mF qt:YL),rest=vs.zip ws/\
   cF vs mF/\cF ws qt/\mF.length+items2.size=qt.length+items.size/\fw mF qt=some q) _
  case turn=>
   rintro⟨y,x⟩ rest b s' ⟨hb',rfl,vs,ws,mF,qt,hz,L0,O0,hlen,hR⟩;cases vs with
   | nil=>rw[List.zip_nil_left]at hz;cases hz
   | cons v vs=>
    cases ws with
    | nil=>rw[List.zip_nil_right]at hz;cases hz
    | cons w' ws=>
     rw[Vr]at hz
     injection hz with Rx hrest
     injection Rx with hy hx
     subst hy hx;obtain⟨a,c,O1,L4,rfl,rfl,O2,Ry,ask⟩:=HX L0 O0;have L5:(if a=c then fw O1 L4 else Kk a c)=some q:=hR;obtain⟨e,he,hiff,ix⟩:=ask A.in1 ⟨hp,g,d,tk,os⟩ q L5;simp only[v_]at hlen;refine a_ (he prog w _ _ ?_);cases e with
     | true=>
      rw[h_ (hiff.mp rfl)]at L5
      wp_walk
      exact⟨rfl,rfl,_,_,_,_,hrest,O2,Ry,by omega,L5⟩
     | false=>
      have hri:=ix rfl prog w
      wp_walk using hri
      exact⟨_,rfl,by simpa using h⟩
  case fin=>
   rintro⟨b1,b2⟩ s' ⟨hb',rfl,vs,ws,mF,qt,hz,L0,O0,hlen,hR⟩;simp only at hb';subst hb';have l1:=L0.length;have l2:=O0.length;have hv:q=decide (items.size<items2.size):=by
    cases mF with
    | nil=>
     cases qt with
     | nil=>
      simp only[T_]at hlen;cases hR;exact(G_ @1).symm
     | cons c L4=>
      simp only[T_,v_]at hlen;cases hR;exact(y_ @1).symm
    | cons a O1=>
     cases qt with
     | nil=>
      simp only[T_,v_]at hlen;cases hR;exact(G_ @1).symm
     | cons c L4=>
      cases vs with
      | nil=>simp at l1
      | cons v vs=>
       cases ws with
       | nil=>simp at l2
       | cons w' ws=>rw[Vr]at hz;cases hz
   rw[hv]at h
   wp_walk
   exact⟨_,rfl,by simpa [Builtin.Tuple.tupleCompareSizes]using h⟩
  case h=>
   exact⟨rfl,rfl,items.toList,items2.toList,ns,ms,rfl,hi,hj,by omega,hq⟩
end
section
variable {X:Cx}{l r:YI}{fa fb:Fe}{ga gb:Gr}{pos p:Pos}{k:Nat}
def MX(K:Fg):R2:=λx y H Q=>∃a b ns ms q,x=.ref a/\y=.ref b/\cR K H a (ns.map kV)/\cR K H b (ms.map kV)/\fw ns ms=some q/\Q (.bl q) H
theorem KA(hu:X.A.units<cLine):jf X (compareOp .Lt) (MX X.K):=by
 intro pins s σ H x y v u Q I rx ry h;obtain⟨a,b,ns,ms,c,rfl,rfl,ha,hb,hc,q⟩:=h;cases rx;cases ry;obtain⟨br,r1,p1,_⟩:=I.tuple ha;obtain⟨pH,r2,p2,_⟩:=I.tuple hb;obtain⟨⟨cls,dd,data,sl⟩,ho,jZ,n,hd⟩:=id p1;obtain⟨⟨Iq,wM,data2,Ai⟩,B1,Aj,n2,hd2⟩:=id p2;simp only at jZ hd Aj hd2;subst jZ hd Aj hd2;exact richCompare_meets_room (op:=.Lt) ⟨_,ho,rfl⟩ ⟨_,B1,rfl⟩ PySem.F.slot_tuple_lt PySem.F.entry_tuple_lt (PySem.F.args_tuple_lt_2 _ _) (qd a b br.toArray pH.toArray n n2 dd wM sl Ai ns ms c (by simpa using cF.of r1) (by simpa using cF.of r2) hc)
  ⟨ho,B1,show Value.bool c≠Value.notImplemented/\EP X pins σ Q (.bool c) s from⟨(λz=>nomatch z),⟨.bl c,H,I,rfl,q⟩⟩⟩ hu
def oP:YO->Option YL
 | []=>some []
 | .int i::r=>(oP r).bind λks=>some (.inl i::ks)
 | .str x::r=>(oP r).bind λks=>some (.inr x::ks)
 | _=>none
theorem eI{K:Fg}{H:Hp}:∀{ds:YO}{ks:YL}{vs:YR},oP ds=some ks->av K H ds vs->vs=ks.map kV
 | [],ks,vs,h,r=>by cases h;exact r
 | d::ds,ks,vs,h,r=>by
  obtain⟨v,rr,e,h1,h2⟩:=r;subst e;cases d<;>try cases h
  .obtain⟨uh,e1,e2⟩:=b_.mp h;cases e2;cases(show v=_ from h1);rw[eI e1 h2];rfl
  .obtain⟨uh,e1,e2⟩:=b_.mp h;cases e2;cases(show v=_ from h1.1);rw[eI e1 h2];rfl
def Oi:D->D->YQ
 | .tup xs,.tup ys=>(oP xs).bind λns=>(oP ys).bind λms=>(fw ns ms).bind λq=>some (.bl q)
 | _,_=>none
theorem Mu{K:Fg}:cV K .cl Oi (MX K):=λ{Z H x y dx dy d Q} s h1 h2 e kq=>by
 cases dx<;>try cases e
 all_goals (cases dy<;>try cases e)
 obtain⟨ns,e1,e⟩:=b_.mp e;obtain⟨ms,e2,e⟩:=b_.mp e;obtain⟨q,e3,e⟩:=b_.mp e;cases e;obtain⟨a,vs,rfl,q1,r1⟩:=h1.tup s;obtain⟨b,us,rfl,q2,r2⟩:=h2.tup s;cases eI e1 r1;cases eI e2 r2;exact⟨a,b,ns,ms,q,rfl,rfl,q1,q2,e3,kq _ Z H (Ex.refl s) rfl⟩
theorem Ot(hr:bF k X.A)(ha:PD X ga l fa)(hb:PD X gb r fb):PD X .cl (.Compare l [.Lt] [r] pos) (ar Oi fa fb):=q8 (KA (by have:=hr.un;omega)) Mu ha hb (eQ _)
end
end Mi
namespace Mi
open PySem PySem.Spec PyProof.Rows L2
abbrev l4(h:YD)(z TI TO:YH)(f0:Yz)(b:Bool):Prop:=
 h.get? z=some {cls:=.type "zip",dict:=none,data:=.fields #[f0,.bool b,.bool false,.ref TI,.ref TO],slots:=#[]}
theorem mh(h:Q (s.heap.get? a) s):wpAny M A (loadIfAlive a) Q E s:=λΓ p _=>by
 show Sem.wp M Γ (.loadIfAlive a .pure) _ _ p s;rw[Sem.wp_loadIfAlive];exact h
section
variable {prog:YB}{w:YE}{A:YC}{E:Yh}{s:YA}{z TI TO i1 i2 l1 l2 T:YH}{k1 k2:Nat}{xs ys:Yo}{x y:Yz}{mG it2:Nat->YD->Prop}{ua at2:Yo->YD->Prop}{oT:Obj}{bz:Bool}
theorem BW{Q:Yh}(S1:Src prog w i1 l1 mG ua)(S2:Src prog w i2 l2 it2 at2)(D:ZipApart z TI TO i1 i2 l1 l2)(hz:l4 s.heap z TI TO (rawInt T) bz)(hT:s.heap.get? T=some oT)(mS:IsPair s.heap TI (.ref i1) (.ref i2))
  (h1:mG k1 s.heap) (h2:it2 k2 s.heap) (a1:ua xs s.heap) (a2:at2 ys s.heap) (hx:xs[k1]?=some x) (hy:ys[k2]?=some y)
  (hQ:∀(g:YD),l4 g z TI TO (rawInt T) true->mG (k1+1) g->it2 (k2+1) g->g.objs.size=s.heap.objs.size->(∀c o,c≠z->c≠i1->c≠i2->s.heap.get? c=some o->g.get? c=some o)->
   Q (.ref s.heap.objs.size) {s with heap:=g.push {cls:=.type "tuple",data:=.seq #[x,y]}}) :
  wpAny @7 A (Builtin.«zip.__next__» ⟨[.ref z],[]⟩) (λf s'=>∃v,f=.done (.ret v)/\Q v s') E s:=by
 show 1;refine a_ (K_ hz rfl (x:=rawInt T) rfl ?_);refine(show wpAny _ _ (loadIfAlive ((T:Int).toNat) >>= _) _ _ _ from a_ (mh ?_));rw[Vc,hT];simp only[Option.isNone_some,D_,UU];refine a_ (K_ hz rfl (x:=.bool bz) rfl ?_);refine bB (Q:=λa s1=>a=false/\∃g0:YD,s1={s with heap:=g0}/\l4 g0 z TI TO (rawInt T) true/\(∀c o,c≠z->s.heap.get? c=some o->g0.get? c=some o)/\g0.objs.size=s.heap.objs.size) ?_ λa s1 h0=>?_
 .cases bz with
  | true=>exact e_ ⟨rfl,s.heap,rfl,hz,λ_ _ _ e=>e,rfl⟩
  | false=>exact a_ (P_ hz @8 λg0 z0 s0=>e_ ⟨rfl,g0,rfl,z0,λc o c1 e=>s0.extBut c o c1 e,s0.1⟩)
 obtain⟨rfl,g0,rfl,z0,k0,Tg⟩:=h0;simp only[D_,UU];rw[<- WS];simp only[WN,XD];refine a_ (a_ (a_ (F_ (show wpAny _ _ (Builtin.SmallTypes.nextOf (.ref i1) >>= _) _ _ _ from ?_))));refine a_ (S1.nxt (S1.itx h1 λo e=>k0 _ o D.i1z e) (S1.atx a1 λo e=>k0 _ o D.l1z e) hx λg1 it1' s1=>e_ ?_)
 replace s1:Heap.SameBut i1 g0 g1:=s1
 refine e_ (a_ (a_ (F_ (show wpAny _ _ (Builtin.SmallTypes.nextOf (.ref i2) >>= _) _ _ _ from ?_))));refine a_ (S2.nxt (S2.itx (S2.itx h2 λo e=>k0 _ o D.i2z e) (jo s1.extBut D.i12.symm)) (S2.atx (S2.atx a2 λo e=>k0 _ o D.l2z e) (jo s1.extBut D.l2i1)) hy λg2 it2' s2=>e_ ?_)
 replace s2:Heap.SameBut i2 g1 g2:=s2
 refine e_ (e_ ?_);refine a_ (XE (e_ ⟨_,rfl,?_⟩) (show(2:Nat)<=sizeLine by decide));have sz:g2.objs.size=s.heap.objs.size:=by rw[s2.1,s1.1,Tg]
 show Q (.ref g2.objs.size) _;rw[sz];exact hQ g2 (s2.extBut _ _ D.i2z.symm (s1.extBut _ _ D.i1z.symm z0)) (S1.itx it1' (jo s2.extBut D.i12)) it2' sz λc o c1 c2 c3 e=>s2.extBut _ _ c3 (s1.extBut _ _ c2 (k0 c o c1 e))
theorem rK(hh:A.handled=none)(S1:Src prog w i1 l1 mG ua)(S2:Src prog w i2 l2 it2 at2)(D:ZipApart z TI TO i1 i2 l1 l2)(hz:l4 s.heap z TI TO (rawInt T) bz)(hT:s.heap.get? T=some oT)(mS:IsPair s.heap TI (.ref i1) (.ref i2))
  (h1:mG k1 s.heap) (h2:it2 k2 s.heap) (a1:ua xs s.heap) (a2:at2 ys s.heap) (wQ:xs[k1]?=none\/ys[k2]?=none)
  (hE:∀h' e,(∀c o,c≠z->c≠i1->c≠i2->s.heap.get? c=some o->h'.get? c=some o)->(∃o,h'.get? e=some o/\o.cls=.type "StopIteration")->E (.ref e) {s with heap:=h'}) :
  wpAny @7 A (Builtin.«zip.__next__» ⟨[.ref z],[]⟩) Q E s:=by
 show 1;refine a_ (K_ hz rfl (x:=rawInt T) rfl ?_);refine(show wpAny _ _ (loadIfAlive ((T:Int).toNat) >>= _) _ _ _ from a_ (mh ?_));rw[Vc,hT];simp only[Option.isNone_some,D_,UU];refine a_ (K_ hz rfl (x:=.bool bz) rfl ?_);refine bB (Q:=λa s1=>a=false/\∃g0:YD,s1={s with heap:=g0}/\l4 g0 z TI TO (rawInt T) true/\(∀c o,c≠z->s.heap.get? c=some o->g0.get? c=some o)/\g0.objs.size=s.heap.objs.size) ?_ λa s1 h0=>?_
 .cases bz with
  | true=>exact e_ ⟨rfl,s.heap,rfl,hz,λ_ _ _ e=>e,rfl⟩
  | false=>exact a_ (P_ hz @8 λg0 z0 s0=>e_ ⟨rfl,g0,rfl,z0,λc o c1 e=>s0.extBut c o c1 e,s0.1⟩)
 obtain⟨rfl,g0,rfl,z0,k0,Tg⟩:=h0;simp only[D_,UU];rw[<- WS];simp only[WN,XD];refine a_ (a_ (a_ (F_ (show wpAny _ _ (Builtin.SmallTypes.nextOf (.ref i1) >>= _) _ _ _ from ?_))));cases hx:xs[k1]? with
 | none=>exact a_ (S1.fin hh (S1.itx h1 λo e=>k0 _ o D.i1z e) (S1.atx a1 λo e=>k0 _ o D.l1z e) hx λg1 e s1 he=>hE g1 e (λc o c1 c2 c3 q=>s1 _ _ c2 (k0 c o c1 q)) he)
 | some x=>
  have hy:ys[k2]?=none:=by
   rcases wQ with h | h
   .rw[hx]at h;cases h
   .exact h
  refine a_ (S1.nxt (S1.itx h1 λo e=>k0 _ o D.i1z e) (S1.atx a1 λo e=>k0 _ o D.l1z e) hx λg1 it1' s1=>e_ ?_)
  replace s1:Heap.SameBut i1 g0 g1:=s1
  refine e_ (a_ (a_ (F_ (show wpAny _ _ (Builtin.SmallTypes.nextOf (.ref i2) >>= _) _ _ _ from ?_))));exact a_ (S2.fin hh (S2.itx (S2.itx h2 λo e=>k0 _ o D.i2z e) (jo s1.extBut D.i12.symm)) (S2.atx (S2.atx a2 λo e=>k0 _ o D.l2z e) (jo s1.extBut D.l2i1)) hy λg2 e s2 he=>hE g2 e (λc o c1 c2 c3 q=>s2 _ _ c3 (s1.extBut _ _ c2 (k0 c o c1 q))) he)
def yW(z TI TO:YH)(base:Nat):Nat->YD->Prop
 | 0,h=>IsZip h z TI TO .none/\∃a b,IsPair h TO a b
 | _+1,h=>∃b,l4 h z TI TO (rawInt (base:Int)) b
theorem F.zip_no_len:typeLookup (.type "zip") "__len__"=pure none:=by rw[typeLookup_type,builtinLookup_eq_fast];kernel_rfl
theorem F.zip_no_hint:typeLookup (.type "zip") "__length_hint__"=pure none:=by rw[typeLookup_type,builtinLookup_eq_fast];kernel_rfl
theorem v3(hh:A.handled=none)(S1:Src prog w i1 l1 mG ua)(S2:Src prog w i2 l2 it2 at2)(D:ZipApart z TI TO i1 i2 l1 l2)(IB:yW z TI TO base k s.heap)(gF:∀j,j<k->∃o,s.heap.get? (base+j)=some o)(mS:IsPair s.heap TI (.ref i1) (.ref i2))
  (h1:mG k s.heap) (h2:it2 k s.heap) (a1:ua xs s.heap) (a2:at2 ys s.heap) (wQ:xs[k]?=none\/ys[k]?=none)
  (hQ:∀h',(∀c o,c≠z->c≠TO->c≠i1->c≠i2->s.heap.get? c=some o->h'.get? c=some o)->Q none {s with heap:=h'}):wpAny @7 A (pyNext (.ref z)) Q E s:=by
 cases k with
 | zero=>
  obtain⟨hz,a,b,Al⟩:=IB;exact Bk hh S1 S2 D hz mS Al h1 h2 a1 a2 wQ hQ
 | succ k=>
  obtain⟨b,hz⟩:=IB;obtain⟨oT,hT⟩:=gF 0 (Nat.succ_pos _);have O3:s.TypeIs (.ref z) "zip":=⟨_,hz,rfl⟩;unfold pyNext;refine a_ (VV (UM (name:="__next__") O3 VO (UJ VO O3 Xl (rK (T:=base) hh S1 S2 D hz hT mS h1 h2 a1 a2 wQ λh' e hk he=>?_) (W9 _))));obtain⟨o,ho,hc⟩:=he;exact a_ (Xm (T:="StopIteration") (b:=true) ⟨o,ho,hc⟩ XF (e_ (hQ _ λc o c1 _ c3 c4 q=>hk c o c1 c3 c4 q)))
theorem sO(S1:Src prog w i1 l1 mG ua)(S2:Src prog w i2 l2 it2 at2)(D:ZipApart z TI TO i1 i2 l1 l2)(hsz:s.heap.objs.size=base+k)(IB:yW z TI TO base k s.heap)(gF:∀j,j<k->∃o,s.heap.get? (base+j)=some o)(mS:IsPair s.heap TI (.ref i1) (.ref i2))
  (h1:mG k s.heap) (h2:it2 k s.heap) (a1:ua xs s.heap) (a2:at2 ys s.heap) (hx:xs[k]?=some x) (hy:ys[k]?=some y)
  (hQ:∀h',yW z TI TO base (k+1) h'->mG (k+1) h'->it2 (k+1) h'->IsPair h' (base+k) x y->h'.objs.size=base+(k+1)->(∀c o,c≠z->c≠TO->c≠i1->c≠i2->s.heap.get? c=some o->h'.get? c=some o)->Q (some (.ref (base+k))) {s with heap:=h'}):wpAny @7 A (pyNext (.ref z)) Q E s:=by
 cases k with
 | zero=>
  obtain⟨hz,a,b,Al⟩:=IB;have Ti:z<s.heap.objs.size:=n_ hz;refine BQ S1 S2 D hz mS Al h1 h2 a1 a2 hx hy λg h' b1 b2 b3 b4 b5 b6 b7 b8=>?_;rw[hsz]at b1 b5 b8 Ti ⊢;have hp:IsPair h' (base+0) x y:=b7 _ _ (UC Ti) (by rw[<- b5];exact o_ _ rfl);exact hQ h' ⟨false,b1⟩ b3 b4 hp b8 λc o c1 c2 c3 c4 q=>b7 c o c1 (d_ _ (b6 c o c1 c2 c3 c4 q))
 | succ k=>
  obtain⟨b,hz⟩:=IB;obtain⟨oT,hT⟩:=gF 0 (Nat.succ_pos _);have O3:s.TypeIs (.ref z) "zip":=⟨_,hz,rfl⟩;unfold pyNext;refine a_ (VV (UM (name:="__next__") O3 VO (UJ VO O3 Xl (BW (T:=base) S1 S2 D hz hT mS h1 h2 a1 a2 hx hy λg b1 b2 b3 b4 b5=>e_ ?_) (W9 _))));have hg:(g.push {cls:=.type "tuple",data:=.seq #[x,y]}).get? (base+(k+1))=some {cls:=.type "tuple",data:=.seq #[x,y]}:=by rw[<- hsz,<- b4];exact o_ _ rfl
  rw[hsz];exact hQ _ ⟨true,d_ _ b1⟩ (S1.itx b2 λo q=>d_ _ q) (S2.itx b3 λo q=>d_ _ q) hg (by rw[UP,b4,hsz];rfl) λc o c1 _ c3 c4 q=>d_ _ (b5 c o c1 c3 c4 q)
theorem DQ(hh:A.handled=none)(S1:Src prog w i1 l1 mG ua)(S2:Src prog w i2 l2 it2 at2)(D:ZipApart z TI TO i1 i2 l1 l2)(hS:S≠z/\S≠TI/\S≠TO/\S≠i1/\S≠i2/\S≠l1/\S≠l2)(base:Nat)(hb:z<base/\TI<base/\TO<base/\i1<base/\i2<base/\S<base)(hn:xs.length<=1000000) :
  ∀(m k:Nat)(s:YA)(c:Nat),min xs.length ys.length-k=m->k<=min xs.length ys.length->s.heap.objs.size=base+k->yW z TI TO base k s.heap->IsPair s.heap TI (.ref i1) (.ref i2)->mG k s.heap->it2 k s.heap->ua xs s.heap->at2 ys s.heap->
   (∀j x y,j<k->xs[j]?=some x->ys[j]?=some y->IsPair s.heap (base+j) x y)->s.heap.get? S=some {cls:=.type "list",dict:=none,data:=.seq ((List.range k).map λj=>Value.ref (base+j)).toArray c,slots:=#[]}->
   (∀h' c',(∀b o,b<base->b≠S->b≠z->b≠TO->b≠i1->b≠i2->s.heap.get? b=some o->h'.get? b=some o)->(∀j x y,j<min xs.length ys.length->xs[j]?=some x->ys[j]?=some y->IsPair h' (base+j) x y)->
    h'.get? S=some {cls:=.type "list",dict:=none,data:=.seq ((List.range (min xs.length ys.length)).map λj=>Value.ref (base+j)).toArray c',slots:=#[]}->R (.ok (.ret res)) {s with heap:=h'})->
   codeAny @7 A (.builtin "list.extend.loop" ⟨[.ref S,.ref z,res],[]⟩) R s:=by
 intro m
 induction m with
 | zero=>
  intro k s c hk hle hsz IB mS h1 h2 a1 a2 made hSl hR;have hkn:k=min xs.length ys.length:=by omega
  have gF:∀j,j<k->∃o,s.heap.get? (base+j)=some o:=λj hj=>by
   have e1:j<xs.length:=by omega
   have e2:j<ys.length:=by omega
   exact⟨_,made j _ _ hj (l_ e1) (l_ e2)⟩
  refine V4 F.entry_extend_loop ?_;rw[Wu WE _];refine(show wpAny _ A.in1 (pyNext (.ref z) >>= _) _ _ s from a_ (v3 (A:=A.in1) hh S1 S2 D IB gF mS h1 h2 a1 a2 (by rcases Nat.le_total xs.length ys.length with h | h;exact .inl (E_ @1);exact .inr (E_ @1)) λh' kk=>e_ ?_));subst hkn;refine hR h' c (λb o _ b1 b2 b3 b4 b5 q=>kk b o b2 b3 b4 b5 q) (λj x y hj hx hy=>?_) ?_
  .have B4:base<=base+j:=UR _ _;exact kk _ _ (UC (q_ hb.1 B4)) (UC (q_ hb.2.2.1 B4)) (UC (q_ hb.2.2.2.1 B4)) (UC (q_ hb.2.2.2.2.1 B4)) (made j x y hj hx hy)
  .exact kk _ _ hS.1 hS.2.2.1 hS.2.2.2.1 hS.2.2.2.2.1 hSl
 | succ m ih=>
  intro k s c hk hle hsz IB mS h1 h2 a1 a2 made hSl hR;have ix:k<min xs.length ys.length:=by omega
  have e1:k<xs.length:=by omega
  have e2:k<ys.length:=by omega
  have gF:∀j,j<k->∃o,s.heap.get? (base+j)=some o:=λj hj=>⟨_,made j _ _ hj (l_ @1) (l_ @1)⟩;refine V4 F.entry_extend_loop ?_;rw[Wu WE _];refine(show wpAny _ A.in1 (pyNext (.ref z) >>= _) _ _ s from a_ (sO (A:=A.in1) S1 S2 D hsz IB gF mS h1 h2 a1 a2 (l_ e1) (l_ e2) λh' n1 n2 n3 n4 n5 kk=>?_));have big:∀j,z≠base+j/\TO≠base+j/\i1≠base+j/\i2≠base+j/\S≠base+j:=λj=>by
   have B4:base<=base+j:=UR _ _;exact⟨A_ (q_ hb.1 B4),A_ (q_ hb.2.2.1 B4),A_ (q_ hb.2.2.2.1 B4),A_ (q_ hb.2.2.2.2.1 B4),A_ (q_ hb.2.2.2.2.2 B4)⟩
  have hS1:=kk S _ hS.1 hS.2.2.1 hS.2.2.2.1 hS.2.2.2.2.1 hSl;have hsn:=UI;refine(show wpAny _ A.in1 (updateSeq S (·.push (.ref (base+k))) >>= _) _ _ _ from a_ (wpAny_updateSeq hS1 rfl (e_ ⟨plainId_quiet WE _,?_⟩) (by simp;omega) (by simp;omega)));have LR:∃c2,(h'.update S (Obj.mapSeq (·.push (Value.ref (base+k))))).get? S=some {cls:=.type "list",dict:=none,data:=.seq ((List.range (k+1)).map λj=>Value.ref (base+j)).toArray c2,slots:=#[]}:=by
   have q:=WO (c:="list") hS1 (·.push (Value.ref (base+k)));rw[List.push_toArray,show((List.range k).map λj=>Value.ref (base+j))++[Value.ref (base+k)]=(List.range (k+1)).map λj=>Value.ref (base+j) by rw[List.range_succ,J_];rfl]at q;exact⟨_,q⟩
  obtain⟨c2,LR⟩:=LR;have oth:∀b o,b≠S->h'.get? b=some o->(h'.update S (Obj.mapSeq (·.push (Value.ref (base+k))))).get? b=some o:=λb o hb' q=>(M_ _ _ (US hb')).trans q;refine ih (k+1) _ c2 @1 @1 (by rw[Wz];exact n5) ?_ (oth _ _ hS.2.1.symm (kk _ _ D.TIz D.TITO D.TIi1 D.TIi2 mS)) (S1.itx n2 λo q=>oth _ o hS.2.2.2.1.symm q) (S2.itx n3 λo q=>oth _ o hS.2.2.2.2.1.symm q)
   (S1.atx a1 λo q=>oth _ o hS.2.2.2.2.2.1.symm (kk _ o D.l1z D.l1TO D.l1i1 D.l1i2 q)) (S2.atx a2 λo q=>oth _ o hS.2.2.2.2.2.2.symm (kk _ o D.l2z D.l2TO D.l2i1 D.l2i2 q)) (λj x y hj hx hy=>?_) LR λh'' c' keep made' hS''=>?_
  .obtain⟨b,q⟩:=n1;exact⟨b,oth _ _ hS.1.symm q⟩
  .by_cases hjk:j=k
   .subst hjk;rw[l_ e1]at hx;cases hx;rw[l_ e2]at hy;cases hy;exact oth _ _ (big j).2.2.2.2.symm n4
   .exact oth _ _ (big j).2.2.2.2.symm (kk _ _ (big j).1.symm (big j).2.1.symm (big j).2.2.1.symm (big j).2.2.2.1.symm (made j x y @1 hx hy))
  .exact hR h'' c' (λb o q0 q1 q2 q3 q4 q5 q=>keep b o q0 q1 q2 q3 q4 q5 (oth b o q1 (kk b o q2 q3 q4 q5 q))) made' hS''
end
theorem many(I:L2.Inv X pins σ H s)(k:∀b o,s.heap.get? b=some o->h'.get? b=some o)(sm:aO H H')
  (nw:∀b o,H b=none->H' b=some o->s.heap.objs.size<=b/\bE X.prog X.w H' h' b o):L2.Inv X pins σ H' {s with heap:=h',toks:=t'}:=by
 refine I.un ⟨λb o q _ _ _=>k b o q,λb o q _ _ _=>⟨o.slots,k b o q⟩,λb o q n _=>?_,λb o q _=>⟨o,k b o q⟩,λb xs q=>sm _ _ q,λb o u q=>sm _ _ q,λb ps q=>⟨#[],by rw[sm _ _ q];simp⟩⟩ λb u e=>?_
 .cases e:H' b with
  | none=>rfl
  | some o'=>exact absurd (q_ (n_ q) (nw b o' n e).1) (VU _)
 .cases e2:H b with
  | none=>exact(nw b u e2 e).2
  | some u'=>
   have:=sm _ _ e2;rw[e]at this;cases this;exact(I.hok b u e2).stay (λc v _ q=>k c v q) (λc q=>sm _ _ q) λc xs q=>sm _ _ q
section
variable {prog:YB}{w:YE}{A:YC}{E:Yh}{s:YA}{z TI TO i1 i2 l1 l2:YH}{xs ys:Yo}
theorem pQ(hh:A.handled=none)(D:ZipApart z TI TO i1 i2 l1 l2)(hz:IsZip s.heap z TI TO .none)(mS:IsPair s.heap TI (.ref i1) (.ref i2))(Al:IsPair s.heap TO .none .none)(h1:s.heap.IsListIter i1 l1 0)(h2:s.heap.IsListIter i2 l2 0)(a1:s.heap.IsList l1 xs.toArray)(a2:s.heap.IsList l2 ys.toArray)
  (hn:xs.length<=1000000)
  (hQ:∀h' c',(∀b o,b<s.heap.objs.size->b≠z->b≠TO->b≠i1->b≠i2->s.heap.get? b=some o->h'.get? b=some o)->(∀j x y,j<min xs.length ys.length->xs[j]?=some x->ys[j]?=some y->IsPair h' (s.heap.objs.size+1+j) x y)->
   h'.get? s.heap.objs.size=some {cls:=.type "list",dict:=none,data:=.seq ((List.range (min xs.length ys.length)).map λj=>Value.ref (s.heap.objs.size+1+j)).toArray c',slots:=#[]}->Q (.ref s.heap.objs.size) {s with heap:=h'}) :
  wpAny @7 A (call (.type "list") [.ref z]) Q E s:=by
 have lz:=n_ hz;have lI:=n_ mS;have lO:=n_ Al;have Rz:i1<s.heap.objs.size:=by obtain⟨_,q,_⟩:=h1;exact n_ q
 have RA:i2<s.heap.objs.size:=by obtain⟨_,q,_⟩:=h2;exact n_ q
 have m1:l1<s.heap.objs.size:=by obtain⟨_,q,_⟩:=a1;exact n_ q
 have m2:l2<s.heap.objs.size:=by obtain⟨_,q,_⟩:=a2;exact n_ q
 refine callType_codes (Q₁:=λobj s₁=>obj=.ref s.heap.objs.size/\s₁={s with heap:=s.heap.push {cls:=.type "list",data:=.seq #[]}}) F.called_list (F.typeCall_list_1 _) F.entry_list_init (code_list_new _ ⟨rfl,rfl⟩) λobj s₁ h₁=>?_;obtain⟨rfl,rfl⟩:=h₁;have hS:(s.heap.push {cls:=.type "list",data:=.seq #[]}).get? s.heap.objs.size=some {cls:=.type "list",data:=.seq #[]}:=o_ _ rfl;refine⟨⟨_,hS,rfl⟩,F.args_list_init_2 _ _,?_⟩;generalize hSS:s.heap.objs.size=S at *;refine(show wpAny _ A.in1.in1 (Builtin.List.listItems (.ref S) >>= λold=>Builtin.List.listUpdate (.ref S) (λ_=>#[]) >>= λ_=>letGo old.toList.reverse >>= λ_=>Builtin.List.listExtendWith (.ref S) (.ref z) .none) _ _ _ from ?_);refine a_ (listItems_at hS rfl (a_ (listUpdate_at hS rfl ?_ (VT _) @8)));have e1:=WO (c:="list") hS (λ_=>(#[]:Array Yz));have o1:∀b o,b≠S->(s.heap.push {cls:=.type "list",data:=.seq #[]}).get? b=some o->((s.heap.push {cls:=.type "list",data:=.seq #[]}).update S (Obj.mapSeq λ_=>(#[]:Array Yz))).get? b=some o:=λb o hb q=>(M_ _ _ (US hb)).trans q;refine a_ (WY ?_);generalize hhA:(s.heap.push {cls:=.type "list",data:=.seq #[]}).update S (Obj.mapSeq λ_=>(#[]:Array Yz))=hA at e1 o1;have szA:hA.objs.size=S+1:=by rw[<- hhA,Wz,UP,hSS]
 have old:∀b o,b<S->s.heap.get? b=some o->hA.get? b=some o:=λb o hb q=>o1 b o (A_ hb) (d_ _ q);have zA:IsZip hA z TI TO .none:=old _ _ lz hz;have tA:(⟨hA,s.gens,s.drawn,s.toks,s.os⟩:YA).TypeIs (.ref z) "zip":=⟨_,zA,rfl⟩;have Tj:S≠z:=UC lz;show wpAny _ A.in1.in1 (Builtin.List.listExtendWith (.ref S) (.ref z) .none) _ _ ⟨hA,s.gens,s.drawn,s.toks,s.os⟩;unfold Builtin.List.listExtendWith;refine a_ (Xx tA ?_);have q1:Builtin.List.listSameRef (.ref S) (.ref z)=false:=by simp[Builtin.List.listSameRef,Tj]
 have q2:(Value.type "zip"==Value.type "list")=false:=by decide
 have q3:(Value.type "zip"==Value.type "tuple")=false:=by decide
 simp only[q1,q2,q3,Bool.or_false,D_,UU];refine a_ (wpAny_pyIter_zip zA (a_ (F_ ?_)));unfold Builtin.List.listLengthHint;refine a_ (VN tA F.zip_no_len ?_);refine(show wpAny _ _ (specialOf (Value.ref z) "__length_hint__" >>= _) _ _ _ from a_ (VN tA F.zip_no_hint (e_ ?_)));refine(show wpAny _ _ (rule "list.extend.makes-room" >>= λ_=>Builtin.List.listTouch (.ref S) >>= λ_=>again (.builtin "list.extend.loop" ⟨[.ref S,.ref z,.none],[]⟩)) _ _ _ from a_ (WV (a_ ?_)));refine(show wpAny _ _ (updateSeq S (·.push .none) >>= λ_=>updateSeq S (·.pop)) _ _ _ from a_ (wpAny_updateSeq e1 rfl ?_ (VT _) @8));have e2:=WO (c:="list") e1 (·.push Value.none);refine wpAny_updateSeq (hz:=(show(1:Nat)<=sizeLine by decide)) e2 rfl ?_ @8;have e3:=WO (c:="list") e2 (·.pop);have o3:∀b o,b<S->s.heap.get? b=some o->((hA.update S (Obj.mapSeq (·.push Value.none))).update S (Obj.mapSeq (·.pop))).get? b=some o:=λb o hb q=>(M_ _ _ (UC hb)).trans ((M_ _ _ (UC hb)).trans (old b o hb q));have F1:((hA.update S (Obj.mapSeq (·.push Value.none))).update S (Obj.mapSeq (·.pop))).objs.size=S+1:=by rw[Wz,Wz,szA]
 generalize (hA.update S (Obj.mapSeq (·.push Value.none))).update S (Obj.mapSeq (·.pop))=hB at e3 o3 F1;refine e_ ⟨plainId_quiet WE _,?_⟩;have JE:∀{b:YH},b<S->b<S+1:=λh=>Vn h;refine DQ (A:=A.in1) (xs:=xs) (ys:=ys) (show A.in1.handled=none from hh) (KR i1 l1) (KR i2 l2) D ⟨Tj,UC lI,UC lO,UC Rz,UC RA,UC m1,UC m2⟩ (S+1) ⟨JE lz,JE lI,JE lO,JE Rz,JE RA,Xk _⟩ hn _ 0 ⟨hB,s.gens,s.drawn,s.toks,s.os⟩ 2 rfl (VT _) F1 ⟨o3 _ _ lz hz,_,_,o3 _ _ lO Al⟩ (o3 _ _ lI mS)
  (h1.at λo q=>o3 _ o Rz q) (h2.at λo q=>o3 _ o RA q) (a1.at λo q=>o3 _ o m1 q) (a2.at λo q=>o3 _ o m2 q) (λj x y hj=>absurd hj (Nat.not_lt_zero _)) (by simpa using e3) λh' c' keep made LQ=>?_
 exact⟨rfl,hQ h' c' (λb o b0 b1 b2 b3 b4 q=>keep b o (JE b0) (A_ b0) b1 b2 b3 b4 (o3 b o b0 q)) made LQ⟩
end
section
variable {X:Cx}{l r:YI}{fa fb:Fe}{pos pos2 p p2:Pos}
def eO(H:Hp)(base:Nat)(us vs:YR):Hp:=λb=>if base<=b/\b<base+min us.length vs.length then some (.tup [(us[b-base]?).getD .non,(vs[b-base]?).getD .non])else H b
theorem E4(hu:us[j]?=some u)(hv:vs[j]?=some v):eO H base us vs (base+j)=some (.tup [u,v]):=by
 have h1:=(k_.mp hu).1;have h2:=(k_.mp hv).1;unfold eO;rw[h_ ⟨UR _ _,Nat.add_lt_add_left (Nat.lt_min.mpr ⟨h1,h2⟩) _⟩,show base+j-base=j from Nat.add_sub_cancel_left _ _,hu,hv];rfl
theorem gq(h:b<base):eO H base us vs b=H b:=by
 unfold eO;rw[i_ (λz=>absurd (q_ h z.1) (VU _))]
def Us(K:Fg)(ta:TA):TE:=λσ H Q=>ta σ H λws H1=>∃(l1 l2:YH)(us vs:YR),ws=[.ref l1,.ref l2]/\cY K H1 l1 us/\cY K H1 l2 vs/\us.length<=1000000/\
 ∀(S:YH),(∀b,S<=b->H1 b=none)->Q (.ref S) (upd (eO H1 (S+1) us vs) S (.lst ((List.range (min us.length vs.length)).map λj=>V.ref (S+1+j))))
theorem MT(hc:X.calm=true)(RB:Gl X "list")(LJ:X.mg "list"=none)(hg:Gl X "zip")(hm:X.mg "zip"=none)(ha:PA X [l,r] ta)(hs:starEach [l,r] X.env=[(false,eval l X.env),(false,eval r X.env)]:=by rfl)(F8:starEach [r] X.env=[(false,eval r X.env)]:=by rfl)
  (Cc:starEach [.Call (.Name "zip" p2) [l,r] [] pos2] X.env=[(false,eval (.Call (.Name "zip" p2) [l,r] [] pos2) X.env)]:=by rfl):PE X (.Call (.Name "list" p) [.Call (.Name "zip" p2) [l,r] [] pos2] [] pos) (Us X.K ta):=by
 intro pins s σ H Q I h;refine VH (gU I RB LJ W5 ?_ @2 @2);refine Vw ?_ Cc rfl;rw[Cc];refine(show wpAny _ _ (spliced ((false,eval (.Call (.Name "zip" p2) [l,r] [] pos2) X.env)::backTo pos [])) _ _ s from WR ?_);refine Call_ (gU I hg hm Bq (Vw (bB (ha pos2 pins s σ H _ I h) λus s1 az=>?_) (by rw[hs,F8]) (by rw[F8];rfl)));obtain⟨ws,H1,I1,r1,q1⟩:=az;obtain⟨l1,l2,RC,RD,e,m1,m2,hn,q⟩:=q1;subst e;obtain⟨u,v,rfl,ru,rv⟩:=r1.two;cases ru;cases rv;obtain⟨xs,rx,p1,_⟩:=I1.list m1;obtain⟨ys,ry,p2',_⟩:=I1.list m2;have t1:=p1.isList;have t2:=p2'.isList;have lx:=rx.length;have ly:=ry.length;have JE:l1<s1.heap.objs.size:=by obtain⟨o,e,_⟩:=t1;exact n_ e
 have lt2:l2<s1.heap.objs.size:=by obtain⟨o,e,_⟩:=t2;exact n_ e
 obtain⟨z4,gz,gi,go,g1,g2,z5,old⟩:=LI "list_iterator" "list_iterator" s1.heap l1 l2;refine callType_new F.called_zip @2 (F.typeCall_zip_2 _ _) (F.newCall_zip_2 _ _) (λobj=>F.args_object_init_3 obj _ _) F.entry_zip_new (DE l1 l2 xs.toArray ys.toArray) ⟨t1,t2,?_⟩;show _/\_;rw[z4];refine⟨⟨_,gz,rfl⟩,XR ?_⟩;refine pQ (I1.ok.hd hc) (KM _ JE lt2) gz gi go ⟨_,g1,rfl,rfl⟩ ⟨_,g2,rfl,rfl⟩ (t1.at λo q=>old _ o q) (t2.at λo q=>old _ o q) @1 λh' c' keep made hS=>?_;rw[z5]at keep made hS ⊢;refine⟨.ref (s1.heap.objs.size+5),_,many (s:=s1) (h':=h') (H':=upd (eO H1 (s1.heap.objs.size+5+1) RC RD) (s1.heap.objs.size+5) (.lst ((List.range (min RC.length RD.length)).map λj=>V.ref (s1.heap.objs.size+5+1+j)))) (t':=s1.toks) I1 (λb o q=>?_) (λb o q=>?_) (λb o n q=>?_),rfl,q _ λb hb=>I1.hok.fresh (B_ (UR _ _) hb)⟩
 .have hb:=n_ q;exact keep b o (q_ hb (UR _ _)) (A_ (q_ hb (UR _ _))) (A_ (q_ hb (UR _ _))) (A_ hb) (A_ (q_ hb (UR _ _))) (old b o q)
 .have hb:b<s1.heap.objs.size:=by
   rcases X9 b s1.heap.objs.size with h | h
   .exact h
   .rw[I1.hok.fresh h]at q;cases q
  rw[ax (A_ (q_ hb (UR _ _))),gq (q_ hb (B_ (UR _ 5) (UR _ 1)))];exact q
 .by_cases hbS:b=s1.heap.objs.size+5
  .subst hbS;rw[au]at q;cases q;refine⟨UR _ _,?_⟩;rw[<- lx,<- ly]at hS;refine⟨by have:=UI;simp;omega,_,c',?_,hS⟩;have:∀L:Yv,aB (L.map λj=>V.ref (s1.heap.objs.size+5+1+j)) (L.map λj=>Value.ref (s1.heap.objs.size+5+1+j)):=λL=>by
    induction L with
    | nil=>exact .nil
    | cons a L ih=>exact .cons rfl ih
   exact this _
  .rw[ax hbS]at q;unfold eO at q
   split at q
   .rename_i hin;cases q;refine⟨B_ (UR _ 6) hin.1,?_⟩;obtain⟨j,B4⟩:=Nat.exists_eq_add_of_le hin.1;have hj:j<min RC.length RD.length:=by rw[B4]at hin;exact Nat.lt_of_add_lt_add_left hin.2
    subst B4;have e1:RC[j]?=some (RC[j]'(q_ hj (Nat.min_le_left _ _))):=l_ _;have e2:RD[j]?=some (RD[j]'(q_ hj (Nat.min_le_right _ _))):=l_ _;obtain⟨x,hx,rx'⟩:=rx.get e1;obtain⟨y,hy,ry'⟩:=ry.get e2;rw[show s1.heap.objs.size+5+1+j-(s1.heap.objs.size+5+1)=j from Nat.add_sub_cancel_left _ _,e1,e2];refine⟨by have:=UI;simp;omega,[x,y],.cons rx' (.cons ry' .nil),?_⟩;exact⟨_,made j x y (by rw[<- lx,<- ly];exact hj) hx hy,rfl,_,rfl⟩
   .rw[n]at q;cases q
theorem av.of_get{K:Fg}{H:Hp}:∀{ds:YO}{vs:YR},ds.length=vs.length->(∀(j:Nat) d v,ds[j]?=some d->vs[j]?=some v->Rep K H d v)->av K H ds vs
 | [],[],_,_=>rfl
 | [],_::_,h,_=>by simp at h
 | _::_,[],h,_=>by simp at h
 | d::ds,v::vs,h,g=>⟨v,vs,rfl,g 0 d v rfl rfl,av.of_get (by simpa using h) λj d' v' h1 h2=>g (j+1) d' v' (by simpa using h1) (by simpa using h2)⟩
def Km:D->D->YQ
 | .lst xs,.lst ys=>if xs.length<=1000000 then some (.lst (pairs xs ys))else none
 | _,_=>none
theorem Kl(bP:X.calm=true)(LJ:X.mg "list"=none)(hm:X.mg "zip"=none)(ha:PD X .cl l fa)(hb:PD X .cl r fb)(RB:Gl X "list":=by rfl)(hg:Gl X "zip":=by rfl)(hs:starEach [l,r] X.env=[(false,eval l X.env),(false,eval r X.env)]:=by rfl)(F8:starEach [r] X.env=[(false,eval r X.env)]:=by rfl)
  (Cc:starEach [.Call (.Name "zip" p2) [l,r] [] pos2] X.env=[(false,eval (.Call (.Name "zip" p2) [l,r] [] pos2) X.env)]:=by rfl):PD X .nw (.Call (.Name "list" p) [.Call (.Name "zip" p2) [l,r] [] pos2] [] pos) (ar Km fa fb):=
 PE.imp (MT bP RB LJ hg hm (aP ha (aP hb b9 F8) (by rw[hs,F8])) hs F8 Cc) λσ H Q az=>by
  obtain⟨env,B,Z,d,R,e,k⟩:=az;obtain⟨dx,dy,e1,e2,e3⟩:=wu e;cases dx<;>try cases e3
  all_goals (cases dy<;>try cases e3)
  rename_i xs ys;obtain⟨hl,rfl⟩:=qe e3;refine⟨env,B,Z,_,R,e1,λv Z1 H1 x1 g1=>⟨env,B,Z1,_,R.ext x1,e2,λu Z2 H2 x2 g2=>?_⟩⟩;obtain⟨l1,us,rfl,q1,r1⟩:=g1;obtain⟨l2,vs,rfl,q2,r2⟩:=g2;have lu:=r1.len;have lv:=r2.len;refine⟨l1,l2,us,vs,rfl,x2.zh.seq (x2.z.seq q1),x2.zh.seq q2,by omega,λS hS=>?_⟩;have L6:∀b o,H2 b=some o->b<S:=λb o q=>by
   rcases X9 b S with h | h
   .exact h
   .rw[hS b h]at q;cases q
  have lowZ:∀b o,Z2 b=some o->b<S:=λb o q=>L6 b o (x2.zh b o q);have sH:aO H2 (upd (eO H2 (S+1) us vs) S (.lst ((List.range (min us.length vs.length)).map λj=>V.ref (S+1+j)))):=λb o q=>by
   have:=L6 b o q;rw[ax (A_ this),gq (Vn this)];exact q
  have sZ:aO Z2 (eO Z2 (S+1) us vs):=λb o q=>by rw[gq (Vn (lowZ b o q))];exact q
  have zh:aO (eO Z2 (S+1) us vs) (upd (eO H2 (S+1) us vs) S (.lst ((List.range (min us.length vs.length)).map λj=>V.ref (S+1+j)))):=λb o q=>by
   unfold eO at q
   split at q
   .rename_i hin;cases q;rw[ax (UC hin.1)];unfold eO;rw[h_ hin]
   .exact sH b o (x2.zh b o q)
  have x3:Ex Z2 H2 (eO Z2 (S+1) us vs) (upd (eO H2 (S+1) us vs) S (.lst ((List.range (min us.length vs.length)).map λj=>V.ref (S+1+j)))):=⟨sH,sZ,zh,λa ha hz=>by
   cases e:H2 a with
   | none=>exact absurd e ha
   | some o=>rw[gq (Vn (L6 a o e))];exact hz⟩
  have x13:=(x1.trans x2).trans x3;have Tn:H2 S=none:=hS S (m_ _);refine k _ _ _ x13 ⟨S,_,_,rfl,rfl,(x1.trans x2).h.free Tn,au,by rw[gq (Xk _)];exact x2.zh.free Tn,av.of_get (by rw[pairs_len];simp[lu,lv]) λj d v hd hv=>?_⟩;have hj:j<min us.length vs.length:=by have:=(k_.mp hv).1;simpa using this
  have To:j<us.length:=q_ hj (Nat.min_le_left _ _);have Tp:j<vs.length:=q_ hj (Nat.min_le_right _ _);rw[x_,VP hj]at hv;cases hv;obtain⟨a,ea,ra⟩:=r1.getV (l_ To);obtain⟨b,eb,rb⟩:=r2.getV (l_ Tp);rw[rA ea eb]at hd;cases hd;exact⟨S+1+j,_,rfl,cR.of (E4 (l_ To) (l_ Tp)),⟨_,_,rfl,Rep.mono (x2.z.trans sZ) _ ra,_,_,rfl,Rep.mono sZ _ rb,rfl⟩⟩
end
section
variable {X:Cx}
theorem BN(hc:X.calm=true):dG X (.builtin "max") (λxs H Q=>∃i j k,xs=[.int i,.int j,.int k]/\Q (.int (if j>i then(if k>j then k else j)else(if k>i then k else i))) H):=by
 intro pins s σ H xs us Q I r h;obtain⟨i,j,k,rfl,q⟩:=h;cases r with
 | cons h1 r=>
  cases r with
  | cons h2 r=>
   cases r with
   | cons h3 r=>
    cases r;obtain⟨t1,rfl⟩:=(show ∃t,_=Value.int i t from h1);obtain⟨t2,rfl⟩:=(show ∃t,_=Value.int j t from h2);obtain⟨t3,rfl⟩:=(show ∃t,_=Value.int k t from h3);refine max_three_ints (I.ok.hd hc) λh' tk kk=>⟨_,H,I.kept kk,?_,q⟩
    by_cases hj:j>i
    .rw[h_ hj,h_ hj]
     by_cases hk:k>j
     .rw[h_ hk,h_ hk];exact⟨_,rfl⟩
     .rw[i_ hk,i_ hk];exact⟨_,rfl⟩
    .rw[i_ hj,i_ hj]
     by_cases hk:k>i
     .rw[h_ hk,h_ hk];exact⟨_,rfl⟩
     .rw[i_ hk,i_ hk];exact⟨_,rfl⟩
def QZ(b:D->D->D->YQ)(fa fb fc:Fe):Fe:=λenv=>(fa env).bind λx=>(fb env).bind λy=>(fc env).bind λz=>b x y z
def EX:D->D->D->YQ
 | .int i,.int j,.int k=>some (.int (if j>i then(if k>j then k else j)else(if k>i then k else i)))
 | _,_,_=>none
variable {l r q:YI}{fa fb fc:Fe}{ga gb gc:Gr}{pos p:Pos}
theorem CN(hm:X.mg "max"=none)(bP:X.calm=true)(ha:PD X ga l fa)(hb:PD X gb r fb)(hc:PD X gc q fc)(hg:Gl X "max":=by rfl)
  (he:starEach [l,r,q] X.env=(false,eval l X.env)::starEach [r,q] X.env:=by rfl) (wK:starEach [r,q] X.env=(false,eval r X.env)::starEach [q] X.env:=by rfl) (OY:starEach [q] X.env=[(false,eval q X.env)]:=by rfl) (fy:(backTo pos (starEach [r,q] X.env)).any (·.1)=false:=by rfl) :
  PD X .cl (.Call (.Name "max" p) [l,r,q] [] pos) (QZ EX fa fb fc):=
 PE.imp (gx (BN bP) hg hm PyProof.Rows.boot_max (aP ha (aP hb (aP hc b9 OY) wK) he) @2 @2 he fy) λσ H Q az=>by
  obtain⟨env,B,Z,d,R,e,k⟩:=az;obtain⟨x,h1,e⟩:=b_.mp e;obtain⟨y,h2,e⟩:=b_.mp e;obtain⟨z,h3,e⟩:=b_.mp e;cases x<;>try cases e
  cases y<;>try cases e
  cases z<;>try cases e
  refine⟨env,B,Z,_,R,h1,λv Z1 H1 x1 g1=>⟨env,B,Z1,_,R.ext x1,h2,λu Z2 H2 x2 g2=>⟨env,B,Z2,_,(R.ext x1).ext x2,h3,λw Z3 H3 x3 g3=>?_⟩⟩⟩;cases g1.int;cases g2.int;cases g3.int;exact⟨_,_,_,rfl,k _ Z3 H3 ((x1.trans x2).trans x3) rfl⟩
end
section
variable {prog:YB}{w:YE}{A:YC}{E:Yh}{s:YA}
end
section
variable {prog:YB}{w:YE}{A:YC}{E:Yh}{s:YA}
end
section
variable {X:Cx}{l r:YI}{fa fb:Fe}{ga gb:Gr}{pos p:Pos}
end
end Mi
namespace Mi
open PySem L2
mutual
theorem uR:∀(d:D),pl d=true->g9 d d=true
 | .non,_=>by simp[g9]
 | .bl b,_=>by simp[g9]
 | .int i,_=>by simp[g9]
 | .str x,_=>by simp[g9]
 | .tup ds,h=>by unfold g9;exact lF ds (by unfold pl at h;exact h)
 | .lst ds,h=>by unfold g9;exact lF ds (by unfold pl at h;exact h)
 | .dct _,h=>by unfold pl at h;cases h
 | .st _,h=>by unfold pl at h;cases h
 | .ln _,h=>by unfold pl at h;cases h
 | .mp _ _ _,h=>by unfold pl at h;cases h
theorem lF:∀(ds:YO),gf ds=true->kQ ds ds=true
 | [],_=>by simp[kQ]
 | d::ds,h=>by
  unfold gf at h;rw[I_]at h;unfold kQ;rw[uR d h.1,lF ds h.2];rfl
end
theorem E5:∀(xs:YO),(∀x∈xs,pl x=true)->gf xs=true
 | [],_=>by simp[gf]
 | x::xs,h=>by
  unfold gf;rw[h x g_,E5 xs λy hy=>h y (f_ _ hy)];rfl
theorem zC(h:f env=some (.lst xs))(hp:gf xs=true):ar eJ f (bO fNil) env=some (.bl xs.isEmpty):=
 G0 h rfl (JP (by unfold dH gY;omega) (by unfold pl;rw[hp];rfl)) (Ag xs)
end Mi
namespace Mi
open PySem PySem.Spec PyProof.Rows L2
theorem CW:∀(l:List (α×β)),(l.map (·.1)).zip (l.map (·.2))=l
 | []=>rfl
 | (a,b)::l=>by rw[C_,C_,Vr,CW l]
theorem zT:∀{xs:List α}{ys:List β},xs.length=ys.length->(xs.zip ys).map (·.2)=ys
 | [],[],_=>rfl
 | [],_::_,h=>by simp at h
 | _::_,[],h=>by simp at h
 | x::xs,y::ys,h=>by rw[Vr,C_,zT (by simpa using h)]
def kx(x:Yx×YH):YL×YH:=(kk x.1,x.2)
theorem wy(hl:bs.length=ps.length):jR a ps bs h↔St.df (tupleKind (aJ P w)) a ((ps.zip bs).map kx) h:=by
 have e1:(ps.zip bs).map MV=((ps.zip bs).map kx).map (St.ent (tupleKind (aJ P w))):=by rw[O_];rfl
 have e2:(((ps.zip bs).map kx).map (·.1)).Nodup↔ps.Nodup:=by
  rw[O_,show((λx:YL×YH=>x.1) ∘ kx)=kk ∘ (λx:Yx×YH=>x.1)from rfl,<- O_,kc hl.symm];exact BK λx y=>yy
 constructor
 .rintro⟨o,es,ep,t,h1,h2,h3,h4,h5,h6,h7,h8⟩;exact⟨o,es,ep,t,h1,h2,h3,⟨by rw[<- e1];exact h4,h5,h6,h7⟩,e2.mpr h8⟩
 .rintro⟨o,es,ep,t,h1,h2,h3,⟨h4,h5,h6,h7⟩,h8⟩;exact⟨o,es,ep,t,h1,h2,h3,by rw[e1];exact h4,h5,h6,h7,e2.mp h8⟩
theorem xQ(a:YH)(ps:Ym)(bs:Ys):∀h1 h2:YD,jR a ps bs h1->(∀o,h1.get? a=some o->h2.get? a=some o)->jR a ps bs h2:=λh1 h2 ⟨o,es,ep,t,e,r⟩ k=>⟨o,es,ep,t,k o e,r⟩
def zr(ps:Ym):Ym:=ps.foldl ou []
def iO(xs:List (Yx×YH))(x:Yx×YH):List (Yx×YH):=if x.1∈xs.map (·.1)then xs else xs++[x]
theorem Hw(xs:List (Yx×YH))(x:Yx×YH):(iO xs x).map kx=St.js (xs.map kx) (kx x):=by
 unfold iO St.js;have e:(kx x).1∈(xs.map kx).map (·.1)↔x.1∈xs.map (·.1):=by
  rw[O_,t_,t_];constructor
  .rintro⟨y,hy,e⟩;exact⟨y,hy,yy e⟩
  .rintro⟨y,hy,e⟩;exact⟨y,hy,by show kk y.1=kk x.1;rw[e]⟩
 by_cases h:x.1∈xs.map (·.1)
 .rw[h_ h,h_ (e.mpr h)]
 .rw[i_ h,i_ (λz=>h (e.mp z)),J_];rfl
theorem rp:∀(l xs:List (Yx×YH)),(l.foldl iO xs).map kx=(l.map kx).foldl St.js (xs.map kx)
 | [],xs=>rfl
 | x::l,xs=>by rw[WJ,rp l,Hw];rfl
theorem pd:∀(l xs:List (Yx×YH)),(l.foldl iO xs).map (·.1)=(l.map (·.1)).foldl ou (xs.map (·.1))
 | [],xs=>rfl
 | x::l,xs=>by
  rw[WJ,pd l,C_,WJ];congr 1;unfold iO ou
  by_cases h:x.1∈xs.map (·.1)
  .rw[h_ h,h_ h]
  .rw[i_ h,i_ h,J_];rfl
theorem um:∀{l xs:List (Yx×YH)}{y:Yx×YH},y∈l.foldl iO xs->y∈xs\/y∈l
 | [],xs,y,h=>.inl h
 | x::l,xs,y,h=>by
  rcases um (l:=l) h with h | h
  .unfold iO at h
   split at h
   .exact .inl h
   .rcases UF.mp h with h | h
    .exact .inl h
    .exact .inr (by rw[z_.mp h];exact g_)
  .exact .inr (f_ _ h)
theorem jn.of_zip{K:Fg}{H:Hp}(l:List (Yx×YH))(h:∀x∈l,cR K H x.2 [.int x.1.1,.int x.1.2]):jn K H (l.map (·.1)) (l.map (·.2)):=by
 refine⟨by simp,λi p b h1 h2=>?_⟩;rw[x_]at h1 h2;obtain⟨x,hx,rfl⟩:=L_.mp h1;rw[hx]at h2;cases h2;exact h x (UW hx)
section
variable {X:Cx}{l r:YI}{fa fb:Fe}{ga gb:Gr}{pos p:Pos}{k:Nat}
theorem vA:∀{bs:Ys}{us:Yo},aB (bs.map V.ref) us->us=bs.map Value.ref
 | [],us,h=>by cases h;rfl
 | b::bs,us,h=>by
  cases h with
  | cons h1 h2=>cases(show _=Value.ref b from h1);rw[vA h2];rfl
def r6:YO->Option Ym
 | []=>some []
 | .tup [.int a,.int b]::r=>(r6 r).bind λps=>some ((a,b)::ps)
 | _=>none
theorem vI{K:Fg}{Z:Hp}:∀{ds:YO}{vs:YR}{ps:Ym},r6 ds=some ps->av K Z ds vs->∃bs,vs=bs.map V.ref/\jn K Z ps bs
 | [],vs,ps,h,r=>by cases h;cases(show vs=[]from r);exact⟨[],rfl,rfl,λi p b h=>by simp at h⟩
 | d::ds,vs,ps,h,r=>by
  unfold r6 at h
  split at h
  .rename_i heq;exact absurd heq @8
  .rename_i a b r' e;cases e;obtain⟨ps',e1,h⟩:=b_.mp h;cases h;obtain⟨v,rr,e,h1,h2⟩:=r;subst e;obtain⟨c,us,rfl,q,r1⟩:=h1;cases av.intsV (bs:=[a,b]) r1;obtain⟨bs,rfl,hp⟩:=vI e1 h2;refine⟨c::bs,rfl,by simp[hp.1],λi p b' h1 h2=>?_⟩;cases i with
   | zero=>simp at h1 h2;subst h1;subst h2;exact q
   | succ i=>exact hp.2 i p b' (by simpa using h1) (by simpa using h2)
  .cases h
def DV:D->YQ
 | .lst ds=>(r6 ds).bind λps=>if ps.length<=4900 then some (.st (zr ps))else none
 | _=>none
theorem NZ{K:Fg}:iV K .cl DV (λxs H Q=>∃(a:YH)(ps:Ym)(bs:Ys),xs=[.ref a]/\cY K H a (bs.map V.ref)/\jn K H ps bs/\ps.length<=4900/\
  ∀q,H q=none->Q (.ref q) (upd H q (.ext (jR q (zr ps) ((((ps.zip bs).foldl iO []).map (·.2))))))):=λ{Z H x dx d Q} s h e k=>by
 cases dx<;>try cases e
 obtain⟨ps,h1,h2⟩:=b_.mp e;obtain⟨hl,rfl⟩:=qe h2;obtain⟨a,vs,rfl,q,rr⟩:=h.lst s;obtain⟨bs,rfl,hp⟩:=vI h1 rr;refine⟨a,ps,bs,rfl,q,hp.mono s,hl,λc hc=>?_⟩;have Q9:jn K Z (zr ps) (((ps.zip bs).foldl iO []).map (·.2)):=by
  have:=jn.of_zip (K:=K) (H:=Z) ((ps.zip bs).foldl iO []) λx hx=>by
   rcases um hx with h | h
   .cases h
   .exact hp.zip x h
  rw[pd,kc hp.1.symm]at this;exact this
 have s1:aO Z (upd Z c (.ext (jR c (zr ps) (((ps.zip bs).foldl iO []).map (·.2))))):=cj (s.free hc);exact k _ _ _ (Ex.new s hc) ⟨c,_,rfl,Q9.1,au,λi p b g1 g2=>eo s1 (Q9.2 i p b g1 g2)⟩
theorem BS(hc:X.calm=true)(hu:X.A.units+66<cLine):dG X (.type "set") (λxs H Q=>∃(a:YH)(ps:Ym)(bs:Ys),xs=[.ref a]/\cY X.K H a (bs.map V.ref)/\jn X.K H ps bs/\ps.length<=4900/\
  ∀q,H q=none->Q (.ref q) (upd H q (.ext (jR q (zr ps) ((((ps.zip bs).foldl iO []).map (·.2))))))):=by
 intro pins s σ H xs us Q I rs h;obtain⟨a,ps,bs,rfl,hq,hp,hl,q⟩:=h;obtain⟨u,rfl,rx⟩:=vals1 rs;cases rx;obtain⟨br,rv,pl,hz⟩:=I.list hq;have hits:=vA rv;subst hits;refine St.pR (I.ok.hd hc) @1 pl.isList (ks:=(ps.zip bs).map kx) ?_ (λx hx=>?_) (by simp;omega) λh' tk hS hold=>?_
 .rw[O_];show bs.map Value.ref=(ps.zip bs).map (Value.ref ∘ (·.2));rw[<- O_,zT hp.1.symm]
 .obtain⟨y,hy,rfl⟩:=t_.mp hx;exact tG I (hp.zip y hy)
 .have LR:St.df (tupleKind (aJ X.prog X.w)) s.sz (((ps.zip bs).foldl iO []).map kx) h':=by
   rw[rp];exact hS
  have hfst:((ps.zip bs).foldl iO []).map (·.1)=zr ps:=by rw[pd,kc hp.1.symm];rfl
  have RE:jR s.sz (((ps.zip bs).foldl iO []).map (·.1)) (((ps.zip bs).foldl iO []).map (·.2)) h':=by
   rw[wy (P:=X.prog) (w:=X.w) @8,CW];exact LR
  rw[hfst]at RE;have hfr:=I.hok.fresh (m_ s.sz);refine⟨.ref _,_,I.laid (t':=tk) (o:=.ext (jR s.sz (zr ps) (((ps.zip bs).foldl iO []).map (·.2)))) (λb o e=>hold b o (n_ e) e) (m_ _) ⟨RE,?_,xQ _ _ _⟩,rfl,q _ hfr⟩;obtain⟨o,_,_,_,e,_⟩:=RE;exact⟨o,e⟩
theorem Be:bootBuiltins "set"=some (.type "set"):=by first | rfl | decide +kernel | kernel_rfl
theorem Ll(hm:X.mg "set"=none)(hc:X.calm=true)(hr:bF k X.A)(ha:PD X ga l fa)(hg:Gl X "set":=by rfl)(he:starEach [l] X.env=[(false,eval l X.env)]:=by rfl):PD X .cl (.Call (.Name "set" p) [l] [] pos) (bN DV fa):=
 zU (BS hc (mW hr)) NZ Be hm ha @2 @2 hg he
theorem Gd.st{K:Fg}{Z' H H':Hp}{g:Gr}{v:V}{ps:Ym}(s:aO Z' H')(h:Gd K Z' H H' g (.st ps) v):∃a bs,v=.ref a/\H' a=some (.ext (jR a ps bs))/\jn K H' ps bs:=by
 rcases(h.pk (H3:=H))with ⟨a,bs,e,l,q,r⟩ | ⟨_,_,_,_,e,_⟩ | ⟨_,_,_,e,_⟩ | ⟨_,_,_,_,_,e,_⟩
 .exact⟨a,bs,e,s _ _ q,l,λi p b h1 h2=>eo s (r i p b h1 h2)⟩
 .cases e
 .cases e
 .cases e
def Pe(neg:Bool):D->D->YQ
 | .tup [.int a,.int b],.st ps=>some (.bl (if neg then !decide ((a,b)∈ps)else decide ((a,b)∈ps)))
 | _,_=>none
def N'(K:Fg)(neg:Bool):R2:=λx y H Q=>∃(b c:YH)(ps:Ym)(bs:Ys)(m n:Int),x=.ref b/\cR K H b [.int m,.int n]/\y=.ref c/\H c=some (.ext (jR c ps bs))/\jn K H ps bs/\Q (.bl (if neg then !decide ((m,n)∈ps)else decide ((m,n)∈ps))) H
theorem KY{ps:Ym}{bs:Ys}(hl:bs.length=ps.length)(m n:Int):(kk (m,n)∈((ps.zip bs).map kx).map (·.1))↔(m,n)∈ps:=by
 rw[O_,show((λx:YL×YH=>x.1) ∘ kx)=kk ∘ (λx:Yx×YH=>x.1)from rfl,<- O_,kc hl.symm,t_];constructor
 .rintro⟨q,hq,e⟩;rw[<- yy e];exact hq
 .intro h;exact⟨_,h,rfl⟩
theorem Ks(hu:X.A.units+1<cLine)(neg:Bool):jf X (compareOp (if neg then .NotIn else .In)) (N' X.K neg):=by
 intro pins s σ H x y v u Q I rx ry h;obtain⟨b,c,ps,bs,m,n,rfl,hq,rfl,hc,hp,q⟩:=h;cases rx;cases ry;have hS:jR c ps bs s.heap:=(show bE X.prog X.w H s.heap c (.ext (jR c ps bs))from I.hok c _ hc).1;rw[wy (P:=X.prog) (w:=X.w) hp.1]at hS;have wJ:∀x∈(ps.zip bs).map kx,(tupleKind (aJ X.prog X.w)).is s.heap x.1 x.2:=λx hx=>by
  obtain⟨y,hy,rfl⟩:=t_.mp hx;exact tG I (hp.zip y hy)
 have hd:∀(inst:Decidable (kk (m,n)∈((ps.zip bs).map kx).map (·.1))),@decide _ inst=decide ((m,n)∈ps):=λinst=>decide_eq_decide.mpr (KY hp.1 m n);cases neg with
 | false=>
  refine St.Nl St.nB (Vs hu) hS wJ (tG I hq) λtk=>?_;rw[hd];exact⟨.bl _,H,I.tok _,rfl,q⟩
 | true=>
  refine St.Cr St.nB (Vs hu) hS wJ (tG I hq) λtk=>?_;rw[hd];exact⟨.bl _,H,I.tok _,rfl,q⟩
theorem Of{K:Fg}{neg:Bool}:cV K .cl (Pe neg) (N' K neg):=λ{Z H x y dx dy d Q} s h1 h2 e kq=>by
 unfold Pe at e
 split at e
 .rename_i m n ps;cases e;obtain⟨b,vs,rfl,q,rr⟩:=h1.tup s;cases av.intsV (bs:=[m,n]) rr;obtain⟨c,bs,rfl,qc,hp⟩:=h2.st s;exact⟨b,c,ps,bs,m,n,rfl,q,rfl,qc,hp,kq _ Z H (Ex.refl s) rfl⟩
 .cases e
theorem K5(hr:bF k X.A)(ha:PD X ga l fa)(hb:PD X gb r fb)(hm:behindInMarks .NotIn r=false:=by rfl):PB X (.Compare l [.NotIn] [r] pos) (fB (ar (Pe true) fa fb)):=jv (Ks (jA hr) true) Of ha hb hm
end
section
variable {prog:YB}{w:YE}{A:YC}{E:Yh}{s:YA}
end
section
variable {X:Cx}{l r:YI}{fa fb:Fe}{ga gb:Gr}{pos p:Pos}{k:Nat}
end
theorem u5(hf:∀p,f p=.tup [.int p.1,.int p.2]):∀(ps:Ym),r6 (ps.map f)=some ps
 | []=>rfl
 | p::ps=>by rw[C_,hf];show(r6 (ps.map f)).bind _=_;rw[u5 hf ps];rfl
theorem Li(h:f env=some (.lst ds))(h2:r6 ds=some ps)(hl:ps.length<=4900):bN DV f env=some (.st (zr ps)):=by
 rw[o4 h];show(r6 ds).bind _=_;rw[h2];show(if ps.length<=4900 then _ else _)=_;rw[h_ hl]
end Mi
namespace St
open PySem L2
section
variable {prog:YB}{w:YE}{A:YC}{E:Yh}{s:YA}
end
end St
namespace Mi
open PySem PySem.Spec PyProof.Rows L2
section
variable {elt:YI}{gens:Yn}{scope:YG}{pos:Pos}{d:Nat}{tg iter:YI}{ifs:Yt}{it acc:Yz}{env:Env}
end
structure Tq(X:Cx)(pins:List (Addr×Obj))(a:Addr)(B Z H:Hp)(env:En)(σ:L2.St)(pre:List D)(s:Shared):Prop where
 I:Inv X pins σ H s
 R:Rl X.K B Z H env σ
 nO:∀(i:Nat) ds,env[i]?≠some (.O ds)
 hb:B a=none
 hz:Z a=none
 ac:∃(ps:List (Int×Int))(xs:List ((Int×Int)×Addr)),r6 pre=some ps/\xs.map (·.1)=zr ps/\H a=some (.ext (jR a (xs.map (·.1)) (xs.map (·.2))))/\∀x∈xs,cR X.K Z x.2 [.int x.1.1,.int x.1.2]
def P6(X:Cx)(a:YH)(Bd:BdT)(k:YM):Prop:=∀(pins:Yi)(s:YA)(σ:L2.St)(H B Z:Hp)(env:En)(pre xs:YO)(P:YA->Prop)(E:Yh),
 Tq X pins a B Z H env σ pre s->k env=some xs->pre.length+xs.length<=4900->(∀s' σ' H' Z',Tq X pins a B Z' H' env σ' (pre++xs) s'->Ex Z B Z' H'->P s')->Bd P E s
section
variable {X:Cx}{a:YH}{elt:YI}{fe:Fe}
end
section
variable {P:YB}{w:YE}{A:YC}{elt:YI}{gens:Yn}{scope:YG}{pos:Pos}{d:Nat}{tg iter:YI}{ifs:Yt}{it acc:Yz}{env:Env}{R:Result->YA->Prop}{s:YA}
end
section
variable {X:Cx}{a:YH}{elt:YI}{gens:Yn}{scope:YG}{pos:Pos}{d:Nat}{tg iter yJ cy:YI}{ifs mR:Yt}{it:YH}
end
structure BlkS(X:Cx)(a:Addr)(elt:Expr)(gens:List Comprehension)(scope:Scope)(pos:Pos)(d:Nat)(tg:Expr)(ifs:List Expr)(t:Ft)(c:Fb)(k:En->Option (List D)):Prop where
 g:GD X tg t
 ts:F4 X ifs c
 ex:∃Bd,P6 X a Bd k/\∀(it:Addr)(s:Shared)(Q:Fin->Shared->Prop)(E:Value->Shared->Prop),
   wpAny @3 X.A (pyNext (.ref it)) (λr s1=>match r with
    | none=>Q (.done .next) s1
    | some v=>wpAny @3 X.A (letOwnedTupleGo tg (.ref it) v) (λ_ s2=>wpAny @3 X.A (assign tg X.env v) (λ_ s3=>
      wpAny @3 X.A (forIn ifs true λc r=>if r=true then do let ok <- isTrue c X.env (eval c X.env);pure (ForInStep.yield ok)else pure (ForInStep.yield r)) (λok s4=>
       if ok=true then Bd (λs5=>Q (.again (.compLoop (.SetComp elt gens scope pos) d (.ref it) (.ref a) X.env)) s5) E s4 else Q (.again (.compLoop (.SetComp elt gens scope pos) d (.ref it) (.ref a) X.env)) s4) E s3) E s2) E s1) E s->
   wpAny @3 X.A (compTurn (.SetComp elt gens scope pos) d (.ref it) (.ref a) X.env) Q E s
section
variable {X:Cx}{a:YH}{elt:YI}{gens:Yn}{scope:YG}{pos:Pos}{d:Nat}{tg iter:YI}{ifs:Yt}{t:Ft}{c:Fb}{fe:Fe}
end
section
variable {X:Cx}{elt:YI}{rest:Yn}{scope:YG}{pos:Pos}{tg iter:YI}{ifs:Yt}{t:Ft}{c:Fb}{k:YM}{fi:Fi}{is caps:Yv}{cl:Yl}{Nc own:Yr}
end
end Mi
namespace St
open PySem L2
section
variable {prog:YB}{w:YE}{K:Type}[DecidableEq K](knd:KeyKind prog w K)
inductive L7(h:Heap):List (List K)->List Value->Prop
 | nil:L7 h [] []
 | cons {k:List K} {b:Addr} {ks:List (List K)} {vs:List Value}:(tupleKind knd).is h k b->L7 h ks vs->L7 h (k::ks) (.ref b::vs)
variable {knd}
variable {A:YC}{E:Yh}{s:YA}
end
section
variable {prog:YB}{w:YE}{K:Type}[DecidableEq K]{knd:KeyKind prog w K}{A:YC}{E:Yh}{s:YA}
end
end St
namespace Mi
open PySem PySem.Spec PyProof.Rows L2
section
variable {K:Type}[DecidableEq K]
end
section
variable {X:Cx}{rg:Gr}{l r:YI}{fa fb:Fe}{ga gb:Gr}{pos p:Pos}{k:Nat}
end
section
variable {X:Cx}{rg:Gr}{l r:YI}{fa fb:Fe}{ga gb:Gr}{pos p:Pos}{k:Nat}
end
section
variable {X:Cx}{rg:Gr}{pos:Pos}
end
section
variable {X:Cx}{i:YI}{fi:Fe}{pos p0 p1 p2 p3 p4:Pos}{k j1 j2 j3 j4:Nat}
end
end Mi
namespace Mi
open PySem PySem.Spec PyProof.Rows L2
def Ph:Key->Key->Option Bool
 | .inl a,.inl b=>some (decide (a<=b))
 | .inr a,.inr b=>some (!decide (b.cps.toList<a.cps.toList))
 | _,_=>none
def pW:YL->YL->Option Bool
 | [],[]=>some true
 | [],_::_=>some true
 | _::_,[]=>some false
 | x::xs,y::ys=>if x=y then pW xs ys else Ph x y
theorem Fq(A:YC)(s:YA)(a:Str)(t:Tok)(c:Str)(u:Tok)(prog:YB)(w:YE)(E:Yh)(Q:Yh)(h:Q (.bool (!decide (c.cps.toList<a.cps.toList))) s) :
  wpAny @7 A (richCompare .LtE (.str a t) (.str c u)) Q E s:=
 (PySem.P.le_str h:wpAny @7 A (compareOp .LtE (.str a t) (.str c u)) Q E s)
section
open PySem.SeqAt
open PySem.AutoSeq1 (wpAny_loadPart')
open PySem.MeetsSeq PySem.MeetsSeq2 PySem.MeetsSeq3
theorem E9(hv:cF (y::vs) ns)(hw:cF (x::ws) ms):∃a c mF qt,ns=a::mF/\ms=c::qt/\cF vs mF/\cF ws qt/\
  ∀(A:YC)(s:YA)(q:Bool),(if a=c then pW mF qt else Ph a c)=some q->∃e,SeqAt.EqAt A s y x e/\(e=true↔a=c)/\(e=false->∀(prog:YB)(w:YE)(E:Yh)(Q:Yh),Q (.bool q) s->wpAny @7 A (richCompare .LtE y x) Q E s):=by
 cases hv with
 | int n t wO=>
  cases hw with
  | int m u yL=>
   refine⟨_,_,_,_,rfl,rfl,wO,yL,λA s q hq=>⟨(n==m),SeqAt.EqAt.int_int n t m u,by simp,λhe=>?_⟩⟩;have hne:n≠m:=by simpa using he
   rw[i_ (λz=>hne (Sum.inl.inj z))]at hq;cases hq;exact λprog w E Q h=>(PyProof.Rows.le_int h:wpAny @7 A (compareOp .LtE (.int n t) (.int m u)) Q E s)
  | str y u yL=>
   refine⟨_,_,_,_,rfl,rfl,wO,yL,λA s q hq=>?_⟩;rw[i_ (λz=>nomatch z)]at hq;cases hq
 | str a t wO=>
  cases hw with
  | int m u yL=>
   refine⟨_,_,_,_,rfl,rfl,wO,yL,λA s q hq=>?_⟩;rw[i_ (λz=>nomatch z)]at hq;cases hq
  | str b u yL=>
   refine⟨_,_,_,_,rfl,rfl,wO,yL,λA s q hq=>⟨(a==b),SeqAt.EqAt.str_str a t b u,by simp,λhe=>?_⟩⟩;have hne:a≠b:=by simpa using he
   rw[i_ (λz=>hne (Sum.inr.inj z))]at hq;cases hq;exact λprog w E Q h=>Fq A s a t b u prog w E Q h
theorem pT(l b:YH)(items items2:Array Yz)(n n2:Nat)(dd wM:Yq)(sl Ai:Yj)(ns ms:YL)(q:Bool)(hi:cF items.toList ns)(hj:cF items2.toList ms)(hq:pW ns ms=some q) :
  Meets (Builtin.«tuple.__le__» ⟨[.ref l,.ref b],[]⟩)
   (λ_ R s=>s.heap.get? l=some {cls:=.type "tuple",dict:=dd,data:=.seq items n,slots:=sl}/\s.heap.get? b=some {cls:=.type "tuple",dict:=wM,data:=.seq items2 n2,slots:=Ai}/\R (.ok (.ret (.bool q))) s):=
 .of_wp λprog w A R s h=>by
  obtain⟨hp,g,d,tk,os⟩:=s;obtain⟨hl,hb,h⟩:=h;have f2:=AutoSeq1.sub_tuple_tuple;have z1:items.size=ns.length:=by rw[<- hi.length];simp
  have z2:items2.size=ms.length:=by rw[<- hj.length];simp
  wp_walk using Xu hl,Xu hb,Wy _ (λrest b s'=>b.1=none/\s'=⟨hp,g,d,tk,os⟩/\∃(vs ws:Yo)(mF qt:YL),rest=vs.zip ws/\
   cF vs mF/\cF ws qt/\mF.length+items2.size=qt.length+items.size/\pW mF qt=some q) _
  case turn=>
   rintro⟨y,x⟩ rest b s' ⟨hb',rfl,vs,ws,mF,qt,hz,L0,O0,hlen,hR⟩;cases vs with
   | nil=>rw[List.zip_nil_left]at hz;cases hz
   | cons v vs=>
    cases ws with
    | nil=>rw[List.zip_nil_right]at hz;cases hz
    | cons w' ws=>
     rw[Vr]at hz
     injection hz with Rx hrest
     injection Rx with hy hx
     subst hy hx;obtain⟨a,c,O1,L4,rfl,rfl,O2,Ry,ask⟩:=E9 L0 O0;have L5:(if a=c then pW O1 L4 else Ph a c)=some q:=hR;obtain⟨e,he,hiff,ix⟩:=ask A.in1 ⟨hp,g,d,tk,os⟩ q L5;simp only[v_]at hlen;refine a_ (he prog w _ _ ?_);cases e with
     | true=>
      rw[h_ (hiff.mp rfl)]at L5
      wp_walk
      exact⟨rfl,rfl,_,_,_,_,hrest,O2,Ry,by omega,L5⟩
     | false=>
      have hri:=ix rfl prog w
      wp_walk using hri
      exact⟨_,rfl,by simpa using h⟩
  case fin=>
   rintro⟨b1,b2⟩ s' ⟨hb',rfl,vs,ws,mF,qt,hz,L0,O0,hlen,hR⟩;simp only at hb';subst hb';have l1:=L0.length;have l2:=O0.length;have hv:q=decide (items.size<=items2.size):=by
    cases mF with
    | nil=>
     cases qt with
     | nil=>
      simp only[T_]at hlen;cases hR;exact(y_ @1).symm
     | cons c L4=>
      simp only[T_,v_]at hlen;cases hR;exact(y_ @1).symm
    | cons a O1=>
     cases qt with
     | nil=>
      simp only[T_,v_]at hlen;cases hR;exact(G_ @1).symm
     | cons c L4=>
      cases vs with
      | nil=>simp at l1
      | cons v vs=>
       cases ws with
       | nil=>simp at l2
       | cons w' ws=>rw[Vr]at hz;cases hz
   rw[hv]at h
   wp_walk
   exact⟨_,rfl,by simpa [Builtin.Tuple.tupleCompareSizes]using h⟩
  case h=>
   exact⟨rfl,rfl,items.toList,items2.toList,ns,ms,rfl,hi,hj,by omega,hq⟩
end
section
variable {X:Cx}{l r:YI}{fa fb:Fe}{ga gb:Gr}{pos p:Pos}{k:Nat}
def Nu(K:Fg):R2:=λx y H Q=>∃a b ns ms q,x=.ref a/\y=.ref b/\cR K H a (ns.map kV)/\cR K H b (ms.map kV)/\pW ns ms=some q/\Q (.bl q) H
theorem Kh(hu:X.A.units<cLine):jf X (compareOp .LtE) (Nu X.K):=by
 intro pins s σ H x y v u Q I rx ry h;obtain⟨a,b,ns,ms,c,rfl,rfl,ha,hb,hc,q⟩:=h;cases rx;cases ry;obtain⟨br,r1,p1,_⟩:=I.tuple ha;obtain⟨pH,r2,p2,_⟩:=I.tuple hb;obtain⟨⟨cls,dd,data,sl⟩,ho,jZ,n,hd⟩:=id p1;obtain⟨⟨Iq,wM,data2,Ai⟩,B1,Aj,n2,hd2⟩:=id p2;simp only at jZ hd Aj hd2;subst jZ hd Aj hd2;exact richCompare_meets_room (op:=.LtE) ⟨_,ho,rfl⟩ ⟨_,B1,rfl⟩ PySem.F.slot_tuple_le PySem.F.entry_tuple_le (PySem.F.args_tuple_le_2 _ _) (pT a b br.toArray pH.toArray n n2 dd wM sl Ai ns ms c (by simpa using cF.of r1) (by simpa using cF.of r2) hc)
  ⟨ho,B1,show Value.bool c≠Value.notImplemented/\EP X pins σ Q (.bool c) s from⟨(λz=>nomatch z),⟨.bl c,H,I,rfl,q⟩⟩⟩ hu
def NB:D->D->YQ
 | .tup xs,.tup ys=>(oP xs).bind λns=>(oP ys).bind λms=>(pW ns ms).bind λq=>some (.bl q)
 | _,_=>none
theorem MS{K:Fg}:cV K .cl NB (Nu K):=λ{Z H x y dx dy d Q} s h1 h2 e kq=>by
 cases dx<;>try cases e
 all_goals (cases dy<;>try cases e)
 obtain⟨ns,e1,e⟩:=b_.mp e;obtain⟨ms,e2,e⟩:=b_.mp e;obtain⟨q,e3,e⟩:=b_.mp e;cases e;obtain⟨a,vs,rfl,q1,r1⟩:=h1.tup s;obtain⟨b,us,rfl,q2,r2⟩:=h2.tup s;cases eI e1 r1;cases eI e2 r2;exact⟨a,b,ns,ms,q,rfl,rfl,q1,q2,e3,kq _ Z H (Ex.refl s) rfl⟩
theorem N3(hr:bF k X.A)(ha:PD X ga l fa)(hb:PD X gb r fb):PB X (.Compare l [.LtE] [r] pos) (fB (ar NB fa fb)):=jv (Kh (by have:=hr.un;omega)) MS ha hb (eQ _)
end
end Mi
namespace Mi
open PySem PySem.Spec PyProof.Rows L2
section
variable {X:Cx}{rg:Gr}{pos:Pos}
end
end Mi
namespace Mi
open PySem
end Mi
namespace Xc
open PySem PySem.Spec PyProof.Rows L2
def Rec(s0h h:YD)(H:Hp)(e C dx:YH):Prop:=∃oe vs,h.get? e=some oe/\oe.cls=.ref C/\oe.dict=some dx/\oe.data=.fields vs/\1<vs.size/\
 (vs[1]?=some .none\/∃T oT ts,vs[1]?=some (.ref T)/\T≠e/\s0h.objs.size<=T/\H T=none/\h.get? T=some oT/\oT.data=.fields ts/\ts[3]?=some .none)
section
variable {M:Model}{A:YC}{E:Yh}{s:YA}
theorem rf
  (hfr:A.frames=some (env::outer)) (hl:s.heap.FunFrames base (env::outer)) (hf:env.frame=some L)
  (he:s.heap.get? e=some oe) (hd:oe.data=.fields vs) (hsz:1<vs.size)
  (h:∀h',(∀b o,b∉mP (env::outer)->b≠e->s.heap.get? b=some o->h'.get? b=some o)->(∀b o,b∈mP (env::outer)->s.heap.get? b=some o->∃sl,h'.get? b=some {o with slots:=sl})->
   (∃T oT ts,s.heap.objs.size<=T/\T≠e/\h'.get? e=some (oe.mapFields (·.setIfInBounds 1 (.ref T)))/\h'.get? T=some oT/\oT.data=.fields ts/\ts[3]?=some .none)->Q () {s with heap:=h'}) :
  wpAny M A (do let a <- frameOf env;let pl <- entryPlaceOf L hadNext;let b <- EntryCells.newEntry head a .none (rawInt L) .none pl;setField (.ref e) 1 b) (λ_ s'=>wpAny M A (setFlight (.ref e) none) Q E s') E s:=by
 have O4:e∉(env::outer).filterMap (·.frame):=λhm=>by
  obtain⟨_,o,ho,hnf⟩:=hl.mem hm;rw[he]at ho;injection ho with ho;subst ho;exact hnf vs hd
 refine a_ (wpAny_frameOf_fun hfr hl hf λh₁ hs₁=>?_);refine a_ (wpAny_entryPlaceOf λpl fy=>?_);unfold EntryCells.newEntry newFields;refine a_ (Vd ?_ (fy.sizeOk5 _ _ _ _ _));have he₁:h₁.get? e=some oe:=(hs₁.2.1 e O4).trans he;have he₂:=d_ (h:=h₁) {cls:=.type "traceback",dict:=none,data:=.fields ([head,.ref L,.none,rawInt L,.none]++(if pl.isEmpty then List.replicate 6 Value.none else pl)).toArray} he₁;refine We he₂ hd hsz ?_;have IC:h₁.objs.size≠e:=UC (n_ he₁);have hd₃:=U6 hd (·.setIfInBounds 1 (Value.ref h₁.objs.size));have he₃:=UZ (Obj.mapFields (·.setIfInBounds 1 (Value.ref h₁.objs.size))) he₂ (VF hd₃);have hT₃:=(M_ (h₁.push {cls:=.type "traceback",dict:=none,data:=.fields ([head,.ref L,.none,rawInt L,.none]++(if pl.isEmpty then List.replicate 6 Value.none else pl)).toArray})
  (Obj.mapFields (·.setIfInBounds 1 (Value.ref h₁.objs.size))) (US IC)).trans (o_ h₁ rfl)
 unfold setFlight;refine a_ (K_ he₃ hd₃ (x:=.ref h₁.objs.size) (by simp[hsz]) ?_);rw[h_ (show(Value.ref h₁.objs.size != Value.none)=true from by simp)];refine We hT₃ rfl (by simp only[s_,u_,v_,T_]<;>omega) (h _ ?_ ?_ ?_)
 .intro b o Mj F5 hb;have Tr:h₁.get? b=some o:=(hs₁.2.1 b Mj).trans hb;have RF:h₁.objs.size≠b:=UC (n_ Tr);rw[M_ _ _ RF,M_ _ _ (US F5)];exact d_ _ Tr
 .intro b o Mj hb;obtain⟨sl,hs⟩:=hs₁.2.2 b o hb;have F5:b≠e:=λq=>O4 (q▸Mj);have RF:h₁.objs.size≠b:=UC (n_ hs);refine⟨sl,?_⟩;rw[M_ _ _ RF,M_ _ _ (US F5)];exact d_ _ hs
 .refine⟨h₁.objs.size,_,_,(by rw[hs₁.1];exact m_ _),IC,?_,UZ _ hT₃ (VF (U6 rfl _)),U6 rfl _,?_⟩
  .rw[M_ _ _ IC];exact he₃
  .first | (simp;done) | (rcases fy with rfl | ⟨_,_,_,_,_,_,_,rfl⟩<;>simp)
theorem Je
  (hfr:A.frames=some (env::outer)) (hl:s.heap.FunFrames base (env::outer)) (hf:env.frame=some L) (hx:Rec s0h s.heap H e C dx) (h0:s0h.objs.size<=s.heap.objs.size) (hH:∀b,s.heap.objs.size<=b->H b=none)
  (h:∀h' (T':Yq),(∀T,T'=some T->s0h.objs.size<=T/\H T=none/\∃oT ts,s.heap.get? T=some oT/\oT.data=.fields ts)->(∀b o,b∉mP (env::outer)->b≠e->T'≠some b->s.heap.get? b=some o->h'.get? b=some o)->(∀b o,b∈mP (env::outer)->s.heap.get? b=some o->∃sl,h'.get? b=some {o with slots:=sl})->
   Rec s0h h' H e C dx->(∀T,T'=some T->∃o,h'.get? T=some o)->Q () {s with heap:=h'}):wpAny M A (noteFrame (.ref e) env) (λ_ s'=>wpAny M A (setFlight (.ref e) none) Q E s') E s:=by
 obtain⟨oe,vs,he,hc,O5,hd,hsz,hv⟩:=hx;have fin:∀h',(∃T oT ts,s.heap.objs.size<=T/\T≠e/\h'.get? e=some (oe.mapFields (·.setIfInBounds 1 (.ref T)))/\h'.get? T=some oT/\oT.data=.fields ts/\ts[3]?=some .none)->Rec s0h h' H e C dx:=λh' az=>by
  obtain⟨T,oT,ts,t1,t2,t3,t4,t5,t6⟩:=az;refine⟨_,_,t3,(Obj.cls_mapFields _ _).trans hc,?_,U6 hd _,by simpa using hsz,.inr ⟨T,oT,ts,by simp[hsz],t2,B_ h0 t1,hH T t1,t4,t5,t6⟩⟩;obtain⟨c,d,dt,sl⟩:=oe;have Oz:dt=.fields vs:=hd;subst Oz;exact O5
 unfold noteFrame;simp only[hf];rcases hv with h1 | ⟨T,oT,ts,h1,IC,P0,P1,hT,F9,h3⟩
 .refine a_ (K_ he hd h1 ?_);rw[i_ @2];exact rf hfr hl hf he hd hsz λh' k1 k2 k3=>h h' none (λT z=>by cases z) (λb o b1 b2 _ b4=>k1 b o b1 b2 b4) k2 (fin h' k3) (λT z=>by cases z)
 .refine a_ (K_ he hd h1 ?_);rw[h_ (show(Value.ref T != Value.none)=true from by simp)];refine a_ (K_ hT F9 h3 ?_);rw[i_ (show ¬((Value.none==rawInt L)=true)from by simp[rawInt])];refine a_ (We hT F9 (U1.mp h3).1 ?_);have other:∀b,b≠T->(s.heap.update T (Obj.mapFields (·.setIfInBounds 3 Value.none))).get? b=s.heap.get? b:=λb hb=>M_ _ _ (US hb);have pL:∀b o,s.heap.get? b=some o->(∀vs,o.data≠.fields vs)->b≠T:=λb o hb hnf q=>by
   rw[q,hT]at hb;injection hb with hb;subst hb;exact hnf ts F9
  have hTn:T∉mP (env::outer):=λhm=>by
   obtain⟨_,o,ho,hnf⟩:=hl.mem (show T∈(env::outer).filterMap (·.frame)from hm);exact pL T o ho hnf rfl
  refine rf hfr (hl.of_keeps λb o hb hnf=>⟨o,(other b (pL b o hb hnf)).trans hb,rfl⟩) hf ((other e (US IC)).trans he) hd hsz λh' k1 k2 k3=>h h' (some T) (λT' z=>by cases z;exact⟨P0,P1,_,_,hT,F9⟩) (λb o b1 b2 b3 b4=>k1 b o b1 b2 ((other b (λz=>b3 (by rw[z]))).trans b4)) (λb o b1 b2=>?_) (fin h' (by
    obtain⟨T2,oT2,ts2,a1,a2⟩:=k3;exact⟨T2,oT2,ts2,by rw[Heap.size_after_update]at a1;exact a1,a2⟩)) (λT' z=>?_)
  .obtain⟨_,o',wV,hnf⟩:=hl.mem (show b∈(env::outer).filterMap (·.frame)from b1);rw[b2]at wV;injection wV with wV;subst wV;exact k2 b o b1 ((other b (pL b o b2 hnf)).trans b2)
  .cases z;exact⟨_,k1 T _ hTn IC (UZ _ hT (VF (U6 F9 _)))⟩
theorem Cp
  (hfr:A.frames=some (env::outer)) (hl:s.heap.FunFrames base (env::outer)) (hf:env.frame=some L) (hx:Rec s0h s.heap H e C dx) (h0:s0h.objs.size<=s.heap.objs.size) (hH:∀b,s.heap.objs.size<=b->H b=none)
  (h:∀h' (T':Yq),(∀T,T'=some T->s0h.objs.size<=T/\H T=none)->(∀b o,b∉mP (env::outer)->b≠e->T'≠some b->s.heap.get? b=some o->h'.get? b=some o)->(∀b o,b∈mP (env::outer)->s.heap.get? b=some o->∃sl,h'.get? b=some {o with slots:=sl})->
   Rec s0h h' H e C dx->Q () {s with heap:=h'}):wpAny M A (leaving env (.ref e)) Q E s:=by
 unfold leaving;exact a_ (Je hfr hl hf hx h0 hH λh' T' a b c d _=>h h' T' (λT z=>⟨(a T z).1,(a T z).2.1⟩) b c d)
end
end Xc
namespace Xc
open PySem
open Sem (wp)
open PySem.W (Looks)
abbrev bmV:Yo:=[.type "ValueError",.type "Exception",.type "BaseException",.type "object"]
abbrev dA(nm q:Str)(C N:YH)(bs bm:Yo)(sn:Yr)(sub:Yo)(ab:Bool)(col:Option Bool)(dd:Yq)(k0 k1 k2 k3 k5:Yp):Obj:=excClassObj nm q C N bs bm true sn sub ab col dd k0 k1 k2 k3 k5 "ValueError.__new__"
structure Tl(bm:List Value):Prop where
 v:bm.contains (.type "ValueError")=true
 b:bm.contains (.type "BaseException")=true
 o:bm.contains (.type "object")=true
 a:bm.contains (.type "AttributeError")=false
 n:bm.contains (.type "NameError")=false
section
variable {M:Model}{A:YC}{E:Yh}{h:YD}{g:Array GenState}{d:Drawn}{t:Nat}{os:OsState}
variable {nm q:Str}{C N:YH}{bs bm:Yo}{sn:Yr}{sub:Yo}{ab:Bool}{col:Option Bool}{dd:Yq}{k0 k1 k2 k3 k5:Yp}
theorem BJ(Z:Tl bm)(hC:h.get? C=some @6)(hq:Q () ⟨h,g,d,t,os⟩) :
  wpAny M A (checkBuiltinCall "ValueError.__new__" ⟨.ref C::rest,[]⟩) Q E ⟨h,g,d,t,os⟩:=by
 have Fn:=VZ;have hcont:(Value.ref C::bm).contains (.type "ValueError")=true:=by rw[UA,Z.v,VA]
 have hstar:=Fn.noStar;simp only[checkBuiltinCall,Fn.newKind,Fn.newSplit,Fn.newRow]
 repeat (first | refine UB hC ?_ | (refine U9 hC ?_;rw[hcont]) | refine wpAny_staticBase_exc hC ?_ | refine wpAny_madeBy_exc hC ?_ | simp only[bne_self_eq_false,D_,UU] | wp_step)
 exact hq
end
section
variable {prog:YB}{w:YE}{A:YC}{R:Result->YA->Prop}{E:Yh}{h:YD}{g:Array GenState}{d:Drawn}{t:Nat}{os:OsState}
variable {nm q:Str}{C N:YH}{bs bm:Yo}{sn:Yr}{sub:Yo}{ab:Bool}{col:Option Bool}{dd:Yq}{k0 k1 k2 k3 k5:Yp}
theorem Hx(Z:Tl bm)(hC:h.get? C=some @6)
  (hq:R (.ok (.ret (.ref (h.objs.size+1)))) ⟨(h.push {cls:=.type "tuple",data:=.seq rest.toArray}).push
   {cls:=.ref C,data:=.fields #[.ref h.objs.size,.none,.none,.none,.bool false,.none]},g,d,t,os⟩) (hrest:rest.length<=sizeLine) :
  codeAny @7 A (.builtin "ValueError.__new__" ⟨.ref C::rest,[]⟩) R ⟨h,g,d,t,os⟩:=by
 have Fn:=VZ;have hends:=Fn.ends;have FR:(Value.ref C::bm).contains (.type "ValueError")=true:=by rw[UA,Z.v,VA]
 have hcA:(Value.ref C::bm).contains (.type "AttributeError")=false:=by rw[UA,Z.a];rfl
 have hcN:(Value.ref C::bm).contains (.type "NameError")=false:=by rw[UA,Z.n];rfl
 refine codeAny_builtinAt Fn.entry ?_;unfold Builtin.«BaseException.__new__»;refine wpAt_bind ?_;show wpAt _ _ _ (stack >>= _) _ _ _;refine wpAt_bind (wpAt_stack λp below=>wpAt_of_wpAny ?_)
 wp_walk
 refine wpAt_of_wpAny ?_;rw[Fn.owner]
 repeat (first | with_reducible refine wpAny_madeHere_exc Fn.canon hC ?_ | with_reducible refine UB hC ?_ | (with_reducible refine U9 hC ?_;first | rw[FR] | rw[hcA] | rw[hcN]) | wp_step)
 show R _ _;rw[UP];exact hq
theorem pC(Z:Tl bm)
  (hC:h.get? C=some @6) (hi:Looks @7 h (typeLookup (.ref C) "__init__") (some (.ref fI)))
  (RG:h.get? fI=some oI) (O6:oI.cls=.type "function")
  (hq:∀h' e,Heap.MadeExcOf h h' e (.ref C) rest->h.objs.size<=e->
   wpAny @7 A (call (.ref fI) (.ref e::rest)) (λr s'=>r=.none/\Q (.done (.ret (.ref e))) s') E ⟨h',g,d,t,os⟩) (hrest:rest.length<=sizeLine) :
  wpAny @7 A (Builtin.«type.__call__» ⟨.ref C::rest,[]⟩) Q E ⟨h,g,d,t,os⟩:=by
 have F:=VZ
 repeat (first | with_reducible refine UB hC ?_ | with_reducible refine wpAny_madeBy_exc hC ?_ | wp_step)
 refine codeAny_call_builtin_code (WT _ F.quiet) (BJ Z hC ?_);refine Hx Z hC ?_ hrest;show wpAny _ _ _ _ _ _;have kp:∀b o,h.get? b=some o->((h.push {cls:=.type "tuple",data:=.seq rest.toArray}).push {cls:=.ref C,data:=.fields #[.ref h.objs.size,.none,.none,.none,.bool false,.none]}).get? b=some o:=
  λb o e=>d_ _ (d_ _ e)
 have hC₁:=kp _ _ hC;have hfI₁:=kp _ _ RG;have FH:((h.push {cls:=.type "tuple",data:=.seq rest.toArray}).push
   {cls:=.ref C,data:=.fields #[.ref h.objs.size,.none,.none,.none,.bool false,.none]}).get? (h.objs.size+1)=some
   {cls:=.ref C,data:=.fields #[.ref h.objs.size,.none,.none,.none,.bool false,.none]}:=by heap_get
 have hcC:(Value.ref C::bm).contains (.ref C)=true:=by simp
 have hi₁:=hi.keeps kp;unfold isInstance
 repeat (first | with_reducible refine UB FH ?_ | (with_reducible refine U9 hC₁ ?_;rw[hcC]) | wp_step)
 show wpAny _ _ (typeLookup (.ref C) _) _ _ _;refine hi₁.at ?_;refine F_ (a_ ?_);unfold bindSpecial;refine a_ (Xx (T:="function") ⟨_,hfI₁,O6⟩ ?_);rw[h_ @2];refine e_ (a_ (UO (hq _ (h.objs.size+1) ⟨kp,U4 (WX _),h.objs.size,FH,U4 (m_ _),?_⟩ (WX _)) (λr s' hr=>?_) λ_ _ x=>x))
 .exact d_ _ (Heap.get?_push_at rfl rfl)
 .obtain⟨rfl,hQ⟩:=hr
  wp_walk
  exact hQ
theorem DX(Z:Tl bm)
  (hC:h.get? C=some @6) (hi:Looks @7 h (typeLookup (.ref C) "__init__") (some (.ref fI)))
  (RG:h.get? fI=some oI) (O6:oI.cls=.type "function")
  (hq:∀h' e,Heap.MadeExcOf h h' e (.ref C) rest->h.objs.size<=e->
   wpAny @7 (A.under (.builtin "type.__call__" ⟨.ref C::rest,[]⟩)) (call (.ref fI) (.ref e::rest)) (λr s'=>r=.none/\Q (.ref e) s') E ⟨h',g,d,t,os⟩) (hrest:rest.length<=sizeLine) :
  wpAny @7 A (call (.ref C) rest) Q E ⟨h,g,d,t,os⟩:=by
 have f1:=tc_lookup;have f2:=tc_bind (.ref C);have hT:(⟨h,g,d,t,os⟩:YA).TypeIs (.ref C) "type":=⟨_,hC,rfl⟩;refine Xh (codeAny_of_tree ?_);show wpAny _ _ (callAny (.ref C) _) _ _ _
 repeat (any_goals (first | assumption | with_reducible refine UB hC ?_ | wp_step))
 refine⟨rfl,?_⟩;refine codeAny_call_builtin_at (WT _ (by decide +kernel)) entry_typeCall (wpAny_check_type_call_sub hC (pC Z (hrest:=hrest) hC hi RG O6 λh' e hm hz=>?_));exact hq h' e hm hz
theorem Fh(Z:Tl bm)(hC:h.get? C=some @6)(he:h.get? e=some oe)(yH:oe.cls=.ref C)(hd:oe.data=.fields vs)(hz:vs[0]?=some (.ref t0))(hrest:rest.length<=sizeLine)
  (hq:∀h' tp,(∀b o,b≠e->h.get? b=some o->h'.get? b=some o)->h'.get? e=some (oe.mapFields (·.setIfInBounds 0 (.ref tp)))->Q .none ⟨h',g,d,t,os⟩) :
  wpAny @7 A (call (.builtin "ValueError.__init__") (.ref e::rest)) Q E ⟨h,g,d,t,os⟩:=by
 have F:=VZ;have FR:(Value.ref C::bm).contains (.type "ValueError")=true:=by rw[UA,Z.v,VA]
 have hshort:=F.noStar;refine Xh (Ww F.init.plain F.initEntry ?_);simp only[checkBuiltinCall,F.initKind,F.initSplit,F.initRow]
 repeat (first | (with_reducible refine UB he ?_;rw[yH]) | with_reducible refine UB hC ?_ | (with_reducible refine U9 hC ?_;rw[FR]) | wp_step)
 refine WI ?_;rw[show ∀(a b:String)(n:Nat),Bind.check ⟨.positional,"*","ValueError",.self,[⟨"args",.varPos,false⟩]⟩ a b n (List.map (λx=>x.fst) ({pos:=Value.ref e::rest}:Args).kw)=pure ()from
  λa b n=>check_star_args _ _ _ _ _ _]
 refine e_ ?_
 wp_walk
 rw[hd];refine e_ ?_;rw[hz];refine e_ ?_;have he₁:=d_ {cls:=.type "tuple",data:=.seq rest.toArray} he;refine a_ (We he₁ hd (U1.mp hz).1 ?_);refine WY ?_;refine e_ (hq _ h.objs.size (λb o hb ho=>?_) ?_)
 .rw[M_ _ _ (US hb)];exact d_ _ ho
 .exact UZ _ he₁ (VF (U6 hd _))
end
end Xc
namespace Xc
open PySem
open Sem (wp)
open Builtin Builtin.ObjectAttr
open PySem.W (Looks)
section
variable {prog:YB}{w:YE}{A:YC}{E:Yh}{h:YD}{g:Array GenState}{d:Drawn}{t:Nat}{os:OsState}
variable {nm q:Str}{C N x:YH}{bs bm:Yo}{sn:Yr}{sub:Yo}{ab:Bool}{col:Option Bool}{dd:Yq}{k0 k1 k2 k3 k5:Yp}{name:Str}{v:Yz}
theorem CY(Z:Tl bm)
  (hC:h.get? C=some @6) (hx:h.get? x=some o) (hc:o.cls=.ref C) (hq:Q () ⟨h,g,d,t,os⟩) :
  wpAny M A (checkBuiltinCall "object.__setattr__" ⟨[.ref x,FT,v],[]⟩) Q E ⟨h,g,d,t,os⟩:=by
 have SF:=PySem.F.store_object;have FR:(Value.ref C::bm).contains (.type "object")=true:=by rw[UA,Z.o,VA]
 have ha:=SF.args (.ref x) FT v;simp only[checkBuiltinCall,SF.kind,SF.split];refine a_ ?_
 .unfold isInstance
  repeat (first | (with_reducible refine UB hx ?_;rw[hc]) | (with_reducible refine U9 hC ?_;rw[FR]) | wp_step)
  exact hq
theorem store_entry
  (hC:h.get? C=some @6) (FU:refuseLoop (.ref x) "__setattr__" bm=pure ()) (pF:Looks @7 h (typeLookup (.ref C) name) none)
  (hx:h.get? x=some o) (hc:o.cls=.ref C) (hnc:∀c,o.data≠.cls c) (RH:o.dict=none)
  (hq:∀h' L8,(∀b ob,b≠x->h.get? b=some ob->h'.get? b=some ob)->h'.get? x=some {o with dict:=some h.objs.size}->h'.Ns1 h.objs.size (λy=>if y=name then some v else none)->Q (.done (.ret .none)) ⟨h',g,d,L8,os⟩) :
  wpAny @7 A (Builtin.«object.__setattr__» ⟨[.ref x,.str name tk,v],[]⟩) Q E ⟨h,g,d,t,os⟩:=by
 unfold Builtin.«object.__setattr__»
 repeat (first | rw[refuse_eq] | (rw[refuseLoop_ref,FU]) | (with_reducible refine UB hx ?_;rw[hc]) | with_reducible refine wpAny_mroOf_exc hC ?_ | with_reducible refine pF.at ?_ | wp_step)
 rw[RH,i_ (by simp[typeHasDict])]
 split
 .rename_i fX;cases fX
 split
 .rename_i c fX;exact absurd fX (hnc c)
 .have Ts:(h.push {cls:=.type "dict",data:=.dict #[]}).get? x=some o:=d_ _ hx;have hxs:x≠h.objs.size:=A_ (n_ hx);refine a_ (wpAny_alloc' ?_);refine a_ (wpAny_update' Ts ?_);refine e_ ?_;have hgd:((h.push {cls:=.type "dict",data:=.dict #[]}).update x λo=>{cls:=o.cls,dict:=some h.objs.size,data:=o.data,slots:=o.slots}).get? h.objs.size
    = some {cls:=.type "dict",data:=.dict #[]}:=
   (Heap.get?_update_ne _ _ _ _ hxs.symm).trans (Heap.get?_push_at rfl rfl)
  have PJ:((h.push {cls:=.type "dict",data:=.dict #[]}).update x λo=>{cls:=o.cls,dict:=some h.objs.size,data:=o.data,slots:=o.slots}).Ns h.objs.size (λ_=>none):=
   ⟨_,#[],_,hgd,rfl,λe he=>absurd he @8,λ_=>rfl⟩
  show wpAny _ _ (storeInDict h.objs.size (.str name tk) name v) _ _ _;unfold storeInDict newKeyGuard;refine a_ (e_ (a_ (wpAny_nsSet1 (Heap.Ns1.of_empty PJ) λh' LM hs=>?_)));obtain⟨oD,esD,epD,hoD,hdD,hcD⟩:=LM.count (Within.cons name v Within.nil);refine a_ (wpAny_lookBehind hoD (by rw[hdD];exact pastItsLine_dict (B_ hcD (by rw[v_,T_,UI];omega))) ?_)
  wp_walk
  refine hq h' _ (λb ob hbx hb=>?_) ?_ LM
  .exact(hs.2 b (A_ (n_ hb))).trans ((Heap.get?_update_ne _ _ _ _ hbx).trans (d_ _ hb))
  .refine(hs.2 x hxs).trans (UZ _ Ts ?_);have hfr:=(Heap.get?_some_iff.mp hx).2;obtain⟨oc,od,odt,ug⟩:=o;cases odt<;>first | rfl | exact hfr
theorem store_attr(Z:Tl bm)
  (hC:h.get? C=some @6) (FU:refuseLoop (.ref x) "__setattr__" bm=pure ()) (O7:Looks @7 h (typeLookup (.ref C) "__setattr__") (some (.builtin "object.__setattr__"))) (pF:Looks @7 h (typeLookup (.ref C) name) none)
  (hx:h.get? x=some o) (hc:o.cls=.ref C) (hnc:∀c,o.data≠.cls c) (RH:o.dict=none)
  (hq:∀h' L8,(∀b ob,b≠x->h.get? b=some ob->h'.get? b=some ob)->h'.get? x=some {o with dict:=some h.objs.size}->h'.Ns1 h.objs.size (λy=>if y=name then some v else none)->Q () ⟨h',g,d,L8,os⟩) :
  wpAny @7 A (setAttr (.ref x) name v) Q E ⟨h,g,d,t,os⟩:=by
 have SF:=PySem.F.store_object;have f3:=SF.slot.bind (.ref x);unfold setAttr callSpecial? specialOf
 repeat (any_goals (first | assumption | (with_reducible refine UB hx ?_;rw[hc]) | with_reducible refine O7.at ?_ | wp_step))
 refine Ww SF.slot.plain SF.entry (CY Z hC hx hc (store_entry hC FU pF hx hc hnc RH λh' L8 k1 k2 k3=>?_))
 repeat (any_goals (first | assumption | wp_step))
 exact hq h' L8 k1 k2 k3
end
end Xc
namespace Xc
open PySem PySem.Spec PyProof.Rows L2
def Raw(e C:YH):YD->Prop:=λh=>∃vs t0,h.get? e=some {cls:=.ref C,data:=.fields vs}/\vs.size=6/\vs[0]?=some (.ref t0)/\vs[1]?=some .none
def Full(e C dx:YH):YD->Prop:=λh=>∃vs,h.get? e=some {cls:=.ref C,dict:=some dx,data:=.fields vs}/\vs.size=6/\vs[1]?=some .none
theorem qZ:∀h1 h2:YD,Raw e C h1->(∀o,h1.get? e=some o->h2.get? e=some o)->Raw e C h2:=λh1 h2 ⟨vs,t0,a,b⟩ k=>⟨vs,t0,k _ a,b⟩
theorem yc:∀h1 h2:YD,Full e C dx h1->(∀o,h1.get? e=some o->h2.get? e=some o)->Full e C dx h2:=λh1 h2 ⟨vs,a,b⟩ k=>⟨vs,k _ a,b⟩
structure EC(K:PySem.W.Frag)(C HE fI:Addr):Prop where
 lk:∃nm q N bs sn sub ab col dd k0 k1 k2 k3 k5,K.lookup C=some (dA nm q C N bs (.ref HE::bmV) sn sub ab col dd k0 k1 k2 k3 k5)
 ini:PySem.W.findIn K (.ref C) "__init__"=some (some (.ref fI))
 fn:∃o,K.lookup fI=some o/\o.cls=.type "function"
 sa:PySem.W.findIn K (.ref C) "__setattr__"=some (some (.builtin "object.__setattr__"))
 ce:PySem.W.findIn K (.ref C) "cell"=some none
 kp:PySem.W.keepIn K (.ref C)=true
theorem DA(x:String):(Value.ref HE::bmV).contains (.type x)=bmV.contains (.type x):=by rw[UA];rfl
theorem yp:Tl (.ref HE::bmV):=⟨(DA _).trans @2,(DA _).trans @2,(DA _).trans @2,(DA _).trans @2,(DA _).trans @2⟩
theorem Kv(h:H a=some o):upd H a o=H:=by
 funext b;unfold upd;split
 .rename_i e;rw[e,h]
 .rfl
section
variable {X:Cx}{pos apos p:Pos}{e:YI}{es:Yt}{ta:TA}
def J5(K:Yy)(ta:TA):TE:=λσ H Q=>ta σ H λvs H1=>∃e wd C HE fI,vs=[.ref e,wd]/\H1 e=some (.ext (Raw e C))/\EC K C HE fI/\Q .non H1
theorem vt:typeOf (.type "ValueError")=pure (.type "type"):=by kernel_rfl
theorem Ul:Manifest.isStub "ValueError"=false:=by decide +kernel
theorem NN(K:Yy):PySem.W.findCls K (.type "ValueError") (.type "type") "__init__"=some (.val (.builtin "ValueError.__init__")):=by
 kernel_rfl
theorem CP(hm:X.mg "ValueError"=none)(ha:PA X (e::es) ta)(hg:Gl X "ValueError":=by rfl)
  (he:starEach (e::es) X.env=(false,eval e X.env)::starEach es X.env:=by rfl) (fy:(backTo pos (starEach es X.env)).any (·.1)=false:=by rfl)
  (ht:eval (.Call (.Attribute (.Name "ValueError" p) "__init__" apos) (e::es) [] pos) X.env=(do
   let ov <- eval (.Name "ValueError" p) X.env
   standAt apos.atName
   let (f,first) <- holding [ov] (getMethod ov "__init__" pl)
   callWith pos f first (backTo pos (starEach (e::es) X.env)) (backToKw pos (keywordEach [] X.env))):=by rfl) :
  PE X (.Call (.Attribute (.Name "ValueError" p) "__init__" apos) (e::es) [] pos) (J5 X.K ta):=by
 intro pins s σ H Q I h;refine PySem.W.methodCall_KW (pl:=pl) (gU I hg hm (u:=.type "ValueError") (by decide +kernel) ?_) ht;obtain⟨m,F⟩:=I.fr;refine PySem.W.method_type F I.ok.mod.kin vt Ul (NN X.K) (by decide +kernel) ?_;refine Xi (bB (ha pos pins _ σ H _ (I.tok _) h) λus s1 az=>?_) he fy;obtain⟨vs,H1,I1,r1,ex,wd,C,HE,fI,ev,hx,ec,q1⟩:=az;subst ev;obtain⟨u0,us',rfl,r0,r1⟩:∃u0 us',us=u0::us'/\RelV (.ref ex) u0/\aB [wd] us':=by cases r1 with | cons a b=>exact⟨_,_,rfl,a,b⟩
 obtain rfl:u0=Value.ref ex:=r0;obtain⟨Tt,t0,g1,g2,g3,g4⟩:=(show bE X.prog X.w H1 s1.heap ex (.ext (Raw ex C))from I1.hok ex _ hx).1;obtain⟨nm,q,N,bs,sn,sub,ab,col,dd,k0,k1,k2,k3,k5,lk⟩:=ec.lk;obtain⟨hh,g,d,tk,os⟩:=s1;refine Fh (yp (HE:=HE)) (I1.kIn _ _ lk) g1 rfl rfl g3 (by have:=r1.length;simp at this;rw[this,UI];omega) λh' tp hk B0=>?_;refine⟨.non,H1,?_,rfl,q1⟩;have nw:Raw ex C h':=⟨_,tp,B0,by simpa using g2,by simp[g2],by simp[g4]⟩;have:=I1.write (x:=ex) (e:=ex) (o:=.ext (Raw ex C)) (h':=h') (t':=tk) (by rw[hx];exact True.intro) (.inl rfl) (λb u hb z=>hk b u hb z) ⟨_,B0⟩ ⟨nw,⟨_,B0⟩,qZ⟩;rwa [Kv hx]at this
end
section
variable {X:Cx}{pos pos' apos p:Pos}{e o value:YI}{es:Yt}{ta tv:TE}
def NM(K:Yy)(ta tv:TE):TS:=λD σ H=>tv σ H λy H1=>ta σ H1 λx H2=>∃e C HE fI,x=.ref e/\H2 e=some (.ext (Raw e C))/\EC K C HE fI/\
 ∀dx,H2 dx=none->dx≠e->D.nx σ (upd (upd H2 e (.ext (Full e C dx))) dx (.xd [("cell",y)]))
theorem GG{H:Hp}{fs:Ys}{h h':YD}{e C dx:YH}{y:V}(hx:H e=some (.ext (Raw e C)))(hd:h.get? dx=none)(hH:H dx=none)(hk:∀b u,b≠e->h.get? b=some u->h'.get? b=some u)(he:∃u,h'.get? e=some u) :
  Un fs [] H (upd (upd H e (.ext (Full e C dx))) dx (.xd [("cell",y)])) h h' where
 keep:=λb o q n _ _=>hk b o (λz=>by rw[z,hx]at n;cases n) q
 slot:=λb o q n _ _=>⟨o.slots,hk b o (λz=>by rw[z,hx]at n;cases n) q⟩
 free:=λb o q n _=>by
  rw[ax (λz=>by rw[z,hd]at q;cases q),ax (λz=>by rw[z,hx]at n;cases n)];exact n
 there:=λb o q _=>by
  by_cases z:b=e
  .rw[z];exact he
  .exact⟨o,hk b o z q⟩
 tups:=λb xs q=>by rw[ax (λz=>by rw[z,hH]at q;cases q),ax (λz=>by rw[z,hx]at q;cases q)];exact q
 frzs:=λb o u q=>by rw[ax (λz=>by rw[z,hH]at q;cases q),ax (λz=>by rw[z,hx]at q;cases q)];exact q
 tbls:=λb ps q=>⟨#[],by rw[ax (λz=>by rw[z,hH]at q;cases q),ax (λz=>by rw[z,hx]at q;cases q),Array.append_empty];exact q⟩
theorem GC(ha:PE X o ta)(hv:PE X value tv)(hs:swapsWith value (some (.Attribute o "cell" pos')) pos.line X.env=pure false):PS X (.Assign [.Attribute o "cell" pos'] value pos) (NM X.K ta tv):=by
 intro pins s σ H D I h;refine plainObj_wpAny_Assign_Attribute (bB (hv pins s σ H _ I h) λu s1 ⟨y,H1,I1,ry,q⟩=>bB (ha pins s1 σ H1 _ I1 q) λov s2 az=>?_) hs;obtain⟨x,H2,I2,rx,ex,C,HE,fI,ee,hx,ec,q2⟩:=az;subst ee;obtain rfl:ov=Value.ref ex:=rx;obtain⟨Tt,t0,g1,g2,g3,g4⟩:=(show bE X.prog X.w H2 s2.heap ex (.ext (Raw ex C))from I2.hok ex _ hx).1;obtain⟨nm,q',N,bs,sn,sub,ab,col,dd,k0,k1,k2,k3,k5,lk⟩:=ec.lk;have kin:=I2.kIn;obtain⟨hh,g,d,tk,os⟩:=s2;have Am:H2 hh.objs.size=none:=I2.hok.fresh (m_ _);have hne:hh.objs.size≠ex:=λz=>by have:=n_ g1;rw[<- z]at this;exact absurd this (VU _)
 refine store_attr (yp (HE:=HE)) (kin _ _ lk) (by rw[refuseLoop_ref];exact PySem.F.store_ValueError.passes _) (VL kin ec.sa) (VL kin ec.ce) g1 rfl (λc z=>by cases z) rfl λh' L8 hk he hn=>?_;refine⟨σ,_,I2.un (h':=h') (t':=L8) (GG (C:=C) (y:=y) hx (U4 (m_ _)) Am hk ⟨_,he⟩) ?_,q2 _ Am hne⟩;intro a oa hoa
 by_cases z1:a=hh.objs.size
 .subst z1;rw[au]at hoa;cases hoa;refine⟨_,hn,λf=>?_⟩
  by_cases zf:f="cell"
  .subst zf;rw[h_ rfl];exact ry
  .rw[i_ zf];have:List.lookup f [("cell",y)]=none:=by
    rw[Vj];have:(f=="cell")=false:=by simpa using zf
    rw[this];rfl
   rw[this];exact True.intro
 .rw[ax z1]at hoa
  by_cases z2:a=ex
  .subst z2;rw[au]at hoa;cases hoa;exact⟨⟨Tt,he,g2,g4⟩,⟨_,he⟩,yc⟩
  .rw[ax z2]at hoa;refine(I2.hok a oa hoa).stay (λb u hb hu=>hk b u (λz=>?_) hu) (λb hb=>?_) λb xs hb=>?_
   .rcases hb with hb | hb
    .exact z2 (hb▸z)
    .rw[z,hx]at hb;cases hb
   .rw[ax (λz=>by rw[z,Am]at hb;cases hb),ax (λz=>by rw[z,hx]at hb;cases hb)];exact hb
   .rw[ax (λz=>by rw[z,Am]at hb;cases hb),ax (λz=>by rw[z,hx]at hb;cases hb)];exact hb
theorem forget{pins:Yi}{σ:L2.St}{H:Hp}{s:YA}{e:YH}{φ:YD->Prop}(I:@5)(hx:H e=some (.ext φ))(hn:X.s₀.heap.get? e=none):Inv X pins σ (λb=>if b=e then none else H b) s:=by
 have ne:∀{b:YH}{o:HO},H b=some o->o≠.ext φ->b≠e:=λ{b o} h1 h2 z=>by rw[z,hx]at h1;exact h2 (Option.some.inj h1).symm
 have kp:∀{b:YH},b≠e->(λb=>if b=e then none else H b) b=H b:=λ{b} z=>i_ z;have nn:∀{b:YH},H b=none->(λb=>if b=e then none else H b) b=none:=λ{b} z=>by
  show(if b=e then none else H b)=none
  split
  .rfl
  .exact z
 refine⟨I.ok,I.os,I.bare,⟨I.base.keep,I.base.slot,λb o q n hxx=>nn (I.base.free b o q n hxx),I.base.there,λb xs q=>?_,λb o u q=>?_,λb ps q=>?_⟩,I.loc,I.cell,nn I.free,λx c hc=>nn (I.freeC x c hc),λp hp=>?_,λa oa ha=>?_,I.len⟩
 .have:=I.base.tups b xs q;exact(kp (ne this (by intro z;cases z))).trans this
 .have:=I.base.frzs b o u q;exact(kp (ne this (by intro z;cases z))).trans this
 .obtain⟨more,h2⟩:=I.base.tbls b ps q;exact⟨more,(kp (ne h2 (by intro z;cases z))).trans h2⟩
 .obtain⟨a1,a2,a3⟩:=I.pin p hp;exact⟨a1,nn a2,a3⟩
 .have hae:a≠e:=λz=>by
   have:(if a=e then none else H a)=some oa:=ha;rw[h_ z]at this;cases this
  have ha':H a=some oa:=(kp hae).symm.trans ha;exact(I.hok a oa ha').stay (λb u _ hu=>hu) (λb hb=>(kp (ne hb (by intro z;cases z))).trans hb) λb xs hb=>(kp (ne hb (by intro z;cases z))).trans hb
end
end Xc
namespace Xc
open PySem PySem.Spec
section
variable {M:Model}{A:YC}{E:Yh}{env:Env}
variable {nm q:Str}{C N:YH}{bs bm:Yo}{sn:Yr}{sub:Yo}{ab:Bool}{col:Option Bool}{dd:Yq}{k0 k1 k2 k3 k5:Yp}
theorem xM(Z:Tl bm)(hh:A.handled=none)
  (h:wpAny M A x (λv s₁=>∃e dx vs,v=.ref e/\s₁.heap.get? C=some @6/\
   s₁.heap.get? e=some {cls:=.ref C,dict:=dx,data:=.fields vs}/\vs[1]?=some .none/\E (.ref e) s₁) E s) :
  wpAny M A (raiseStmt env (some x) none) Q E s:=by
 have FR:(Value.ref C::bm).contains (.type "BaseException")=true:=by rw[UA,Z.b,VA]
 unfold raiseStmt;refine a_ (UO h (λv s₁ h₁=>?_) λ_ _ x=>x);obtain⟨e,dx,vs,rfl,hC,he,hv,hE⟩:=h₁;obtain⟨hp,g,d,tk,os⟩:=s₁
 repeat (first | with_reducible refine UB he ?_ | with_reducible refine UB hC ?_ | (with_reducible refine U9 hC ?_;rw[FR]) | (with_reducible refine K_ he rfl hv ?_) | wp_step)
 exact wpAny_raiseNew_none hh hE
end
end Xc
namespace Xc
open PySem PySem.Spec PyProof.Rows L2
def MW(K:Yy)(HE fI:YH):Sp:=λvs H Q _=>∃e C wd cv,vs=[.ref e,wd,cv]/\EC K C HE fI/\H e=some (.ext (Raw e C))/\∀dx,H dx=none->dx≠e->Q .non (upd (upd H e (.ext (Full e C dx))) dx (.xd [("cell",cv)]))
def P9:YJ->Yu
 | .ClassDef _ _ _ b _ _ _ _ _ _ _=>b
 | _=>[]
section
variable {X:Cx}{k:Nat}{pos bG p:Pos}{c:Str}{a:YI}{es:Yt}{ta:TA}{dvs:YR}{ds:Yo}{fd:YF}{HE C fI:YH}
def zR(X:Cx)(σ:L2.St)(C:YH)(R:YH->Hp->Prop):Prop:=∀(pins:Yi)(H:Hp)(s:YA)(e dx:YH),Inv X pins σ H s->X.s₀.sz<=e->H e=none->Rec X.s₀.heap s.heap H e C dx->R dx H->X.xe (.ref e) s
def LD(X:Cx)(C:YH)(dvs:YR)(ta:TA):TS:=λ_ σ H=>ta σ H λvs H1=>∃wd cv,vs++dvs=[wd,cv]/\zR X σ C λdx H2=>H1 dx=none/\H2=upd H1 dx (.xd [("cell",cv)])
theorem Om(I:@5)(h:s.sz<=e):X.s₀.heap.get? e=none:=U4 (B_ I.sz h)
theorem vy(ec:EC X.K C HE fI)(F:eh X.prog X.w X.K X.mg X.base l9 k fI fd ["self","words","cell"] (MW X.K HE fI))(hr:bF (k+1) X.A)(hg:Gl X c)(hm:X.mg c=some (.ref C))(hb:Binds X.K fd ["self","words","cell"] ds)(hd:aB dvs ds)
  (ha:PA X (a::es) ta) (k8:(c==("__debug__":Str))=false:=by decide) (he:starEach (a::es) X.env=(false,eval a X.env)::starEach es X.env:=by rfl) (fy:(backTo bG (starEach es X.env)).any (·.1)=false:=by rfl) :
  PS X (.Raise (some (.Call (.Name c p) (a::es) [] bG)) none pos) (LD X C dvs ta):=by
 intro pins s σ H D I h;obtain⟨nm,q,N,bs,sn,sub,ab,col,dd,k0,k1,k2,k3,k5,lk⟩:=ec.lk;obtain⟨oI,lkI,fc⟩:=ec.fn;rw[arm_exec_Raise];refine a_ (Vo (xM (C:=C) (nm:=nm) (q:=q) (N:=N) (bs:=bs) (bm:=.ref HE::bmV) (sn:=sn) (sub:=sub) (ab:=ab) (col:=col) (dd:=dd) (k0:=k0) (k1:=k1) (k2:=k2) (k3:=k3) (k5:=k5) yp hr.hd ?_));refine a_ (UO (Q:=λv s₁=>∃e dx vs,v=.ref e/\s₁.heap.get? C=some (dA nm q C N bs (.ref HE::bmV) sn sub ab col dd k0 k1 k2 k3 k5)/\s₁.heap.get? e=some {cls:=.ref C,dict:=dx,data:=.fields vs}/\vs[1]?=some .none/\X.xe (.ref e) s₁) ?_ (λv s₁ hv=>a_ (Vo (e_ hv))) λ_ _ x=>x);refine VH (jb I hg hm ?_ k8);refine Wi (h₀:=X.base) I.ok.mod.kin ec.kp (bB (ha bG pins s σ H _ I h) λus s1 ⟨vs,H1,I1,r,wd,cv,ev,W⟩=>⟨I1.kIn,?_⟩) he fy;have kin:=I1.kIn;have e0:=I1.env0;have Tb:vs.length<=2:=by have:=VE List.length ev;simp at this;omega
 have hus:us.length<=sizeLine:=by rw[<- r.length,UI];omega
 obtain⟨hh,g,d,tk,os⟩:=s1;refine DX (yp (HE:=HE)) (kin _ _ lk) (VL kin ec.ini) (kin _ _ lkI) fc (λh' e hm' hz=>?_) hus;obtain⟨t0,Tu,_,_⟩:=hm'.there;have Tv:H1 e=none:=I1.hok.fresh hz;have hne:=Om I1 hz;have I2:Inv X pins σ (upd H1 e (.ext (Raw e C))) ⟨h',g,d,tk,os⟩:=I1.laid (a:=e) (o:=.ext (Raw e C)) (t':=tk) hm'.keeps hz ⟨⟨_,t0,Tu,rfl,rfl,rfl⟩,⟨_,Tu⟩,qZ⟩;have r2:aB (V.ref e::(vs++dvs)) (Value.ref e::(us++ds)):=.cons rfl (r.append hd);have mE:MW X.K HE fI (.ref e::(vs++dvs)) (upd H1 e (.ext (Raw e C))) (λv H2=>v=.non/\∃dx,H1 dx=none/\dx≠e/\H2=upd (upd (upd H1 e (.ext (Raw e C))) e (.ext (Full e C dx))) dx (.xd [("cell",cv)])) E0:=by
  refine⟨e,C,wd,cv,by rw[ev],ec,au,λdx h1 h2=>⟨rfl,dx,?_,h2,rfl⟩⟩;rwa [ax h2]at h1
 have hl:(Value.ref e::us++ds).length=["self","words","cell"].length:=by
  have e1:=r2.length;rw[F.len _ _ _ _ mE]at e1;exact e1.symm
 refine Xh (V7 (F.run _ X.stack _ _ ⟨Value.ref e::us,[]⟩ (Value.ref e::(us++ds)) _ _ E0 (hr.make C us []) (I2.env0.make C us []) (hb _ (Value.ref e::us) I2.kIn hl) r2 mE) λr s' tX=>?_);cases r with
 | error x=>exact False.elim tX
 | ok fl=>
  cases fl with
  | ret u=>
   obtain⟨v,H',I3,rv,ev',dx,d1,d2,rfl⟩:=I2.after tX;subst ev';have hF:Full e C dx s'.heap:=(show bE X.prog X.w _ s'.heap e (.ext (Full e C dx))from I3.hok e _ (by rw[ax d2.symm,au])).1;obtain⟨P2,f1,f2,f3⟩:=hF;have I4:=forget I3 (e:=e) (φ:=Full e C dx) (by rw[ax d2.symm,au]) hne;have hH:(λb=>if b=e then none else upd (upd (upd H1 e (.ext (Raw e C))) e (.ext (Full e C dx))) dx (.xd [("cell",cv)]) b)=upd H1 dx (.xd [("cell",cv)]):=by
    funext b
    by_cases z:b=e
    .subst z;rw[h_ rfl,ax d2.symm,Tv]
    .rw[i_ z]
     by_cases z2:b=dx
     .subst z2;rw[au,au]
     .rw[ax z2,ax z2,ax z,ax z]
   rw[hH]at I4;refine⟨rv,e,some dx,P2,rfl,I3.kIn _ _ lk,f1,f3,W pins _ s' e dx I4 (B_ I1.sz hz) (by rw[ax d2.symm,Tv]) ⟨_,P2,f1,rfl,rfl,rfl,by omega,.inl f3⟩ ⟨d1,rfl⟩⟩
  | next=>exact False.elim tX
  | brk=>exact False.elim tX
  | cont=>exact False.elim tX
end
def Jn(P:YB)(w:YE):CXT:=λouter H s E ev s'=>∃e C dx,ev=.ref e/\s.sz<=e/\CE outer P w H s (λ_ H'=>H' e=none/\Rec s.heap s'.heap H' e C dx/\E (.ref C) (some dx) H') .none s'
theorem Rec.mono(r:Rec s0 h H e C dx)(k:s1.objs.size<=s0.objs.size):Rec s1 h H e C dx:=by
 obtain⟨oe,vs,a,b,c,d,e',f⟩:=r;refine⟨oe,vs,a,b,c,d,e',f.imp id ?_⟩;rintro⟨T,oT,ts,t1,t2,t3,t4⟩;exact⟨T,oT,ts,t1,t2,B_ k t3,t4⟩
section
variable {X:Cx}{pins:Yi}{σ:L2.St}{H:Hp}{s:YA}
theorem zB(F:eh X.prog X.w X.K X.mg X.base (Jn X.prog X.w) k f fd ps sp)(hr:bF k X.A)(hb:Binds X.K fd ps ds)(hd:aB dvs ds)
  (I:@5) (r:aB vs us) (h:sp (vs++dvs) H Q E) (hx:∀C,zR X σ C λdx H'=>E (.ref C) (some dx) H'):wpAny @3 X.A (call (.ref f) us) (EP X pins σ Q) X.xe s:=by
 have r2:aB (vs++dvs) (us++ds):=r.append hd;have hl:(us++ds).length=ps.length:=by rw[<- r2.length];exact F.len _ _ _ _ h
 refine Xh (V7 (F.run X.A X.stack s H ⟨us,[]⟩ (us++ds) (vs++dvs) Q E hr I.env0 (hb s us I.kIn hl) r2 h) λr s' hq=>?_);cases r with
 | error e=>
  obtain⟨e,C,dx,rfl,hn,hc⟩:=(show Jn X.prog X.w X.stack H s E _ s' from hq);obtain⟨v,H',I',_,h1,h2,h3⟩:=I.after hc;exact hx C pins H' s' e dx I' (B_ I.sz hn) h1 (h2.mono I.sz) h3
 | ok fl=>
  cases fl with
  | ret u=>exact I.after hq
  | next=>exact False.elim hq
  | brk=>exact False.elim hq
  | cont=>exact False.elim hq
end
theorem Ci(u:Un fs [] H0 H h0 h)(B0:h0.objs.size<=e)(RI:h0.objs.size<=L)(hT':∀T,T'=some T->h0.objs.size<=T)
  (k1:∀b o,b∉L::fs->b≠e->T'≠some b->h.get? b=some o->h'.get? b=some o) (k2:∀b o,b∈L::fs->h.get? b=some o->∃sl,h'.get? b=some {o with slots:=sl}):Un fs [] H0 H h0 h':=by
 have he:=U4 B0;have hL:=U4 RI;have hT:∀T,T'=some T->h0.get? T=none:=λT z=>U4 (hT' T z);have ne:∀{b:YH}{o:Obj},h0.get? b=some o->b≠L/\b≠e/\T'≠some b:=λ{b o} q=>⟨λz=>(by rw[z,hL]at q;cases q),λz=>(by rw[z,he]at q;cases q),λz=>(by rw[hT b z]at q;cases q)⟩;refine⟨λb o q n hf hx=>?_,λb o q n hf hx=>?_,u.free,λb o q hx=>?_,u.tups,u.frzs,u.tbls⟩
 .obtain⟨a1,a2,a3⟩:=ne q;exact k1 b o (λz=>by rcases p_.mp z with z | z;(· exact a1 z);exact hf z) a2 a3 (u.keep b o q n hf hx)
 .obtain⟨sl,e1⟩:=u.slot b o q n hf hx;obtain⟨Oy,e2⟩:=k2 b _ (f_ _ hf) e1;exact⟨Oy,e2⟩
 .obtain⟨o',e1⟩:=u.there b o q hx;obtain⟨a1,a2,a3⟩:=ne q
  by_cases z:b∈L::fs
  .obtain⟨sl,e2⟩:=k2 b o' z e1;exact⟨_,e2⟩
  .exact⟨o',k1 b o' z a2 a3 e1⟩
theorem lN(hok:mI P w H h)(k:∀b o,(∃u,H b=some u)->h.get? b=some o->h'.get? b=some o):mI P w H h':=λa oa ha=>
 (hok a oa ha).stay (λb u hb hu=>k b u (by rcases hb with hb | hb;(· exact⟨_,hb▸ha⟩);exact⟨_,hb⟩) hu) (λ_ z=>z) λ_ _ z=>z
theorem vV{P:YB}{w:YE}{K:Yy}{mg:Yk}{base:YD}{N:Yr}{qual:Str}{scope:YG}{f:YH}{cd:Yz}{A:YC}{outer:List Env}{s:YA}{H:Hp}{E:XK}(σ:L2.St)(C:YH) :
  zR (gu (Jn P w) P w K mg base N qual scope f cd A outer s H E) σ C λdx H'=>E (.ref C) (some dx) H':=by
 intro pins H1 s1 e dx I hn h1 hr hE;have hstk:s1.heap.FunFrames base (envOfC qual scope s.sz f cd::outer):=I.stack;have hfr:(A.deeper (envOfC qual scope s.sz f cd)).frames=some (envOfC qual scope s.sz f cd::outer):=I.ok.frames;show wpAny (model P w) (A.deeper (envOfC qual scope s.sz f cd)) (leaving (envOfC qual scope s.sz f cd) (.ref e)) _ _ s1;refine Cp (s0h:=s.heap) (H:=H1) hfr hstk (L:=s.sz) rfl hr I.sz (λb hb=>I.hok.fresh hb) λh' T' hT k1 k2 uf=>?_;have hstf:∀b∈mP (envOfC qual scope s.sz f cd::outer),H1 b=none:=I.stkFree;refine⟨e,C,dx,rfl,hn,.non,H1,I.os,I.bare,Ci (L:=s.sz) (T':=T') (e:=e) I.base hn (m_ _) (λT z=>(hT T z).1) k1 k2,lN I.hok λb o ⟨u,hu⟩ hb=>k1 b o (λz=>by rw[hstf b z]at hu;cases hu) (λz=>by rw[z,h1]at hu;cases hu) (λz=>by rw[(hT b z).2]at hu;cases hu) hb,rfl,h1,uf,hE⟩
end Xc
namespace Xc
open PySem
open Sem (wp)
open PySem.W (Looks Frag InstAt)
section
variable {prog:YB}{w:YE}{A:YC}{E:Yh}{h:YD}{g:Array GenState}{d:Drawn}{t:Nat}{os:OsState}{a:YH}{o:Obj}
 {nm q:Str} {C N:YH} {bs bm:Yo} {sn:Yr} {sub:Yo} {ab:Bool} {col:Option Bool} {dd:Yq} {k0 k1 k2 k3 k5:Yp} {K:Frag} {od:Obj}
structure EA(K:Frag)(C:Addr):Prop where
 ga:PySem.W.findIn K (.ref C) "__getattribute__"=some (some (.builtin "BaseException.__getattribute__"))
 gt:PySem.W.findIn K (.ref C) "__getattr__"=some none
 cl:PySem.W.findIn K (.ref C) "__class__"=some (some (.builtin "object.__class__"))
 mo:PySem.W.mroIn K C (.type "object")=some true
theorem FA(Z:Tl bm)(hC:h.get? C=some @6)
  (hx:h.get? a=some o) (hc:o.cls=.ref C) (hq:Q () ⟨h,g,d,t,os⟩):wpAny M A (checkBuiltinCall "BaseException.__getattribute__" ⟨[.ref a,FT],[]⟩) Q E ⟨h,g,d,t,os⟩:=by
 have hk:builtinKind "BaseException.__getattribute__"=some .slot:=by decide +kernel
 have hsplit:splitId "BaseException.__getattribute__"=some ("BaseException","__getattribute__"):=by decide +kernel
 have FR:(Value.ref C::bm).contains (.type "BaseException")=true:=by rw[UA,Z.b,VA]
 have ha:=F.args_bexc_ga (.ref a) FT;simp only[checkBuiltinCall,hk,hsplit];refine a_ ?_
 .unfold isInstance
  repeat (first | (with_reducible refine UB hx ?_;rw[hc]) | (with_reducible refine U9 hC ?_;rw[FR]) | wp_step)
  exact hq
theorem uV(X:K.In h)(ea:EA K C)(I:InstAt h a o C (some od))(hq:Q (.done (.ret (.ref C))) ⟨h,g,d,t,os⟩) :
  wpAny @7 A (Builtin.«object.__getattribute__» ⟨[.ref a,.str "__class__" tk],[]⟩) Q E ⟨h,g,d,t,os⟩:=by
 have hT5:(⟨h,g,d,t,os⟩:YA).TypeIs (.builtin "object.__class__") "getset_descriptor":=F.typeOf_object_class;have f5:=F.typeOf_object_class;have f6:=F.slot_gs_get.lookup;have f7:=F.slot_gs_set.lookup;have hx:=I.at_;have hc:=I.cls;have L:=VL (M:=model prog w) X ea.cl
 repeat (any_goals (first | assumption | (with_reducible refine UB hx ?_;rw[hc]) | with_reducible refine L.at ?_ | wp_step))
 exact PySem.W.class_get (s:=⟨h,g,d,t,os⟩) X I ea.mo (e_ hq)
theorem xE(Z:Tl bm)(hC:h.get? C=some @6)(X:K.In h)(ea:EA K C)(I:InstAt h a o C (some od))(hq:Q (some (.ref C)) ⟨h,g,d,t+1,os⟩) :
  wpAny @7 A (getAttr? (.ref a) "__class__") Q E ⟨h,g,d,t,os⟩:=by
 have FB:=PySem.F.excAttr_ValueError;have f3:=FB.ga.bind (.ref a);have hx:=I.at_;have hc:=I.cls;have hx2:(Value.builtin "BaseException.__getattribute__"==Value.builtin "object.__getattribute__")=false:=by decide +kernel
 have hx1:(onTheHeap (Value.ref C)&&Value.builtin "BaseException.__getattribute__"==Value.builtin "object.__getattribute__")=false:=by rw[hx2];rfl
 have L1:=VL (M:=model prog w) X ea.ga;have L2:=VL (M:=model prog w) X ea.gt;unfold getAttr? getAttrBy?
 repeat (any_goals (first | assumption | (with_reducible refine UB hx ?_;rw[hc]) | with_reducible refine L1.at ?_ | with_reducible refine L2.at ?_ | with_reducible refine VV ?_ | wp_step))
 refine Ww FB.ga.plain F.entry_bexc_ga (FA Z hC hx hc (uV X ea I ?_))
 repeat (any_goals (first | assumption | wp_step))
end
end Xc
namespace Xc
open PySem PySem.Spec PyProof.Rows L2
open PySem.W (Looks Frag KitX)
section
variable {K:Frag}{x C:YH}
theorem Di(Z:Tl bm)(lk:K.lookup C=some @6)(ea:EA K C) :
  KitX K (.ref x) (.ref C) (λh=>∃ox od,PySem.W.InstAt h x ox C (some od)) where
 ty:=λ_ _ _ ⟨_,_,I⟩=>I.type
 it:=λ_ _ X _=>by
  intro A' Q' E' s' k q;unfold isType loadHead;exact a_ (wpAny_loadPart (k _ _ (X _ _ lk)) (e_ q))
 ne:=λh tp dd br n sl X htp=>by
  refine Bool.eq_false_iff.mpr λq=>?_;have e:C=tp:=Value.ref.inj (WU.mp q);subst e;have z:=VE (λo:Option Obj=>o.map (·.data)) ((X _ _ lk).symm.trans htp);cases z
 ca:=λ{prog w A E Q s} X ⟨ox,od,I⟩ k=>by
  obtain⟨hh,g,d,t,os⟩:=s;exact xE Z (X _ _ lk) X ea I k
end
def Bl(e C dx:YH):YD->Prop:=λh=>∃oe,h.get? e=some oe/\oe.cls=.ref C/\oe.dict=some dx/\PySem.W.notCls oe=true
theorem yr:∀h1 h2:YD,Bl e C dx h1->(∀o,h1.get? e=some o->h2.get? e=some o)->Bl e C dx h2:=λh1 h2 ⟨oe,a,b⟩ k=>⟨oe,k _ a,b⟩
def Er(H:Hp)(v:V)(C:YH):Prop:=∃e dx fs,v=.ref e/\H e=some (.ext (Bl e C dx))/\H dx=some (.xd fs)
section
variable {X:Cx}{pos p p2 p3:Pos}{l:YI}{ta:TE}{D:YH}
theorem wz:dG X (.builtin "isinstance") (λxs H Q=>∃x cv u C b,xs=[x,cv]/\RelV cv u/\(∀u',RelV cv u'->u'=u)/\Er H x C/\(∃nm q N bs bm sn sub ab col dd k0 k1 k2 k3 k5,Tl bm/\X.K.lookup C=some @6)/\EA X.K C/\PySem.W.kitOne X.K (.ref C) u=some b/\Q (.bl b) H):=by
 intro pins s σ H xs us Q I r h;obtain⟨x,cv,u,C,b,rfl,_,hu,⟨e,dx,fs,rfl,h1,h2⟩,⟨nm,q,N,bs,bm,sn,sub,ab,col,dd,k0,k1,k2,k3,k5,Z,lk⟩,ea,hk,hq⟩:=h;obtain⟨u1,u2,rfl,rx,rt⟩:=r.two;cases hu _ rt;cases(show u1=Value.ref e from rx);obtain⟨oe,a1,a2,a3,a4⟩:=(show bE X.prog X.w H s.heap e (.ext (Bl e C dx))from I.hok e _ h1).1;obtain⟨mA,⟨oD,es,ep,o1,o2⟩,_⟩:=(show bE X.prog X.w H s.heap dx (.xd fs)from I.hok dx _ h2);refine Vi (Di Z lk ea) I.kIn ⟨oe,oD,a1,a2,a4,by rw[a3];exact o1⟩ hk (λz=>nomatch z) λtk=>⟨.bl b,H,I.tok tk,rfl,hq⟩
def MN(K:Yy)(C:YH):Prop:=(∃nm q N bs bm sn sub ab col dd k0 k1 k2 k3 k5,Tl bm/\K.lookup C=some @6)/\EA K C
def lV(K:Yy)(i:Nat)(u:Yz):TE:=λσ H Q=>∃x C b,σ[i]?=some (some x)/\Er H x C/\MN K C/\PySem.W.kitOne K (.ref C) u=some b/\Q (.bl b) H
theorem fW(hz:X.mg "isinstance"=none)(hm:X.mg c=some (.ref D))(hN:X.N[i]?=some x:=by rfl)(hv:rm X.env.scope x:=by first | exact Or.inl rfl | exact Or.inr (Or.inl rfl))(hg:Gl X "isinstance":=by rfl)(OL:Gl X c:=by rfl)(k8:(c==("__debug__":Str))=false:=by decide)(L9:@9:=by decide)(hd2:(x==("__classdict__":Str))=false:=by decide)
  (he:starEach [.Name x p3,.Name c p2] X.env=(false,eval (.Name x p3) X.env)::starEach [.Name c p2] X.env:=by rfl):PE X (.Call (.Name "isinstance" p) [.Name x p3,.Name c p2] [] pos) (lV X.K i (.ref D)):=λpins s σ H Q I ⟨v,C,b,h1,h2,⟨h3,h4⟩,h5,h6⟩=>
 gx wz hg hz Wm (aP (bK hN hv L9 hd2) (aP (za OL hm (v:=.ref D) rfl k8) b9 rfl) he) @2 @2 he rfl pins s σ H Q I ⟨v,h1,v,.ref D,.ref D,C,b,rfl,rfl,λ_ z=>z,h2,h3,h4,h5,h6⟩
theorem Lj(hz:X.mg "isinstance"=none)(hm:X.mg "ValueError"=none)(hN:X.N[i]?=some x:=by rfl)(hv:rm X.env.scope x:=by first | exact Or.inl rfl | exact Or.inr (Or.inl rfl))(hg:Gl X "isinstance":=by rfl)(OL:Gl X "ValueError":=by rfl)(L9:@9:=by decide)(hd2:(x==("__classdict__":Str))=false:=by decide)
  (he:starEach [.Name x p3,.Name "ValueError" p2] X.env=(false,eval (.Name x p3) X.env)::starEach [.Name "ValueError" p2] X.env:=by rfl):PE X (.Call (.Name "isinstance" p) [.Name x p3,.Name "ValueError" p2] [] pos) (lV X.K i (.type "ValueError")):=λpins s σ H Q I ⟨v,C,b,h1,h2,⟨h3,h4⟩,h5,h6⟩=>
 gx wz hg hz Wm (aP (bK hN hv L9 hd2) (aP (λpins s σ H Q I h=>gU I OL hm (u:=.type "ValueError") (by decide +kernel) ⟨.ty "ValueError",H,I,rfl,h⟩:PE X (.Name "ValueError" p2) (tC (.ty "ValueError"))) b9 rfl) he) @2 @2 he rfl pins s σ H Q I ⟨v,h1,v,.ty "ValueError",.type "ValueError",C,b,rfl,rfl,λ_ z=>z,h2,h3,h4,h5,h6⟩
end
end Xc
namespace Xc
open PySem PySem.Spec PyProof.Rows L2
theorem Q4(I:@5)(A':YC)(E':Yh)(hf:A'.frames=X.A.frames):Inv {X with A:=A',calm:=false,xe:=E'} pins σ H s:=
 ⟨⟨I.ok.mod,I.ok.kind,I.ok.glob,I.ok.blt,I.ok.above,I.ok.inj,I.ok.has,I.ok.cab,λz=>(by cases z),hf.trans I.ok.frames,I.ok.stk,I.ok.exf,I.ok.bs,I.ok.bsz,I.ok.noex,I.ok.exfs,I.ok.funs,I.ok.frf⟩,I.os,I.bare,I.base,I.loc,I.cell,I.free,I.freeC,I.pin,I.hok,I.len⟩
theorem Pn(ok:X.Ok)(I:Inv {X with A:=A',calm:=false,xe:=E'} pins σ H s):Inv X pins σ H s:=
 ⟨ok,I.os,I.bare,I.base,I.loc,I.cell,I.free,I.freeC,I.pin,I.hok,I.len⟩
structure FV(k:Nat)(A:Around):Prop where
 dp:A.depth+3*k+5<recursionLimit
 un:A.units+16*k+200<cLine
abbrev Qc(P:YB)(w:YE)(K:Yy)(mg:Yk)(base:YD)(N:Yr)(qual:Str)(scope:YG)(f:YH)(cd:Yz)(A:YC)(outer:List Env)(s:YA)(H:Hp):Cx:=
 {gu l9 P w K mg base N qual scope f cd {A with handled:=none} outer s H E0 with A:=A.deeper (envOfC qual scope s.sz f cd),calm:=false,xe:=λe s'=>wpAny (model P w) (A.deeper (envOfC qual scope s.sz f cd)) (leaving (envOfC qual scope s.sz f cd) e) (λ_ OD=>False) (λe' OD=>False) s'}
structure O8(P:Program)(w:World)(K:PySem.W.Frag)(mg:Str->Option Value)(base:Heap)(k:Nat)(f:Addr)(fd:FuncData)(ps:List Str)(sp:Sp):Prop where
 len:∀vs H Q E,sp vs H Q E->vs.length=ps.length
 run:∀(A:Around)(outer:List Env)(s:Shared)(H:Hp)(args:Args)(us:List Value)(vs:List V)(Q:VK),FV k A->wL P w K mg base A outer s H->BindsTo s fd args (ps.zip us)->aB vs us->sp vs H Q E0->
  codeAny (model P w) A (.call (.ref f) args) (CR l9 outer P w H s Q E0) s
theorem JN{P:YB}{w:YE}{K:Yy}{mg:Yk}{base:YD}{k:Nat}{f:YH}{name qual:Str}{params:Arguments}{body:Yu}{scope:YG}{dV kV doc pm bS ct oc:Yz}{an od:Yq}
  {ug:Yj} {N ps:Yr} {sp:Sp} (lk:K.lookup f=some ⟨oc,od,.func (PySem.W.fnOf name qual params body scope dV kV doc pm an bS ct),ug⟩) (fX:PySem.W.codeIn K bS qual=true) (S:cm N ps scope)
  (len:∀vs H Q E,sp vs H Q E->vs.length=ps.length)
  (hbody:∀(A:YC)(outer:List Env)(s:YA)(H:Hp)(vs:YR)(Q:VK),sp vs H Q E0->
   ∃t,PSs (Qc P w K mg base N qual scope f bS A outer s H) body t/\t {nx:=λ_ H'=>Q .non H',rt:=Q} (start N vs) H) :
  O8 P w K mg base (k+1) f (PySem.W.fnOf name qual params body scope dV kV doc pm an bS ct) ps sp:=by
 refine⟨len,λA outer s H args us vs Q hr e0 hb r mE=>?_⟩;have hl:=len _ _ _ _ mE;have KX:K.In s.heap:=e0.mod.kin.keeps λb o e=>(e0.bs b o e).1;have lim:s.heap.NoLimit:=e0.mod.nolimit.keeps λb o e=>(e0.bs b o e).1;have cM:∀y∈ps.zip us,scope.names.lookup y.1=some .local\/(scope.names.lookup y.1=some .cell/\((cellsFrom (s.sz+1) scope.names []).lookup y.1).isSome=true):=λ⟨n,v⟩ hy=>by
  rcases S.par n (WM hy).1 with q | q
  .exact .inl q
  .exact .inr ⟨q,Wj _ _ _ (.inl q)⟩
 refine Xd (by have:=hr.dp;omega) (KX _ _ lk) rfl S.co S.gen rfl (XA KX fX) (hb _ _ _ _ ?_);refine Wt S.kind cM λenv he s1 x=>?_;subst he;refine⟨lim.keeps x.toInCall.keep,codeAny_func ?_⟩;obtain⟨t,ht,hq⟩:=hbody A outer s H vs Q mE;have e1:wL P w K mg base {A with handled:=none} outer s H:=⟨e0.frames,e0.mod,e0.bs,e0.bsz,e0.funs,e0.frf,e0.hok,e0.bare⟩;have I0:Inv (gu l9 P w K mg base N qual scope f bS {A with handled:=none} outer s H E0) [] (start N vs) H s1:=lB S rfl e1 hl r x;have I:Inv (Qc P w K mg base N qual scope f bS A outer s H) [] (start N vs) H s1:=Q4 I0 _ _ rfl;refine UO (ht [] s1 (start N vs) H _ I hq) (λfl s' hs=>?_) λe s' hs=>hs;have fin:∀{σ':L2.St}{H':Hp}{v:V}{u:Yz},Inv (Qc P w K mg base N qual scope f bS A outer s H) [] σ' H' s'->RelV v u->Q v H'->CE outer P w H s Q u s':=
  λ{σ' H' v u} J rv q=>⟨v,H',J.os,J.bare,J.base,J.hok,rv,q⟩
 cases fl with
 | ret u=>
  obtain⟨v,σ',H',J,rv,q⟩:=hs;exact fin J rv q
 | next=>
  obtain⟨σ',H',J,q⟩:=hs;exact fin (v:=V.non) (u:=Value.none) J rfl q
 | brk=>
  obtain⟨_,_,_,q⟩:=hs;exact False.elim q
 | cont=>
  obtain⟨_,_,_,q⟩:=hs;exact False.elim q
theorem Ed(F:O8 X.prog X.w X.K X.mg X.base k f fd ps sp)(hr:FV k X.A)(hg:Gl X x)(hm:X.mg x=some (.ref f))(hk:PySem.W.keepIn X.K (.ref f)=true)(hb:Binds X.K fd ps [])
  (ha:PA X (e::es) t) (k8:@9:=by decide) (he:starEach (e::es) X.env=(false,eval e X.env)::starEach es X.env:=by rfl) (fy:(backTo pos (starEach es X.env)).any (·.1)=false:=by rfl) :
  PE X (.Call (.Name x p) (e::es) [] pos) (CS sp [] E0 t):=by
 intro pins s σ H Q I h;refine VH (jb I hg hm ?_ k8);refine Wi (h₀:=X.base) I.ok.mod.kin hk (bB (ha pos pins s σ H _ I h) λus s1 ⟨vs,H1,I1,r,q⟩=>⟨I1.kIn,?_⟩) he fy
 replace q:sp vs H1 Q E0:=by have q':sp (vs++[]) H1 Q E0:=q;rwa [UG]at q'
 have hl:us.length=ps.length:=by rw[<- r.length];exact F.len _ _ _ _ q
 refine Xh (V7 (F.run X.A X.stack s1 H1 ⟨us,[]⟩ us vs Q hr I1.env0 (by have:=hb s1 us I1.kIn (by rw[UG];exact hl);rwa [UG]at this) r q) λr s' hq=>?_);cases r with
 | error e=>exact False.elim hq
 | ok fl=>
  cases fl with
  | ret u=>exact I1.after hq
  | next=>exact False.elim hq
  | brk=>exact False.elim hq
  | cont=>exact False.elim hq
structure yM(X:Cx):Prop where
 pn:X.pn=[]
 stk:X.stack=X.env::X.outer
 fr:X.env.frame=some X.env.locals
section
variable {X:Cx}{σ:L2.St}{H:Hp}{s:YA}{e C dx:YH}
theorem gN(I:Inv X [] σ H s)(ho:s.heap.get? e=some o)(hd:o.data=.fields vs):e≠X.env.locals/\∀x c,X.env.cells.lookup x=some c->c≠e:=by
 constructor
 .intro z;obtain⟨m,⟨ol,es,ep,h1,h2,_⟩,_⟩:=I.loc;rw[z,h1]at ho;cases ho;rw[h2]at hd;cases hd
 .intro x c hc z;obtain⟨v,hv⟩:=I.cell x c hc;obtain⟨oc,h1,h2⟩:=hv;rw[z]at h1;rw[h1]at ho;cases ho;rw[hd]at h2;cases h2
theorem Rec.apart(I:Inv X [] σ H s)(r:Rec X.s₀.heap s.heap H e C dx):e≠X.env.locals/\∀x c,X.env.cells.lookup x=some c->c≠e:=by
 obtain⟨oe,vs,he,_,_,hd,_⟩:=r;exact gN I he hd
theorem Eb(T:yM X)(hfr:A.frames=some X.stack)(I:Inv X [] σ H s)(hn:X.s₀.sz<=e)(he:H e=none)(r:Rec X.s₀.heap s.heap H e C dx)
  (h:∀s3,Inv X [] σ H s3->Rec X.s₀.heap s3.heap H e C dx->Q () s3):wpAny M A (noteFrame (.ref e) X.env) (λ_ s'=>wpAny M A (setFlight (.ref e) none) Q E s') E s:=by
 have hstk:=I.stack;have hstf:=I.stkFree;have hap:=r.apart I;rw[T.stk]at hfr hstk hstf;refine Je (s0h:=X.s₀.heap) (H:=H) hfr hstk (L:=X.env.locals) T.fr r I.sz (λb hb=>I.hok.fresh hb) λh' T' hT k1 k2 uf hT2=>h _ ?_ uf;refine I.call (ch:=e::T'.toList) (H':=H) (h':=h') ?_ (lN I.hok λb o ⟨u,hu⟩ hb=>k1 b o (λz=>by rw[hstf b z]at hu;cases hu) (λz=>by rw[z,he]at hu;cases hu) (λz=>by rw[(hT b z).2.1]at hu;cases hu) hb) I.bare λb hb=>?_
 .rw[T.stk];refine⟨λb o q n hf hx=>?_,λb o q n hf hx=>k2 b o hf q,λb o q n hx=>n,λb o q hx=>?_,λ_ _ z=>z,λ_ _ _ z=>z,λb ps z=>⟨#[],by rw[Array.append_empty];exact z⟩⟩
  .exact k1 b o hf (λz=>hx (by simp[z])) (λz=>hx (by simp[z])) q
  .by_cases hf:b∈mP (X.env::X.outer)
   .obtain⟨sl,z⟩:=k2 b o hf q;exact⟨_,z⟩
   .exact⟨o,k1 b o hf (λz=>hx (by simp[z])) (λz=>hx (by simp[z])) q⟩
 .rcases p_.mp hb with rfl | hb
  .exact⟨.inr hn,hap.1,hap.2,λp hp=>by rw[T.pn]at hp;cases hp⟩
  .obtain⟨a1,a2,oT,ts,a3,a4⟩:=hT b (by simpa using hb);have hap:=gN I a3 a4;exact⟨.inr a1,hap.1,hap.2,λp hp=>by rw[T.pn]at hp;cases hp⟩
theorem xf(T:yM X)(I:Inv X [] σ H s)(hn:X.s₀.sz<=e)(he:H e=none)(r:Rec X.s₀.heap s.heap H e C dx)
  (h:∀s3,Inv X [] σ H s3->Rec X.s₀.heap s3.heap H e C dx->Q () s3):wpAny M A (setFlight (.ref e) none) Q E s:=by
 obtain⟨oe,vs,a1,a2,a3,a4,a5,a6⟩:=id r;rcases a6 with h1 | ⟨T',oT,ts,h1,IC,P0,P1,hT,F9,h3⟩
 .unfold setFlight;refine a_ (K_ a1 a4 h1 ?_);rw[i_ @2];exact e_ (h s I r)
 .have hz:3<ts.size:=(U1.mp h3).1;have hap:=gN I hT F9;refine wpAny_setFlight_none a1 a4 h1 hT F9 hz (h _ (I.turned (t':=s.toks) (it:=T') (λb o hb ho=>(M_ _ _ (US hb)).trans ho) P1 hap.1 (.inr P0) hap.2 (λp hp=>by rw[T.pn]at hp;cases hp)) ?_);refine⟨oe,vs,(M_ _ _ IC).trans a1,a2,a3,a4,a5,.inr ⟨T',_,_,h1,IC,P0,P1,UZ _ hT (VF (U6 F9 _)),U6 F9 _,by simp[hz]⟩⟩
theorem adopt(T:yM X)(I:Inv X [] σ H s)(hn:X.s₀.sz<=e)(he:H e=none)(hap:e≠X.env.locals/\∀x c,X.env.cells.lookup x=some c->c≠e)(ho:∃o,s.heap.get? e=some o)(hp:φ s.heap)(hs:∀h1 h2:YD,φ h1->(∀o,h1.get? e=some o->h2.get? e=some o)->φ h2):Inv X [] σ (upd H e (.ext φ)) s:=by
 have hz:=U4 hn;have kp:∀{b:YH}{o:HO},H b=some o->upd H e (.ext φ) b=some o:=λ{b o} z=>by rw[ax (λy=>by rw[y,he]at z;cases z)];exact z
 refine⟨I.ok,I.os,I.bare,⟨I.base.keep,I.base.slot,λb o q n hx=>?_,I.base.there,λb xs q=>kp (I.base.tups b xs q),λb o u q=>kp (I.base.frzs b o u q),λb ps q=>?_⟩,I.loc,I.cell,?_,λx c hc=>?_,λp hp=>?_,λa oa ha=>?_,I.len⟩
 .rw[ax (λy=>by rw[y,hz]at q;cases q)];exact I.base.free b o q n hx
 .obtain⟨more,h2⟩:=I.base.tbls b ps q;exact⟨more,kp h2⟩
 .rw[ax (US hap.1)];exact I.free
 .rw[ax (hap.2 x c hc)];exact I.freeC x c hc
 .rw[T.pn]at hp;cases hp
 .by_cases z:a=e
  .subst z;rw[au]at ha;cases ha;exact⟨hp,ho,hs⟩
  .rw[ax z]at ha;exact(I.hok a oa ha).stay (λb u _ hu=>hu) (λb hb=>kp hb) λb xs hb=>kp hb
end
end Xc
namespace Xc
open PySem PySem.Spec PyProof.Rows L2
section
variable {X:Cx}{σ:L2.St}{H:Hp}{s:YA}{e C dx:YH}
theorem jk(T:yM X)(I:Inv X [] σ H s)(hN:X.N.Nodup)(hi:X.N[i]?=some n)(hl:X.env.scope.names.lookup n=some .local)
  (h:∀s',Inv X [] (σ.set i none) H s'->Q () s'):wpAny M A (do bindName X.env n .none;unbindBehindTheSuite X.env n pos) Q E s:=by
 refine a_ (wpAny_bindName (iE I hN hi (.inl hl) (v:=.non) rfl (λs1 I1=>?_) (.inr hl)));have yH:(X.env.scope.kind==.class||(X.env.scope.kind==.module&&X.env.locals != X.env.globals))=false:=by rw[I1.ok.kind];rfl
 obtain⟨m,hn,Rg⟩:=id I1.loc;have LL:i < σ.length:=by rw[I.len];exact(k_.mp hi).1
 have hk:X.env.kindOf n=some .local:=hl;obtain⟨u,hu,S9⟩:=Rg i n .non hi (by rw[r_ LL]) (.inl hl);have hmn:m n=some u:=by
  rcases S9 with ⟨_,z⟩ | ⟨z,_⟩
  .exact z
  .rw[hk]at z;rcases z with z | z<;>cases z
 unfold unbindBehindTheSuite;refine WI (wpAny_unbindName_local hk hn hmn yH λh' u' LM hs=>h _ ?_);have ne:∀{b:YH},b≠X.env.locals->h'.get? b=s1.heap.get? b:=λ{b} z=>hs.2 b z;have FW:∀{b:YH}{o:Obj},X.s₀.heap.get? b=some o->b≠X.env.locals:=λ{b o} q z=>by
  have h1:=n_ q;have h2:=I.ok.above;rw[z]at h1;exact absurd h1 (Nat.not_lt.mpr h2)
 refine⟨I1.ok,I1.os,I1.bare,⟨λb o q n' hf hx=>(ne (FW q)).trans (I1.base.keep b o q n' hf hx),λb o q n' hf hx=>?_,I1.base.free,λb o q hx=>?_,I1.base.tups,I1.base.frzs,I1.base.tbls⟩,⟨_,LM,λj x v e1 e2 e3=>?_⟩,λx c hc=>?_,I1.free,I1.freeC,λp hp=>?_,lN I1.hok λb o ⟨w',hw⟩ hb=>(ne (λz=>by rw[z,I1.free]at hw;cases hw)).trans hb,by rw[Xt];exact I.len⟩
 .obtain⟨sl,z⟩:=I1.base.slot b o q n' hf hx;exact⟨sl,(ne (FW q)).trans z⟩
 .obtain⟨o',z⟩:=I1.base.there b o q hx;exact⟨o',(ne (FW q)).trans z⟩
 .have Mm:j≠i:=λz=>by subst z;rw[r_ LL]at e2;cases e2
  rw[j_ (US Mm)]at e2;obtain⟨u2,r2,l2⟩:=Rg j x v e1 (by rw[j_ (US Mm)];exact e2) e3;refine⟨u2,r2,?_⟩;rcases l2 with ⟨z1,z2⟩ | ⟨z1,c,z2,oc,z3,z4⟩
  .refine .inl ⟨z1,?_⟩;show(if x=n then u' else m x)=some u2;rw[i_]
   .exact z2
   .intro z;subst z;have a1:=k_.mp e1;have a2:=k_.mp hi;rcases Nat.lt_or_gt_of_ne Mm with y | y
    .exact VB.mp hN j i a1.1 a2.1 y (a1.2.trans a2.2.symm)
    .exact VB.mp hN i j a2.1 a1.1 y (a2.2.trans a1.2.symm)
  .exact .inr ⟨z1,c,z2,oc,(ne (I1.cne x c z2)).trans z3,z4⟩
 .obtain⟨v,oc,z1,z2⟩:=I1.cell x c hc;exact⟨v,oc,(ne (I1.cne x c hc)).trans z1,z2⟩
 .rw[T.pn]at hp;cases hp
end
theorem Q5:Tl bmV:=⟨by decide,by decide,by decide,by decide,by decide⟩
section
open Sem (wp)
variable {M:Model}{A:YC}{E:Yh}
variable {nm q nm2 q2:Str}{C N HE N2:YH}{bs bm bs2 bm2:Yo}{sn sn2:Yr}{sub sub2:Yo}{ab ab2:Bool}{col col2:Option Bool}{dd wM:Yq}{k0 k1 k2 k3 k5 j0 j1 j2 j3 j5:Yp}
theorem vf{h:YD}{g:Array GenState}{d:Drawn}{t:Nat}{os:OsState}{e:YH}{oe:Obj}{Q:Bool->YA->Prop}(Z:Tl bm2)
  (hC:h.get? C=some @6) (hE:h.get? HE=some (dA nm2 q2 HE N2 bs2 bm2 sn2 sub2 ab2 col2 wM j0 j1 j2 j3 j5)) (he:h.get? e=some oe) (yH:oe.cls=.ref C) (hb:(Value.ref C::bm).contains (.ref HE)=true)
  (hq:Q true ⟨h,g,d,t,os⟩):wpAny M A (excMatches (.ref e) (.ref HE)) Q E ⟨h,g,d,t,os⟩:=by
 have FR:(Value.ref HE::bm2).contains (.type "BaseException")=true:=by rw[UA,Z.b,VA]
 have f:=tc_notTuple;unfold excMatches
 repeat (first | (with_reducible refine UB he ?_;rw[yH]) | with_reducible refine UB hE ?_ | (with_reducible refine U9 hE ?_;rw[FR]) | (with_reducible refine U9 hC ?_;rw[hb]) | wp_step)
 exact hq
end
section
variable {X:Cx}
abbrev XH(X:Cx)(e:YH):Cx:={X with A:=X.A.mark (some (.ref e)),calm:=false,xe:=λ_ _=>False}
def Fx(K:Yy)(C HE:YH):Prop:=∃nm q N bs bm sn sub ab col dd k0 k1 k2 k3 k5,(Value.ref C::bm).contains (.ref HE)=true/\K.lookup C=some @6
def Nn(X:Cx)(HE:YH)(i:Nat)(ts:TS)(D:Ends)(xe:Yh):Prop:=∀(σ:L2.St)(H:Hp)(s:YA)(pins:Yi)(e C dx:YH),Inv X pins σ H s->X.s₀.sz<=e->H e=none->Rec X.s₀.heap s.heap H e C dx->Fx X.K C HE->
 ts {nx:=λσ' H'=>D.nx (σ'.set i none) H',rt:=D.rt,bk:=λσ' H'=>D.bk (σ'.set i none) H',ct:=λσ' H'=>D.ct (σ'.set i none) H'} (σ.set i (some (.ref e))) (upd H e (.ext (Bl e C dx)))->xe (.ref e) s
def QK(X:Cx)(HE:YH)(i:Nat)(tb:Yh->TS)(ts:TS):TS:=λD σ H=>∀xe,Nn X HE i ts D xe->tb xe D σ H
def SJ(X:Cx)(st:YJ)(t:TS):Prop:=∀(s:YA)(σ:L2.St)(H:Hp)(D:Ends),Inv X [] σ H s->t D σ H->wpAny @3 X.A (exec st X.env) (SP X [] D) X.xe s
def M7(X:Cx)(st:Yu)(t:TS):Prop:=∀(s:YA)(σ:L2.St)(H:Hp)(D:Ends),Inv X [] σ H s->t D σ H->wpAny @3 X.A (execs st X.env) (SP X [] D) X.xe s
theorem JM
  (T:yM X) (hN:X.N.Nodup) (hi:X.N[i]?=some n) (hl:X.env.scope.names.lookup n=some .local) (hg:Gl X "HideError") (hm:X.mg "HideError"=some (.ref HE)) (lk:X.K.lookup HE=some (dA nm q HE N bs bmV sn sub ab col dd k0 k1 k2 k3 k5))
  (hbody:∀xe,PSs (X.wish xe) body (tb xe)) (hsuite:∀e,PSs (XH X e) (b₀::suite) ts) :
  SJ X (.Try body [.ExceptHandler (some (.Name "HideError" p)) (some n) (b₀::suite) hp] [] [] pos) (QK X HE i tb ts):=by
 intro s σ H D I h;refine wpAny_Try_except ?_;refine UO (hbody (λe s₁=>wpAny @3 X.A (noteFrame e X.env) (λ_ s₂=>wpAny @3 X.A (setFlight e none) (λ_ s₃=>wpAny @3 X.A (handleBy e X.env [.ExceptHandler (some (.Name "HideError" p)) (some n) (b₀::suite) hp]) (SP X [] D) X.xe s₃) X.xe s₂) X.xe s₁) [] s σ H D (I.wish _) (h _ ?_)) (λf s₁ hf=>?_) λ_ _ z=>z
 .intro σ1 H1 s1 pins e C dx I1' hn he r hcg B2;have I1:Inv X [] σ1 H1 s1:=I1'.pins_of λp z=>by cases z
  refine Eb T I1.ok.frames I1 hn he r λs3 I3 r3=>?_;refine wpAny_handleBy_cons (codeAny_handlers_test ?_) (by intro z;cases z);have IH:Inv (XH X e) [] σ1 H1 s3:=Q4 I3 _ _ rfl;refine jb IH hg hm ?_;obtain⟨nmC,qC,NC,bsC,bmC,snC,subC,abC,colC,ddC,c0,c1,c2,c3,c5,hct,lkC⟩:=hcg;obtain⟨oe,vs,a1,a2,a3,a4,a5,a6⟩:=id r3;have kin:=I3.kIn;obtain⟨hh,g,d,tk,os⟩:=s3;refine vf (Q5) (kin _ _ lkC) (kin _ _ lk) a1 a2 hct ?_;simp only[Vy];refine codeAny_handlers_suite_as (xf T I3 hn he r3 λs4 I4 r4=>?_);have hap:=r4.apart I4;obtain⟨oe4,vs4,b1,b2,b3,b4,b5,b6⟩:=id r4;have I5:Inv X [] σ1 (upd H1 e (.ext (Bl e C dx))) s4:=adopt T I4 hn he hap ⟨_,b1⟩ ⟨oe4,b1,b2,b3,by unfold PySem.W.notCls;rw[b4]⟩ yr;refine iE I5 hN hi (.inl hl) (v:=.ref e) rfl (λs6 I6=>?_) (.inr hl);refine UO (hsuite e [] s6 _ _ _ (Q4 I6 _ _ rfl) B2) (λf s7 hf=>?_) λ_ _ z=>False.elim z;cases f with
  | next=>
   obtain⟨σ',H',I',q'⟩:=hf;exact jk T (Pn I.ok I') hN hi hl λs8 I8=>⟨_,H',I8,q'⟩
  | brk=>
   obtain⟨σ',H',I',q'⟩:=hf;exact jk T (Pn I.ok I') hN hi hl λs8 I8=>⟨_,H',I8,q'⟩
  | cont=>
   obtain⟨σ',H',I',q'⟩:=hf;exact jk T (Pn I.ok I') hN hi hl λs8 I8=>⟨_,H',I8,q'⟩
  | ret u=>
   obtain⟨v,σ',H',I',rv,q'⟩:=hf;exact jk T (Pn I.ok I') hN hi hl λs8 I8=>⟨v,_,H',I8,rv,q'⟩
 .cases f with
  | next=>exact WK hf.unwish
  | ret v=>exact hf.unwish
  | brk=>exact hf.unwish
  | cont=>exact hf.unwish
end
end Xc
namespace Mi
open PySem PySem.Spec PyProof.Rows L2 Xc
abbrev Rs:=Except (Str×D) D
abbrev FeX:=En->Option Rs
abbrev FlX:=En->Option (Except (Str×D) YO)
inductive IE where
 | nx (env:En) | rt (d:D) | bk (env:En) | ct (env:En) | ex (c:Str) (d:D) (env:En)
abbrev FsX:=En->Option IE
def wA(X:Cx)(B Z:Hp)(env:En)(c:Str)(d:D):Prop:=∀(σ:L2.St)(Z' H':Hp)(C dx:YH)(u:V),Ex Z B Z' H'->Rl X.K B Z' H' env σ->X.mg c=some (.ref C)->H' dx=some (.xd [("cell",u)])->Rep X.K Z' d u->
 ∀(pins:Yi)(s:YA)(e:YH),Inv X pins σ H' s->X.s₀.sz<=e->H' e=none->Rec X.s₀.heap s.heap H' e C dx->X.xe (.ref e) s
def BL(X:Cx)(rg:Gr)(B Z:Hp)(E:Ends):IE->Prop
 | .nx env'=>∀σ' Z' H',Ex Z B Z' H'->Rl X.K B Z' H' env' σ'->E.nx σ' H'
 | .bk env'=>∀σ' Z' H',Ex Z B Z' H'->Rl X.K B Z' H' env' σ'->E.bk σ' H'
 | .ct env'=>∀σ' Z' H',Ex Z B Z' H'->Rl X.K B Z' H' env' σ'->E.ct σ' H'
 | .rt d=>∀v Z' H',Ex Z B Z' H'->Gd X.K Z' B H' rg d v->E.rt v H'
 | .ex c d env'=>wA X B Z env' c d
def F2(X:Cx)(rg:Gr)(f:FsX):TS:=λE σ H=>∃env B Z o,Rl X.K B Z H env σ/\f env=some o/\BL X rg B Z E o
def SX(X:Cx)(rg:Gr)(st:YJ)(f:FsX):Prop:=PS X st (F2 X rg f)
def F0(X:Cx)(rg:Gr)(ui:Yu)(f:FsX):Prop:=PSs X ui (F2 X rg f)
def M9(X:Cx)(rg:Gr)(st:YJ)(f:FsX):Prop:=SJ X st (F2 X rg f)
def Cs(X:Cx)(rg:Gr)(ui:Yu)(f:FsX):Prop:=M7 X ui (F2 X rg f)
def Uy(X:Cx)(g:Gr)(f:FeX):TE:=λσ H Q=>∃env B Z r,Rl X.K B Z H env σ/\f env=some r/\match r with
 | .ok d=>∀v Z' H',Ex Z H Z' H'->Gd X.K Z' H H' g d v->Q v H'
 | .error (c,d)=>wA X B Z env c d
def PX(X:Cx)(g:Gr)(e:YI)(f:FeX):Prop:=PE X e (Uy X g f)
def Ui(X:Cx)(f:FlX):TA:=λσ H Q=>∃env B Z r,Rl X.K B Z H env σ/\f env=some r/\match r with
 | .ok ds=>∀vs Z' H',Ex Z H Z' H'->av X.K Z' ds vs->Q vs H'
 | .error (c,d)=>wA X B Z env c d
structure Tz(X:Cx)(es:List Expr)(f:FlX):Prop where
 p:PA X es (Ui X f)
 l:∀env ds,f env=some (.ok ds)->ds.length=es.length
section
variable {X:Cx}{rg g:Gr}{st:YJ}{ui:Yu}{pos p:Pos}{e l:YI}{es:Yt}{x:Str}
theorem wA.later(x:Ex Z B Z1 H1)(h:wA X B Z env c d):wA X B Z1 env c d:=λσ Z' H' C dx u y=>h σ Z' H' C dx u (x.transB y)
theorem BL.later(x:Ex Z B Z1 H1)(h:BL X rg B Z E o):BL X rg B Z1 E o:=by
 cases o with
 | nx e=>exact λσ' Z' H' y=>h σ' Z' H' (x.transB y)
 | bk e=>exact λσ' Z' H' y=>h σ' Z' H' (x.transB y)
 | ct e=>exact λσ' Z' H' y=>h σ' Z' H' (x.transB y)
 | rt e=>exact λv Z' H' y=>h v Z' H' (x.transB y)
 | ex c d env=>exact wA.later x h
def Out.up:Out->IE
 | .nx e=>.nx e
 | .rt d=>.rt d
 | .bk e=>.bk e
 | .ct e=>.ct e
def yz(f:Fs):FsX:=λenv=>(f env).map Out.up
theorem BL.of(h:BL X rg B Z E o.up):vD X.K rg B Z E o:=by cases o<;>exact h
theorem CJ(h:F2 X rg (yz f) E σ H):Mg X.K rg f E σ H:=by
 obtain⟨env,B,Z,o,R,e,k⟩:=h;obtain⟨o',e1,rfl⟩:=L_.mp e;exact⟨env,B,Z,o',R,e1,k.of⟩
theorem PS.nox'(h:PS X.nox st t):PS X st t:=λpins s σ H D I hw=>
 UO (h pins s σ H D (I.wish _) hw) (λ_ _ q=>q.unwish) λ_ _ z=>False.elim z
theorem EV(h:SD X.nox rg st f):SX X rg st (yz f):=λpins s σ H E I q=>PS.nox' h pins s σ H E I (CJ (X:=X) q)
theorem DB(h:yw X.nox rg ui f):F0 X rg ui (yz f):=λpins s σ H E I q=>L2.PSs.nox h pins s σ H E I (CJ (X:=X) q)
theorem Jd(h:SX X rg st f):M9 X rg st f:=λs σ H E I q=>h [] s σ H E I q
def ip(f g:FsX):FsX:=λenv=>(f env).bind λo=>match o with | .nx e=>g e | o=>some o
theorem y9{f g:FsX}{E:Ends}{σ:L2.St}{H:Hp}(h:F2 X rg (ip f g) E σ H):F2 X rg f {E with nx:=F2 X rg g E} σ H:=by
 obtain⟨env,B,Z,o,R,e,k⟩:=h;obtain⟨o1,e1,e2⟩:=b_.mp e;refine⟨env,B,Z,o1,R,e1,?_⟩;cases o1 with
 | nx Iv=>exact λσ' Z' H' x R'=>⟨Iv,B,Z',o,R',e2,k.later x⟩
 | rt d=>cases e2;exact k
 | bk d=>cases e2;exact k
 | ct d=>cases e2;exact k
 | ex c d env=>cases e2;exact k
theorem pj{f g:FsX}(h1:SX X rg st f)(h2:F0 X rg ui g):F0 X rg (st::ui) (ip f g):=λpins s σ H E I q=>gw h1 h2 pins s σ H E I (y9 q)
theorem nY(h1:SX X rg st f):F0 X rg [st] f:=gO h1
theorem Lz(h1:M9 X rg st f):Cs X rg [st] f:=by
 intro s σ H D I h;refine Xg (bB (h1 s σ H D I h) λf s1 q=>?_);cases f with
 | next=>exact WK q
 | ret v=>exact q
 | brk=>exact q
 | cont=>exact q
theorem zY{f g:FsX}(h1:M9 X rg st f)(h2:Cs X rg ui g):Cs X rg (st::ui) (ip f g):=by
 intro s σ H D I h;refine Xg (bB (h1 s σ H {D with nx:=F2 X rg g D} I (y9 h)) λf s1 q=>?_);cases f with
 | next=>
  obtain⟨σ',H',I',q⟩:=q;exact h2 s1 σ' H' D I' q
 | ret v=>exact q
 | brk=>exact q
 | cont=>exact q
def HA(t:Fb)(f g:FsX):FsX:=λenv=>(t env).bind λb=>if b=true then f env else g env
theorem KQ{c:YI}{a b:Yu}{t:Fb}{f g:FsX}(hc:PB X.nox c t)(ha:F0 X rg a f)(hb:F0 X rg b g):SX X rg (.If c a b pos) (HA t f g):=λpins s σ H E I az=>by
 obtain⟨env,B,Z,o,R,e,k⟩:=az;refine Jm (L2.PT.nox hc) ha hb pins s σ H E I ?_;obtain⟨x,e1,e2⟩:=b_.mp e;refine⟨env,B,Z,x,R,e1,λZ1 H1 x1=>?_⟩;cases x with
 | true=>rw[h_ rfl]at e2;exact uz ⟨env,B,Z1,o,R.ext x1,e2,k.later (x1.part R.bh)⟩
 | false=>rw[i_ @8]at e2;exact vn ⟨env,B,Z1,o,R.ext x1,e2,k.later (x1.part R.bh)⟩
end
section
variable {X:Cx}{rg g:Gr}{st:YJ}{ui:Yu}{pos p bG:Pos}{e l a:YI}{es:Yt}{x c:Str}{k:Nat}
def nD(c:Str)(fs:Fes):FsX:=λenv=>(fs env).bind λds=>match ds with
 | [_]=>some (.ex c .non env)
 | [_,d]=>some (.ex c d env)
 | _=>none
structure XC(P:Program)(w:World)(K:Fg)(mg:Str->Option Value)(base:Heap)(k:Nat)(c:Str):Prop where
 ex:∃C HE fI fd,mg c=some (.ref C)/\EC K C HE fI/\eh P w K mg base l9 k fI fd ["self","words","cell"] (MW K HE fI)/\Binds K fd ["self","words","cell"] [.none]/\Binds K fd ["self","words","cell"] []
theorem rC(hm:X.mg c=some (.ref C))(R:Rl X.K B Z H env σ)(k:wA X B Z env c d)(x1:Ex Z H Z1 H1)(r:Rep X.K Z1 d cv):zR X σ C λdx H2=>H1 dx=none/\H2=upd H1 dx (.xd [("cell",cv)]):=by
 rintro pins H2 s e dx I hn he hr ⟨O5,rfl⟩;have x2:Ex Z1 H1 Z1 (upd H1 dx (.xd [("cell",cv)])):=Ex.newL x1.zh O5;exact k σ Z1 _ C dx cv ((x1.trans x2).part R.bh) ((R.ext x1).ext x2) hm au r pins s e I hn he hr
theorem DI(T:XC X.prog X.w X.K X.mg X.base k c)(hr:bF (k+1) X.A)(hl:PL X [a] fs)(hg:Gl X c:=by rfl)(k8:(c==("__debug__":Str))=false:=by decide)(he:starEach [a] X.env=(false,eval a X.env)::starEach [] X.env:=by rfl) :
  SX X rg (.Raise (some (.Call (.Name c p) [a] [] bG)) none pos) (nD c fs):=λpins s σ H E I az=>by
 obtain⟨env,B,Z,o,R,e,kk⟩:=az;obtain⟨C,HE,fI,fd,hm,ec,F,O9,TC⟩:=T.ex;refine vy ec F hr hg hm O9 (dvs:=[.non]) (.cons rfl .nil) hl.p k8 he rfl pins s σ H E I ?_;obtain⟨ds,e1,e2⟩:=b_.mp e;have hlen:=hl.l env ds e1
 match ds,hlen,e2 with
 | [d0],_,e2=>
  cases e2;refine⟨env,B,Z,[d0],R,e1,λvs Z1 H1 x1 r=>?_⟩;obtain⟨v,r',rfl,_,uf⟩:=r;cases(show r'=[]from uf);exact⟨v,.non,rfl,rC hm R kk x1 rfl⟩
theorem uj(T:XC X.prog X.w X.K X.mg X.base k c)(hr:bF (k+1) X.A)(hl:PL X [a,b] fs)(hg:Gl X c:=by rfl)(k8:(c==("__debug__":Str))=false:=by decide)(he:starEach [a,b] X.env=(false,eval a X.env)::starEach [b] X.env:=by rfl)(fy:(backTo bG (starEach [b] X.env)).any (·.1)=false:=by rfl) :
  SX X rg (.Raise (some (.Call (.Name c p) [a,b] [] bG)) none pos) (nD c fs):=λpins s σ H E I az=>by
 obtain⟨env,B,Z,o,R,e,kk⟩:=az;obtain⟨C,HE,fI,fd,hm,ec,F,O9,TC⟩:=T.ex;refine vy ec F hr hg hm TC (dvs:=[]) .nil hl.p k8 he fy pins s σ H E I ?_;obtain⟨ds,e1,e2⟩:=b_.mp e;have hlen:=hl.l env ds e1
 match ds,hlen,e2 with
 | [d0,d1],_,e2=>
  cases e2;refine⟨env,B,Z,[d0,d1],R,e1,λvs Z1 H1 x1 r=>?_⟩;obtain⟨v,r',rfl,_,v1,r2,rfl,O2,uf⟩:=r;cases(show r2=[]from uf);exact⟨v,v1,rfl,rC hm R kk x1 O2⟩
def Qm(mg:Yk)(K:Fg)(n:Nat)(g:Gr)(m:YO->Option Rs):Sp:=λvs H Q E=>∃Z ds r,ds.length=n/\aO Z H/\av K Z ds vs/\m ds=some r/\match r with
 | .ok d=>∀v Z' H',Ex Z H Z' H'->Gd K Z' H H' g d v->Q v H'
 | .error (c,d)=>∀C dx u Z' H',mg c=some (.ref C)->Ex Z H Z' H'->H' dx=some (.xd [("cell",u)])->Rep K Z' d u->E (.ref C) (some dx) H'
structure Ma(P:Program)(w:World)(K:Fg)(mg:Str->Option Value)(base:Heap)(k:Nat)(x:Str)(n:Nat)(g:Gr)(m:List D->Option Rs):Prop where
 ex:∃f fd ps,ps.length=n/\eh P w K mg base (Jn P w) k f fd ps (Qm mg K n g m)/\mg x=some (.ref f)/\PySem.W.keepIn K (.ref f)=true/\Binds K fd ps []
def Kq(f:Fes):FlX:=λenv=>(f env).map .ok
theorem PA.nox'(h:PA X.nox es t):PA X es t:=λpos pins s σ H Q I hw=>
 UO (h pos pins s σ H Q (I.wish _) hw) (λ_ _ ⟨v,H',I',r,q⟩=>⟨v,H',I'.unwish,r,q⟩) λ_ _ z=>False.elim z
theorem CQ(h:PL X.nox es f):Tz X es (Kq f):=⟨λpos pins s σ H Q I az=>by
 obtain⟨env,B,Z,r,R,e1,k⟩:=az;obtain⟨d,e2,rfl⟩:=L_.mp e1;exact PA.nox' h.p pos pins s σ H Q I ⟨env,B,Z,d,R,e2,k⟩,λenv ds e1=>by
 obtain⟨d,e2,e3⟩:=L_.mp e1;cases e3;exact h.l env ds e2⟩
def oX(fs:FlX)(m:YO->Option Rs):FeX:=λenv=>(fs env).bind λr=>match r with
 | .ok ds=>m ds
 | .error z=>some (.error z)
theorem tP(C:Ma X.prog X.w X.K X.mg X.base k x n g m)(hr:bF k X.A)(hl:Tz X (l::es) fs)(hn:(l::es).length=n:=by rfl)(hg:Gl X x:=by rfl)(k8:@9:=by decide)
  (he:starEach (l::es) X.env=(false,eval l X.env)::starEach es X.env:=by rfl) (fy:(backTo pos (starEach es X.env)).any (·.1)=false:=by rfl):PX X g (.Call (.Name x p) (l::es) [] pos) (oX fs m):=by
 rintro pins s σ H Q I ⟨env,B,Z,r,R,e1,kk⟩;obtain⟨f,fd,ps,hps,F,hm,hk,hb⟩:=C.ex;obtain⟨rl,e2,e3⟩:=b_.mp e1;refine VH (jb I hg hm ?_ k8);cases rl with
 | error z=>
  cases e3;refine Wi (h₀:=X.base) I.ok.mod.kin hk (bB (hl.p pos pins s σ H (λ_ _=>False) I ⟨env,B,Z,.error z,R,e2,kk⟩) λus s1 ⟨vs,H1,I1,r,q⟩=>False.elim q) he fy
 | ok ds=>
  refine Wi (h₀:=X.base) I.ok.mod.kin hk (bB (hl.p pos pins s σ H (λvs H1=>∃Z1,Ex Z H Z1 H1/\av X.K Z1 ds vs) I ⟨env,B,Z,.ok ds,R,e2,λvs Z1 H1 x1 r1=>⟨Z1,x1,r1⟩⟩) λus s1 ⟨vs,H1,I1,rv,Z1,x1,r1⟩=>⟨I1.kIn,?_⟩) he fy;cases r with
  | ok d=>
   refine zB (E:=E0) (dvs:=[]) (ds:=[]) F hr hb .nil I1 rv ?_ (λC pins H' s' e dx _ _ _ _ z=>False.elim z);rw[UG];exact⟨Z1,ds,.ok d,by rw[hl.l env ds e2];exact hn,x1.zh,r1,e3,λv Z' H' x2 g2=>kk v Z' H' (x1.trans x2) (g2.frm x1.h)⟩
  | error z=>
   obtain⟨c,d⟩:=z;refine zB (E:=λCv dxo H'=>∃C dx u Z',Cv=.ref C/\dxo=some dx/\X.mg c=some (.ref C)/\Ex Z1 H1 Z' H'/\H' dx=some (.xd [("cell",u)])/\Rep X.K Z' d u) (dvs:=[]) (ds:=[]) F hr hb .nil I1 rv ?_ ?_
   .rw[UG];exact⟨Z1,ds,.error (c,d),by rw[hl.l env ds e2];exact hn,x1.zh,r1,e3,λC dx u Z' H' h1 h2 h3 h4=>⟨C,dx,u,Z',rfl,rfl,h1,h2,h3,h4⟩⟩
   .rintro C pins' H' s' e dx I' LM B0 uf ⟨C',dx',u,Z',hC,O5,h1,h2,h3,h4⟩;cases hC;cases O5;exact kk σ Z' H' C dx u ((x1.trans h2).part R.bh) ((R.ext x1).ext h2) h1 h3 h4 pins' s' e I' LM B0 uf
def xC(i:Nat)(f:FeX):FsX:=λenv=>(f env).bind λr=>match r with
 | .ok d=>some (.nx (env.set i (.F d)))
 | .error (c,d)=>some (.ex c d env)
def yU(f:FeX):FsX:=λenv=>(f env).bind λr=>match r with
 | .ok _=>some (.nx env)
 | .error (c,d)=>some (.ex c d env)
theorem Jt(i:Nat)(he:PX X .cl e f)(hN:X.N.Nodup)(hi:X.N[i]?=some x:=by rfl)(hx:Loc X.env.scope x:=by first | exact Or.inl rfl | exact Or.inr rfl)(hs:swapsWith e (some (.Name x pos')) pos.line X.env=pure false:=by rfl)
  (hf:@11:=by first | exact .inl rfl | exact .inr rfl | assumption):SX X rg (.Assign [.Name x pos'] e pos) (xC i f):=λpins s σ H E I az=>by
 obtain⟨env,B,Z,o,R,e1,k⟩:=az;refine iD hN hi hx he hs hf pins s σ H E I ?_;obtain⟨r,e2,e3⟩:=b_.mp e1;cases r with
 | ok d=>cases e3;exact⟨env,B,Z,.ok d,R,e2,λv Z' H' x r=>k _ Z' H' (x.part R.bh) ((R.ext x).setF i r)⟩
 | error z=>obtain⟨c,d⟩:=z;cases e3;exact⟨env,B,Z,.error (c,d),R,e2,k⟩
theorem LA(he:PX X g e f)(hs:swapsWith e none pos.line X.env=pure false:=by rfl):SX X rg (.Expr e pos) (yU f):=λpins s σ H E I az=>by
 obtain⟨env,B,Z,o,R,e1,k⟩:=az;refine kF he hs pins s σ H E I ?_;obtain⟨r,e2,e3⟩:=b_.mp e1;cases r with
 | ok d=>cases e3;exact⟨env,B,Z,.ok d,R,e2,λv Z' H' x gd=>k σ Z' H' (x.part R.bh) (R.ext x)⟩
 | error z=>obtain⟨c,d⟩:=z;cases e3;exact⟨env,B,Z,.error (c,d),R,e2,k⟩
end
def Cy(f:FsX)(n:Nat)(ds:YO):Option Rs:=(f (bU n ds)).bind λo=>match o with
 | .rt d=>some (.ok d)
 | .nx _=>some (.ok .non)
 | .ex c d _=>some (.error (c,d))
 | _=>none
section
variable {P:YB}{w:YE}{K:Fg}{mg:Yk}{base:YD}
theorem Uh{x qual:Str}{st:YJ}{f:YH}{fd:YF}{N ps:Yr}{k:Nat}{m:YO->Option Rs}{fb:FsX}(F:Ca K x qual st f fd)(S:cm N ps (aC st))
  (hb:∀(bS:Yz)(A:YC)(outer:List Env)(s:YA)(H:Hp)(E:XK),bF k (A.deeper (envOfC qual (aC st) s.sz f bS))->F0 (gu (Jn P w) P w K mg base N qual (aC st) f bS A outer s H E) .cl (bt st) fb)
  (hm:∀ds r,ds.length=ps.length->m ds=some r->Cy fb N.length ds=some r):eh P w K mg base (Jn P w) (k+1) f fd ps (Qm mg K ps.length .cl m):=by
 obtain⟨oc,od,kV,doc,pm,an,bS,ct,ug,rfl,lk,fX⟩:=F.ex;refine EH lk fX S (λvs H Q E ⟨Z,ds,d,hl,_,r,_⟩=>by rw[<- r.len];exact hl) λA outer s H vs Q E hr az=>?_;obtain⟨Z,ds,rs,hl,s1,r,e,kk⟩:=az;refine⟨_,hb bS A outer s H E hr,?_⟩;obtain⟨o,e1,e2⟩:=b_.mp (hm ds rs hl e);refine⟨_,H,Z,o,Rl.start s1 r,e1,?_⟩;cases o with
 | rt d'=>cases e2;exact kk
 | nx _=>cases e2;exact λσ' Z' H' x R=>kk .non Z' H' x rfl
 | bk _=>cases e2
 | ct _=>cases e2
 | ex c d env=>
  cases e2;exact λσ Z' H' C dx u x R hmg hxd hu pins s' e I hn he uf=>vV σ C pins H' s' e dx I hn he uf (kk C dx u Z' H' hmg x hxd hu)
theorem Ly{CX:CXT}{k:Nat}{f:YH}{name qual:Str}{params:Arguments}{body:Yu}{scope:YG}{dV kV doc pm bS ct oc:Yz}{an od:Yq}
  {ug:Yj} {N ps:Yr} {sp:Sp} (lk:K.lookup f=some ⟨oc,od,.func (PySem.W.fnOf name qual params body scope dV kV doc pm an bS ct),ug⟩) (fX:PySem.W.codeIn K bS qual=true) (S:cm N ps scope)
  (len:∀vs H Q E,sp vs H Q E->vs.length=ps.length)
  (hbody:∀(A:YC)(outer:List Env)(s:YA)(H:Hp)(vs:YR)(Q:VK)(E:XK),bF k (A.deeper (envOfC qual scope s.sz f bS))->sp vs H Q E->
   ∃t,M7 (gu CX P w K mg base N qual scope f bS A outer s H E) body t/\t {nx:=λ_ H'=>Q .non H',rt:=Q} (start N vs) H) :
  eh P w K mg base CX (k+1) f (PySem.W.fnOf name qual params body scope dV kV doc pm an bS ct) ps sp:=by
 refine⟨len,λA outer s H args us vs Q E hr e0 hb r mE=>?_⟩;have hl:=len _ _ _ _ mE;have KX:K.In s.heap:=e0.mod.kin.keeps λb o e=>(e0.bs b o e).1;have lim:s.heap.NoLimit:=e0.mod.nolimit.keeps λb o e=>(e0.bs b o e).1;have cM:∀y∈ps.zip us,scope.names.lookup y.1=some .local\/(scope.names.lookup y.1=some .cell/\((cellsFrom (s.sz+1) scope.names []).lookup y.1).isSome=true):=λ⟨n,v⟩ hy=>by
  rcases S.par n (WM hy).1 with q | q
  .exact .inl q
  .exact .inr ⟨q,Wj _ _ _ (.inl q)⟩
 refine Xd hr.depth (KX _ _ lk) rfl S.co S.gen rfl (XA KX fX) (hb _ _ _ _ ?_);refine Wt S.kind cM λenv he s1 x=>?_;subst he;refine⟨lim.keeps x.toInCall.keep,codeAny_func ?_⟩;obtain⟨t,ht,hq⟩:=hbody A outer s H vs Q E (hr.deeper _) mE;have I:Inv (gu CX P w K mg base N qual scope f bS A outer s H E) [] (start N vs) H s1:=lB S hr.hd e0 hl r x;refine UO (ht s1 (start N vs) H _ I hq) (λfl s' hs=>?_) λe s' hs=>hs;have fin:∀{σ':L2.St}{H':Hp}{v:V}{u:Yz},Inv (gu CX P w K mg base N qual scope f bS A outer s H E) [] σ' H' s'->RelV v u->Q v H'->CE outer P w H s Q u s':=
  λ{σ' H' v u} J rv q=>⟨v,H',J.os,J.bare,J.base,J.hok,rv,q⟩
 cases fl with
 | ret u=>
  obtain⟨v,σ',H',J,rv,q⟩:=hs;exact fin J rv q
 | next=>
  obtain⟨σ',H',J,q⟩:=hs;exact fin (v:=V.non) (u:=Value.none) J rfl q
 | brk=>
  obtain⟨_,_,_,q⟩:=hs;exact False.elim q
 | cont=>
  obtain⟨_,_,_,q⟩:=hs;exact False.elim q
def DU(f:FsX)(n:Nat)(ds:YO):YQ:=(f (bU n ds)).bind λo=>match o with
 | .rt d=>some d
 | _=>none
theorem Qd{x qual:Str}{st:YJ}{f:YH}{fd:YF}{N ps:Yr}{k:Nat}{g:Gr}{m:YO->YQ}{fb:FsX}(F:Ca K x qual st f fd)(S:cm N ps (aC st))
  (hb:∀(bS:Yz)(A:YC)(outer:List Env)(s:YA)(H:Hp)(E:XK),bF k (A.deeper (envOfC qual (aC st) s.sz f bS))->Cs (gu l9 P w K mg base N qual (aC st) f bS A outer s H E) g (bt st) fb)
  (hm:∀ds d,ds.length=ps.length->m ds=some d->DU fb N.length ds=some d):eh P w K mg base l9 (k+1) f fd ps (EI K ps.length g m):=by
 obtain⟨oc,od,kV,doc,pm,an,bS,ct,ug,rfl,lk,fX⟩:=F.ex;refine Ly lk fX S (λvs H Q E ⟨Z,ds,d,hl,_,r,_⟩=>by rw[<- r.len];exact hl) λA outer s H vs Q E hr az=>?_;obtain⟨Z,ds,d,hl,s1,r,e,kk⟩:=az;refine⟨_,hb bS A outer s H E hr,?_⟩;obtain⟨o,e1,e2⟩:=b_.mp (hm ds d hl e);refine⟨_,H,Z,o,Rl.start s1 r,e1,?_⟩;cases o with
 | rt d'=>cases e2;exact kk
 | nx _=>cases e2
 | bk _=>cases e2
 | ct _=>cases e2
 | ex c d env=>cases e2
end
def xX:Yr:=["NoHiding","NoNumber","TooMany","NoCell","NoShot","NothingLeft","NoCounts","Over","NoText","NoRow"]
def xV(c:Str):List Bool:=xX.map (λn=>n==c)++[true]
structure FX(K:Fg)(mg:Str->Option Value)(HE:Addr)(c:Str)(C:Addr):Prop where
 own:MN K C
 cg:Fx K C HE
 fl:∀n∈xX,∀D,mg n=some (.ref D)->PySem.W.kitOne K (.ref C) (.ref D)=some (n==c)
 va:PySem.W.kitOne K (.ref C) (.type "ValueError")=some true
def ME(K:Fg)(mg:Yk)(HE:YH):Sp:=λvs H Q _=>∃v C c,vs=[v]/\Er H v C/\FX K mg HE c C/\∀a H',aO H H'->H a=none->H' a=some (.lst ((xV c).map V.bl))->Q (.ref a) H'
theorem lj(s:aO H H')(h:Er H v C):Er H' v C:=by
 obtain⟨e,dx,fs,a,b,c⟩:=h;exact⟨e,dx,fs,a,s _ _ b,s _ _ c⟩
theorem yv{K:Fg}{mg:Yk}{HE:YH}{D1 D2 D3 D4 D5 D6 D7 D8 D9 D10:YH}(m1:mg "NoHiding"=some (.ref D1))(m2:mg "NoNumber"=some (.ref D2))(m3:mg "TooMany"=some (.ref D3))(m4:mg "NoCell"=some (.ref D4))(m5:mg "NoShot"=some (.ref D5))(m6:mg "NothingLeft"=some (.ref D6))(m7:mg "NoCounts"=some (.ref D7))(m8:mg "Over"=some (.ref D8))(m9:mg "NoText"=some (.ref D9))(P3:mg "NoRow"=some (.ref D10))
  {vs:YR} {H:Hp} {Q:VK} {E:XK} {nx:L2.St->Hp->Prop} (h:ME K mg HE vs H Q E) :
  La (uN (Ht (eu (lV K 0 (.ref D1)) (eu (lV K 0 (.ref D2)) (eu (lV K 0 (.ref D3)) (eu (lV K 0 (.ref D4)) tNil))))) (my 1)) (La (uN (IT rCat (xo 1) (Ht (eu (lV K 0 (.ref D5)) (eu (lV K 0 (.ref D6)) (eu (lV K 0 (.ref D7)) (eu (lV K 0 (.ref D8)) tNil)))))) (my 1))
   (NH (IT rCat (xo 1) (Ht (eu (lV K 0 (.ref D9)) (eu (lV K 0 (.ref D10)) (eu (lV K 0 (.type "ValueError")) tNil))))))) {nx:=nx,rt:=Q} (start ["e","flags"] vs) H:=by
 obtain⟨v,C,c,rfl,hE,hC,q⟩:=h;have f1:=hC.fl _ @2 _ m1;have f2:=hC.fl _ @2 _ m2;have f3:=hC.fl _ @2 _ m3;have f4:=hC.fl _ @2 _ m4;have f5:=hC.fl _ @2 _ m5;have f6:=hC.fl _ @2 _ m6;have f7:=hC.fl _ @2 _ m7;have f8:=hC.fl _ @2 _ m8;have f9:=hC.fl _ @2 _ m9;have f10:=hC.fl _ @2 _ P3;have o:=hC.own;refine⟨v,C,_,rfl,hE,o,f1,v,C,_,rfl,hE,o,f2,v,C,_,rfl,hE,o,f3,v,C,_,rfl,hE,o,f4,(show(4:Nat)<=sizeLine by decide),λp1 h1=>?_⟩;have s1:aO H (upd H p1 _):=cj (o:=.lst [.bl ("NoHiding"==c),.bl ("NoNumber"==c),.bl ("TooMany"==c),.bl ("NoCell"==c)]) h1;have E1:=lj s1 hE;refine⟨_,rfl,v,C,_,rfl,E1,o,f5,v,C,_,rfl,E1,o,f6,v,C,_,rfl,E1,o,f7,v,C,_,rfl,E1,o,f8,(show(4:Nat)<=sizeLine by decide),λp2 h2=>?_⟩;have n12:p1≠p2:=λz=>by rw[<- z,au]at h2;cases h2
 refine⟨p1,p2,_,_,rfl,rfl,(ax n12).trans au,au,(show(8:Nat)<=sizeLine by decide),λp3 h3=>?_⟩;have s2:=cj (o:=.lst [.bl ("NoShot"==c),.bl ("NothingLeft"==c),.bl ("NoCounts"==c),.bl ("Over"==c)]) h2;have s3:=cj (o:=.lst ([V.bl ("NoHiding"==c),.bl ("NoNumber"==c),.bl ("TooMany"==c),.bl ("NoCell"==c)]++[.bl ("NoShot"==c),.bl ("NothingLeft"==c),.bl ("NoCounts"==c),.bl ("Over"==c)])) h3;have E3:=lj s3 (lj s2 E1);refine⟨_,rfl,v,C,_,rfl,E3,o,f9,v,C,_,rfl,E3,o,f10,v,C,_,rfl,E3,o,hC.va,(show(3:Nat)<=sizeLine by decide),λp4 h4=>?_⟩;have n34:p3≠p4:=λz=>by rw[<- z,au]at h4;cases h4
 refine⟨p3,p4,_,_,rfl,rfl,(ax n34).trans au,au,(show(11:Nat)<=sizeLine by decide),λp5 h5=>?_⟩;have s4:=cj (o:=.lst [.bl ("NoText"==c),.bl ("NoRow"==c),.bl true]) h4;have s5:=cj (o:=.lst (([V.bl ("NoHiding"==c),.bl ("NoNumber"==c),.bl ("TooMany"==c),.bl ("NoCell"==c)]++[.bl ("NoShot"==c),.bl ("NothingLeft"==c),.bl ("NoCounts"==c),.bl ("Over"==c)])++[.bl ("NoText"==c),.bl ("NoRow"==c),.bl true])) h5;have sa:=(((s1.trans s2).trans s3).trans s4).trans s5;refine q p5 _ sa ?_ ?_
 .cases z:H p5 with
  | none=>rfl
  | some ob=>have:=((s1.trans s2).trans s3).trans s4 _ _ z;rw[h5]at this;cases this
 .exact au
theorem Rl.setU{K:Fg}{B Z H:Hp}{env:En}{σ:L2.St}(R:Rl K B Z H env σ)(i:Nat)(x:Option V):Rl K B Z H (env.set i .un) (σ.set i x):=by
 refine⟨R.bh,R.zh,by simp[R.len],λj s h=>?_,λj ds a h h2=>?_,λj k ds es a hne h1 h2 h3 h4=>?_⟩
 .by_cases hj:i=j
  .subst hj
   by_cases hl:i<env.length
   .rw[r_ hl]at h;cases h;exact⟨x,r_ (by rw[<- R.len];exact hl),trivial⟩
   .rw[E_ (by simpa using U2 hl)]at h;cases h
  .rw[j_ hj]at h ⊢;exact R.sl j s h
 .by_cases hj:i=j
  .subst hj
   by_cases hl:i<env.length
   .rw[r_ hl]at h;cases h
   .rw[E_ (by simpa using U2 hl)]at h;cases h
  .rw[j_ hj]at h h2;exact R.ob j ds a h h2
 .by_cases hj:i=j
  .subst hj
   by_cases hl:i<env.length
   .rw[r_ hl]at h1;cases h1
   .rw[E_ (by simpa using U2 hl)]at h1;cases h1
  .by_cases hk:i=k
   .subst hk
    by_cases hl:i<env.length
    .rw[r_ hl]at h2;cases h2
    .rw[E_ (by simpa using U2 hl)]at h2;cases h2
   .rw[j_ hj]at h1 h3;rw[j_ hk]at h2 h4;exact R.ap j k ds es a hne h1 h2 h3 h4
def gM(c:Str):D:=.lst ((xV c).map .bl)
def Ez(cs:Yr)(i j:Nat)(fb:FsX):FsX:=λenv=>(fb env).bind λo=>match o with
 | .ex c d env'=>if c∈cs then some (.nx ((env'.set j (.F (gM c))).set i .un))else none
 | o=>some o
theorem zM{K:Fg}{H:Hp}:∀(bs:List Bool),av K H (bs.map D.bl) (bs.map V.bl)
 | []=>rfl
 | _::bs=>⟨_,_,rfl,rfl,zM bs⟩
theorem Kz{X:Cx}{rg:Gr}{i j k:Nat}{HE:YH}{n y:Str}{cs:Yr}{f:YH}{fd:YF}{body:Yu}{fb:FsX}{p hp pos p1 p2 p3 p4 p5:Pos}{nm q:Str}{N:YH}{bs:Yo}{sn:Yr}{sub:Yo}{ab:Bool}{col:Option Bool}{dd:Yq}{k0 k1 k2 k3 k5:Yp}
  (T:yM X) (hN:X.N.Nodup) (RJ:i≠j) (hm:X.mg "HideError"=some (.ref HE)) (lk:X.K.lookup HE=some (dA nm q HE N bs bmV sn sub ab col dd k0 k1 k2 k3 k5))
  (CT:∀c∈cs,∀C,X.mg c=some (.ref C)->FX X.K X.mg HE c C) (F:O8 X.prog X.w X.K X.mg X.base k f fd ["e"] (ME X.K X.mg HE)) (hr:FV k X.A) (hf:X.mg "_law_flags"=some (.ref f)) (hk:PySem.W.keepIn X.K (.ref f)=true) (hb:Binds X.K fd ["e"] [])
  (hbody:∀xe,F0 (X.wish xe) rg body fb)
  (hi:X.N[i]?=some n:=by rfl) (hl:X.env.scope.names.lookup n=some .local:=by rfl) (hj:X.N[j]?=some y:=by rfl) (RK:Loc X.env.scope y:=by first | exact Or.inl rfl | exact Or.inr rfl) (hg:Gl X "HideError":=by rfl) (RL:Gl X "_law_flags":=by rfl)
  (L9:(n==("__debug__":Str))=false:=by decide) (hd2:(n==("__classdict__":Str))=false:=by decide)
  (RM:X.fn y=true\/X.env.scope.names.lookup y=some .local:=by first | exact .inl rfl | exact .inr rfl)
  (hst:starEach [.Name n p3] X.env=(false,eval (.Name n p3) X.env)::starEach [] X.env:=by rfl)
  (FQ:swapsWith (.Call (.Name "_law_flags" p2) [.Name n p3] [] p4) (some (.Name y p1)) p5.line X.env=pure false:=by rfl) :
  M9 X rg (.Try body [.ExceptHandler (some (.Name "HideError" p)) (some n) [.Assign [.Name y p1] (.Call (.Name "_law_flags" p2) [.Name n p3] [] p4) p5] hp] [] [] pos) (Ez cs i j fb):=by
 rintro s σ H E I ⟨env,B,Z,o,R,e1,kk⟩;refine JM T hN hi hl hg hm lk (tb:=λxe=>F2 (X.wish xe) rg fb) (ts:=uN (CS (ME X.K X.mg HE) [] E0 (eu (xo i) tNil)) (my j)) hbody (λe=>gO (iD hN hj RK (Ed (X:=XH X e) F ⟨hr.dp,hr.un⟩ RL hf hk hb (aP (bK hi (.inl hl) L9 hd2) b9 hst) @2 hst rfl) FQ RM)) s σ H E I ?_;intro xe hxe;obtain⟨o1,e2,e3⟩:=b_.mp e1;refine⟨env,B,Z,o1,R,e2,?_⟩;cases o1 with
 | nx Iv=>cases e3;exact kk
 | rt d=>cases e3;exact kk
 | bk d=>cases e3;exact kk
 | ct d=>cases e3;exact kk
 | ex c d env'=>
  obtain⟨hc,rfl⟩:=qe e3;intro σ' Z' H' C dx u x R' hmg hxd hu pins s' e I' hn he uf;have hC:=CT c hc C hmg;refine hxe σ' H' s' pins e C dx I'.unwish hn he uf hC.cg ?_;have LL:i < σ'.length:=by rw[I'.len];exact(k_.mp hi).1
  refine⟨.ref e,r_ LL,.ref e,C,c,rfl,⟨e,dx,[("cell",u)],rfl,au,?_⟩,hC,λa H2 sa hna RN=>?_⟩
  .rw[ax (λz=>by rw[z,he]at hxd;cases hxd)];exact hxd
  have TF:H' a=none:=by
   by_cases z:a=e
   .rw[z];exact he
   .rwa [ax z]at hna
  have s0:aO H' H2:=(cj he).trans sa;have hZa:Z' a=none:=x.zh.free TF;have x2:Ex Z' H' (upd Z' a (.lst ((xV c).map V.bl))) H2:=⟨s0,cj hZa,λb ob hb=>by
   by_cases z:b=a
   .subst z;rw[au]at hb;cases hb;exact RN
   .rw[ax z]at hb;exact s0 _ _ (x.zh _ _ hb),λb h1 h2=>by
   rw[ax (λz=>h1 (by rw[z];exact TF))];exact h2⟩
  have R2:=((R'.ext x2).setF (d:=gM c) (v:=.ref a) j ⟨a,_,rfl,cY.of au,zM _⟩).setU i none;have es:(((σ'.set i (some (V.ref e))).set j (some (V.ref a))).set i none)=(σ'.set j (some (V.ref a))).set i none:=by
   rw[List.set_comm _ _ RJ,Yb]
  show E.nx (((σ'.set i (some (V.ref e))).set j (some (V.ref a))).set i none) H2;rw[es];exact kk _ _ _ (x.transB (Ex.part x.h x2)) R2
end Mi
namespace Mi
open PySem PySem.Spec PyProof.Rows L2
theorem Ds(ha:s.TypeIs a "list")(hb:s.TypeIs b "list")
  (hc:wpAny M A (call (.builtin "list.__iadd__") [a,b]) Q E s):wpAny M A (inplaceOp .Add a b) Q E s:=by
 unfold inplaceOp;refine F_ ?_;have hl:typeLookup (.type "list") (dunderI "add")=pure (some (.builtin "list.__iadd__")):=PySem.F.slot_list_iadd.lookup;have P4:isSeqSlot (some (.builtin "list.__iadd__"))=true:=by decide +kernel
 have hfi:fillsInplaceSlot (.type "list") "add" (Operator.Add==.Add)=pure false:=by
  unfold fillsInplaceSlot;show(typeLookup (.type "list") (dunderI "add") >>= λfi=>pure (fi.isSome&&!isSeqSlot fi))=pure false;rw[hl];show(pure ((some (Value.builtin "list.__iadd__")).isSome&&!isSeqSlot (some (.builtin "list.__iadd__"))):Sem Bool)=pure false;rw[P4];rfl
 refine a_ (Xx ha (a_ (XW hfi ?_)));show wpAny M A (if false=true then _ else _) Q E s;rw[i_ UY];refine a_ (PyProof.Rows.binaryOp1_none (nm:="add") ha hb noFill_list_add ?_);refine a_ (XW (PySem.seqSlot_of hl P4) ?_);exact a_ (WV hc)
section
variable {X:Cx}{rg:Gr}{pos px:Pos}{x:Str}{e:YI}
def ipL:TIp:=λx y H Q=>∃l b xs zs,x=.ref l/\y=.ref b/\H l=some (.lst xs)/\H b=some (.lst zs)/\xs.length+zs.length<=sizeLine/\Q (.ref l) (upd H l (.lst (xs++zs)))
theorem GY:SL X .Add ipL:=by
 intro pins s σ H x y v u Q I rx ry h;obtain⟨l,b,xs,zs,rfl,rfl,hH,hB,hz,q⟩:=h;cases(show v=Value.ref l from rx);cases(show u=Value.ref b from ry);obtain⟨z,br,n,r,hl,e⟩:=I.lstM hH;obtain⟨z2,pH,n2,r2,LK,e2⟩:=I.lstM hB;have hsz:br.toArray.size+pH.toArray.size<=sizeLine:=by rw[s_,s_];omega
 have FJ:¬(!br.toArray.isEmpty&&Builtin.List.listTooLong (br.toArray.size+pH.toArray.size))=true:=by
  rw[vJ hsz,Wb];exact UY
 refine Ds ⟨_,e,rfl⟩ ⟨_,e2,rfl⟩ (call_meets PySem.F.slot_list_iadd ⟨_,e,rfl⟩ PySem.F.entry_list_iadd (PySem.F.args_list_iadd_2 _ _)
  (AutoSeq1.list___iadd___list_list_0 l br.toArray n b pH.toArray n2 FJ (by rw[s_];omega) @1) ⟨e,e2,?_⟩)
 refine⟨.ref l,_,I.lset (its':=br++pH) hH e @8 (r.append r2) ?_,rfl,q⟩;rw[u_];omega
theorem set_same{σ:L2.St}{i:Nat}{v:V}(h:σ[i]?=some (some v)):σ.set i (some v)=σ:=by
 apply W8;intro j
 by_cases z:i=j
 .subst z;rw[r_ (k_.mp h).1,h]
 .rw[j_ z]
theorem N7(i:Nat){fe:Fe}(he:PD X .nw e fe)(hN:X.N.Nodup)(hi:X.N[i]?=some x:=by rfl)(hx:Loc X.env.scope x:=by first | exact Or.inl rfl | exact Or.inr rfl)(hf:@11:=by first | exact .inl rfl | exact .inr rfl | assumption) :
  SD X rg (.AugAssign (.Name x px) .Add e pos) (tQ i fe):=by
 refine PS.imp (J0 hN hi hx he GY hf) λE σ H az=>?_;obtain⟨env,B,Z,o,R,e,k⟩:=az;unfold tQ at e
 split at e
 .rename_i ds hi;obtain⟨d,e1,e2⟩:=b_.mp e;cases d<;>try cases e2
  rename_i es;obtain⟨hl,rfl⟩:=qe e2;obtain⟨y,e3,a,o,e4,e5,e6,vs,rfl,r⟩:=R.sl i _ hi;subst e4;refine⟨_,e3,env,B,Z,_,R,e1,λv Z1 H1 x1 g1=>?_⟩;obtain⟨b,us,es',rfl,e7,h1,h2,h3,r2⟩:=g1;cases e7;have R1:=R.ext x1;have r1:=av.mono x1.z ds r;refine⟨a,b,vs,us,rfl,rfl,x1.h _ _ e5,h2,by rw[<- r.len,<- r2.len,UI];omega,?_⟩;obtain⟨R2,x2⟩:=R1.wr hi e3 (de.l (r1.app r2));rw[set_same e3];exact k σ Z1 _ ((x1.part R.bh).transB x2) R2
 .cases e
end
theorem G'(hh:A.handled=none)(hl:s.heap.IsList l (x::xs).toArray)(hz:xs.length+1<=sizeLine)
  (hQ:∀(h':YD)(tk:Nat),(∀b o,s.heap.get? b=some o->h'.get? b=some o)->Q [x,.ref h'.objs.size] {s with heap:=h'.push {cls:=.type "list",data:=.seq xs.toArray},toks:=tk}):wpAny (model P w) A (unpackItems (.ref l) 2 (some 1)) Q E s:=by
 have ix:l≠s.sz:=by obtain⟨o,ho,_⟩:=hl;exact A_ (n_ ho)
 have OG:(s.heap.push {cls:=.type "list_iterator",data:=.fields #[.ref l,rawInt 0]}).IsList l (x::xs).toArray:=by obtain⟨o,ho,r⟩:=hl;exact⟨o,d_ _ ho,r⟩
 unfold unpackItems;refine a_ (m:=notIterableAtAll (.ref l)) ?_;unfold notIterableAtAll;refine a_ (VN hl.typeIs PySem.slot_list_iter.lookup (e_ ?_));simp only[D_,UU];refine a_ (F_ (Vz hl ?_));refine a_ (F_ (Jf ix 1 0 _ _ ⟨_,o_ _ rfl,rfl,rfl⟩ OG @8 λh₁ Mb hs₁=>?_));have TH:h₁.IsList l (x::xs).toArray:=OG.extBut hs₁.extBut ix;rw[UH]at Mb;have hit₁':=Mb;obtain⟨oi,hoi,_⟩:=hit₁';have hl₁':=TH;obtain⟨ol,JA,_⟩:=hl₁';rw[show(((x::xs).toArray.toList.drop 0).take 1)=[x]from rfl,i_ (show ¬([x].length<1) by simp)];refine a_ (F_ (PySem.W.kun_collect (s:={s with heap:=h₁}) (T:="list_iterator") (.inr (.inr (.inl rfl))) (Walks.list (A:=A.in1) hh s.sz l ix (x::xs).toArray) (λj u st=>st.1.typeIs) (k:=1) @8 ⟨Mb,TH⟩ (n_ hoi) (n_ JA) (λh₂ tk hk=>?_) (by simpa using hz)));rw[show((x::xs).toArray.toList.drop 1)=xs from rfl];show wpAny _ _ (if xs.length<0 then _ else _) _ _ _;rw[i_ @1];show wpAny _ _ (newList (xs.take (xs.length-0)) >>= λd=>pure ([x]++[d]++xs.drop (xs.length-0))) _ _ _;rw[Nat.sub_zero,Vk,List.drop_length];have he:Heap.ExtBut s.sz s.heap h₂:=λb o hb e=>hk b o hb (hs₁.extBut b o hb (d_ _ e));exact a_ (Vd (e_ (hQ h₂ tk λb o e=>he b o (A_ (n_ e)) e)) (by show xs.toArray.size<=sizeLine;rw[s_];omega))
section
variable {X:Cx}{rg:Gr}
def NU(K:Yy)(t:TGs):TG:=λv σ H Q=>∃a x xs,v=.ref a/\cY K H a (x::xs)/\∀p,H p=none->t [x,.ref p] σ (upd H p (.lst xs)) Q
theorem Ig(hc:X.calm=true)(h:BU X es t)(hn:(assignEach es X.env).length=2:=by rfl)(hst:(assignEach es X.env).findIdx? (·.1)=some 1:=by rfl):PG X (.Tuple es k pos) (NU X.K t):=by
 intro pins s σ H v u Q I r hw;obtain⟨a,x,xs,e1,hq,hw⟩:=hw;subst e1;cases r;obtain⟨br,rv,pl,hz⟩:=I.list hq;cases rv with
 | @cons _ u0 _ us r0 rr=>
 have hlen:=rr.length;rw[XO];refine a_ (Vo ?_);unfold unpack;rw[hst,hn];have hz2:us.length+1<=sizeLine:=by simp only[v_]at hz;omega
 refine a_ (F_ (G' (I.ok.hd hc) pl.isList hz2 λh' tk hx=>?_));have I1:Inv X pins σ H {s with heap:=h',toks:=tk}:=I.kept (t':=tk) hx;have I2:=I1.lnew (t':=tk) rr @1;exact h pins _ σ _ _ _ Q I2 (.cons r0 (.cons (show L2.RelV (.ref h'.objs.size) (Value.ref h'.objs.size)from rfl) .nil)) (hw _ I1.fresh)
theorem Dk(h1:PG X e t)(hs:(assignEach [.Starred e p] X.env).map (·.2)=[assign e X.env]:=by rfl):BU X [.Starred e p] (Ji t gNil):=by
 intro pins s σ H vs us Q I r h;obtain⟨v,vr,e1,h⟩:=h;subst e1;cases r with
 | cons r rr=>
  rw[hs];refine assignInOrder_cons (bB (h1 pins s σ H _ _ _ I r h) λ_ s1 az=>?_);obtain⟨σ1,H1,I1,q1⟩:=az;obtain⟨rfl,q1⟩:=q1;cases rr;exact assignInOrder_nil ⟨σ1,H1,I1,q1⟩
def IK(i j:Nat)(f:Fe):Fs:=λenv=>(f env).bind λd=>match d with
 | .lst (d::ds)=>some (.nx ((env.set i (.F d)).set j (.F (.lst ds))))
 | _=>none
theorem KP(i j:Nat)(hc:X.calm=true)(he:PD X .cl e fe)(hN:X.N.Nodup)(hi:X.N[i]?=some x:=by rfl)(hj:X.N[j]?=some y:=by rfl)
  (hx:Loc X.env.scope x:=by first | exact Or.inl rfl | exact Or.inr rfl) (hy:Loc X.env.scope y:=by first | exact Or.inl rfl | exact Or.inr rfl)
  (hf:@11:=by first | exact .inl rfl | exact .inr rfl | assumption) (hf2:X.fn y=true\/X.env.scope.names.lookup y=some .local:=by first | exact .inl rfl | exact .inr rfl | assumption)
  (ha:(assignEach [.Name x p1,.Starred (.Name y p3) p4] X.env).map (·.2)=assign (.Name x p1) X.env::(assignEach [.Starred (.Name y p3) p4] X.env).map (·.2):=by rfl)
  (ha2:(assignEach [.Starred (.Name y p3) p4] X.env).map (·.2)=[assign (.Name y p3) X.env]:=by rfl)
  (hn:(assignEach [.Name x p1,.Starred (.Name y p3) p4] X.env).length=2:=by rfl) (hst:(assignEach [.Name x p1,.Starred (.Name y p3) p4] X.env).findIdx? (·.1)=some 1:=by rfl)
  (hs:swapsWithSole [.Tuple [.Name x p1,.Starred (.Name y p3) p4] k p2] e pos.line X.env=pure false:=by rfl) (hw:swappedStores [.Tuple [.Name x p1,.Starred (.Name y p3) p4] k p2] e X.env=pure none:=by rfl) (h1:(assignEach [.Tuple [.Name x p1,.Starred (.Name y p3) p4] k p2] X.env).map (·.2)=[assign (.Tuple [.Name x p1,.Starred (.Name y p3) p4] k p2) X.env]:=by rfl) :
  SD X rg (.Assign [.Tuple [.Name x p1,.Starred (.Name y p3) p4] k p2] e pos) (IK i j fe):=
 PS.imp (sW he (Ig hc (vE (kP hN hi hx hf) (Dk (kP hN hj hy hf2) ha2) ha) hn hst) hs hw h1) λE σ H az=>by
 obtain⟨env,B,Z,o,R,e,k⟩:=az;obtain⟨d,e1,e⟩:=b_.mp e;cases d<;>try cases e
 rename_i ds;cases ds with
 | nil=>cases e
 | cons d ds=>
  cases e;refine⟨env,B,Z,_,R,e1,λv Z1 H1 x1 g1=>?_⟩;obtain⟨a,vs,rfl,hq,rr⟩:=g1;obtain⟨v0,vr,rfl,r0,r1⟩:=rr;refine⟨a,v0,vr,rfl,x1.zh.seq hq,λp hp=>?_⟩;have x2:Ex Z1 H1 (upd Z1 p (.lst vr)) (upd H1 p (.lst vr)):=by
   refine⟨cj hp,cj (x1.zh.free hp),λb ob hb=>?_,λb h1 h2=>?_⟩
   .by_cases z:b=p
    .subst z;rw[au]at hb ⊢;exact hb
    .rw[ax z]at hb ⊢;exact x1.zh _ _ hb
   .rw[ax (λz=>h1 (by rw[z];exact hp))];exact h2
  refine⟨v0,_,rfl,.ref p,_,rfl,rfl,?_⟩;have s1:aO Z1 (upd Z1 p (.lst vr)):=x2.z;have R2:=(((R.ext x1).ext x2).setF (d:=d) (v:=v0) i (Rep.mono s1 d r0)).setF (d:=.lst ds) (v:=.ref p) j ⟨p,vr,rfl,cY.of au,av.mono s1 ds r1⟩;exact k _ _ _ ((x1.trans x2).part R.bh) R2
end
section
variable {X:Cx}{rg:Gr}{pins:Yi}{s:YA}{σ:L2.St}{H:Hp}
variable {o e:YI}{fa fb:Fe}{apos bG:Pos}{k:Nat}
end
end Mi
namespace Mi
open PySem PySem.Spec PyProof.Rows L2
inductive rF(A:Around)(s:Shared)(q:Bool):List Value->List Value->Prop
 | nil:q=false->rF A s q [] []
 | less {w:Value} {ws:List Value}:q=true->rF A s q [] (w::ws)
 | more {v:Value} {vs:List Value}:q=false->rF A s q (v::vs) []
 | same {v w:Value} {vs ws:List Value}:SeqAt.EqAt A s v w true->rF A s q vs ws->rF A s q (v::vs) (w::ws)
 | apart {v w:Value} {vs ws:List Value}:SeqAt.EqAt A s v w false->(∀(prog:Program)(wd:World)(E:Value->Shared->Prop)(Q:Value->Shared->Prop),Q (.bool q) s->wpAny (model prog wd) A (richCompare .Lt v w) Q E s)->rF A s q (v::vs) (w::ws)
section
open PySem.SeqAt
open PySem.AutoSeq1 (wpAny_loadPart')
open PySem.MeetsSeq PySem.MeetsSeq2 PySem.MeetsSeq3
end
section
variable {X:Cx}{pins:Yi}{s:YA}{σ:L2.St}{H:Hp}
variable {l r:YI}{fa fb:Fe}{ga gb:Gr}{pos p:Pos}{k:Nat}
end
end Mi
namespace Mi
open PySem PySem.Spec PyProof.Rows L2
def Uw:D->Option Bool
 | .lst ds=>some !ds.isEmpty
 | _=>none
def fT(f:Fe):Fb:=λenv=>(f env).bind Uw
theorem Jp(h:PD X .cl e f)(he:∀whole,isTrue e X.env whole=(do let v <- whole;standAt e.pos;holding [v] (truthy v)):=by intro _;rfl):PB X e (fT f):=
 PT.imp (El h he) λσ H Q az=>by
  obtain⟨env,B,Z,b,R,e,k⟩:=az;obtain⟨d,h1,h2⟩:=b_.mp e;cases d<;>cases h2;rename_i ds;refine⟨env,B,Z,_,R,h1,λv Z' H' x g=>?_⟩;obtain⟨a,vs,rfl,hq,rr⟩:=g;have hl:=rr.len;have:(!ds.isEmpty)=!vs.isEmpty:=by cases ds<;>cases vs<;>first | rfl | (simp at hl)
  exact⟨_,.inl ⟨vs,x.zh.seq hq,rfl⟩,by rw[<- this];exact k Z' H' x⟩
theorem Eu{P:YB}{w:YE}{K:Fg}{mg:Yk}{base:YD}{k n:Nat}{f:YH}{fd:YF}{ps:Yr}{g:Gr}:eh P w K mg base l9 k f fd ps (EI K n g λ_=>none):=
 ⟨λvs H Q E ⟨_,_,_,_,_,_,e,_⟩=>(by cases e),λA outer s H args us vs Q E _ _ _ _ ⟨_,_,_,_,_,_,e,_⟩=>(by cases e)⟩
end Mi
namespace Mi
open PySem PySem.Spec PyProof.Rows L2 Xc
section
variable {K:Fg}{mg:Yk}{C D HE fI:YH}{nm q nm2 q2:Str}{N N2:YH}{bs bs2 bm bm2:Yo}{sn sn2:Yr}{sub sub2:Yo}{ab ab2:Bool}{col col2:Option Bool}{dd wM:Yq}{k0 k1 k2 k3 k5 j0 j1 j2 j3 j5:Yp}
theorem xF(lC:K.lookup C=some @6):PySem.W.mroIn K C b=some ((Value.ref C::bm).contains b):=by
 unfold PySem.W.mroIn PySem.W.clsIn;rw[lC]
 rfl
theorem Gn(lC:K.lookup C=some (dA nm q C N bs (.ref HE::bmV) sn sub ab col dd k0 k1 k2 k3 k5))(lD:K.lookup D=some (dA nm2 q2 D N2 bs2 bm2 sn2 sub2 ab2 col2 wM j0 j1 j2 j3 j5))(hD:D≠HE) :
  PySem.W.kitOne K (.ref C) (.ref D)=some (decide (D=C)):=by
 unfold PySem.W.kitOne
 by_cases h:D=C
 .subst h;rw[h_ (Xj _),y_ rfl]
 .rw[i_ (λz=>h (Value.ref.inj (WU.mp z)).symm),G_ h];unfold PySem.W.kitCls;have h1:((PySem.W.clsIn K D).isSome&&PySem.W.typeIn K (.ref D)==some (.type "type"))=true:=by
   have e1:PySem.W.typeIn K (.ref D)=some (.type "type"):=(VE (Option.map (λx:Obj=>x.cls)) lD);rw[e1];unfold PySem.W.clsIn;rw[lD]
   rfl
  show(if((PySem.W.clsIn K D).isSome&&PySem.W.typeIn K (.ref D)==some (.type "type"))=true then PySem.W.subIn K (.ref C) (.ref D)else none)=_;rw[h_ h1];show PySem.W.mroIn K C (.ref D)=some false;rw[xF lC];have c1:(Value.ref D==Value.ref C)=false:=WB.mpr (λz=>h (Value.ref.inj z));have c2:(Value.ref D==Value.ref HE)=false:=WB.mpr (λz=>hD (Value.ref.inj z));rw[UA,c1,UA,c2]
  rfl
theorem HZ(lC:K.lookup C=some (dA nm q C N bs (.ref HE::bmV) sn sub ab col dd k0 k1 k2 k3 k5))(hm:PySem.W.kitMeta "ValueError"=true:=by decide +kernel):PySem.W.kitOne K (.ref C) (.type "ValueError")=some true:=by
 unfold PySem.W.kitOne;rw[i_ (λz=>by cases(WU.mp z))];show(if PySem.W.kitMeta "ValueError"=true then PySem.W.subIn K (.ref C) (.type "ValueError")else none)=_;rw[h_ hm];show PySem.W.mroIn K C (.type "ValueError")=some true;rw[xF lC,UA,yp.v,VA]
def Cf(K:Fg)(mg:Yk)(HE C:YH)(c n:Str):Prop:=∃D,mg n=some (.ref D)/\(∃nm q N bs bm sn sub ab col dd k0 k1 k2 k3 k5,K.lookup D=some (dA nm q D N bs bm sn sub ab col dd k0 k1 k2 k3 k5))/\D≠HE/\(D=C↔n=c)
theorem wX(ec:EC K C HE fI)(ga:PySem.W.findIn K (.ref C) "__getattribute__"=some (some (.builtin "BaseException.__getattribute__")))(gt:PySem.W.findIn K (.ref C) "__getattr__"=some none)(cl:PySem.W.findIn K (.ref C) "__class__"=some (some (.builtin "object.__class__")))
  (o:∀n∈xX,Cf K mg HE C c n):FX K mg HE c C:=by
 obtain⟨nm,q,N,bs,sn,sub,ab,col,dd,k0,k1,k2,k3,k5,lC⟩:=ec.lk;refine⟨⟨⟨nm,q,N,bs,_,sn,sub,ab,col,dd,k0,k1,k2,k3,k5,yp,lC⟩,⟨ga,gt,cl,?_⟩⟩,⟨nm,q,N,bs,_,sn,sub,ab,col,dd,k0,k1,k2,k3,k5,?_,lC⟩,λn hn D hD=>?_,HZ lC⟩
 .rw[xF lC,UA,yp.o,VA]
 .rw[UA,UA,Xj,Bool.true_or,VA]
 .obtain⟨D',e,⟨_,_,_,_,_,_,_,_,_,_,_,_,_,_,_,lD⟩,h1,h2⟩:=o n hn;have:D'=D:=Value.ref.inj (Option.some.inj (e.symm.trans hD));subst this;rw[Gn lC lD h1];congr 1;rw[UD];simp[h2]
end
structure RO(P:Program)(w:World)(K:Fg)(mg:Str->Option Value)(base:Heap)(cs:List Str):Prop where
 ex:∃HE nm q N bs sn sub ab col dd k0 k1 k2 k3 k5 f fd,mg "HideError"=some (.ref HE)/\K.lookup HE=some (dA nm q HE N bs bmV sn sub ab col dd k0 k1 k2 k3 k5)/\(∀c∈cs,∀C,mg c=some (.ref C)->FX K mg HE c C)/\
  O8 P w K mg base 1 f fd ["e"] (ME K mg HE)/\mg "_law_flags"=some (.ref f)/\PySem.W.keepIn K (.ref f)=true/\Binds K fd ["e"] []
theorem Hv(i j:Nat)
  (TX:RO X.prog X.w X.K X.mg X.base cs) (hr:bF k X.A) (hk1:1<=k) (T:yM X) (hN:X.N.Nodup) (RJ:i≠j) (hbody:∀xe,F0 (X.wish xe) rg body fb)
  (hi:X.N[i]?=some n:=by rfl) (hl:X.env.scope.names.lookup n=some .local:=by rfl) (hj:X.N[j]?=some y:=by rfl) (RK:Loc X.env.scope y:=by first | exact Or.inl rfl | exact Or.inr rfl) (hg:Gl X "HideError":=by rfl) (RL:Gl X "_law_flags":=by rfl)
  (L9:(n==("__debug__":Str))=false:=by decide) (hd2:(n==("__classdict__":Str))=false:=by decide)
  (RM:X.fn y=true\/X.env.scope.names.lookup y=some .local:=by first | exact .inl rfl | exact .inr rfl)
  (hst:starEach [.Name n p3] X.env=(false,eval (.Name n p3) X.env)::starEach [] X.env:=by rfl)
  (FQ:swapsWith (.Call (.Name "_law_flags" p2) [.Name n p3] [] p4) (some (.Name y p1)) p5.line X.env=pure false:=by rfl) :
  M9 X rg (.Try body [.ExceptHandler (some (.Name "HideError" p)) (some n) [.Assign [.Name y p1] (.Call (.Name "_law_flags" p2) [.Name n p3] [] p4) p5] hp] [] [] pos) (Ez cs i j fb):=by
 obtain⟨HE,nm,q,N,bs,sn,sub,ab,col,dd,k0,k1,k2,k3,k5,f,fd,hm,lk,CT,F,hf,hk,hb⟩:=TX.ex;have hr1:=hr.mono hk1;exact Kz T hN RJ hm lk CT F ⟨hr1.dp,hr1.un⟩ hf hk hb hbody hi hl hj RK hg RL L9 hd2 RM hst FQ
section
variable {K:Fg}{mg:Yk}{HE C:YH}{c:Str}
theorem JR:∀c∈([]:Yr),∀C,mg c=some (.ref C)->FX K mg HE c C:=λ_ h=>nomatch h
theorem rV(m:mg c0=some (.ref C0))(h:FX K mg HE c0 C0)(t:∀c∈cs,∀C,mg c=some (.ref C)->FX K mg HE c C):∀c∈c0::cs,∀C,mg c=some (.ref C)->FX K mg HE c C:=λc hc C hC=>by
 rcases p_.mp hc with rfl | hc
 .have:C0=C:=Value.ref.inj (Option.some.inj (m.symm.trans hC));subst this;exact h
 .exact t c hc C hC
end
end Mi
namespace Mi
open PySem PySem.Spec PyProof.Rows L2
def aN:YK->List α->YL->Option α
 | k::ks,d::ds,q=>if k=q then some d else aN ks ds q
 | _,_,_=>none
def bx:YK->List α->YL->α->List α
 | k::ks,d::ds,q,x=>(if k=q then x else d)::bx ks ds q x
 | _,ds,_,_=>ds
instance decK(q:YL)(ks:YK):Decidable (q∈ks):=decidable_of_iff ((ks.any λk=>decide (k=q))=true) @8
def jG(ks:YK)(q:YL):YK:=if q∈ks then ks else ks++[q]
def k9(ks:YK)(ds:List α)(q:YL)(x:α):List α:=if q∈ks then bx ks ds q x else ds++[x]
def Ck(ks:YK)(bs:Ys)(q:YL)(b:YH):Ys:=if q∈ks then bs else bs++[b]
theorem sd(ks:YK)(q:YL):(jG ks q).length<=ks.length+1:=by unfold jG;split<;>simp
theorem lh(q:YL)(x:α):∀(ks:YK)(ds:List α),(bx ks ds q x).length=ds.length
 | [],ds=>by cases ds<;>simp[bx]
 | _::_,[]=>by simp[bx]
 | k::ks,d::ds=>by simp[bx,lh q x ks ds]
theorem sS(h:ds.length=ks.length)(q:YL)(x:α):(k9 ks ds q x).length=(jG ks q).length:=by
 unfold k9 jG;split<;>simp[lh,h]
theorem zX(h:bs.length=ks.length)(q:YL)(b:YH):(Ck ks bs q b).length=(jG ks q).length:=by
 unfold Ck jG;split<;>simp[h]
theorem gp:∀{ks:YK}{ds:List α},q∉ks->aN ks ds q=none
 | [],ds,_=>by cases ds<;>simp[aN]
 | _::_,[],_=>by simp[aN]
 | k::ks,d::ds,h=>by
  have h1:¬k=q:=λe=>h (by rw[e];exact g_);unfold aN;rw[i_ h1];exact gp λh2=>h (f_ _ h2)
theorem uC:∀{ks:YK}{ds:List α},ds.length=ks.length->q∈ks->∃d,aN ks ds q=some d
 | [],_,_,h=>nomatch h
 | _::_,[],h,_=>by simp at h
 | k::ks,d::ds,hl,h=>by
  unfold aN
  by_cases e:k=q
  .exact⟨d,h_ e⟩
  .rw[i_ e];exact uC (by simpa using hl) ((p_.mp h).resolve_left λz=>e z.symm)
theorem GJ(hl:ds.length=ks.length):(aN ks ds q).isSome=decide (q∈ks):=by
 by_cases h:q∈ks
 .obtain⟨d,e⟩:=uC hl h;rw[e,y_ h];rfl
 .rw[gp h,G_ h];rfl
theorem av.look{K:Fg}{H:Hp}{q:YL}:∀{ks:YK}{ds:YO}{vs:YR}{d:D},av K H ds vs->aN ks ds q=some d->∃v,aN ks vs q=some v/\Rep K H d v
 | [],ds,_,_,_,e=>by cases ds<;>simp[aN]at e
 | _::_,[],_,_,_,e=>by simp[aN]at e
 | k::ks,d::ds,_,d',⟨v,r,e1,h,t⟩,e=>by
  subst e1;unfold aN at e ⊢
  by_cases z:k=q
  .rw[h_ z]at e ⊢;cases e;exact⟨v,rfl,h⟩
  .rw[i_ z]at e ⊢;exact av.look t e
theorem av.repl{K:Fg}{H:Hp}{q:YL}{x:D}{y:V}(hx:Rep K H x y):∀{ks:YK}{ds:YO}{vs:YR},av K H ds vs->av K H (bx ks ds q x) (bx ks vs q y)
 | [],ds,vs,h=>by
  have e1:bx [] ds q x=ds:=by cases ds<;>rfl
  have e2:bx [] vs q y=vs:=by cases vs<;>rfl
  rw[e1,e2];exact h
 | _::_,[],vs,h=>by cases(show vs=[]from h);exact h
 | k::ks,d::ds,_,⟨v,r,e1,h,t⟩=>by
  subst e1;unfold bx
  by_cases z:k=q
  .rw[h_ z,h_ z];exact⟨y,_,rfl,hx,av.repl hx t⟩
  .rw[i_ z,i_ z];exact⟨v,_,rfl,h,av.repl hx t⟩
theorem av.put{K:Fg}{H:Hp}{q:YL}{x:D}{y:V}(hx:Rep K H x y){ks:YK}{ds:YO}{vs:YR}(h:av K H ds vs):av K H (k9 ks ds q x) (k9 ks vs q y):=by
 unfold k9
 split
 .exact av.repl hx h
 .exact h.app (av.one hx)
theorem aB.look:∀{ks:YK}{vs:YR}{us:Yo}{v:V},aB vs us->aN ks vs q=some v->∃u,aN ks us q=some u/\RelV v u
 | [],vs,_,_,_,e=>by cases vs<;>simp[aN]at e
 | _::_,_,_,_,.nil,e=>by simp[aN]at e
 | k::ks,_,_,v,.cons r t,e=>by
  unfold aN at e ⊢
  by_cases z:k=q
  .rw[h_ z]at e ⊢;cases e;exact⟨_,rfl,r⟩
  .rw[i_ z]at e ⊢;exact aB.look t e
theorem aB.look0:∀{ks:YK}{vs:YR}{us:Yo},aB vs us->aN ks vs q=none->aN ks us q=none
 | [],_,us,_,_=>by cases us<;>simp[aN]
 | _::_,_,_,.nil,_=>by simp[aN]
 | k::ks,_,_,.cons r t,e=>by
  unfold aN at e ⊢
  by_cases z:k=q
  .rw[h_ z]at e;cases e
  .rw[i_ z]at e ⊢;exact aB.look0 t e
theorem aB.repl(hx:RelV y u):∀{ks:YK}{vs:YR}{us:Yo},aB vs us->aB (bx ks vs q y) (bx ks us q u)
 | [],vs,us,h=>by
  have e1:bx [] vs q y=vs:=by cases vs<;>rfl
  have e2:bx [] us q u=us:=by cases us<;>rfl
  rw[e1,e2];exact h
 | _::_,_,_,.nil=>.nil
 | k::ks,_,_,.cons r t=>by
  unfold bx
  by_cases z:k=q
  .rw[h_ z,h_ z];exact .cons hx (aB.repl hx t)
  .rw[i_ z,i_ z];exact .cons r (aB.repl hx t)
theorem qw(hx:RelV y u):∀{vs:YR}{us:Yo},aB vs us->aB (vs++[y]) (us++[u])
 | _,_,.nil=>.cons hx .nil
 | _,_,.cons r t=>.cons r (qw hx t)
theorem aB.put(hx:RelV y u)(h:aB vs us):aB (k9 ks vs q y) (k9 ks us q u):=by
 unfold k9
 split
 .exact aB.repl hx h
 .exact qw hx h
theorem gj(k:YL)(ks:YK)(b:YH)(bs:Ys)(u:Yz)(us:Yo):ij (k::ks) (b::bs) (u::us)=(k,b,u)::ij ks bs us:=rfl
theorem mU:∀{ks:YK}{bs:Ys}{us:Yo},bs.length=ks.length->us.length=ks.length->(ij ks bs us).map (·.1)=ks
 | [],_,_,_,_=>rfl
 | _::_,[],_,h,_=>by simp at h
 | _::_,_::_,[],_,h=>by simp at h
 | k::ks,b::bs,u::us,h1,h2=>by rw[gj,C_,mU (by simpa using h1) (by simpa using h2)]
theorem kC(h1:bs.length=ks.length)(h2:us.length=ks.length):(ij ks bs us).length=ks.length:=by
 have:=VE List.length (mU h1 h2);simpa using this
theorem nH(q:YL):∀{ks:YK}{bs:Ys}{us:Yo},bs.length=ks.length->us.length=ks.length->(atKey (ij ks bs us) q).map (·.2)=aN ks us q
 | [],_,us,_,_=>by cases us<;>rfl
 | _::_,[],_,h,_=>by simp at h
 | _::_,_::_,[],_,h=>by simp at h
 | k::ks,b::bs,u::us,h1,h2=>by
  have ih:=nH q (ks:=ks) (bs:=bs) (us:=us) (by simpa using h1) (by simpa using h2);rw[gj];unfold atKey at ih ⊢;unfold aN;rw[List.find?_cons]
  by_cases e:k=q
  .rw[h_ e,show decide ((k,b,u).1=q)=true by simpa using e];rfl
  .rw[i_ e,show decide ((k,b,u).1=q)=false by simpa using e];exact ih
theorem xW(q:YL)(h1:bs.length=ks.length)(h2:us.length=ks.length):(atKey (ij ks bs us) q).isSome=decide (q∈ks):=by
 rw[<- GJ h2,<- nH q h1 h2,Option.isSome_map]
theorem u9(q:YL)(u':Yz):∀{ks:YK}{bs:Ys}{us:Yo},bs.length=ks.length->us.length=ks.length->(ij ks bs us).map (putAt q u')=ij ks bs (bx ks us q u')
 | [],_,us,_,_=>by cases us<;>rfl
 | _::_,[],_,h,_=>by simp at h
 | _::_,_::_,[],_,h=>by simp at h
 | k::ks,b::bs,u::us,h1,h2=>by
  rw[gj,C_,u9 q u' (by simpa using h1) (by simpa using h2)];rw[show bx (k::ks) (u::us) q u'=(if k=q then u' else u)::bx ks us q u' from rfl,gj];congr 1;unfold putAt
  by_cases e:k=q
  .rw[h_ e,h_ e]
  .rw[i_ e,i_ e]
theorem uK(q:YL)(b':YH)(u':Yz):∀{ks:YK}{bs:Ys}{us:Yo},bs.length=ks.length->us.length=ks.length->ij (ks++[q]) (bs++[b']) (us++[u'])=ij ks bs us++[(q,b',u')]
 | [],[],[],_,_=>rfl
 | [],_::_,_,h,_=>by simp at h
 | [],[],_::_,_,h=>by simp at h
 | _::_,[],_,h,_=>by simp at h
 | _::_,_::_,[],_,h=>by simp at h
 | k::ks,b::bs,u::us,h1,h2=>by
  rw[V_,V_,V_,gj,gj,V_,uK q b' u' (by simpa using h1) (by simpa using h2)]
theorem pA(q:YL)(b:YH)(u:Yz)(h1:bs.length=ks.length)(h2:us.length=ks.length):storedH (ij ks bs us) q b u=ij (jG ks q) (Ck ks bs q b) (k9 ks us q u):=by
 unfold storedH jG Ck k9;rw[xW q h1 h2]
 by_cases h:q∈ks
 .rw[y_ h,h_ rfl,h_ h,h_ h,h_ h,u9 q u h1 h2]
 .rw[G_ h,i_ @8,i_ h,i_ h,i_ h,uK q b u h1 h2]
theorem GE(h:x∈ij ks bs us):∃i:Nat,ks[i]?=some x.1/\bs[i]?=some x.2.1:=by
 obtain⟨i,hi⟩:=Wo.mp h;obtain⟨a1,a2⟩:=Vl.mp hi;exact⟨i,a1,(Vl.mp a2).1⟩
theorem ff.put{K:Fg}{H:Hp}{ks:YK}{bs:Ys}(r:ff K H ks bs)(hl:bs.length=ks.length){q:YL}{b:YH}(hq:cR K H b (q.map kV)):ff K H (jG ks q) (Ck ks bs q b):=λi k b' h1 h2=>by
 unfold jG at h1;unfold Ck at h2
 split at h1
 .rw[h_ ‹_›]at h2;exact r i k b' h1 h2
 .rw[i_ ‹_›]at h2
  by_cases hi:i<ks.length
  .rw[S_ hi]at h1;rw[S_ (by rw[hl];exact hi)]at h2;exact r i k b' h1 h2
  .rw[R_ @1]at h1;rw[R_ (by rw[hl];omega)]at h2;have hz:i-ks.length=0:=by
    have:=(k_.mp h1).1;simp at this;omega
   rw[hz]at h1;rw[hl,hz]at h2;cases h1;cases h2;exact hq
theorem Cg(P:YB)(w:YE):Ei (hashStr w)=entryOfKey (tupleKind (aJ P w)):=by
 funext x;unfold Ei entryOfKey;congr 1
section
variable {P:YB}{w:YE}{a:YH}{ks:YK}{bs:Ys}{vs:YR}{h:YD}
theorem yQ(d:h.DictOfH (tupleKind (aJ P w)) a (ij ks bs us))(hv:aB vs us)(h1:bs.length=ks.length)(h2:us.length=ks.length)(hs:(a==sysModules)=false)(hz:ks.length<=16000000):cb (hashStr w) a ks bs vs h:=by
 obtain⟨o,es,ep,e1,e2,e3,e4,_,e6⟩:=d;rw[mU h1 h2]at e6;exact⟨o,es,ep,us,e1,e2,e3,hv,by rw[e4,Cg P w],e6,hs,hz,h1,h2⟩
theorem gW(th:Str->Int)(a:YH)(ks:YK)(bs:Ys)(vs:YR):∀h1 h2:YD,cb th a ks bs vs h1->(∀o,h1.get? a=some o->h2.get? a=some o)->cb th a ks bs vs h2:=λh1 h2 ⟨o,es,ep,us,e,r⟩ k=>⟨o,es,ep,us,k o e,r⟩
end
section
variable {X:Cx}{rg:Gr}{l r:YI}{fa fb:Fe}{ga gb:Gr}{pos p:Pos}{k:Nat}
theorem fK{pins σ H s}(I:@5)(hq:cR X.K H b (q.map kV)):(tupleKind (aJ X.prog X.w)).is s.heap q b:=by
 obtain⟨br,rv,⟨o,h1,h2,n',h3⟩,_⟩:=I.tuple hq;exact⟨o,br.toArray,n',h1,h2,h3,by simpa using lr (ks:=q) rv⟩
theorem jX{pins σ H s}(I:@5)(hc:H c=some (.ext (cb (hashStr X.w) c ks bs vs)))(hp:ff X.K H ks bs) :
  ∃us,aB vs us/\bs.length=ks.length/\us.length=ks.length/\s.heap.DictOfH (tupleKind (aJ X.prog X.w)) c (ij ks bs us)/\(c==sysModules)=false/\ks.length<=16000000:=by
 have hS:cb (hashStr X.w) c ks bs vs s.heap:=(show bE X.prog X.w H s.heap c (.ext (cb (hashStr X.w) c ks bs vs))from I.hok c _ hc).1;obtain⟨o,es,ep,us,e1,e2,e3,hv,e4,e5,e6,e7,h1,h2⟩:=hS;refine⟨us,hv,h1,h2,⟨o,es,ep,e1,e2,e3,by rw[e4,Cg X.prog X.w],λx hx=>?_,by rw[mU h1 h2];exact e5⟩,e6,e7⟩;obtain⟨i,a1,a2⟩:=GE hx;exact fK I (hp i _ _ a1 a2)
def Pi:YO->Option YL
 | []=>some []
 | .int i::ds=>(Pi ds).map (.inl i::·)
 | .str x::ds=>(Pi ds).map (.inr x::·)
 | _=>none
theorem iJ{K:Fg}{H:Hp}:∀{ds:YO}{vs:YR}{q:YL},av K H ds vs->Pi ds=some q->vs=q.map kV
 | [],vs,_,h,e=>by cases e;exact h
 | .int i::ds,_,_,⟨v,r,e1,h,t⟩,e=>by
  obtain⟨q',e2,rfl⟩:=L_.mp e;rw[e1,iJ t e2,show v=V.int i from h];rfl
 | .str x::ds,_,_,⟨v,r,e1,h,t⟩,e=>by
  obtain⟨q',e2,rfl⟩:=L_.mp e;rw[e1,iJ t e2,show v=V.str x from h.1];rfl
 | .non::_,_,_,_,e=>by cases e
 | .bl _::_,_,_,_,e=>by cases e
 | .tup _::_,_,_,_,e=>by cases e
 | .lst _::_,_,_,_,e=>by cases e
 | .dct _::_,_,_,_,e=>by cases e
 | .st _::_,_,_,_,e=>by cases e
 | .ln _::_,_,_,_,e=>by cases e
 | .mp _ _ _::_,_,_,_,e=>by cases e
def ft:D->Option YL
 | .tup ts=>Pi ts
 | _=>none
theorem iY{K:Fg}{Z H H0:Hp}{g:Gr}{d:D}{v:V}{q:YL}(s:aO Z H)(h:Gd K Z H0 H g d v)(e:ft d=some q):∃b,v=.ref b/\cR K H b (q.map kV):=by
 cases d<;>try cases e
 obtain⟨b,vs,rfl,hq,rr⟩:=h.tup s;rw[iJ rr e]at hq;exact⟨b,rfl,hq⟩
open Classical in
noncomputable def EL(th:Str->Int):D->Option (YK×YO)
 | .mp F7 ks ds=>if F7=th then some (ks,ds)else none
 | _=>none
open Classical in
theorem kK(h:EL th d=some x):d=.mp th x.1 x.2:=by
 cases d<;>try cases h
 unfold EL at h;obtain⟨rfl,rfl⟩:=qe h
 rfl
open Classical in
theorem wD(th:Str->Int)(ks:YK)(ds:YO):EL th (.mp th ks ds)=some (ks,ds):=by show(if th=th then some (ks,ds)else none)=_;rw[h_ rfl]
noncomputable def getM(th:Str->Int)(x y:D):YQ:=(EL th x).bind λm=>(ft y).bind λq=>aN m.1 m.2 q
def IQ(K:Fg)(th:Str->Int):R2:=λx y H Q=>∃(a b:YH)(ks:YK)(bs:Ys)(vs:YR)(q:YL)(v:V),x=.ref a/\H a=some (.ext (cb th a ks bs vs))/\ff K H ks bs/\y=.ref b/\cR K H b (q.map kV)/\aN ks vs q=some v/\Q v H
theorem GL(hu:X.A.units+1<cLine)(ho:PE X o td)(hi:PE X i ty)(hs:Ke i):PE X (.Subscript o i pos) (IT (IQ X.K (hashStr X.w)) td ty):=by
 intro pins s σ H Q I h;refine GB PySem.F.slot_dict_getitem.lookup hs (bB (ho pins s σ H _ I h) λu s1 ⟨x,H1,I1,rx,q1⟩=>bB (hi pins s1 σ H1 _ I1 q1) λiv s2 az=>?_);obtain⟨y,H2,I2,ry,a,b,ks,bs,vs,q,v,ex,hc,hp,ey,hq,hl,q2⟩:=az;subst ex ey;obtain rfl:u=Value.ref a:=rx;obtain rfl:iv=Value.ref b:=ry;obtain⟨us,hv,h1,h2,dd,yG,hz⟩:=jX I2 hc hp;obtain⟨w',e1,e2⟩:=aB.look hv hl;rw[<- nH q h1 h2]at e1;obtain⟨pr,e3,e4⟩:=L_.mp e1;exact⟨dd.typeIs,wpAny_getItem_heap (Vs hu) (fK I2 hq) dd e3 (by rw[e4];exact⟨v,H2,I2.tok _,e2,q2⟩)⟩
theorem JY{K:Fg}{th:Str->Int}:cV K .cl (getM th) (IQ K th):=λ{Z H x y dx dy d Q} s h1 h2 e kq=>by
 obtain⟨m,e1,e⟩:=b_.mp e;obtain⟨q,e2,e3⟩:=b_.mp e;cases kK e1;obtain⟨a,rfl,bs,vs,hc,hp,rr⟩:=h1.mp s;obtain⟨b,rfl,hq⟩:=iY s h2 e2;obtain⟨v,e4,e5⟩:=rr.look e3;exact⟨a,b,m.1,bs,vs,q,v,rfl,hc,hp.mono s,rfl,hq,e4,kq v Z H (Ex.refl s) e5⟩
theorem lT(hw:th=hashStr X.w)(hr:bF k X.A)(ha:PD X ga l fa)(hb:PD X gb r fb)(hs:Ke r:=by intro _ _;rfl):PD X .cl (.Subscript l r pos) (ar (getM th) fa fb):=by
 subst hw;exact PE.imp (GL (jA hr) ha hb hs) λ_ _ _ h=>i9 JY h
noncomputable def Ju(th:Str->Int)(neg:Bool)(x y:D):YQ:=(ft x).bind λq=>(EL th y).bind λm=>some (.bl (if neg then !decide (q∈m.1)else decide (q∈m.1)))
def Oa(K:Fg)(th:Str->Int)(neg:Bool):R2:=λx y H Q=>∃(b c:YH)(ks:YK)(bs:Ys)(vs:YR)(q:YL),x=.ref b/\cR K H b (q.map kV)/\y=.ref c/\H c=some (.ext (cb th c ks bs vs))/\ff K H ks bs/\Q (.bl (if neg then !decide (q∈ks)else decide (q∈ks))) H
theorem JL(hu:X.A.units+1<cLine)(neg:Bool):jf X (compareOp (if neg then .NotIn else .In)) (Oa X.K (hashStr X.w) neg):=by
 intro pins s σ H x y v u Q I rx ry h;obtain⟨b,c,ks,bs,vs,q,rfl,hq,rfl,hc,hp,qq⟩:=h;cases rx;cases ry;obtain⟨us,hv,h1,h2,dd,yG,hz⟩:=jX I hc hp;cases neg with
 | false=>
  refine wpAny_in_heap (Vs hu) (fK I hq) yG dd ?_;rw[xW q h1 h2];exact⟨.bl _,H,I.tok _,rfl,qq⟩
 | true=>
  refine wpAny_notIn_heap (Vs hu) (fK I hq) yG dd ?_;rw[xW q h1 h2];exact⟨.bl _,H,I.tok _,rfl,qq⟩
theorem Ng{K:Fg}{th:Str->Int}{neg:Bool}:cV K .cl (Ju th neg) (Oa K th neg):=λ{Z H x y dx dy d Q} s h1 h2 e kq=>by
 obtain⟨q,e1,e⟩:=b_.mp e;obtain⟨m,e2,e3⟩:=b_.mp e;cases e3;cases kK e2;obtain⟨b,rfl,hq⟩:=iY s h1 e1;obtain⟨c,rfl,bs,vs,hc,hp,rr⟩:=h2.mp s;exact⟨b,c,m.1,bs,vs,q,rfl,hq,rfl,hc,hp.mono s,kq _ Z H (Ex.refl s) rfl⟩
theorem IJ(hw:th=hashStr X.w)(hr:bF k X.A)(ha:PD X ga l fa)(hb:PD X gb r fb)(hm:behindInMarks .In r=false:=by rfl):PB X (.Compare l [.In] [r] pos) (fB (ar (Ju th false) fa fb)):=by
 subst hw;exact jv (JL (jA hr) false) Ng ha hb hm
end
section
variable {X:Cx}{rg:Gr}{l r:YI}{fa fb:Fe}{ga gb:Gr}{pos p:Pos}{k:Nat}
theorem Dz(hw:th=hashStr X.w):PD X .nm (.Dict [] [] pos) (fC (.mp th [] [])):=λpins s σ H Q I hT=>by
 subst hw;obtain⟨env,B,Z,d,R,e,k⟩:=hT;cases e;have hf:=I.hok.fresh (m_ s.sz);have hd:cb (hashStr X.w) s.sz [] [] [] (s.heap.push {cls:=.type "dict",data:=.dict #[]}):=⟨_,#[],0,[],o_ _ rfl,⟨rfl,rfl,rfl⟩,rfl,.nil,rfl,Wv,by have:=I.big;simpa using (UC this),by simp,rfl,rfl⟩;exact wpAny_Dict_empty ⟨.ref s.sz,_,I.laid (a:=s.sz) (o:=.ext (cb (hashStr X.w) s.sz [] [] [])) (t':=s.toks) (λ_ _ q=>d_ _ q) (m_ _) ⟨hd,⟨_,o_ _ rfl⟩,gW _ _ _ _ _⟩,rfl,
  k _ Z _ (Ex.newL R.zh hf) ⟨s.sz,_,[],[],rfl,rfl,hf,⟨[],[],au,λi p b h=>by simp at h,rfl⟩,R.zh.free hf⟩⟩
def setM(i:Nat)(f:Fe):Fs:=λenv=>(f env).bind λd=>match d with | .mp th ks ds=>some (.nx (env.set i (.O (.M th ks ds)))) | _=>none
theorem AH(h:Mg X.K rg (setM i f) E σ H):uN (T X.K .nm f) (my i) E σ H:=by
 obtain⟨env,B,Z,o,R,e,k⟩:=h;obtain⟨d,e1,e2⟩:=b_.mp e;cases d<;>cases e2;rename_i th ks ds;refine⟨env,B,Z,_,R,e1,λv Z' H' x g=>?_⟩;obtain⟨a,F7,uh,ds',rfl,e3,h1,⟨bs,vs,h2,hp,rr⟩,h3⟩:=g;cases e3;refine k _ Z' H' (x.part R.bh) ((R.ext x).setO i (R.bh.free h1) h3 h2 (show de X.K Z' a (.M th ks ds) _ from⟨bs,vs,rfl,hp,rr⟩) λj es hj hje Iw=>?_);obtain⟨y,e4,b,us,e5,e6,_⟩:=R.sl j _ hje;rw[Iw]at e4;cases e4;cases e5;rw[h1]at e6;cases e6
theorem tW(i:Nat)(he:PD X .nm e fe)(hN:X.N.Nodup)(hi:X.N[i]?=some x:=by rfl)(hx:Loc X.env.scope x:=by first | exact Or.inl rfl | exact Or.inr rfl)(hs:swapsWith e (some (.Name x pos')) pos.line X.env=pure false:=by rfl)
  (hf:@11:=by first | exact .inl rfl | exact .inr rfl | assumption):SD X rg (.Assign [.Name x pos'] e pos) (setM i fe):=PS.imp (iD hN hi hx he hs hf) λE σ H h=>AH h
def Dn(i:Nat):Fs:=λenv=>match env[i]? with
 | some (.O (.M th ks ds))=>some (.rt (.mp th ks ds))
 | _=>none
theorem Dc(i:Nat)(hN:X.N[i]?=some x:=by rfl)(hv:rm X.env.scope x:=by first | exact Or.inl rfl | exact Or.inr (Or.inl rfl) | exact Or.inr (Or.inr rfl))(hd:@9:=by decide)
  (fX:(x==("__classdict__":Str))=false:=by decide):SD X .nm (.Return (some (.Name x p)) pos) (Dn i):=PS.imp (rX (bK hN hv hd fX)) λE σ H az=>by
 obtain⟨env,B,Z,o,R,e,k⟩:=az;unfold Dn at e
 split at e
 .rename_i th ks ds hi;cases e;obtain⟨y,e1,a,o,e2,e3,e4,r⟩:=R.sl i _ hi;obtain⟨bs,vs,rfl,hp,rr⟩:=r;subst e2;exact⟨_,e1,k _ Z H ⟨R.bh,aO.refl _,R.zh,λ_ _ h=>h⟩ ⟨a,th,ks,ds,rfl,rfl,R.ob i _ a hi e1,⟨bs,vs,e3,hp,rr⟩,e4⟩⟩
 .cases e
def Nw(K:Fg)(th:Str->Int)(td ty tv:TE):TS:=λD σ H=>tv σ H λv H1=>td σ H1 λx H2=>ty σ H2 λy H3=>∃(a b:YH)(ks:YK)(bs:Ys)(vs:YR)(q:YL),x=.ref a/\y=.ref b/\H3 a=some (.ext (cb th a ks bs vs))/\ff K H3 ks bs/\cR K H3 b (q.map kV)/\ks.length<16000000/\
 (bs.length=ks.length->D.nx σ (upd H3 a (.ext (cb th a (jG ks q) (Ck ks bs q b) (k9 ks vs q v)))))
theorem map_set{pins σ H s}(hu:A.units+1<cLine)(I:@5)
  (hc:H a=some (.ext (cb (hashStr X.w) a ks bs vs))) (hp:ff X.K H ks bs) (hq:cR X.K H b (q.map kV)) (hl:ks.length<16000000) (rv:RelV v u)
  (h:∀s',bs.length=ks.length->Inv X pins σ (upd H a (.ext (cb (hashStr X.w) a (jG ks q) (Ck ks bs q b) (k9 ks vs q v)))) s'->Q () s'):wpAny @3 A (setItem (.ref a) (.ref b) u) Q E s:=by
 obtain⟨us,hv,h1,h2,dd,yG,hz⟩:=jX I hc hp;refine wpAny_setItem_heap (hsz:=by rw[kC h1 h2,UI];omega) (Vs hu) (fK I hq) dd λh' dd' hs'=>?_;rw[pA q b u h1 h2]at dd';have hnew:=yQ dd' (aB.put rv hv) (zX h1 q b) (sS h2 q u) yG (by have:=sd ks q;omega);have he:∃u,h'.get? a=some u:=by obtain⟨o,_,_,_,e,_⟩:=hnew;exact⟨o,e⟩
 exact h _ h1 (I.write (x:=a) (e:=a) (o:=.ext (cb (hashStr X.w) a (jG ks q) (Ck ks bs q b) (k9 ks vs q v))) (by rw[hc];exact True.intro) (.inl rfl) (λb u hb z=>(hs'.2 b hb).trans z) he ⟨hnew,he,gW _ _ _ _ _⟩)
theorem GN(hu:X.A.units+1<cLine)(ho:PE X o td)(hi:PE X i ty)(hv:PE X value tv)(hs:swapsWith value (some (.Subscript o i pos')) pos.line X.env=pure false) :
  PS X (.Assign [.Subscript o i pos'] value pos) (Nw X.K (hashStr X.w) td ty tv):=by
 intro pins s σ H D I h;refine wpAny_Assign_Subscript (bB (hv pins s σ H _ I h) λr s1 ⟨v,H1,I1,rv,q1⟩=>bB (ho pins s1 σ H1 _ I1 q1) λu s2 ⟨x,H2,I2,rx,q2⟩=>bB (hi pins s2 σ H2 _ I2 q2) λiv s3 az=>?_) hs;obtain⟨y,H3,I3,ry,a,b,ks,bs,vs,q,ex,ey,hc,hp,hq,hl,q3⟩:=az;subst ex ey;cases(show u=Value.ref a from rx);cases(show iv=Value.ref b from ry);exact map_set hu I3 hc hp hq hl rv λs4 z I4=>⟨σ,_,I4,q3 z⟩
open Classical in
noncomputable def Au(th:Str->Int)(i:Nat)(fv fk:Fe):Fs:=λenv=>(fv env).bind λd=>(fk env).bind λkd=>(ft kd).bind λq=>match env[i]? with
 | some (.O (.M F7 ks ds))=>if F7=th/\ks.length<16000000 then some (.nx (env.set i (.O (.M th (jG ks q) (k9 ks ds q d)))))else none
 | _=>none
open Classical in
theorem DW(i:Nat)(hw:th=hashStr X.w)(hr:bF k X.A)(hv:PD X .cl value fv)(hk:PD X .cl key fk)(hN:X.N[i]?=some x:=by rfl)(L0:rm X.env.scope x:=by first | exact Or.inl rfl | exact Or.inr (Or.inl rfl) | exact Or.inr (Or.inr rfl))
  (hd:@9:=by decide) (fX:(x==("__classdict__":Str))=false:=by decide)
  (hs:swapsWith value (some (.Subscript (.Name x px) key p2)) pos.line X.env=pure false:=by rfl) :
  SD X rg (.Assign [.Subscript (.Name x px) key p2] value pos) (Au th i fv fk):=by
 subst hw;refine PS.imp (GN (jA hr) (bK hN L0 hd fX) hk hv hs) λE σ H az=>?_;obtain⟨env,B,Z,o,R,e,kq⟩:=az;obtain⟨d,e1,e⟩:=b_.mp e;obtain⟨kd,e2,e⟩:=b_.mp e;obtain⟨q,e7,e⟩:=b_.mp e;refine⟨env,B,Z,d,R,e1,λv Z1 H1 x1 g1=>?_⟩
 split at e
 .rename_i F7 ks ds hi;obtain⟨⟨rfl,hlen⟩,rfl⟩:=qe e;have R1:=R.ext x1;obtain⟨y,e3,c,o,e4,e5,e6,bs,vs,rfl,hp,rr⟩:=R1.sl i _ hi;subst e4;refine⟨_,e3,env,B,Z1,kd,R1,e2,λkv Z2 H2 x2 g2=>?_⟩;have R2:=R1.ext x2;obtain⟨b,rfl,hq⟩:=iY x2.zh (show Gd X.K Z2 H1 H2 .cl kd kv from g2) e7;have RP:cR X.K Z2 b (q.map kV):=by
   cases kd<;>try cases e7
   obtain⟨b',P2,e8,tX,RQ⟩:=(show Rep X.K Z2 (.tup _) _ from g2);cases e8;rw[iJ RQ e7]at tX;exact tX
  refine⟨c,b,ks,bs,vs,q,rfl,rfl,x2.h _ _ e5,(hp.mono x2.z).mono x2.zh,hq,hlen,λhl=>?_⟩;obtain⟨R3,x3⟩:=R2.wr (es:=.M _ (jG ks q) (k9 ks ds q d)) hi e3 (show de X.K _ c (.M _ (jG ks q) (k9 ks ds q d)) _ from⟨_,_,rfl,ff.put (hp.mono x2.z) hl RP,av.put (Rep.mono x2.z d g1) (av.mono x2.z ds rr)⟩);exact kq σ _ _ (((x1.trans x2).part R.bh).transB x3) R3
 .cases e
end
section
variable {X:Cx}{rg:Gr}{l r:YI}{fa fb:Fe}{ga gb:Gr}{pos p:Pos}{k:Nat}
def SQ(K:Fg)(th:Str->Int)(H:Hp)(a:YH):Prop:=∃ks bs vs,H a=some (.ext (cb th a ks bs vs))/\ff K H ks bs
theorem EO{pins σ H s}(I:@5)(d:SQ X.K (hashStr X.w) H a):s.TypeIs (.ref a) "dict"/\(∀b,Value.ref a=.ref b->∃ob,s.heap.get? b=some ob/\ob.dict=none):=by
 obtain⟨ks,bs,vs,hc,hp⟩:=d;obtain⟨us,hv,h1,h2,dd,yG,hz⟩:=jX I hc hp;refine⟨dd.typeIs,λb q=>?_⟩;cases q;obtain⟨ob,_,_,e1,e2,_⟩:=dd;exact⟨ob,e1,e2.2.1⟩
def Lk(K:Fg)(th:Str->Int)(td ty tx:TE):TE:=λσ H Q=>td σ H λx H1=>∃a,x=.ref a/\SQ K th H1 a/\ty σ H1 λy H2=>tx σ H2 λz H3=>∃(b:YH)(ks:YK)(bs:Ys)(vs:YR)(q:YL),H3 a=some (.ext (cb th a ks bs vs))/\ff K H3 ks bs/\y=.ref b/\cR K H3 b (q.map kV)/\Q ((aN ks vs q).getD z) H3
theorem Cj(hu:X.A.units+1<cLine)(ho:PE X o td)(he:PE X e ty)(hf:PE X f tx)(m:M2 X o "get" apos e f bG):PE X (.Call (.Attribute o "get" apos) [e,f] [] bG) (Lk X.K (hashStr X.w) td ty tx):=by
 intro pins s σ H Q I h;refine wpAny_Call_method m.base m.few m.line PySem.F.plainAttrs_dict PySem.F.slot_dict_get PySem.F.type_dict_get (bB (ho pins s σ H _ I h) λu s1 az=>?_);obtain⟨x,H1,I1,rx,a,ex,d,q1⟩:=az;subst ex;obtain rfl:u=Value.ref a:=rx;obtain⟨t1,t2⟩:=EO I1 d;refine⟨t1,t2,?_⟩;rw[m.trees];refine W4 rfl (Calls.evalArgs_plain (WR (bB (he pins s1 σ H1 _ I1 q1) λiv s2 ⟨y,H2,I2,ry,q2⟩=>WR (bB (hf pins s2 σ H2 _ I2 q2) λfv s3 ⟨z,H3,I3,rz,b,ks,bs,vs,q,hc,hp,ey,hq,q3⟩=>XR ?_))));subst ey;obtain rfl:iv=Value.ref b:=ry;obtain⟨us,hv,h1,h2,dd,yG,hz⟩:=jX I3 hc hp;refine call_meetsIn PySem.F.slot_dict_get dd.typeIs PySem.F.entry_dict_get (PySem.F.args_dict_get_3 _ _ _) (meetsH_dict_get_default (tupleKind (aJ X.prog X.w)) a b yG fv) ⟨Vs hu,q,_,fK I3 hq,dd,⟨_,H3,I3.tok _,?_,q3⟩⟩;rw[nH q h1 h2];cases e:aN ks vs q with
 | none=>rw[aB.look0 hv e];exact rz
 | some v=>
  obtain⟨w',e1,e2⟩:=aB.look hv e;rw[e1];exact e2
noncomputable def zW(th:Str->Int)(fa fk fx:Fe):Fe:=λenv=>(fa env).bind λd=>(fk env).bind λkd=>(fx env).bind λx=>(EL th d).bind λm=>(ft kd).bind λq=>some ((aN m.1 m.2 q).getD x)
theorem Ii(hw:th=hashStr X.w)(hr:bF k X.A)(ha:PD X ga o fa)(hk:PD X gb e fk)(hx:PD X .cl f fx)
  (h1:attributeBase o "get" X.env (eval o X.env)=eval o X.env:=by rfl) (h2:((backTo bG (starEach [e,f] X.env)).all (λx=>!x.1)&&(backToKw bG (keywordEach [] X.env)).all (λx=>x.1.isSome)
   && decide (([e,f]:Yt).length+([]:List Keyword).length+(if([]:List Keyword).isEmpty then 0 else 1)<30))=true:=by rfl) (h3:(apos.endLine==bG.line)=true:=by rfl)
  (h4:backTo bG (starEach [e,f] X.env)=[(false,eval e X.env),(false,eval f X.env)]:=by rfl):PD X .cl (.Call (.Attribute o "get" apos) [e,f] [] bG) (zW th fa fk fx):=by
 subst hw;refine PE.imp (Cj (jA hr) ha hk hx ⟨h1,h2,h3,h4⟩) λσ H Q az=>?_;obtain⟨env,B,Z,d,R,e,kq⟩:=az;obtain⟨dm,e1,e⟩:=b_.mp e;obtain⟨kd,e2,e⟩:=b_.mp e;obtain⟨xd,e3,e⟩:=b_.mp e;obtain⟨m,e4,e⟩:=b_.mp e;obtain⟨q,e5,e⟩:=b_.mp e;cases e;cases kK e4;refine⟨env,B,Z,_,R,e1,λv Z1 H1 x1 g1=>?_⟩;obtain⟨a,rfl,bs,vs,hc,hp,rr⟩:=g1.mp x1.zh;refine⟨a,rfl,⟨m.1,bs,vs,hc,hp.mono x1.zh⟩,env,B,Z1,kd,R.ext x1,e2,λy Z2 H2 x2 g2=>⟨env,B,Z2,xd,(R.ext x1).ext x2,e3,λz Z3 H3 x3 g3=>?_⟩⟩;obtain⟨b,rfl,hq⟩:=iY x3.zh (Gd.later (H3:=H3) x3 g2) e5;refine⟨b,m.1,bs,vs,q,x3.h _ _ (x2.h _ _ hc),((hp.mono x2.z).mono x3.z).mono x3.zh,rfl,hq,?_⟩;have x0:=(x1.trans x2).trans x3;cases e6:aN m.1 m.2 q with
 | none=>
  have e7:aN m.1 vs q=none:=by
   cases e8:aN m.1 vs q with
   | none=>rfl
   | some v=>
    exfalso;have hm:q∈m.1:=by
     by_cases h:q∈m.1
     .exact h
     .rw[gp h]at e8;cases e8
    have hl:m.2.length=vs.length:=rr.len;have:∀{ks:YK}{ds:YO}{vs:YR},ds.length=vs.length->aN ks ds q=none->aN ks vs q=none:=by
     intro ks
     induction ks with
     | nil=>intro ds vs _ _;cases vs<;>rfl
     | cons k0 ks ih=>
      intro ds vs hl h;cases ds with
      | nil=>cases vs with
       | nil=>rfl
       | cons _ _=>simp at hl
      | cons d0 ds=>cases vs with
       | nil=>simp at hl
       | cons v0 vs=>
        unfold aN at h ⊢
        by_cases z:k0=q
        .rw[h_ z]at h;cases h
        .rw[i_ z]at h ⊢;exact ih (by simpa using hl) h
    rw[this hl e6]at e8;cases e8
  rw[e6]at kq;rw[e7];exact kq z Z3 H3 x0 g3
 | some d=>
  obtain⟨v,e7,e8⟩:=rr.look e6;rw[e6]at kq;rw[e7];exact kq v Z3 H3 x0 (Rep.mono (x2.z.trans x3.z) d e8)
end
def era(Z:Hp)(a:YH):Hp:=λb=>if b=a then none else Z b
theorem u4:era Z a a=none:=h_ rfl
theorem iM(h:b≠a):era Z a b=Z b:=i_ h
theorem G3{K:Fg}{Z:Hp}{a b:YH}{φ:YD->Prop}{vs:YR}(ha:Z a=some (.ext φ))(h:cR K Z b vs):cR K (era Z a) b vs:=by
 have ne:∀{o:HO},Z b=some o->(∀ψ,o≠.ext ψ)->b≠a:=λ{o} e n z=>by subst z;rw[ha]at e;cases e;exact n _ rfl
 rcases h with (h | ⟨o,h⟩) | h
 .exact .inl (.inl (by rw[iM (ne h (λ_ z=>by cases z))];exact h))
 .exact .inl (.inr ⟨o,by rw[iM (ne h (λ_ z=>by cases z))];exact h⟩)
 .exact .inr h
theorem Hq{K:Fg}{Z:Hp}{a b:YH}{φ:YD->Prop}{vs:YR}(ha:Z a=some (.ext φ))(h:cY K Z b vs):cY K (era Z a) b vs:=by
 have ne:∀{o:HO},Z b=some o->(∀ψ,o≠.ext ψ)->b≠a:=λ{o} e n z=>by subst z;rw[ha]at e;cases e;exact n _ rfl
 rcases h with (h | ⟨o,h⟩) | h
 .exact .inl (.inl (by rw[iM (ne h (λ_ z=>by cases z))];exact h))
 .exact .inl (.inr ⟨o,by rw[iM (ne h (λ_ z=>by cases z))];exact h⟩)
 .exact .inr h
mutual
theorem G9{K:Fg}{Z:Hp}{a:YH}{φ:YD->Prop}(ha:Z a=some (.ext φ)):∀(d:D){v:V},pl d=true->Rep K Z d v->Rep K (era Z a) d v
 | .non,_,_,h=>h
 | .bl _,_,_,h=>h
 | .int _,_,_,h=>h
 | .str _,_,_,h=>h
 | .tup ds,_,hp,⟨b,vs,e,q,r⟩=>⟨b,vs,e,G3 ha q,kW ha ds (by unfold pl at hp;exact hp) r⟩
 | .lst ds,_,hp,⟨b,vs,e,q,r⟩=>⟨b,vs,e,Hq ha q,kW ha ds (by unfold pl at hp;exact hp) r⟩
 | .dct _,_,hp,_=>by unfold pl at hp;cases hp
 | .st _,_,hp,_=>by unfold pl at hp;cases hp
 | .ln _,_,hp,_=>by unfold pl at hp;cases hp
 | .mp _ _ _,_,hp,_=>by unfold pl at hp;cases hp
theorem kW{K:Fg}{Z:Hp}{a:YH}{φ:YD->Prop}(ha:Z a=some (.ext φ)):∀(ds:YO){vs:YR},gf ds=true->av K Z ds vs->av K (era Z a) ds vs
 | [],_,_,h=>h
 | d::ds,_,hp,⟨v,r,e,h,q⟩=>by
  unfold gf at hp;rw[I_]at hp;exact⟨v,r,e,G9 ha d hp.1 h,kW ha ds hp.2 q⟩
end
theorem Rl.frzX{K:Fg}{B Z H:Hp}{env:En}{σ:L2.St}{w:wN}(R:Rl K B Z H env σ){i:Nat}{a:YH}{o:HO}(hi:env[i]?=some (.O w))(hs:σ[i]?=some (some (.ref a)))(ho:H a=some o)(hz:Z a=none)(r:de K Z a w o):Rl K B (upd Z a o) H (env.set i (.F w.d)) σ:=by
 have hb:=R.ob i w a hi hs;have hl:i<env.length:=(k_.mp hi).1;have s1:aO Z (upd Z a o):=cj hz;have s2:aO (upd Z a o) H:=oK R.zh ho;have Iu:∀{j:Nat}{es:wN},(env.set i (.F w.d))[j]?=some (.O es)->i≠j:=λ{j es} h z=>by
  subst z;rw[r_ hl]at h;cases h
 refine⟨R.bh,s2,by simp[R.len],λj s h=>?_,λj fs b h h2=>?_,λj k fs gs b hne h1 h2 h3 h4=>?_⟩
 .by_cases hj:i=j
  .subst hj;rw[r_ hl]at h;cases h;exact⟨_,hs,_,rfl,(r.mono s1).rep au⟩
  .rw[j_ hj]at h;obtain⟨y,e4,q⟩:=R.sl j s h;refine⟨y,e4,?_⟩;cases s with
   | un=>trivial
   | F d=>obtain⟨v,e5,q⟩:=q;exact⟨v,e5,Rep.mono s1 d q⟩
   | O fs=>
    obtain⟨b,us',e5,e6,e7,q⟩:=q;refine⟨b,us',e5,e6,?_,q.mono s1⟩;rw[ax (λz=>?_)]
    .exact e7
    .subst z;subst e5;exact R.ap i j w fs b hj hi h hs e4
 .have n:=Iu h;rw[j_ n]at h;exact R.ob j fs b h h2
 .have n1:=Iu h1;have n2:=Iu h2;rw[j_ n1]at h1;rw[j_ n2]at h2;exact R.ap j k fs gs b hne h1 h2 h3 h4
theorem Ex.unfrz(hz:Z a=none)(ha:H a=some o)(x:Ex (upd Z a o) H Z' H'):Ex Z H (era Z' a) H':=by
 refine⟨x.h,λb u e=>?_,λb u e=>?_,λb hb e=>?_⟩
 .have hne:b≠a:=λz=>by subst z;rw[hz]at e;cases e
  rw[iM hne];exact x.z b u (by rw[ax hne];exact e)
 .by_cases hne:b=a
  .subst hne;rw[u4]at e;cases e
  .rw[iM hne]at e;exact x.zh b u e
 .by_cases hne:b=a
  .subst hne;exact u4
  .rw[iM hne];exact x.fr b hb (by rw[ax hne];exact e)
section
variable {X:Cx}{e:YI}{f:Fe}
def Gc(i:Nat)(f:Fe):Fe:=λenv=>match env[i]? with
 | some (.O (.M th ks ds))=>(f (env.set i (.F (.mp th ks ds)))).bind λd=>if pl d=true then some d else none
 | _=>none
end
section
variable {prog:YB}{w:YE}{A:YC}{E:Yh}{s:YA}{it d:YH}{i n ep:Nat}{es:Array DictEntry}{od:Obj}{y z:Yz}
theorem Dp(hi:IsItemIter s.heap it d i n ep y z)(h1:s.heap.get? d=some od)(h2:od.data=.dict es ep)(hn:es.size=n)(hx:es[i]?=some en)
  (k:∀g,IsItemIterOut g it d (i+1) n ep en.key en.val s.sz->g.get? s.sz=some {cls:=.type "tuple",data:=.seq #[en.key,en.val]}->g.objs.size=s.sz+1->
   (∀b o,b≠it->s.heap.get? b=some o->g.get? b=some o)->Q (some (.ref s.sz)) {s with heap:=g}):wpAny @7 A (pyNext (.ref it)) Q E s:=by
 subst hn;obtain⟨h0,gs,dr,tk,os⟩:=s;have ty:∀{g:YD}{j:Nat}{u v:Yz},IsItemIter g it d j es.size ep u v->Shared.TypeIs ⟨g,gs,dr,tk,os⟩ (.ref it) "dict_itemiterator":=λq=>⟨_,q,rfl⟩;have own:Builtin.Dict_items.ownsTuple "dict_itemiterator"=true:=by decide
 have lt:i<es.size:=(U1.mp hx).1;unfold pyNext;refine a_ (VV (UM (name:="__next__") (ty hi) U5 (UJ U5 (ty hi) F.entry_dict_itemiterator_next (a_ (e_ (a_ (a_ ?_)))) (Xa _))))
 first | refine a_ (VI (ty hi) (e_ (a_ (XG hi rfl ?_)))) | refine a_ (V1 (ty hi) (e_ (a_ (XG hi rfl ?_))))
 simp only[own,Vy];show wpAny _ _ (if(Value.ref d==Value.none)=true then _ else _) _ _ _;rw[i_ (show ¬((Value.ref d==Value.none)=true)from by intro q;cases q)];refine a_ (e_ (a_ (XY h1 h2 ?_)));rw[i_ @8];refine a_ (e_ (a_ (wpAny_dictEpoch h1 h2 ?_)));rw[i_ @8];refine e_ ?_;simp only[show ¬((i:Int)<0)from by omega,UU,Vc,hx];refine a_ ?_
 first | refine a_ (VI (ty hi) (e_ (a_ (Wl (ty hi) ?_)))) | refine a_ (V1 (ty hi) (e_ (a_ (Wl (ty hi) ?_))))
 show wpAny _ _ (setField (.ref it) 3 (rawInt ((i:Int)+1)) >>= _) _ _ ⟨h0,gs,dr,tk,os⟩;refine a_ (P_ hi @8 λg1 e1 s1=>?_);have j1:IsItemIter g1 it d (i+1) es.size ep y z:=by
  have q:((i+1:Nat):Int)=(i:Int)+1:=by omega
  unfold IsItemIter;rw[q];simpa [rawInt]using e1
 have z1:g1.objs.size=h0.objs.size:=s1.1;have k1:∀b o,b≠it->h0.get? b=some o->g1.get? b=some o:=λb o hb q=>s1.extBut b o hb q;clear e1 s1;refine a_ (F_ (a_ (Wl (ty j1) (a_ (Wl (ty j1) ?_)))));show wpAny _ _ (Builtin.Dict_items.pairFromOwner (.ref it) 6 en.key en.val) _ _ ⟨g1,gs,dr,tk,os⟩;unfold Builtin.Dict_items.pairFromOwner;refine a_ (XE ?_);have il:it<h0.objs.size:=n_ hi;have ne:h0.objs.size≠it:=UC il;have j2:IsItemIter (g1.push {cls:=.type "tuple",data:=.seq #[en.key,en.val]}) it d (i+1) es.size ep y z:=d_ _ j1;have t2:=o_ g1 (o:={cls:=.type "tuple",data:=.seq #[en.key,en.val]}) rfl;have z2:(g1.push {cls:=.type "tuple",data:=.seq #[en.key,en.val]}).objs.size=h0.objs.size+1:=by rw[UP,z1]
 have k2:∀b o,b≠it->h0.get? b=some o->(g1.push {cls:=.type "tuple",data:=.seq #[en.key,en.val]}).get? b=some o:=λb o hb q=>d_ _ (k1 b o hb q);rw[z1]at t2;show wpAny _ _ (Builtin.Dict_items.ownedTupleIsFree (.ref it) >>= _) _ _ ⟨g1.push {cls:=.type "tuple",data:=.seq #[en.key,en.val]},gs,dr,tk,os⟩;rw[z1];generalize g1.push {cls:=.type "tuple",data:=.seq #[en.key,en.val]}=g2 at j2 t2 z2 k2 ⊢;unfold Builtin.Dict_items.ownedTupleIsFree;refine a_ (a_ (K_ j2 rfl (x:=.none) rfl (e_ ?_)));simp only[Vy];refine a_ (K_ j2 rfl (x:=y) rfl (a_ (K_ j2 rfl (x:=z) rfl (a_ (P_ j2 @8 λg3 e3 s3=>?_)))));have j3:IsItemIter g3 it d (i+1) es.size ep en.key z:=e3;refine a_ (P_ j3 @8 λg4 e4 s4=>?_);have j4:IsItemIter g4 it d (i+1) es.size ep en.key en.val:=e4;refine a_ (P_ j4 @8 λg5 e5 s5=>?_);have j5:IsItemIterOut g5 it d (i+1) es.size ep en.key en.val h0.objs.size:=e5;refine a_ (P_ j5 @8 λg6 e6 s6=>?_);have up:∀b o,b≠it->g2.get? b=some o->g6.get? b=some o:=λb o hb q=>s6.extBut b o hb (s5.extBut b o hb (s4.extBut b o hb (s3.extBut b o hb q)));have zz:g6.objs.size=h0.objs.size+1:=by rw[s6.1,s5.1,s4.1,s3.1];exact z2
 exact a_ (WY (e_ (e_ ⟨_,rfl,e_ (k g6 e6 (up _ _ ne t2) zz λb o hb q=>up b o hb (k2 b o hb q))⟩)))
theorem Ea(hh:A.handled=none)(hi:IsItemIter s.heap it d i n ep y z)(h1:s.heap.get? d=some od)(h2:od.data=.dict es ep)(hn:es.size=n)(hx:es.size<=i)
  (k:∀g,Heap.ExtBut it s.heap g->Q none {s with heap:=g}):wpAny @7 A (pyNext (.ref it)) Q E s:=by
 subst hn;have ty:s.TypeIs (.ref it) "dict_itemiterator":=⟨_,hi,rfl⟩;have own:Builtin.Dict_items.ownsTuple "dict_itemiterator"=true:=by decide
 unfold pyNext;refine a_ (VV (UM (name:="__next__") ty U5 (UJ U5 ty F.entry_dict_itemiterator_next (a_ (e_ (a_ (a_ ?_)))) (Xa _))))
 first | refine a_ (VI ty (e_ (a_ (XG hi rfl ?_)))) | refine a_ (V1 ty (e_ (a_ (XG hi rfl ?_))))
 simp only[own,Vy];show wpAny _ _ (if(Value.ref d==Value.none)=true then _ else _) _ _ s;rw[i_ (show ¬((Value.ref d==Value.none)=true)from by intro q;cases q)];refine a_ (e_ (a_ (XY h1 h2 ?_)));rw[i_ @8];refine a_ (e_ (a_ (wpAny_dictEpoch h1 h2 ?_)));rw[i_ @8];refine e_ ?_;simp only[show ¬((i:Int)<0)from by omega,UU,Vc,Array.getElem?_eq_none hx];refine a_ ?_
 first | refine a_ (VI ty (e_ ?_)) | refine a_ (V1 ty (e_ ?_))
 show wpAny _ _ (setField (.ref it) 2 .none >>= _) _ _ s;refine a_ (We hi rfl @8 ?_);show wpAny _ _ (newExc (.type "StopIteration") [] >>= _) _ _ _;simp only[newExc,newTuple];refine a_ (a_ (Vd (a_ (m:=firstArgMember _ _) (XW (a:=Value.none) (by first | rfl | (simp only[firstArgMember];rfl)) (Vd ?_ (by size_fits)))) (by size_fits)));simp only[raiseNew];refine a_ (wpAny_handled ?_);rw[show A.in1.handled=none from hh];refine a_ (e_ (wpAny_throw ?_));exact a_ (Xm (T:="StopIteration") (b:=true) ⟨_,o_ _ rfl,rfl⟩ XF (e_ (k _ (((V9 ..).extBut.push _).push _))))
theorem Fz(hd:(d==sysModules)=false)(h1:s.heap.get? d=some od)(hx:od.ExactDict)
  (k:Q (.ref s.sz) {s with heap:=s.heap.push {cls:=.type "dict_items",data:=.fields #[.ref d]}}):wpAny @7 A (call (.builtin "dict.items") [.ref d]) Q E s:=by
 have ty:s.TypeIs (.ref d) "dict":=⟨od,h1,hx.1⟩;refine UJ F.slot_dict_items ty F.entry_dict_items ?_ (F.args_dict_items_1 _);unfold Builtin.«dict.items» Builtin.Dict.noArgs;refine a_ (a_ (wpAny_notOrdered_dict ty ?_));show wpAny _ _ (pure d) _ _ s;refine e_ ?_;show wpAny _ _ (Builtin.Dict.showsAll d >>= _) _ _ s;unfold Builtin.Dict.showsAll;rw[i_ (by rw[hd];exact UY)];exact a_ (e_ (a_ (Vd (e_ ⟨_,rfl,k⟩))))
theorem DS(hv:s.heap.IsItemsView v d)(h1:s.heap.get? d=some od)(h2:od.data=.dict es ep)
  (k:Q (.ref s.sz) {s with heap:=s.heap.push {cls:=.type "dict_itemiterator",data:=.fields #[.none,.bool false,.ref d,.int 0 0,.int es.size 0,.int ep 0,.none,.none]}}):wpAny @7 A (pyIter (.ref v)) Q E s:=by
 obtain⟨ov,e1,_,e2⟩:=id hv;refine wpAny_pyIter_slot hv.typeIs F.slot_dict_items_iter (UJ F.slot_dict_items_iter hv.typeIs F.entry_dict_items_iter ?_ (F.args_dict_items_iter_1 _));unfold Builtin.«dict_items.__iter__» Builtin.Dict_items.dictOf Builtin.Dict_items.newIterator;refine a_ (e_ (a_ (a_ (K_ e1 e2 (x:=.ref d) rfl (e_ (a_ (a_ (XY h1 h2 (a_ (wpAny_dictEpoch h1 h2 ?_))))))))));have own:Builtin.Dict_items.ownsTuple "dict_itemiterator"=true:=by decide
 simp only[own,Vy];refine Vd (e_ ⟨_,rfl,"dict_itemiterator",_,⟨_,o_ _ rfl,rfl⟩,U5.lookup,?_⟩)
  (by simp only[sizeOk,Builtin.Dict_items.ownedTupleFields,s_,u_,v_,T_,UI];omega)
 simpa [rawInt,Builtin.Dict_items.ownedTupleFields]using k
end
def nC(th:Str->Int)(a:YH)(ep:Nat)(ks:YK)(bs:Ys)(vs:YR)(h:YD):Prop:=
 ∃o es us,h.get? a=some o/\o.ExactDict/\o.data=.dict es ep/\aB vs us/\es.toList=(ij ks bs us).map (Ei th)/\bs.length=ks.length/\us.length=ks.length
theorem xu(th:Str->Int)(a:YH)(ep:Nat)(ks:YK)(bs:Ys)(vs:YR):∀h1 h2:YD,nC th a ep ks bs vs h1->(∀o,h1.get? a=some o->h2.get? a=some o)->nC th a ep ks bs vs h2:=λh1 h2 ⟨o,es,us,e,r⟩ k=>⟨o,es,us,k o e,r⟩
def Itm(o0:HO)(a:YH)(bs:Ys)(vs:YR):It:=
 ⟨λi H=>H a=some o0/\i<bs.length,λi H x H'=>∃q,H q=none/\x=.ref q/\∀b v,bs[i]?=some b->vs[i]?=some v->H'=upd H q (.tup [.ref b,v]),λi H=>H a=some o0/\bs.length<=i⟩
theorem Hh{ks:YK}{bs:Ys}{us:Yo}(h1:bs.length=ks.length)(h2:us.length=ks.length){i:Nat}{b:YH}{u:Yz}(hb:bs[i]?=some b)(hu:us[i]?=some u):∃k,ks[i]?=some k/\(ij ks bs us)[i]?=some (k,b,u):=by
 have hi:i<ks.length:=by rw[<- h1];exact(k_.mp hb).1
 refine⟨ks[i],by simp[hi],?_⟩;exact Vl.mpr ⟨by simp[hi],Vl.mpr ⟨hb,hu⟩⟩
theorem AB:entryFor table "dict_itemiterator.__iter__"=some Builtin.«dict_keyiterator.__iter__»:=entryFor_alias (id':="dict_keyiterator.__iter__") (by kernel_rfl) rfl (by decide +kernel) (by kernel_rfl)
theorem AW{h:YD}{o o':Obj}{c:YH}(q:(h.push o).get? c=some o')(hc:c≠h.objs.size):h.get? c=some o':=by
 have hl:c<h.objs.size+1:=by have:=n_ q;rwa [UP]at this
 have ix:c<h.objs.size:=Nat.lt_of_le_of_ne (Nat.le_of_lt_succ hl) hc;unfold Heap.get? Heap.push at q;unfold Heap.get?;simpa [Array.getElem?_push_lt ix,V0 ix]using q
theorem yx{P:YB}{w:YE}{K:Fg}{xs:Yt}{kk:Nat}{pos:Pos}{it a:YH}{th:Str->Int}{ep:Nat}{ks:YK}{bs:Ys}{vs:YR} :
  Turn P w K (.Tuple xs kk pos) (Itm (.ext (nC th a ep ks bs vs)) a bs vs) [it] it (λn h=>∃y z,IsItemIter h it a n ks.length ep y z) where
 mem:=by simp
 obj:=λn h ⟨y,z,he⟩ c hc=>by
  simp only[p_,UL,V5]at hc;subst hc;exact⟨_,he,λv q=>by cases q⟩
 keep:=λn h h' ⟨y,z,he⟩ kk=>⟨y,z,kk it @8 _ he⟩
 item:=by
  intro X hP hw hK hc n pins s σ H E I hf st hg;subst hP hw;obtain⟨y,z,he⟩:=st;obtain⟨ha,hn⟩:=hg;obtain⟨⟨od,es,us,e1,e2,e3,hv,e4,l1,l2⟩,_⟩:=(show bE X.prog X.w H s.heap a (.ext (nC th a ep ks bs vs))from I.hok a _ ha);have lv:=aB.length hv;have hb:bs[n]?=some bs[n]:=by simp[hn]
  have hu:us[n]?=some (us[n]'@1):=by simp[show n<us.length by omega]
  have TJ:vs[n]?=some (vs[n]'@1):=by simp[show n<vs.length by omega]
  obtain⟨k,hk,hrow⟩:=Hh l1 l2 hb hu;obtain⟨u',LP,ru⟩:=aB.get hv TJ;rw[hu]at LP;have hsz:es.size=ks.length:=by rw[<- U7,e4,c_,kC l1 l2]
  have hen:es[n]?=some (Ei th (k,bs[n],us[n]'@1)):=by rw[<- Xe,e4,x_,hrow];rfl
  have hT:H s.sz=none:=I.hok.fresh (m_ _);have ne:it<s.sz:=n_ he;refine Dp he e1 e3 hsz hen λg b1 b2 b3 b4=>⟨_,rfl,wpAny_letOwnedTupleGo_items b1 λg2 c1 c2=>?_⟩;have I1:L2.Inv X pins σ (upd H s.sz (.tup [.ref bs[n],vs[n]'@1])) {s with heap:=s.heap.push {cls:=.type "tuple",data:=.seq #[.ref bs[n],us[n]'(by omega)]},toks:=s.toks}:=
   I.laid (t':=s.toks) (λc o q=>d_ _ q) (m_ _) (show bE X.prog X.w _ _ _ (.tup [.ref bs[n],vs[n]'@1])from⟨by have:=UI;simp;omega,[.ref bs[n],us[n]'@1],.cons rfl (.cons (by cases LP;exact ru) .nil),IsTup.new _ _⟩)
  have fz:∀c∈[it],fS X pins (upd H s.sz (.tup [.ref bs[n],vs[n]'@1])) c:=λc hc=>by
   have hc':c=it:=by simpa using hc
   exact⟨by rw[hc',ax (A_ ne)];exact(hf it @8).1,(hf c hc).2⟩
  have I2:L2.Inv X pins σ (upd H s.sz (.tup [.ref bs[n],vs[n]'@1])) {s with heap:=g2,toks:=s.toks}:=jd (s:={s with heap:=s.heap.push {cls:=.type "tuple",data:=.seq #[.ref bs[n],us[n]'(by omega)]},toks:=s.toks}) (h':=g2) (t':=s.toks) (ch:=[it]) I1 fz λc o hc q=>by
   have TK:c≠it:=λz=>hc (by simp[z]);refine c2.extBut c o TK ?_
   by_cases O':c=s.sz
   .subst O';have e5:=o_ s.heap (o:={cls:=.type "tuple",data:=.seq #[.ref bs[n],us[n]'@1]}) rfl;rw[e5]at q;cases q;exact b2
   .exact b4 c o TK (AW q O')
  refine⟨.ref s.sz,_,I2,rfl,⟨s.sz,hT,rfl,λb v p1 p2=>?_⟩,⟨_,_,c1⟩,λc hc=>(fz c hc).1⟩;rw[hb]at p1;cases p1;rw[TJ]at p2;cases p2
  rfl
 done:=by
  intro X hP hw hK hc n pins s σ H E I hf st hg;subst hP hw;obtain⟨y,z,he⟩:=st;obtain⟨ha,hn⟩:=hg;obtain⟨⟨od,es,us,e1,e2,e3,hv,e4,l1,l2⟩,_⟩:=(show bE X.prog X.w H s.heap a (.ext (nC th a ep ks bs vs))from I.hok a _ ha);have hsz:es.size=ks.length:=by rw[<- U7,e4,c_,kC l1 l2]
  refine Ea (I.ok.hd hc) he e1 e3 hsz @1 λg kk=>⟨rfl,?_⟩;exact jd (t':=s.toks) (ch:=[it]) I hf λc o hc q=>kk c o (λz=>hc (by simp[z])) q
 self:=λA n s Q E ⟨y,z,he⟩ h=>by
  have ty:s.TypeIs (.ref it) "dict_itemiterator":=⟨_,he,rfl⟩;refine wpAny_pyIter_slot ty F.slot_dict_itemiterator_iter (UJ F.slot_dict_itemiterator_iter ty AB ?_ (F.args_dict_itemiterator_iter_1 _));show wpAny _ _ (ret (.ref it)) _ _ s;exact e_ ⟨_,rfl,"dict_itemiterator",_,ty,U5.lookup,h⟩
section
variable {X:Cx}{es:Yt}{kk:Nat}{tp:Pos}
def QR(K:Fg)(th:Str->Int)(td:TE):TI:=λσ H R=>td σ H λx H1=>∃(a:YH)(ks:YK)(bs:Ys)(vs:YR),x=.ref a/\H1 a=some (.ext (cb th a ks bs vs))/\ff K H1 ks bs/\(bs.length=ks.length->∀ep,R (Itm (.ext (nC th a ep ks bs vs)) a bs vs) (upd H1 a (.ext (nC th a ep ks bs vs))))
theorem DL{o:YI}{td:TE}{apos bG:Pos}(ho:PE X o td)(gC:attributeBase o "items" X.env (eval o X.env)=eval o X.env:=by rfl)(gD:(apos.endLine==bG.line)=true:=by rfl):PI X (.Tuple es kk tp) (.Call (.Attribute o "items" apos) [] [] bG) (QR X.K (hashStr X.w) td):=by
 intro pins s σ H R I h;refine wpAny_Call_method0_late gC gD (bB (ho pins s σ H _ I h) λu s1 az=>?_);obtain⟨x,H1,I1,rx,a,ks,bs,vs,ex,hc,hp,q1⟩:=az;subst ex;obtain rfl:u=Value.ref a:=rx;obtain⟨t1,t2⟩:=EO I1 ⟨ks,bs,vs,hc,hp⟩;obtain⟨o1,TM,ep,us,e1,e2,e3,hv,e4,e5,e6,e7,l1,l2⟩:=(show bE X.prog X.w H1 s1.heap a (.ext (cb (hashStr X.w) a ks bs vs))from I1.hok a _ hc).1;have hE:nC (hashStr X.w) a ep ks bs vs s1.heap:=⟨o1,TM,us,e1,e2,e3,hv,e4,l1,l2⟩;refine⟨"dict","dict.items",PySem.F.plainAttrs_dict,PySem.F.slot_dict_items,PySem.F.type_dict_items,t1,t2,W4 rfl (PySem.evalArgs_none (Fz e6 e1 e2 ?_))⟩;have hz:TM.size=ks.length:=by rw[<- U7,e4,c_,kC l1 l2]
 refine DS (d:=a) (ep:=ep) (es:=TM) (od:=o1) ⟨_,o_ _ rfl,rfl,rfl⟩ (d_ _ e1) e3 ?_;have I2:Inv X pins σ (upd H1 a (.ext (nC (hashStr X.w) a ep ks bs vs))) {s1 with heap:=s1.heap,toks:=s1.toks}:=I1.write (x:=a) (e:=a) (t':=s1.toks) (by rw[hc];exact True.intro) (.inl rfl) (λb u _ z=>z) ⟨o1,e1⟩ ⟨hE,⟨o1,e1⟩,xu _ _ _ _ _ _⟩;have up:∀b o,s1.heap.get? b=some o->((s1.heap.push {cls:=.type "dict_items",data:=.fields #[.ref a]}).push {cls:=.type "dict_itemiterator",data:=.fields #[.none,.bool false,.ref a,.int 0 0,.int TM.size 0,.int ep 0,.none,.none]}).get? b=some o:=λb o e=>d_ _ (d_ _ e);have I3:=I2.kept (t':=s1.toks) up;have sz:(s1.heap.push {cls:=.type "dict_items",data:=.fields #[.ref a]}).objs.size=s1.sz+1:=UP ..;refine⟨_,[(s1.heap.push {cls:=.type "dict_items",data:=.fields #[.ref a]}).objs.size],_,_,_,rfl,I3,yx,⟨.none,.none,?_⟩,λb hb=>?_,q1 l1 ep⟩
 .have:=o_ (s1.heap.push {cls:=.type "dict_items",data:=.fields #[.ref a]}) (o:={cls:=.type "dict_itemiterator",data:=.fields #[.none,.bool false,.ref a,.int 0 0,.int TM.size 0,.int ep 0,.none,.none]}) rfl;rw[hz]at this ⊢;exact this
 .have hb':b=(s1.heap.push {cls:=.type "dict_items",data:=.fields #[.ref a]}).objs.size:=by simpa using hb
  have hle:s1.sz<=b:=by rw[hb',sz];exact WX _
  exact I2.fpOk hle (I2.hok.fresh hle)
end
def kD:Key->D
 | .inl i=>.int i
 | .inr x=>.str x
def F3(k:YL):Bool:=k.all λx=>match x with | .inl _=>true | .inr x=>PyData.strOk x
theorem rG{K:Fg}{H:Hp}:∀{k:YL},F3 k=true->av K H (k.map kD) (k.map kV)
 | [],_=>rfl
 | .inl i::k,h=>⟨_,_,rfl,rfl,rG (k:=k) (by unfold F3 at h ⊢;simpa using h)⟩
 | .inr x::k,h=>by
  unfold F3 at h;rw[List.all_cons,I_]at h;exact⟨_,_,rfl,⟨rfl,h.1⟩,rG (k:=k) h.2⟩
def eY:YK->YO->YO
 | k::ks,d::ds=>.tup [.tup (k.map kD),d]::eY ks ds
 | _,_=>[]
theorem pz:∀{ks:YK}{ds:YO},ds.length=ks.length->(eY ks ds).length=ks.length
 | [],[],_=>rfl
 | [],_::_,h=>by simp at h
 | _::_,[],h=>by simp at h
 | k::ks,d::ds,h=>by simp[eY,pz (ks:=ks) (ds:=ds) (by simpa using h)]
theorem oJ:∀{ks:YK}{ds:YO}{i:Nat}{k:YL}{d:D},ks[i]?=some k->ds[i]?=some d->(eY ks ds)[i]?=some (.tup [.tup (k.map kD),d])
 | [],_,_,_,_,h,_=>by simp at h
 | _::_,[],_,_,_,_,h=>by simp at h
 | k::ks,d::ds,0,_,_,h1,h2=>by cases h1;cases h2;rfl
 | k::ks,d::ds,i+1,_,_,h1,h2=>by
  show(eY ks ds)[i]?=_;exact oJ (by simpa using h1) (by simpa using h2)
noncomputable def Px(th:Str->Int)(f:Fe):Fi:=λenv=>(f env).bind λd=>(EL th d).bind λm=>if(m.1.all F3&&decide (m.2.length=m.1.length))=true then some (eY m.1 m.2)else none
theorem yj{K:Fg}{Z1:Hp}{o0:HO}{a:YH}{ks:YK}{bs:Ys}{ds:YO}{vs:YR}(ho:Z1 a=some o0)(hp:ff K Z1 ks bs)(hl:bs.length=ks.length)(hd:ds.length=ks.length)(r:av K Z1 ds vs)(hk:ks.all F3=true) :
  Walk K Z1 (eY ks ds) (Itm o0 a bs vs):=λZ' H' s1 s2 i=>by
 have ha:=(s1.trans s2) _ _ ho;rw[pz hd];refine⟨λhi=>⟨⟨ha,by omega⟩,λx H'' az=>?_⟩,λhi=>⟨ha,by omega⟩⟩;obtain⟨q,hq,e,hy⟩:=az;subst e;have hb:bs[i]?=some (bs[i]'@1):=by simp[show i<bs.length by omega]
 have Ip:ks[i]?=some ks[i]:=by simp[hi]
 have TN:ds[i]?=some (ds[i]'@1):=by simp[show i<ds.length by omega]
 obtain⟨v,e1,r1⟩:=r.get TN;have e2:=hy _ _ hb e1;subst e2;have s3:aO Z' (upd Z' q (.tup [.ref (bs[i]'@1),v])):=cj (s2.free hq);have ok:F3 ks[i]=true:=U3.mp hk _ (Wa hi);refine⟨_,_,Ex.new s2 hq,oJ Ip TN,q,_,rfl,cR.of au,av.mono s3 _ ⟨_,_,rfl,⟨_,_,rfl,eo s1 (hp i _ _ Ip hb),rG ok⟩,_,_,rfl,Rep.mono s1 _ r1,rfl⟩⟩
section
variable {X:Cx}{es:Yt}{kk:Nat}{tp:Pos}
theorem HP(hw:th=hashStr X.w)(h:PD X .nm o f)(gC:attributeBase o "items" X.env (eval o X.env)=eval o X.env:=by rfl)(gD:(apos.endLine==bG.line)=true:=by rfl) :
  ID X (.Tuple es kk tp) (.Call (.Attribute o "items" apos) [] [] bG) (Px th f):=by
 subst hw;refine PI.imp (DL h gC gD) λσ H R az=>?_;obtain⟨env,B,Z,ds,Rr,e,k⟩:=az;obtain⟨d,e1,e⟩:=b_.mp e;obtain⟨m,e2,e⟩:=b_.mp e;obtain⟨hk,rfl⟩:=qe e;rw[I_,w_]at hk;cases kK e2;refine⟨env,B,Z,_,Rr,e1,λv Z1 H1 x1 g1=>?_⟩;obtain⟨a,F7,uh,ds',rfl,e3,h1,⟨bs,vs,h2,hp,r⟩,h3⟩:=g1;cases e3;refine⟨a,m.1,bs,vs,rfl,h2,hp.mono x1.zh,λhl ep=>?_⟩;have s1:aO Z1 (upd Z1 a (.ext (nC (hashStr X.w) a ep m.1 bs vs))):=cj h3;refine k _ (upd Z1 a (.ext (nC (hashStr X.w) a ep m.1 bs vs))) _ ⟨λb u q=>?_,x1.z.trans s1,λb u q=>?_,λb hb q=>?_⟩ (yj au (hp.mono s1) hl hk.2 (av.mono s1 _ r) hk.1)
 .rw[ax (λz=>by subst z;rw[h1]at q;cases q)];exact x1.h b u q
 .by_cases z:b=a
  .subst z;rw[au]at q ⊢;exact q
  .rw[ax z]at q ⊢;exact x1.zh b u q
 .rw[ax (λz=>hb (by rw[z];exact h1))];exact x1.fr b hb q
end
def Aw(m:YK×YO)(q:YL)(d:D):YK×YO:=(jG m.1 q,k9 m.1 m.2 q d)
def foldM(m:YK×YO):YO->Option (YK×YO)
 | []=>some m
 | .tup [k,v]::r=>(ft k).bind λq=>foldM (Aw m q v) r
 | _::_=>none
theorem qR:∀{xs:YO}{m m':YK×YO}{k v:D}{q:YL},foldM m xs=some m'->ft k=some q->foldM m (xs++[.tup [k,v]])=some (Aw m' q v)
 | [],m,m',k,v,q,h,hk=>by
  cases h;show(ft k).bind _=_;rw[hk];rfl
 | x::r,m,m',k,v,q,h,hk=>by
  unfold foldM at h
  split at h
  .rename_i e;cases e
  .rename_i k' v' r' e;cases e;obtain⟨q',h1,h2⟩:=b_.mp h;show(ft k').bind _=_;rw[h1];exact qR h2 hk
  .cases h
section
variable {kx vx:YI}{gens:Yn}{scope:YG}{pos:Pos}{d:Nat}{tg iter:YI}{ifs:Yt}{it:Yz}{a:YH}{env:Env}
theorem wZ(h:gens[d]?=some ⟨tg,iter,ifs,0⟩)(h2:gens[d+1]?=none):compTurn (.DictComp kx vx gens scope pos) d it (.ref a) env=zD (.DictComp kx vx gens scope pos) tg iter ifs d it (.ref a) env (do let kv <- eval kx env;let vv <- holding [kv] (eval vx env);standAt {kx.pos with endLine:=vx.pos.endLine,endCol:=vx.pos.endCol};holding [kv,vv] (dictSet a kv vv)):=by
 unfold compTurn;simp only[h,h2]
 rfl
theorem xy(h:gens[d]?=some ⟨tg,iter,ifs,0⟩)(h2:gens[d+1]?=some ⟨yJ,cy,mR,0⟩):compTurn (.DictComp kx vx gens scope pos) d it (.ref a) env=z9 (.DictComp kx vx gens scope pos) tg iter cy ifs d it (.ref a) env:=by
 unfold compTurn;simp only[h,h2]
 rfl
theorem Q0{P:YB}{w:YE}:FM P w (.DictComp kx vx gens scope pos):=⟨λh=>h,λh=>h⟩
end
abbrev qM(K:Fg)(w:YE)(a:YH):Qa:=λ_ Z H pre=>∃m bs vs,foldM ([],[]) pre=some m/\m.1.length<=pre.length/\H a=some (.ext (cb (hashStr w) a m.1 bs vs))/\ff K Z m.1 bs/\av K Z m.2 vs
theorem IM{K:Fg}{w:YE}{a:YH}:Iy a (qM K w a):=⟨λ⟨_,_,_,_,_,h,_⟩ z=>(by rw[z]at h;cases h),λx ⟨m,bs,vs,h1,h2,h3,h4,h5⟩=>⟨m,bs,vs,h1,h2,x.h _ _ h3,h4.mono x.z,av.mono x.z _ h5⟩⟩
section
variable {X:Cx}{a:YH}{kx vx:YI}{fk fv:Fe}
def fA(fk fv:Fe):YM:=λenv=>(fk env).bind λk=>(fv env).bind λv=>(ft k).bind λ_=>some [.tup [k,v]]
abbrev HJ(X:Cx)(a:YH)(kx vx:YI):BdT:=QB X (do let kv <- eval kx X.env;let vv <- holding [kv] (eval vx X.env);standAt {kx.pos with endLine:=vx.pos.endLine,endCol:=vx.pos.endCol};holding [kv,vv] (dictSet a kv vv))
theorem Bj(hu:X.A.units+1<cLine)(hx:∀e s,¬X.xe e s)(h:PD X .cl kx fk)(h':PD X .cl vx fv):By X (qM X.K X.w a) a (HJ X a kx vx) (fA fk fv):=by
 intro pins s σ H B Z env pre xs P E A e hl hP;obtain⟨k,e1,e⟩:=b_.mp e;obtain⟨v,e2,e⟩:=b_.mp e;obtain⟨q,e3,e⟩:=b_.mp e;cases e;obtain⟨m,bs,vs,hm,LJ,hv,hp,rr⟩:=A.ac;refine a_ (UO (h pins s σ H _ A.I ⟨env,B,Z,k,A.R,e1,λv Z1 H1 x1 g1=>(show ∃Z1,Ex Z H Z1 H1/\Rep X.K Z1 k v from⟨Z1,x1,g1⟩)⟩) (λu s1 az=>?_) λe s z=>(hx e s z).elim);obtain⟨y,H1,I1,r1,Z1,x1,g1⟩:=az;refine a_ (F_ (UO (h' pins s1 σ H1 _ I1 ⟨env,B,Z1,v,A.R.ext x1,e2,λw Z2 H2 x2 g2=>(show ∃Z2,Ex Z1 H1 Z2 H2/\Rep X.K Z2 v w from⟨Z2,x2,g2⟩)⟩) (λu2 s2 az=>?_) λe s z=>(hx e s z).elim));obtain⟨w,H2,I2,r2,Z2,x2,g2⟩:=az;have x0:=x1.trans x2;have hne:H a≠none:=by rw[hv];simp
 have hv2:=x0.h _ _ hv;have hz2:=x0.fr a hne A.hz;have R2:=A.R.ext x0;obtain⟨b,rfl,hq⟩:=iY (H0:=H2) x2.zh (show Gd X.K Z2 H2 H2 .cl k y from Rep.mono x2.z k g1) e3;have RP:cR X.K Z2 b (q.map kV):=by
  cases k<;>try cases e3
  obtain⟨b',P2,e8,tX,RQ⟩:=(show Rep X.K Z2 (.tup _) _ from Rep.mono x2.z _ g1);cases e8;rw[iJ RQ e3]at tX;exact tX
 cases(show u=Value.ref b from r1);have hp2:=hp.mono x0.z;obtain⟨us,RS,l1,l2,dd,yG,hz⟩:=jX I2 hv2 (hp2.mono x0.zh);refine a_ (Vo (F_ ?_));refine wpAny_dictSet_heap (hsz:=by rw[kC l1 l2,UI];simp at hl;omega) (show(tupleKind (aJ X.prog X.w)).room X.A from Nat.lt_of_succ_lt hu) (fK I2 hq) dd λh2 dd' hs'=>?_;rw[pA q b u2 l1 l2]at dd';have hkl:=sd m.1 q;have hnew:=yQ dd' (aB.put r2 RS) (zX l1 q b) (sS l2 q u2) yG (by simp at hl;omega);have he:∃u,h2.get? a=some u:=by obtain⟨o,_,_,_,e,_⟩:=hnew;exact⟨o,e⟩
 have I3:=I2.write (x:=a) (e:=a) (t':=s2.toks+(tupleKind (aJ X.prog X.w)).draws q) (o:=.ext (cb (hashStr X.w) a (jG m.1 q) (Ck m.1 bs q b) (k9 m.1 vs q w))) (by rw[hv2];exact True.intro) (.inl rfl) (λb u hb z=>(hs'.2 b hb).trans z) he ⟨hnew,he,gW _ _ _ _ _⟩;refine hP _ σ _ Z2 ⟨I3,R2.other A.hb hz2 A.nO,A.nO,A.hb,hz2,Aw m q v,_,_,qR hm e3,?_,au,ff.put hp2 l1 RP,av.put g2 (av.mono x0.z _ rr)⟩ ⟨eV R2.bh A.hb,x0.z,eV R2.zh hz2,λb hb e=>x0.fr b (oC A.R.bh hb) e⟩;show(jG m.1 q).length<=_;simp;omega
end
abbrev AV(X:Cx)(a:YH)(kx vx:YI)(gens:Yn)(scope:YG)(pos:Pos)(d:Nat)(tg:YI)(ifs:Yt)(t:Ft)(c:Fb)(k:YM):Prop:=OO X (qM X.K X.w a) a (.DictComp kx vx gens scope pos) d tg ifs t c k
section
variable {X:Cx}{a:YH}{kx vx:YI}{gens:Yn}{scope:YG}{pos:Pos}{d:Nat}{tg iter yJ cy:YI}{ifs mR:Yt}{t t':Ft}{c c':Fb}{k:YM}{fe fk:Fe}{fi:Fi}{is:Yv}
theorem jg(hu:X.A.units+1<cLine)(hx:∀e s,¬X.xe e s)(hg:GD X tg t)(B2:F4 X ifs c)(hk:PD X .cl kx fk)(he:PD X .cl vx fe)(h:gens[d]?=some ⟨tg,iter,ifs,0⟩:=by rfl)(h2:gens[d+1]?=none:=by rfl):AV X a kx vx gens scope pos d tg ifs t c (fA fk fe):=
 ⟨hg,B2,_,Bj hu hx hk he,λ_=>zm (wZ h h2)⟩
theorem BV(hx:∀e s,¬X.xe e s)(bP:X.calm=true)(hg:GD X tg t)(B2:F4 X ifs c)(hi:ID X yJ cy fi)(ht:pJ is t')(b:AV X a kx vx gens scope pos (d+1) yJ mR t' c' k)
  (h:gens[d]?=some ⟨tg,iter,ifs,0⟩:=by rfl) (h2:gens[d+1]?=some ⟨yJ,cy,mR,0⟩:=by rfl) (hs:∀x,foldedSetIterable cy X.env x=pure x:=by intro _;rfl):AV X a kx vx gens scope pos d tg ifs t c (gA fi is t' c' k):=by
 obtain⟨Bd,pK,FN⟩:=b.ex;exact⟨hg,B2,_,vg Q0 IM hx bP h2 hi b.g ht b.ts pK FN,λ_=>Af (xy h h2) hs⟩
end
def fV(th:Str->Int)(fi:Fi)(is:Yv)(t:Ft)(c:Fb)(k:YM)(n:Nat)(caps:Yv):Fe:=λenv=>(fi env).bind λds=>if dv is (dJ n caps env)=true then(fq t c k (dJ n caps env) ds).bind λxs=>if xs.length<=16000000 then(foldM ([],[]) xs).bind λm=>some (.mp th m.1 m.2)else none else none
theorem u7(h:fV th fi is t c k n caps env=some d) :
  ∃ds xs m,fi env=some ds/\dv is (dJ n caps env)=true/\fq t c k (dJ n caps env) ds=some xs/\xs.length<=16000000/\foldM ([],[]) xs=some m/\d=.mp th m.1 m.2:=by
 obtain⟨ds,e1,e2⟩:=b_.mp h
 by_cases hu:dv is (dJ n caps env)=true
 .rw[h_ hu]at e2;obtain⟨xs,e3,e4⟩:=b_.mp e2
  by_cases hl:xs.length<=16000000
  .rw[h_ hl]at e4;obtain⟨m,e5,e6⟩:=b_.mp e4;cases e6;exact⟨ds,xs,m,e1,hu,e3,hl,e5,rfl⟩
  .rw[i_ hl]at e4;cases e4
 .rw[i_ hu]at e2;cases e2
section
variable {X:Cx}{kx vx:YI}{rest:Yn}{scope:YG}{pos:Pos}{tg iter:YI}{ifs:Yt}{t:Ft}{c:Fb}{k:YM}{fi:Fi}{is caps:Yv}{cl:Yl}{Nc own:Yr}
theorem yh(ht:pJ is t)(bP:X.calm=true)(jZ:jS (λx=>X.env.cells.lookup x) scope.names []=some cl)(cM:scope.kind=.function)(hnc:∀y∈scope.names,y.2≠.cell)
  (hN:Nc.map some=own.map some++caps.map (λj=>X.N[j]?)) (pI:qJ X scope caps=true)
  (hb:∀C s H ex pn a,AV (eX X scope cl Nc C s H ex pn) a kx vx (⟨tg,iter,ifs,0⟩::rest) scope pos 0 tg ifs t c k)
  {pins:Yi} {σ:L2.St} {s2:YA} {H2 B Z2:Hp} {env:En} {ds xs:YO} {E:Yh} {RR:Yz->YH->Result->YA->Prop} {it:YH} {fp:Ys} {tn:Nat->YD->Prop} {J:It}
  (I2:Inv X pins σ H2 s2) (R2:Rl X.K B Z2 H2 env σ) (T:Turn X.prog X.w X.K tg J fp it tn) (FP:tn 0 s2.heap) (tZ:∀b∈fp,fS X pins H2 b) (wk:Walk X.K Z2 ds J) (hu:dv is (dJ own.length caps env)=true)
  (FO:fq t c k (dJ own.length caps env) ds=some xs) (hl:xs.length<=16000000)
  (Rp:∀(a C:YH)(H' Z':Hp)(s':YA)(mm:YK×YO)(bs:Ys)(vs:YR) m,Inv X pins σ H' s'->s'.heap.Ns C m->fS X pins H' C->Ex Z2 H2 Z' H'->H2 a=none->foldM ([],[]) xs=some mm->H' a=some (.ext (cb (hashStr X.w) a mm.1 bs vs))->Z' a=none->ff X.K Z' mm.1 bs->av X.K Z' mm.2 vs->RR (.ref a) C (.ok .next) s') :
  wpAny @3 X.A (newDict) (λacc s₃=>wpAny @3 X.A (newFunctionEnv scope X.env.globals cl [] X.env.qual none .none (some X.env)) (λLW s₄=>
   codeAny @3 X.A (.compStart (.DictComp kx vx (⟨tg,iter,ifs,0⟩::rest) scope pos) 0 (.ref it) acc {LW with scope:=relabel scope X.env}) (RR acc LW.locals) s₄) E s₃) E s2:=by
 refine Vd ?_;have hf:H2 s2.sz=none:=I2.hok.fresh (m_ _);have I3:Inv X pins σ (upd H2 s2.sz (.ext (cb (hashStr X.w) s2.sz [] [] []))) {s2 with heap:=s2.heap.push {cls:=.type "dict",dict:=none,data:=.dict #[]}}:=
  I2.laid (t':=s2.toks) (λb u e=>d_ _ e) (m_ _) (show bE X.prog X.w _ _ _ (.ext (cb (hashStr X.w) s2.sz [] [] []))from⟨⟨_,#[],0,[],o_ _ rfl,⟨rfl,rfl,rfl⟩,rfl,.nil,rfl,Wv,by have:=I2.big;simpa using (UC this),by simp,rfl,rfl⟩,⟨_,o_ _ rfl⟩,gW _ _ _ _ _⟩)
 generalize Cc:({s2 with heap:=s2.heap.push {cls:=.type "dict",dict:=none,data:=.dict #[]}}:YA)=s3 at I3 ⊢;have OP:∀b o,s2.heap.get? b=some o->s3.heap.get? b=some o:=λb o e=>by rw[<- Cc];exact d_ _ e
 have OQ:s3.sz=s2.sz+1:=by rw[<- Cc];exact UP _ _
 have yK:∀b∈fp,b<s2.sz:=λb hb=>let ⟨o,e,_⟩:=T.obj _ _ FP b hb;n_ e;have OR:∀b∈fp,fS X pins (upd H2 s2.sz (.ext (cb (hashStr X.w) s2.sz [] [] []))) b:=λb hb=>⟨by rw[ax (A_ (yK b hb))];exact(tZ b hb).1,(tZ b hb).2⟩;refine wpAny_newFunctionEnv hnc (by intro y hy;simp at hy) (λh1 Jz hsb=>?_) cM;have OS:∀b o,s3.heap.get? b=some o->h1.get? b=some o:=λb o e=>hsb.extBut b o (A_ (n_ e)) (d_ _ e);have I4:=wq (tk:=s3.toks+([]:List (Str×Yz)).length) I3 jZ cM hnc OR (λb hb=>by rw[OQ];exact Vn (yK b hb)) hN pI Jz OS;generalize hXc:eX X scope cl Nc s3.sz s3 (upd H2 s2.sz (.ext (cb (hashStr X.w) s2.sz [] [] []))) fp (X.pn++pins)=Xc at I4;have bb:AV Xc s2.sz kx vx (⟨tg,iter,ifs,0⟩::rest) scope pos 0 tg ifs t c k:=by rw[<- hXc];exact hb _ _ _ _ _ _
 obtain⟨Bd,pK,FN⟩:=bb.ex;have eP:Xc.prog=X.prog:=by rw[<- hXc];rfl
 have eW:Xc.w=X.w:=by rw[<- hXc];rfl
 have eK:Xc.K=X.K:=by rw[<- hXc];rfl
 have eA:Xc.A=X.A:=by rw[<- hXc];rfl
 have eE:Xc.env=compEnvC scope cl s3.sz X.env:=by rw[<- hXc];rfl
 have hx:∀e s,¬Xc.xe e s:=λe s z=>by rw[<- hXc]at z;exact z
 have F6:Xc.calm=true:=by rw[<- hXc];exact bP
 have T':Turn Xc.prog Xc.w Xc.K tg J fp it tn:=by rw[eP,eW,eK];exact T
 have A4:Ac Xc (qM Xc.K Xc.w s2.sz) [] s2.sz H2 Z2 (upd H2 s2.sz (.ext (cb (hashStr X.w) s2.sz [] [] []))) (dJ own.length caps env) (sA own.length caps σ) [] {s3 with heap:=h1,toks:=s3.toks+([]:List (Str×Yz)).length}:=
  ⟨I4,by rw[eK];exact R2.cap _ _ (cj hf) (eV R2.zh (R2.zh.free hf)),kR _ _ _,hf,R2.zh.free hf,([],[]),[],[],rfl,m_ _,by rw[eW];exact au,λi k b h=>by simp at h,rfl⟩
 have Rq:∀b∈fp,fS Xc [] (upd H2 s2.sz (.ext (cb (hashStr X.w) s2.sz [] [] []))) b:=λb hb=>by
  obtain⟨f1,f2,f3,f4,f5,f6⟩:=OR b hb;have mem:=iA jZ (λp hp=>by cases hp);rw[<- hXc];refine⟨f1,?_,iZ I3 f2 f3,.inl hb,λx c h=>f5 x c (mem (x,c) (U8 h)),λp hp=>f6 p (by simpa [eX]using hp)⟩;show b≠s3.sz;rw[OQ];exact A_ (Vn (yK b hb))
 have OU:tn 0 ({s3 with heap:=h1,toks:=s3.toks+([]:List (Str×Yz)).length}:YA).heap:=T.keep _ _ _ FP λb _ o e=>OS b o (OP b o e);have go:=l5 Q0 IM (a:=s2.sz) hx F6 T' bb.g ht bb.ts pK (FN it) A4 Rq OU (by rw[eK];exact wk) hu FO (by simpa using hl) (R:=RR (.ref s2.sz) s3.sz) λs' σ' H' Z' A' x' fr'=>by
  obtain⟨m0,bs0,vs,SY,_,hv,TQ,rr⟩:=A'.ac;rw[eW]at hv;have base:=A'.I.base;obtain⟨mC,OV,_⟩:=A'.I.loc;have hok:=A'.I.hok;have hos:=A'.I.os;have free:=A'.I.free;rw[eE]at OV free;rw[eP,eW]at hok;rw[eK]at rr TQ;have u1:Un (mP X.stack) fp H2 (upd H2 s2.sz (.ext (cb (hashStr X.w) s2.sz [] [] []))) s2.heap s3.heap:=Un.laid OP (m_ _) hf;have u2:Un (mP X.stack) fp (upd H2 s2.sz (.ext (cb (hashStr X.w) s2.sz [] [] []))) H' s3.heap s'.heap:=by rw[<- hXc]at base;exact base
  have LX:s'.os=s2.os:=by rw[<- hXc]at hos;exact hos.trans (by rw[<- Cc];rfl)
  have I':Inv X pins σ H' s':=I2.call' LX (u1.trans u2) hok A'.I.bare λb hb=>⟨(tZ b hb).2.2.2.1,(tZ b hb).2.1,(tZ b hb).2.2.2.2.1,(tZ b hb).2.2.2.2.2⟩;exact Rp s2.sz s3.sz H' Z' s' m0 bs0 vs mC I' OV (I3.fpOk (m_ _) free) x' hf (by simpa using SY) hv A'.hz TQ rr
 rw[eP,eW,eA,eE]at go;exact tw Q0 rfl go (T.self _ 0 _ _ _ OU go)
theorem mZ(hw:th=hashStr X.w)(ht:pJ is t)(bP:X.calm=true)(hi:ID X tg iter fi)(jZ:jS (λx=>X.env.cells.lookup x) scope.names []=some cl)(hN:Nc.map some=own.map some++caps.map (λj=>X.N[j]?))
  (hb:∀C s H ex pn a,AV (eX X scope cl Nc C s H ex pn) a kx vx (⟨tg,iter,ifs,0⟩::rest) scope pos 0 tg ifs t c k)
  (pI:qJ X scope caps=true:=by rfl) (cM:scope.kind=.function:=by rfl) (hnc:∀y∈scope.names,y.2≠.cell:=by decide +kernel) (OW:∀x∈scope.names,x.2=.local->scope.names.lookup x.1=some .local:=by decide +kernel)
  (hs:∀x,foldedSetIterable iter X.env x=pure x:=by intro _;rfl) :
  PD X .nm (.DictComp kx vx (⟨tg,iter,ifs,0⟩::rest) scope pos) (fV th fi is t c k own.length caps):=by
 subst hw;intro pins s σ H Q I hT;obtain⟨env,B,Z,d,R,e,kk⟩:=hT;obtain⟨ds,xs,mm,e1,hu,FO,hl,SW,rfl⟩:=u7 e;rw[arm_eval_DictComp];refine WH (use:=none) rfl hs (jJ jZ) cM OW ?_;refine bB (hi pins s σ H (λJ H1=>∃Z1,Ex Z H Z1 H1/\Walk X.K Z1 ds J) I ⟨env,B,Z,ds,R,e1,λJ Z1 H1 x1 wk=>⟨Z1,x1,wk⟩⟩) λx s1 q1=>bB q1 λOC s2 az=>?_;obtain⟨it,fp,tn,J,H2,hit,I2,T,FP,tZ,Z2,x2,wk⟩:=az;subst hit;refine yh ht bP jZ cM hnc hN pI hb I2 (R.ext x2) T FP tZ wk hu FO hl (RR:=λacc C=>compPost @3 X.A X.xe none (EP X pins σ Q) acc C) λa C H' Z' s' m1 bs vs m I' ns fpC x' hf hm1 hv hz hp rr=>?_;refine⟨m,ns,λh' hs'=>?_⟩;obtain⟨f1,f2,f3,f4,f5,f6⟩:=fpC;rw[SW]at hm1;cases hm1;exact⟨.ref a,H',I'.turned (t':=s'.toks) (it:=C) (λb o hb e=>hs'.extBut b o hb e) f1 f2.symm.symm f4 f5 f6,rfl,kk _ Z' H' (x2.trans x') ⟨a,hashStr X.w,mm.1,mm.2,rfl,rfl,x2.h.free hf,⟨bs,vs,hv,hp,rr⟩,hz⟩⟩
end
theorem gh:∀{ns:Yw}{us:Yo},aB (ns.map V.int) us->∀(i:Nat)(v:Yz),us[i]?=some v->∃t,v=Value.int (ns.getD i 0) t
 | [],_,.nil,i,v,h=>by simp at h
 | n::ns,_,.cons r t,0,v,h=>by simp at h;subst h;exact r
 | n::ns,_,.cons r t,i+1,v,h=>by
  obtain⟨t',e⟩:=gh t i v (by simpa using h);exact⟨t',by simpa using e⟩
theorem preSum_eq(ns:Yw):∀n,n<=ns.length->preSum (λi=>ns.getD i 0) n=(ns.take n).sum
 | 0,_=>by simp[preSum]
 | n+1,h=>by
  have hn:n<ns.length:=h;rw[preSum,preSum_eq ns n @1,XI,Ye];simp[List.getD,hn]
section
variable {X:Cx}{l r:YI}{fa fb:Fe}{ga gb:Gr}{pos p:Pos}
theorem BC(hc:X.calm=true):dG X (.builtin "sum") (λxs H Q=>∃(a:YH)(ns:Yw),xs=[.ref a]/\cY X.K H a (ns.map V.int)/\Q (.int ns.sum) H):=by
 intro pins s σ H xs us Q I rs h;obtain⟨a,ns,rfl,hq,q⟩:=h;obtain⟨u,rfl,rx⟩:=vals1 rs;cases rx;obtain⟨br,rv,pl,hz⟩:=I.list hq;have ix:a<s.sz:=by obtain⟨o,ho,_⟩:=pl.isList;exact n_ ho
 have hl:=aB.length rv;rw[c_]at hl;refine call_sum_walkG (Vz pl.isList ⟨s.sz,_,_,_,_,_,λi=>ns.getD i 0,rfl,Walks.list (A:=X.A.in1) (show X.A.in1.handled=none from I.ok.hd hc) s.sz a (A_ ix) br.toArray,⟨⟨_,o_ _ rfl,rfl,rfl⟩,pl.isList.push _⟩,λb hb=>?_,λi v hv=>gh rv i v (by simpa using hv),λh' tk t' hk=>?_⟩)
 .simp only[p_,UL,V5]at hb;rw[UP];rcases hb with rfl | rfl
  .exact Xk _
  .exact Vn ix
 .have e:preSum (λi=>ns.getD i 0) br.toArray.size=ns.sum:=by
   rw[show br.toArray.size=ns.length by simp[<- hl],preSum_eq ns _ (m_ _),Vk]
  rw[e];refine⟨.int ns.sum,H,I.kept λb o e=>hk b o (λhb=>?_) (d_ _ e),⟨_,rfl⟩,q⟩;have:b=s.sz:=by simpa using hb
  exact A_ (n_ e) this
def Hy:D->YQ
 | .lst ds=>(kZ ds).bind λns=>some (.int ns.sum)
 | _=>none
theorem Od{K:Fg}:iV K .cl Hy (λxs H Q=>∃(a:YH)(ns:Yw),xs=[.ref a]/\cY K H a (ns.map V.int)/\Q (.int ns.sum) H):=λ{Z H x dx d Q} s h e k=>by
 cases dx<;>try cases e
 obtain⟨ns,h1,h2⟩:=b_.mp e;cases h2;cases kr h1;obtain⟨a,vs,rfl,q,rr⟩:=h.lst s;cases av.intsV rr;exact⟨a,ns,rfl,q,k _ Z H (Ex.refl s) rfl⟩
theorem AY:bootBuiltins "sum"=some (.builtin "sum"):=by decide +kernel
theorem N6(hm:X.mg "sum"=none)(bP:X.calm=true)(ha:PD X ga l fa)(hg:Gl X "sum":=by rfl)(he:starEach [l] X.env=[(false,eval l X.env)]:=by rfl):PD X .cl (.Call (.Name "sum" p) [l] [] pos) (bN Hy fa):=
 zO (BC bP) Od AY hm ha @2 @2 hg he
def qy:YO->Option Yr
 | []=>some []
 | .str x::ds=>(qy ds).map (x::·)
 | _=>none
theorem uB:∀{ds:YO}{ys:Yr},qy ds=some ys->ds=ys.map D.str
 | [],_,h=>by cases h;rfl
 | .str x::ds,_,h=>by obtain⟨y,h1,rfl⟩:=L_.mp h;rw[uB h1];rfl
 | .non::_,_,h=>by cases h
 | .bl _::_,_,h=>by cases h
 | .int _::_,_,h=>by cases h
 | .tup _::_,_,h=>by cases h
 | .lst _::_,_,h=>by cases h
 | .dct _::_,_,h=>by cases h
 | .st _::_,_,h=>by cases h
 | .ln _::_,_,h=>by cases h
 | .mp _ _ _::_,_,h=>by cases h
theorem av.strs{K:Fg}{H:Hp}:∀{ys:Yr}{vs:YR},av K H (ys.map D.str) vs->vs=ys.map V.str
 | [],_,h=>h
 | y::ys,_,⟨v,r,e,h,t⟩=>by rw[e,av.strs t,show v=V.str y from h.1];rfl
theorem vG:∀{ys:Yr}{us:Yo},aB (ys.map V.str) us->StrsAre us ys
 | [],_,.nil=>.nil
 | y::ys,_,.cons r t=>by obtain⟨tk,rfl⟩:=r;exact .cons y tk (vG t)
theorem Cz:SM X "list.count" (λx xs H Q=>∃(a:YH)(ys:Yr)(y:Str),x=.ref a/\xs=[.str y]/\cY X.K H a (ys.map V.str)/\Q (.int (countIn (.str y) (ys.map PyData.str))) H):=by
 intro pins s σ H x xs v us Q I rx rs h;obtain⟨a,ys,y,rfl,rfl,hq,q⟩:=h;obtain⟨u,rfl,ru⟩:=vals1 rs;cases rx;obtain⟨tk,rfl⟩:=ru;obtain⟨br,rv,pl,hz⟩:=I.list hq;exact count_list_strs pl.isList (vG rv) ⟨.int _,H,I.tok _,⟨_,rfl⟩,q⟩
def xp(y:Str)(ys:Yr):Int:=((ys.filter (·==y)).length:Nat)
theorem mx(y:Str):∀ys:Yr,countIn (.str y) (ys.map PyData.str)=xp y ys
 | []=>rfl
 | z::ys=>by
  have ih:=mx y ys;unfold xp at ih ⊢;rw[C_,countIn,H_];simp only[same];rcases Bool.eq_false_or_eq_true (z==y)with hb | hb
  .simp only[hb,Vy,v_,ih];push_cast;omega
  .simp only[hb,D_,UU,ih];omega
def Fv:D->D->YQ
 | .lst ds,.str y=>(qy ds).bind λys=>some (.int (xp y ys))
 | _,_=>none
variable {o e:YI}{apos bG:Pos}
theorem tS(ha:PD X .cl o fa)(hb:PD X .cl e fb)(gC:attributeBase o "count" X.env (eval o X.env)=eval o X.env:=by rfl)
  (tY:((backTo bG (starEach [e] X.env)).all (λx=>!x.1)&&(backToKw bG (keywordEach [] X.env)).all (λx=>x.1.isSome)
   && decide ([e].length+([]:List Keyword).length+(if([]:List Keyword).isEmpty then 0 else 1)<30))=true:=by rfl)
  (gD:(apos.endLine==bG.line)=true:=by rfl) (hst:starEach [e] X.env=(false,eval e X.env)::starEach [] X.env:=by rfl) :
  PD X .cl (.Call (.Attribute o "count" apos) [e] [] bG) (ar Fv fa fb):=
 PE.imp (yR Wc PySem.F.slot_list_count PySem.F.type_list_count Cz ha (aP hb b9 hst) gC tY gD hst rfl) λσ H Q az=>by
 obtain⟨env,B,Z,d,R,e,kq⟩:=az;obtain⟨da,e1,e⟩:=b_.mp e;obtain⟨db,e2,e⟩:=b_.mp e;cases da<;>try cases e
 all_goals (cases db<;>try cases e)
 rename_i es y;obtain⟨ys,e3,e4⟩:=b_.mp e;cases e4;cases uB e3;refine⟨env,B,Z,_,R,e1,λv Z1 H1 x1 g1=>?_⟩;obtain⟨a,vs,rfl,hq,rr⟩:=g1;cases rr.strs;refine⟨.inl ⟨rfl,_,x1.zh.seq hq⟩,env,B,Z1,_,R.ext x1,e2,λv2 Z2 H2 x2 g2=>?_⟩;exact⟨a,ys,y,rfl,by rw[show v2=V.str y from g2.1],x2.h.seq (x1.zh.seq hq),by rw[mx];exact kq _ Z2 H2 (x1.trans x2) rfl⟩
end
theorem Rl.setV{K:Fg}{B Z H:Hp}{env:En}{σ:L2.St}(R:Rl K B Z H env σ)(i:Nat)(x:Option V):Rl K B Z H (env.set i .un) (σ.set i x):=by
 have no:∀{j:Nat}{ds:wN},(env.set i .un)[j]?=some (.O ds)->i≠j:=λ{j ds} h z=>by
  subst z
  by_cases hl:i<env.length
  .rw[r_ hl]at h;cases h
  .rw[E_ (by simpa using U2 hl)]at h;cases h
 refine⟨R.bh,R.zh,by simp[R.len],λj s h=>?_,λj ds a h h2=>?_,λj k ds es a hne h1 h2 h3 h4=>?_⟩
 .by_cases hj:i=j
  .subst hj
   by_cases hl:i<env.length
   .rw[r_ hl]at h;cases h;exact⟨x,r_ (by rw[<- R.len];exact hl),trivial⟩
   .rw[E_ (by simpa using U2 hl)]at h;cases h
  .rw[j_ hj]at h ⊢;exact R.sl j s h
 .have n:=no h;rw[j_ n]at h h2;exact R.ob j ds a h h2
 .have n1:=no h1;have n2:=no h2;rw[j_ n1]at h1 h3;rw[j_ n2]at h2 h4;exact R.ap j k ds es a hne h1 h2 h3 h4
theorem Cw{α:Type}{l:List α}{i:Nat}{x:α}(h:l[i]?=some x):l.set i x=l:=by
 obtain⟨h1,h2⟩:=k_.mp h;rw[<- h2];exact Xf h1
def gZ(ks:YK)(ds:YO)(n:Int):YO->YN
 | []=>some ds
 | c::cs=>(ft c).bind λq=>(aN ks ds q).bind λd=>match d with | .int i=>gZ ks (bx ks ds q (.int (i+n))) n cs | _=>none
section
variable {X:Cx}{rg:Gr}
def MB(K:Fg)(th:Str->Int)(td ty tv:TE):TS:=λD σ H=>td σ H λx H1=>ty σ H1 λy H2=>∃(a b:YH)(ks:YK)(bs:Ys)(vs:YR)(q:YL)(i:Int),x=.ref a/\y=.ref b/\H2 a=some (.ext (cb th a ks bs vs))/\ff K H2 ks bs/\cR K H2 b (q.map kV)/\aN ks vs q=some (.int i)/\ks.length<16000000/\
 tv σ H2 λy2 H3=>H3=H2/\∃n,y2=.int n/\D.nx σ (upd H2 a (.ext (cb th a ks bs (bx ks vs q (.int (i+n))))))
theorem HF(hu:X.A.units+1<cLine)(ho:PE X o td)(hi:PE X i ty)(hv:PE X value tv)
  (ha:∀ov iv new,augStore i ov iv new=(do holding [new,ov,iv] (setItem ov iv new);release [new,ov,iv] [];pure .next):=by intros;rfl):PS X (.AugAssign (.Subscript o i tpos) .Add value pos) (MB X.K (hashStr X.w) td ty tv):=by
 intro pins s σ H D I h;refine wpAny_AugAssign_SubscriptAny (bB (ho pins s σ H _ I h) λu s1 ⟨x,H1,I1,rx,q1⟩=>bB (hi pins s1 σ H1 _ I1 q1) λiv s2 az=>?_) ha;obtain⟨y,H2,I2,ry,a,b,ks,bs,vs,q,j,ex,ey,hc,hp,hq,hl,hlen,q2⟩:=az;subst ex ey;obtain rfl:u=Value.ref a:=rx;obtain rfl:iv=Value.ref b:=ry;obtain⟨us,RS,h1,h2,dd,yG,hz⟩:=jX I2 hc hp;obtain⟨w',e1,e2⟩:=aB.look RS hl;rw[<- nH q h1 h2]at e1;obtain⟨pr,e3,e4⟩:=L_.mp e1;have FL:q∈ks:=by
  by_cases hm:q∈ks
  .exact hm
  .rw[gp hm]at hl;cases hl
 refine wpAny_getItem_heap (Vs hu) (fK I2 hq) dd e3 ?_;rw[e4];refine bB (hv pins _ σ H2 _ (I2.tok _) q2) λw2 s4 az=>?_;obtain⟨y2,H3,I4,ry2,hH,n,ey2,q3⟩:=az;subst hH ey2;refine bB (JO pins s4 σ H3 (.int j) (.int n) w' w2 (λz H4=>H4=H3/\z=.int (j+n)) I4 e2 ry2 ⟨j,n,rfl,rfl,rfl,rfl⟩) λw3 s5 az=>?_;obtain⟨z,H4,I5,rz,hH4,hz4⟩:=az;subst hH4 hz4;refine map_set hu I5 hc hp hq hlen rz λs6 _ I6=>⟨σ,_,I6,?_⟩;have k1:jG ks q=ks:=h_ FL;have k2:Ck ks bs q b=bs:=h_ FL;have k3:k9 ks vs q (.int (j+n))=bx ks vs q (.int (j+n)):=h_ FL;rw[k1,k2,k3];exact q3
open Classical in
noncomputable def AF(th:Str->Int)(ia is ih ic im iw:Nat)(t:Fb):Fs:=λenv=>(t env).bind λb=>match env[iw]?,env[im]?,env[if b then is else ih]? with
 | some (.F (.lst cs)),some (.F (.int n)),some (.O (.M F7 ks ds))=>if F7=th/\ks.length<16000000/\ia<env.length/\ic<env.length then(gZ ks ds n cs).bind λds'=>some (.nx (((env.set ia .un).set ic .un).set (if b then is else ih) (.O (.M th ks ds'))))else none
 | _,_,_=>none
theorem Uk[Decidable c](h:(if c then a else none)=some d):c/\a=some d:=by
 by_cases hc:c
 .rw[h_ hc]at h;exact⟨hc,h⟩
 .rw[i_ hc]at h;cases h
theorem uG(h:gZ ks ds n (c::cs)=some ds'):∃q i,ft c=some q/\aN ks ds q=some (.int i)/\gZ ks (bx ks ds q (.int (i+n))) n cs=some ds':=by
 unfold gZ at h;obtain⟨q,h1,h⟩:=b_.mp h;obtain⟨d,h2,h⟩:=b_.mp h;cases d<;>try cases h
 exact⟨q,_,h1,h2,h⟩
open Classical in
theorem MI{th:Str->Int}(hw:th=hashStr X.w)(ia is ih ic im iw:Nat){k:Nat}{xa xs xh xc xm xw:Str}{te:YI}{t:Fb}{pa p1 p2 p3 p4 pc pw p5 p6 p7 p8 p9 p10:Pos}(hr:bF k X.A)(hp:PassesOwn @3 X.A X.env X.xe)(hcm:X.calm=true)(hN:X.N.Nodup)(ht:PB X te t)
  (hne:ia≠ic/\ia≠is/\ia≠ih/\ic≠is/\ic≠ih/\im≠ia/\im≠ic/\iw≠ia/\im≠is/\im≠ih:=by decide)
  (na:X.N[ia]?=some xa:=by rfl) (ns:X.N[is]?=some xs:=by rfl) (nh:X.N[ih]?=some xh:=by rfl) (nc:X.N[ic]?=some xc:=by rfl) (nm:X.N[im]?=some xm:=by rfl) (nw:X.N[iw]?=some xw:=by rfl)
  (va:rm X.env.scope xa:=by first | exact Or.inl rfl | exact Or.inr (Or.inl rfl) | exact Or.inr (Or.inr rfl)) (vs:rm X.env.scope xs:=by first | exact Or.inl rfl | exact Or.inr (Or.inl rfl) | exact Or.inr (Or.inr rfl)) (vh:rm X.env.scope xh:=by first | exact Or.inl rfl | exact Or.inr (Or.inl rfl) | exact Or.inr (Or.inr rfl))
  (vc:rm X.env.scope xc:=by first | exact Or.inl rfl | exact Or.inr (Or.inl rfl) | exact Or.inr (Or.inr rfl)) (vm:rm X.env.scope xm:=by first | exact Or.inl rfl | exact Or.inr (Or.inl rfl) | exact Or.inr (Or.inr rfl)) (vw:rm X.env.scope xw:=by first | exact Or.inl rfl | exact Or.inr (Or.inl rfl) | exact Or.inr (Or.inr rfl))
  (da:(xa==("__debug__":Str))=false/\(xa==("__classdict__":Str))=false:=by decide) (ds:(xs==("__debug__":Str))=false/\(xs==("__classdict__":Str))=false:=by decide) (dh:(xh==("__debug__":Str))=false/\(xh==("__classdict__":Str))=false:=by decide)
  (dc:(xc==("__debug__":Str))=false/\(xc==("__classdict__":Str))=false:=by decide) (dm:(xm==("__debug__":Str))=false/\(xm==("__classdict__":Str))=false:=by decide) (dw:(xw==("__debug__":Str))=false/\(xw==("__classdict__":Str))=false:=by decide)
  (la:Loc X.env.scope xa:=by first | exact Or.inl rfl | exact Or.inr rfl) (lc:Loc X.env.scope xc:=by first | exact Or.inl rfl | exact Or.inr rfl)
  (TR:X.fn xa=true\/X.env.scope.names.lookup xa=some .local:=by first | exact .inl rfl | exact .inr rfl | assumption) (O6:X.fn xc=true\/X.env.scope.names.lookup xc=some .local:=by first | exact .inl rfl | exact .inr rfl | assumption)
  (Rt:swapsWith (.IfExp te (.Name xs p1) (.Name xh p2) p3) (some (.Name xa pa)) p4.line X.env=pure false:=by rfl) (F8:∀x,foldedSetIterable (.Name xw pw) X.env x=pure x:=by intro _;rfl) :
  yw X rg [.Assign [.Name xa pa] (.IfExp te (.Name xs p1) (.Name xh p2) p3) p4,.For (.Name xc pc) (.Name xw pw) [.AugAssign (.Subscript (.Name xa p5) (.Name xc p6) p7) .Add (.Name xm p8) p9] [] p10] (AF th ia is ih ic im iw t):=by
 subst hw;obtain⟨n1,n2,n3,n4,n5,n6,n7,n8,n9,n10⟩:=hne;refine PSs.imp (gw (iD hN na la (ve ht (bK ns vs ds.1 ds.2) (bK nh vh dh.1 dh.2)) Rt TR) (gO (ER hp hcm (aT (ae iw nw vw dw.1 dw.2)) (kP hN nc lc O6) (gO (HF (jA hr) (bK na va da.1 da.2) (bK nc vc dc.1 dc.2) (bK nm vm dm.1 dm.2))) F8))) λE σ H az=>?_;obtain⟨env,B,Z,o,R,e,kk⟩:=az;obtain⟨b,e1,e⟩:=b_.mp e;refine⟨env,B,Z,b,R,e1,λZ1 H1 x1=>?_⟩
 split at e
 .rename_i cs n F7 ks d0 hw hm hj;obtain⟨⟨rfl,hlen,RN,hlc⟩,e'⟩:=Uk e;obtain⟨dF,hF,e'⟩:=b_.mp e';cases e';clear e;have Iw:ia≠(if b then is else ih):=by cases b;exact n3;exact n2
  have Pa:ic≠(if b then is else ih):=by cases b;exact n5;exact n4
  have TU:im≠(if b then is else ih):=by cases b;exact n10;exact n9
  have pick:∀Q:VK,xo (if b then is else ih) σ H1 Q->(if b=true then xo is σ H1 Q else xo ih σ H1 Q):=λQ q=>by cases b<;>exact q
  generalize (if b then is else ih)=j at hj Iw Pa TU pick kk;have R1:=R.ext x1;obtain⟨y,e3,a,o,e4,e5,e6,_⟩:=R1.sl j _ hj;subst e4;refine pick _ ⟨.ref a,e3,?_⟩;have R2:=R1.setV ia (some (.ref a));refine⟨env.set ia .un,B,Z1,cs,R2,?_,λJ Z2 H2 x2 wk=>?_⟩
  .show(dR (env.set ia .un) iw).bind _=_;unfold dR;rw[j_ (US n8),hw]
   rfl
  .have lσ:(σ.set ia (some (V.ref a))).length=env.length:=by rw[Xt,R.len]
   let e2:En:=(env.set ia .un).set ic .un
   have j2:e2[j]?=some (.O (.M (hashStr X.w) ks d0)):=by
    show((env.set ia .un).set ic .un)[j]?=_;rw[j_ Pa,j_ Iw];exact hj
   have m2:e2[im]?=some (.F (.int n)):=by
    show((env.set ia .un).set ic .un)[im]?=_;rw[j_ (US n7),j_ (US n6)];exact hm
   let In:Nat->L2.St->Hp->Prop:=λi σ H=>∃di Z',Ex Z B Z' H/\aO Z2 Z'/\(∀x,Rl X.K B Z' H (e2.set j (.O (.M (hashStr X.w) ks di))) (σ.set ic x))/\σ[ia]?=some (some (.ref a))/\σ[j]?=some (some (.ref a))/\gZ ks di n (cs.drop i)=some dF
   refine⟨λi m σ H=>m=cs.length-i/\i<=cs.length/\In i σ H,⟨cs.length,by simp,VT _,d0,Z2,(x1.trans x2).part R.bh,aO.refl _,λx=>?_,?_,?_,by simpa using hF⟩,?_⟩
   .rw[Cw j2];exact(R2.ext x2).setV ic x
   .rw[r_ (by rw[<- R.len];exact RN)]
   .rw[j_ Iw];exact e3
   .rintro i m σ2 H3 ⟨rfl,hi,di,Z',x3,s3,R3,q1,q2,q3⟩;obtain⟨w1,w2⟩:=wk Z' H3 s3 (R3 none).zh i;have Mm:(e2.set j (.O (.M (hashStr X.w) ks di)))[j]?=some (.O (.M (hashStr X.w) ks di)):=r_ (k_.mp j2).1
    by_cases ix:i<cs.length
    .obtain⟨go,yl⟩:=w1 ix;refine .inr ⟨go,In (i+1),λσ' H' nn=>⟨cs.length-(i+1),by omega,rfl,ix,nn⟩,λx H4 y=>?_⟩;obtain⟨Z4,c,x4,hd,r4⟩:=yl x H4 y;have OK:cs.drop i=c::cs.drop (i+1):=by
      obtain⟨h1,h2⟩:=k_.mp hd;rw[VC h1,h2]
     rw[OK]at q3;obtain⟨q,v0,k1,k2,k3⟩:=uG q3;have R4:=(R3 (some x)).ext x4;obtain⟨y1,f1,a1,o1,f2,f3,f4,bs,TV,rfl,f5,f6⟩:=R4.sl j _ Mm;subst f2;have TY:σ2[j]?=some (some (.ref a1)):=by rw[j_ Pa]at f1;exact f1
     rw[q2]at TY;cases TY;obtain⟨bk,hbk,hq⟩:=iY (H0:=H4) x4.zh (show Gd X.K Z4 H4 H4 .cl c x from r4) k1;subst hbk;obtain⟨vv,g1,g2⟩:=f6.look k2;cases(show vv=V.int v0 from g2);obtain⟨y2,m3,vm2,m4,m5⟩:=R4.sl im (.F (.int n)) (by rw[j_ (US TU)];exact m2);subst m4;cases(show vm2=V.int n from m5);have Mc:ic < σ2.length:=by have:=R4.len;simp[e2]at this;omega
     refine⟨.ref a,by rw[j_ (US n1)];exact q1,.ref bk,by rw[r_ Mc],a,bk,ks,bs,TV,q,v0,rfl,rfl,f3,f5.mono x4.zh,hq,g1,hlen,.int n,m3,rfl,n,rfl,?_⟩;obtain⟨R5,x5⟩:=R4.wr (es:=.M (hashStr X.w) ks (bx ks di q (.int (v0+n)))) Mm f1 (show de X.K Z4 a (.M (hashStr X.w) ks (bx ks di q (.int (v0+n)))) (.ext (cb (hashStr X.w) a ks bs (bx ks TV q (.int (v0+n)))))from⟨bs,_,rfl,f5,av.repl (show Rep X.K Z4 (.int (v0+n)) (.int (v0+n))from rfl) f6⟩);refine⟨bx ks di q (.int (v0+n)),Z4,?_,s3.trans x4.z,λz=>?_,?_,?_,k3⟩
     .exact(x3.transB (x4.part (R3 none).bh)).transB x5
     .have R6:=R5.setV ic z;rw[Yb,Yb]at R6;have u2:(e2.set j (.O (.M (hashStr X.w) ks (bx ks di q (.int (v0+n))))))[ic]?=some .un:=by
       rw[j_ (US Pa)];show((env.set ia .un).set ic .un)[ic]?=_;rw[r_ (by simpa using hlc)]
      rw[Cw u2]at R6;rw[Yb];exact R6
     .rw[j_ (US n1)];exact q1
     .rw[j_ Pa];exact q2
    .refine .inl ⟨w2 @1,?_⟩;rw[W6 @1]at q3;cases q3;have Mc:ic < σ2.length:=by have:=(R3 none).len;simp[e2]at this;omega
     have R5:=R3 σ2[ic];rw[Xf Mc]at R5;exact kk σ2 Z' H3 x3 R5
 .cases e
end
class Th where
 h:Str->Int
theorem Ou(i0:Nat)(h:Ad X e f):Ad X e (Gc i0 f):=⟨λy py spos j FQ hNd hj hy hf pins s σ H E I hT=>by
 refine h.ex y py spos j FQ hNd hj hy hf pins s σ H E I ?_;obtain⟨env,B,Z,d,R,e,k⟩:=hT;unfold Gc at e
 split at e
 .rename_i th ks ds hi;obtain⟨d',e1,e2⟩:=b_.mp e;obtain⟨hp,rfl⟩:=qe e2;obtain⟨y,e3,a,o,e4,e5,e6,r⟩:=R.sl i0 _ hi;subst e4;have R1:=R.frzX hi e3 e5 e6 r;obtain⟨bs,vs,rfl,_⟩:=r;refine⟨_,B,_,d',R1,e1,λv Z' H' x g=>?_⟩;have ha:Z' a=some (.ext (cb th a ks bs vs)):=x.z _ _ au;obtain⟨b,us,es,rfl,rfl,g1,g2,g3,g4⟩:=g;have hne:b≠a:=λz=>by subst z;rw[e5]at g1;cases g1
  exact k _ (era Z' a) H' (x.unfrz e6 e5) ⟨b,us,es,rfl,rfl,g1,g2,by rw[iM hne];exact g3,kW ha es (by unfold pl at hp;exact hp) g4⟩
 .cases e⟩
theorem NR{α:Type}{p:List α->Prop}(h:∀a,p [a]):∀us:List α,us.length=1->p us
 | [a],_=>h a
theorem Pg{α:Type}{p:List α->Prop}(h:∀a b,p [a,b]):∀us:List α,us.length=2->p us
 | [a,b],_=>h a b
theorem Pp{α:Type}{p:List α->Prop}(h:∀a b c,p [a,b,c]):∀us:List α,us.length=3->p us
 | [a,b,c],_=>h a b c
theorem Py{α:Type}{p:List α->Prop}(h:∀a b c d,p [a,b,c,d]):∀us:List α,us.length=4->p us
 | [a,b,c,d],_=>h a b c d
theorem Pq{α:Type}{p:List α->Prop}(h:∀a b c d e,p [a,b,c,d,e]):∀us:List α,us.length=5->p us
 | [a,b,c,d,e],_=>h a b c d e
abbrev et(K:Fg)(x:Str)(st:YJ)(f:YH):Prop:=∃(oc kV dc pm cd ct:Yz)(od an:Yq)(sl:Yj),PySem.W.nsIn K mainGlobals x=some (some (.ref f))/\K.lookup f=some ⟨oc,od,.func (PySem.W.fnOf x x (cI st) (bt st) (aC st) .none kV dc pm an cd ct),sl⟩/\PySem.W.codeIn K cd x=true/\PySem.W.keepIn K (.ref f)=true
section
variable {K:Fg}{h:YD}{mg:Yk}{x:Str}{st:YJ}{f:YH}
theorem et.fn(A:et K x st f)(X:K.In h)(G:h.Ns mainGlobals mg):∃fd,Ca K x x st f fd/\PySem.W.keepIn K (.ref f)=true/\mg x=some (.ref f):=by
 obtain⟨_,_,_,_,_,_,_,_,_,a,l,c,k⟩:=A;exact⟨_,Dw l c k,k,PySem.W.mg_of X G a⟩
theorem Nt{oc kV dc pm cd ct:Yz}{od an:Yq}{sl:Yj}(a:PySem.W.nsIn K mainGlobals x=some (some (.ref f)))(l:K.lookup f=some ⟨oc,od,.func (PySem.W.fnOf x x (cI st) (bt st) (aC st) .none kV dc pm an cd ct),sl⟩)(c:PySem.W.codeIn K cd x=true)(k:PySem.W.keepIn K (.ref f)=true):et K x st f:=⟨_,_,_,_,_,_,_,_,_,a,l,c,k⟩
variable {P:YB}{w:YE}{base:YD}{d n:Nat}{g:Gr}{m:YO->YQ}{fd:YF}{ps:Yr}
theorem Dv(O:eh P w K mg base l9 d f fd ps (EI K n g m))(hk:PySem.W.keepIn K (.ref f)=true)(hm:mg x=some (.ref f))(hb:Binds K fd ps [])(hn:ps.length=n:=by rfl):∀j,d<=j->OH P w K mg base j x n g m:=
 λ_ hj=>⟨f,fd,ps,hn,O.mono hj,hm,hk,hb⟩
end
end Mi
namespace Mi
open PySem PySem.Spec PyProof.Rows L2 Xc
abbrev uT(K:Fg)(x:Str)(C:YH)(bm:Yo):Prop:=∃nm q N bs sn sub ab col dd k0 k1 k2 k3 k5,PySem.W.nsIn K mainGlobals x=some (some (.ref C))/\K.lookup C=some @6
abbrev PF(K:Fg)(C fI:YH):Prop:=PySem.W.findIn K (.ref C) "__init__"=some (some (.ref fI))/\PySem.W.findIn K (.ref C) "__setattr__"=some (some (.builtin "object.__setattr__"))/\PySem.W.findIn K (.ref C) "cell"=some none/\PySem.W.keepIn K (.ref C)=true/\
 PySem.W.findIn K (.ref C) "__getattribute__"=some (some (.builtin "BaseException.__getattribute__"))/\PySem.W.findIn K (.ref C) "__getattr__"=some none/\PySem.W.findIn K (.ref C) "__class__"=some (some (.builtin "object.__class__"))
section
variable {K:Fg}{h:YD}{mg:Yk}{x c:Str}{st:YJ}{f C HE fI E:YH}{bm:Yo}
theorem N1{a b:Nat}(h:¬a=b):@Ne YH a b:=h
theorem uT.g(A:uT K x C bm)(X:K.In h)(G:h.Ns mainGlobals mg):mg x=some (.ref C):=by
 obtain⟨_,_,_,_,_,_,_,_,_,_,_,_,_,_,a,_⟩:=A;exact PySem.W.mg_of X G a
theorem uT.ec(A:uT K x C (.ref HE::bmV))(R:PF K C fI)(l:K.lookup fI=some o)(ho:o.cls=.type "function":=by rfl):EC K C HE fI:=by
 obtain⟨_,_,_,_,_,_,_,_,_,_,_,_,_,_,_,a⟩:=A;exact⟨⟨_,_,_,_,_,_,_,_,_,_,_,_,_,_,a⟩,R.1,⟨_,l,ho⟩,R.2.1,R.2.2.1,R.2.2.2.1⟩
theorem yA{α β:Type}{f:α->β}:∀{L:List α},(L.map f).Nodup->∀{p q:α},p∈L->q∈L->f p=f q->p=q
 | [],_,_,_,h,_,_=>nomatch h
 | a::L,nd,p,q,hp,hq,e=>by
  obtain⟨n1,n2⟩:=Uz.mp nd;rcases p_.mp hp with rfl | h1
  .rcases p_.mp hq with rfl | h2
   .rfl
   .exact absurd e (n1 _ (UK h2))
  .rcases p_.mp hq with rfl | h2
   .exact absurd e.symm (n1 _ (UK h1))
   .exact yA n2 h1 h2 e
theorem J4{L:List (Str×Nat)}(X:K.In h)(G:h.Ns mainGlobals mg)(ha:∀p∈L,uT K p.1 p.2 (.ref HE::bmV))(up:(HE::L.map Prod.snd).Pairwise (@LT.lt Nat _))(nm:(L.map Prod.fst).Nodup):∀q∈L,∀n∈L.map Prod.fst,Cf K mg HE q.2 q.1 n:=λq hq n hn=>by
 obtain⟨p,hp,rfl⟩:=t_.mp hn;obtain⟨u1,u2⟩:=Uz.mp up;have A:=ha p hp;have g:=A.g X G;obtain⟨_,_,_,_,_,_,_,_,_,_,_,_,_,_,_,a⟩:=A;refine⟨p.2,g,⟨_,_,_,_,_,_,_,_,_,_,_,_,_,_,_,a⟩,N1 (UC (u1 _ (UK hp))),⟨λe=>?_,λe=>?_⟩⟩
 .rw[yA (u2.imp λz=>A_ z) hp hq e]
 .rw[yA nm hp hq e]
theorem Mp:(["NoHiding","NoNumber","TooMany","NoCell","NoShot","NothingLeft","NoCounts","Over","NoText","NoRow"]:Yr).Nodup:=by decide
theorem Lv{p:α->Prop}:∀a∈([]:List α),p a:=λ_ h=>nomatch h
theorem dY{p:α->Prop}{a:α}{L:List α}(h:p a)(t:∀b∈L,p b):∀b∈a::L,p b:=λb hb=>by
 rcases p_.mp hb with rfl | hb
 .exact h
 .exact t b hb
theorem KI(a:PySem.W.nsIn K mainGlobals x=some (some (.ref C)))(l:K.lookup C=some @6):uT K x C bm:=⟨_,_,_,_,_,_,_,_,_,_,_,_,_,_,a,l⟩
variable {P:YB}{w:YE}{base:YD}{d n:Nat}{g:Gr}{m:YO->Option Rs}{fd:YF}{ps:Yr}
theorem GM(O:eh P w K mg base (Jn P w) d f fd ps (Qm mg K n g m))(hk:PySem.W.keepIn K (.ref f)=true)(hm:mg x=some (.ref f))(hb:Binds K fd ps [])(hn:ps.length=n:=by rfl):∀j,d<=j->Ma P w K mg base j x n g m:=
 λ_ hj=>⟨f,fd,ps,hn,O.mono hj,hm,hk,hb⟩
end
end Mi
namespace Mi
open PySem PySem.Spec PyProof.Rows L2
structure Wd where
 P:Program
 w:World
 K:Fg
 mg:Str->Option Value
 base:Heap
abbrev Wd.Q(W:Wd)(d:Nat)(x:Str)(n:Nat)(g:Gr)(m:YO->YQ):Prop:=∀j,d<=j->OH W.P W.w W.K W.mg W.base j x n g m
abbrev Wd.At(W:Wd)(x:Str)(st:YJ):Prop:=∃f fd,Ca W.K x x st f fd/\PySem.W.keepIn W.K (.ref f)=true/\W.mg x=some (.ref f)
theorem et.at{K:Fg}{h:YD}{mg:Yk}{x:Str}{st:YJ}{f:YH}(X:K.In h)(G:h.Ns mainGlobals mg)(A:et K x st f):∃f fd,Ca K x x st f fd/\PySem.W.keepIn K (.ref f)=true/\mg x=some (.ref f):=
 let ⟨fd,a⟩:=A.fn X G
 ⟨f,fd,a⟩
abbrev Bi(x:Str)(st:YJ)(ps:Yr):Prop:=∀(kV doc pm:Yz)(an:Yq)(bS ct:Yz)(us:Yo),us.length=ps.length->bindArgs (PySem.W.fnOf x x (cI st) (bt st) (aC st) .none kV doc pm an bS ct) ⟨us,[]⟩=pure (ps.zip us)
variable {W:Wd}{x:Str}{st:YJ}{k:Nat}{g:Gr}{fb:Fs}
theorem hZ(N:Yr)(n:Nat)(h:W.At x st)
  (hb:∀(bS:Yz)(A:YC)(outer:List Env)(s:YA)(H:Hp)(E:XK)(f:YH),bF k (A.deeper (envOfC x (aC st) s.sz f bS))->N.Nodup->yw (gu l9 W.P W.w W.K W.mg W.base N x (aC st) f bS A outer s H E).nox g (bt st) fb)
  (S:cm N (N.take n) (aC st):=by exact⟨rfl,rfl,rfl,by decide +kernel,rfl,by decide +kernel,by decide +kernel⟩)
  (hB:Bi x st (N.take n):=by intro _ _ _ _ _ _;first | exact NR λ_=>rfl | exact Pg λ_ _=>rfl | exact Pp λ_ _ _=>rfl | exact Py λ_ _ _ _=>rfl | exact Pq λ_ _ _ _ _=>rfl):W.Q (k+1) x (N.take n).length g (bJ fb N.length):=by
 obtain⟨f,fd,F,hk,hm⟩:=h;exact Dv (SH F S (λbS A outer s H E hr=>hb bS A outer s H E f hr S.nd) (λ_ _ _ e=>e)) hk hm (F.binds hB)
theorem Ue(N:Yr)(n:Nat)(F:Ca W.K x x st f fd)
  (hb:∀(bS:Yz)(A:YC)(outer:List Env)(s:YA)(H:Hp)(E:XK)(f:YH),bF k (A.deeper (envOfC x (aC st) s.sz f bS))->N.Nodup->yw (gu l9 W.P W.w W.K W.mg W.base N x (aC st) f bS A outer s H E).nox g (bt st) fb)
  (S:cm N (N.take n) (aC st):=by exact⟨rfl,rfl,rfl,by decide +kernel,rfl,by decide +kernel,by decide +kernel⟩):eh W.P W.w W.K W.mg W.base l9 (k+1) f fd (N.take n) (EI W.K (N.take n).length g (bJ fb N.length)):=
 SH F S (λbS A outer s H E hr=>hb bS A outer s H E f hr S.nd) λ_ _ _ e=>e
theorem Uv{m:Nat->YO->YQ}{fb:Nat->Fs}(N:Yr)(n i:Nat)(h:W.At x st)(h0:m 0=λ_=>none)(h1:∀i,m (i+1)=bJ (fb i) N.length)
  (hb:∀i,OH W.P W.w W.K W.mg W.base (k+i) x (N.take n).length g (m i)->∀(bS:Yz)(A:YC)(outer:List Env)(s:YA)(H:Hp)(E:XK)(f:YH),bF (k+i) (A.deeper (envOfC x (aC st) s.sz f bS))->N.Nodup->yw (gu l9 W.P W.w W.K W.mg W.base N x (aC st) f bS A outer s H E).nox g (bt st) (fb i))
  (S:cm N (N.take n) (aC st):=by exact⟨rfl,rfl,rfl,by decide +kernel,rfl,by decide +kernel,by decide +kernel⟩)
  (hB:Bi x st (N.take n):=by intro _ _ _ _ _ _;first | exact NR λ_=>rfl | exact Pg λ_ _=>rfl | exact Pp λ_ _ _=>rfl | exact Py λ_ _ _ _=>rfl | exact Pq λ_ _ _ _ _=>rfl):W.Q (k+i) x (N.take n).length g (m i):=by
 induction i with
 | zero=>
  obtain⟨f,fd,F,hk,hm⟩:=h;exact λj _=>⟨f,fd,_,rfl,by rw[h0];exact Eu,hm,hk,F.binds hB⟩
 | succ i c=>
  rw[h1];exact hZ N n h (hb i (c (k+i) (m_ _))) S hB
section
variable {X:Cx}{k d n:Nat}{l:YI}{es:Yt}{fs:Fes}{m:YO->YQ}{p pos:Pos}
theorem aQ(C:∀j,d<=j->OH X.prog X.w X.K X.mg X.base j x n g m)(hr:bF k X.A)(hl:PL X (l::es) fs)(hd:d<=k:=by first | decide | omega)(hn:(l::es).length=n:=by rfl)(hg:Gl X x:=by rfl)(k8:@9:=by decide)
  (he:starEach (l::es) X.env=(false,eval l X.env)::starEach es X.env:=by rfl) (fy:(backTo pos (starEach es X.env)).any (·.1)=false:=by rfl):PD X g (.Call (.Name x p) (l::es) [] pos) (λenv=>(fs env).bind m):=FE (C k hd) hr hl hn hg k8 he fy
end
end Mi
namespace Mi
open PySem PySem.Spec PyProof.Rows L2 Xc
abbrev Wd.QX(W:Wd)(d:Nat)(x:Str)(n:Nat)(m:YO->Option Rs):Prop:=∀j,d<=j->Ma W.P W.w W.K W.mg W.base j x n .cl m
abbrev Wd.X(W:Wd)(c:Str):Prop:=XC W.P W.w W.K W.mg W.base 1 c
variable {W:Wd}{x:Str}{st:YJ}{k:Nat}{g:Gr}{fb:FsX}
theorem Qg(N:Yr)(n:Nat)(h:W.At x st)
  (hb:∀(bS:Yz)(A:YC)(outer:List Env)(s:YA)(H:Hp)(E:XK)(f:YH),bF k (A.deeper (envOfC x (aC st) s.sz f bS))->N.Nodup->F0 (gu (Jn W.P W.w) W.P W.w W.K W.mg W.base N x (aC st) f bS A outer s H E) .cl (bt st) fb)
  (S:cm N (N.take n) (aC st):=by exact⟨rfl,rfl,rfl,by decide +kernel,rfl,by decide +kernel,by decide +kernel⟩)
  (hB:Bi x st (N.take n):=by intro _ _ _ _ _ _;first | exact NR λ_=>rfl | exact Pg λ_ _=>rfl | exact Pp λ_ _ _=>rfl | exact Py λ_ _ _ _=>rfl | exact Pq λ_ _ _ _ _=>rfl):W.QX (k+1) x (N.take n).length (Cy fb N.length):=by
 obtain⟨f,fd,F,hk,hm⟩:=h;exact GM (Uh F S (λbS A outer s H E hr=>hb bS A outer s H E f hr S.nd) (λ_ _ _ e=>e)) hk hm (F.binds hB)
theorem QH(N:Yr)(n:Nat)(h:W.At x st)
  (hb:∀(bS:Yz)(A:YC)(outer:List Env)(s:YA)(H:Hp)(E:XK)(f:YH),bF k (A.deeper (envOfC x (aC st) s.sz f bS))->N.Nodup->Cs (gu l9 W.P W.w W.K W.mg W.base N x (aC st) f bS A outer s H E) g (bt st) fb)
  (S:cm N (N.take n) (aC st):=by exact⟨rfl,rfl,rfl,by decide +kernel,rfl,by decide +kernel,by decide +kernel⟩)
  (hB:Bi x st (N.take n):=by intro _ _ _ _ _ _;first | exact NR λ_=>rfl | exact Pg λ_ _=>rfl | exact Pp λ_ _ _=>rfl | exact Py λ_ _ _ _=>rfl | exact Pq λ_ _ _ _ _=>rfl):W.Q (k+1) x (N.take n).length g (DU fb N.length):=by
 obtain⟨f,fd,F,hk,hm⟩:=h;exact Dv (Qd F S (λbS A outer s H E hr=>hb bS A outer s H E f hr S.nd) (λ_ _ _ e=>e)) hk hm (F.binds hB)
end Mi
namespace K13
open PySem Mi
abbrev ag:Fe:=λenv=>dR env 0
abbrev ah:Fe:=λenv=>dR env 1
abbrev aD:Fe:=λenv=>dR env 2
abbrev ay:Fe:=λenv=>dR env 3
abbrev aV:Fe:=λenv=>dR env 4
abbrev cB:Fe:=λenv=>dR env 5
abbrev cE:Fe:=λenv=>dR env 6
abbrev dg:Fe:=λenv=>dR env 7
abbrev er:Fe:=λenv=>dR env 8
abbrev iB:Fe:=λenv=>dR env 9
abbrev iR:Fe:=λenv=>dR env 10
abbrev nM:Fe:=λenv=>dR env 11
abbrev dC:Fe:=λenv=>dR env 12
abbrev tz:Fe:=λenv=>dR env 13
abbrev J8:Fe:=λenv=>dR env 14
noncomputable section
variable [Th]
def cs_:Yr:=["NoHiding","NoCell","NoShot"]
def o7:D:=(.int 8)
def oh:D:=(.tup [(.str "along"),(.str "down")])
def mD :Fs:=(aE (setF 2 (ar mulI (ar addI (ar addI (ar modI ag (ar powI (fC (.int 10)) (fC (.int 60)))) (ar mulI (fC (.int 7919)) ah)) YT) (fC (.int 27182818284590452353602874713527)))) (aE (setF 2 (ar modI aD (fC (.int 170141183460469231731687303715884105727)))) (bw (ar fdivI (ar modI (ar powI (ar addI (ar powI aD (fC (.int 5))) (ar mulI (fC (.int 48271)) ah)) YV) (fC (.int 162259276829213363391578010288127))) (fC (.int 7))))))
def m__law_stir:=bJ (mD ) 3
def e9:Fs:=(jr (Ek (fB (ar ltI ag (ar powI (fC (.int 10)) (fC (.int 18))))) (fB (ar eJ ay YS))) (ju 2 (ar modI (λenv=>((aa ag (aa aV fNil)) env).bind m__law_stir) (ar aI ah aV))) (aE (ju 2 (ar modI ay (ar aI ah aV))) (setF 3 (ar fdivI ay (ar aI ah aV)))))
def sC:Fs:=(aE (setO 2 (bO fNil)) (aE (setF 3 ag) (aE (dS (ir (bN dM ah)) (bq 4) e9) (rL 2))))
def m__law_drawn:=bJ sC 5
def uE:Fs:=(aE (Lq [1,2,3,4,5,6,7] (λenv=>((aa ag (aa (bO (aa YW (aa YW (aa YW (aa YW (aa YW (aa YW (aa YV fNil)))))))) fNil)) env).bind m__law_drawn)) (aE (setF 8 (ar aI (bO (aa (bj (aa (ar addI YT aD) (aa (ar addI YT ay) fNil))) (aa (bj (aa (ar addI YU (ar modI aD YV)) (aa (ar addI YU (ar modI ay YV)) fNil))) (aa (bj (aa (ar addI YT (ar modI aD YV)) (aa (ar addI YV (ar modI ay YU)) fNil))) fNil)))) (ar minI ah YU))) (aE (jr (fB (ar eJ ah YV)) (setF 8 (bj (aa YU (aa (ar addI YU ay) fNil)))) nxF) (aE (setF 9 (ar aI (bO (aa (bj (aa (ar addI YT aV) fNil)) (aa (bj (aa (ar addI YT (ar modI aV YV)) (aa (ar addI YT (ar modI cB YV)) fNil))) (aa (bj (aa (ar addI YT (ar modI aV YV)) (aa (ar addI YT (ar modI cB YU)) (aa (ar addI YT (ar modI cE YU)) fNil)))) fNil)))) (ar modI ah YV))) (aE (jr (fB (ar eJ ah YV)) (setF 9 (bj (aa (ar addI YT (ar modI aV YV)) (aa (ar addI YT (ar modI cB YV)) (aa (ar addI YT (ar modI cE YU)) fNil))))) nxF) (aE (setF 9 (bN lZ (bN Fl (bN sortI iB)))) (bw (bj (aa er (aa iB (aa (ar aI (bO (aa (fC (.str "free")) (aa (fC (.str "sides")) (aa (fC (.str "corners")) fNil)))) dg) fNil)))))))))))
def m__law_game:=bJ uE 10
def fm :Fs:=(aE (jr (fB (ar leI (ar addI aV ah) (ar aI ag YT))) (ju 2 (bj (aa ay (aa aV (aa (fC (.str "along")) (aa ah fNil)))))) nxF) (jr (qp (fB (ar leI (ar addI ay ah) (ar aI ag YS))) (fB (ar gtI ah YT))) (ju 2 (bj (aa ay (aa aV (aa (fC (.str "down")) (aa ah fNil)))))) nxF))
def dq :Fs:=(dS (ir (ar aI ag YT)) (bq 4) (fm ))
def tu :Fs:=(aE (setO 2 (bO fNil)) (aE (dS (ir (ar aI ag YS)) (bq 3) (dq )) (rL 2)))
def m__law_ships:=bJ (tu ) 5
def eT :Fs:=(ju 5 (bj (aa (ar addI ah (ar mulI cE (bN intD (ar eJ ay (fC (.str "down")))))) (aa (ar addI aD (ar mulI cE (bN intD (ar eJ ay (fC (.str "along")))))) fNil))))
def rM :Fs:=(aE (B8 [1,2,3,4] ag) (aE (setO 5 (bO fNil)) (aE (dS (ir aV) (bq 6) (eT )) (rL 5))))
def m__law_cells:=bJ (rM ) 7
def jz :Fs:=(Au Th.h 2 (fC (.bl true)) (bj (aa (ar addI aV cE) (aa (ar addI cB dg) fNil))))
def d6 :Fs:=(dS (cx ay) (lb [6,7]) (jz ))
def uD:Fs:=(aE (setM 2 (fC (.mp Th.h [] []))) (aE (setF 3 (bO (aa (bj (aa YS (aa YS fNil))) fNil))) (aE (jr (fB (ar ud ag (fC (.str "free")))) (setF 3 (ar kS ay (bO (aa (bj (aa YS (aa YT fNil))) (aa (bj (aa YT (aa YS fNil))) (aa (bj (aa YS (aa (bN jI YT) fNil))) (aa (bj (aa (bN jI YT) (aa YS fNil))) fNil))))))) nxF) (aE (jr (fB (ar eJ ag (fC (.str "corners")))) (setF 3 (ar kS ay (bO (aa (bj (aa YT (aa YT fNil))) (aa (bj (aa YT (aa (bN jI YT) fNil))) (aa (bj (aa (bN jI YT) (aa YT fNil))) (aa (bj (aa (bN jI YT) (aa (bN jI YT) fNil))) fNil))))))) nxF) (aE (dS (cx (λenv=>((aa ah fNil) env).bind m__law_cells)) (lb [4,5]) (d6 )) (Dn 2))))))
def m__law_halo:=bJ uD 8
def jE :Fs:=(jr (fB (ar (Ju Th.h false) ay aD)) (bw (fC (.bl false))) nxF)
def dX :Fs:=(dS (cx ah) (bq 3) (jE ))
def ur :Fs:=(aE (dS (cx ag) (bq 2) (dX )) (bw (fC (.bl true))))
def m__law_free:=bJ (ur ) 4
def eH:Fs:=(aE (setF 13 (J2 (ar eJ aV YS) (J2 (ar ud (ar aI ah (ar subI aV YT)) cB) (ar Oi (ar aI iR (bN jI YT)) (ar aI cE dC))))) (jr (qp (fB tz) (fB (λenv=>((aa nM (aa (ar aI er dC) fNil)) env).bind m__law_free))) (ju 9 (bj (aa (ar Bv iR (bj (aa (ar aI cE dC) fNil))) (aa (ar kS nM (bO (aa (ar aI dg dC) fNil))) fNil)))) nxF))
def eB:Fs:=(dS (ir (bN dM cE)) (bq 12) eH)
def gK:Fs:=(aE (setF 6 (λenv=>((aa ag (aa cB fNil)) env).bind m__law_ships)) (aE (setF 7 (aM (cx cE) [0] (bq 0) YX (aF (λenv=>((aa ah (aa ag fNil)) env).bind m__law_halo)) 1 [2])) (aE (setF 8 (aM (cx cE) [0] (bq 0) YX (aF (λenv=>((aa ag fNil) env).bind m__law_cells)) 1 [])) (aE (setO 9 (bO fNil)) (aE (dS (cx ay) (lb [10,11]) eB) (aE (vp 9) (setF 3 iB)))))))
def xl:Fs:=(aE (setF 3 (bO (aa (bj (aa (bj fNil) (aa (bO fNil) fNil))) fNil))) (aE (dS (IU ah) (lb [4,5]) gK) (bw (aM (cx ay) [0,1] (lb [0,1]) YX (aF ag) 2 []))))
def m__law_all:=bJ xl 14
def qg:Fs:=(aE (B8 [1,2,3] (λenv=>((aa ag fNil) env).bind m__law_game)) (aE (setF 4 (λenv=>((aa ah (aa aD (aa ay fNil))) env).bind m__law_all)) (aE (jr (fB (ar eJ aV (bO fNil))) (aE (setF 2 (bj (aa YT fNil))) (setF 4 (λenv=>((aa ah (aa aD (aa ay fNil))) env).bind m__law_all))) nxF) (bw (bj (aa ah (aa aD (aa ay (aa aV fNil)))))))))
def m__law_played:=bJ qg 5
def iT:Fs:=(CK 2 (ar modI (λenv=>((aa ag (aa (ar addI (ar mulI YV ay) YT) fNil)) env).bind m__law_stir) (ar addI ay YT)) aV)
def rT:Fs:=(aE (setO 2 (bO fNil)) (aE (dS (IU ah) (lb [3,4]) iT) (rL 2)))
def m__law_order:=bJ rT 5
def d9 :Fs:=(tQ 1 (aM (ir (ar aI ag YT)) [0] (bq 0) YX (aF (bj (aa ah (aa ag fNil)))) 1 [2]))
def jO :Fs:=(aE (setO 1 (bO fNil)) (aE (dS (ir (ar aI ag YS)) (bq 2) (d9 )) (rL 1)))
def m__law_sheet_cells:=bJ (jO ) 3
def dO :Fs:=(jr (fB (ar (j7 false) cB (ar aI ay dg))) (aE (vq 2 dg (ar subI (ar aI (λenv=>tL env 2) dg) YT)) (setF 6 (ar aI (bO (aa (fC (.str "hit")) (aa (fC (.str "sunk")) fNil))) (bN intD (ar eJ (ar aI (λenv=>tL env 2) dg) YS))))) nxF)
def dQ :Fs:=(aE (setF 6 (fC (.str "water"))) (aE (dS (ir (bN dM ag)) (bq 7) (dO )) (ju 4 cE)))
def oV:Fs:=(aE (setO 2 (aM (Ae ag) [0] (bq 0) YX (aF (bN dM (λenv=>((aa ag fNil) env).bind m__law_cells))) 1 [])) (aE (setF 3 (aM (Ae ag) [0] (bq 0) YX (aF (λenv=>((aa ag fNil) env).bind m__law_cells)) 1 [])) (aE (setO 4 (bO fNil)) (aE (dS (cx ah) (bq 5) (dQ )) (rL 4)))))
def m__law_answers:=bJ oV 8
def qb:Fs:=(aE (Lq [3,4,5,6,7] (λenv=>((aa ag (aa (bO (aa (bN dM aD) (aa (fC (.int 9)) (aa YW (aa (fC (.int 9)) (aa YV fNil)))))) fNil)) env).bind m__law_drawn)) (aE (setF 8 (GX iK (λenv=>((aa (ar addI ag YT) (aa (λenv=>((aa ah fNil) env).bind m__law_sheet_cells) fNil)) env).bind m__law_order) oNone (k6 aV))) (aE (setO 9 (λenv=>((aa (ar aI aD ay) (aa er fNil)) env).bind m__law_answers)) (aE (jr (qp (fB (ar eJ cB YS)) (fB (ar ud er (bO fNil)))) (vq 9 (ar modI cE (bN dM er)) (ar aI (bO (aa (fC (.str "water")) (aa (fC (.str "hit")) (aa (fC (.str "sunk")) fNil)))) dg)) nxF) (aE (vp 9) (bw (ar Km er iB)))))))
def m__law_record:=bJ qb 10
def uo:Fs:=(bw (ar eJ (λenv=>((aa ag (aa (aM (cx ah) [0] (bq 0) YX (aF (ar aI ag YS)) 1 []) fNil)) env).bind m__law_answers) (aM (cx ah) [0] (bq 0) YX (aF (ar aI ag YT)) 1 [])))
def m__law_fits:=bJ uo 2
def wg :Fs:=(aE (B8 [1,2] ag) (bw (aM (ir ah) [0] (bq 0) YX (gA (ir aD) [1] (bq 1) YX (aF (bj (aa ag (aa ah fNil))))) 2 [2])))
def m_all_cells:=bJ (wg ) 3
def qk :Fs:=(bw (ka (bN (Hl .tuple) ag) (ar eJ (bN dM ag) ah)))
def m_is_tuple_of:=bJ (qk ) 2
def xP :Fs:=(bw (ka (bN (Hl .int) ag) (bN MK (bN (Hl .bool) ag))))
def m_is_whole:=bJ (xP ) 1
def BM:Fs:=(bw (ka (λenv=>((aa ag fNil) env).bind m_is_whole) (KL leI leI YT ag (fC o7))))
def m_is_size:=bJ BM 1
def Bm:Fs:=(aE (jr (oR (fB (λenv=>((aa ah (aa YU fNil)) env).bind m_is_tuple_of))) (bw (fC (.bl false))) nxF) (aE (B8 [2,3] ah) (bw (ka (λenv=>((aa aD fNil) env).bind m_is_whole) (ka (λenv=>((aa ay fNil) env).bind m_is_whole) (ka (KL leI ltI YS aD (ar aI ag YS)) (KL leI ltI YS ay (ar aI ag YT))))))))
def m_is_cell:=bJ Bm 4
def BI:Fs:=(aE (jr (oR (fB (λenv=>((aa ah (aa YW fNil)) env).bind m_is_tuple_of))) (bw (fC (.bl false))) nxF) (aE (B8 [2,3,4,5] ah) (aE (jr (Ek (fB (ar (j7 true) aV (fC oh))) (Ek (oR (fB (λenv=>((aa cB fNil) env).bind m_is_size))) (oR (fB (λenv=>((aa ag (aa (bj (aa aD (aa ay fNil))) fNil)) env).bind m_is_cell))))) (bw (fC (.bl false))) nxF) (aE (jr (fB (ar eJ aV (fC (.str "down")))) (bw (ka (ar gtI cB YT) (ar leI (ar addI aD cB) (ar aI ag YS)))) nxF) (bw (ar leI (ar addI ay cB) (ar aI ag YT)))))))
def m_is_ship:=bJ BI 6
def yD:Fs:=(aE (setF 2 (aM (cx (λenv=>((aa ag fNil) env).bind m_all_cells)) [0,1] (lb [0,1]) YX (gA (Ae (fC oh)) [2] (bq 2) YX (aF (bj (aa ag (aa ah (aa aD (aa ay fNil))))))) 3 [1])) (bw (aM (cx aD) [0] (bq 0) (fB (λenv=>((aa ah (aa ag fNil)) env).bind m_is_ship)) (aF ag) 1 [0])))
def m_ships_of:=bJ yD 3
def xZ :Fs:=(aE (B8 [1,2,3,4] ag) (aE (jr (fB (ar eJ ay (fC (.str "down")))) (bw (aM (ir aV) [0] (bq 0) YX (aF (bj (aa (ar addI ah ag) (aa aD fNil)))) 1 [1,2])) nxF) (bw (aM (ir aV) [0] (bq 0) YX (aF (bj (aa ah (aa (ar addI aD ag) fNil)))) 1 [1,2]))))
def m_cells_of:=bJ (xZ ) 5
def cP :Fs:=(jr (fB (ar (j7 false) ah ay)) (bw (iteFn (fB (bN G6 (aM (cx ay) [0] (bq 0) YX (aF (ar (j7 false) ag ah)) 1 [2]))) (fC (.str "sunk")) (fC (.str "hit")))) nxF)
def v9 :Fs:=(aE (dS (cx ag) (bq 3) (cP )) (bw (fC (.str "water"))))
def m_answer_to:=bJ (v9 ) 4
def rY:Fs:=(aE (setF 2 (aM (Ae ag) [0] (bq 0) YX (aF (λenv=>((aa ag fNil) env).bind m_cells_of)) 1 [])) (bw (aM (IU ah) [0,1] (lb [0,1]) YX (aF (λenv=>((aa aD (aa ah (aa (GX iK ay oNone (k6 (ar addI ag YT))) fNil))) env).bind m_answer_to)) 2 [2,1])))
def m_answers_of:=bJ rY 3
def rS :Fs:=(bw (aM (cx ag) [0,1] (lb [0,1]) YX (aF ag) 2 []))
def m_shot_cells:=bJ (rS ) 1
def Ld:Fs:=(bw (ar eJ (λenv=>((aa ag (aa (λenv=>((aa ah fNil) env).bind m_shot_cells) fNil)) env).bind m_answers_of) (aM (cx ah) [0,1] (lb [0,1]) YX (aF ah) 2 [])))
def m_fits:=bJ Ld 2
def vC:Fs:=(aE (setF 2 (λenv=>((aa ag fNil) env).bind m_cells_of)) (bw (λenv=>((aa (bj (aa ag fNil)) (aa (aM (cx ah) [0,1] (lb [0,1]) (fB (ar (j7 false) ag aD)) (aF (bj (aa ag (aa ah fNil)))) 2 [2]) fNil)) env).bind m_fits)))
def m_ship_fits:=bJ vC 3
def o5 :Fs:=(aE (setF 2 (iteFn (fB (ar eJ (ar aI ag YU) (fC (.str "down")))) (ar subI (ar addI (ar aI ag YS) (ar aI ag YV)) YT) (ar aI ag YS))) (aE (setF 3 (iteFn (fB (ar eJ (ar aI ah YU) (fC (.str "down")))) (ar subI (ar addI (ar aI ah YS) (ar aI ah YV)) YT) (ar aI ah YS))) (bw (QZ EX (ar subI (ar aI ah YS) aD) (ar subI (ar aI ag YS) ay) YS))))
def m_rows_between:=bJ (o5 ) 4
def kG :Fs:=(aE (setF 2 (iteFn (fB (ar eJ (ar aI ag YU) (fC (.str "along")))) (ar subI (ar addI (ar aI ag YT) (ar aI ag YV)) YT) (ar aI ag YT))) (aE (setF 3 (iteFn (fB (ar eJ (ar aI ah YU) (fC (.str "along")))) (ar subI (ar addI (ar aI ah YT) (ar aI ah YV)) YT) (ar aI ah YT))) (bw (QZ EX (ar subI (ar aI ah YT) aD) (ar subI (ar aI ag YT) ay) YS))))
def m_columns_between:=bJ (kG ) 4
def Lm:Fs:=(aE (setF 3 (λenv=>((aa ah (aa aD fNil)) env).bind m_rows_between)) (aE (setF 4 (λenv=>((aa ah (aa aD fNil)) env).bind m_columns_between)) (aE (jr (fB (ar eJ ag (fC (.str "free")))) (bw (ar gtI (ar addI ay aV) YS)) nxF) (aE (jr (fB (ar eJ ag (fC (.str "sides")))) (bw (ar gtI (ar addI ay aV) YT)) nxF) (bw (ar gtI (ar maxI ay aV) YT))))))
def m_keep:=bJ Lm 5
def sX:Fs:=(aE (jr (qp (fB (ar eJ (ar aI aD YV) (ar aI ah YV))) (fB (ar NB aD ah))) (bw (fC (.bl false))) nxF) (bw (λenv=>((aa ag (aa ah (aa aD fNil))) env).bind m_keep)))
def m_may_follow:=bJ sX 3
def fN(el:YO->YQ):Fs:=(aE (setF 6 (aM (cx ay) [0] (bq 0) YX (aF (aM (cx ag) [0] (bq 0) (fB (λenv=>((aa ah (aa aD (aa ag fNil))) env).bind m_may_follow)) (aF ag) 1 [1,2])) 1 [0,5])) (tQ 4 (aM (cx (λenv=>((aa ag (aa cE fNil)) env).bind el)) [0] (bq 0) YX (aF (ar Bv (bj (aa ah fNil)) ag)) 1 [5])))
def cT(el:YO->YQ):Fs:=(aE (IK 2 3 ah) (aE (jr (oR (fT ay)) (bw (aM (cx aD) [0] (bq 0) YX (aF (bj (aa ag fNil))) 1 [])) nxF) (aE (setO 4 (bO fNil)) (aE (dS (cx aD) (bq 5) (fN el)) (rL 4)))))
def bo:Nat->YO->YQ
 | 0=>λ_=>none
 | n+1=>bJ (cT (bo n)) 7
def ib:YO->YQ:=bo 4
def pP:Fs:=(aE (setF 4 (aM (cx ay) [0,1] (lb [0,1]) (fB (ar ud ah (fC (.str "water")))) (aF ag) 2 [])) (aE (setF 5 (aM (Ae ah) [0] (bq 0) YX (aF (aM (cx (λenv=>((aa ah (aa ag fNil)) env).bind m_ships_of)) [0] (bq 0) (fB (λenv=>((aa ag (aa ah fNil)) env).bind m_ship_fits)) (aF ag) 1 [2])) 1 [0,3])) (aE (setF 6 (fV Th.h (cx cB) [0] (bq 0) YX (gA (cx ag) [1] (bq 1) YX (fA ah (bN dM (aM (cx (λenv=>((aa ah fNil) env).bind m_cells_of)) [0] (bq 0) (fB (ar (j7 false) ag ah)) (aF ag) 1 [2])))) 2 [4])) (aE (setF 7 (λenv=>((aa aD (aa cB fNil)) env).bind ib)) (bw (aM (cx dg) [0] (bq 0) (fB (ar eJ (bN Hy (aM (Ae ag) [0] (bq 0) YX (aF (ar (getM Th.h) ah ag)) 1 [1])) (bN dM aD))) (aF ag) 1 [6,4]))))))
def m_all_fitting:=bJ pP 8
def oH:FsX:=(ip (yz (setF 4 (λenv=>((aa ag (aa ah (aa aD (aa ay fNil)))) env).bind m_all_fitting))) (ip (HA (oR (fT aV)) (nD "NoHiding" (aa (fC (.str "no hiding fits the record")) fNil)) (yz nxF)) (yz (bw aV))))
def m_some_fitting:=Cy oH 5
def pS:FsX:=(ip (HA (oR (fB (λenv=>((aa ag (aa aD fNil)) env).bind m_is_cell))) (nD "NoCell" (aa (fC (.str "the sheet has no such cell")) (aa aD fNil))) (yz nxF)) (HA (fB (ar (j7 false) aD (λenv=>((aa ah fNil) env).bind m_shot_cells))) (nD "NoShot" (aa (fC (.str "the cell was shot before")) (aa aD fNil))) (yz nxF)))
def m_refuse_shot:=Cy pS 3
def o9:Fs:=(aE (setF 2 (bN DV (λenv=>((aa ah fNil) env).bind m_shot_cells))) (bw (aM (cx (λenv=>((aa ag fNil) env).bind m_all_cells)) [0] (bq 0) (fB (ar (Pe true) ag ah)) (aF ag) 1 [2])))
def m_unshot_cells:=bJ o9 3
def cw :Fs:=(Au Th.h 1 (ar addI (zW Th.h (λenv=>tL env 1) ay YS) YT) ay)
def ig :Fs:=(dS (Ae aD) (bq 3) (cw ))
def pO :Fs:=(aE (setM 1 (fC (.mp Th.h [] []))) (aE (dS (cx ag) (bq 2) (ig )) (Dn 1)))
def m_ship_counts:=bJ (pO ) 4
def gX:Fs:=(aE (setF 8 (Gc 4 (aM (cx (λenv=>((aa cE fNil) env).bind m_cells_of)) [0] (bq 0) (fB (ar (Ju Th.h false) ag ah)) (aF ag) 1 [4]))) (AF Th.h 9 5 4 10 7 8 (fB (ar eJ (bN dM er) YT))))
def xG:Fs:=(aE (setF 3 (λenv=>((aa ag (aa aD fNil)) env).bind m_unshot_cells)) (aE (setM 4 (fV Th.h (cx ay) [0] (bq 0) YX (fA ag YS) 1 [])) (aE (setM 5 (fV Th.h (cx ay) [0] (bq 0) YX (fA ag YS) 1 [])) (aE (dS (Px Th.h (λenv=>((aa ah fNil) env).bind m_ship_counts)) (lb [6,7]) gX) (aE (vp 4) (aE (vp 5) (bw (fV Th.h (cx ay) [0] (bq 0) YX (fA ag (bj (aa (ar subI (ar subI (bN dM ah) (ar (getM Th.h) aD ag)) (ar (getM Th.h) ay ag)) (aa (ar (getM Th.h) aD ag) (aa (ar (getM Th.h) ay ag) fNil))))) 1 [1,4,5]))))))))
def m_parts_in:=bJ xG 11
def w4:FsX:=(ip (xC 5 (oX (Kq (aa ag (aa ah (aa aD (aa ay fNil))))) m_some_fitting)) (ip (yU (oX (Kq (aa ag (aa ay (aa aV fNil)))) m_refuse_shot)) (yz (bw (ar (getM Th.h) (λenv=>((aa ag (aa cB (aa ay fNil))) env).bind m_parts_in) aV)))))
def m_parts_of:=Cy w4 6
def uL:FsX:=(ip (yz (setF 3 (fC .non))) (ip (Ez cs_ 4 3 (xC 3 (oX (Kq (aa (ar aI ag YS) (aa (ar aI ag YT) (aa (ar aI ag YU) (aa ah (aa aD fNil)))))) m_parts_of))) (yz (bw ay))))
def m__law_told:=DU uL 5
def vP :Fs:=(aE (setF 1 (bO (aa (fC (.str "hiding")) (aa (fC (.str "number")) (aa (fC (.str "many")) (aa (fC (.str "cell")) (aa (fC (.str "shot")) (aa (fC (.str "nothing")) (aa (fC (.str "counts")) (aa (fC (.str "over")) (aa (fC (.str "text")) (aa (fC (.str "row")) fNil)))))))))))) (bw (ar kS (aM (cx ah) [0] (bq 0) YX (aF (ar eJ ag ah)) 1 [0]) (bO (aa (fC (.bl true)) fNil)))))
def m__law_only:=bJ (vP ) 2
def xT:Fs:=(aE (jr (fB (ar eJ ah (bO fNil))) (bw (λenv=>((aa (fC (.str "hiding")) fNil) env).bind m__law_only)) nxF) (aE (jr (fB (ar (j7 true) ay (λenv=>((aa ag fNil) env).bind m__law_sheet_cells))) (bw (λenv=>((aa (fC (.str "cell")) fNil) env).bind m__law_only)) nxF) (aE (jr (fB (ar (j7 false) ay aD)) (bw (λenv=>((aa (fC (.str "shot")) fNil) env).bind m__law_only)) nxF) (aE (setF 4 (aM (cx ah) [0] (bq 0) YX (aF (ar aI (λenv=>((aa ag (aa (ar kS ah (bO (aa aD fNil))) fNil)) env).bind m__law_answers) (bN jI YT))) 1 [2,3])) (bw (bj (aa (ar Fv aV (fC (.str "water"))) (aa (ar Fv aV (fC (.str "hit"))) (aa (ar Fv aV (fC (.str "sunk"))) fNil)))))))))
def m__law_due:=bJ xT 5
def tU:Fs:=(aE (setF 13 (bN zL dg)) (aE (setF 14 (λenv=>((aa (bj (aa aD (aa ay (aa aV fNil)))) (aa tz (aa dC fNil))) env).bind m__law_told)) (jr (Ek (fB (ar ud J8 (λenv=>((aa aD (aa er (aa iB (aa dC fNil)))) env).bind m__law_due))) (fB (ar ud tz dg))) (bw (fC (.bl false))) nxF)))
def tJ:Fs:=(aE (setF 7 (λenv=>((aa (ar addI ah cE) (aa aD (aa cB fNil))) env).bind m__law_record)) (aE (setF 8 (aM (cx cB) [0] (bq 0) (fB (λenv=>((aa ag (aa ah fNil)) env).bind m__law_fits)) (aF ag) 1 [7])) (aE (setF 9 (aM (cx dg) [0] (bq 0) YX (aF (ar aI ag YS)) 1 [])) (aE (setF 10 (ar addI YT (ar modI (λenv=>((aa ah (aa (fC (.int 900)) fNil)) env).bind m__law_stir) (ar powI (fC (.int 10)) (fC (.int 15)))))) (aE (setF 11 (bO (aa (bj (aa (bN jI YT) (aa YS fNil))) (aa (bj (aa YS (aa (ar aI aD YT) fNil))) (aa (bj (aa (ar aI aD YS) (aa YS fNil))) (aa (bj (aa (ar subI YS iR) (aa iR fNil))) (aa (bj (aa (ar subI (ar aI aD YS) YT) (aa (ar subI YS YT) fNil))) fNil))))))) (dS (cx (ar kS (λenv=>((aa aD fNil) env).bind m__law_sheet_cells) nM)) (bq 12) tU))))))
def tN:Fs:=(aE (B8 [2,3,4,5] (λenv=>((aa ah fNil) env).bind m__law_played)) (dS (ir YU) (bq 6) tJ))
def Ob:Fs:=(aE (dS (cx (ar kS (bO (aa YS fNil)) (GX iK ag oNone (k6 YV)))) (bq 1) tN) (bw (fC (.bl true))))
def m_law:=bJ Ob 15
end
end K13
namespace K13
open PySem Mi
variable [Th]
theorem rR(c k:Int)(hk:0<=k)(hk2:k<=1000):∃z,m__law_stir [.int c,.int k]=some (.int z):=by
 have p60:powI (.int 10) (.int 60)=some (.int (10 ^ 60)):=oF (oz @2 @2) @2 @2;have RT:(0:Int)<10 ^ 60:=by decide +kernel
 have h1:(c%10 ^ 60).natAbs<=10 ^ 60:=by
  have a:=V2 c (Int.ne_of_gt RT);have b:=VG c RT;have e:(10 ^ 60:Int)=((10 ^ 60:Nat):Int):=by decide +kernel
  omega
 have m1:mulI (.int 7919) (.int k)=some (.int (7919*k)):=nG @2 @2 @1 @1;have h2:(c%10 ^ 60+7919*k+1).natAbs<=10 ^ 60+7919001:=by omega
 have m2:mulI (.int (c%10 ^ 60+7919*k+1)) (.int 27182818284590452353602874713527)=some (.int ((c%10 ^ 60+7919*k+1)*27182818284590452353602874713527)):=H8 (oB _ h2) (oB 27182818284590452353602874713527 @2);generalize hn:(c%10 ^ 60+7919*k+1)*27182818284590452353602874713527=n at m2;have Pb:modI (.int n) (.int 170141183460469231731687303715884105727)=some (.int (n%170141183460469231731687303715884105727)):=iQ @2;have h3:(n%170141183460469231731687303715884105727).natAbs<=170141183460469231731687303715884105727:=by omega
 generalize n%170141183460469231731687303715884105727=q at Pb h3;have p5:powI (.int q) (.int 5)=some (.int (q ^ 5)):=oF (oB _ h3) @2 @2;have h4:=GW _ 5 h3;have m3:mulI (.int 48271) (.int k)=some (.int (48271*k)):=nG @2 @2 @1 @1;have h5:(q ^ 5+48271*k).natAbs<=170141183460469231731687303715884105727 ^ 5+48271000:=Ge _ _ h4 @1;generalize q ^ 5=t at p5 h5;have p3:powI (.int (t+48271*k)) (.int 3)=some (.int ((t+48271*k) ^ 3)):=oF (oB _ h5) @2 @2;have hmod2:modI (.int ((t+48271*k) ^ 3)) (.int 162259276829213363391578010288127)=some (.int ((t+48271*k) ^ 3%162259276829213363391578010288127)):=iQ @2;have hd:fdivI (.int ((t+48271*k) ^ 3%162259276829213363391578010288127)) (.int 7)=some (.int ((t+48271*k) ^ 3%162259276829213363391578010288127/7)):=y8 @2 @2;have hmod0:modI (.int c) (.int (10 ^ 60))=some (.int (c%10 ^ 60)):=iQ RT;refine⟨(t+48271*k) ^ 3%162259276829213363391578010288127/7,?_⟩
 .unfold m__law_stir bJ mD;simp only[bU,List.map,List.length,List.replicate,V_,U0,aE,setF,bw,ar,fC,KU,Kx,Vt,List.set,List.getElem?_cons_zero,List.getElem?_cons_succ,p60,hmod0,m1,fH,m2,Pb,p5,m3,p3,hmod2,hd]
theorem JS:∃w,powI (.int 10) (.int 18)=some (.int w):=⟨_,oF (oz @2 @2) @2 @2⟩
theorem G1(c q:Int)(ss r:Yw)(i:Nat)(s:Int)(Pc:ss[i]?=some s)(hpos:0<s/\s<1073741824)(hi:i<1000)(hr:r.length=i) :
  ∃y q',e9 [.F (.int c),.F (.lst (ss.map .int)),.O (.L (r.map .int)),.F (.int q),.F (.int i)]=some (.nx [.F (.int c),.F (.lst (ss.map .int)),.O (.L ((r++[y]).map .int)),.F (.int q'),.F (.int i)])/\0<=y/\y<s:=by
 obtain⟨w,p18⟩:=JS;have JD:L2.atI (ss.map D.int) (i:Int)=some (.int s):=d7 (by rw[x_,Pc];rfl);obtain⟨z,hz⟩:=rR c i @1 @1;have hap:(r.map D.int).length<16000000:=by simp;omega
 have snoc:∀y:Int,(r++[y]).map D.int=r.map D.int++[D.int y]:=λy=>by simp
 have TZ:ar aI ah aV [.F (.int c),.F (.lst (ss.map .int)),.O (.L (r.map .int)),.F (.int q),.F (.int i)]=some (.int s):=fj rfl rfl JD;have t1:fB (ar ltI ag (ar powI (fC (.int 10)) (fC (.int 18)))) [.F (.int c),.F (.lst (ss.map .int)),.O (.L (r.map .int)),.F (.int q),.F (.int i)]=some (decide (c<w)):=cA ((aU rfl ((aU rfl rfl).trans p18)).trans (Lu _ _));have t2:fB (ar eJ ay YS) [.F (.int c),.F (.lst (ss.map .int)),.O (.L (r.map .int)),.F (.int q),.F (.int i)]=some (q==0):=cA ((aU rfl rfl).trans (BX _ _));have An:∀{t:Fb}{g:Fs},t [.F (.int c),.F (.lst (ss.map .int)),.O (.L (r.map .int)),.F (.int q),.F (.int i)]=some true->jr t (ju 2 (ar modI (λenv=>((aa ag (aa aV fNil)) env).bind m__law_stir) (ar aI ah aV))) g [.F (.int c),.F (.lst (ss.map .int)),.O (.L (r.map .int)),.F (.int q),.F (.int i)]=some (.nx [.F (.int c),.F (.lst (ss.map .int)),.O (.L ((r++[z%s]).map .int)),.F (.int q),.F (.int i)]):=λht=>by
  rw[snoc];exact(cq ht).trans ((mi rfl ((aU ((call_v (ai rfl (ai rfl aK))).trans hz) TZ).trans (iQ hpos.1)) hap))
 by_cases h1:c<w
 .rw[y_ h1]at t1;exact⟨z%s,q,An (NI t1),V2 _ @1,VG _ hpos.1⟩
 .rw[G_ h1]at t1
  by_cases h2:q=0
  .rw[show(q==0)=true by simp[h2]]at t2;exact⟨z%s,q,An ((IS t1).trans t2),V2 _ @1,VG _ hpos.1⟩
  .rw[show(q==0)=false by simp[h2]]at t2;refine⟨q%s,q/s,?_,V2 _ @1,VG _ hpos.1⟩;rw[snoc];refine(bC ((IS t1).trans t2)).trans ((aq (mi rfl ((aU rfl TZ).trans (iQ hpos.1)) hap)).trans (aW ((aU rfl (fj rfl rfl JD)).trans (y8 hpos.1 hpos.2))))
theorem wt(c:Int)(ss:Yw)(hs:∀x∈ss,0<x/\x<1073741824)(hl:ss.length<=1000) :
  ∃r:Yw,m__law_drawn [.int c,.lst (ss.map .int)]=some (.lst (r.map .int))/\r.length=ss.length/\∀(i:Nat)(x s:Int),r[i]?=some x->ss[i]?=some s->0<=x/\x<s:=by
 let I:Nat->En->Prop:=λn env=>∃(r:Yw)(q:Int)(s4:Slot),env=[.F (.int c),.F (.lst (ss.map .int)),.O (.L (r.map .int)),.F (.int q),s4]/\r.length=n/\∀(i:Nat)(x s:Int),r[i]?=some x->ss[i]?=some s->0<=x/\x<s
 have hrl:(aR 0 ss.length).length=ss.length:=by simp[aR]
 obtain⟨e2,h1,r,q,s4,he,hr,hx⟩:=fG (t:=bq 4) (body:=e9) I (aR 0 ss.length) 0 [.F (.int c),.F (.lst (ss.map .int)),.O (.L []),.F (.int c),.un] ⟨[],c,.un,rfl,rfl,λi x s h=>by simp at h⟩ λi d e hd az=>by
   obtain⟨r,q,s4,he,hr,hx⟩:=az;subst he;obtain⟨rfl,hi⟩:=yZ hd;obtain⟨s,Pc⟩:∃s,ss[i]?=some s:=⟨ss[i],l_ hi⟩;have hpos:=hs s (UW Pc);obtain⟨y,q',h2,h3,h4⟩:=G1 c q ss r i s Pc hpos @1 @1;refine⟨_,h2,r++[y],q',_,rfl,by simp;omega,λj x s' wU hsj=>?_⟩
   by_cases hj:j<r.length
   .rw[S_ hj]at wU;exact hx j x s' wU hsj
   .rw[R_ @1]at wU;have hj0:j-r.length=0:=by
     have:=(k_.mp wU).1;simp at this;omega
    rw[hj0]at wU;cases wU;rw[show j=i by omega,Pc]at hsj;cases hsj;exact⟨h3,h4⟩
 subst he;rw[hrl]at hr;refine⟨r,?_,by omega,hx⟩;have hit:ir (bN dM ah) [.F (.int c),.F (.lst (ss.map .int)),.O (.L []),.F (.int c),.un]=some (aR 0 ss.length):=by
  rw[<- c_ (f:=D.int) (as:=ss)];exact ek (kX rfl) (by rw[c_];omega)
 exact aZ ((aq rfl).trans ((aq rfl).trans ((aq ((cf hit).trans h1)).trans rfl)))
abbrev gG:Str:="along"
abbrev sDn:Str:="down"
abbrev Me:Str:="free"
abbrev Mf:Str:="sides"
abbrev Pf:Str:="corners"
def cN(r:Str):Prop:=r=Me\/r=Mf\/r=Pf
structure Sh where
 a:Int
 b:Int
 dn:Bool
 n:Nat
 deriving DecidableEq
def Sh.w(s:Sh):Str:=if s.dn=true then sDn else gG
def Sh.d(s:Sh):D:=.tup [.int s.a,.int s.b,.str s.w,.int s.n]
def Sh.at(s:Sh)(i:Int):Yx:=if s.dn=true then(s.a+i,s.b)else(s.a,s.b+i)
def Sh.cs(s:Sh):Ym:=(List.range s.n).map λ(i:Nat)=>s.at i
def cel(p:Yx):D:=.tup [.int p.1,.int p.2]
theorem sG(n:Nat):(aR 0 n).map g=(List.range n).map λ(i:Nat)=>g (.int i):=by
 unfold aR;simp[O_,XZ]
theorem oE(n:Nat):(aR 0 n).flatMap g=(List.range n).flatMap λ(i:Nat)=>g (.int i):=by
 unfold aR;rw[Xn];simp
theorem Jl:∀(ds:YO),(ds.flatMap λd=>[g d])=ds.map g
 | []=>rfl
 | d::ds=>by rw[UX,Jl ds];rfl
theorem rZ(g:D->YO):∀(ds:YO),(∀d∈ds,∃e1,t d env=some e1/\c e1=some true/\k e1=some (g d))->fq t c k env ds=some (ds.flatMap g)
 | [],_=>rfl
 | d::ds,h=>by
  obtain⟨e1,h1,h2,h3⟩:=h d g_;have ih:=rZ g ds λx hx=>h x (f_ _ hx);unfold fq;rw[h1];show(c e1).bind _=_;rw[h2];show(if true=true then k e1 else some []).bind _=_;rw[h_ rfl,h3];show(fq t c k env ds).bind _=_;rw[ih];rfl
theorem CU(h1:fi env=some ds)(h2:dv is env=true)(h3:fq t c k env ds=some xs):gA fi is t c k env=some xs:=by
 unfold gA;rw[h1];show(if dv is env=true then _ else _)=_;rw[h_ h2,h3]
def Pr(s:Sh):D->D
 | .int i=>cel (s.at i)
 | _=>.non
theorem yb(s:Sh):(aR 0 s.n).map (Pr s)=s.cs.map cel:=by
 rw[sG];unfold Sh.cs;rw[O_];rfl
theorem yn(s:Sh):s.cs.length=s.n:=by unfold Sh.cs;simp
theorem Lg(s:Sh)(s0:Slot)(i:Nat)(hi:i<1000)(acc:YO)(hl:acc.length<16000) :
  eT [s0,.F (.int s.a),.F (.int s.b),.F (.str s.w),.F (.int s.n),.O (.L acc),.F (.int i)]=some (.nx [s0,.F (.int s.a),.F (.int s.b),.F (.str s.w),.F (.int s.n),.O (.L (acc++[cel (s.at i)])),.F (.int i)]):=by
 obtain⟨a,b,dn,n⟩:=s;have m0:mulI (.int i) (.int 0)=some (.int 0):=by rw[nG @1 @1 @2 @2,Int.mul_zero]
 have m1:mulI (.int i) (.int 1)=some (.int i):=by rw[nG @1 @1 @2 @2,Int.mul_one]
 cases dn
 .have e0:bN intD (ar eJ ay (fC (.str "down"))) [s0,.F (.int a),.F (.int b),.F (.str gG),.F (.int n),.O (.L acc),.F (.int i)]=some (.int 0):=rfl;have e1:bN intD (ar eJ ay (fC (.str "along"))) [s0,.F (.int a),.F (.int b),.F (.str gG),.F (.int n),.O (.L acc),.F (.int i)]=some (.int 1):=rfl;refine mi (d:=cel (a,b+i)) rfl (kf (ai ((aU (y:=.int 0) rfl ((aU rfl e0).trans m0)).trans ?_) (ai ((aU (y:=.int i) rfl ((aU rfl e1).trans m1)).trans (fH _ _)) aK))) @1;rw[fH,Yc]
 .have e0:bN intD (ar eJ ay (fC (.str "along"))) [s0,.F (.int a),.F (.int b),.F (.str sDn),.F (.int n),.O (.L acc),.F (.int i)]=some (.int 0):=rfl;have e1:bN intD (ar eJ ay (fC (.str "down"))) [s0,.F (.int a),.F (.int b),.F (.str sDn),.F (.int n),.O (.L acc),.F (.int i)]=some (.int 1):=rfl;refine mi (d:=cel (a+i,b)) rfl (kf (ai ((aU (y:=.int i) rfl ((aU rfl e1).trans m1)).trans (fH _ _)) (ai ((aU (y:=.int 0) rfl ((aU rfl e0).trans m0)).trans ?_) aK))) @1;rw[fH,Yc]
theorem kB(s:Sh)(hn:s.n<=1000):m__law_cells [s.d]=some (.lst (s.cs.map cel)):=by
 obtain⟨e2,h1,s6,h2⟩:=iG (t:=bq 6) (body:=eT) (λacc e=>∃s6,e=[.F s.d,.F (.int s.a),.F (.int s.b),.F (.str s.w),.F (.int s.n),.O (.L acc),s6]) (λd=>[Pr s d]) 1 8000 (aR 0 s.n) [] [.F s.d,.F (.int s.a),.F (.int s.b),.F (.str s.w),.F (.int s.n),.O (.L []),.un] ⟨_,rfl⟩ (by rw[eG,T_];omega) λd hd=>⟨m_ _,λacc e ⟨s6,he⟩ hl=>by
  subst he;obtain⟨i,hi,rfl⟩:=gT.mp hd;exact⟨_,Lg s (.F s.d) i @1 acc @1,_,rfl⟩⟩
 subst h2;rw[Jl,yb,U0]at h1;exact aZ ((aq (nW (ds:=[.int s.a,.int s.b,.str s.w,.int s.n]) rfl rfl)).trans ((aq (gL rfl)).trans ((aq ((cf (ek (n:=s.n) rfl @1)).trans h1)).trans rfl)))
theorem gQ(s:Sh)(hn:s.n<=1000):m_cells_of [s.d]=some (.lst (s.cs.map cel)):=by
 have hl:(s.cs.map cel).length<=16000000:=by rw[c_];unfold Sh.cs;simp;omega
 have hit:ir aV [.F s.d,.F (.int s.a),.F (.int s.b),.F (.str s.w),.F (.int s.n)]=some (aR 0 s.n):=ek (n:=s.n) rfl @1;refine aZ ((aq (nW (ds:=[.int s.a,.int s.b,.str s.w,.int s.n]) rfl rfl)).trans ?_);show aE _ _ [.F s.d,.F (.int s.a),.F (.int s.b),.F (.str s.w),.F (.int s.n)]=_;obtain⟨a,b,dn,n⟩:=s;cases dn
 .have e0:fB (ar eJ ay (fC (.str "down"))) [.F (Sh.d ⟨a,b,false,n⟩),.F (.int a),.F (.int b),.F (.str gG),.F (.int n)]=some false:=rfl;refine(aq ((bC e0).trans rfl)).trans (bD (a9 hit rfl ?_ hl));rw[<- yb];refine fF (Pr ⟨a,b,false,n⟩) _ λd hd=>?_;obtain⟨i,hi,rfl⟩:=gT.mp hd;exact⟨_,rfl,rfl⟩
 .have e0:fB (ar eJ ay (fC (.str "down"))) [.F (Sh.d ⟨a,b,true,n⟩),.F (.int a),.F (.int b),.F (.str sDn),.F (.int n)]=some true:=rfl;refine dI ((cq e0).trans (bD (a9 hit rfl ?_ hl)));rw[<- yb];refine fF (Pr ⟨a,b,true,n⟩) _ λd hd=>?_;obtain⟨i,hi,rfl⟩:=gT.mp hd;exact⟨_,rfl,rfl⟩
def cW(p:Yx):List L2.Key:=[.inl p.1,.inl p.2]
theorem vO(h:cW p=cW q):p=q:=by
 unfold cW at h;obtain⟨a,b⟩:=p;obtain⟨c,d⟩:=q;simp only[Yf,Sum.inl.injEq,and_true]at h;rw[h.1,h.2]
theorem eM{L:Ym}{p:Yx}:cW p∈L.map cW↔p∈L:=⟨λh=>by obtain⟨q,hq,e⟩:=t_.mp h;exact vO e▸hq,UK⟩
def CO(ks:Ym):wN:=.M Th.h (ks.map cW) (ks.map λ_=>.bl true)
def eC(ks:Ym):D:=.mp Th.h (ks.map cW) (ks.map λ_=>.bl true)
def NW:List L2.Key->Option Yx
 | [.inl a,.inl b]=>some (a,b)
 | _=>none
def Kj:D->Ym
 | .mp _ ks _=>ks.filterMap NW
 | _=>[]
theorem yC:∀ks:Ym,Kj (eC ks)=ks:=λks=>by
 show(ks.map cW).filterMap NW=ks;rw[List.filterMap_map];exact List.filterMap_some
theorem yT(q:List L2.Key)(x:D):∀ks:Ym,bx (ks.map cW) (ks.map λ_=>x) q x=ks.map λ_=>x
 | []=>rfl
 | k::ks=>by
  show(if cW k=q then x else x)::bx (ks.map cW) (ks.map λ_=>x) q x=_;rw[yT q x ks,ite_self];rfl
theorem yX(ks:Ym)(p q:Yx):q∈ou ks p↔q∈ks\/q=p:=by
 unfold ou
 split
 .rename_i h;exact⟨λz=>.inl z,λz=>z.elim id λe=>e▸h⟩
 .simp
theorem Gw(ks:Ym)(p:Yx):(ou ks p).length<=ks.length+1:=by
 unfold ou;split<;>simp
open Classical in
theorem M5{i:Nat}{fk:Fe}{env:En}{ks:Ym}{a b:Int}(h:fk env=some (.tup [.int a,.int b]))(h1:env[i]?=some (.O (CO ks)))(hl:ks.length<16000000):Au Th.h i (fC (.bl true)) fk env=some (.nx (env.set i (.O (CO (ou ks (a,b)))))):=by
 have e:wN.M Th.h (jG (ks.map cW) (cW (a,b))) (k9 (ks.map cW) (ks.map λ_=>D.bl true) (cW (a,b)) (.bl true))=CO (ou ks (a,b)):=by
  unfold jG k9 ou CO
  by_cases hm:(a,b)∈ks
  .rw[h_ (eM.mpr hm),h_ (eM.mpr hm),h_ hm,yT]
  .rw[i_ (λz=>hm (eM.mp z)),i_ (λz=>hm (eM.mp z)),i_ hm,J_,J_];rfl
 rw[<- e];unfold Au;rw[show fC (.bl true) env=some (D.bl true)from rfl,Vt,h,Vt,show ft (.tup [.int a,.int b])=some (cW (a,b))from rfl,Vt,h1];show(if Th.h=Th.h/\(ks.map cW).length<16000000 then _ else _)=_;rw[h_ ⟨rfl,by rw[c_];exact hl⟩]
def plus(p q:Yx):Yx:=(p.1+q.1,p.2+q.2)
theorem Nb(s0 s1 s6 s7:Slot)(st:Ym)(hst:st.length<=9)(p:Yx)(ks:Ym)(hk:ks.length<=15000) :
  ∃uh IF B5,d6 [s0,s1,.O (CO ks),.F (.lst (st.map cel)),.F (.int p.1),.F (.int p.2),s6,s7]=some (.nx [s0,s1,.O (CO uh),.F (.lst (st.map cel)),.F (.int p.1),.F (.int p.2),IF,B5])/\uh.length<=ks.length+9/\∀q,q∈uh↔q∈ks\/∃t∈st,q=plus p t:=by
 obtain⟨e2,h1,uh,IF,B5,h2,h3,h4⟩:=fG (t:=lb [6,7]) (body:=jz) (λj e=>∃uh IF B5,e=[s0,s1,.O (CO uh),.F (.lst (st.map cel)),.F (.int p.1),.F (.int p.2),IF,B5]/\uh.length<=ks.length+j/\∀q,q∈uh↔q∈ks\/∃t∈st.take j,q=plus p t) (st.map cel) 0 _ ⟨ks,s6,s7,rfl,by omega,λq=>by simp⟩ λi d e hd az=>by
  obtain⟨uh,IF,B5,he,h3,h4⟩:=az;subst he;rw[x_]at hd;obtain⟨q,hq,rfl⟩:=L_.mp hd;have hi:=(k_.mp hq).1;have u3:=Gw uh (p.1+q.1,p.2+q.2);refine⟨_,fu (e0:=[s0,s1,.O (CO uh),.F (.lst (st.map cel)),.F (.int p.1),.F (.int p.2),.F (.int q.1),.F (.int q.2)]) rfl (M5 (ks:=uh) (a:=p.1+q.1) (b:=p.2+q.2) rfl rfl @1),_,_,_,rfl,by omega,λx=>?_⟩;rw[yX,h4,UH,X0,hq];simp only[Option.toList_some,UF,z_];constructor
  .rintro((h | ⟨t,ht,e⟩) | e)
   .exact .inl h
   .exact .inr ⟨t,.inl ht,e⟩
   .exact .inr ⟨q,.inr rfl,e⟩
  .rintro(h | ⟨t,ht | rfl,e⟩)
   .exact .inl (.inl h)
   .exact .inl (.inr ⟨t,ht,e⟩)
   .exact .inr e
 subst h2;rw[c_,UH]at h3 h4;rw[Vk]at h4;exact⟨uh,IF,B5,(cf (be rfl)).trans h1,by omega,h4⟩
theorem lW(s:Sh)(hn:s.n<=1000)(r:D)(st:Ym)(hst:st.length<=9) :
  ∃ks,aE (dS (cx (λenv=>((aa ah fNil) env).bind m__law_cells)) (lb [4,5]) (d6 )) (Dn 2) [.F r,.F s.d,.O (CO []),.F (.lst (st.map cel)),.un,.un,.un,.un]=some (.rt (eC ks))/\∀q,q∈ks↔∃p∈s.cs,∃t∈st,q=plus p t:=by
 have hlen:=yn s;obtain⟨e2,h1,ks,s4,s5,s6,s7,h2,h3,h4⟩:=fG (t:=lb [4,5]) (body:=d6) (λj e=>∃ks s4 s5 s6 s7,e=[.F r,.F s.d,.O (CO ks),.F (.lst (st.map cel)),s4,s5,s6,s7]/\ks.length<=9*j/\∀q,q∈ks↔∃p∈s.cs.take j,∃t∈st,q=plus p t) (s.cs.map cel) 0 _ ⟨[],.un,.un,.un,.un,rfl,by simp,λq=>by simp⟩ λi d e hd az=>by
  obtain⟨ks,s4,s5,s6,s7,he,h3,h4⟩:=az;subst he;rw[x_]at hd;obtain⟨q,hq,rfl⟩:=L_.mp hd;have hi:=(k_.mp hq).1;obtain⟨uh,IF,B5,u1,u2,u3⟩:=Nb (.F r) (.F s.d) s6 s7 st hst q ks @1;refine⟨_,fu (e0:=[.F r,.F s.d,.O (CO ks),.F (.lst (st.map cel)),.F (.int q.1),.F (.int q.2),s6,s7]) rfl u1,uh,_,_,_,_,rfl,by omega,λx=>?_⟩;rw[u3,h4,UH,X0,hq];simp only[Option.toList_some,UF,z_];constructor
  .rintro(⟨p,hp,t,ht,e⟩ | ⟨t,ht,e⟩)
   .exact⟨p,.inl hp,t,ht,e⟩
   .exact⟨q,.inr rfl,t,ht,e⟩
  .rintro⟨p,hp | rfl,t,ht,e⟩
   .exact .inl ⟨p,hp,t,ht,e⟩
   .exact .inr ⟨t,ht,e⟩
 subst h2;rw[c_,UH]at h4;rw[Vk]at h4;exact⟨ks,(aq ((cf (be ((call_v (ai rfl aK)).trans (kB s hn)))).trans h1)).trans rfl,h4⟩
def steps(r:Str):Ym:=
 if r=Me then [(0,0)]else if r=Mf then [(0,0),(0,1),(1,0),(0,-1),(-1,0)]else [(0,0),(0,1),(1,0),(0,-1),(-1,0),(1,1),(1,-1),(-1,1),(-1,-1)]
theorem oY:steps Me=[(0,0)]:=by unfold steps;rw[h_ rfl]
theorem o6:steps Mf=[(0,0),(0,1),(1,0),(0,-1),(-1,0)]:=by unfold steps;rw[i_ @2,h_ rfl]
theorem oM:steps Pf=[(0,0),(0,1),(1,0),(0,-1),(-1,0),(1,1),(1,-1),(-1,1),(-1,-1)]:=by unfold steps;rw[i_ @2,i_ @2]
theorem Hu(s:Sh)(hn:s.n<=1000)(r:Str)(hr:cN r):∃ks,m__law_halo [.str r,s.d]=some (eC ks)/\∀q,q∈ks↔∃p∈s.cs,∃t∈steps r,q=plus p t:=by
 rcases hr with rfl | rfl | rfl
 .obtain⟨ks,h1,h2⟩:=lW s hn (.str Me) [(0,0)] @2;exact⟨ks,aZ ((aq rfl).trans ((aq rfl).trans ((aq ((bC rfl).trans rfl)).trans ((aq ((bC rfl).trans rfl)).trans h1)))),by rw[oY];exact h2⟩
 .obtain⟨ks,h1,h2⟩:=lW s hn (.str Mf) [(0,0),(0,1),(1,0),(0,-1),(-1,0)] @2;exact⟨ks,aZ ((aq rfl).trans ((aq rfl).trans ((aq ((cq rfl).trans rfl)).trans ((aq ((bC rfl).trans rfl)).trans h1)))),by rw[o6];exact h2⟩
 .obtain⟨ks,h1,h2⟩:=lW s hn (.str Pf) [(0,0),(0,1),(1,0),(0,-1),(-1,0),(1,1),(1,-1),(-1,1),(-1,-1)] @2;exact⟨ks,aZ ((aq rfl).trans ((aq rfl).trans ((aq ((cq rfl).trans rfl)).trans ((aq ((cq rfl).trans rfl)).trans h1)))),by rw[oM];exact h2⟩
def Pm:D->Bool
 | .int _=>true
 | _=>false
def F1:D->Bool
 | .int i=>decide (1<=i)&&decide (i<=8)
 | _=>false
theorem nJ(d:D):m_is_whole [d]=some (.bl (Pm d)):=by cases d<;>rfl
theorem GV(d:D):m_is_size [d]=some (.bl (F1 d)):=by
 have h1:(λenv=>((aa ag fNil) env).bind m_is_whole) (bU 1 [d])=some (.bl (Pm d)):=(call_v rfl).trans (nJ d);refine aZ (bD ?_);cases d
 case int i=>exact(EK h1).trans (Ky (x:=.int 1) (y:=.int i) (w:=.int 8) rfl rfl rfl (AE _ _) (AE _ _))
 all_goals exact DM h1
def Em(n:Int):D->Bool
 | .tup ds=>(ds.length:Int)==n
 | _=>false
theorem u6(d:D)(n:Int):m_is_tuple_of [d,.int n]=some (.bl (Em n d)):=by
 refine aZ (bD ?_);cases d<;>try rfl
theorem MM(h:Em 4 d=true):∃a b c e,d=.tup [a,b,c,e]:=by
 cases d<;>try cases h
 rename_i ds;have h':(ds.length:Int)=4:=by simpa [Em]using h
 match ds,h' with
 | [a,b,c,e],_=>exact⟨a,b,c,e,rfl⟩
 | [],h=>simp at h
 | [_],h=>simp at h
 | [_,_],h=>simp at h
 | [_,_,_],h=>simp at h
 | _::_::_::_::_::_,h=>simp at h;omega
def inR(r:Int):D->Bool
 | .int i=>decide (0<=i)&&decide (i<r)
 | _=>false
theorem zN(r c:Int)(a b:D):m_is_cell [.tup [.int r,.int c],.tup [a,b]]=some (.bl (inR r a&&inR c b)):=by
 have t1:fB (λenv=>((aa ah (aa YU fNil)) env).bind m_is_tuple_of) (bU 4 [.tup [.int r,.int c],.tup [a,b]])=some true:=cA ((call_v rfl).trans (u6 _ 2));refine aZ ((aq ((bC (q9 t1)).trans rfl)).trans ((aq (nW (ds:=[a,b]) rfl rfl)).trans (bD ?_)));have w1:(λenv=>((aa aD fNil) env).bind m_is_whole) [.F (.tup [.int r,.int c]),.F (.tup [a,b]),.F a,.F b]=some (.bl (Pm a)):=(call_v rfl).trans (nJ a);have w2:(λenv=>((aa ay fNil) env).bind m_is_whole) [.F (.tup [.int r,.int c]),.F (.tup [a,b]),.F a,.F b]=some (.bl (Pm b)):=(call_v rfl).trans (nJ b);cases a
 case int i=>
  refine(EK w1).trans ?_;cases b
  case int j=>exact(EK w2).trans (IR (Ky (x:=.int 0) (y:=.int i) (w:=.int r) rfl rfl rfl (AE _ _) (Lu _ _)) λ_=>Ky (x:=.int 0) (y:=.int j) (w:=.int c) rfl rfl rfl (AE _ _) (Lu _ _))
  all_goals exact(DM w2).trans (by simp[inR])
 all_goals exact DM w1
def kh(r c:Int):D->Bool
 | .tup [.int a,.int b,.str w,.int l]=>(gG==w||sDn==w)&&F1 (.int l)&&(inR r (.int a)&&inR c (.int b))&&(if(w==sDn)=true then decide (1<l)&&decide (a+l<=r)else decide (b+l<=c))
 | _=>false
theorem SS(w:D):inD w [.str gG,.str sDn]=match w with | .str x=>gG==x||sDn==x | _=>false:=by
 cases w<;>simp[inD,g9]
theorem On{p q r s:Bool}(h:(!p||(!q||!r))=true):(p&&q&&r&&s)=false:=by cases p<;>cases q<;>cases r<;>first | rfl | cases h
theorem Il(r c:Int)(d:D)(hd:dH d<=50)(hp:pl d=true):m_is_ship [.tup [.int r,.int c],d]=some (.bl (kh r c d)):=by
 have t1:fB (λenv=>((aa ah (aa YW fNil)) env).bind m_is_tuple_of) (bU 6 [.tup [.int r,.int c],d])=some (Em 4 d):=cA ((call_v rfl).trans (u6 _ 4));cases h:Em 4 d with
 | false=>
  rw[h]at t1;have:kh r c d=false:=by
   cases d<;>try rfl
   rename_i ds;unfold kh
   split
   .rename_i e;cases e;cases h
   .rfl
  rw[this];exact aZ (dI ((cq (q9 t1)).trans rfl))
 | true=>
  rw[h]at t1;obtain⟨a,b,w,l,rfl⟩:=MM h;have dw:dH w<=60:=by
   unfold dH gY gY gY at hd;omega
  have pw:pl w=true:=by
   unfold pl gf gf gf at hp;simp only[I_]at hp;exact hp.2.2.1
  refine aZ ((aq ((bC (q9 t1)).trans rfl)).trans ((aq (nW (ds:=[a,b,w,l]) rfl rfl)).trans ?_));show aE _ _ [.F (.tup [.int r,.int c]),.F (.tup [a,b,w,l]),.F a,.F b,.F w,.F l]=_;have t2:fB (ar (j7 true) aV (fC oh)) [.F (.tup [.int r,.int c]),.F (.tup [a,b,w,l]),.F a,.F b,.F w,.F l]=some (!inD w [.str gG,.str sDn]):=cA (Ko rfl rfl dw rfl (by rw[pw];rfl));have t3:fB (λenv=>((aa cB fNil) env).bind m_is_size) [.F (.tup [.int r,.int c]),.F (.tup [a,b,w,l]),.F a,.F b,.F w,.F l]=some (F1 l):=cA ((call_v rfl).trans (GV l));have t4:fB (λenv=>((aa ag (aa (bj (aa aD (aa ay fNil))) fNil)) env).bind m_is_cell) [.F (.tup [.int r,.int c]),.F (.tup [a,b,w,l]),.F a,.F b,.F w,.F l]=some (inR r a&&inR c b):=cA ((call_v rfl).trans (zN r c a b));have t5:=FD t2 λ_=>FD (q9 t3) λ_=>q9 t4;cases hb:(!inD w [.str gG,.str sDn]||(!F1 l||!(inR r a&&inR c b)))with
  | true=>
   rw[hb]at t5;have:kh r c (.tup [a,b,w,l])=false:=by
    unfold kh
    split
    .rename_i e;cases e;rw[SS]at hb;exact On hb
    .rfl
   rw[this];exact dI ((cq t5).trans rfl)
  | false=>
   rw[hb]at t5;simp only[Bool.or_eq_false_iff,Bool.not_eq_false',I_]at hb;obtain⟨b1,b2,b3,b4⟩:=hb;rw[SS]at b1;cases w<;>try cases b1
   rename_i x;cases l<;>try cases b2
   rename_i l;cases a<;>try cases b3
   rename_i a;cases b<;>try cases b4
   rename_i b;refine(aq ((bC t5).trans rfl)).trans ?_;have b1':(gG==x||sDn==x)=true:=b1;have:kh r c (.tup [.int a,.int b,.str x,.int l])=(if(x==sDn)=true then decide (1<l)&&decide (a+l<=r)else decide (b+l<=c)):=by
    show((gG==x||sDn==x)&&F1 (.int l)&&(inR r (.int a)&&inR c (.int b))&&_)=_;rw[b1',b2,b3,b4];rfl
   rw[this];have t6:fB (ar eJ aV (fC (.str sDn))) [.F (.tup [.int r,.int c]),.F (.tup [.int a,.int b,.str x,.int l]),.F (.int a),.F (.int b),.F (.str x),.F (.int l)]=some (x==sDn):=cA (G0 rfl rfl (JP (by rw[kj];omega) rfl) (by unfold g9;rfl));cases hx:(x==sDn)with
   | true=>
    rw[hx]at t6;rw[h_ rfl];exact dI ((cq t6).trans (bD (IR rfl λ_=>(aU (fH _ _) rfl).trans (AE _ _))))
   | false=>
    rw[hx]at t6;rw[i_ @8];exact(aq ((bC t6).trans rfl)).trans (bD ((aU (fH _ _) rfl).trans (AE _ _)))
abbrev sI(a b:Int)(w:Str)(l:Int):D:=.tup [.int a,.int b,.str w,.int l]
def gS(r c l:Int):D->D->YO
 | .int a,.int b=>(if b+l<=c then [sI a b gG l]else [])++(if a+l<=r/\1<l then [sI a b sDn l]else [])
 | _,_=>[]
theorem DO(r c l:Int)(x y:D):(gS r c l x y).length<=2:=by
 unfold gS
 split
 .rw[u_];split<;>split<;>simp
 .simp
abbrev eS(r c l:Int)(acc:YO)(s3 s4:Slot):En:=[.F (.tup [.int r,.int c]),.F (.int l),.O (.L acc),s3,s4]
theorem AM(r c l a b:Int)(acc:YO)(h:acc.length+2<=16000):fm (eS r c l acc (.F (.int a)) (.F (.int b)))=some (.nx (eS r c l (acc++gS r c l (.int a) (.int b)) (.F (.int a)) (.F (.int b)))):=by
 have p1:∀dU:YO,dU.length<16000->ju 2 (bj (aa ay (aa aV (aa (fC (.str "along")) (aa ah fNil))))) (eS r c l dU (.F (.int a)) (.F (.int b)))=some (.nx (eS r c l (dU++[sI a b gG l]) (.F (.int a)) (.F (.int b)))):=λdU h'=>mi rfl rfl @1;have p2:∀dU:YO,dU.length<16000->ju 2 (bj (aa ay (aa aV (aa (fC (.str "down")) (aa ah fNil))))) (eS r c l dU (.F (.int a)) (.F (.int b)))=some (.nx (eS r c l (dU++[sI a b sDn l]) (.F (.int a)) (.F (.int b)))):=λdU h'=>mi rfl rfl @1;have t1:∀dU:YO,fB (ar leI (ar addI aV ah) (ar aI ag YT)) (eS r c l dU (.F (.int a)) (.F (.int b)))=some (decide (b+l<=c)):=λ_=>rfl;have t2:∀dU:YO,qp (fB (ar leI (ar addI ay ah) (ar aI ag YS))) (fB (ar gtI ah YT)) (eS r c l dU (.F (.int a)) (.F (.int b)))=some (decide (a+l<=r)&&decide (1<l)):=λdU=>
  r8 (show _=some (decide (a+l<=r))from rfl) λ_=>(show _=some (decide (1<l))from rfl)
 have JF:∀dU:YO,dU.length<16000->(jr (qp (fB (ar leI (ar addI ay ah) (ar aI ag YS))) (fB (ar gtI ah YT))) (ju 2 (bj (aa ay (aa aV (aa (fC (.str "down")) (aa ah fNil)))))) nxF) (eS r c l dU (.F (.int a)) (.F (.int b)))=some (.nx (eS r c l (dU++(if a+l<=r/\1<l then [sI a b sDn l]else [])) (.F (.int a)) (.F (.int b)))):=λdU h'=>by
  by_cases hh:a+l<=r/\1<l
  .rw[h_ hh];exact(cq ((t2 dU).trans (by rw[y_ hh.1,y_ hh.2];rfl))).trans (p2 dU h')
  .rw[i_ hh,UG];refine(bC ((t2 dU).trans ?_)).trans rfl;congr 1;rw[Bool.eq_false_iff];intro e;simp only[I_,w_]at e;exact hh e
 show aE _ _ _=_;show _=some (Out.nx (eS r c l (acc++((if b+l<=c then [sI a b gG l]else [])++(if a+l<=r/\1<l then [sI a b sDn l]else []))) (.F (.int a)) (.F (.int b))));rw[<- VM]
 by_cases h1:b+l<=c
 .rw[h_ h1];exact(aq ((cq ((t1 acc).trans (by rw[y_ h1]))).trans (p1 acc @1))).trans (JF _ (by simp;omega))
 .rw[i_ h1,UG];exact(aq ((bC ((t1 acc).trans (by rw[G_ h1]))).trans rfl)).trans (JF _ @1)
def Ls(r c l:Int)(R C:Nat):YO:=(aR 0 R).flatMap λx=>(aR 0 C).flatMap λy=>gS r c l x y
theorem Dh(R C:Nat)(hR:R<=60)(hC:C<=60)(l:Int):m__law_ships [.tup [.int R,.int C],.int l]=some (.lst (Ls R C l R C)):=by
 have inner:∀(a:Nat)(acc:YO)(s4:Slot),acc.length+2*C<=8000->∃T1,dq (eS R C l acc (.F (.int a)) s4)=some (.nx (eS R C l (acc++(aR 0 C).flatMap λy=>gS R C l (.int a) y) (.F (.int a)) T1)):=λa acc s4 hl=>by
  obtain⟨e2,h1,s,h2⟩:=iG (t:=bq 4) (body:=fm) (λacc e=>∃s,e=eS R C l acc (.F (.int a)) s) (λy=>gS R C l (.int a) y) 2 8000 (aR 0 C) acc (eS R C l acc (.F (.int a)) s4) ⟨_,rfl⟩ (by rw[eG];omega) λd hd=>⟨DO ..,λdU e ⟨s,he⟩ Cb=>by
   subst he;obtain⟨i,hi,rfl⟩:=gT.mp hd;exact⟨_,AM R C l a i dU @1,_,rfl⟩⟩
  subst h2;refine⟨s,?_⟩;unfold dq;have hi:ar aI ag YT (eS R C l acc (.F (.int a)) s4)=some (.int (C:Int)):=rfl;rw[cf (ek hi @1)];exact h1
 have RU:([]:YO).length+2*C*(aR 0 R).length<=8000:=by
  have h1:=Vp (Vp (m_ 2) hC) hR;rw[eG,T_,UH];exact B_ h1 @2
 obtain⟨e2,h1,s3,s4,h2⟩:=iG (t:=bq 3) (body:=dq) (λacc e=>∃s3 s4,e=eS R C l acc s3 s4) (λx=>(aR 0 C).flatMap λy=>gS R C l x y) (2*C) 8000 (aR 0 R) [] (eS R C l [] .un .un) ⟨_,_,rfl⟩ RU λd hd=>⟨by have:=wj (g:=λy=>gS R C l d y) (B:=2) (aR 0 C) (λy _=>DO ..);rw[eG]at this;exact this,λdU e ⟨s3,s4,he⟩ Cb=>by
   subst he;obtain⟨i,hi,rfl⟩:=gT.mp hd;obtain⟨T1,h⟩:=inner i dU s4 Cb;exact⟨_,fu (e0:=eS R C l dU (.F (.int i)) s4) rfl h,_,_,rfl⟩⟩
 subst h2;exact aZ ((aq (gL rfl)).trans ((aq ((cf (ek (n:=R) rfl @1)).trans h1)).trans rfl))
def atS(R C l a b:Nat):List Sh:=(if(b:Int)+l<=C then [⟨a,b,false,l⟩]else [])++(if(a:Int)+l<=R/\1<l then [⟨a,b,true,l⟩]else [])
def bW(R C l:Nat):List Sh:=(List.range R).flatMap λa=>(List.range C).flatMap λb=>atS R C l a b
theorem Nj(R C l a b:Nat):gS R C l (.int a) (.int b)=(atS R C l a b).map Sh.d:=by
 show(if(b:Int)+l<=C then [sI a b gG l]else [])++(if(a:Int)+l<=R/\(1:Int)<l then [sI a b sDn l]else [])=_;unfold atS;rw[J_];congr 1
 .split<;>rfl
 .by_cases h:(a:Int)+l<=R/\1<l
  .rw[h_ h,h_ ⟨h.1,by omega⟩];rfl
  .rw[i_ h,i_ (λz=>h ⟨z.1,by omega⟩)];rfl
theorem HK(R C l:Nat):Ls R C l R C=(bW R C l).map Sh.d:=by
 unfold Ls bW;rw[oE,Wf];congr 1;funext a;rw[oE,Wf];congr 1;funext b;exact Nj R C l a b
theorem k7(h:s∈atS R C l a b):s.a=a/\s.b=b/\s.n=l/\(s.dn=false->(b:Int)+l<=C)/\(s.dn=true->(a:Int)+l<=R/\1<l):=by
 unfold atS at h;rcases UF.mp h with h | h
 .split at h
  .rename_i hc;cases z_.mp h;exact⟨rfl,rfl,rfl,λ_=>hc,λz=>by cases z⟩
  .cases h
 .split at h
  .rename_i hc;cases z_.mp h;exact⟨rfl,rfl,rfl,λz=>(by cases z),λ_=>hc⟩
  .cases h
theorem lK:s∈bW R C l↔(∃a b:Nat,s.a=a/\s.b=b/\a<R/\b<C)/\s.n=l/\(s.dn=false->s.b+l<=C)/\(s.dn=true->s.a+l<=R/\1<l):=by
 unfold bW;simp only[Vu,UV];constructor
 .rintro⟨a,ha,b,hb,h⟩;obtain⟨h1,h2,h3,h4,h5⟩:=k7 h;rw[h1,h2];exact⟨⟨a,b,rfl,rfl,ha,hb⟩,h3,h4,h5⟩
 .rintro⟨⟨a,b,h1,h2,ha,hb⟩,h3,h4,h5⟩;refine⟨a,ha,b,hb,?_⟩;obtain⟨sa,sb,dn,n⟩:=s;simp only at h1 h2 h3 h4 h5;subst h1 h2 h3;unfold atS;cases dn
  .rw[h_ (h4 rfl)];simp
  .rw[h_ (h5 rfl)];simp
theorem Gp(R C l a b:Nat):(atS R C l a b).length<=2:=by
 unfold atS;rw[u_];split<;>split<;>simp
theorem ez{α β:Type}{g:α->List β}{B:Nat}:∀(ds:List α),(∀d∈ds,(g d).length<=B)->(ds.flatMap g).length<=B*ds.length
 | [],_=>by simp
 | d::ds,h=>by
  rw[UX,u_,v_,Ya];have:=h d g_;have:=ez ds λx hx=>h x (f_ _ hx);omega
theorem qH(R C l:Nat):(bW R C l).length<=2*C*R:=by
 have h:=ez (g:=λa=>(List.range C).flatMap λb=>atS R C l a b) (B:=2*C) (List.range R) λa _=>by
  have:=ez (g:=λb=>atS R C l a b) (B:=2) (List.range C) (λb _=>Gp ..);rwa [Ws]at this
 rwa [Ws]at h
theorem BH(R C:Nat)(hR:R<=60)(hC:C<=60)(l:Nat):m__law_ships [.tup [.int R,.int C],.int l]=some (.lst ((bW R C l).map Sh.d)):=by
 rw[Dh R C hR hC l,HK]
def Sh.ks(s:Sh):List L2.Key:=[.inl s.a,.inl s.b,.inr s.w,.inl s.n]
def Bef(s t:Sh):Prop:=s.a<t.a\/(s.a=t.a/\(s.b<t.b\/(s.b=t.b/\((s.dn=false/\t.dn=true)\/(s.dn=t.dn/\s.n<t.n)))))
theorem Qs:Kk (.inr gG) (.inr sDn)=some true:=by
 show some (decide (gG.cps.toList<sDn.cps.toList))=_;rw[show decide (gG.cps.toList<sDn.cps.toList)=true by decide +kernel]
theorem Qp:Kk (.inr sDn) (.inr gG)=some false:=by
 show some (decide (sDn.cps.toList<gG.cps.toList))=_;rw[show decide (sDn.cps.toList<gG.cps.toList)=false by decide +kernel]
theorem SI:(Sum.inr gG:L2.Key)≠.inr sDn:=λh=>absurd (Sum.inr.inj h) @2
theorem pf(x y:L2.Key)(xs ys:List L2.Key):fw (x::xs) (y::ys)=if x=y then fw xs ys else Kk x y:=rfl
theorem vB(n n':Nat):fw [.inl (n:Int)] [.inl (n':Int)]=some (decide (n<n')):=by
 rw[pf]
 by_cases h3:n=n'
 .subst h3;rw[h_ rfl];simp[fw]
 .rw[i_ (λz=>h3 (by have:=Sum.inl.inj z;omega))];show some (decide ((n:Int)<n'))=_;simp
theorem Gh(a b a' b':Int)(xs ys:List L2.Key)(q:Bool)(h:fw xs ys=some q):∃r,fw (.inl a::.inl b::xs) (.inl a'::.inl b'::ys)=some r/\(r=true↔a<a'\/(a=a'/\(b<b'\/(b=b'/\q=true)))):=by
 rw[pf]
 by_cases h1:a=a'
 .subst h1;rw[h_ rfl,pf]
  by_cases h2:b=b'
  .subst h2;rw[h_ rfl];exact⟨q,h,by simp⟩
  .rw[i_ (λz=>h2 (Sum.inl.inj z))];refine⟨decide (b<b'),rfl,?_⟩;rw[w_];constructor
   .intro h;exact .inr ⟨rfl,.inl h⟩
   .rintro(h | ⟨_,h | ⟨h,_⟩⟩)
    .omega
    .exact h
    .exact absurd h h2
 .rw[i_ (λz=>h1 (Sum.inl.inj z))];refine⟨decide (a<a'),rfl,?_⟩;rw[w_];constructor
  .intro h;exact .inl h
  .rintro(h | ⟨h,_⟩)
   .exact h
   .exact absurd h h1
theorem Nr(x y:Bool)(n n':Nat):∃q,fw [.inr (if x=true then sDn else gG),.inl (n:Int)] [.inr (if y=true then sDn else gG),.inl (n':Int)]=some q/\(q=true↔(x=false/\y=true)\/(x=y/\n<n')):=by
 cases x<;>cases y
 .exact⟨decide (n<n'),(by rw[pf,h_ rfl,vB]),by simp⟩
 .exact⟨true,(by show fw [.inr gG,_] [.inr sDn,_]=_;rw[pf,i_ SI];exact Qs),by simp⟩
 .exact⟨false,(by show fw [.inr sDn,_] [.inr gG,_]=_;rw[pf,i_ (US SI)];exact Qp),by simp⟩
 .exact⟨decide (n<n'),(by rw[pf,h_ rfl,vB]),by simp⟩
theorem tM(s t:Sh):∃q,fw s.ks t.ks=some q/\(q=true↔Bef s t):=by
 obtain⟨q,h1,h2⟩:=Nr s.dn t.dn s.n t.n;obtain⟨r,h3,h4⟩:=Gh s.a s.b t.a t.b _ _ q h1;exact⟨r,h3,by rw[h4,h2];rfl⟩
theorem CH(h:¬Bef s t):fw s.ks t.ks=some false:=by
 obtain⟨q,h1,h2⟩:=tM s t;cases q
 .exact h1
 .exact absurd (h2.mp rfl) h
theorem zo(h:Bef s t):fw s.ks t.ks=some true:=by
 obtain⟨q,h1,h2⟩:=tM s t;rw[h1,h2.mpr h]
theorem je(h:Bef s t):¬Bef t s:=by
 obtain⟨a,b,dn,n⟩:=s;obtain⟨a',b',Md,n'⟩:=t;unfold Bef at *;simp only at *;intro h';cases dn<;>cases Md<;>simp at h h'<;>omega
theorem BD(h:¬Bef s t)(h2:¬Bef t s):s=t:=by
 obtain⟨a,b,dn,n⟩:=s;obtain⟨a',b',Md,n'⟩:=t;unfold Bef at *;simp only at *;have e1:a=a':=by omega
 subst e1;have e2:b=b':=by omega
 subst e2;cases dn<;>cases Md<;>simp at h h2
 .rw[show n=n' by omega]
 .rw[show n=n' by omega]
theorem Dx(R C l:Nat):(bW R C l).Pairwise Bef:=by
 unfold bW;refine Wr.mpr ⟨λa ha=>Wr.mpr ⟨λb hb=>?_,?_⟩,?_⟩
 .unfold atS
  split<;>split<;>simp[Bef]
 .refine VJ (R:=λ(x y:Nat)=>x<y) (λ{x y} _ _ Q8 s hs t ht=>?_) W0;obtain⟨h1,h2,_⟩:=k7 hs;obtain⟨g1,g2,_⟩:=k7 ht;exact .inr ⟨by rw[h1,g1],.inl (by rw[h2,g2];omega)⟩
 .refine VJ (R:=λ(x y:Nat)=>x<y) (λ{x y} _ _ Q8 s hs t ht=>?_) W0;obtain⟨b,_,hs⟩:=Vu.mp hs;obtain⟨b',_,ht⟩:=Vu.mp ht;obtain⟨h1,_⟩:=k7 hs;obtain⟨g1,_⟩:=k7 ht;exact .inl (by rw[h1,g1];omega)
def Sh.rz(s:Sh):Int:=if s.dn=true then s.a+s.n-1 else s.a
def Sh.cz(s:Sh):Int:=if s.dn=true then s.b else s.b+s.n-1
theorem nI{s:Sh}(hn:1<=s.n)(p:Yx):p∈s.cs↔s.a<=p.1/\p.1<=s.rz/\s.b<=p.2/\p.2<=s.cz:=by
 obtain⟨a,b,dn,n⟩:=s;obtain⟨x,y⟩:=p;unfold Sh.cs Sh.rz Sh.cz Sh.at;simp only[t_,UV];simp only at hn;cases dn
 .simp only[D_,UU,X3];constructor
  .rintro⟨i,hi,rfl,rfl⟩;omega
  .rintro⟨h1,h2,h3,h4⟩;exact⟨(y-b).toNat,by omega,by omega,by omega⟩
 .simp only[Vy,X3];constructor
  .rintro⟨i,hi,rfl,rfl⟩;omega
  .rintro⟨h1,h2,h3,h4⟩;exact⟨(x-a).toNat,by omega,by omega,by omega⟩
def HN(i j k:Int):Int:=if j>i then(if k>j then k else j)else(if k>i then k else i)
def mO(s t:Sh):Int:=HN (t.a-s.rz) (s.a-t.rz) 0
def qm(s t:Sh):Int:=HN (t.b-s.cz) (s.b-t.cz) 0
theorem HV(s t:Sh):m_rows_between [s.d,t.d]=some (.int (mO s t)):=by
 obtain⟨a,b,dn,n⟩:=s;obtain⟨a',b',Md,n'⟩:=t;cases dn<;>cases Md<;>rfl
theorem H9(s t:Sh):m_columns_between [s.d,t.d]=some (.int (qm s t)):=by
 obtain⟨a,b,dn,n⟩:=s;obtain⟨a',b',Md,n'⟩:=t;cases dn<;>cases Md<;>rfl
def me(r:Str)(s t:Sh):Bool:=if r=Me then decide (0<mO s t+qm s t)else if r=Mf then decide (1<mO s t+qm s t)else decide (1<(if qm s t>mO s t then qm s t else mO s t))
theorem HY(r:Str)(hr:cN r)(s t:Sh):m_keep [.str r,s.d,t.d]=some (.bl (me r s t)):=by
 have e1:setF 3 (λenv=>((aa ah (aa aD fNil)) env).bind m_rows_between) (bU 5 [.str r,s.d,t.d])=some (.nx [.F (.str r),.F s.d,.F t.d,.F (.int (mO s t)),.un]):=aW ((call_v (ai rfl (ai rfl aK))).trans (HV s t));have e2:setF 4 (λenv=>((aa ah (aa aD fNil)) env).bind m_columns_between) [.F (.str r),.F s.d,.F t.d,.F (.int (mO s t)),.un]=some (.nx [.F (.str r),.F s.d,.F t.d,.F (.int (mO s t)),.F (.int (qm s t))]):=aW ((call_v (ai rfl (ai rfl aK))).trans (H9 s t));refine aZ ((aq e1).trans ((aq e2).trans ?_));unfold me;rcases hr with rfl | rfl | rfl
 .rw[h_ rfl];exact dI ((cq rfl).trans (bD ((aU (fH _ _) rfl).trans (Ka _ _))))
 .rw[i_ @2,h_ rfl];exact(aq ((bC rfl).trans rfl)).trans (dI ((cq rfl).trans (bD ((aU (fH _ _) rfl).trans (Ka _ _)))))
 .rw[i_ @2,i_ @2];exact(aq ((bC rfl).trans rfl)).trans ((aq ((bC rfl).trans rfl)).trans (bD ((aU (x:=.int (if qm s t>mO s t then qm s t else mO s t)) rfl rfl).trans (Ka _ _))))
theorem Sh.rz_ge{s:Sh}(h:1<=s.n):s.a<=s.rz:=by unfold Sh.rz;split<;>omega
theorem Sh.cz_ge{s:Sh}(h:1<=s.n):s.b<=s.cz:=by unfold Sh.cz;split<;>omega
theorem N0(h1:a<=p)(h2:p<=z)(h3:b<=p+d)(h4:p+d<=y):b<=z+d/\a+d<=(y:Int):=by omega
theorem Mr{a z b y d:Int}(h1:a<=z)(h2:b<=y)(h3:b<=z+d)(h4:a+d<=y):∃x,(b<=x/\x<=y)/\a<=x-d/\x-d<=z:=by
 by_cases h:a+d<=b
 .exact⟨b,by omega,by omega⟩
 .exact⟨a+d,by omega,by omega⟩
theorem qS{s t:Sh}(hs:1<=s.n)(ht:1<=t.n)(d:Yx):(∃q∈t.cs,∃p∈s.cs,q=plus p d)↔t.a<=s.rz+d.1/\s.a+d.1<=t.rz/\t.b<=s.cz+d.2/\s.b+d.2<=t.cz:=by
 constructor
 .rintro⟨q,hq,p,hp,rfl⟩;rw[nI ht]at hq;rw[nI hs]at hp;have r:=N0 hp.1 hp.2.1 hq.1 hq.2.1;have c:=N0 hp.2.2.1 hp.2.2.2 hq.2.2.1 hq.2.2.2;exact⟨r.1,r.2,c⟩
 .rintro⟨h1,h2,h3,h4⟩;obtain⟨x,⟨x1,x2⟩,x3,x4⟩:=Mr (Sh.rz_ge hs) (Sh.rz_ge ht) h1 h2;obtain⟨y,⟨y1,y2⟩,y3,y4⟩:=Mr (Sh.cz_ge hs) (Sh.cz_ge ht) h3 h4;refine⟨(x,y),(nI ht _).mpr ⟨x1,x2,y1,y2⟩,(x-d.1,y-d.2),(nI hs _).mpr ⟨x3,x4,y3,y4⟩,?_⟩;unfold plus;simp only;rw[Int.sub_add_cancel,Int.sub_add_cancel]
theorem zw(h1:a<=z)(h2:b<=y)(hu:0<=u/\b-z<=u/\a-y<=u/\(u=0\/u=b-z\/u=a-y)) :
  ((b<=z+0/\a+0<=y)↔u=0)/\((b<=z+0/\a+0<=y)\/(b<=z+1/\a+1<=y)\/(b<=z+-1/\a+-1<=y)↔u<=1):=by
 refine⟨by omega,?_,λ_=>?_⟩
 .rintro(⟨_,_⟩ | ⟨_,_⟩ | ⟨_,_⟩)<;>omega
 .by_cases e:u=0
  .exact .inl @1
  .by_cases e2:u=b-z
   .exact .inr (.inl @1)
   .exact .inr (.inr @1)
theorem Ut:((p/\a)\/(p/\b)\/(q/\a)\/(p/\c)\/(r/\a))↔(p/\(a\/b\/c))\/((p\/q\/r)/\a):=by
 constructor
 .rintro(⟨h,g⟩ | ⟨h,g⟩ | ⟨h,g⟩ | ⟨h,g⟩ | ⟨h,g⟩)<;>simp[h,g]
 .rintro(⟨h,g | g | g⟩ | ⟨h | h | h,g⟩)<;>simp[h,g]
theorem Um:((p/\a)\/(p/\b)\/(q/\a)\/(p/\c)\/(r/\a)\/(q/\b)\/(q/\c)\/(r/\b)\/(r/\c))↔(p\/q\/r)/\(a\/b\/c):=by
 constructor
 .rintro(⟨h,g⟩ | ⟨h,g⟩ | ⟨h,g⟩ | ⟨h,g⟩ | ⟨h,g⟩ | ⟨h,g⟩ | ⟨h,g⟩ | ⟨h,g⟩ | ⟨h,g⟩)<;>simp[h,g]
 .rintro⟨h | h | h,g | g | g⟩<;>simp[h,g]
theorem mX(x y:Int):0<=HN x y 0/\x<=HN x y 0/\y<=HN x y 0/\(HN x y 0=0\/HN x y 0=x\/HN x y 0=y):=by
 unfold HN;split<;>split<;>omega
theorem uX{r:Str}(hr:cN r){s t:Sh}(hs:1<=s.n)(ht:1<=t.n):me r s t=true↔¬∃q∈t.cs,∃p∈s.cs,∃d∈steps r,q=plus p d:=by
 have sw:(∃q∈t.cs,∃p∈s.cs,∃d∈steps r,q=plus p d)↔∃d∈steps r,(t.a<=s.rz+d.1/\s.a+d.1<=t.rz)/\t.b<=s.cz+d.2/\s.b+d.2<=t.cz:=by
  constructor
  .rintro⟨q,hq,p,hp,d,hd,e⟩;exact⟨d,hd,and_assoc.mpr ((qS hs ht d).mp ⟨q,hq,p,hp,e⟩)⟩
  .rintro⟨d,hd,h⟩;obtain⟨q,hq,p,hp,e⟩:=(qS hs ht d).mpr (and_assoc.mp h);exact⟨q,hq,p,hp,d,hd,e⟩
 obtain⟨r0,r1⟩:=zw (u:=mO s t) (Sh.rz_ge hs) (Sh.rz_ge ht) (mX (t.a-s.rz) (s.a-t.rz));obtain⟨c0,c1⟩:=zw (u:=qm s t) (Sh.cz_ge hs) (Sh.cz_ge ht) (mX (t.b-s.cz) (s.b-t.cz));have n1:0<=mO s t:=(mX (t.a-s.rz) (s.a-t.rz)).1;have n2:0<=qm s t:=(mX (t.b-s.cz) (s.b-t.cz)).1;rw[sw];unfold me;rcases hr with rfl | rfl | rfl
 .rw[h_ rfl,oY,w_];simp only[z_,Yg];rw[r0,c0];clear r0 r1 c0 c1 sw;omega
 .rw[i_ @2,h_ rfl,o6,w_];simp only[p_,UL,V5,exists_eq_or_imp,Yg];rw[Ut,r1,c1,r0,c0];clear r0 r1 c0 c1 sw;omega
 .rw[i_ @2,i_ @2,oM,w_];simp only[p_,UL,V5,exists_eq_or_imp,Yg];rw[Um,r1,c1];clear r0 r1 c0 c1 sw
  split<;>omega
theorem jL:∀{l:List α},(∀a∈l,f a=g a)->l.flatMap f=l.flatMap g
 | [],_=>rfl
 | a::l,h=>by rw[UX,UX,h a g_,jL λx hx=>h x (f_ _ hx)]
def bg(R C:Nat):Ym:=(List.range R).flatMap λ(a:Nat)=>(List.range C).map λ(b:Nat)=>((a:Int),(b:Int))
theorem gR(R C:Nat):(bg R C).length<=C*R:=by
 have h:=ez (g:=λ(a:Nat)=>(List.range C).map λ(b:Nat)=>((a:Int),(b:Int))) (B:=C) (List.range R) λa _=>by simp
 rwa [Ws]at h
def Ny:D->D->D
 | .int a,.int b=>cel (a,b)
 | _,_=>.non
theorem xn(R C:Nat):(aR 0 R).flatMap (λx=>(aR 0 C).map (Ny x))=(bg R C).map cel:=by
 unfold bg;rw[oE,Wf];congr 1;funext a;rw[sG,O_]
 rfl
theorem mw(R C:Nat)(hR:R<=60)(hC:C<=60):m_all_cells [.tup [.int R,.int C]]=some (.lst ((bg R C).map cel)):=by
 have hl:((bg R C).map cel).length<=16000000:=by
  have h1:=gR R C;have h2:=Vp hC hR;rw[c_];omega
 refine aZ ((aq (nW (ds:=[.int R,.int C]) rfl rfl)).trans (bD (a9 (ds:=aR 0 R) (ek (n:=R) rfl @1) rfl ?_ hl)));rw[<- xn];refine rZ (λx=>(aR 0 C).map (Ny x)) _ λd hd=>?_;obtain⟨i,hi,rfl⟩:=gT.mp hd;refine⟨[.F (.int i),.un,.F (.int C)],rfl,rfl,CU (ds:=aR 0 C) (ek (n:=C) rfl @1) rfl (fF _ _ λd hd=>?_)⟩;obtain⟨j,hj,rfl⟩:=gT.mp hd;exact⟨_,rfl,rfl⟩
def both(l:Nat)(p:Yx):List Sh:=[⟨p.1,p.2,false,l⟩,⟨p.1,p.2,true,l⟩]
def I9(l:Nat):D->YO
 | .tup [.int a,.int b]=>(both l (a,b)).map Sh.d
 | _=>[]
theorem qI(l:Nat):∀(ps:Ym),(ps.map cel).flatMap (I9 l)=(ps.flatMap (both l)).map Sh.d
 | []=>rfl
 | p::ps=>by rw[C_,UX,qI l ps,UX,J_];rfl
theorem Fm(s:Sh):dH s.d<=1:=by
 unfold Sh.d dH gY gY gY gY;rw[fE,fE,kj,fE];simp[gY]
theorem GI(s:Sh):pl s.d=true:=by
 unfold Sh.d;simp[pl,gf]
theorem vX(R C:Nat)(hR:R<=8)(hC:C<=8)(a b:Nat)(ha:a<R)(hb:b<C)(l:Nat)(hl:1<=l)(dn:Bool):kh R C (Sh.d ⟨a,b,dn,l⟩)=(if dn=true then decide ((a:Int)+l<=R/\1<l)else decide ((b:Int)+l<=C)):=by
 have i1:inR R (.int a)=true:=by show(decide ((0:Int)<=a)&&decide ((a:Int)<R))=true;rw[y_ (show(0:Int)<=a by omega),y_ (show(a:Int)<R by omega)];rfl
 have i2:inR C (.int b)=true:=by show(decide ((0:Int)<=b)&&decide ((b:Int)<C))=true;rw[y_ (show(0:Int)<=b by omega),y_ (show(b:Int)<C by omega)];rfl
 cases dn
 .show((gG==gG||sDn==gG)&&F1 (.int l)&&(inR R (.int a)&&inR C (.int b))&&(if(gG==sDn)=true then decide (1<(l:Int))&&decide ((a:Int)+l<=R)else decide ((b:Int)+l<=C)))=_;rw[show(gG==gG||sDn==gG)=true by decide,i1,i2,show(gG==sDn)=false by decide];simp only[Bool.true_and,X4,D_,UU]
  by_cases h:(b:Int)+l<=C
  .rw[y_ h,X4];show(decide (1<=(l:Int))&&decide ((l:Int)<=8))=true;rw[y_ @1,y_ @1];rfl
  .rw[G_ h,Wb]
 .show((gG==sDn||sDn==sDn)&&F1 (.int l)&&(inR R (.int a)&&inR C (.int b))&&(if(sDn==sDn)=true then decide (1<(l:Int))&&decide ((a:Int)+l<=R)else decide ((b:Int)+l<=C)))=_;rw[show(gG==sDn||sDn==sDn)=true by decide,i1,i2,show(sDn==sDn)=true by decide];simp only[Bool.true_and,X4,Vy]
  by_cases h:(a:Int)+l<=R/\1<l
  .rw[y_ h,y_ (show(1:Int)<l by omega),y_ h.1];show(decide (1<=(l:Int))&&decide ((l:Int)<=8)&&(true&&true))=true;rw[y_ @1,y_ @1];rfl
  .rw[G_ h]
   by_cases h2:(1:Int)<l
   .rw[G_ (show ¬(a:Int)+l<=R from λz=>h ⟨z,by omega⟩),Wb,Wb]
   .rw[G_ h2,Xz,Wb]
theorem vQ(R C:Nat)(hR:R<=8)(hC:C<=8)(l:Nat)(hl:1<=l):(((bg R C).flatMap (both l)).map Sh.d).filter (kh R C)=(bW R C l).map Sh.d:=by
 rw[List.filter_map];congr 1;unfold bg bW;rw[List.flatMap_assoc,List.filter_flatMap];refine jL λa ha=>?_;rw[Xn,List.filter_flatMap];refine jL λb hb=>?_;have ha':=UV.mp ha;have hb':=UV.mp hb;unfold both atS;have e1:=vX R C hR hC a b ha' hb' l hl false;have e2:=vX R C hR hC a b ha' hb' l hl true;rw[i_ @8]at e1;rw[h_ rfl]at e2;rw[H_,H_,List.filter_nil];simp only[Function.comp];rw[e1,e2]
 by_cases h1:(b:Int)+l<=C<;>by_cases h2:(a:Int)+l<=R/\1<l<;>simp[h1,h2]
theorem xi(R C:Nat)(hR:R<=8)(hC:C<=8)(l:Nat)(hl:1<=l):m_ships_of [.tup [.int R,.int C],.int l]=some (.lst ((bW R C l).map Sh.d)):=by
 have hlen:((bW R C l).map Sh.d).length<=16000000:=by
  have h1:=qH R C l;have h2:=Vp (Vp (m_ 2) hC) hR;rw[c_];omega
 have hlen2:(((bg R C).flatMap (both l)).map Sh.d).length<=16000000:=by
  have h1:=ez (g:=both l) (B:=2) (bg R C) λp _=>by unfold both;simp
  have h2:=gR R C;have h3:=Vp hC hR;rw[c_];omega
 have e1:setF 2 (aM (cx (λenv=>((aa ag fNil) env).bind m_all_cells)) [0,1] (lb [0,1]) YX (gA (Ae (fC oh)) [2] (bq 2) YX (aF (bj (aa ag (aa ah (aa aD (aa ay fNil))))))) 3 [1]) (bU 3 [.tup [.int R,.int C],.int l]) =
   some (.nx [.F @4,.F (.int l),.F (.lst (((bg R C).flatMap (both l)).map Sh.d))]):=by
  refine aW (a9 (be ((call_v (ai rfl aK)).trans (mw R C @1 @1))) rfl ?_ hlen2);rw[<- qI];refine rZ (I9 l) _ λd hd=>?_;obtain⟨p,hp,rfl⟩:=t_.mp hd;exact⟨[.F (.int p.1),.F (.int p.2),.un,.F (.int l)],rfl,rfl,rfl⟩
 refine aZ ((aq e1).trans (bD (a9 (be rfl) rfl ?_ hlen)));have:=w8 (t:=bq 0) (c:=fB (λenv=>((aa ah (aa ag fNil)) env).bind m_is_ship)) (k:=aF ag) (env:=[.un,.F @4]) (kh R C) id (((bg R C).flatMap (both l)).map Sh.d) λd hd=>by
  obtain⟨s,_,rfl⟩:=t_.mp hd;exact⟨[.F s.d,.F @4],rfl,cA ((call_v (ai rfl (ai rfl aK))).trans (Il R C s.d (B_ (Fm s) @1) (GI s))),λ_=>rfl⟩
 rw[List.map_id,vQ R C hR hC l hl]at this;exact this
theorem lR(I:En->Prop)(p:D->Bool)(x:D):∀(ds:YO)(env:En),I env->(∀d∈ds,∀e,I e->(p d=true->∃e1,(t d e).bind body=some (.nx e1)/\I e1)/\(p d=false->(t d e).bind body=some (.rt x)))->
  (ds.all p=true->∃e2,cK t body ds env=some (.nx e2)/\I e2)/\(ds.all p=false->cK t body ds env=some (.rt x))
 | [],env,h,_=>⟨λ_=>⟨env,rfl,h⟩,λh=>by cases h⟩
 | d::ds,env,h,hb=>by
  obtain⟨h1,h2⟩:=hb d g_ env h;cases hp:p d with
  | true=>
   obtain⟨e1,h3,h4⟩:=h1 hp;obtain⟨e0,h5,h6⟩:=b_.mp h3;have hh:cK t body (d::ds) env=cK t body ds e1:=by
    show(t d env).bind (λe1=>(body e1).bind _)=_;rw[h5];show(body e0).bind _=_;rw[h6]
    rfl
   rw[hh,List.all_cons,hp,Bool.true_and];exact lR I p x ds e1 h4 λd' hd=>hb d' (f_ _ hd)
  | false=>
   obtain⟨e0,h5,h6⟩:=b_.mp (h2 hp);rw[List.all_cons,hp,Xz];refine⟨λh=>(by cases h),λ_=>?_⟩;show(t d env).bind (λe1=>(body e1).bind _)=_;rw[h5];show(body e0).bind _=_;rw[h6]
   rfl
noncomputable def gF(ru:Str)(s:Sh):Ym:=match m__law_halo [.str ru,s.d]with | some d=>Kj d | _=>[]
theorem xv(s:Sh)(hn:s.n<=1000)(ru:Str)(hr:cN ru):m__law_halo [.str ru,s.d]=some (eC (gF ru s))/\∀q,q∈gF ru s↔∃p∈s.cs,∃t∈steps ru,q=plus p t:=by
 obtain⟨ks,h1,h2⟩:=Hu s hn ru hr;have:gF ru s=ks:=by unfold gF;rw[h1];exact yC ks
 rw[this];exact⟨h1,h2⟩
theorem Do(s0:Slot)(cs:Ym)(ks:Ym)(s3:Slot):(cs.all (λp=>!decide (p∈ks))=true->∃IG,dX [s0,.F (.lst (cs.map cel)),.F (eC ks),s3]=some (.nx [s0,.F (.lst (cs.map cel)),.F (eC ks),IG]))/\(cs.all (λp=>!decide (p∈ks))=false->dX [s0,.F (.lst (cs.map cel)),.F (eC ks),s3]=some (.rt (.bl false))):=by
 have hh:=lR (t:=bq 3) (body:=jE) (λe=>∃s3,e=[s0,.F (.lst (cs.map cel)),.F (eC ks),s3]) (λd=>match d with | .tup [.int a,.int b]=>!decide ((a,b)∈ks) | _=>true) (.bl false) (cs.map cel) _ ⟨s3,rfl⟩ λd hd e az=>by
  obtain⟨s3,he⟩:=az;subst he;obtain⟨q,hq,rfl⟩:=t_.mp hd;have ht:fB (ar (Ju Th.h false) ay aD) [s0,.F (.lst (cs.map cel)),.F (eC ks),.F (cel q)]=some (decide (q∈ks)):=cA (by
   show(EL Th.h (eC ks)).bind _=_;unfold eC;rw[wD];show some (D.bl (decide (cW q∈ks.map cW)))=_;congr 2;rw[UD,w_,w_];exact eM)
  constructor
  .intro h;have h:decide (q∈ks)=false:=by simpa [cel]using h
   exact⟨_,fu (e0:=[s0,.F (.lst (cs.map cel)),.F (eC ks),.F (cel q)]) rfl ((bC (ht.trans (by rw[h]))).trans rfl),_,rfl⟩
  .intro h;have h:decide (q∈ks)=true:=by simpa [cel]using h
   exact fu (e0:=[s0,.F (.lst (cs.map cel)),.F (eC ks),.F (cel q)]) rfl ((cq (ht.trans (by rw[h]))).trans rfl)
 rw[Yd]at hh;refine⟨λh=>?_,λh=>(cf (be rfl)).trans (hh.2 h)⟩;obtain⟨e2,g1,IG,rfl⟩:=hh.1 h;exact⟨IG,(cf (be rfl)).trans g1⟩
theorem ng(hs:List Ym)(cs:Ym):m__law_free [.lst (hs.map eC),.lst (cs.map cel)]=some (.bl (hs.all λks=>cs.all λp=>!decide (p∈ks))):=by
 have hh:=lR (t:=bq 2) (body:=dX) (λe=>∃s2 s3,e=[.F (.lst (hs.map eC)),.F (.lst (cs.map cel)),s2,s3]) (λd=>cs.all λp=>!decide (p∈Kj d)) (.bl false) (hs.map eC) [.F (.lst (hs.map eC)),.F (.lst (cs.map cel)),.un,.un] ⟨.un,.un,rfl⟩ λd hd e az=>by
  obtain⟨s2,s3,he⟩:=az;subst he;obtain⟨ks,Ir,rfl⟩:=t_.mp hd;obtain⟨g1,g2⟩:=Do (.F (.lst (hs.map eC))) cs ks s3;simp only[yC];refine⟨λh=>?_,λh=>fu (e0:=[.F (.lst (hs.map eC)),.F (.lst (cs.map cel)),.F (eC ks),s3]) rfl (g2 h)⟩;obtain⟨IG,g⟩:=g1 h;exact⟨_,fu (e0:=[.F (.lst (hs.map eC)),.F (.lst (cs.map cel)),.F (eC ks),s3]) rfl g,_,_,rfl⟩
 rw[Yd]at hh;simp only[XZ,yC]at hh;cases hb:(hs.all λks=>cs.all λp=>!decide (p∈ks))with
 | true=>
  obtain⟨e2,g1,s2,s3,rfl⟩:=hh.1 hb;exact aZ ((aq ((cf (be rfl)).trans g1)).trans rfl)
 | false=>exact aZ (dI ((cf (be rfl)).trans (hh.2 hb)))
theorem Br(hr:cN ru)(h:List Sh)(hh:∀t∈h,1<=t.n/\t.n<=1000)(s:Sh)(hs:1<=s.n):m__law_free [.lst (h.map λt=>eC (gF ru t)),.lst (s.cs.map cel)]=some (.bl (h.all λt=>me ru t s)):=by
 have e:=ng (h.map (gF ru)) s.cs;rw[O_]at e;refine Eq.trans e ?_;congr 2;rw[Yd,UD,U3,U3];refine forall_congr' λt=>forall_congr' λht=>?_;obtain⟨h1,h2⟩:=hh t ht;rw[uX hr h1 hs];simp only[VS,U3,X1,Wg];constructor
 .rintro hq ⟨q,RV,p,hp,d,hd,e⟩;exact hq q RV (((xv t h2 ru hr).2 q).mpr ⟨p,hp,d,hd,e⟩)
 .intro hq q RV hq2;obtain⟨p,hp,d,hd,e⟩:=((xv t h2 ru hr).2 q).mp hq2;exact hq ⟨q,RV,p,hp,d,hd,e⟩
instance (s t:Sh):Decidable (Bef s t):=by unfold Bef;infer_instance
def jB(fl:Yv):D:=.tup (fl.map λ(n:Nat)=>.int n)
def hidD(h:List Sh):D:=.tup (h.map Sh.d)
noncomputable def ik(ru:Str)(h:List Sh):D:=.tup [hidD h,.lst (h.map λs=>eC (gF ru s))]
def uY(fl:Yv)(j:Nat)(h:List Sh)(s:Sh):Bool:=decide (j=0)||(!decide (fl.getD (j-1) 0=fl.getD j 0)||(match h.getLast? with | some u=>decide (Bef u s) | none=>true))
def okN(ru:Str)(fl:Yv)(j:Nat)(h:List Sh)(s:Sh):Bool:=uY fl j h s&&h.all λt=>me ru t s
def hV(R C:Nat)(ru:Str)(fl:Yv)(j:Nat)(rows:List (List Sh)):List (List Sh):=rows.flatMap λh=>((bW R C (fl.getD j 0)).filter (okN ru fl j h)).map λs=>h++[s]
def bA(R C:Nat)(ru:Str)(fl:Yv):Nat->List (List Sh)
 | 0=>[[]]
 | j+1=>hV R C ru fl j (bA R C ru fl j)
noncomputable abbrev eA(R C:Nat)(fl:Yv)(ru:Str)(rows:D)(pl ln:Nat)(ss:List Sh)(acc:YO)(dW jl gg ei:Slot):En:=
 [.F @4,.F (jB fl),.F (.str ru),.F rows,.F (.int pl),.F (.int ln),.F (.lst (ss.map Sh.d)),.F (.lst (ss.map λs=>eC (gF ru s))),.F (.lst (ss.map λs=>.lst (s.cs.map cel))),.O (.L acc),dW,jl,gg,ei]
theorem Da(h:f env=some (.tup xs))(h2:g env=some (.tup ys))(hl:xs.length+ys.length<=16000000):ar Bv f g env=some (.tup (xs++ys)):=by
 rw[aU h h2];show(if xs.length+ys.length<=16000000 then _ else _)=_;rw[h_ hl]
theorem Nq(s t:Sh):Oi s.d t.d=some (.bl (decide (Bef s t))):=by
 obtain⟨q,h1,h2⟩:=tM s t;show(fw s.ks t.ks).bind _=_;rw[h1,show decide (Bef s t)=q by cases q<;>simp_all];rfl
theorem all1(R C:Nat)(fl:Yv)(ru:Str)(hr:cN ru)(rows:D)(pl:Nat)(fy:pl<fl.length)(ss:List Sh)(acc:YO)(ha:acc.length<1000000)(h:List Sh)(hl:h.length=pl)(hh:∀t∈h,1<=t.n/\t.n<=1000)(T3:pl<=3)(ei:Slot)(k:Nat)(s:Sh)(hk:ss[k]?=some s)(hn:1<=s.n) :
  ∃fY:Slot,eH (eA R C fl ru rows pl (fl.getD pl 0) ss acc (.F (hidD h)) @10 (.F (.int k)) ei)=some (.nx (eA R C fl ru rows pl (fl.getD pl 0) ss (acc++if okN ru fl pl h s=true then [ik ru (h++[s])]else []) (.F (hidD h)) @10 (.F (.int k)) fY)):=by
 have hb:=Br hr h hh s hn;have hq:(J2 (ar eJ aV YS) (J2 (ar ud (ar aI ah (ar subI aV YT)) cB) (ar Oi (ar aI iR (bN jI YT)) (ar aI cE dC)))) (eA R C fl ru rows pl (fl.getD pl 0) ss acc (.F (hidD h)) @10 (.F (.int k)) ei)=some (.bl (uY fl pl h s)):=by
  cases pl with
  | zero=>exact Lr (p:=true) (q:=true) rfl (λh=>by cases h)
  | succ m=>
   have hx:fl[m]?=some (fl.getD m 0):=by rw[Vg,l_ @1];rfl
   have i1:ar aI ah (ar subI aV YT) (eA R C fl ru rows (m+1) (fl.getD (m+1) 0) ss acc (.F (hidD h)) @10 (.F (.int k)) ei)=some (.int ((fl.getD m 0:Nat):Int)):=by
    refine oy (i:=(m:Int)) rfl ?_ (d7 (by rw[x_,hx];rfl));show some (D.int (((m+1:Nat):Int)-1))=_;rw[show((m+1:Nat):Int)-1=(m:Int) by omega]
   obtain⟨h0,u,hu⟩:∃h0 u,h=h0++[u]:=by
    have hne:h≠[]:=λe=>by rw[e]at hl;cases hl
    exact⟨h.dropLast,h.getLast hne,(Wn hne).symm⟩
   have i2:ar aI iR (bN jI YT) (eA R C fl ru rows (m+1) (fl.getD (m+1) 0) ss acc (.F (hidD h)) @10 (.F (.int k)) ei)=some u.d:=by
    refine oy (ds:=h.map Sh.d) (i:=-1) rfl rfl ?_;rw[hu,J_];exact L2.vb _ _
   have i3:ar aI cE dC (eA R C fl ru rows (m+1) (fl.getD (m+1) 0) ss acc (.F (hidD h)) @10 (.F (.int k)) ei)=some s.d:=fj (i:=(k:Int)) rfl rfl (d7 (by rw[x_,hk];rfl));have:=Lr (p:=((m+1:Nat):Int)==0) (f:=ar eJ aV YS) (env:=eA R C fl ru rows (m+1) (fl.getD (m+1) 0) ss acc (.F (hidD h)) @10 (.F (.int k)) ei) rfl λ_=>Lr (p:=!(((fl.getD m 0:Nat):Int)==((fl.getD (m+1) 0:Nat):Int))) ((aU (g:=λenv=>dR env 5) i1 rfl).trans (P7 _ _)) λ_=>(aU i2 i3).trans (Nq u s);rw[this];congr 2;unfold uY;rw[hu,List.getLast?_append];have e1:(((m+1:Nat):Int)==0)=decide (m+1=0):=by rw[UD];simp;omega
   have e2:(((fl.getD m 0:Nat):Int)==((fl.getD (m+1) 0:Nat):Int))=decide (fl.getD (m+1-1) 0=fl.getD (m+1) 0):=by rw[UD,WU,w_,Nat.add_sub_cancel];omega
   rw[e1,e2];rfl
 unfold eH;have i6:∀fY:Slot,ar aI cE dC (eA R C fl ru rows pl (fl.getD pl 0) ss acc (.F (hidD h)) @10 (.F (.int k)) fY)=some s.d:=λ_=>fj (i:=(k:Int)) rfl rfl (d7 (by rw[x_,hk];rfl));have i7:∀fY:Slot,ar aI dg dC (eA R C fl ru rows pl (fl.getD pl 0) ss acc (.F (hidD h)) @10 (.F (.int k)) fY)=some (eC (gF ru s)):=λ_=>fj (i:=(k:Int)) rfl rfl (d7 (by rw[x_,hk];rfl));have i8:∀fY:Slot,ar aI er dC (eA R C fl ru rows pl (fl.getD pl 0) ss acc (.F (hidD h)) @10 (.F (.int k)) fY)=some (.lst (s.cs.map cel)):=λ_=>fj (i:=(k:Int)) rfl rfl (d7 (by rw[x_,hk];rfl));have ht:qp (fB tz) (fB (λenv=>((aa nM (aa (ar aI er dC) fNil)) env).bind m__law_free)) (eA R C fl ru rows pl (fl.getD pl 0) ss acc (.F (hidD h)) @10 (.F (.int k)) (.F (.bl (uY fl pl h s))))=some (okN ru fl pl h s):=r8 (cA rfl) λ_=>cA ((call_v (ai rfl (ai (i8 _) aK))).trans hb);refine⟨.F (.bl (uY fl pl h s)),(aq (aW hq)).trans ?_⟩;cases hqb:okN ru fl pl h s with
 | true=>
  rw[hqb]at ht;rw[h_ rfl];refine(cq ht).trans ?_;refine mi (d:=ik ru (h++[s])) rfl (kf (ai ?_ (ai ?_ aK))) @1
  .have:=Da (f:=λenv=>dR env 10) (g:=bj (aa (ar aI cE dC) fNil)) (env:=eA R C fl ru rows pl (fl.getD pl 0) ss acc (.F (hidD h)) @10 (.F (.int k)) (.F (.bl (uY fl pl h s)))) (xs:=h.map Sh.d) (ys:=[s.d]) rfl (kf (ai (i6 _) aK)) (by rw[c_,hl];simp;omega);exact this.trans (by unfold hidD;rw[J_];rfl)
  .have:=rQ (f:=λenv=>dR env 11) (g:=bO (aa (ar aI dg dC) fNil)) (env:=eA R C fl ru rows pl (fl.getD pl 0) ss acc (.F (hidD h)) @10 (.F (.int k)) (.F (.bl (uY fl pl h s)))) (xs:=h.map λs=>eC (gF ru s)) (ys:=[eC (gF ru s)]) rfl (Jc (ai (i7 _) aK)) (by rw[c_,hl];simp;omega);exact this.trans (by rw[J_];rfl)
 | false=>
  rw[hqb]at ht;rw[i_ @8,UG];exact(bC ht).trans rfl
theorem jc(f:α->D)(I:YO->En->Prop)(g:α->YO)(B M:Nat):∀(xs:List α)(acc:YO)(env:En),I acc env->acc.length+B*xs.length<=M->(∀x∈xs,(g x).length<=B/\∀acc e,I acc e->acc.length+B<=M->∃e1,(t (f x) e).bind body=some (.nx e1)/\I (acc++g x) e1)->∃e2,cK t body (xs.map f) env=some (.nx e2)/\I (acc++xs.flatMap g) e2
 | [],acc,env,h,_,_=>⟨env,rfl,by rw[List.flatMap_nil,UG];exact h⟩
 | x::xs,acc,env,h,hl,hb=>by
  obtain⟨h1,h2⟩:=hb x g_;rw[v_,Ya]at hl;obtain⟨e1,h3,h4⟩:=h2 acc env h @1;obtain⟨e0,h5,h6⟩:=b_.mp h3;have hh:cK t body ((x::xs).map f) env=cK t body (xs.map f) e1:=by
   show(t (f x) env).bind (λe1=>(body e1).bind _)=_;rw[h5];show(body e0).bind _=_;rw[h6]
   rfl
  obtain⟨e2,h7,h8⟩:=jc f I g B M xs (acc++g x) e1 h4 (by rw[u_];omega) λy hy=>hb y (f_ _ hy);refine⟨e2,hh.trans h7,?_⟩;rw[UX,<- VM];exact h8
theorem Dt(n:Nat):aR 0 n=(List.range n).map λ(i:Nat)=>D.int i:=by
 have:=sG (g:=id) n;rw[List.map_id]at this;exact this
theorem Bc(l:List α)(G:Option α->List β):(List.range l.length).flatMap (λi=>G l[i]?)=l.flatMap λa=>G (some a):=by
 have:(List.range l.length).map (λi=>l[i]?)=l.map some:=by
  apply W8;intro i;rw[x_,x_]
  by_cases h:i<l.length
  .rw[VP h,l_ h];simp
  .rw[E_ (by simpa using h),E_ (by simpa using h)];rfl
 have h2:=VE (λx=>x.flatMap G) this;simp only[Xn]at h2;exact h2
theorem zd(p:α->Bool)(G:α->β):∀(l:List α),(l.flatMap λa=>if p a=true then [G a]else [])=(l.filter p).map G
 | []=>rfl
 | a::l=>by
  rw[UX,H_,zd p G l]
  split<;>rfl
theorem all2(R C:Nat)(fl:Yv)(ru:Str)(hr:cN ru)(rows:D)(pl:Nat)(fy:pl<fl.length)(ss:List Sh)(acc:YO)(ha:acc.length<900000)(h:List Sh)(hl:h.length=pl)(hh:∀t∈h,1<=t.n/\t.n<=1000)(T3:pl<=3)(gg ei:Slot)(RW:ss.length<=40)(hn:∀s∈ss,1<=s.n) :
  ∃pM fY:Slot,eB (eA R C fl ru rows pl (fl.getD pl 0) ss acc (.F (hidD h)) @10 gg ei)=some (.nx (eA R C fl ru rows pl (fl.getD pl 0) ss (acc++((ss.filter (okN ru fl pl h)).map λs=>h++[s]).map (ik ru)) (.F (hidD h)) @10 pM fY)):=by
 obtain⟨e2,h1,pM,fY,rfl⟩:=jc (t:=bq 12) (body:=eH) (λ(i:Nat)=>D.int i) (λacc e=>∃gg ei,e=eA R C fl ru rows pl (fl.getD pl 0) ss acc (.F (hidD h)) @10 gg ei) (λi=>match ss[i]? with | some s=>if okN ru fl pl h s=true then [ik ru (h++[s])]else [] | none=>[]) 1 950000 (List.range ss.length) acc _ ⟨gg,ei,rfl⟩ (by rw[Ws];omega) λi hi=>by
  have hi':=UV.mp hi;have hk:ss[i]?=some ss[i]:=l_ hi';rw[hk];refine⟨by dsimp only;split<;>simp,λdU e ⟨pM,fY,he⟩ Cb=>?_⟩;subst he;obtain⟨s13'',u⟩:=all1 R C fl ru hr rows pl fy ss dU @1 h hl hh T3 fY i ss[i] hk (hn _ (Wa hi'));exact⟨_,fu (e0:=eA R C fl ru rows pl (fl.getD pl 0) ss dU (.F (hidD h)) @10 (.F (.int i)) fY) rfl u,_,_,rfl⟩
 rw[Bc ss (λo=>match o with | some s=>if okN ru fl pl h s=true then [ik ru (h++[s])]else [] | none=>[])]at h1;dsimp only at h1;rw[zd (okN ru fl pl h) (λs=>ik ru (h++[s])),<- Dt]at h1;refine⟨pM,fY,?_⟩;unfold eB;rw[cf (ek (n:=ss.length) ((kX rfl).trans (by rw[c_])) @1),h1,O_];rfl
theorem bY(f g:α->D):∀(xs:List α),(∀x∈xs,∃e1,t (f x) env=some e1/\k e1=some [g x])->fq t YX k env (xs.map f)=some (xs.map g)
 | [],_=>rfl
 | x::xs,h=>by
  obtain⟨e1,h1,h3⟩:=h x g_;have i1:=bY f g xs λy hy=>h y (f_ _ hy);show fq _ _ _ _ (f x::xs.map f)=_;unfold fq;rw[h1];show(if true=true then k e1 else some []).bind _=_;rw[h_ rfl,h3];show(fq t YX k env (xs.map f)).bind _=_;rw[i1];rfl
theorem kM(R C:Nat)(hR:R<=4)(hC:C<=5)(l:Nat):(bW R C l).length<=40:=by
 have h1:=qH R C l;have h2:=Vp (Vp (m_ 2) hC) hR;omega
theorem ji(h:s∈bW R C l):s.n=l:=(lK.mp h).2.1
theorem EB(R C:Nat)(hR:R<=4)(hC:C<=5)(ru:Str)(hru:cN ru)(fl:Yv)(yK:fl.length<=3)(pl:Nat)(fy:pl<fl.length)(hln:1<=fl.getD pl 0/\fl.getD pl 0<=10)(rows:List (List Sh))(hrows:∀h∈rows,h.length=pl/\∀t∈h,1<=t.n/\t.n<=1000)(hlen:rows.length<=1600)(s6 s7 s8 s9 dW jl gg ei:Slot) :
  ∃(t6 t7 t8 t9 Cd F' FY Ao:Slot),gK [.F @4,.F (jB fl),.F (.str ru),.F (.lst (rows.map (ik ru))),.F (.int pl),.F (.int (fl.getD pl 0:Nat)),s6,s7,s8,s9,dW,jl,gg,ei]
   = some (.nx [.F @4,.F (jB fl),.F (.str ru),.F (.lst ((hV R C ru fl pl rows).map (ik ru))),.F (.int pl),.F (.int (fl.getD pl 0:Nat)),t6,t7,t8,t9,Cd,F',FY,Ao]):=by
 have a1:=BH R C @1 @1 (fl.getD pl 0);have ls:=kM R C hR hC (fl.getD pl 0);have hn:∀s∈bW R C (fl.getD pl 0),1<=s.n/\s.n<=10:=λs hs=>by rw[ji hs];exact hln
 obtain⟨ss,RW⟩:∃ss,ss=bW R C (fl.getD pl 0):=⟨_,rfl⟩;rw[<- RW]at a1 ls hn;have b1:=bY (t:=bq 0) (k:=aF (λenv=>((aa ah (aa ag fNil)) env).bind m__law_halo)) (env:=[.un,.F (.str ru)]) Sh.d (λs=>eC (gF ru s)) ss λs hs=>⟨[.F s.d,.F (.str ru)],rfl,dk ((call_v (ai rfl (ai rfl aK))).trans (xv s (by have:=hn s hs;omega) ru hru).1)⟩;have c1:=bY (t:=bq 0) (k:=aF (λenv=>((aa ag fNil) env).bind m__law_cells)) (env:=[.un]) Sh.d (λs=>.lst (s.cs.map cel)) ss λs hs=>⟨[.F s.d],rfl,dk ((call_v (ai rfl aK)).trans (kB s (by have:=hn s hs;omega)))⟩;obtain⟨e2,h1,B6,II,pM,fY,rfl⟩:=jc (t:=lb [10,11]) (body:=eB) (ik ru) (λacc e=>∃(B6 II pM fY:Slot),e=eA R C fl ru (.lst (rows.map (ik ru))) pl (fl.getD pl 0) ss acc B6 II pM fY) (λh=>((ss.filter (okN ru fl pl h)).map λs=>h++[s]).map (ik ru)) 40 800000 rows [] _ ⟨dW,jl,gg,ei,rfl⟩ (by rw[T_];omega) λh hh=>by
  refine⟨by rw[c_,c_];exact B_ (Q_ _ _) ls,λacc e ⟨B6,II,pM,fY,he⟩ Cb=>?_⟩;subst he;obtain⟨q1,q2⟩:=hrows h hh;obtain⟨s12'',s13'',u⟩:=all2 R C fl ru hru (.lst (rows.map (ik ru))) pl fy ss acc @1 h q1 q2 @1 pM fY ls (λs hs=>(hn s hs).1);exact⟨_,fu (e0:=eA R C fl ru (.lst (rows.map (ik ru))) pl (fl.getD pl 0) ss acc (.F (hidD h)) @10 pM fY) rfl u,_,_,_,_,rfl⟩
 have hst:rows.flatMap (λh=>((ss.filter (okN ru fl pl h)).map λs=>h++[s]).map (ik ru))=(hV R C ru fl pl rows).map (ik ru):=by
  unfold hV;rw[Wf,RW]
 rw[hst,U0]at h1;have l1:(ss.map λs=>eC (gF ru s)).length<=16000000:=by rw[c_];omega
 have l2:(ss.map λs=>D.lst (s.cs.map cel)).length<=16000000:=by rw[c_];omega
 exact⟨.F (.lst (ss.map Sh.d)),.F (.lst (ss.map λs=>eC (gF ru s))),.F (.lst (ss.map λs=>.lst (s.cs.map cel))),.F (.lst ((hV R C ru fl pl rows).map (ik ru))),B6,II,pM,fY,(aq (aW ((call_v (ai rfl (ai rfl aK))).trans a1))).trans ((aq (aW (a9 (be rfl) rfl b1 l1))).trans ((aq (aW (a9 (be rfl) rfl c1 l2))).trans ((aq (gL rfl)).trans ((aq ((cf (be rfl)).trans h1)).trans ((aq rfl).trans (aW rfl))))))⟩
theorem GU(h:f env=some (.tup ds)):IU f env=some (kN 0 ds):=by unfold IU;rw[h];rfl
theorem AC(R C:Nat)(hR:R<=4)(hC:C<=5)(ru:Str)(fl:Yv)(j:Nat)(rows:List (List Sh)):(hV R C ru fl j rows).length<=40*rows.length:=
 ez rows λh _=>by rw[c_];exact B_ (Q_ _ _) (kM R C hR hC _)
theorem ku(R C:Nat)(hR:R<=4)(hC:C<=5)(ru:Str)(fl:Yv):∀j,(bA R C ru fl j).length<=40 ^ j
 | 0=>by simp[bA]
 | j+1=>by
  have h1:=AC R C hR hC ru fl j (bA R C ru fl j);have h2:=ku R C hR hC ru fl j;rw[Wh];show(hV R C ru fl j (bA R C ru fl j)).length<=_;omega
theorem qQ:x∈hV R C ru fl j rows↔∃h∈rows,∃s∈bW R C (fl.getD j 0),okN ru fl j h s=true/\x=h++[s]:=by
 unfold hV;simp only[Vu,t_,UN];constructor
 .rintro⟨h,hh,s,⟨h1,h2⟩,rfl⟩;exact⟨h,hh,s,h1,h2,rfl⟩
 .rintro⟨h,hh,s,h1,h2,rfl⟩;exact⟨h,hh,s,⟨h1,h2⟩,rfl⟩
theorem zy(R C:Nat)(ru:Str)(fl:Yv)(hf:∀n∈fl,1<=n/\n<=10):∀j,j<=fl.length->∀h∈bA R C ru fl j,h.length=j/\∀t∈h,1<=t.n/\t.n<=1000
 | 0,_,h,hh=>by cases z_.mp hh;exact⟨rfl,λt ht=>by cases ht⟩
 | j+1,hj,x,hx=>by
  obtain⟨h,hh,s,h1,h2,rfl⟩:=qQ.mp hx;obtain⟨i1,i2⟩:=zy R C ru fl hf j @1 h hh;refine⟨by simp[i1],λt ht=>?_⟩;rcases UF.mp ht with ht | ht
  .exact i2 t ht
  .cases z_.mp ht;rw[ji h1];have:=hf (fl.getD j 0) (by rw[Vg,l_ @1];exact Wa _);omega
theorem EF(h:n<=3):40 ^ n<=64000:=B_ (Nat.pow_le_pow_right @2 h) @2
theorem LB(R C:Nat)(hR:R<=4)(hC:C<=5)(ru:Str)(hru:cN ru)(fl:Yv)(yK:fl.length<=3)(hf:∀n∈fl,1<=n/\n<=10) :
  m__law_all [.tup [.int R,.int C],jB fl,.str ru]=some (.lst ((bA R C ru fl fl.length).map hidD)):=by
 obtain⟨e2,h1,s4,s5,s6,s7,s8,s9,dW,jl,gg,ei,rfl⟩:=fG (t:=lb [4,5]) (body:=gK) (λj e=>∃(s4 s5 s6 s7 s8 s9 dW jl gg ei:Slot),e=[.F @4,.F (jB fl),.F (.str ru),.F (.lst ((bA R C ru fl j).map (ik ru))),s4,s5,s6,s7,s8,s9,dW,jl,gg,ei]) (kN 0 (fl.map λ(n:Nat)=>.int n)) 0 _ ⟨.un,.un,.un,.un,.un,.un,.un,.un,.un,.un,rfl⟩ λi d e hd az=>by
  obtain⟨s4,s5,s6,s7,s8,s9,dW,jl,gg,ei,he⟩:=az;subst he;have hi:=(k_.mp hd).1;rw[gm,c_]at hi;have hg:fl[i]?=some (fl.getD i 0):=by rw[Vg,l_ hi];rfl
  have hx:(fl.map λ(n:Nat)=>D.int n)[i]?=some (.int ((fl.getD i 0:Nat):Int)):=by rw[x_,hg];rfl
  rw[kT hx]at hd;cases hd;simp only[UH];have hp2:40 ^ i<=40 ^ 2:=Nat.pow_le_pow_right @2 @1;obtain⟨t6,t7,t8,t9,Cd,F',FY,Ao,u1⟩:=EB R C hR hC ru hru fl yK i hi (hf _ (UW hg)) (bA R C ru fl i) (zy R C ru fl hf i @1) (by have:=ku R C hR hC ru fl i;omega) s6 s7 s8 s9 dW jl gg ei;exact⟨_,fu rfl u1,_,_,_,_,_,_,_,_,_,_,rfl⟩
 rw[UH,gm,c_]at h1;have h40:=EF yK;have hlen:=ku R C hR hC ru fl fl.length;refine aZ ((aq (aW rfl)).trans ((aq ((cf (GU rfl)).trans h1)).trans (bD (a9 (be rfl) rfl ?_ (by rw[c_];omega)))));exact bY (ik ru) hidD _ λh hh=>⟨_,rfl,rfl⟩
def ue(ru:Str)(s t:Sh):Prop:=(t.n=s.n->Bef s t)/\me ru s t=true
instance (ru:Str)(s t:Sh):Decidable (ue ru s t):=by unfold ue;infer_instance
theorem Bt(h:Bef s t)(h2:Bef t u):Bef s u:=by
 rcases h with h | ⟨e,h⟩
 .rcases h2 with h2 | ⟨e2,_⟩
  .exact .inl (Int.lt_trans h h2)
  .exact .inl (e2▸h)
 .rcases h2 with h2 | ⟨e2,h2⟩
  .exact .inl (e▸h2)
  .refine .inr ⟨e.trans e2,?_⟩;rcases h with h | ⟨f,h⟩
   .rcases h2 with h2 | ⟨f2,_⟩
    .exact .inl (Int.lt_trans h h2)
    .exact .inl (f2▸h)
   .rcases h2 with h2 | ⟨f2,h2⟩
    .exact .inl (f▸h2)
    .refine .inr ⟨f.trans f2,?_⟩;rcases h with ⟨p,q⟩ | ⟨p,q⟩
     .rcases h2 with ⟨p2,_⟩ | ⟨p2,_⟩
      .rw[q]at p2;cases p2
      .exact .inl ⟨p,p2▸q⟩
     .rcases h2 with ⟨p2,q2⟩ | ⟨p2,q2⟩
      .exact .inl ⟨p.trans p2,q2⟩
      .exact .inr ⟨p.trans p2,X8 q q2⟩
theorem qB{fl:Yv}{j:Nat}(h:j<fl.length):fl.take (j+1)=fl.take j++[fl.getD j 0]:=by
 rw[X0,Vg,l_ h];rfl
theorem y0{ru:Str}{fl:Yv}(hs:fl.Pairwise (·>=·)){j:Nat}(hj:j<fl.length){h:List Sh}(hm:h.map Sh.n=fl.take j)(hp:h.Pairwise (ue ru)){s:Sh}(hsn:s.n=fl.getD j 0):okN ru fl j h s=true↔∀t∈h,ue ru t s:=by
 have hlen:h.length=j:=by have:=VE List.length hm;rw[c_,VW]at this;omega
 have T4:∀t∈h,s.n<=t.n:=λt ht=>by
  have h1:t.n∈fl.take j:=hm▸UK ht;have mE:(fl.take j++fl.drop j).Pairwise (·>=·):=by rw[VD];exact hs
  rw[hsn];refine(UQ.mp mE).2.2 _ h1 _ ?_;rw[Vg,l_ hj,VC hj];exact g_
 unfold okN uY;rw[I_,U3]
 by_cases hz:j=0
 .have:h=[]:=List.eq_nil_of_length_eq_zero @1;subst this;simp[hz]
 obtain⟨h0,u,rfl⟩:∃h0 u,h=h0++[u]:=by
  have hne:h≠[]:=λe=>by rw[e]at hlen;exact hz hlen.symm
  exact⟨h.dropLast,h.getLast hne,(Wn hne).symm⟩
 have hu:u.n=fl.getD (j-1) 0/\h0.map Sh.n=fl.take (j-1):=by
  have e:fl.take j=fl.take (j-1)++[fl.getD (j-1) 0]:=by
   have:=qB (fl:=fl) (j:=j-1) @1;rwa [show j-1+1=j by omega]at this
  rw[e,J_]at hm;have:=X5 hm rfl;exact⟨by simpa using this.2,this.1⟩
 have T5:∀t∈h0,u.n<=t.n:=λt ht=>by
  have mE:(fl.take j).Pairwise (·>=·):=hs.sublist (W2 _ _);rw[<- hm,J_]at mE;exact(UQ.mp mE).2.2 _ (UK ht) _ @8
 rw[List.getLast?_append];simp only[List.getLast?_singleton,Option.some_or,hz,decide_false,Bool.false_or,Bool.or_eq_true,X1,Wg,w_];rw[<- hu.1,<- hsn];constructor
 .rintro⟨h1,h2⟩ t ht;refine⟨λe=>?_,h2 t ht⟩;rcases h1 with h1 | h1
  .have b1:=T4 u @8;rcases UF.mp ht with ht | ht
   .have:=T5 t ht;omega
   .cases z_.mp ht;omega
  .rcases UF.mp ht with ht | ht
   .have b1:=T4 u @8;have b2:=T5 t ht;exact Bt (((UQ.mp hp).2.2 t ht u @8).1 @1) h1
   .cases z_.mp ht;exact h1
 .intro hf;refine⟨?_,λt ht=>(hf t ht).2⟩
  by_cases e:u.n=s.n
  .exact .inr ((hf u @8).1 e.symm)
  .exact .inl e
theorem kU(R C:Nat)(ru:Str){fl:Yv}(hs:fl.Pairwise (·>=·)):∀(j:Nat),j<=fl.length->∀h,h∈bA R C ru fl j↔h.map Sh.n=fl.take j/\(∀s∈h,s∈bW R C s.n)/\h.Pairwise (ue ru)
 | 0,_,h=>by
  show h∈[[]]↔_;rw[z_,List.take_zero,List.map_eq_nil_iff];constructor
  .rintro rfl;exact⟨rfl,λs h=>(by cases h),.nil⟩
  .exact λh=>h.1
 | j+1,hj,x=>by
  have ih:=kU R C ru hs j @1;show x∈hV R C ru fl j (bA R C ru fl j)↔_;rw[qQ,qB @1];constructor
  .rintro⟨h,hh,s,h1,h2,rfl⟩;obtain⟨g1,g2,g3⟩:=(ih h).mp hh;have hn:=ji h1;refine⟨by rw[J_,g1,<- hn];rfl,λt ht=>?_,UQ.mpr ⟨g3,Vv _ _,λt ht u hu=>?_⟩⟩
   .rcases UF.mp ht with ht | ht
    .exact g2 t ht
    .cases z_.mp ht;rw[hn];exact h1
   .cases z_.mp hu;exact(y0 hs @1 g1 g3 hn).mp h2 t ht
  .rintro⟨g1,g2,g3⟩;obtain⟨h,s,rfl⟩:∃h s,x=h++[s]:=by
    have hne:x≠[]:=λe=>by rw[e]at g1;simp at g1
    exact⟨x.dropLast,x.getLast hne,(Wn hne).symm⟩
   rw[J_]at g1;obtain⟨q1,q2⟩:=X5 g1 rfl;have hn:s.n=fl.getD j 0:=by simpa using q2
   obtain⟨p1,p2,p3⟩:=UQ.mp g3;refine⟨h,(ih h).mpr ⟨q1,λt ht=>g2 t (by simp[ht]),p1⟩,s,hn▸g2 s @8,(y0 hs @1 q1 p1 hn).mpr λt ht=>p3 t ht s @8,rfl⟩
theorem pE(R C:Nat)(ru:Str)(fl:Yv):∀j,(bA R C ru fl j).Nodup
 | 0=>by unfold bA;simp
 | j+1=>by
  have ih:=pE R C ru fl j;show(hV R C ru fl j (bA R C ru fl j)).Nodup;unfold hV List.Nodup;refine Wr.mpr ⟨λh _=>Vx.mpr (((Dx R C (fl.getD j 0)).filter _).imp λ{s t} hb e=>?_),ih.imp λ{a b} Jw x hx y hy e=>?_⟩
  .have:=List.append_inj_right e rfl;cases this;exact je hb hb
  .obtain⟨s,_,rfl⟩:=t_.mp hx;obtain⟨t,_,rfl⟩:=t_.mp hy;exact Jw (X5 e rfl).1
structure PL(R C:Nat)(fl:List Nat)(ru:Str):Prop where
 r0:0<R
 r4:R<=4
 c0:0<C
 c5:C<=5
 l0:0<fl.length
 l3:fl.length<=3
 sz:∀n∈fl,1<=n/\n<=4
 up:fl.Pairwise (·>=·)
 ru:cN ru
theorem NT{r:Yw}(h:r.length=7):∃a b c d e f g,r=[a,b,c,d,e,f,g]:=by
 match r,h with
 | [a,b,c,d,e,f,g],_=>exact⟨a,b,c,d,e,f,g,rfl⟩
theorem zu:∀(ns:Yw),(∀x∈ns,1<=x/\x<=4)->ns.Pairwise (·>=·)->∃fl:Yv,ns.map D.int=fl.map (λ(n:Nat)=>D.int n)/\fl.length=ns.length/\(∀n∈fl,1<=n/\n<=4)/\(∀n∈fl,(n:Int)∈ns)/\fl.Pairwise (·>=·)
 | [],_,_=>⟨[],rfl,rfl,λ_ h=>(by cases h),λ_ h=>(by cases h),.nil⟩
 | x::ns,h,hp=>by
  obtain⟨p1,p2⟩:=Uz.mp hp;obtain⟨fl,h1,h2,h3,h6,h7⟩:=zu ns (λy hy=>h y (f_ _ hy)) p2;obtain⟨h4,h5⟩:=h x g_;obtain⟨n,rfl⟩:=Vf (show 0<=x by omega);refine⟨n::fl,by simp[h1],by simp[h2],λm hm=>?_,λm hm=>?_,Uz.mpr ⟨λm hm=>?_,h7⟩⟩
  .rcases p_.mp hm with rfl | hm
   .omega
   .exact h3 m hm
  .rcases p_.mp hm with rfl | hm
   .exact g_
   .exact f_ _ (h6 m hm)
  .have:=p1 _ (h6 m hm);omega
theorem CA{env:En}(ns:Yw)(hg:dR env 9=some (.tup (ns.map .int)))(h:∀x∈ns,1<=x/\x<=4)(hl:ns.length<=3):∃fl:Yv,bN lZ (bN Fl (bN sortI iB)) env=some (jB fl)/\fl.length=ns.length/\(∀n∈fl,1<=n/\n<=4)/\fl.Pairwise (·>=·):=by
 obtain⟨fl,h1,h2,h3,_,h5⟩:=zu (lq ns).reverse (λx hx=>h x ((jj ns).mem_iff.mp (List.mem_reverse.mp hx))) (List.pairwise_reverse.mpr (sk ns));refine⟨fl,?_,by rw[h2,List.length_reverse,wb],h3,h5⟩;have e1:bN sortI iB env=some (.lst ((lq ns).map .int)):=by
  rw[o4 hg];show(kZ (ns.map .int)).bind _=_;rw[ll];show(if ns.length<64 then _ else _)=_;rw[h_ @1]
 have e2:bN Fl (bN sortI iB) env=some (.lst ((lq ns).map .int).reverse):=by rw[o4 e1];rfl
 rw[E2 e2,<- List.map_reverse,h1];rfl
theorem QU{x:Int}(h:0<=x/\x<4):x=0\/x=1\/x=2\/x=3:=by omega
theorem Qf{x:Int}(h:0<=x/\x<3):x=0\/x=1\/x=2:=by omega
theorem HB(c:Int):∃(R C:Nat)(fl:Yv)(ru:Str),m__law_game [.int c]=some (.tup [.tup [.int R,.int C],jB fl,.str ru])/\PL R C fl ru:=by
 obtain⟨r,h1,h2,h3⟩:=wt c [4,4,4,4,4,4,3] @2 @2;obtain⟨w,ro,co,f,s,t,ru,rfl⟩:=NT h2;have hw:=h3 0 w 4 rfl rfl;have hro:=h3 1 ro 4 rfl rfl;have hco:=h3 2 co 4 rfl rfl;have hf:=h3 3 f 4 rfl rfl;have hs:=h3 4 s 4 rfl rfl;have ht:=h3 5 t 4 rfl rfl;have hru:=h3 6 ru 3 rfl rfl;clear h2 h3;have rule:∃u:Str,cN u/\L2.atI [D.str Me,.str Mf,.str Pf] ru=some (.str u):=by
  rcases Qf hru with rfl | rfl | rfl
  .exact⟨_,.inl rfl,rfl⟩
  .exact⟨_,.inr (.inl rfl),rfl⟩
  .exact⟨_,.inr (.inr rfl),rfl⟩
 obtain⟨u,Rk,RX⟩:=rule;have fin:∀(R C:Int)(ns:Yw),0<R->R<=4->0<C->C<=5->(∀x∈ns,1<=x/\x<=4)->0<ns.length->ns.length<=3->∃(R' C':Nat)(fl:Yv),
   aE (setF 9 (bN lZ (bN Fl (bN sortI iB)))) (bw (bj (aa er (aa iB (aa (ar aI (bO (aa (fC (.str "free")) (aa (fC (.str "sides")) (aa (fC (.str "corners")) fNil)))) dg) fNil))))) [.F (.int c),.F (.int w),.F (.int ro),.F (.int co),.F (.int f),.F (.int s),.F (.int t),.F (.int ru),.F @4,.F (.tup (ns.map .int))]
    = some (.rt (.tup [.tup [.int R',.int C'],jB fl,.str u]))/\PL R' C' fl u:=λR C ns g1 g2 g3 g4 g5 g6 g7=>by
  obtain⟨R',rfl⟩:=Vf (Int.le_of_lt g1);obtain⟨C',rfl⟩:=Vf (Int.le_of_lt g3);obtain⟨fl,k1,k2,k3,k4⟩:=CA (env:=[.F (.int c),.F (.int w),.F (.int ro),.F (.int co),.F (.int f),.F (.int s),.F (.int t),.F (.int ru),.F (.tup [.int R',.int C']),.F (.tup (ns.map .int))]) ns rfl g5 g7;exact⟨R',C',fl,(aq (aW k1)).trans (bD (kf (ai rfl (ai rfl (ai (fj (i:=ru) rfl rfl RX) aK))))),by omega,by omega,by omega,by omega,by omega,by omega,k3,k4,Rk⟩
 have start:Lq [1,2,3,4,5,6,7] (λenv=>((aa ag (aa (bO (aa YW (aa YW (aa YW (aa YW (aa YW (aa YW (aa YV fNil)))))))) fNil)) env).bind m__law_drawn) (bU 10 [.int c])=some (.nx [.F (.int c),.F (.int w),.F (.int ro),.F (.int co),.F (.int f),.F (.int s),.F (.int t),.F (.int ru),.un,.un]):=Jq ((call_v (ai rfl (ai rfl aK))).trans h1) rfl;rcases QU hw with rfl | rfl | rfl | rfl
 .obtain⟨R',C',fl,k1,k2⟩:=fin (1+ro) (1+co) [1+f] @1 @1 @1 @1 (by intro x hx;cases z_.mp hx;omega) @8 @8;exact⟨R',C',fl,u,aZ ((aq start).trans ((aq (aW rfl)).trans ((aq ((bC rfl).trans rfl)).trans ((aq (aW rfl)).trans ((aq ((bC rfl).trans rfl)).trans k1))))),k2⟩
 .obtain⟨R',C',fl,k1,k2⟩:=fin (2+ro%3) (2+co%3) [1+f%3,1+s%3] @1 @1 @1 @1 (by intro x hx;simp only[p_,UL,V5]at hx;omega) @8 @8;exact⟨R',C',fl,u,aZ ((aq start).trans ((aq (aW rfl)).trans ((aq ((bC rfl).trans rfl)).trans ((aq (aW rfl)).trans ((aq ((bC rfl).trans rfl)).trans k1))))),k2⟩
 .obtain⟨R',C',fl,k1,k2⟩:=fin (1+ro%3) (3+co%2) [1+f%3,1+s%2,1+t%2] @1 @1 @1 @1 (by intro x hx;simp only[p_,UL,V5]at hx;omega) @8 @8;exact⟨R',C',fl,u,aZ ((aq start).trans ((aq (aW rfl)).trans ((aq ((bC rfl).trans rfl)).trans ((aq (aW rfl)).trans ((aq ((bC rfl).trans rfl)).trans k1))))),k2⟩
 .obtain⟨R',C',fl,k1,k2⟩:=fin 2 (2+co) [1+f%3,1+s%3,1+t%2] @1 @1 @1 @1 (by intro x hx;simp only[p_,UL,V5]at hx;omega) @8 @8;exact⟨R',C',fl,u,aZ ((aq start).trans ((aq (aW rfl)).trans ((aq ((cq rfl).trans (aW rfl))).trans ((aq (aW rfl)).trans ((aq ((cq rfl).trans (aW rfl))).trans k1))))),k2⟩
theorem PL.ten{R C:Nat}{fl:Yv}{ru:Str}(h:PL R C fl ru):∀n∈fl,1<=n/\n<=10:=λn hn=>by have:=h.sz n hn;omega
theorem PL.all{R C:Nat}{fl:Yv}{ru:Str}(h:PL R C fl ru):m__law_all [.tup [.int R,.int C],jB fl,.str ru]=some (.lst ((bA R C ru fl fl.length).map hidD)):=LB R C h.r4 h.c5 ru h.ru fl h.l3 h.ten
theorem PL.len{R C:Nat}{fl:Yv}{ru:Str}(h:PL R C fl ru):(bA R C ru fl fl.length).length<=64000:=B_ (ku R C h.r4 h.c5 ru fl fl.length) (EF h.l3)
theorem PL.one{R C:Nat}{fl:Yv}{ru:Str}(h:PL R C fl ru):PL R C [1] ru:=⟨h.r0,h.r4,h.c0,h.c5,by decide,by decide,by decide,by simp,h.ru⟩
theorem PL.ne{R C:Nat}{fl:Yv}{ru:Str}(h:PL R C fl ru):bA R C ru [1] 1≠[]:=by
 have:[(⟨0,0,false,1⟩:Sh)]∈bA R C ru [1] 1:=(kU R C ru @8 1 @2 _).mpr ⟨rfl,λs hs=>by
  cases z_.mp hs;exact lK.mpr ⟨⟨0,0,rfl,rfl,h.r0,h.c0⟩,rfl,λ_=>(by have:=h.c0;simp only;omega),λz=>by cases z⟩,Vv _ _⟩
 intro e;rw[e]at this;cases this
theorem JV(h:List Sh):pl (hidD h)=true:=by unfold hidD pl;exact E5 _ λx hx=>by obtain⟨s,_,rfl⟩:=t_.mp hx;rfl
theorem vM(hs:List (List Sh)):gf (hs.map hidD)=true:=E5 _ λx hx=>by obtain⟨s,_,rfl⟩:=t_.mp hx;exact JV s
theorem AK(c:Int):∃(R C:Nat)(fl:Yv)(ru:Str),m__law_played [.int c]=some (.tup [.tup [.int R,.int C],jB fl,.str ru,.lst ((bA R C ru fl fl.length).map hidD)])/\PL R C fl ru/\bA R C ru fl fl.length≠[]:=by
 obtain⟨R,C,fl,ru,h1,hp⟩:=HB c;have a1:=hp.all;have b1:=hp.one.all;obtain⟨rows,hr⟩:∃rows,rows=bA R C ru fl fl.length:=⟨_,rfl⟩;rw[<- hr]at a1;have heq:fB (ar eJ aV (bO fNil)) [.F (.int c),.F @4,.F (jB fl),.F (.str ru),.F (.lst (rows.map hidD))]=some (rows.map hidD).isEmpty:=cA (zC rfl (vM rows));have start:B8 [1,2,3] (λenv=>((aa ag fNil) env).bind m__law_game) (bU 5 [.int c])=some (.nx [.F (.int c),.F @4,.F (jB fl),.F (.str ru),.un]):=nW ((call_v (ai rfl aK)).trans h1) rfl;cases rows with
 | nil=>
  exact⟨R,C,[1],ru,aZ ((aq start).trans ((aq (aW ((call_v (ai rfl (ai rfl (ai rfl aK)))).trans a1))).trans ((aq ((cq heq).trans ((aq (aW rfl)).trans (aW ((call_v (ai rfl (ai rfl (ai rfl aK)))).trans b1))))).trans (bD rfl)))),hp.one,hp.ne⟩
 | cons r rows=>
  refine⟨R,C,fl,ru,?_,hp,by rw[<- hr];simp⟩;rw[<- hr];exact aZ ((aq start).trans ((aq (aW ((call_v (ai rfl (ai rfl (ai rfl aK)))).trans a1))).trans ((aq ((bC heq).trans rfl)).trans (bD rfl))))
theorem uH:∀(xs ys:List L2.Key),pW xs ys=(fw ys xs).map (!·)
 | [],[]=>rfl
 | [],_::_=>rfl
 | _::_,[]=>rfl
 | x::xs,y::ys=>by
  unfold pW fw
  by_cases h:x=y
  .rw[h_ h,h_ h.symm];exact uH xs ys
  .rw[i_ h,i_ (US h)];cases x<;>cases y<;>simp[Ph,Kk];rw[UD];simp
theorem Mz(s t:Sh):NB t.d s.d=some (.bl (!decide (Bef s t))):=by
 obtain⟨q,h1,h2⟩:=tM s t;show(pW t.ks s.ks).bind _=_;rw[uH,h1,show decide (Bef s t)=q by cases q<;>simp_all];rfl
theorem AD(ru:Str)(hr:cN ru)(s t:Sh):m_may_follow [.str ru,s.d,t.d]=some (.bl (decide (ue ru s t))):=by
 have t1:fB (ar eJ (ar aI aD YV) (ar aI ah YV)) (bU 3 [.str ru,s.d,t.d])=some ((t.n:Int)==s.n):=rfl;have t2:fB (ar NB aD ah) (bU 3 [.str ru,s.d,t.d])=some (!decide (Bef s t)):=cA ((aU rfl rfl).trans (Mz s t));have t3:=r8 t1 λ_=>t2;have hk:=HY ru hr s t;refine aZ ?_;cases hb:(((t.n:Int)==s.n)&&!decide (Bef s t))with
 | true=>
  rw[hb]at t3;have:decide (ue ru s t)=false:=by
   rw[I_]at hb;rw[Wg];intro hf;have h1:t.n=s.n:=by have:=hb.1;rw[WU]at this;omega
   simpa [hf.1 h1]using hb.2
  rw[this];exact dI ((cq t3).trans rfl)
 | false=>
  rw[hb]at t3;have:decide (ue ru s t)=me ru s t:=by
   rw[UD,w_];refine⟨λh=>h.2,λh=>⟨λe=>?_,h⟩⟩;rw[e]at hb;simpa using hb
  rw[this];exact(aq ((bC t3).trans rfl)).trans (bD ((call_v rfl).trans hk))
theorem cQ(f g:α->D)(p:α->Bool):∀(xs:List α),(∀x∈xs,∃e1,t (f x) env=some e1/\c e1=some (p x)/\(p x=true->k e1=some [g x]))->fq t c k env (xs.map f)=some ((xs.filter p).map g)
 | [],_=>rfl
 | x::xs,h=>by
  obtain⟨e1,h1,h2,h3⟩:=h x g_;have ih:=cQ f g p xs λy hy=>h y (f_ _ hy);show fq _ _ _ _ (f x::xs.map f)=_;unfold fq;rw[h1];show(c e1).bind _=_;rw[h2];cases hp:p x with
  | true=>
   show(if true=true then k e1 else some []).bind _=_;rw[h_ rfl,h3 hp];show(fq t c k env (xs.map f)).bind _=_;rw[ih,H_,h_ hp];rfl
  | false=>
   simp only[Vt,D_,UU,ih,U0,H_,hp]
def sR(cs:List (List Sh)):YO:=cs.map λA=>.lst (A.map Sh.d)
def dN(ru:Str)(s:Sh)(cs:List (List Sh)):List (List Sh):=cs.map λA=>A.filter λt=>decide (ue ru s t)
def bT(ru:Str):Nat->List (List Sh)->List (List Sh)
 | 0,_=>[]
 | _+1,[]=>[]
 | _+1,[A]=>A.map λs=>[s]
 | n+1,A::B::r=>A.flatMap λs=>(bT ru n (dN ru s (B::r))).map λh=>s::h
theorem dD(ru:Str)(s:Sh)(cs:List (List Sh)):(dN ru s cs).length=cs.length:=by unfold dN;simp
theorem sq(h:∀A∈cs,A.length<=M):∀A∈dN ru s cs,A.length<=M:=λA hA=>by
 obtain⟨B,hB,rfl⟩:=t_.mp hA;exact B_ (Q_ _ _) (h B hB)
theorem nZ(ru:Str)(hM:1<=M):∀(n:Nat)(cs:List (List Sh)),(∀A∈cs,A.length<=M)->(bT ru n cs).length<=M ^ cs.length
 | 0,cs,_=>VT _
 | n+1,[],_=>VT _
 | n+1,[A],h=>by
  have:=h A g_;unfold bT;simp only[c_,v_,T_,UH,Nat.pow_one];exact this
 | n+1,A::B::r,h=>by
  have hA:=h A g_;have:=ez (g:=λs=>(bT ru n (dN ru s (B::r))).map λh=>s::h) (B:=M ^ (B::r).length) A λs _=>by
   rw[c_];have:=nZ ru hM n (dN ru s (B::r)) (sq λL hL=>h L (f_ _ hL));rwa [dD]at this
  unfold bT;refine B_ this ?_;rw[v_ (a:=A),Wh];exact Nat.mul_le_mul_left _ hA
theorem iP(ru:Str):∀(n:Nat)(cs:List (List Sh))(h:List Sh),h∈bT ru n cs->h.length=cs.length
 | 0,cs,h,hh=>by cases hh
 | n+1,[],h,hh=>by cases hh
 | n+1,[A],h,hh=>by
  obtain⟨s,_,rfl⟩:=t_.mp hh
  rfl
 | n+1,A::B::r,h,hh=>by
  obtain⟨s,_,h2⟩:=Vu.mp hh;obtain⟨g,hg,rfl⟩:=t_.mp h2;have:=iP ru n _ g hg;rw[dD]at this;simp only[v_]at *;omega
theorem Qt(ru:Str)(hr:cN ru)(s:Sh)(A:List Sh)(hA:A.length<=16000000):aM (cx ag) [0] (bq 0) (fB (λenv=>((aa ah (aa aD (aa ag fNil))) env).bind m_may_follow)) (aF ag) 1 [1,2] [.F (.lst (A.map Sh.d)),.F (.str ru),.F s.d]=some (.lst ((A.filter λt=>decide (ue ru s t)).map Sh.d)):=by
 have g1:=cQ (t:=bq 0) (c:=fB (λenv=>((aa ah (aa aD (aa ag fNil))) env).bind m_may_follow)) (k:=aF ag) (env:=[.un,.F (.str ru),.F s.d]) Sh.d Sh.d (λt=>decide (ue ru s t)) A λt ht=>⟨[.F t.d,.F (.str ru),.F s.d],rfl,cA ((call_v (ai rfl (ai rfl (ai rfl aK)))).trans (AD ru hr s t)),λ_=>rfl⟩;exact a9 (be rfl) rfl g1 (by rw[c_];exact B_ (Q_ _ _) hA)
theorem GF(ru:Str)(hr:cN ru)(s:Sh)(cs:List (List Sh))(O':∀A∈cs,A.length<=16000000)(hl:cs.length<=16000000)(s1 s2 s4 s6:Slot) :
  aM (cx ay) [0] (bq 0) YX (aF (aM (cx ag) [0] (bq 0) (fB (λenv=>((aa ah (aa aD (aa ag fNil))) env).bind m_may_follow)) (aF ag) 1 [1,2])) 1 [0,5] [.F (.str ru),s1,s2,.F (.lst (sR cs)),s4,.F s.d,s6]=some (.lst (sR (dN ru s cs))):=by
 have g1:=bY (t:=bq 0) (k:=aF (aM (cx ag) [0] (bq 0) (fB (λenv=>((aa ah (aa aD (aa ag fNil))) env).bind m_may_follow)) (aF ag) 1 [1,2])) (env:=[.un,.F (.str ru),.F s.d]) (λA:List Sh=>D.lst (A.map Sh.d)) (λA=>.lst ((A.filter λt=>decide (ue ru s t)).map Sh.d)) cs λA hA=>⟨[.F (.lst (A.map Sh.d)),.F (.str ru),.F s.d],rfl,dk (Qt ru hr s A (O' A hA))⟩;have e:(sR (dN ru s cs))=cs.map λA=>D.lst ((A.filter λt=>decide (ue ru s t)).map Sh.d):=by unfold sR dN;rw[O_];rfl
 rw[e];exact a9 (be rfl) rfl g1 (by rw[c_];exact hl)
theorem IV(h:env[i]?=some (.O (.L ds)))(hf:f env=some (.lst es))(hl:ds.length+es.length<=16000000):tQ i f env=some (.nx (env.set i (.O (.L (ds++es))))):=by
 unfold tQ;rw[h];show(f env).bind _=_;rw[hf];show(if ds.length+es.length<=16000000 then _ else _)=_;rw[h_ hl]
theorem uW(ru:Str)(hr:cN ru)(hM:1<=M):∀(n:Nat)(cs:List (List Sh)),n<=100->cs≠[]->cs.length<=n->(∀A∈cs,A.length<=M)->M ^ cs.length<=2000000->bo n [.str ru,.lst (sR cs)]=some (.lst ((bT ru n cs).map hidD))
 | 0,cs,_,hne,hl,_,_=>by cases cs with | nil=>exact absurd rfl hne | cons a b=>simp at hl
 | n+1,[],_,hne,_,_,_=>absurd rfl hne
 | n+1,[A],_,_,_,hA,hb=>by
  have hA1:=hA A g_;simp only[v_,T_,UH,Nat.pow_one]at hb;have g1:=bY (t:=bq 0) (k:=aF (bj (aa ag fNil))) (env:=[.un]) Sh.d (λs=>hidD [s]) A λs hs=>⟨[.F s.d],rfl,rfl⟩;have e:(bT ru (n+1) [A]).map hidD=A.map λs=>hidD [s]:=by show(A.map λs=>[s]).map hidD=_;rw[O_];rfl
  rw[e];show bJ (cT (bo n)) 7 _=_;exact aZ ((aq (e:=[.F (.str ru),.F (.lst (sR [A])),.F (.lst (A.map Sh.d)),.F (.lst []),.un,.un,.un]) rfl).trans (dI ((cq rfl).trans (bD (a9 (be rfl) rfl g1 (by rw[c_];omega))))))
 | n+1,A::B::r,hn,_,hl,hA,hb=>by
  have hA1:=hA A g_;have hpow:M ^ (A::B::r).length=M ^ (B::r).length*M:=by rw[v_ (a:=A),Wh]
  have O9:M ^ (B::r).length<=2000000:=B_ (B_ (Nat.le_mul_of_pos_right _ hM) (Nat.le_of_eq hpow.symm)) hb;have hM2:M<=2000000:=B_ (by rw[v_,Wh];exact Nat.le_mul_of_pos_left _ (Nat.pow_pos hM)) O9;have LK:(B::r).length<=n:=by simpa using hl
  have hln:(B::r).length<=16000000:=by omega
  have loop:=jc (t:=bq 5) (body:=fN (bo n)) Sh.d (λacc e=>∃(s5 s6:Slot),e=[.F (.str ru),.F (.lst (sR (A::B::r))),.F (.lst (A.map Sh.d)),.F (.lst (sR (B::r))),.O (.L acc),s5,s6]) (λs=>((bT ru n (dN ru s (B::r))).map λh=>s::h).map hidD) (M ^ (B::r).length) 4000000 A [] [.F (.str ru),.F (.lst (sR (A::B::r))),.F (.lst (A.map Sh.d)),.F (.lst (sR (B::r))),.O (.L []),.un,.un] ⟨_,_,rfl⟩ (by
    have:=Nat.mul_le_mul_left (M ^ (B::r).length) hA1;rw[T_];omega) λs hs=>by
   have l1:=nZ ru hM n (dN ru s (B::r)) (sq λL hL=>hA L (f_ _ hL));rw[dD]at l1;refine⟨by rw[c_,c_];exact l1,λacc e ⟨s5,s6,he⟩ hacc=>?_⟩;subst he;have c1:=GF ru hr s (B::r) (λL hL=>by have:=hA L (f_ _ hL);omega) hln (.F (.lst (sR (A::B::r)))) (.F (.lst (A.map Sh.d))) (.O (.L acc)) s6;have ih:=uW ru hr hM n (dN ru s (B::r)) @1 (λz=>by have:=VE List.length z;rw[dD]at this;simp at this) (by rw[dD];exact LK) (sq λL hL=>hA L (f_ _ hL)) (by rw[dD];exact O9);have g1:=bY (t:=bq 0) (k:=aF (ar Bv (bj (aa ah fNil)) ag)) (env:=[.un,.F s.d]) hidD (λh=>hidD (s::h)) (bT ru n (dN ru s (B::r))) λh hh=>⟨[.F (hidD h),.F s.d],rfl,dk (Da (xs:=[s.d]) (ys:=h.map Sh.d) rfl rfl (by
    rw[c_];have:=iP ru n (dN ru s (B::r)) h hh;rw[dD]at this;simp only[v_,T_]at *;omega))⟩
   have em:((bT ru n (dN ru s (B::r))).map λh=>s::h).map hidD=(bT ru n (dN ru s (B::r))).map λh=>hidD (s::h):=by rw[O_];rfl
   rw[em];refine⟨_,fu (e0:=[.F (.str ru),.F (.lst (sR (A::B::r))),.F (.lst (A.map Sh.d)),.F (.lst (sR (B::r))),.O (.L acc),.F s.d,s6]) rfl ((aq (aW c1)).trans (IV (ds:=acc) rfl (a9 (be ((call_v (ai rfl (ai rfl aK))).trans ih)) rfl g1 (by rw[c_];omega)) (by rw[c_];omega))),_,_,rfl⟩
  obtain⟨e2,h1,s5,s6,rfl⟩:=loop;have e:(bT ru (n+1) (A::B::r)).map hidD=A.flatMap λs=>((bT ru n (dN ru s (B::r))).map λh=>s::h).map hidD:=by
   show(A.flatMap λs=>(bT ru n (dN ru s (B::r))).map λh=>s::h).map hidD=_;rw[Wf]
  rw[e];show bJ (cT (bo n)) 7 _=_;exact aZ ((aq (e:=[.F (.str ru),.F (.lst (sR (A::B::r))),.F (.lst (A.map Sh.d)),.F (.lst (sR (B::r))),.un,.un,.un]) rfl).trans ((aq ((bC rfl).trans rfl)).trans ((aq (gL rfl)).trans ((aq ((cf (be rfl)).trans h1)).trans rfl))))
abbrev Pt:=Int×Int
def B7(R C:Nat):List Pt:=(List.range R).flatMap λi=>(List.range C).map λj=>(((i:Nat):Int),((j:Nat):Int))
theorem Fu:∀R:Fin 5,∀C:Fin 6,(B7 R C).Nodup/\(B7 R C).length<=20:=by decide
theorem zK(h:f env=some (.lst ds)):IU f env=some (kN 0 ds):=by unfold IU;rw[h];rfl
theorem Oc(h:f env=some (.lst es))(h1:env[i]?=some (.O (.L ds)))(hl:ds.length+es.length<=16000000):tQ i f env=some (.nx (env.set i (.O (.L (ds++es))))):=IV h1 h hl
theorem xt(R C:Nat)(hR:R<=4)(hC:C<=5):m__law_sheet_cells [.tup [.int R,.int C]]=some (.lst ((B7 R C).map cel)):=by
 have RU:([]:YO).length+C*(aR 0 R).length<=8000:=by
  have h1:=Vp hC hR;rw[eG,T_,UH];exact B_ h1 @2
 obtain⟨e2,h1,s2,h2⟩:=iG (t:=bq 2) (body:=d9) (λacc e=>∃s2,e=[.F @4,.O (.L acc),s2]) (λd=>(aR 0 C).map λy=>.tup [d,y]) C 8000 (aR 0 R) [] _ ⟨.un,rfl⟩ RU λd hd=>⟨by rw[c_,eG];exact m_ _,λacc e ⟨s2,he⟩ hl=>by
  subst he;refine⟨_,fu (e0:=[.F @4,.O (.L acc),.F d]) rfl (Oc (es:=(aR 0 C).map λy=>.tup [d,y]) (a9 (ek (n:=C) rfl @1) rfl (fF (λy=>.tup [d,y]) _ λy hy=>⟨_,rfl,rfl⟩) (by rw[c_,eG];omega)) rfl (by rw[c_,eG];omega)),⟨_,rfl⟩⟩⟩
 subst h2;have he:((aR 0 R).flatMap λd=>(aR 0 C).map λy=>.tup [d,y])=(B7 R C).map cel:=by
  unfold aR B7 cel;simp[Xn,Wf,O_,XZ]
 rw[U0,he]at h1;exact aZ ((aq (gL rfl)).trans ((aq ((cf (ek (n:=R) rfl @1)).trans h1)).trans rfl))
theorem yB(xs:List α)(k:Nat)(y:α):(insAt xs k y).Perm (y::xs):=by
 unfold insAt;have:=List.perm_middle (a:=y) (l₁:=xs.take k) (l₂:=xs.drop k);rwa [VD]at this
theorem MU(h1:env[i]?=some (.O (.L ds)))(hk:fk env=some (.int j))(h:f env=some d)(h0:0<=j)(hj:j<=ds.length)(hl:ds.length<16000000):CK i fk f env=some (.nx (env.set i (.O (.L (insAt ds j.toNat d))))):=by
 unfold CK;rw[h1];show(fk env).bind _=_;rw[hk];show(f env).bind _=_;rw[h];show(if 0<=j/\j<=ds.length/\ds.length<16000000 then _ else _)=_;rw[h_ ⟨h0,hj,hl⟩]
theorem Eh(c:Int)(ps:List Pt)(hps:ps.length<=300):∃qs:List Pt,m__law_order [.int c,.lst (ps.map cel)]=some (.lst (qs.map cel))/\qs.Perm ps:=by
 obtain⟨e2,h1,qs,s3,s4,rfl,h3⟩:=fG (t:=lb [3,4]) (body:=iT) (λj e=>∃(qs:List Pt)(s3 s4:Slot),e=[.F (.int c),.F (.lst (ps.map cel)),.O (.L (qs.map cel)),s3,s4]/\qs.Perm (ps.take j)) (kN 0 (ps.map cel)) 0 _ ⟨[],.un,.un,rfl,.nil⟩ λi d e hd az=>by
  obtain⟨qs,s3,s4,he,h3⟩:=az;subst he;have hi:=(k_.mp hd).1;rw[gm,c_]at hi;have hx:(ps.map cel)[i]?=some (cel ps[i]):=by rw[x_,l_ hi];rfl
  rw[kT hx]at hd;cases hd;simp only[UH]at h3 ⊢;have hql:qs.length=i:=by rw[h3.length_eq,VW];omega
  obtain⟨z,hz⟩:=rR c (3*(i:Int)+1) @1 @1;have m3:ar addI (ar mulI YV ay) YT [.F (.int c),.F (.lst (ps.map cel)),.O (.L (qs.map cel)),.F (.int i),.F (cel ps[i])]=some (.int (3*(i:Int)+1)):=(aU ((aU rfl rfl).trans (nG @2 @2 @1 @1)) rfl).trans (fH _ _);have hp:(0:Int)<(i:Int)+1:=by omega
  have hk:ar modI (λenv=>((aa ag (aa (ar addI (ar mulI YV ay) YT) fNil)) env).bind m__law_stir) (ar addI ay YT) [.F (.int c),.F (.lst (ps.map cel)),.O (.L (qs.map cel)),.F (.int i),.F (cel ps[i])]=some (.int (z%((i:Int)+1))):=(aU ((call_v (ai rfl (ai m3 aK))).trans hz) rfl).trans (iQ hp);have b1:=V2 z (Int.ne_of_gt hp);have b2:=VG z hp;refine⟨_,fu (e0:=[.F (.int c),.F (.lst (ps.map cel)),.O (.L (qs.map cel)),.F (.int i),.F (cel ps[i])]) rfl (MU rfl hk rfl b1 (by rw[c_];omega) (by rw[c_];omega)),insAt qs (z%((i:Int)+1)).toNat ps[i],.F (.int i),.F (cel ps[i]),?_,?_⟩
  .unfold insAt;simp[Xq,List.map_drop]
  .refine(yB _ _ _).trans ((h3.cons _).trans ?_);rw[XI,l_ hi];exact(List.perm_append_comm (l₁:=[ps[i]]) (l₂:=ps.take i))
 rw[UH,gm,c_,Vk]at h3;exact⟨qs,aZ ((aq (gL rfl)).trans ((aq ((cf (zK rfl)).trans h1)).trans rfl)),h3⟩
theorem E8(f:α->D)(g:β->D)(P:α->β->Prop):∀(xs:List α),(∀x∈xs,∃e1 y,t (f x) env=some e1/\k e1=some [g y]/\P x y)->∃ys:List β,fq t YX k env (xs.map f)=some (ys.map g)/\ys.length=xs.length/\∀(i:Nat) x y,xs[i]?=some x->ys[i]?=some y->P x y
 | [],_=>⟨[],rfl,rfl,λi x y h=>by simp at h⟩
 | x::xs,h=>by
  obtain⟨e1,y,h1,h3,h4⟩:=h x g_;obtain⟨ys,i1,i2,i3⟩:=E8 f g P xs λy hy=>h y (f_ _ hy);refine⟨y::ys,?_,by simp[i2],λi a b ha hb=>?_⟩
  .show fq _ _ _ _ (f x::xs.map f)=_;unfold fq;rw[h1];show(if true=true then k e1 else some []).bind _=_;rw[h_ rfl,h3];show(fq t YX k env (xs.map f)).bind _=_;rw[i1];rfl
  .cases i with
   | zero=>cases ha;cases hb;exact h4
   | succ i=>exact i3 i a b (by simpa using ha) (by simpa using hb)
theorem kg:∀(xs:List α),(∀x∈xs,pl (f x)=true)->gf (xs.map f)=true
 | [],_=>rfl
 | x::xs,h=>by
  show gf (f x::xs.map f)=true;unfold gf;rw[h x g_,kg xs λy hy=>h y (f_ _ hy)];rfl
theorem yE(p:Yx):pl (cel p)=true:=rfl
abbrev j8:Str:="water"
abbrev pD:Str:="hit"
abbrev oW:Str:="sunk"
def cU:List Sh->List Pt->Pt->Str
 | [],_,_=>j8
 | s::h,sh,p=>if p∈s.cs then(if ∀q∈s.cs,q∈sh then oW else pD)else cU h sh p
def walk(h:List Sh):List Pt->List Pt->Yr
 | _,[]=>[]
 | pre,p::r=>cU h (pre++[p]) p::walk h (pre++[p]) r
theorem Du(q p:Pt):g9 (cel q) (cel p)=decide (q=p):=by
 obtain⟨a,b⟩:=q;obtain⟨c,d⟩:=p;unfold cel;simp only[g9,kQ,X3,X4];rw[UD];simp
theorem tf(p:Pt)(cs:List Pt):inD (cel p) (cs.map cel)=decide (p∈cs):=by
 unfold inD;rw[List.any_map,UD,X6,w_];constructor
 .rintro⟨q,hq,he⟩;rw[VS,Du,w_]at he;exact he▸hq
 .intro h;exact⟨p,h,by rw[VS,Du,w_]⟩
theorem zP(p:Pt):dH (cel p)<=60:=B_ (mY (n:=0) λd hd=>by
 rcases p_.mp hd with rfl | hd
 .rw[fE];exact m_ _
 .cases z_.mp hd;rw[fE];exact m_ _) @2
theorem mT(cs:List Pt):gf (cs.map cel)=true:=kg cs λp _=>yE p
theorem nL{f g:Fe}{env:En}{p:Pt}{cs:List Pt}(h1:f env=some (cel p))(h2:g env=some (.lst (cs.map cel))):ar (j7 false) f g env=some (.bl (decide (p∈cs))):=Q3 h1 h2 (zP p) (tf p cs) (by rw[yE,mT];rfl)
theorem KD(bd:D)(p:Pt)(sh:List Pt)(s:Sh)(hn:s.n<=1000):(p∈s.cs->cP [.F bd,.F (cel p),.F (.lst (sh.map cel)),.F (.lst (s.cs.map cel))]=some (.rt (.str (if ∀q∈s.cs,q∈sh then oW else pD))))/\(p∉s.cs->cP [.F bd,.F (cel p),.F (.lst (sh.map cel)),.F (.lst (s.cs.map cel))]=some (.nx [.F bd,.F (cel p),.F (.lst (sh.map cel)),.F (.lst (s.cs.map cel))])):=by
 have ht:fB (ar (j7 false) ah ay) [.F bd,.F (cel p),.F (.lst (sh.map cel)),.F (.lst (s.cs.map cel))]=some (decide (p∈s.cs)):=cA (nL rfl rfl);refine⟨λhp=>?_,λhp=>(bC (ht.trans (by rw[G_ hp]))).trans rfl⟩;refine(cq (ht.trans (by rw[y_ hp]))).trans (bD ?_);have hc:aM (cx ay) [0] (bq 0) YX (aF (ar (j7 false) ag ah)) 1 [2] [.F bd,.F (cel p),.F (.lst (sh.map cel)),.F (.lst (s.cs.map cel))]=some (.lst ((s.cs.map λq=>decide (q∈sh)).map .bl)):=by
  refine a9 (be rfl) rfl ?_ (by rw[c_,c_];unfold Sh.cs;simp;omega);have he:(s.cs.map λq=>decide (q∈sh)).map D.bl=(s.cs.map cel).map λd=>.bl (inD d (sh.map cel)):=by
   rw[O_,O_];exact UE λq _=>by rw[VS,VS,tf]
  rw[he];refine fF _ _ λd hd=>?_;obtain⟨q,hq,rfl⟩:=t_.mp hd;exact⟨_,rfl,dk (by rw[tf];exact nL rfl rfl)⟩
 have hb:(s.cs.map λq=>decide (q∈sh)).all id=decide (∀q∈s.cs,q∈sh):=by
  rw[Yd,UD,U3,w_];simp
 refine MZ (cA ((M6 hc).trans (by rw[hb]))) (λh=>?_) (λh=>?_)
 .rw[h_ (Vm h)];rfl
 .rw[i_ (of_decide_eq_false h)];rfl
theorem yV(h:(t d env).bind body=some (.nx e1)):cK t body (d::ds) env=cK t body ds e1:=by
 obtain⟨e0,h5,h6⟩:=b_.mp h;show(t d env).bind (λe1=>(body e1).bind _)=_;rw[h5];show(body e0).bind _=_;rw[h6]
 rfl
theorem Hg(h:(t d env).bind body=some (.rt x)):cK t body (d::ds) env=some (.rt x):=by
 obtain⟨e0,h5,h6⟩:=b_.mp h;show(t d env).bind (λe1=>(body e1).bind _)=_;rw[h5];show(body e0).bind _=_;rw[h6]
 rfl
theorem nK(bd:D)(p:Pt)(sh:List Pt):∀(h:List Sh)(s3:Slot),(∀s∈h,s.n<=1000)->(∃IG,cK (bq 3) cP (h.map λs=>.lst (s.cs.map cel)) [.F bd,.F (cel p),.F (.lst (sh.map cel)),s3]=some (.nx [.F bd,.F (cel p),.F (.lst (sh.map cel)),IG])/\cU h sh p=j8)\/cK (bq 3) cP (h.map λs=>.lst (s.cs.map cel)) [.F bd,.F (cel p),.F (.lst (sh.map cel)),s3]=some (.rt (.str (cU h sh p)))
 | [],s3,_=>.inl ⟨s3,rfl,rfl⟩
 | s::h,s3,hn=>by
  obtain⟨a1,a2⟩:=KD bd p sh s (hn s g_)
  by_cases hp:p∈s.cs
  .right;unfold cU;rw[h_ hp];exact Hg (fu (e0:=[.F bd,.F (cel p),.F (.lst (sh.map cel)),.F (.lst (s.cs.map cel))]) rfl (a1 hp))
  .unfold cU;rw[i_ hp,C_,yV (fu (e0:=[.F bd,.F (cel p),.F (.lst (sh.map cel)),.F (.lst (s.cs.map cel))]) rfl (a2 hp))];exact nK bd p sh h _ λt ht=>hn t (f_ _ ht)
theorem Es(h:List Sh)(hn:∀s∈h,s.n<=1000)(p:Pt)(sh:List Pt):m_answer_to [.lst (h.map λs=>.lst (s.cs.map cel)),cel p,.lst (sh.map cel)]=some (.str (cU h sh p)):=by
 rcases nK (.lst (h.map λs=>.lst (s.cs.map cel))) p sh h .un hn with ⟨IG,h1,h2⟩ | h1
 .rw[h2];exact aZ ((aq ((cf (be rfl)).trans h1)).trans rfl)
 .exact aZ (dI ((cf (be rfl)).trans h1))
theorem Ho(h1:t d env=some e1)(h3:k e1=some [x])(ih:fq t YX k env ds=some ys):fq t YX k env (d::ds)=some (x::ys):=by
 unfold fq;rw[h1];show(if true=true then k e1 else some []).bind _=_;rw[h_ rfl,h3];show(fq t YX k env ds).bind _=_;rw[ih];rfl
theorem zq(h:List Sh)(hn:∀s∈h,s.n<=1000)(cs:List Pt):∀(rest pre:List Pt),cs=pre++rest->
  fq (lb [0,1]) YX (aF (λenv=>((aa aD (aa ah (aa (GX iK ay oNone (k6 (ar addI ag YT))) fNil))) env).bind m_answer_to)) [.un,.un,.F (.lst (h.map λs=>.lst (s.cs.map cel))),.F (.lst (cs.map cel))] (kN pre.length (rest.map cel))=some ((walk h pre rest).map .str)
 | [],pre,_=>rfl
 | p::rest,pre,hc=>by
  have ih:=zq h hn cs rest (pre++[p]) (by rw[hc];simp);have P4:GX iK ay oNone (k6 (ar addI ag YT)) [.F (.int pre.length),.F (cel p),.F (.lst (h.map λs=>.lst (s.cs.map cel))),.F (.lst (cs.map cel))]=some (.lst ((pre++[p]).map cel)):=by
   show some (D.lst (cutD (cs.map cel) none (some ((pre.length:Int)+1))))=_;rw[show(pre.length:Int)+1=((pre.length+1:Nat):Int) by omega,rh,<- Xq,hc,show pre++p::rest=(pre++[p])++rest by simp,show pre.length+1=(pre++[p]).length by simp,List.take_left']
   rfl
  rw[u_,UT]at ih;show fq _ _ _ _ (.tup [.int (pre.length:Int),cel p]::kN (pre.length+1) (rest.map cel))=some (.str (cU h (pre++[p]) p)::(walk h (pre++[p]) rest).map .str);exact Ho (e1:=[.F (.int pre.length),.F (cel p),.F (.lst (h.map λs=>.lst (s.cs.map cel))),.F (.lst (cs.map cel))]) rfl (dk ((call_v (ai rfl (ai rfl (ai P4 aK)))).trans (Es h hn p (pre++[p])))) ih
theorem kY(h:List Sh):∀(rest pre:List Pt),(walk h pre rest).length=rest.length
 | [],_=>rfl
 | p::rest,pre=>by show(walk h (pre++[p]) rest).length+1=_;rw[kY h rest];rfl
theorem nU(h:List Sh)(hn:∀s∈h,s.n<=1000)(hm:∀s:Sh,s.n<=1000->m [s.d]=some (.lst (s.cs.map cel))):fq (bq 0) YX (aF (λenv=>((aa ag fNil) env).bind m)) [.un] (h.map Sh.d)=some (h.map λs=>.lst (s.cs.map cel)):=by
 obtain⟨ys,c1,c2,c3⟩:=E8 (t:=bq 0) (k:=aF (λenv=>((aa ag fNil) env).bind m)) (env:=[.un]) Sh.d (λx:YO=>D.lst x) (λs x=>x=s.cs.map cel) h λs hs=>⟨_,s.cs.map cel,rfl,dk ((call_v (ai rfl aK)).trans (hm s (hn s hs))),rfl⟩;rw[c1];congr 1;apply W8;intro i;rw[x_,x_];cases hx:h[i]? with
 | none=>
  rw[List.getElem?_eq_none_iff]at hx;rw[E_ @1];rfl
 | some s=>
  have hi:=(k_.mp hx).1;obtain⟨y,hy⟩:∃y,ys[i]?=some y:=⟨_,l_ @1⟩;rw[hy,c3 i s y hx hy];rfl
theorem qf(h:List Sh)(hn:∀s∈h,s.n<=1000)(hl:h.length<=1000)(cs:List Pt)(hc:cs.length<=1000):m_answers_of [hidD h,.lst (cs.map cel)]=some (.lst ((walk h [] cs).map .str)):=by
 have g1:=nU h hn (m:=m_cells_of) gQ;have g2:=zq h hn cs cs [] rfl;exact aZ ((aq (aW (a9 (qT rfl) rfl g1 (by rw[c_];omega)))).trans (bD (a9 (zK rfl) rfl g2 (by rw[c_,kY];omega))))
theorem km(s:Sh):s.cs.Nodup:=by
 unfold Sh.cs;refine Vx.mpr (List.Pairwise.imp (λ{i j} (h:i≠j) e=>?_) List.nodup_range);unfold Sh.at at e
 split at e
 .have:=(Prod.mk.inj e).1;omega
 .have:=(Prod.mk.inj e).2;omega
def gE(cs pre:List Pt):Nat:=(cs.filter λq=>decide (q∉pre)).length
theorem sE(p:Pt)(pre:List Pt):∀cs:List Pt,p∉cs->gE cs (pre++[p])=gE cs pre
 | [],_=>rfl
 | q::cs,h=>by
  have ih:=sE p pre cs λz=>h (f_ _ z);have hq:(q∉pre++[p])↔q∉pre:=by
   have:q≠p:=λe=>h (e▸g_);simp[this]
  unfold gE at ih ⊢;rw[H_,H_]
  by_cases hp:q∈pre
  .rw[i_ (by simp[hp]),i_ (by simpa using hp)];exact ih
  .rw[h_ (by simpa using hq.mpr hp),h_ (by simpa using hp),v_,v_,ih]
theorem Dq(p:Pt)(pre:List Pt)(hp:p∉pre):∀cs:List Pt,cs.Nodup->p∈cs->gE cs pre=gE cs (pre++[p])+1
 | [],_,h=>by cases h
 | q::cs,hn,h=>by
  obtain⟨n1,n2⟩:=V3.mp hn
  by_cases e:q=p
  .subst e;have:=sE q pre cs n1;unfold gE at this ⊢;rw[H_,H_,h_ (by simpa using hp),i_ @8,v_,this]
  .have ih:=Dq p pre hp cs n2 (by rcases p_.mp h with h | h;(· exact absurd h.symm e);exact h);unfold gE at ih ⊢;rw[H_,H_]
   by_cases hq:q∈pre
   .rw[i_ (by simpa using hq),i_ (by simp[hq])];exact ih
   .rw[h_ (by simpa using hq),h_ (by simp[hq,e]),v_,v_,ih]
theorem v7(cs sh:List Pt):gE cs sh=0↔∀q∈cs,q∈sh:=by
 unfold gE;rw[List.length_eq_zero_iff,W_];simp
theorem Gb(cs:List Pt):gE cs []=cs.length:=by
 unfold gE;rw[List.filter_eq_self.mpr (λ_ _=>by simp)]
def nN(f f':Sh->D):Nat->List Sh->YO
 | _,[]=>[]
 | 0,s::h=>f s::nN f f' 0 h
 | j+1,s::h=>f' s::nN f f' j h
theorem ni:∀(h:List Sh)(j:Nat),(nN f f' j h).length=h.length
 | [],j=>by cases j<;>rfl
 | s::h,0=>by show(nN f f' 0 h).length+1=_;rw[ni h];rfl
 | s::h,j+1=>by show(nN f f' j h).length+1=_;rw[ni h];rfl
theorem xD:∀(h:List Sh)(j:Nat)(s:Sh),h[j]?=some s->(nN f f' j h)[j]?=some (f s)/\(nN f f' j h).set j (f' s)=nN f f' (j+1) h
 | [],j,s,e=>by simp at e
 | t::h,0,s,e=>by cases e;exact⟨rfl,by show f' t::nN f f' 0 h=_;cases h<;>rfl⟩
 | t::h,j+1,s,e=>by
  obtain⟨h1,h2⟩:=xD h j s (by simpa using e);exact⟨by show(f' t::nN f f' j h)[j+1]?=_;simpa using h1,by show f' t::(nN f f' j h).set j (f' s)=_;rw[h2];rfl⟩
theorem wF:∀(h:List Sh),nN f f' 0 h=h.map f
 | []=>rfl
 | s::h=>by show f s::nN f f' 0 h=_;rw[wF h];rfl
theorem y7:∀(h:List Sh),nN f f' h.length h=h.map f'
 | []=>rfl
 | s::h=>by show f' s::nN f f' h.length h=_;rw[y7 h];rfl
theorem DG(hj:h[j]?=some s)(e:f' s=f s):nN f f' (j+1) h=nN f f' j h:=by
 obtain⟨h1,h2⟩:=xD (f:=f) (f':=f') h j s hj;rw[<- h2,e];obtain⟨h3,h4⟩:=k_.mp h1;rw[<- h4,Xf]
theorem zi(sh:List Pt)(p:Pt)(s:Sh)(hp:p∉s.cs):∀l:List Sh,cU (l++[s]) sh p=cU l sh p
 | []=>by show cU [s] sh p=j8;unfold cU;rw[i_ hp];rfl
 | t::l=>by show cU (t::(l++[s])) sh p=_;unfold cU;rw[zi sh p s hp l]
theorem Cq(sh:List Pt)(p:Pt)(s:Sh)(hp:p∈s.cs):∀l:List Sh,(∀t∈l,p∉t.cs)->cU (l++[s]) sh p=if ∀q∈s.cs,q∈sh then oW else pD
 | [],_=>by show cU [s] sh p=_;unfold cU;rw[h_ hp]
 | t::l,h=>by show cU (t::(l++[s])) sh p=_;unfold cU;rw[i_ (h t g_),Cq sh p s hp l λu hu=>h u (f_ _ hu)]
theorem lS(h:List Sh)(p:Pt):∀(l pre:List Pt),walk h pre (l++[p])=walk h pre l++[cU h (pre++l++[p]) p]
 | [],pre=>by simp[walk]
 | q::l,pre=>by
  show cU h (pre++[q]) q::walk h (pre++[q]) (l++[p])=_;rw[lS h p l (pre++[q])];simp[walk]
abbrev eW(h:List Sh)(cs:List Pt)(left found:YO)(s5 s6 s7:Slot):En:=[.F (hidD h),.F (.lst (cs.map cel)),.O (.L left),.F (.lst (h.map λs=>.lst (s.cs.map cel))),.O (.L found),s5,s6,s7]
theorem walk1(h:List Sh)(pw:h.Pairwise λs t=>∀p∈s.cs,p∉t.cs)(cs pre:List Pt)(p:Pt)(hp:p∉pre)(found:YO)(j:Nat)(s:Sh)(hj:h[j]?=some s) :
  dO (eW h cs (nN (λs=>.int (gE s.cs pre:Nat)) (λs=>.int (gE s.cs (pre++[p]):Nat)) j h) found (.F (cel p)) (.F (.str (cU (h.take j) (pre++[p]) p))) (.F (.int j)))
   = some (.nx (eW h cs (nN (λs=>.int (gE s.cs pre:Nat)) (λs=>.int (gE s.cs (pre++[p]):Nat)) (j+1) h) found (.F (cel p)) (.F (.str (cU (h.take (j+1)) (pre++[p]) p))) (.F (.int j)))):=by
 have hjl:=(k_.mp hj).1;have LN:h.take (j+1)=h.take j++[s]:=by rw[XI,hj];rfl
 obtain⟨m1,m2⟩:=xD (f:=λs=>.int (gE s.cs pre:Nat)) (f':=λs=>.int (gE s.cs (pre++[p]):Nat)) h j s hj;have ht:fB (ar (j7 false) cB (ar aI ay dg)) (eW h cs (nN (λs=>.int (gE s.cs pre:Nat)) (λs=>.int (gE s.cs (pre++[p]):Nat)) j h) found (.F (cel p)) (.F (.str (cU (h.take j) (pre++[p]) p))) (.F (.int j)))=some (decide (p∈s.cs)):=cA (nL rfl (fj (i:=(j:Int)) rfl rfl (d7 (by rw[x_,hj];rfl))))
 by_cases hin:p∈s.cs
 .have hl:=Dq p pre hp s.cs (km s) hin;have PU:∀t∈h.take j,p∉t.cs:=λt ht hpt=>by
   have hdec:h=h.take j++s::h.drop (j+1):=by
    have:=VD (j+1) h;rw[LN]at this;simpa using this.symm
   rw[hdec]at pw;exact(UQ.mp pw).2.2 t ht s g_ p hpt hin
  rw[LN,Cq (pre++[p]) p s hin (h.take j) PU,<- m2];refine(cq (ht.trans (by rw[y_ hin]))).trans ?_;have h1:ar subI (ar aI (λenv=>tL env 2) dg) YT (eW h cs (nN (λs=>.int (gE s.cs pre:Nat)) (λs=>.int (gE s.cs (pre++[p]):Nat)) j h) found (.F (cel p)) (.F (.str (cU (h.take j) (pre++[p]) p))) (.F (.int j)))=some (.int (gE s.cs (pre++[p]):Nat)):=by
   refine(aU (fj (i:=(j:Int)) rfl rfl (d7 m1)) rfl).trans ?_;rw[EE,hl];congr 2;omega
  refine(aq (zp h1 rfl rfl (Ew @1 (by rw[ni];omega)))).trans ?_;rw[Vc];have h2:ar aI (λenv=>tL env 2) dg (eW h cs ((nN (λs=>.int (gE s.cs pre:Nat)) (λs=>.int (gE s.cs (pre++[p]):Nat)) j h).set j (.int (gE s.cs (pre++[p]):Nat))) found (.F (cel p)) (.F (.str (cU (h.take j) (pre++[p]) p))) (.F (.int j)))=some (.int (gE s.cs (pre++[p]):Nat)):=fj (i:=(j:Int)) rfl rfl (d7 (r_ (by rw[ni];exact hjl)));refine aW ?_
  by_cases hz:∀q∈s.cs,q∈pre++[p]
  .rw[h_ hz];have hz0:=(v7 s.cs (pre++[p])).mpr hz;rw[hz0]at h2 ⊢;exact fj (i:=1) rfl ((o4 ((aU h2 rfl).trans (BX _ _))).trans rfl) rfl
  .rw[i_ hz];have hz0:((gE s.cs (pre++[p]):Nat):Int)≠0:=λe=>hz ((v7 s.cs (pre++[p])).mp @1);exact fj (i:=0) rfl ((o4 ((aU h2 rfl).trans ((BX _ _).trans (by rw[show(((gE s.cs (pre++[p]):Nat):Int)==0)=false by simpa using hz0])))).trans rfl) rfl
 .rw[LN,zi _ _ _ hin,DG hj (by rw[sE p pre s.cs hin])];exact(bC (ht.trans (by rw[G_ hin]))).trans rfl
theorem iL(h:List Sh)(hn:∀s∈h,s.n<=1000)(hl:h.length<=1000)(pw:h.Pairwise λs t=>∀p∈s.cs,p∉t.cs)(cs:List Pt)(hc:cs.length<=1000)(nd:cs.Nodup):m__law_answers [hidD h,.lst (cs.map cel)]=some (.lst ((walk h [] cs).map .str)):=by
 obtain⟨e2,h1,s5,s6,s7,rfl⟩:=fG (t:=bq 5) (body:=dQ) (λj e=>∃s5 s6 s7,e=eW h cs (h.map λs=>.int (gE s.cs (cs.take j):Nat)) ((walk h [] (cs.take j)).map .str) s5 s6 s7) (cs.map cel) 0 _ ⟨.un,.un,.un,rfl⟩ λi d e hd az=>by
  obtain⟨s5,s6,s7,he⟩:=az;subst he;rw[x_]at hd;obtain⟨p,hp,rfl⟩:=L_.mp hd;have hi:=(k_.mp hp).1;simp only[UH];have LN:cs.take (i+1)=cs.take i++[p]:=by rw[XI,hp];rfl
  have hnp:p∉cs.take i:=by
   have:(cs.take i++[p]).Nodup:=by rw[<- LN];exact nd.sublist (W2 _ _)
   intro hm;exact(UQ.mp this).2.2 p hm p @8 rfl
  obtain⟨e3,g1,B5,rfl⟩:=fG (t:=bq 7) (body:=dO) (λj e=>∃s7,e=eW h cs (nN (λs=>.int (gE s.cs (cs.take i):Nat)) (λs=>.int (gE s.cs (cs.take i++[p]):Nat)) j h) ((walk h [] (cs.take i)).map .str) (.F (cel p)) (.F (.str (cU (h.take j) (cs.take i++[p]) p))) s7) (aR 0 h.length) 0 _ ⟨s7,rfl⟩ λj d e hd az=>by
   obtain⟨s7,he⟩:=az;subst he;obtain⟨rfl,hj⟩:=yZ hd;simp only[UH];obtain⟨s,hs⟩:∃s,h[j]?=some s:=⟨_,l_ hj⟩;exact⟨_,walk1 h pw cs (cs.take i) p hnp _ j s hs,_,rfl⟩
  rw[UH,eG,y7,Vk]at g1;rw[wF,show cU (h.take 0) (cs.take i++[p]) p=j8 from rfl]at g1;have hlen:bN dM ag (eW h cs (h.map λs=>.int (gE s.cs (cs.take i):Nat)) ((walk h [] (cs.take i)).map .str) (.F (cel p)) (.F (.str j8)) s7)=some (.int (h.length:Nat)):=(J3 (ds:=h.map Sh.d) rfl).trans (by rw[c_]);have O7:setF 6 (fC (.str "water")) (eW h cs (h.map λs=>.int (gE s.cs (cs.take i):Nat)) ((walk h [] (cs.take i)).map .str) (.F (cel p)) s6 s7)=some (.nx (eW h cs (h.map λs=>.int (gE s.cs (cs.take i):Nat)) ((walk h [] (cs.take i)).map .str) (.F (cel p)) (.F (.str j8)) s7)):=aW rfl;have happ:ju 4 cE (eW h cs (h.map λs=>.int (gE s.cs (cs.take i++[p]):Nat)) ((walk h [] (cs.take i)).map .str) (.F (cel p)) (.F (.str (cU h (cs.take i++[p]) p))) B5)=some (.nx (eW h cs (h.map λs=>.int (gE s.cs (cs.take i++[p]):Nat)) ((walk h [] (cs.take i)).map .str++[.str (cU h (cs.take i++[p]) p)]) (.F (cel p)) (.F (.str (cU h (cs.take i++[p]) p))) B5)):=mi rfl rfl (by rw[c_,kY,VW];omega);have htg:bq 5 (cel p) (eW h cs (h.map λs=>.int (gE s.cs (cs.take i):Nat)) ((walk h [] (cs.take i)).map .str) s5 s6 s7)=some (eW h cs (h.map λs=>.int (gE s.cs (cs.take i):Nat)) ((walk h [] (cs.take i)).map .str) (.F (cel p)) s6 s7):=rfl;have hbody:=fu (b:=dQ) htg ((aq O7).trans ((aq ((cf (ek (n:=h.length) hlen @1)).trans g1)).trans happ));refine⟨_,hbody,.F (cel p),.F (.str (cU h (cs.take i++[p]) p)),B5,?_⟩;rw[LN,lS,J_]
  rfl
 rw[UH,c_,Vk]at h1;have g0:=nU h hn (m:=m__law_cells) kB;have gl:fq (bq 0) YX (aF (bN dM (λenv=>((aa ag fNil) env).bind m__law_cells))) [.un] (h.map Sh.d)=some (h.map λs=>.int (gE s.cs (cs.take 0):Nat)):=by
  have:(h.map λs=>D.int (gE s.cs (cs.take 0):Nat))=(h.map Sh.d).map λd=>match d with | .tup [_,_,_,.int n]=>.int n | _=>.non:=by
   rw[O_];refine UE λs _=>?_;rw[List.take_zero,Gb];show D.int (s.cs.length:Nat)=.int s.n;unfold Sh.cs;simp
  rw[this];refine fF _ _ λd hd=>?_;obtain⟨s,hs,rfl⟩:=t_.mp hd;refine⟨_,rfl,dk ((kX ((call_v (ai rfl aK)).trans (kB s (hn s hs)))).trans ?_)⟩;rw[c_];show some (D.int (s.cs.length:Nat))=some (.int s.n);unfold Sh.cs;simp
 exact aZ ((aq (gL (a9 (qT rfl) rfl gl (by rw[c_];omega)))).trans ((aq (aW (a9 (qT rfl) rfl g0 (by rw[c_];omega)))).trans ((aq (gL rfl)).trans ((aq ((cf (be rfl)).trans h1)).trans rfl))))
theorem vZ:∀(xs ys:Yr),kQ (xs.map .str) (ys.map .str)=decide (xs=ys)
 | [],[]=>rfl
 | [],y::ys=>rfl
 | x::xs,[]=>rfl
 | x::xs,y::ys=>by
  show kQ (.str x::xs.map .str) (.str y::ys.map .str)=_;unfold kQ;rw[vZ xs ys,show g9 (.str x) (.str y)=(x==y) by unfold g9;rfl,UD];simp
theorem uP(xs:Yr):dH (.lst (xs.map .str))<=60:=B_ (tE (n:=0) λd hd=>by obtain⟨i,_,rfl⟩:=t_.mp hd;rw[kj];omega) @2
theorem nr(xs:Yr):pl (.lst (xs.map .str))=true:=by unfold pl;exact kg xs λx _=>by unfold pl;rfl
theorem Aa(xs ys:Yr):g9 (.lst (xs.map .str)) (.lst (ys.map .str))=decide (xs=ys):=by rw[g9];exact vZ xs ys
def bp(x:Pt×Str):D:=.tup [cel x.1,.str x.2]
theorem o8(rec:List (Pt×Str))(hl:rec.length<=1000):m_shot_cells [.lst (rec.map bp)]=some (.lst ((rec.map Prod.fst).map cel)):=by
 refine aZ (bD (a9 (be rfl) rfl ?_ (by rw[c_,c_];omega)));have he:(rec.map Prod.fst).map cel=(rec.map bp).map λd=>match d with | .tup [x,_]=>x | _=>.non:=by rw[O_,O_];rfl
 rw[he];refine fF _ _ λd hd=>?_;obtain⟨x,hx,rfl⟩:=t_.mp hd;exact⟨_,rfl,rfl⟩
theorem GO(h:List Sh)(hn:∀s∈h,s.n<=1000)(hl:h.length<=1000)(rec:List (Pt×Str))(hr:rec.length<=1000):m_fits [hidD h,.lst (rec.map bp)]=some (.bl (decide (walk h [] (rec.map Prod.fst)=rec.map Prod.snd))):=by
 have ha:=qf h hn hl (rec.map Prod.fst) (by rw[c_];exact hr);have hc:aM (cx ah) [0,1] (lb [0,1]) YX (aF ah) 2 [] [.F (hidD h),.F @12]=some (.lst ((rec.map Prod.snd).map .str)):=by
  refine a9 (be rfl) rfl ?_ (by rw[c_,c_];omega);have he:(rec.map Prod.snd).map D.str=(rec.map bp).map λd=>match d with | .tup [_,x]=>x | _=>.non:=by rw[O_,O_];rfl
  rw[he];refine fF _ _ λd hd=>?_;obtain⟨x,hx,rfl⟩:=t_.mp hd;exact⟨_,rfl,rfl⟩
 refine aZ (bD (G0 ((call_v (ai rfl (ai ((call_v (ai rfl aK)).trans (o8 rec hr)) aK))).trans ha) hc (Ik (uP _) (by rw[nr,nr];rfl)) (Aa _ _)))
theorem rq:∀(cs:List Pt)(ws:Yr),pairs (cs.map cel) (ws.map .str)=(cs.zip ws).map bp
 | [],_=>by simp[pairs]
 | x::cs,[]=>by simp[pairs]
 | x::cs,y::ws=>by
  show .tup [cel x,.str y]::pairs (cs.map cel) (ws.map .str)=_;rw[rq cs ws];rfl
theorem IX{f g:Fe}{env:En}{ds:YO}{m:Nat}(h:g env=some (.lst ds))(hf:f env=some (.int (m:Int))):GX iK g oNone (k6 f) env=some (.lst (ds.take m)):=by
 unfold GX k6;rw[h,Vt];show((f env).bind _).bind _=_;rw[hf];show some (D.lst (cutD ds none (some (m:Int))))=_;rw[rh]
abbrev Rec:=List (Pt×Str)
def Apart(h:List Sh):Prop:=h.Pairwise λs t=>∀p∈s.cs,p∉t.cs
def Fits(h:List Sh):List Pt->Rec->Prop
 | _,[]=>True
 | pre,(p,w)::r=>cU h (pre++[p]) p=w/\Fits h (pre++[p]) r
theorem lU(h:List Sh):∀(r:Rec)(pre:List Pt),walk h pre (r.map Prod.fst)=r.map Prod.snd↔Fits h pre r
 | [],pre=>by simp[walk,Fits]
 | (p,w)::r,pre=>by
  show cU h (pre++[p]) p::walk h (pre++[p]) (r.map Prod.fst)=w::r.map Prod.snd↔_;rw[Yf,lU h r];rfl
def JJ(s:Sh)(l:List Pt):Str:=if ∀q∈s.cs,q∈l then oW else pD
def FS(s:Sh):List Pt->Rec->Prop
 | _,[]=>True
 | pre,(p,w)::r=>(p∈s.cs->JJ s (pre++[p])=w)/\FS s (pre++[p]) r
def own(s:Sh)(r:Rec):Rec:=r.filter λx=>decide (x.1∈s.cs)
theorem Hb(s:Sh)(l:List Pt):JJ s (l.filter λq=>decide (q∈s.cs))=JJ s l:=by
 unfold JJ;congr 1;simp only[UN,w_,eq_iff_iff];exact⟨λh q hq=>(h q hq).1,λh q hq=>⟨h q hq,hq⟩⟩
theorem uZ(s:Sh):∀(r:Rec)(pre:List Pt),Fits [s] (pre.filter λq=>decide (q∈s.cs)) (own s r)↔FS s pre r
 | [],pre=>Iff.rfl
 | (p,w)::r,pre=>by
  have ih:=uZ s r (pre++[p]);rw[XJ]at ih;unfold own;rw[H_]
  by_cases hp:p∈s.cs
  .rw[h_ (by simpa using hp)];have e:List.filter (λq=>decide (q∈s.cs)) [p]=[p]:=by simp[hp]
   rw[e]at ih;show cU [s] _ p=w/\Fits [s] _ (own s r)↔_;rw[ih];have:cU [s] ((pre.filter λq=>decide (q∈s.cs))++[p]) p=JJ s (pre++[p]):=by
    unfold cU;rw[h_ hp,<- Hb s (pre++[p]),XJ,e]
    rfl
   rw[this];exact⟨λh=>⟨λ_=>h.1,h.2⟩,λh=>⟨h.1 hp,h.2⟩⟩
  .rw[i_ (by simpa using hp)];have e:List.filter (λq=>decide (q∈s.cs)) [p]=[]:=by simp[hp]
   rw[e,UG]at ih;exact ih.trans ⟨λh=>⟨λz=>absurd z hp,h⟩,λh=>h.2⟩
theorem zZ(l:List Pt)(p:Pt)(w:Str):∀(h:List Sh),Apart h->(cU h l p=w↔(∀s∈h,p∈s.cs->JJ s l=w)/\((∀s∈h,p∉s.cs)->j8=w))
 | [],_=>by show j8=w↔_;simp
 | s::h,pw=>by
  obtain⟨p1,p2⟩:=Uz.mp pw;have ih:=zZ l p w h p2
  by_cases hp:p∈s.cs
  .have:cU (s::h) l p=JJ s l:=by unfold cU;rw[h_ hp];rfl
   rw[this];refine⟨λe=>⟨λt ht hpt=>?_,λz=>absurd hp (z s g_)⟩,λe=>e.1 s g_ hp⟩;rcases p_.mp ht with rfl | ht
   .exact e
   .exact absurd hpt (p1 t ht p hp)
  .have:cU (s::h) l p=cU h l p:=by rw[cU,i_ hp]
   rw[this,ih];refine⟨λe=>⟨λt ht hpt=>?_,λz=>e.2 λt ht=>z t (f_ _ ht)⟩,λe=>⟨λt ht=>e.1 t (f_ _ ht),λz=>e.2 λt ht=>?_⟩⟩
   .rcases p_.mp ht with rfl | ht
    .exact absurd hpt hp
    .exact e.1 t ht hpt
   .rcases p_.mp ht with rfl | ht
    .exact hp
    .exact z t ht
theorem uq(h:List Sh)(pw:Apart h):∀(r:Rec)(pre:List Pt),Fits h pre r↔(∀s∈h,FS s pre r)/\∀x∈r,(∀s∈h,x.1∉s.cs)->j8=x.2
 | [],pre=>⟨λ_=>⟨λ_ _=>trivial,λx hx=>by cases hx⟩,λ_=>trivial⟩
 | (p,w)::r,pre=>by
  show cU h (pre++[p]) p=w/\Fits h (pre++[p]) r↔_;rw[zZ _ _ _ h pw,uq h pw r];constructor
  .rintro⟨⟨a,b⟩,c,d⟩;refine⟨λs hs=>⟨a s hs,c s hs⟩,λx hx=>?_⟩;rcases p_.mp hx with rfl | hx
   .exact b
   .exact d x hx
  .rintro⟨a,b⟩;exact⟨⟨λs hs=>(a s hs).1,b _ g_⟩,λs hs=>(a s hs).2,λx hx=>b x (f_ _ hx)⟩
def cO(s:Sh)(r:Rec):Bool:=decide (walk [s] [] ((own s r).map Prod.fst)=(own s r).map Prod.snd)
theorem Az(s:Sh)(r:Rec):cO s r=true↔FS s [] r:=by
 unfold cO;rw[w_,lU];exact uZ s r []
def bu(r:Rec):List Pt:=(r.filter λx=>decide (x.2≠j8)).map Prod.fst
def jq(r:Rec)(s:Sh):Nat:=(s.cs.filter λq=>decide (q∈bu r)).length
theorem CL(xs ys:List Pt)(hx:xs.Nodup)(hy:ys.Nodup):(xs.filter λq=>decide (q∈ys)).length=(ys.filter λq=>decide (q∈xs)).length:=by
 refine List.Perm.length_eq ((VX (hx.filter _) (hy.filter _)).mpr λa=>?_);simp only[UN,w_];exact⟨λh=>⟨h.2,h.1⟩,λh=>⟨h.2,h.1⟩⟩
def Mh(h:List Sh)(p:Pt):Bool:=h.any λs=>decide (p∈s.cs)
theorem split_len(p q:α->Bool):∀(l:List α),(∀a∈l,p a=true->q a=false)->(l.filter p).length+(l.filter q).length=(l.filter λa=>p a||q a).length
 | [],_=>rfl
 | a::l,h=>by
  have ih:=split_len p q l λb hb=>h b (f_ _ hb);have ha:=h a g_;rw[H_,H_,H_];cases hp:p a<;>cases hq:q a<;>simp_all<;>omega
theorem zJ(st:List Pt):∀(h:List Sh),Apart h->(h.map λs=>(st.filter λq=>decide (q∈s.cs)).length).sum=(st.filter (Mh h)).length
 | [],_=>by rw[W_.mpr (λ_ _=>by simp[Mh])];rfl
 | s::h,pw=>by
  obtain⟨p1,p2⟩:=Uz.mp pw;rw[C_,Vq,zJ st h p2,split_len (λq=>decide (q∈s.cs)) (Mh h) st]
  .rfl
  .intro q _ hq;rw[w_]at hq;unfold Mh;rw[List.any_eq_false];intro t ht;simpa using p1 t ht q hq
theorem sy(hr:(r.map Prod.fst).Nodup):(bu r).Nodup:=hr.sublist (List.Sublist.map _ List.filter_sublist)
theorem Hn(h:List Sh)(pw:Apart h)(r:Rec)(hr:(r.map Prod.fst).Nodup):(h.map (jq r)).sum=(bu r).length↔∀x∈r,(∀s∈h,x.1∉s.cs)->j8=x.2:=by
 have e:h.map (jq r)=h.map λs=>((bu r).filter λq=>decide (q∈s.cs)).length:=UE λs _=>CL _ _ (km s) (sy hr);rw[e,zJ _ h pw,List.length_filter_eq_length_iff];unfold bu;constructor
 .intro g x hx hn
  by_cases hw:x.2=j8
  .exact hw.symm
  .have:=g x.1 (UK (UN.mpr ⟨hx,by simpa using hw⟩));unfold Mh at this;obtain⟨s,hs,h2⟩:=X6.mp this;exact absurd (Vm h2) (hn s hs)
 .intro g p hp;obtain⟨x,hx,rfl⟩:=t_.mp hp;obtain⟨h1,h2⟩:=UN.mp hx;unfold Mh;rw[X6];refine WA λhc=>?_;have:=g x h1 λs hs z=>hc ⟨s,hs,y_ z⟩;exact(Vm h2) this.symm
def iu(h:List Sh)(r:Rec):Bool:=decide (walk h [] (r.map Prod.fst)=r.map Prod.snd)
theorem Ba(h:List Sh)(pw:Apart h)(r:Rec)(hr:(r.map Prod.fst).Nodup):iu h r=true↔(∀s∈h,cO s r=true)/\(h.map (jq r)).sum=(bu r).length:=by
 unfold iu;rw[w_,lU,uq h pw,Hn h pw r hr];simp only[Az]
def Mt:List (List Sh)->List Sh->Prop
 | [],[]=>True
 | A::cs,s::h=>s∈A/\Mt cs h
 | _,_=>False
theorem Mt.cut(ru:Str)(s:Sh):∀(cs:List (List Sh))(h:List Sh),Mt (dN ru s cs) h↔Mt cs h/\∀t∈h,ue ru s t
 | [],[]=>by simp[Mt,dN]
 | [],_::_=>by simp[Mt,dN]
 | _::_,[]=>by simp[Mt,dN]
 | A::cs,t::h=>by
  show(t∈A.filter _/\Mt (dN ru s cs) h)↔(t∈A/\Mt cs h)/\_;rw[Mt.cut ru s cs h,UN,w_];constructor
  .rintro⟨⟨a,b⟩,c,d⟩;exact⟨⟨a,c⟩,λu hu=>by rcases p_.mp hu with rfl | hu;exact b;exact d u hu⟩
  .rintro⟨⟨a,c⟩,d⟩;exact⟨⟨a,d t g_⟩,c,λu hu=>d u (f_ _ hu)⟩
theorem l6(ru:Str):∀(n:Nat)(cs:List (List Sh))(h:List Sh),cs≠[]->cs.length<=n->(h∈bT ru n cs↔Mt cs h/\h.Pairwise (ue ru))
 | 0,cs,h,hne,hl=>by cases cs with | nil=>exact absurd rfl hne | cons a b=>simp at hl
 | n+1,[],h,hne,_=>absurd rfl hne
 | n+1,[A],h,_,_=>by
  show h∈A.map (λs=>[s])↔_;rw[t_];constructor
  .rintro⟨s,hs,rfl⟩;exact⟨⟨hs,trivial⟩,Vv _ _⟩
  .rintro⟨m,_⟩
   match h,m with
   | [s],m=>exact⟨s,m.1,rfl⟩
   | [],m=>exact m.elim
   | _::_::_,m=>exact m.2.elim
 | n+1,A::B::r,h,_,hl=>by
  show h∈A.flatMap (λs=>(bT ru n (dN ru s (B::r))).map λg=>s::g)↔_;rw[Vu];have ih:∀s g,g∈bT ru n (dN ru s (B::r))↔(Mt (B::r) g/\∀t∈g,ue ru s t)/\g.Pairwise (ue ru):=λs g=>by
   rw[l6 ru n (dN ru s (B::r)) g (λz=>by have:=VE List.length z;rw[dD]at this;simp at this) (by rw[dD];simpa using hl),Mt.cut]
  constructor
  .rintro⟨s,hs,h2⟩;obtain⟨g,hg,rfl⟩:=t_.mp h2;obtain⟨⟨a,b⟩,c⟩:=(ih s g).mp hg;exact⟨⟨hs,a⟩,Uz.mpr ⟨b,c⟩⟩
  .rintro⟨m,pw⟩
   match h,m,pw with
   | s::g,m,pw=>
    obtain⟨p1,p2⟩:=Uz.mp pw;exact⟨s,m.1,t_.mpr ⟨g,(ih s g).mpr ⟨⟨m.2,p1⟩,p2⟩,rfl⟩⟩
theorem ml(ru:Str):∀(n:Nat)(cs:List (List Sh)),(∀A∈cs,A.Nodup)->(bT ru n cs).Nodup
 | 0,cs,_=>Wv
 | n+1,[],_=>Wv
 | n+1,[A],h=>Vx.mpr ((h A g_).imp λJw e=>Jw (List.cons.inj e).1)
 | n+1,A::B::r,h=>by
  refine Wr.mpr ⟨λs _=>Vx.mpr ((ml ru n (dN ru s (B::r)) λL hL=>?_).imp λJw e=>Jw (List.cons.inj e).2),(h A g_).imp λ{a b} Jw x hx y hy e=>?_⟩
  .obtain⟨L',RI,rfl⟩:=t_.mp hL;exact(h L' (f_ _ RI)).filter _
  .obtain⟨s,_,rfl⟩:=t_.mp hx;obtain⟨t,_,rfl⟩:=t_.mp hy;exact Jw (List.cons.inj e).1
def mq(R C:Nat)(q:Sh->Bool)(fl:Yv):List (List Sh):=fl.map λl=>(bW R C l).filter q
theorem FC(R C:Nat)(q:Sh->Bool):∀(fl:Yv)(h:List Sh),Mt (mq R C q fl) h↔h.map Sh.n=fl/\(∀s∈h,s∈bW R C s.n)/\∀s∈h,q s=true
 | [],[]=>by simp[Mt,mq]
 | [],_::_=>by simp[Mt,mq]
 | _::_,[]=>by simp[Mt,mq]
 | l::fl,s::h=>by
  show(s∈(bW R C l).filter q/\Mt (mq R C q fl) h)↔_;rw[FC R C q fl h,UN,C_,Yf];simp only[List.forall_mem_cons];constructor
  .rintro⟨⟨a,b⟩,c,d,e⟩;have:=ji a;exact⟨⟨this,c⟩,⟨this▸a,d⟩,b,e⟩
  .rintro⟨⟨a,c⟩,⟨a',d⟩,b,e⟩;exact⟨⟨a▸a',b⟩,c,d,e⟩
theorem xJ(R C:Nat)(ru:Str)(hs:fl.Pairwise (·>=·))(h0:0<fl.length)(h4:fl.length<=4)(q:Sh->Bool):(bT ru 4 (mq R C q fl)).Perm ((bA R C ru fl fl.length).filter λh=>h.all q):=by
 refine(VX (ml ru 4 _ λA hA=>?_) ((pE R C ru fl _).filter _)).mpr λh=>?_
 .obtain⟨l,_,rfl⟩:=t_.mp hA;exact(List.Pairwise.imp (λ{a b:Sh} (hb:Bef a b) (e:a=b)=>je hb (by rw[e]at hb ⊢;exact hb)) (Dx R C l)).filter _
 .rw[l6 ru 4 _ h (λz=>by have:=VE List.length z;unfold mq at this;rw[c_,T_]at this;omega) (by unfold mq;rw[c_];exact h4),FC,UN,kU R C ru hs _ (m_ _),Vk,U3];constructor
  .rintro⟨⟨a,b,c⟩,d⟩;exact⟨⟨a,b,d⟩,c⟩
  .rintro⟨⟨a,b,d⟩,c⟩;exact⟨⟨a,b,c⟩,d⟩
theorem Bx(hr:cN ru)(hn:∀s∈h,1<=s.n)(pw:h.Pairwise (ue ru)):Apart h:=by
 refine VJ (λ{s t} hs ht hf p hp hq=>?_) pw;refine(uX hr (hn s hs) (hn t ht)).mp hf.2 ⟨p,hq,p,hp,(0,0),?_,by unfold plus;simp⟩;rcases hr with rfl | rfl | rfl
 .rw[oY];simp
 .rw[o6];simp
 .rw[oM];simp
structure Hid(R C:Nat)(fl:List Nat)(h:List Sh):Prop where
 ap:Apart h
 len:h.length<=3
 sz:∀s∈h,1<=s.n/\s.n<=4
 on:∀s∈h,s∈bW R C s.n
theorem PL.hid{R C:Nat}{fl:Yv}{ru:Str}(p:PL R C fl ru){h:List Sh}(hh:h∈bA R C ru fl fl.length):Hid R C fl h:=by
 obtain⟨a,b,c⟩:=(kU R C ru p.up _ (m_ _) h).mp hh;rw[Vk]at a;have sz:∀s∈h,1<=s.n/\s.n<=4:=λs hs=>p.sz s.n (a▸UK hs);exact⟨Bx p.ru (λs hs=>(sz s hs).1) c,by have:=VE List.length a;rw[c_]at this;have:=p.l3;omega,sz,b⟩
theorem vk(q q':List L2.Key)(x:α):∀(ks:List (List L2.Key))(ds:List α),ds.length=ks.length->q∉ks->aN (ks++[q]) (ds++[x]) q'=if q'=q then some x else aN ks ds q'
 | [],[],_,_=>by
  show(if q=q' then some x else aN [] [] q')=_
  by_cases h:q=q'
  .rw[h_ h,h_ h.symm]
  .rw[i_ h,i_ (US h)]
 | [],_::_,h,_=>by simp at h
 | _::_,[],h,_=>by simp at h
 | k::ks,d::ds,h,hn=>by
  have ih:=vk q q' x ks ds (by simpa using h) λz=>hn (f_ _ z);show(if k=q' then some d else aN (ks++[q]) (ds++[x]) q')=if q'=q then some x else(if k=q' then some d else aN ks ds q');rw[ih]
  by_cases h1:k=q'
  .rw[h_ h1,i_ (λe=>hn (by rw[<- e,<- h1];exact g_)),h_ h1]
  .rw[i_ h1,i_ h1]
theorem lM(q q':List L2.Key)(x:α):∀(ks:List (List L2.Key))(ds:List α),ds.length=ks.length->aN ks (bx ks ds q x) q'=if q'=q/\q∈ks then some x else aN ks ds q'
 | [],[],_=>by simp[aN,bx]
 | [],_::_,h=>by simp at h
 | _::_,[],h=>by simp at h
 | k::ks,d::ds,h=>by
  have ih:=lM q q' x ks ds (by simpa using h);show(if k=q' then some (if k=q then x else d)else aN ks (bx ks ds q x) q')=if q'=q/\q∈k::ks then some x else(if k=q' then some d else aN ks ds q');rw[ih]
  by_cases h1:k=q'
  .subst h1;rw[h_ rfl,h_ rfl]
   by_cases h2:k=q
   .subst h2;rw[h_ rfl,h_ ⟨rfl,g_⟩]
   .rw[i_ h2,i_ λz=>h2 z.1]
  .rw[i_ h1,i_ h1]
   by_cases h2:q'=q
   .subst h2
    by_cases h3:q'∈ks
    .rw[h_ ⟨rfl,h3⟩,h_ ⟨rfl,f_ _ h3⟩]
    .rw[i_ λz=>h3 z.2,i_];rintro⟨_,z⟩;rcases p_.mp z with z | z
     .exact h1 z.symm
     .exact h3 z
   .rw[i_ λz=>h2 z.1,i_ λz=>h2 z.1]
theorem EN(q q':List L2.Key)(x:α)(ks:List (List L2.Key))(ds:List α)(h:ds.length=ks.length):aN (jG ks q) (k9 ks ds q x) q'=if q'=q then some x else aN ks ds q':=by
 unfold jG k9
 by_cases hq:q∈ks
 .rw[h_ hq,h_ hq,lM q q' x ks ds h]
  by_cases e:q'=q
  .rw[h_ ⟨e,hq⟩,h_ e]
  .rw[i_ λz=>e z.1,i_ e]
 .rw[i_ hq,i_ hq,vk q q' x ks ds h hq]
theorem zj(ks:List (List L2.Key))(q q':List L2.Key):q'∈jG ks q↔q'=q\/q'∈ks:=by
 unfold jG
 by_cases h:q∈ks
 .rw[h_ h];exact⟨.inr,λz=>z.elim (λe=>e▸h) id⟩
 .rw[i_ h,UF,z_];exact Or.comm
theorem xg(s:Sh):ft s.d=some s.ks:=rfl
theorem fL(p:Pt):ft (cel p)=some (cW p):=rfl
theorem jM{s t:Sh}(h:s.ks=t.ks):s=t:=by
 have h1:¬Bef s t:=λb=>by have:=zo b;rw[h]at this;have:=je b;have e:=CH this;rw[h]at e;simp_all
 have h2:¬Bef t s:=λb=>by have:=zo b;rw[<- h]at this;have:=je b;have e:=CH this;rw[<- h]at e;simp_all
 exact BD h1 h2
theorem kO(k:α->D)(q:α->List L2.Key)(hk:∀a,ft (k a)=some (q a))(v:List L2.Key->D):∀(as:List α)(m:List (List L2.Key)×YO),m.2.length=m.1.length->(∀x∈m.1,aN m.1 m.2 x=some (v x))->∃m',Mi.foldM m (as.map λa=>.tup [k a,v (q a)])=some m'/\m'.2.length=m'.1.length/\(∀x,x∈m'.1↔x∈m.1\/x∈as.map q)/\∀x∈m'.1,aN m'.1 m'.2 x=some (v x)
 | [],m,h1,h2=>⟨m,rfl,h1,λx=>by simp,h2⟩
 | a::as,m,h1,h2=>by
  obtain⟨m',g1,g2,g3,g4⟩:=kO k q hk v as (Aw m (q a) (v (q a))) (by show(k9 _ _ _ _).length=(jG _ _).length;exact sS h1 _ _) λx hx=>by
   show aN (jG _ _) (k9 _ _ _ _) x=_;rw[EN _ _ _ _ _ h1]
   by_cases e:x=q a
   .rw[h_ e,e]
   .rw[i_ e];rcases(zj _ _ _).mp hx with z | z
    .exact absurd z e
    .exact h2 x z
  refine⟨m',?_,g2,λx=>?_,g4⟩
  .show(ft (k a)).bind _=_;rw[hk a];exact g1
  .rw[g3 x,show(Aw m (q a) (v (q a))).1=jG m.1 (q a)from rfl,zj,C_,p_];constructor
   .rintro((h | h) | h)
    .exact .inr (.inl h)
    .exact .inl h
    .exact .inr (.inr h)
   .rintro(h | h | h)
    .exact .inl (.inr h)
    .exact .inl (.inl h)
    .exact .inr h
theorem sT(h1:fi env=some ds)(h2:dv is (dJ n caps env)=true)(h3:fq t c k (dJ n caps env) ds=some xs)(hl:xs.length<=16000000)(h4:Mi.foldM ([],[]) xs=some m):fV th fi is t c k n caps env=some (.mp th m.1 m.2):=by
 unfold fV;rw[h1];show(if dv is (dJ n caps env)=true then _ else _)=_;rw[h_ h2,h3];show(if xs.length<=16000000 then _ else _)=_;rw[h_ hl,h4];rfl
theorem sL(h1:f env=some (.mp th ks ds))(h2:g env=some k)(h3:ft k=some q)(h4:aN ks ds q=some d):ar (getM th) f g env=some d:=by
 rw[aU h1 h2];unfold getM;rw[wD];show(ft k).bind _=_;rw[h3];exact h4
theorem sx(h1:fk env=some k)(h2:fv env=some v)(h3:ft k=some q):fA fk fv env=some [.tup [k,v]]:=by
 unfold fA;rw[h1];show(fv env).bind _=_;rw[h2];show(ft k).bind _=_;rw[h3];rfl
theorem eq_str(a b:Str):g9 (.str a) (.str b)=decide (a=b):=by
 rw[show g9 (.str a) (.str b)=(a==b) by unfold g9;rfl,UD];simp
theorem Mq(a:Str):dH (.str a)<=60:=by rw[kj];omega
theorem Mn(h1:f env=some (.str a))(h2:g env=some (.str b)):ar ud f g env=some (.bl (decide (a≠b))):=by
 rw[Kt h1 h2 (Ik (Mq a) rfl) (eq_str a b)];simp
theorem uM(s:Sh)(hn:s.n<=1000)(rec:Rec)(hr:rec.length<=1000):m_ship_fits [s.d,.lst (rec.map bp)]=some (.bl (cO s rec)):=by
 have hl:(own s rec).length<=rec.length:=Q_ _ _;have f1:=GO [s] (λt ht=>by rw[z_.mp ht];exact hn) @8 (own s rec) @1;exact aZ ((aq (aW ((call_v (ai rfl aK)).trans (gQ s hn)))).trans (bD ((call_v (ai (kf (ai rfl aK)) (ai (a9 (be rfl) rfl (cQ bp bp (λx=>decide (x.1∈s.cs)) rec λx hx=>⟨[.F (cel x.1),.F (.str x.2),.F (.lst (s.cs.map cel))],rfl,cA (nL rfl rfl),λ_=>rfl⟩) (by rw[c_];show(own s rec).length<=_;omega)) aK))).trans f1)))
theorem BA(rec:Rec)(hr:rec.length<=1000)(s0 s1 s2 s4 s5 s6 s7:Slot):aM (cx ay) [0,1] (lb [0,1]) (fB (ar ud ah (fC (.str "water")))) (aF ag) 2 [] [s0,s1,s2,.F @12,s4,s5,s6,s7]=some (.lst ((bu rec).map cel)):=by
 have e:(bu rec).map cel=(rec.filter λx=>decide (x.2≠j8)).map λx=>cel x.1:=by unfold bu;rw[O_];rfl
 rw[e];exact a9 (be rfl) rfl (cQ bp (λx=>cel x.1) (λx=>decide (x.2≠j8)) rec λx hx=>⟨[.F (cel x.1),.F (.str x.2)],rfl,cA (Mn rfl rfl),λ_=>rfl⟩) (by rw[c_];have:=Q_ (λx:Pt×Str=>decide (x.2≠j8)) rec;omega)
theorem Gj(rec:Rec)(s:Sh)(hn:s.n<=1000)(s0:Slot):bN dM (aM (cx (λenv=>((aa ah fNil) env).bind m_cells_of)) [0] (bq 0) (fB (ar (j7 false) ag ah)) (aF ag) 1 [2]) [s0,.F s.d,.F (.lst ((bu rec).map cel))]=some (.int (jq rec s:Nat)):=by
 have hl:jq rec s<=s.cs.length:=Q_ _ _;rw[yn]at hl;have c1:aM (cx (λenv=>((aa ah fNil) env).bind m_cells_of)) [0] (bq 0) (fB (ar (j7 false) ag ah)) (aF ag) 1 [2] [s0,.F s.d,.F (.lst ((bu rec).map cel))]=some (.lst ((s.cs.filter λq=>decide (q∈bu rec)).map cel)):=a9 (be ((call_v (ai rfl aK)).trans (gQ s hn))) rfl (cQ cel cel (λq=>decide (q∈bu rec)) s.cs λq hq=>⟨[.F (cel q),.F (.lst ((bu rec).map cel))],rfl,cA (nL rfl rfl),λ_=>rfl⟩) (by rw[c_];show jq rec s<=_;omega);rw[kX c1,c_];rfl
theorem K0(R C:Nat)(hR:R<=4)(hC:C<=5)(fl:Yv)(hl:fl.length<=3)(hf:∀n∈fl,1<=n/\n<=4)(rec:Rec)(hr:rec.length<=1000)(s2 s4 s5 s6 s7:Slot):aM (Ae ah) [0] (bq 0) YX (aF (aM (cx (λenv=>((aa ah (aa ag fNil)) env).bind m_ships_of)) [0] (bq 0) (fB (λenv=>((aa ag (aa ah fNil)) env).bind m_ship_fits)) (aF ag) 1 [2])) 1 [0,3] [.F @4,.F (jB fl),s2,.F @12,s4,s5,s6,s7]=some (.lst (sR (mq R C (λs=>cO s rec) fl))):=by
 have e:sR (mq R C (λs=>cO s rec) fl)=fl.map λl=>D.lst (((bW R C l).filter λs=>cO s rec).map Sh.d):=by unfold sR mq;rw[O_];rfl
 rw[e];exact a9 (qT rfl) rfl (bY (λn:Nat=>D.int n) (λl=>.lst (((bW R C l).filter λs=>cO s rec).map Sh.d)) fl λl RY=>by
  have hl4:=hf l RY;refine⟨[.F (.int l),.F @4,.F @12],rfl,dk (a9 (be ((call_v (ai rfl (ai rfl aK))).trans (xi R C @1 @1 l hl4.1))) rfl (cQ Sh.d Sh.d (λs=>cO s rec) (bW R C l) λs hs=>⟨[.F s.d,.F @12],rfl,cA ((call_v (ai rfl (ai rfl aK))).trans (uM s (by rw[ji hs];omega) rec hr)),λ_=>rfl⟩) ?_)⟩;rw[c_];have:=Q_ (λs=>cO s rec) (bW R C l);have:=kM R C hR hC l;omega) (by rw[c_];omega)
theorem ES(R C:Nat)(hR:R<=4)(hC:C<=5)(q:Sh->Bool)(fl:Yv):∀A∈mq R C q fl,A.length<=40:=λA hA=>by
 obtain⟨l,_,rfl⟩:=t_.mp hA;exact B_ (Q_ _ _) (kM R C hR hC l)
def jh(rec:Rec)(k:List L2.Key):D:=match k with
 | [.inl a,.inl b,.inr w,.inl n]=>.int (jq rec ⟨a,b,decide (w=sDn),n.toNat⟩:Nat)
 | _=>.non
theorem oZ(rec:Rec)(s:Sh):jh rec s.ks=.int (jq rec s:Nat):=by
 obtain⟨a,b,dn,n⟩:=s;unfold Sh.ks jh Sh.w;cases dn
 .have:decide (gG=sDn)=false:=by decide
  simp[this]
 .simp
theorem xr(R C:Nat)(hR:R<=4)(hC:C<=5)(fl:Yv)(hl:fl.length<=3)(hf:∀n∈fl,1<=n/\n<=4)(q:Sh->Bool)(rec:Rec)(s0 s1 s2 s3 s6 s7:Slot):∃ks ds,fV Th.h (cx cB) [0] (bq 0) YX (gA (cx ag) [1] (bq 1) YX (fA ah (bN dM (aM (cx (λenv=>((aa ah fNil) env).bind m_cells_of)) [0] (bq 0) (fB (ar (j7 false) ag ah)) (aF ag) 1 [2])))) 2 [4] [s0,s1,s2,s3,.F (.lst ((bu rec).map cel)),.F (.lst (sR (mq R C q fl))),s6,s7]=some (.mp Th.h ks ds)/\∀A∈mq R C q fl,∀s∈A,aN ks ds s.ks=some (.int (jq rec s:Nat)):=by
 have g1:fq (bq 0) YX (gA (cx ag) [1] (bq 1) YX (fA ah (bN dM (aM (cx (λenv=>((aa ah fNil) env).bind m_cells_of)) [0] (bq 0) (fB (ar (j7 false) ag ah)) (aF ag) 1 [2])))) [.un,.un,.F (.lst ((bu rec).map cel))] ((mq R C q fl).map λA=>D.lst (A.map Sh.d))=some (((mq R C q fl).flatMap λA=>A).map λs=>D.tup [s.d,jh rec s.ks]):=by
  have key:∀cs:List (List Sh),(∀A∈cs,∀s∈A,s.n<=1000)->fq (bq 0) YX (gA (cx ag) [1] (bq 1) YX (fA ah (bN dM (aM (cx (λenv=>((aa ah fNil) env).bind m_cells_of)) [0] (bq 0) (fB (ar (j7 false) ag ah)) (aF ag) 1 [2])))) [.un,.un,.F (.lst ((bu rec).map cel))] (cs.map λA=>D.lst (A.map Sh.d))=some ((cs.flatMap λA=>A).map λs=>D.tup [s.d,jh rec s.ks]):=by
   intro cs
   induction cs with
   | nil=>intro _;rfl
   | cons A cs ih=>
    intro hA;have i1:=ih λB hB=>hA B (f_ _ hB);have g2:=bY (t:=bq 1) (k:=fA ah (bN dM (aM (cx (λenv=>((aa ah fNil) env).bind m_cells_of)) [0] (bq 0) (fB (ar (j7 false) ag ah)) (aF ag) 1 [2]))) (env:=[.F (.lst (A.map Sh.d)),.un,.F (.lst ((bu rec).map cel))]) Sh.d (λs=>D.tup [s.d,jh rec s.ks]) A λs hs=>⟨[.F (.lst (A.map Sh.d)),.F s.d,.F (.lst ((bu rec).map cel))],rfl,sx rfl (by rw[oZ];exact Gj rec s (hA A g_ s hs) _) (xg s)⟩;have m1:=CU (fi:=cx ag) (is:=[1]) (env:=[.F (.lst (A.map Sh.d)),.un,.F (.lst ((bu rec).map cel))]) (be rfl) rfl g2;rw[C_,UX,J_];unfold fq;show(if true=true then gA (cx ag) [1] (bq 1) YX _ [.F (.lst (A.map Sh.d)),.un,.F (.lst ((bu rec).map cel))]else some []).bind _=_;rw[h_ rfl,m1];show(fq _ _ _ _ _).bind _=_;rw[i1];rfl
  refine key _ λA hA s hs=>?_;obtain⟨l,RY,rfl⟩:=t_.mp hA;have:=ji (UN.mp hs).1;have:=hf l RY;omega
 obtain⟨m,f1,f2,f3,f4⟩:=kO Sh.d Sh.ks xg (jh rec) ((mq R C q fl).flatMap λA=>A) ([],[]) rfl (λx hx=>by cases hx);refine⟨m.1,m.2,sT (be rfl) rfl g1 ?_ f1,λA hA s hs=>?_⟩
 .rw[c_];have:=ez (g:=λA:List Sh=>A) (B:=40) (mq R C q fl) (ES R C hR hC q fl);have h2:(mq R C q fl).length<=3:=by unfold mq;rw[c_];exact hl
  omega
 .rw[f4 s.ks ((f3 s.ks).mpr (.inr (UK (Vu.mpr ⟨A,hA,hs⟩)))),oZ]
theorem uI(g:Sh->Nat):∀h:List Sh,(h.map λs=>((g s:Nat):Int)).sum=(((h.map g).sum:Nat):Int)
 | []=>rfl
 | s::h=>by rw[C_,Vq,uI g h,C_,Vq];push_cast;rfl
theorem Ep:∀{cs:List (List Sh)}{h:List Sh},Mt cs h->∀s∈h,∃A∈cs,s∈A
 | [],[],_,s,hs=>by cases hs
 | [],_::_,m,_,_=>m.elim
 | _::_,[],_,s,hs=>by cases hs
 | A::cs,t::h,m,s,hs=>by
  rcases p_.mp hs with rfl | hs
  .exact⟨A,g_,m.1⟩
  .obtain⟨B,hB,h2⟩:=Ep m.2 s hs;exact⟨B,f_ _ hB,h2⟩
theorem PL.fitting{R C:Nat}{fl:Yv}{ru:Str}(p:PL R C fl ru)(rec:Rec)(hr:rec.length<=1000)(nd:(rec.map Prod.fst).Nodup):∃X:List (List Sh),m_all_fitting [.tup [.int R,.int C],jB fl,.str ru,.lst (rec.map bp)]=some (.lst (X.map hidD))/\X.Perm ((bA R C ru fl fl.length).filter λh=>iu h rec):=by
 have hne:mq R C (λs=>cO s rec) fl≠[]:=λz=>by have:=VE List.length z;unfold mq at this;rw[c_,T_]at this;have:=p.l0;omega
 have jZ:(mq R C (λs=>cO s rec) fl).length=fl.length:=by unfold mq;rw[c_]
 have am:=uW ru p.ru (M:=40) @2 4 (mq R C (λs=>cO s rec) fl) @2 hne (by rw[jZ];have:=p.l3;omega) (ES R C p.r4 p.c5 _ fl) (by rw[jZ];exact B_ (EF p.l3) @2);have ap:=xJ R C ru p.up p.l0 (by have:=p.l3;omega) λs=>cO s rec;obtain⟨ks,ds,k1,k2⟩:=xr R C p.r4 p.c5 fl p.l3 p.sz (λs=>cO s rec) rec (.F @4) (.F (jB fl)) (.F (.str ru)) (.F @12) .un .un;generalize hA:bT ru 4 (mq R C (λs=>cO s rec) fl)=Y at am ap;have hY:∀h∈Y,∀s∈h,aN ks ds s.ks=some (.int (jq rec s:Nat)):=λh hh s hs=>by
  rw[<- hA,l6 ru 4 _ h hne (by rw[jZ];have:=p.l3;omega)]at hh;obtain⟨A,hA,h2⟩:=Ep hh.1 s hs;exact k2 A hA s h2
 have P5:Y.length<=64000:=by rw[ap.length_eq];exact B_ (Q_ _ _) p.len
 have hY3:∀h∈Y,h.length<=3:=λh hh=>(p.hid (UN.mp (ap.mem_iff.mp hh)).1).len;refine⟨Y.filter λh=>decide ((h.map (jq rec)).sum=(bu rec).length),aZ ((aq (aW (BA rec hr _ _ _ _ _ _ _))).trans ((aq (aW (K0 R C p.r4 p.c5 fl p.l3 p.sz rec hr _ _ _ _ _))).trans ((aq (aW k1)).trans ((aq (aW ((call_v (ai rfl (ai rfl aK))).trans am))).trans (bD (a9 (be rfl) rfl (cQ hidD hidD (λh=>decide ((h.map (jq rec)).sum=(bu rec).length)) Y λh hh=>by
  refine⟨[.F (hidD h),.F (.mp Th.h ks ds),.F (.lst ((bu rec).map cel))],rfl,?_,λ_=>rfl⟩;have c1:aM (Ae ag) [0] (bq 0) YX (aF (ar (getM Th.h) ah ag)) 1 [1] [.F (hidD h),.F (.mp Th.h ks ds),.F (.lst ((bu rec).map cel))]=some (.lst ((h.map λs=>((jq rec s:Nat):Int)).map .int)):=by
   rw[O_];exact a9 (qT rfl) rfl (bY Sh.d (λs=>.int (jq rec s:Nat)) h λs hs=>⟨[.F s.d,.F (.mp Th.h ks ds)],rfl,dk (sL rfl rfl (xg s) (hY h hh s hs))⟩) (by rw[c_];have:=hY3 h hh;omega)
  have c2:bN Hy (aM (Ae ag) [0] (bq 0) YX (aF (ar (getM Th.h) ah ag)) 1 [1]) [.F (hidD h),.F (.mp Th.h ks ds),.F (.lst ((bu rec).map cel))]=some (.int ((h.map (jq rec)).sum:Nat)):=by
   rw[o4 c1];show(kZ _).bind _=_;rw[ll];show some (D.int _)=_;rw[uI]
  refine cA ((aU c2 (kX rfl)).trans ((BX _ _).trans ?_));rw[c_];congr 2;rw[UD,WU,w_];omega) ?_)))))),?_⟩
 .rw[c_];have:=Q_ (λh=>decide ((h.map (jq rec)).sum=(bu rec).length)) Y;omega
 .refine(ap.filter _).trans (List.Perm.of_eq ?_);rw[List.filter_filter];refine List.filter_congr λh hh=>?_;have fp:=Ba h (p.hid hh).ap rec nd;rw[UD,I_,w_,U3,fp];exact And.comm
theorem mV(f:α->D)(I:List α->En->Prop):∀(xs pre:List α)(env:En),I pre env->(∀(p:List α)(x:α)(q:List α)(e:En),pre++xs=p++x::q->I p e->∃e1,(t (f x) e).bind body=some (.nx e1)/\I (p++[x]) e1)->∃e2,cK t body (xs.map f) env=some (.nx e2)/\I (pre++xs) e2
 | [],pre,env,h,_=>⟨env,rfl,by rw[UG];exact h⟩
 | x::xs,pre,env,h,hs=>by
  obtain⟨e1,h1,h2⟩:=hs pre x xs env rfl h;obtain⟨e2,h3,h4⟩:=mV f I xs (pre++[x]) e1 h2 λp y q e he hi=>hs p y q e (by rw[<- he];simp) hi;exact⟨e2,by rw[C_,yV h1];exact h3,by rw[show pre++x::xs=pre++[x]++xs by simp];exact h4⟩
def cn(S:List Sh)(u:Sh):Nat:=(S.filter λt=>decide (t.ks=u.ks)).length
theorem rJ(S:List Sh)(s u:Sh):cn (S++[s]) u=cn S u+if s.ks=u.ks then 1 else 0:=by
 unfold cn;rw[XJ,u_];congr 1
 by_cases h:s.ks=u.ks
 .rw[h_ h,H_,h_ (by simpa using h)];rfl
 .rw[i_ h,H_,i_ (by simpa using h)];rfl
theorem Gg(h:u∉S):cn S u=0:=by
 unfold cn;rw[List.length_eq_zero_iff,W_];intro t ht e;exact h (jM (Vm e)▸ht)
theorem wB(q:List L2.Key)(x:D)(k:α->List L2.Key)(f:α->D):∀us:List α,bx (us.map k) (us.map f) q x=us.map λu=>if k u=q then x else f u
 | []=>rfl
 | u::us=>by
  show(if k u=q then x else f u)::bx (us.map k) (us.map f) q x=_;rw[wB q x k f us];rfl
theorem uU:∀{us:List Sh}{s:Sh},s∈us->aN (us.map Sh.ks) (us.map f) s.ks=some (f s)
 | [],s,h=>by cases h
 | u::us,s,h=>by
  show(if u.ks=s.ks then some (f u)else aN (us.map Sh.ks) (us.map f) s.ks)=_
  by_cases e:u.ks=s.ks
  .rw[h_ e,jM e]
  .rw[i_ e];rcases p_.mp h with rfl | h
   .exact absurd rfl e
   .exact uU h
theorem oj{us:List Sh}{s:Sh}:s.ks∈us.map Sh.ks↔s∈us:=⟨λh=>by obtain⟨u,hu,e⟩:=t_.mp h;exact jM e▸hu,UK⟩
structure CI(S us:List Sh):Prop where
 nd:us.Nodup
 mem:∀u,u∈us↔u∈S
 len:us.length<=S.length
def cD(S us:List Sh):YO:=us.map λu=>.int (cn S u:Nat)
open Classical in
theorem JW(S us:List Sh)(ci:CI S us)(hS:S.length<1000000)(s:Sh)(s0 s2:Slot):∃us',CI (S++[s]) us'/\cw [s0,.O (.M Th.h (us.map Sh.ks) (cD S us)),s2,.F s.d]=some (.nx [s0,.O (.M Th.h (us'.map Sh.ks) (cD (S++[s]) us')),s2,.F s.d]):=by
 have hlen:(us.map Sh.ks).length<16000000:=by rw[c_];have:=ci.len;omega
 have run:∀(j:Int),(aN (us.map Sh.ks) (cD S us) s.ks).getD (.int 0)=.int j->cw [s0,.O (.M Th.h (us.map Sh.ks) (cD S us)),s2,.F s.d]=some (.nx [s0,.O (.M Th.h (jG (us.map Sh.ks) s.ks) (k9 (us.map Sh.ks) (cD S us) s.ks (.int (j+1)))),s2,.F s.d]):=λj hj=>by
  have g:zW Th.h (λenv=>tL env 1) ay YS [s0,.O (.M Th.h (us.map Sh.ks) (cD S us)),s2,.F s.d]=some (.int j):=by
   show(EL Th.h (.mp Th.h (us.map Sh.ks) (cD S us))).bind _=_;rw[wD];show some ((aN (us.map Sh.ks) (cD S us) s.ks).getD (.int 0))=_;rw[hj]
  have g2:ar addI (zW Th.h (λenv=>tL env 1) ay YS) YT [s0,.O (.M Th.h (us.map Sh.ks) (cD S us)),s2,.F s.d]=some (.int (j+1)):=(aU g rfl).trans (fH _ _);unfold cw Au;rw[g2];show(if Th.h=Th.h/\(us.map Sh.ks).length<16000000 then _ else _)=_;rw[h_ ⟨rfl,hlen⟩];rfl
 by_cases hs:s∈us
 .refine⟨us,⟨ci.nd,λu=>by rw[ci.mem u,UF,z_];exact⟨.inl,λz=>z.elim id λe=>e▸(ci.mem s).mp hs⟩,by rw[u_];have:=ci.len;omega⟩,?_⟩;rw[run (cn S s:Nat) (by unfold cD;rw[uU hs];rfl)];unfold jG k9;rw[h_ (oj.mpr hs),h_ (oj.mpr hs)];congr 6;unfold cD;rw[wB];refine UE λu _=>?_;rw[rJ]
  by_cases e:u.ks=s.ks
  .rw[h_ e,h_ e.symm,jM e];push_cast;rfl
  .rw[i_ e,i_ (US e)];rfl
 .have hn:s∉S:=λz=>hs ((ci.mem s).mpr z);refine⟨us++[s],⟨UQ.mpr ⟨ci.nd,Vv _ _,λa ha b hb e=>by rw[z_.mp hb]at e;exact hs (e▸ha)⟩,λu=>by rw[UF,UF,ci.mem u],by rw[u_,u_];have:=ci.len;simp only[UT];omega⟩,?_⟩;rw[run 0 (by rw[gp (λz=>hs (oj.mp z))];rfl)];unfold jG k9;rw[i_ (λz=>hs (oj.mp z)),i_ (λz=>hs (oj.mp z)),J_];congr 6;unfold cD;rw[J_];congr 1
  .refine UE λu hu=>?_;rw[rJ,i_ λe=>hs (by rw[jM e];exact hu)];rfl
  .rw[List.map_singleton,rJ,Gg hn,h_ rfl];rfl
theorem A3(X:List (List Sh))(hX:X.length<=64000)(h3:∀h∈X,h.length<=3):∃us,CI (X.flatMap id) us/\m_ship_counts [.lst (X.map hidD)]=some (.mp Th.h (us.map Sh.ks) (cD (X.flatMap id) us)):=by
 have yK:∀Y:List (List Sh),(∀h∈Y,h.length<=3)->(Y.flatMap id).length<=3*Y.length:=λY hY=>ez (g:=id) (B:=3) Y hY;obtain⟨e2,h1,us,s2,s3,rfl,ci⟩:=mV (t:=bq 2) (body:=ig) hidD (λY e=>∃us s2 s3,e=[.F (.lst (X.map hidD)),.O (.M Th.h (us.map Sh.ks) (cD (Y.flatMap id) us)),s2,s3]/\CI (Y.flatMap id) us) X [] [.F (.lst (X.map hidD)),.O (.M Th.h [] []),.un,.un] ⟨[],.un,.un,rfl,Wv,λu=>by simp,by simp⟩ λY h Z e hY az=>by
  obtain⟨us,s2,s3,he,ci⟩:=az;subst he;rw[U0]at hY;have hl:(Y.flatMap id).length+3<1000000:=by
   have l1:=yK Y λg hg=>h3 g (by rw[hY];simp[hg]);have l2:Y.length<=X.length:=by rw[hY];simp
   omega
  have hh3:h.length<=3:=h3 h (by rw[hY];simp);obtain⟨e3,g1,us',IG,rfl,T6⟩:=mV (t:=bq 3) (body:=cw) Sh.d (λS e=>∃us s3,e=[.F (.lst (X.map hidD)),.O (.M Th.h (us.map Sh.ks) (cD (Y.flatMap id++S) us)),.F (hidD h),s3]/\CI (Y.flatMap id++S) us) h [] [.F (.lst (X.map hidD)),.O (.M Th.h (us.map Sh.ks) (cD (Y.flatMap id) us)),.F (hidD h),s3] ⟨us,s3,by rw[UG],by rw[UG];exact ci⟩ λS s T e hS az=>by
   obtain⟨us,s3,he,ci⟩:=az;subst he;rw[U0]at hS;have:S.length<=h.length:=by rw[hS];simp
   obtain⟨us',c1,c2⟩:=JW (Y.flatMap id++S) us ci (by rw[u_];omega) s (.F (.lst (X.map hidD))) (.F (hidD h));refine⟨_,fu (e0:=[.F (.lst (X.map hidD)),.O (.M Th.h (us.map Sh.ks) (cD (Y.flatMap id++S) us)),.F (hidD h),.F s.d]) rfl c2,us',.F s.d,?_,?_⟩
   .rw[<- VM]
   .rw[<- VM];exact c1
  rw[U0]at g1 T6;have ef:(Y++[h]).flatMap id=Y.flatMap id++h:=by rw[List.flatMap_append];simp
  refine⟨_,fu (e0:=[.F (.lst (X.map hidD)),.O (.M Th.h (us.map Sh.ks) (cD (Y.flatMap id) us)),.F (hidD h),s3]) rfl ((cf (qT rfl)).trans g1),us',.F (hidD h),IG,?_,?_⟩
  .rw[ef]
  .rw[ef];exact T6
 rw[U0]at h1 ci;exact⟨us,ci,aZ ((aq (e:=[.F (.lst (X.map hidD)),.O (.M Th.h [] []),.un,.un]) rfl).trans ((aq ((cf (be rfl)).trans h1)).trans rfl))⟩
def lQ(R C:Nat)(sh:List Pt):List Pt:=(bg R C).filter λp=>decide (p∉sh)
theorem HH(ps:List Pt)(p:Pt):p∈zr ps↔p∈ps:=by
 have:∀(l ks:List Pt),p∈l.foldl ou ks↔p∈ks\/p∈l:=by
  intro l
  induction l with
  | nil=>intro ks;simp
  | cons q l ih=>intro ks;rw[WJ,ih,yX,p_];exact or_assoc
 unfold zr;rw[this];simp
theorem Bp(R C:Nat)(hR:R<=4)(hC:C<=5)(rec:Rec)(hr:rec.length<=1000):m_unshot_cells [.tup [.int R,.int C],.lst (rec.map bp)]=some (.lst ((lQ R C (rec.map Prod.fst)).map cel)):=by
 have s1:bN DV (λenv=>((aa ah fNil) env).bind m_shot_cells) [.F @4,.F @12,.un]=some (.st (zr (rec.map Prod.fst))):=Li ((call_v (ai rfl aK)).trans (o8 rec hr)) (u5 (λp=>rfl) _) (by rw[c_];omega);have hl:=gR R C;have Pd:C*R<=5*4:=Vp hC hR;exact aZ ((aq (aW s1)).trans (bD (a9 (be ((call_v (ai rfl aK)).trans (mw R C @1 @1))) rfl (cQ cel cel (λp=>decide (p∉rec.map Prod.fst)) (bg R C) λp hp=>⟨[.F (cel p),.F (.st (zr (rec.map Prod.fst)))],rfl,cA (by
  show some (D.bl (!decide ((p.1,p.2)∈zr (rec.map Prod.fst))))=_;congr 2;rw[UD];simp only[X1,Wg,w_];exact not_congr (HH _ _)),λ_=>rfl⟩) (by rw[c_];have:(lQ R C (rec.map Prod.fst)).length<=(bg R C).length:=Q_ _ _;omega))))
def whole(L:List Pt)(u:Sh):List Pt:=u.cs.filter λp=>decide (p∈L)
structure Hm(L:List Pt)(ks:List (List L2.Key))(ds:List D)(g:Pt->Int):Prop where
 len:ds.length=ks.length
 kl:ks.length<=1000
 mem:∀x,x∈ks↔x∈L.map cW
 val:∀p∈L,aN ks ds (cW p)=some (.int (g p))
theorem yf(n:Int):∀(ws:List Pt){ks:List (List L2.Key)}{ds:YO}{g:Pt->Int},Hm L ks ds g->ws.Nodup->(∀p∈ws,p∈L)->∃ds',gZ ks ds n (ws.map cel)=some ds'/\Hm L ks ds' λp=>g p+if p∈ws then n else 0
 | [],ks,ds,g,h,_,_=>⟨ds,rfl,h.len,h.kl,h.mem,λp hp=>by rw[h.val p hp];simp⟩
 | w::ws,ks,ds,g,h,nd,hw=>by
  obtain⟨n1,n2⟩:=V3.mp nd;have hwL:=hw w g_;have h1:Hm L ks (bx ks ds (cW w) (.int (g w+n))) λp=>g p+if p=w then n else 0:=⟨by rw[lh];exact h.len,h.kl,h.mem,λp hp=>by
   rw[lM _ _ _ _ _ h.len]
   by_cases e:p=w
   .subst e;rw[h_ ⟨rfl,(h.mem _).mpr (eM.mpr hwL)⟩,h_ rfl]
   .rw[i_ λz=>e (vO z.1),i_ e,h.val p hp];simp⟩
  obtain⟨ds',g1,g2⟩:=yf n ws h1 n2 λp hp=>hw p (f_ _ hp);refine⟨ds',?_,g2.len,g2.kl,g2.mem,λp hp=>?_⟩
  .show(ft (cel w)).bind _=_;rw[fL];show(aN ks ds (cW w)).bind _=_;rw[h.val w hwL];exact g1
  .rw[g2.val p hp];congr 2
   by_cases e:p=w
   .subst e;rw[h_ rfl,i_ n1,h_ g_];omega
   .rw[i_ e]
    by_cases e2:p∈ws
    .rw[h_ e2,h_ (f_ _ e2)];omega
    .rw[i_ e2,i_ λz=>(p_.mp z).elim e e2];omega
theorem wa:∀(xs:YO)(m m':List (List L2.Key)×YO),Mi.foldM m xs=some m'->m'.1.length<=m.1.length+xs.length
 | [],m,m',h=>by cases h;simp
 | x::xs,m,m',h=>by
  unfold Mi.foldM at h
  split at h
  .rename_i e;cases e
  .rename_i k v r e;cases e;obtain⟨q,h1,h2⟩:=b_.mp h;have:=wa xs _ _ h2;have l2:(Aw m q v).1.length<=m.1.length+1:=sd _ _;rw[v_];omega
  .cases h
theorem uk(L:List Pt)(hl:L.length<=1000)(s0 s1 s2 s4 s5 s6 s7 s8 s9 dW:Slot):∃ks ds,fV Th.h (cx ay) [0] (bq 0) YX (fA ag YS) 1 [] [s0,s1,s2,.F (.lst (L.map cel)),s4,s5,s6,s7,s8,s9,dW]=some (.mp Th.h ks ds)/\Hm L ks ds λ_=>0:=by
 have g1:=bY (t:=bq 0) (k:=fA ag YS) (env:=[.un]) cel (λp=>.tup [cel p,.int 0]) L λp hp=>⟨[.F (cel p)],rfl,sx rfl rfl (fL p)⟩;obtain⟨m,f1,f2,f3,f4⟩:=kO cel cW fL (λ_=>.int 0) L ([],[]) rfl (λx hx=>by cases hx);refine⟨m.1,m.2,sT (be rfl) rfl g1 (by rw[c_];omega) f1,f2,by have:=wa _ _ _ f1;rw[c_]at this;simp only[T_,UH]at this;omega,λx=>by rw[f3 x];simp,λp hp=>f4 _ ((f3 _).mpr (.inr (UK hp)))⟩
def gH(L:List Pt)(S pre:List Sh)(p:Pt):Int:=(pre.map λu=>if(whole L u).length=1 then(0:Int)else if p∈whole L u then(cn S u:Nat)else 0).sum
def ED(L:List Pt)(S pre:List Sh)(p:Pt):Int:=(pre.map λu=>if(whole L u).length=1 then(if p∈whole L u then((cn S u:Nat):Int)else 0)else 0).sum
theorem j9(f:Sh->Int)(pre:List Sh)(u:Sh):((pre++[u]).map f).sum=(pre.map f).sum+f u:=by simp[Ye]
theorem Hj(ps:List Pt):pl (.lst (ps.map cel))=true:=by unfold pl;exact mT ps
abbrev eP(sh fo re:D)(L:List Pt)(k4:List (List L2.Key))(d4:YO)(k5:List (List L2.Key))(d5:YO)(s6 s7 s8 s9 dW:Slot):En:=[.F sh,.F fo,.F re,.F (.lst (L.map cel)),.O (.M Th.h k4 d4),.O (.M Th.h k5 d5),s6,s7,s8,s9,dW]
theorem KZ(L:List Pt)(u:Sh)(hn:u.n<=1000)(h4:Hm L k4 d4 g)(sh fo re:D)(k5:List (List L2.Key))(d5:YO)(s7 s8 s9 dW:Slot) :
  Gc 4 (aM (cx (λenv=>((aa cE fNil) env).bind m_cells_of)) [0] (bq 0) (fB (ar (Ju Th.h false) ag ah)) (aF ag) 1 [4]) (eP sh fo re L k4 d4 k5 d5 (.F u.d) s7 s8 s9 dW)=some (.lst ((whole L u).map cel)):=by
 have g1:=cQ (t:=bq 0) (c:=fB (ar (Ju Th.h false) ag ah)) (k:=aF ag) (env:=[.un,.F (.mp Th.h k4 d4)]) cel cel (λp=>decide (p∈L)) u.cs λp hp=>⟨[.F (cel p),.F (.mp Th.h k4 d4)],rfl,cA (by
  show(EL Th.h (.mp Th.h k4 d4)).bind _=_;rw[wD];show some (D.bl (decide (cW p∈k4)))=_;congr 2;rw[UD,w_,w_,h4.mem,eM]),λ_=>rfl⟩
 have hl:(whole L u).length<=u.cs.length:=Q_ _ _;rw[yn]at hl;have c1:aM (cx (λenv=>((aa cE fNil) env).bind m_cells_of)) [0] (bq 0) (fB (ar (Ju Th.h false) ag ah)) (aF ag) 1 [4] [.F sh,.F fo,.F re,.F (.lst (L.map cel)),.F (.mp Th.h k4 d4),.O (.M Th.h k5 d5),.F u.d,s7,s8,s9,dW]=some (.lst ((whole L u).map cel)):=a9 (be ((call_v (ai rfl aK)).trans (gQ u hn))) rfl g1 (by rw[c_];show(whole L u).length<=_;omega);show((aM _ _ _ _ _ _ _ [.F sh,.F fo,.F re,.F (.lst (L.map cel)),.F (.mp Th.h k4 d4),.O (.M Th.h k5 d5),.F u.d,s7,s8,s9,dW]).bind λd=>if pl d=true then some d else none)=_;rw[c1];show(if pl (.lst ((whole L u).map cel))=true then some (D.lst ((whole L u).map cel))else none)=_;rw[h_ (Hj _)]
open Classical in
theorem part1(L:List Pt)(hL:L.length<=1000)(S pre:List Sh)(u:Sh)(hn:u.n<=1000)(h4:Hm L k4 d4 (gH L S pre))(h5:Hm L k5 d5 (ED L S pre))(sh fo re:D)(s8 s9 dW:Slot) :
  ∃Ap Ar IF B5 s8' s9' B6,gX (eP sh fo re L k4 d4 k5 d5 (.F u.d) (.F (.int (cn S u:Nat))) s8 s9 dW)=some (.nx (eP sh fo re L k4 Ap k5 Ar IF B5 s8' s9' B6))/\Hm L k4 Ap (gH L S (pre++[u]))/\Hm L k5 Ar (ED L S (pre++[u])):=by
 have w1:=KZ L u hn h4 sh fo re k5 d5 (.F (.int (cn S u:Nat))) s8 s9 dW;have nd:(whole L u).Nodup:=(km u).filter _;have sub:∀p∈whole L u,p∈L:=λp hp=>Vm (UN.mp hp).2;have t1:fB (ar eJ (bN dM er) YT) (eP sh fo re L k4 d4 k5 d5 (.F u.d) (.F (.int (cn S u:Nat))) (.F (.lst ((whole L u).map cel))) s9 dW)=some (((((whole L u).map cel).length:Nat):Int)==1):=cA ((aU (kX rfl) rfl).trans (BX _ _));rw[c_]at t1
 by_cases hw:(whole L u).length=1
 .obtain⟨ds',a1,a2⟩:=yf ((cn S u:Nat):Int) (whole L u) h5 nd sub;refine⟨d4,ds',.F u.d,.F (.int (cn S u:Nat)),.F (.lst ((whole L u).map cel)),.un,.un,(aq (aW w1)).trans ?_,⟨h4.len,h4.kl,h4.mem,λp hp=>?_⟩,⟨a2.len,a2.kl,a2.mem,λp hp=>?_⟩⟩
  .show AF Th.h 9 5 4 10 7 8 _ (eP sh fo re L k4 d4 k5 d5 (.F u.d) (.F (.int (cn S u:Nat))) (.F (.lst ((whole L u).map cel))) s9 dW)=_;unfold AF;rw[t1,show((((whole L u).length:Nat):Int)==1)=true by rw[hw];rfl];show(if Th.h=Th.h/\k5.length<16000000/\9<11/\10<11 then(gZ k5 d5 ((cn S u:Nat):Int) ((whole L u).map cel)).bind _ else none)=_;rw[h_ ⟨rfl,by have:=h5.kl;omega,by omega,by omega⟩,a1];rfl
  .rw[h4.val p hp];unfold gH;rw[j9,h_ hw,Yc]
  .rw[a2.val p hp];unfold ED;rw[j9,h_ hw]
 .obtain⟨ds',a1,a2⟩:=yf ((cn S u:Nat):Int) (whole L u) h4 nd sub;refine⟨ds',d5,.F u.d,.F (.int (cn S u:Nat)),.F (.lst ((whole L u).map cel)),.un,.un,(aq (aW w1)).trans ?_,⟨a2.len,a2.kl,a2.mem,λp hp=>?_⟩,⟨h5.len,h5.kl,h5.mem,λp hp=>?_⟩⟩
  .show AF Th.h 9 5 4 10 7 8 _ (eP sh fo re L k4 d4 k5 d5 (.F u.d) (.F (.int (cn S u:Nat))) (.F (.lst ((whole L u).map cel))) s9 dW)=_;unfold AF;rw[t1,show((((whole L u).length:Nat):Int)==1)=false by rw[WB];omega];show(if Th.h=Th.h/\k4.length<16000000/\9<11/\10<11 then(gZ k4 d4 ((cn S u:Nat):Int) ((whole L u).map cel)).bind _ else none)=_;rw[h_ ⟨rfl,by have:=h4.kl;omega,by omega,by omega⟩,a1];rfl
  .rw[a2.val p hp];unfold gH;rw[j9,i_ hw]
  .rw[h5.val p hp];unfold ED;rw[j9,i_ hw,Yc]
theorem wI(S:List Sh):∀us:List Sh,eY (us.map Sh.ks) (cD S us)=us.map λu=>.tup [u.d,.int (cn S u:Nat)]
 | []=>rfl
 | u::us=>by
  show D.tup [.tup (u.ks.map kD),.int (cn S u:Nat)]::eY (us.map Sh.ks) (cD S us)=_;rw[wI S us];rfl
theorem JX(u:Sh):F3 u.ks=true:=by
 obtain⟨a,b,dn,n⟩:=u;unfold F3 Sh.ks Sh.w;have e1:PyData.strOk gG=true:=by decide +kernel
 have e2:PyData.strOk sDn=true:=by decide +kernel
 cases dn
 .show(true&&(true&&(PyData.strOk gG&&(true&&true))))=true;rw[e1];rfl
 .show(true&&(true&&(PyData.strOk sDn&&(true&&true))))=true;rw[e2];rfl
theorem EG(h:f env=some (.mp th ks ds)):setM i f env=some (.nx (env.set i (.O (.M th ks ds)))):=by unfold setM;rw[h];rfl
theorem M'(h:f env=some (.mp th ks ds))(h1:ks.all F3=true)(h2:ds.length=ks.length):Px th f env=some (eY ks ds):=by
 unfold Px;rw[h];show(EL th (.mp th ks ds)).bind _=_;rw[wD];show(if(ks.all F3&&decide (ds.length=ks.length))=true then some (eY ks ds)else none)=_;rw[h_ (by rw[h1,y_ h2];rfl)]
def pv(N:Int)(g1 g2:Pt->Int):List L2.Key->D
 | [.inl a,.inl b]=>.tup [.int (N-g1 (a,b)-g2 (a,b)),.int (g1 (a,b)),.int (g2 (a,b))]
 | _=>.non
theorem JG(N:Int)(g1 g2:Pt->Int)(p:Pt):pv N g1 g2 (cW p)=.tup [.int (N-g1 p-g2 p),.int (g1 p),.int (g2 p)]:=rfl
theorem EZ(R C:Nat)(hR:R<=4)(hC:C<=5)(X:List (List Sh))(hX:X.length<=64000)(h3:∀h∈X,h.length<=3)(hn:∀h∈X,∀s∈h,s.n<=1000)(rec:Rec)(hr:rec.length<=1000) :
  ∃us ks ds,CI (X.flatMap id) us/\m_parts_in [.tup [.int R,.int C],.lst (X.map hidD),.lst (rec.map bp)]=some (.mp Th.h ks ds)/\∀p∈lQ R C (rec.map Prod.fst),aN ks ds (cW p)=some (pv X.length (gH (lQ R C (rec.map Prod.fst)) (X.flatMap id) us) (ED (lQ R C (rec.map Prod.fst)) (X.flatMap id) us) (cW p)):=by
 have un:=Bp R C hR hC rec hr;have hL:(lQ R C (rec.map Prod.fst)).length<=1000:=by
  have l1:(lQ R C (rec.map Prod.fst)).length<=(bg R C).length:=Q_ _ _;have l2:=gR R C;have Pd:C*R<=5*4:=Vp hC hR;omega
 generalize lQ R C (rec.map Prod.fst)=L at un hL ⊢;obtain⟨us,ci,cu⟩:=A3 X hX h3;have hun:∀u∈us,u.n<=1000:=λu hu=>by
  obtain⟨h,hh,RX⟩:=Vu.mp ((ci.mem u).mp hu);exact hn h hh u RX
 generalize X.flatMap id=S at ci cu ⊢;obtain⟨k4,d4,a1,a2⟩:=uk L hL (.F @4) (.F (.lst (X.map hidD))) (.F @12) .un .un .un .un .un .un .un;obtain⟨k5,d5,b1,b2⟩:=uk L hL (.F @4) (.F (.lst (X.map hidD))) (.F @12) (.O (.M Th.h k4 d4)) .un .un .un .un .un .un;obtain⟨e2,l1,Ap,Ar,s6,s7,s8,s9,dW,rfl,i4,i5⟩:=mV (t:=lb [6,7]) (body:=gX) (λu:Sh=>D.tup [u.d,.int (cn S u:Nat)]) (λpre e=>∃Ap Ar s6 s7 s8 s9 dW,e=eP @4 (.lst (X.map hidD)) @12 L k4 Ap k5 Ar s6 s7 s8 s9 dW/\Hm L k4 Ap (gH L S pre)/\Hm L k5 Ar (ED L S pre)) us [] (eP @4 (.lst (X.map hidD)) @12 L k4 d4 k5 d5 .un .un .un .un .un) ⟨d4,d5,_,_,_,_,_,rfl,a2,b2⟩ λpre u post e hu az=>by
  obtain⟨d4,d5,s6,s7,s8,s9,dW,he,i4,i5⟩:=az;subst he;obtain⟨Ap,Ar,t6,t7,t8,t9,Cd,p1,p2,p3⟩:=part1 L hL S pre u (hun u (by rw[U0]at hu;rw[hu];simp)) i4 i5 @4 (.lst (X.map hidD)) @12 s8 s9 dW;exact⟨_,fu (e0:=eP @4 (.lst (X.map hidD)) @12 L k4 d4 k5 d5 (.F u.d) (.F (.int (cn S u:Nat))) s8 s9 dW) rfl p1,Ap,Ar,t6,t7,t8,t9,Cd,rfl,p2,p3⟩
 rw[U0]at i4 i5;have it:=M' (th:=Th.h) (f:=λenv=>((aa ah fNil) env).bind m_ship_counts) (env:=eP @4 (.lst (X.map hidD)) @12 L k4 d4 k5 d5 .un .un .un .un .un) ((call_v (ai rfl aK)).trans cu) (U3.mpr λk hk=>by obtain⟨u,_,rfl⟩:=t_.mp hk;exact JX u) (by unfold cD;rw[c_,c_]);rw[wI]at it;obtain⟨m,f1,f2,f3,f4⟩:=kO cel cW fL (pv X.length (gH L S us) (ED L S us)) L ([],[]) rfl (λx hx=>by cases hx);refine⟨us,m.1,m.2,ci,?_,λp hp=>f4 _ ((f3 _).mpr (.inr (UK hp)))⟩;refine aZ ((aq (aW ((call_v (ai rfl (ai rfl aK))).trans un))).trans ((aq (EG a1)).trans ((aq (EG b1)).trans ((aq ((cf it).trans l1)).trans ((aq (e:=[.F @4,.F (.lst (X.map hidD)),.F @12,.F (.lst (L.map cel)),.F (.mp Th.h k4 Ap),.O (.M Th.h k5 Ar),s6,s7,s8,s9,dW]) rfl).trans ((aq (e:=[.F @4,.F (.lst (X.map hidD)),.F @12,.F (.lst (L.map cel)),.F (.mp Th.h k4 Ap),.F (.mp Th.h k5 Ar),s6,s7,s8,s9,dW]) rfl).trans (bD (sT (be rfl) rfl (bY cel (λp=>.tup [cel p,pv X.length (gH L S us) (ED L S us) (cW p)]) L λp hp=>by
  refine⟨[.F (cel p),.F (.lst (X.map hidD)),.F (.mp Th.h k4 Ap),.F (.mp Th.h k5 Ar)],rfl,?_⟩;have v4:ar (getM Th.h) aD ag [.F (cel p),.F (.lst (X.map hidD)),.F (.mp Th.h k4 Ap),.F (.mp Th.h k5 Ar)]=some (.int (gH L S us p)):=sL rfl rfl (fL p) (i4.val p hp);have v5:ar (getM Th.h) ay ag [.F (cel p),.F (.lst (X.map hidD)),.F (.mp Th.h k4 Ap),.F (.mp Th.h k5 Ar)]=some (.int (ED L S us p)):=sL rfl rfl (fL p) (i5.val p hp);have vl:bN dM ah [.F (cel p),.F (.lst (X.map hidD)),.F (.mp Th.h k4 Ap),.F (.mp Th.h k5 Ar)]=some (.int X.length):=by rw[kX (ds:=X.map hidD) rfl,c_]
  exact sx rfl (kf (ai ((aU ((aU vl v4).trans (EE _ _)) v5).trans (EE _ _)) (ai v4 (ai v5 aK)))) (fL p)) (by rw[c_];omega) f1))))))))
theorem iN:∀us:List α,(us.map λ_=>0).sum=0
 | []=>rfl
 | u::us=>by rw[C_,Vq,iN us]
theorem Ha(S:List Sh)(s u:Sh):cn (s::S) u=(if s.ks=u.ks then 1 else 0)+cn S u:=by
 unfold cn;rw[H_]
 by_cases h:s.ks=u.ks
 .rw[h_ h,h_ (by simpa using h),v_];omega
 .rw[i_ h,i_ (by simpa using h)];omega
theorem zV(w:Sh->Nat)(s:Sh):∀us:List Sh,us.Nodup->s∈us->(us.map λu=>w u*if s.ks=u.ks then 1 else 0).sum=w s
 | [],_,h=>by cases h
 | u::us,nd,h=>by
  obtain⟨n1,n2⟩:=V3.mp nd;rw[C_,Vq]
  by_cases e:s=u
  .subst e;rw[h_ rfl,Nat.mul_one];have:(us.map λu=>w u*if s.ks=u.ks then 1 else 0)=us.map λ_=>0:=UE λu hu=>by rw[i_ λz=>n1 (by rw[jM z];exact hu),Nat.mul_zero]
   rw[this,iN,Nat.add_zero]
  .rw[i_ λz=>e (jM z),Nat.mul_zero,UH];exact zV w s us n2 ((p_.mp h).elim (λz=>absurd z e) id)
theorem sum_add(f g:Sh->Nat):∀us:List Sh,(us.map λu=>f u+g u).sum=(us.map f).sum+(us.map g).sum
 | []=>rfl
 | u::us=>by simp only[C_,Vq,sum_add f g us];omega
theorem yd(w:Sh->Nat)(us:List Sh)(nd:us.Nodup):∀S:List Sh,(∀s∈S,s∈us)->(us.map λu=>w u*cn S u).sum=(S.map w).sum
 | [],_=>by
  have:(us.map λu=>w u*cn [] u)=us.map λ_=>0:=UE λu _=>rfl;rw[this,iN];rfl
 | s::S,h=>by
  have ih:=yd w us nd S λt ht=>h t (f_ _ ht);have e:(us.map λu=>w u*cn (s::S) u)=us.map λu=>(w u*if s.ks=u.ks then 1 else 0)+w u*cn S u:=UE λu _=>by rw[Ha,Xr]
  rw[e,sum_add,zV w s us nd (h s g_),ih,C_,Vq]
theorem nR(w:Sh->Nat):∀X:List (List Sh),((X.flatMap id).map w).sum=(X.map λh=>(h.map w).sum).sum
 | []=>rfl
 | h::X=>by rw[UX,J_,Ye,nR w X];rfl
theorem sV(f:α->Bool):∀X:List α,(X.map λh=>if f h=true then 1 else 0).sum=(X.filter f).length
 | []=>rfl
 | h::X=>by
  rw[C_,Vq,sV f X,H_];cases f h<;>simp<;>omega
def wH(L:List Pt)(p:Pt)(u:Sh):Nat:=if(whole L u).length=1 then 0 else if p∈whole L u then 1 else 0
def wS(L:List Pt)(p:Pt)(u:Sh):Nat:=if(whole L u).length=1 then(if p∈whole L u then 1 else 0)else 0
theorem tq(f:Sh->Nat):∀us:List Sh,(((us.map f).sum:Nat):Int)=(us.map λu=>((f u:Nat):Int)).sum
 | []=>rfl
 | u::us=>by rw[C_,Vq,C_,Vq,<- tq f us];push_cast;rfl
theorem MJ(L:List Pt)(ci:CI S us)(p:Pt):gH L S us p=((S.map (wH L p)).sum:Nat):=by
 rw[<- yd (wH L p) us ci.nd S λs hs=>(ci.mem s).mpr hs,tq];unfold gH wH;congr 1;refine UE λu _=>?_
 split
 .simp
 .split<;>simp
theorem Nm(L:List Pt)(ci:CI S us)(p:Pt):ED L S us p=((S.map (wS L p)).sum:Nat):=by
 rw[<- yd (wS L p) us ci.nd S λs hs=>(ci.mem s).mpr hs,tq];unfold ED wS;congr 1;refine UE λu _=>?_
 split
 .split<;>simp
 .simp
theorem rB:p∈bg R C↔0<=p.1/\p.1<R/\0<=p.2/\p.2<C:=by
 unfold bg;rw[Vu];constructor
 .rintro⟨a,ha,h⟩;obtain⟨b,hb,rfl⟩:=t_.mp h;rw[UV]at ha hb;exact⟨by simp only;omega,by simp only;omega,by simp only;omega,by simp only;omega⟩
 .rintro⟨h1,h2,h3,h4⟩;obtain⟨x,y⟩:=p;obtain⟨a,rfl⟩:=Vf h1;obtain⟨b,rfl⟩:=Vf h3;exact⟨a,UV.mpr (by simp only at h2;omega),t_.mpr ⟨b,UV.mpr (by simp only at h4;omega),rfl⟩⟩
theorem CB(h1:1<=s.n)(h:s∈bW R C s.n):∀q∈s.cs,q∈bg R C:=λq hq=>by
 obtain⟨⟨a,b,ea,eb,ha,hb⟩,_,h3,h4⟩:=lK.mp h;obtain⟨c1,c2,c3,c4⟩:=(nI h1 q).mp hq;rw[rB];unfold Sh.rz at c2;unfold Sh.cz at c4;cases hd:s.dn with
 | true=>
  have:=(h4 hd).1;rw[h_ hd]at c2 c4;omega
 | false=>
  have:=h3 hd;rw[i_ (by rw[hd];simp)]at c2 c4;omega
theorem tI:p∈lQ R C sh↔p∈bg R C/\p∉sh:=by unfold lQ;rw[UN,w_]
theorem dj:p∈whole L s↔p∈s.cs/\p∈L:=by unfold whole;rw[UN,w_]
theorem AS(on:∀q∈s.cs,q∈bg R C)(hp:p∈s.cs)(hL:p∈lQ R C sh):(whole (lQ R C sh) s).length=1↔∀q∈s.cs,q∈sh++[p]:=by
 have nd:(whole (lQ R C sh) s).Nodup:=(km s).filter _;have hw:p∈whole (lQ R C sh) s:=dj.mpr ⟨hp,hL⟩;constructor
 .intro h q hq;obtain⟨x,hx⟩:=List.length_eq_one_iff.mp h;rw[hx,z_]at hw;rw[UF,z_]
  by_cases hs:q∈sh
  .exact .inl hs
  .right;have:q∈whole (lQ R C sh) s:=dj.mpr ⟨hq,tI.mpr ⟨on q hq,hs⟩⟩;rw[hx,z_]at this;rw[this,hw]
 .intro h;have:(whole (lQ R C sh) s).Perm [p]:=(VX nd (Vv _ _)).mpr λq=>by
   rw[z_];constructor
   .intro hq;obtain⟨h1,h2⟩:=dj.mp hq;rcases UF.mp (h q h1)with z | z
    .exact absurd z (tI.mp h2).2
    .exact z_.mp z
   .rintro rfl;exact hw
  rw[this.length_eq];rfl
theorem w_sum(hL:p∈lQ R C sh):∀h:List Sh,Apart h->(∀s∈h,∀q∈s.cs,q∈bg R C)->
  (h.map (wH (lQ R C sh) p)).sum=(if decide (cU h (sh++[p]) p=pD)=true then 1 else 0)/\(h.map (wS (lQ R C sh) p)).sum=(if decide (cU h (sh++[p]) p=oW)=true then 1 else 0)
 | [],_,_=>by
  have e1:decide (j8=pD)=false:=by decide
  have e2:decide (j8=oW)=false:=by decide
  show 0=(if decide (j8=pD)=true then 1 else 0)/\0=(if decide (j8=oW)=true then 1 else 0);rw[e1,e2];exact⟨rfl,rfl⟩
 | s::h,ap,on=>by
  obtain⟨p1,p2⟩:=Uz.mp ap;obtain⟨i1,i2⟩:=w_sum hL h p2 λt ht=>on t (f_ _ ht);rw[C_,Vq,C_,Vq]
  by_cases hp:p∈s.cs
  .have z1:(h.map (wH (lQ R C sh) p))=h.map λ_=>0:=UE λt ht=>by unfold wH;rw[i_ (c:=p∈_) λz=>p1 t ht p hp (dj.mp z).1];split<;>rfl
   have z2:(h.map (wS (lQ R C sh) p))=h.map λ_=>0:=UE λt ht=>by unfold wS;rw[i_ (c:=p∈_) λz=>p1 t ht p hp (dj.mp z).1];split<;>rfl
   have hw:p∈whole (lQ R C sh) s:=dj.mpr ⟨hp,hL⟩;have wo:=AS (on s g_) hp hL;rw[z1,z2,cU,h_ hp];have e1:decide (oW=pD)=false:=by decide
   have e2:decide (pD=oW)=false:=by decide
   unfold wH wS;rw[h_ hw]
   by_cases hs:∀q∈s.cs,q∈sh++[p]
   .rw[h_ (wo.mpr hs),h_ (wo.mpr hs),h_ hs,e1,iN];simp
   .rw[i_ λz=>hs (wo.mp z),i_ λz=>hs (wo.mp z),i_ hs,e2,iN];simp
  .have z1:wH (lQ R C sh) p s=0:=by unfold wH;rw[i_ (c:=p∈_) λz=>hp (dj.mp z).1];split<;>rfl
   have z2:wS (lQ R C sh) p s=0:=by unfold wS;rw[i_ (c:=p∈_) λz=>hp (dj.mp z).1];split<;>rfl
   rw[z1,z2,UH,UH,cU,i_ hp];exact⟨i1,i2⟩
abbrev QP:Str:="NoHiding"
abbrev QN:Str:="NoCell"
abbrev QV:Str:="NoShot"
theorem HW(h:m_all_fitting [sh,fl,ru,re]=some (.lst (X.map hidD))):m_some_fitting [sh,fl,ru,re]=some (if X=[]then .error (QP,.non)else .ok (.lst (X.map hidD))):=by
 have a:setF 4 (λenv=>((aa ag (aa ah (aa aD (aa ay fNil)))) env).bind m_all_fitting) [.F sh,.F fl,.F ru,.F re,.un]=some (.nx [.F sh,.F fl,.F ru,.F re,.F (.lst (X.map hidD))]):=aW ((call_v (ai rfl (ai rfl (ai rfl (ai rfl aK))))).trans h);show((ip (yz _) _ [.F sh,.F fl,.F ru,.F re,.un]).bind _)=_;unfold ip yz;rw[a];cases X with
 | nil=>rw[h_ rfl];rfl
 | cons x X=>rw[i_ @8];rfl
theorem N9(R C:Nat)(p:Pt):m_is_cell [.tup [.int R,.int C],cel p]=some (.bl (decide (p∈bg R C))):=by
 unfold cel;rw[zN];congr 2;rw[UD,w_,rB];simp only[inR,I_,w_];constructor
 .rintro⟨⟨a,b⟩,c,d⟩;exact⟨a,b,c,d⟩
 .rintro⟨a,b,c,d⟩;exact⟨⟨a,b⟩,c,d⟩
theorem Bf(R C:Nat)(rec:Rec)(hr:rec.length<=1000)(p:Pt):m_refuse_shot [.tup [.int R,.int C],.lst (rec.map bp),cel p]=some (if p∉bg R C then .error (QN,cel p)else if p∈rec.map Prod.fst then .error (QV,cel p)else .ok .non):=by
 have t1:oR (fB (λenv=>((aa ag (aa aD fNil)) env).bind m_is_cell)) [.F @4,.F @12,.F (cel p)]=some (!decide (p∈bg R C)):=q9 (cA ((call_v (ai rfl (ai rfl aK))).trans (N9 R C p)));have t2:fB (ar (j7 false) aD (λenv=>((aa ah fNil) env).bind m_shot_cells)) [.F @4,.F @12,.F (cel p)]=some (decide (p∈rec.map Prod.fst)):=cA (nL rfl ((call_v (ai rfl aK)).trans (o8 rec hr)));show((ip (HA _ _ _) (HA _ _ _) [.F @4,.F @12,.F (cel p)]).bind _)=_;unfold ip
 conv=>lhs;arg 1;arg 1;unfold HA;rw[t1]
 by_cases h1:p∈bg R C
 .rw[i_ (by simpa using h1),y_ h1];show((HA _ _ _ [.F @4,.F @12,.F (cel p)]).bind _)=_;unfold HA;rw[t2]
  by_cases h2:p∈rec.map Prod.fst
  .rw[h_ h2,y_ h2];rfl
  .rw[i_ h2,G_ h2];rfl
 .rw[h_ h1,G_ h1];rfl
def gv(R C:Nat)(X:List (List Sh))(sh:List Pt)(p:Pt):Rs:=
 if X=[]then .error (QP,.non)else if p∉bg R C then .error (QN,cel p)else if p∈sh then .error (QV,cel p)else .ok (.tup [.int (X.length-(X.filter λh=>decide (cU h (sh++[p]) p=pD)).length-(X.filter λh=>decide (cU h (sh++[p]) p=oW)).length:Int),.int (X.filter λh=>decide (cU h (sh++[p]) p=pD)).length,.int (X.filter λh=>decide (cU h (sh++[p]) p=oW)).length])
theorem yg(pl:PL R C fl ru)(rec:Rec)(hr:rec.length<=1000)(hX:m_all_fitting [.tup [.int R,.int C],jB fl,.str ru,.lst (rec.map bp)]=some (.lst (X.map hidD)))(hd:∀h∈X,Hid R C fl h)(hl:X.length<=64000)(p:Pt):m_parts_of [.tup [.int R,.int C],jB fl,.str ru,.lst (rec.map bp),cel p]=some (gv R C X (rec.map Prod.fst) p):=by
 have s1:=HW hX;have r1:=Bf R C rec hr p;have a:oX (Kq (aa ag (aa ah (aa aD (aa ay fNil))))) m_some_fitting [.F @4,.F (jB fl),.F (.str ru),.F @12,.F (cel p),.un]=m_some_fitting [.tup [.int R,.int C],jB fl,.str ru,.lst (rec.map bp)]:=rfl;have b:∀d,oX (Kq (aa ag (aa ay (aa aV fNil)))) m_refuse_shot [.F @4,.F (jB fl),.F (.str ru),.F @12,.F (cel p),.F d]=m_refuse_shot [.tup [.int R,.int C],.lst (rec.map bp),cel p]:=λd=>rfl;show((ip (xC 5 _) _ [.F @4,.F (jB fl),.F (.str ru),.F @12,.F (cel p),.un]).bind _)=_;unfold ip xC gv;rw[a,s1]
 by_cases hz:X=[]
 .rw[h_ hz,h_ hz];rfl
 rw[i_ hz,i_ hz];show((ip (yU _) _ [.F @4,.F (jB fl),.F (.str ru),.F @12,.F (cel p),.F (.lst (X.map hidD))]).bind _)=_;unfold ip yU;rw[b,r1]
 by_cases h1:p∉bg R C
 .rw[h_ h1,h_ h1];rfl
 rw[i_ h1,i_ h1]
 by_cases h2:p∈rec.map Prod.fst
 .rw[h_ h2,h_ h2];rfl
 rw[i_ h2,i_ h2];have LS:p∈bg R C:=WA h1;have hL:p∈lQ R C (rec.map Prod.fst):=tI.mpr ⟨LS,h2⟩;obtain⟨us,ks,ds,ci,q1,q2⟩:=EZ R C pl.r4 pl.c5 X hl (λh hh=>(hd h hh).len) (λh hh s hs=>by have:=(hd h hh).sz s hs;omega) rec hr;have q3:=q2 p hL;have on:∀h∈X,∀s∈h,∀q∈s.cs,q∈bg R C:=λh hh s hs=>CB ((hd h hh).sz s hs).1 ((hd h hh).on s hs);rw[JG,MJ _ ci,Nm _ ci,nR,nR]at q3;have e1:(X.map λh=>(h.map (wH (lQ R C (rec.map Prod.fst)) p)).sum)=X.map λh=>if decide (cU h (rec.map Prod.fst++[p]) p=pD)=true then 1 else 0:=UE λh hh=>(w_sum hL h (hd h hh).ap (on h hh)).1;have e2:(X.map λh=>(h.map (wS (lQ R C (rec.map Prod.fst)) p)).sum)=X.map λh=>if decide (cU h (rec.map Prod.fst++[p]) p=oW)=true then 1 else 0:=UE λh hh=>(w_sum hL h (hd h hh).ap (on h hh)).2;rw[e1,e2,sV,sV]at q3;have g:=sL (th:=Th.h) (f:=λenv=>((aa ag (aa cB (aa ay fNil))) env).bind m_parts_in) (g:=λenv=>dR env 4) (env:=[.F @4,.F (jB fl),.F (.str ru),.F @12,.F (cel p),.F (.lst (X.map hidD))]) ((call_v (ai rfl (ai rfl (ai rfl aK)))).trans q1) rfl (fL p) q3;show((yz (bw _) [.F @4,.F (jB fl),.F (.str ru),.F @12,.F (cel p),.F (.lst (X.map hidD))]).bind _)=_;unfold yz;rw[bD g];rfl
def Oo:Rs->D
 | .ok d=>d
 | .error (c,_)=>gM c
theorem Gf(h:m_parts_of [sh,fl,ru,re,c]=some r)(hc:∀k d,r=.error (k,d)->k∈cs_):m__law_told [.tup [sh,fl,ru],re,c]=some (Oo r):=by
 have b:oX (Kq (aa (ar aI ag YS) (aa (ar aI ag YT) (aa (ar aI ag YU) (aa ah (aa aD fNil)))))) m_parts_of [.F (.tup [sh,fl,ru]),.F re,.F c,.F .non,.un]=m_parts_of [sh,fl,ru,re,c]:=rfl;show(((Ez cs_ 4 3 (xC 3 _) [.F (.tup [sh,fl,ru]),.F re,.F c,.F .non,.un]).bind _).bind _)=_;unfold Ez xC;rw[b,h];cases r with
 | ok d=>rfl
 | error z=>
  obtain⟨k,d⟩:=z;show(((if k∈cs_ then _ else none:Option IE)).bind _).bind _=_;rw[h_ (hc k d rfl)]
  rfl
theorem Ey:∀k d,gv R C X sh p=.error (k,d)->k∈cs_:=by
 intro k d h;unfold gv at h;unfold cs_
 split at h
 .cases h;simp
 .split at h
  .cases h;simp
  .split at h
   .cases h;simp
   .cases h
theorem Qz(h:r.length=5):∃a b c d e,r=[a,b,c,d,e]:=by
 match r,h with
 | [a,b,c,d,e],_=>exact⟨a,b,c,d,e,rfl⟩
theorem QW{P:D->Prop}{a b:D}(h1:P a)(h2:P b):∀d∈[a,b],P d:=λd hd=>by
 rcases p_.mp hd with rfl | hd
 .exact h1
 .rw[z_.mp hd];exact h2
theorem QF{P:D->Prop}{a b c:D}(h1:P a)(h2:P b)(h3:P c):∀d∈[a,b,c],P d:=λd hd=>by
 rcases p_.mp hd with rfl | hd
 .exact h1
 .exact QW h2 h3 d hd
theorem He(h:f env=some (.lst xs))(hp:gf xs=true):ar ud f (bO fNil) env=some (.bl !xs.isEmpty):=
 Kt h rfl (JP (by unfold dH gY;omega) (by unfold pl;rw[hp];rfl)) (Ag xs)
abbrev Uc:YO:=[.str j8,.str pD,.str oW]
theorem zc:∀(bs:YO),(∀d∈bs,∃w:Str,d=.str w)->∃ws:Yr,bs=ws.map .str
 | [],_=>⟨[],rfl⟩
 | b::bs,h=>by
  obtain⟨w,rfl⟩:=h b g_;obtain⟨ws,rfl⟩:=zc bs λd hd=>h d (f_ _ hd);exact⟨w::ws,rfl⟩
theorem Ay(c:Int)(R C:Nat)(hR:R<=4)(hC:C<=5)(fl:Yv)(rows:List (List Sh))(hne:rows≠[])(hlen:rows.length<=64000)(hg:∀r∈rows,Hid R C fl r):∃rec:Rec,m__law_record [.int c,.tup [.int R,.int C],.lst (rows.map hidD)]=some @12/\rec.length<=20/\(rec.map Prod.fst).Nodup:=by
 have hpos:0<rows.length:=List.length_pos_iff.mpr hne;obtain⟨r,h1,h2,h3⟩:=wt c [(rows.length:Int),9,4,9,3] (λx hx=>by
  simp only[p_,UL,V5]at hx;rcases hx with rfl | rfl | rfl | rfl | rfl<;>omega) @8
 obtain⟨nu,mn,sp,a,wo,rfl⟩:=Qz h2;have b0:=h3 0 nu rows.length rfl rfl;have b1:=h3 1 mn 9 rfl rfl;have b2:=h3 3 a 9 rfl rfl;have b3:=h3 4 wo 3 rfl rfl;clear h2 h3;obtain⟨m,rfl⟩:=Vf b1.1;have e1:Lq [3,4,5,6,7] (λenv=>((aa ag (aa (bO (aa (bN dM aD) (aa (fC (.int 9)) (aa YW (aa (fC (.int 9)) (aa YV fNil)))))) fNil)) env).bind m__law_drawn) (bU 10 [.int c,.tup [.int R,.int C],.lst (rows.map hidD)])=some (.nx [.F (.int c),.F @4,.F (.lst (rows.map hidD)),.F (.int nu),.F (.int m),.F (.int sp),.F (.int a),.F (.int wo),.un,.un]):=by
  refine Jq (ds:=[.int nu,.int m,.int sp,.int a,.int wo]) ((call_v (ai rfl (ai (Jc (ai (kX rfl) (ai rfl (ai rfl (ai rfl (ai rfl aK)))))) aK))).trans ?_) rfl;rw[c_];exact h1
 obtain⟨⟨c1,c2⟩⟩:Nonempty ((B7 R C).Nodup/\(B7 R C).length<=20):=⟨Fu ⟨R,by omega⟩ ⟨C,by omega⟩⟩;obtain⟨qs,o1,o2⟩:=Eh (c+1) (B7 R C) @1;have hq:qs.length<=20:=by rw[o2.length_eq];exact c2
 have nq:qs.Nodup:=o2.nodup_iff.mpr c1;have nc:(qs.take m).Nodup:=(W2 m qs).nodup nq;have lc:(qs.take m).length<=20:=by rw[VW];omega
 have e2:setF 8 (GX iK (λenv=>((aa (ar addI ag YT) (aa (λenv=>((aa ah fNil) env).bind m__law_sheet_cells) fNil)) env).bind m__law_order) oNone (k6 aV)) [.F (.int c),.F @4,.F (.lst (rows.map hidD)),.F (.int nu),.F (.int m),.F (.int sp),.F (.int a),.F (.int wo),.un,.un]=some (.nx [.F (.int c),.F @4,.F (.lst (rows.map hidD)),.F (.int nu),.F (.int m),.F (.int sp),.F (.int a),.F (.int wo),.F (.lst ((qs.take m).map cel)),.un]):=by
  rw[Xq];exact aW (IX (m:=m) ((call_v (ai ((aU rfl rfl).trans (fH _ _)) (ai ((call_v rfl).trans (xt R C hR hC)) aK))).trans o1) rfl)
 obtain⟨rd,i1,i2⟩:=Ff (xs:=rows.map hidD) (i:=nu) b0.1 (by rw[c_];exact b0.2);obtain⟨B9,hr,rfl⟩:=t_.mp i2;have gd:=hg B9 hr;have an:=iL B9 (λs hs=>by have:=gd.sz s hs;omega) (by have:=gd.len;omega) gd.ap (qs.take m) @1 nc;have e3:setO 9 (λenv=>((aa (ar aI aD ay) (aa er fNil)) env).bind m__law_answers) [.F (.int c),.F @4,.F (.lst (rows.map hidD)),.F (.int nu),.F (.int m),.F (.int sp),.F (.int a),.F (.int wo),.F (.lst ((qs.take m).map cel)),.un]=some (.nx [.F (.int c),.F @4,.F (.lst (rows.map hidD)),.F (.int nu),.F (.int m),.F (.int sp),.F (.int a),.F (.int wo),.F (.lst ((qs.take m).map cel)),.O (.L ((walk B9 [] (qs.take m)).map .str))]):=gL ((call_v (ai (fj rfl rfl i1) (ai rfl aK))).trans an);have wl:((walk B9 [] (qs.take m)).map D.str).length=(qs.take m).length:=by rw[c_,kY]
 have ws:∀d∈(walk B9 [] (qs.take m)).map D.str,∃w:Str,d=.str w:=λd hd=>by obtain⟨w,_,rfl⟩:=t_.mp hd;exact⟨w,rfl⟩
 generalize hA:(walk B9 [] (qs.take m)).map D.str=as at e3 wl ws;clear hA an;generalize hQ:qs.take m=cs at *;have fin:∀bs:YO,(∀d∈bs,∃w:Str,d=.str w)->(aE (vp 9) (bw (ar Km er iB))) [.F (.int c),.F @4,.F (.lst (rows.map hidD)),.F (.int nu),.F (.int m),.F (.int sp),.F (.int a),.F (.int wo),.F (.lst (cs.map cel)),.O (.L bs)]=some (.rt (.lst (pairs (cs.map cel) bs))):=λbs hb=>by
  refine(aq (show vp 9 _=some (.nx [.F (.int c),.F @4,.F (.lst (rows.map hidD)),.F (.int nu),.F (.int m),.F (.int sp),.F (.int a),.F (.int wo),.F (.lst (cs.map cel)),.F (.lst bs)])from rfl)).trans (bD ((aU rfl rfl).trans ?_));show(if(cs.map cel).length<=1000000 then _ else _)=_;rw[h_ (by rw[c_];omega)]
 have done:∀bs:YO,(∀d∈bs,∃w:Str,d=.str w)->bs.length=cs.length->∃rec:Rec,pairs (cs.map cel) bs=rec.map bp/\rec.length<=20/\(rec.map Prod.fst).Nodup:=λbs hb hbl=>by
  obtain⟨ws,rfl⟩:=zc bs hb;rw[c_]at hbl;refine⟨cs.zip ws,rq cs ws,by rw[List.length_zip];omega,?_⟩;rw[List.map_fst_zip @1];exact nc
 have t1:fB (ar eJ cB YS) [.F (.int c),.F @4,.F (.lst (rows.map hidD)),.F (.int nu),.F (.int m),.F (.int sp),.F (.int a),.F (.int wo),.F (.lst (cs.map cel)),.O (.L as)]=some (sp==0):=cA ((aU rfl rfl).trans (BX _ _));have t2:fB (ar ud er (bO fNil)) [.F (.int c),.F @4,.F (.lst (rows.map hidD)),.F (.int nu),.F (.int m),.F (.int sp),.F (.int a),.F (.int wo),.F (.lst (cs.map cel)),.O (.L as)]=some (!(cs.map cel).isEmpty):=cA (He rfl (mT cs));have t:=r8 t1 λ_=>t2;cases hb:((sp==0)&&!(cs.map cel).isEmpty)with
 | false=>
  rw[hb]at t;obtain⟨rec,q1,q2,q3⟩:=done as ws wl;exact⟨rec,by rw[<- q1];exact aZ ((aq e1).trans ((aq e2).trans ((aq e3).trans ((aq ((bC t).trans rfl)).trans (fin as ws))))),q2,q3⟩
 | true=>
  rw[hb]at t;have O':0<cs.length:=by
   cases cs with
   | nil=>simp at hb
   | cons _ _=>simp
  obtain⟨x,x1,x2⟩:=Ff (xs:=Uc) (i:=wo) b3.1 (by simp;omega);have xs:∃w:Str,x=.str w:=QF (P:=λd=>∃w:Str,d=.str w) ⟨_,rfl⟩ ⟨_,rfl⟩ ⟨_,rfl⟩ x x2;have hm:=V2 a (show(((cs.map cel).length:Nat):Int)≠0 by rw[c_];omega);have hm2:=VG a (show(0:Int)<(((cs.map cel).length:Nat):Int) by rw[c_];omega);have si:=zp (i:=9) (fk:=ar modI cE (bN dM er)) (fe:=ar aI (bO (aa (fC (.str "water")) (aa (fC (.str "hit")) (aa (fC (.str "sunk")) fNil)))) dg) (env:=[.F (.int c),.F @4,.F (.lst (rows.map hidD)),.F (.int nu),.F (.int m),.F (.int sp),.F (.int a),.F (.int wo),.F (.lst (cs.map cel)),.O (.L as)]) (ds:=as) (d:=x) (fj rfl rfl x1) rfl ((aU rfl (kX rfl)).trans (iQ (by rw[c_];omega))) (Ew hm (by rw[wl];rw[c_]at hm2 ⊢;exact hm2));have hs:∀d∈as.set (a%(((cs.map cel).length:Nat):Int)).toNat x,∃w:Str,d=.str w:=λd hd=>by
   rcases List.mem_or_eq_of_mem_set hd with h | h
   .exact ws d h
   .rw[h];exact xs
  obtain⟨rec,q1,q2,q3⟩:=done _ hs (by rw[Xt];exact wl);exact⟨rec,by rw[<- q1];exact aZ ((aq e1).trans ((aq e2).trans ((aq e3).trans ((aq ((cq t).trans si)).trans (fin _ hs))))),q2,q3⟩
theorem ND:m__law_only [.str "hiding"]=some (gM QP):=by rfl
theorem M0:m__law_only [.str "cell"]=some (gM QN):=by rfl
theorem Ni:m__law_only [.str "shot"]=some (gM QV):=by rfl
theorem rk:∀ws:Yr,qy (ws.map .str)=some ws
 | []=>rfl
 | w::ws=>by show(qy (ws.map .str)).map _=_;rw[rk ws];rfl
theorem Eg(h1:f env=some (.lst (ws.map .str)))(h2:g env=some (.str w)):ar Fv f g env=some (.int (xp w ws)):=by
 rw[aU h1 h2];show(qy (ws.map .str)).bind _=_;rw[rk];rfl
theorem nS(f:α->Str)(w:Str)(xs:List α):xp w (xs.map f)=((xs.filter λh=>decide (f h=w)).length:Nat):=by
 unfold xp;rw[List.filter_map,c_];have:((λx=>x==w) ∘ f)=λh=>decide (f h=w):=by
  funext x;rw[VS,UD];simp
 rw[this]
theorem qK(sh:List Pt)(p:Pt):∀h:List Sh,cU h sh p=j8\/cU h sh p=pD\/cU h sh p=oW
 | []=>.inl rfl
 | s::h=>by
  rw[cU]
  by_cases hp:p∈s.cs
  .rw[h_ hp]
   by_cases hq:∀q∈s.cs,q∈sh
   .rw[h_ hq];exact .inr (.inr rfl)
   .rw[i_ hq];exact .inr (.inl rfl)
  .rw[i_ hp];exact qK sh p h
theorem rE(f:List Sh->Str)(hf:∀h,f h=j8\/f h=pD\/f h=oW):∀Y:List (List Sh),(Y.filter λh=>decide (f h=j8)).length+(Y.filter λh=>decide (f h=pD)).length+(Y.filter λh=>decide (f h=oW)).length=Y.length
 | []=>rfl
 | h::Y=>by
  have ih:=rE f hf Y;rw[H_,H_,H_,v_];have n1:decide (j8=pD)=false:=by decide
  have n2:decide (j8=oW)=false:=by decide
  have n3:decide (pD=j8)=false:=by decide
  have n4:decide (pD=oW)=false:=by decide
  have n5:decide (oW=j8)=false:=by decide
  have n6:decide (oW=pD)=false:=by decide
  have y1:decide (j8=j8)=true:=by decide
  have y2:decide (pD=pD)=true:=by decide
  have y3:decide (oW=oW)=true:=by decide
  rcases hf h with e | e | e
  .rw[e,y1,n1,n2,h_ rfl,i_ @8,i_ @8,v_];omega
  .rw[e,n3,y2,n4,h_ rfl,i_ @8,i_ @8,v_];omega
  .rw[e,n5,n6,y3,h_ rfl,i_ @8,i_ @8,v_];omega
theorem KB(hR:R<=4)(hC:C<=5)(Y:List (List Sh))(hd:∀h∈Y,Hid R C fl h)(hl:Y.length<=64000)(sh:List Pt)(hs:sh.length<=500)(nd:sh.Nodup)(p:Pt):m__law_due [.tup [.int R,.int C],.lst (Y.map hidD),.lst (sh.map cel),cel p]=some (Oo (gv R C Y sh p)):=by
 have t1:fB (ar eJ ah (bO fNil)) [.F @4,.F (.lst (Y.map hidD)),.F (.lst (sh.map cel)),.F (cel p),.un]=some (Y.map hidD).isEmpty:=cA (zC rfl (vM Y));have t2:fB (ar (j7 true) ay (λenv=>((aa ag fNil) env).bind m__law_sheet_cells)) [.F @4,.F (.lst (Y.map hidD)),.F (.lst (sh.map cel)),.F (cel p),.un]=some (!decide (p∈bg R C)):=cA (N4 rfl ((call_v (ai rfl aK)).trans (xt R C hR hC)) (zP p) (tf p _) (by rw[yE,mT];rfl));have t3:fB (ar (j7 false) ay aD) [.F @4,.F (.lst (Y.map hidD)),.F (.lst (sh.map cel)),.F (cel p),.un]=some (decide (p∈sh)):=cA (nL rfl rfl);unfold gv
 by_cases hz:Y=[]
 .subst hz;rw[h_ rfl];exact aZ (dI ((cq t1).trans (bD ((call_v (ai rfl aK)).trans ND))))
 rw[i_ hz];have q1:(Y.map hidD).isEmpty=false:=by cases Y with | nil=>exact absurd rfl hz | cons _ _=>rfl
 rw[q1]at t1
 by_cases h1:p∉bg R C
 .rw[h_ h1];rw[G_ h1]at t2;exact aZ ((aq ((bC t1).trans rfl)).trans (dI ((cq t2).trans (bD ((call_v (ai rfl aK)).trans M0)))))
 rw[i_ h1];rw[y_ (WA h1)]at t2
 by_cases h2:p∈sh
 .rw[h_ h2];rw[y_ h2]at t3;exact aZ ((aq ((bC t1).trans rfl)).trans ((aq ((bC t2).trans rfl)).trans (dI ((cq t3).trans (bD ((call_v (ai rfl aK)).trans Ni))))))
 rw[i_ h2];rw[G_ h2]at t3;have nd2:(sh++[p]).Nodup:=UQ.mpr ⟨nd,Vv _ _,λa ha b hb e=>by rw[z_.mp hb]at e;exact h2 (e▸ha)⟩;have g1:=bY (t:=bq 0) (k:=aF (ar aI (λenv=>((aa ag (aa (ar kS ah (bO (aa aD fNil))) fNil)) env).bind m__law_answers) (bN jI YT))) (env:=[.un,.F (.lst (sh.map cel)),.F (cel p)]) hidD (λh=>.str (cU h (sh++[p]) p)) Y λh hh=>by
  refine⟨[.F (hidD h),.F (.lst (sh.map cel)),.F (cel p)],rfl,dk ?_⟩;have hq:=hd h hh;have la:=iL h (λs hs=>by have:=hq.sz s hs;omega) (by have:=hq.len;omega) hq.ap (sh++[p]) (by rw[u_,UT];omega) nd2;rw[lS,J_ (f:=D.str),U0]at la;have ad:ar kS ah (bO (aa aD fNil)) [.F (hidD h),.F (.lst (sh.map cel)),.F (cel p)]=some (.lst ((sh++[p]).map cel)):=by
   rw[J_];exact rQ rfl rfl (by rw[c_];show sh.length+1<=16000000;omega)
  exact fj (i:=-1) ((call_v (ai rfl (ai ad aK))).trans la) rfl (L2.vb _ _)
 have c1:aM (cx ah) [0] (bq 0) YX (aF (ar aI (λenv=>((aa ag (aa (ar kS ah (bO (aa aD fNil))) fNil)) env).bind m__law_answers) (bN jI YT))) 1 [2,3] [.F @4,.F (.lst (Y.map hidD)),.F (.lst (sh.map cel)),.F (cel p),.un]=some (.lst ((Y.map λh=>cU h (sh++[p]) p).map .str)):=by
  rw[O_];exact a9 (be rfl) rfl g1 (by rw[c_];omega)
 have e3:=rE (λh=>cU h (sh++[p]) p) (λh=>qK _ _ h) Y;have ew:(Y.length-(Y.filter λh=>decide (cU h (sh++[p]) p=pD)).length-(Y.filter λh=>decide (cU h (sh++[p]) p=oW)).length:Int)=xp j8 (Y.map λh=>cU h (sh++[p]) p):=by
  rw[nS];omega
 rw[ew,<- nS,<- nS];exact aZ ((aq ((bC t1).trans rfl)).trans ((aq ((bC t2).trans rfl)).trans ((aq ((bC t3).trans rfl)).trans ((aq (aW c1)).trans (bD (kf (ai (Eg rfl rfl) (ai (Eg rfl rfl) (ai (Eg rfl rfl) aK)))))))))
theorem AO(h:X.Perm Y)(sh:List Pt)(p:Pt):gv R C X sh p=gv R C Y sh p:=by
 unfold gv;rw[h.length_eq,(h.filter _).length_eq,(h.filter _).length_eq]
 by_cases e:Y=[]
 .rw[h_ e,h_ (by rw[e]at h;exact h.eq_nil)]
 .rw[i_ e,i_ λz=>e (by rw[z]at h;exact h.symm.eq_nil)]
theorem Fc(h:List Sh)(hd:Hid R C fl h)(rec:Rec)(hr:rec.length<=500)(nd:(rec.map Prod.fst).Nodup):m__law_fits [hidD h,.lst (rec.map bp)]=some (.bl (iu h rec)):=by
 have c0:aM (cx ah) [0] (bq 0) YX (aF (ar aI ag YS)) 1 [] [.F (hidD h),.F @12]=some (.lst ((rec.map Prod.fst).map cel)):=by
  rw[O_];exact a9 (be rfl) rfl (bY bp (λx=>cel x.1) rec λx _=>⟨[.F (bp x)],rfl,dk (oy (i:=0) (ds:=[cel x.1,.str x.2]) rfl rfl rfl)⟩) (by rw[c_];omega)
 have c1:aM (cx ah) [0] (bq 0) YX (aF (ar aI ag YT)) 1 [] [.F (hidD h),.F @12]=some (.lst ((rec.map Prod.snd).map .str)):=by
  rw[O_];exact a9 (be rfl) rfl (bY bp (λx=>.str x.2) rec λx _=>⟨[.F (bp x)],rfl,dk (oy (i:=1) (ds:=[cel x.1,.str x.2]) rfl rfl rfl)⟩) (by rw[c_];omega)
 have la:=iL h (λs hs=>by have:=hd.sz s hs;omega) (by have:=hd.len;omega) hd.ap (rec.map Prod.fst) (by rw[c_];omega) nd;exact aZ (bD (G0 ((call_v (ai rfl (ai c0 aK))).trans la) c1 (Ik (uP _) (by rw[nr,nr];rfl)) (Aa _ _)))
theorem Lp(bs:List Bool):gf (bs.map .bl)=true:=kg bs λb _=>by unfold pl;rfl
theorem D0(rec:Rec):gf (rec.map bp)=true:=kg rec λx _=>rfl
theorem GZ(x:Pt×Str):dH (bp x)<=2:=mY (n:=1) λd hd=>by
 rcases p_.mp hd with rfl | hd
 .exact mY (n:=0) λd hd=>by
   rcases p_.mp hd with rfl | hd
   .rw[fE];exact m_ _
   .cases z_.mp hd;rw[fE];exact m_ _
 .cases z_.mp hd;rw[kj];omega
theorem Fy(rec:Rec):dH @12<=60:=B_ (tE (n:=2) λd hd=>by obtain⟨x,_,rfl⟩:=t_.mp hd;exact GZ x) @2
theorem Hf(rec:Rec):pl @12=true:=by unfold pl;exact D0 rec
theorem wc(h1:f env=some d)(h2:g env=some d)(hd:dH d<=60)(hp:pl d=true):ar ud f g env=some (.bl false):=Kt h1 h2 (Ik hd (by rw[hp];rfl)) (uR d hp)
theorem jN(c:Str):dH (gM c)<=60/\pl (gM c)=true:=by
 unfold gM;exact⟨B_ (tE (n:=0) λd hd=>by obtain⟨b,_,rfl⟩:=t_.mp hd;rw[Lf];exact m_ _) @2,by unfold pl;exact Lp _⟩
theorem A2(R C:Nat)(X:List (List Sh))(sh:List Pt)(p:Pt):dH (Oo (gv R C X sh p))<=60/\pl (Oo (gv R C X sh p))=true:=by
 unfold gv
 split
 .exact jN _
 .split
  .exact jN _
  .split
   .exact jN _
   .refine⟨B_ (mY (n:=0) λd hd=>?_) @2,rfl⟩;simp only[p_,UL,V5]at hd;rcases hd with rfl | rfl | rfl<;>rw[fE]<;>exact m_ _
abbrev eL(sc:Slot)(c:Int)(R C:Nat)(fl:Yv)(ru:Str)(rows:List (List Sh))(k:Int)(rec:Rec)(Y:List (List Sh))(dW jl gg ei j6:Slot):En:=
 [sc,.F (.int c),.F @4,.F (jB fl),.F (.str ru),.F (.lst (rows.map hidD)),.F (.int k),.F @12,.F (.lst (Y.map hidD)),.F (.lst ((rec.map Prod.fst).map cel)),dW,jl,gg,ei,j6]
theorem Ie(pl:PL R C fl ru)(sc:Slot)(c k:Int)(rows:List (List Sh))(rec:Rec)(hr:rec.length<=20)(nd:(rec.map Prod.fst).Nodup)(p:Pt)(dW jl ei j6:Slot) :
  ∃Ao FZ,tU (eL sc c R C fl ru rows k rec ((bA R C ru fl fl.length).filter λh=>iu h rec) dW jl (.F (cel p)) ei j6)=some (.nx (eL sc c R C fl ru rows k rec ((bA R C ru fl fl.length).filter λh=>iu h rec) dW jl (.F (cel p)) Ao FZ)):=by
 obtain⟨X,x1,x2⟩:=pl.fitting rec @1 nd;have hY:∀h∈(bA R C ru fl fl.length).filter (λh=>iu h rec),Hid R C fl h:=λh hh=>pl.hid (UN.mp hh).1;have P5:((bA R C ru fl fl.length).filter λh=>iu h rec).length<=64000:=B_ (Q_ _ _) pl.len;generalize (bA R C ru fl fl.length).filter (λh=>iu h rec)=Y at x2 hY P5 ⊢;have po:=yg pl rec @1 x1 (λh hh=>hY h (x2.mem_iff.mp hh)) (by rw[x2.length_eq];exact P5) p;have to:=Gf po Ey;rw[AO x2]at to;have du:=KB pl.r4 pl.c5 Y hY P5 (rec.map Prod.fst) (by rw[c_];omega) nd p;have go:=A2 R C Y (rec.map Prod.fst) p;generalize Oo (gv R C Y (rec.map Prod.fst) p)=d at to du go;refine⟨.F @12,.F d,(aq (aW (GP rfl))).trans ((aq (aW ((call_v (ai (kf (ai rfl (ai rfl (ai rfl aK)))) (ai rfl (ai rfl aK)))).trans to))).trans ((bC ?_).trans rfl))⟩;exact FD (p:=false) (q:=false) (cA (wc rfl ((call_v (ai rfl (ai rfl (ai rfl (ai rfl aK))))).trans du) go.1 go.2)) λ_=>cA (wc rfl rfl (Fy rec) (Hf rec))
theorem Eo(pl:PL R C fl ru)(hne:bA R C ru fl fl.length≠[])(sc:Slot)(c k:Int)(s7 s8 s9 dW jl gg ei j6:Slot) :
  ∃t7 t8 t9 Cd F' FY Ao FZ,tJ [sc,.F (.int c),.F @4,.F (jB fl),.F (.str ru),.F (.lst ((bA R C ru fl fl.length).map hidD)),.F (.int k),s7,s8,s9,dW,jl,gg,ei,j6]=some (.nx [sc,.F (.int c),.F @4,.F (jB fl),.F (.str ru),.F (.lst ((bA R C ru fl fl.length).map hidD)),.F (.int k),t7,t8,t9,Cd,F',FY,Ao,FZ]):=by
 obtain⟨rec,r1,r2,r3⟩:=Ay (c+k) R C pl.r4 pl.c5 fl (bA R C ru fl fl.length) hne pl.len λh hh=>pl.hid hh;obtain⟨z,hz⟩:=rR c 900 @2 @2;have p15:powI (.int 10) (.int 15)=some (.int (10 ^ 15)):=oF (oz @2 @2) @2 @2;have c9:aM (cx dg) [0] (bq 0) YX (aF (ar aI ag YS)) 1 [] [sc,.F (.int c),.F @4,.F (jB fl),.F (.str ru),.F (.lst ((bA R C ru fl fl.length).map hidD)),.F (.int k),.F @12,.F (.lst (((bA R C ru fl fl.length).filter λh=>iu h rec).map hidD)),s9,dW,jl,gg,ei,j6]=some (.lst ((rec.map Prod.fst).map cel)):=by
  rw[O_];exact a9 (be rfl) rfl (bY bp (λx=>cel x.1) rec λx _=>⟨[.F (bp x)],rfl,dk (oy (i:=0) (ds:=[cel x.1,.str x.2]) rfl rfl rfl)⟩) (by rw[c_];omega)
 have T7:ar addI YT (ar modI (λenv=>((aa ah (aa (fC (.int 900)) fNil)) env).bind m__law_stir) (ar powI (fC (.int 10)) (fC (.int 15)))) (eL sc c R C fl ru (bA R C ru fl fl.length) k rec ((bA R C ru fl fl.length).filter λh=>iu h rec) dW jl gg ei j6)=some (.int (1+z%10 ^ 15)):=(aU rfl ((aU ((call_v (ai rfl (ai rfl aK))).trans hz) ((aU rfl rfl).trans p15)).trans (iQ @2))).trans (fH _ _);generalize 1+z%10 ^ 15=Ce at T7;have T8:bO (aa (bj (aa (bN jI YT) (aa YS fNil))) (aa (bj (aa YS (aa (ar aI aD YT) fNil))) (aa (bj (aa (ar aI aD YS) (aa YS fNil))) (aa (bj (aa (ar subI YS iR) (aa iR fNil))) (aa (bj (aa (ar subI (ar aI aD YS) YT) (aa (ar subI YS YT) fNil))) fNil))))) (eL sc c R C fl ru (bA R C ru fl fl.length) k rec ((bA R C ru fl fl.length).filter λh=>iu h rec) (.F (.int Ce)) jl gg ei j6)=some (.lst ([((-1:Int),(0:Int)),(0,(C:Int)),((R:Int),0),(0-Ce,Ce),((R:Int)-1,0-1)].map cel)):=rfl;obtain⟨⟨c1,c2⟩⟩:Nonempty ((B7 R C).Nodup/\(B7 R C).length<=20):=⟨Fu ⟨R,by have:=pl.r4;omega⟩ ⟨C,by have:=pl.c5;omega⟩⟩;have mE:([((-1:Int),(0:Int)),(0,(C:Int)),((R:Int),0),(0-Ce,Ce),((R:Int)-1,0-1)]:List Pt).length=5:=rfl;generalize ([((-1:Int),(0:Int)),(0,(C:Int)),((R:Int),0),(0-Ce,Ce),((R:Int)-1,0-1)]:List Pt)=sp at T8 mE;have it:cx (ar kS (λenv=>((aa aD fNil) env).bind m__law_sheet_cells) nM) (eL sc c R C fl ru (bA R C ru fl fl.length) k rec ((bA R C ru fl fl.length).filter λh=>iu h rec) (.F (.int Ce)) (.F (.lst (sp.map cel))) gg ei j6)=some ((B7 R C++sp).map cel):=by
  rw[J_];exact be (rQ ((call_v (ai rfl aK)).trans (xt R C pl.r4 pl.c5)) rfl (by rw[c_,c_];omega))
 obtain⟨e2,l1,FY,Ao,FZ,rfl⟩:=kb (t:=bq 12) (body:=tU) (λe=>∃gg ei j6,e=eL sc c R C fl ru (bA R C ru fl fl.length) k rec ((bA R C ru fl fl.length).filter λh=>iu h rec) (.F (.int Ce)) (.F (.lst (sp.map cel))) gg ei j6) ((B7 R C++sp).map cel) (eL sc c R C fl ru (bA R C ru fl fl.length) k rec ((bA R C ru fl fl.length).filter λh=>iu h rec) (.F (.int Ce)) (.F (.lst (sp.map cel))) gg ei j6) ⟨gg,ei,j6,rfl⟩ λd hd e az=>by
  obtain⟨gg,ei,j6,he⟩:=az;subst he;obtain⟨p,_,rfl⟩:=t_.mp hd;obtain⟨Ao,FZ,u⟩:=Ie pl sc c k (bA R C ru fl fl.length) rec r2 r3 p (.F (.int Ce)) (.F (.lst (sp.map cel))) ei j6;exact⟨_,fu (e0:=eL sc c R C fl ru (bA R C ru fl fl.length) k rec ((bA R C ru fl fl.length).filter λh=>iu h rec) (.F (.int Ce)) (.F (.lst (sp.map cel))) (.F (cel p)) ei j6) rfl u,_,_,_,rfl⟩
 exact⟨_,_,_,_,_,_,_,_,(aq (aW ((call_v (ai ((aU rfl rfl).trans (fH _ _)) (ai rfl (ai rfl aK)))).trans r1))).trans ((aq (aW (a9 (be rfl) rfl (cQ hidD hidD (λh=>iu h rec) (bA R C ru fl fl.length) λh hh=>⟨[.F (hidD h),.F @12],rfl,cA ((call_v (ai rfl (ai rfl aK))).trans (Fc h (pl.hid hh) rec @1 r3)),λ_=>rfl⟩) (by rw[c_];have:=Q_ (λh=>iu h rec) (bA R C ru fl fl.length);have:=pl.len;omega)))).trans ((aq (aW c9)).trans ((aq (aW T7)).trans ((aq (aW T8)).trans ((cf it).trans l1)))))⟩
theorem Kg(sc:Slot)(c:Int)(s2 s3 s4 s5 s6 s7 s8 s9 dW jl gg ei j6:Slot) :
  ∃t2 t3 t4 t5 t6 t7 t8 t9 Cd F' FY Ao FZ,tN [sc,.F (.int c),s2,s3,s4,s5,s6,s7,s8,s9,dW,jl,gg,ei,j6]=some (.nx [sc,.F (.int c),t2,t3,t4,t5,t6,t7,t8,t9,Cd,F',FY,Ao,FZ]):=by
 obtain⟨R,C,fl,ru,p1,pl,hne⟩:=AK c;have start:B8 [2,3,4,5] (λenv=>((aa ah fNil) env).bind m__law_played) [sc,.F (.int c),s2,s3,s4,s5,s6,s7,s8,s9,dW,jl,gg,ei,j6]=some (.nx [sc,.F (.int c),.F @4,.F (jB fl),.F (.str ru),.F (.lst ((bA R C ru fl fl.length).map hidD)),s6,s7,s8,s9,dW,jl,gg,ei,j6]):=nW ((call_v (ai rfl aK)).trans p1) rfl;obtain⟨e2,l1,t6,t7,t8,t9,Cd,F',FY,Ao,FZ,rfl⟩:=kb (t:=bq 6) (body:=tJ) (λe=>∃s6 s7 s8 s9 dW jl gg ei j6,e=[sc,.F (.int c),.F @4,.F (jB fl),.F (.str ru),.F (.lst ((bA R C ru fl fl.length).map hidD)),s6,s7,s8,s9,dW,jl,gg,ei,j6]) (aR 0 2) [sc,.F (.int c),.F @4,.F (jB fl),.F (.str ru),.F (.lst ((bA R C ru fl fl.length).map hidD)),s6,s7,s8,s9,dW,jl,gg,ei,j6] ⟨_,_,_,_,_,_,_,_,_,rfl⟩ λd hd e az=>by
  obtain⟨s6,s7,s8,s9,dW,jl,gg,ei,j6,he⟩:=az;subst he;rw[Dt]at hd;obtain⟨i,_,rfl⟩:=t_.mp hd;obtain⟨t7,t8,t9,Cd,F',FY,Ao,FZ,u⟩:=Eo pl hne sc c (i:Int) s7 s8 s9 dW jl gg ei j6;exact⟨_,fu (e0:=[sc,.F (.int c),.F @4,.F (jB fl),.F (.str ru),.F (.lst ((bA R C ru fl fl.length).map hidD)),.F (.int (i:Int)),s7,s8,s9,dW,jl,gg,ei,j6]) rfl u,_,_,_,_,_,_,_,_,_,rfl⟩
 exact⟨_,_,_,_,_,_,_,_,_,_,_,_,_,(aq start).trans ((cf (ek (n:=2) rfl @2)).trans l1)⟩
theorem law_true(ns:Yw)(hl:ns.length<=63):m_law [.lst (ns.map .int)]=some (.bl true):=by
 obtain⟨e2,g1,t1,t2,t3,t4,t5,t6,t7,t8,t9,Cd,F',FY,Ao,FZ,rfl⟩:=kb (t:=bq 1) (body:=tN) (λe=>∃s1 s2 s3 s4 s5 s6 s7 s8 s9 dW jl gg ei j6,e=[.F (.lst (ns.map .int)),s1,s2,s3,s4,s5,s6,s7,s8,s9,dW,jl,gg,ei,j6]) ((0::ns.take 3).map .int) (bU 15 [.lst (ns.map .int)]) ⟨.un,.un,.un,.un,.un,.un,.un,.un,.un,.un,.un,.un,.un,.un,rfl⟩ λd hd e az=>by
  obtain⟨s1,s2,s3,s4,s5,s6,s7,s8,s9,dW,jl,gg,ei,j6,he⟩:=az;subst he;obtain⟨c,_,rfl⟩:=t_.mp hd;obtain⟨t2,t3,t4,t5,t6,t7,t8,t9,Cd,F',FY,Ao,FZ,u⟩:=Kg (.F (.lst (ns.map .int))) c s2 s3 s4 s5 s6 s7 s8 s9 dW jl gg ei j6;exact⟨_,fu (e0:=[.F (.lst (ns.map .int)),.F (.int c),s2,s3,s4,s5,s6,s7,s8,s9,dW,jl,gg,ei,j6]) rfl u,_,_,_,_,_,_,_,_,_,_,_,_,_,_,rfl⟩
 refine aZ ((aq ((cf (be ?_)).trans g1)).trans rfl);exact(rQ (xs:=[.int 0]) (ys:=(ns.map .int).take 3) rfl (IX (m:=3) rfl rfl) (by simp;omega)).trans (by rw[<- Xq];rfl)
end K13
namespace K13
open PySem PySem.Spec PyProof.Rows L2 Mi Xc
abbrev pg:YB:=PySem.Challenge.pw_fleethide_k13_parts_of_a_shot
variable [Th]
def gt(n:Nat):YJ:=pg.main.body.getD n (.Pass ⟨0,0,0,0⟩)
def st__law_stir:=gt 43
def st__law_drawn:=gt 44
def st__law_game:=gt 52
def st__law_ships:=gt 48
def st__law_cells:=gt 47
def st__law_halo:=gt 49
def st__law_free:=gt 51
def st__law_all:=gt 50
def st__law_played:=gt 53
def st__law_order:=gt 57
def st__law_sheet_cells:=gt 56
def st__law_answers:=gt 54
def st__law_record:=gt 58
def st__law_fits:=gt 55
def st_all_cells:=gt 19
def st_is_tuple_of:=gt 17
def st_is_whole:=gt 15
def st_is_size:=gt 16
def st_is_cell:=gt 18
def st_is_ship:=gt 20
def st_ships_of:=gt 21
def st_cells_of:=gt 22
def st_answer_to:=gt 33
def st_answers_of:=gt 32
def st_shot_cells:=gt 30
def st_fits:=gt 34
def st_ship_fits:=gt 35
def st_rows_between:=gt 23
def st_columns_between:=gt 24
def st_keep:=gt 25
def st_may_follow:=gt 26
def st_hidings_among:=gt 28
def st_all_fitting:=gt 36
def st_some_fitting:=gt 37
def st_refuse_shot:=gt 41
def st_unshot_cells:=gt 31
def st_ship_counts:=gt 38
def st_parts_in:=gt 39
def st_parts_of:=gt 40
def st__law_told:=gt 59
def st__law_only:=gt 46
def st__law_due:=gt 60
def st_law:=gt 61
structure Tx(W:Wd):Prop where
 z_ValueError:W.mg "ValueError"=none
 z_all:W.mg "all"=none
 z_bool:W.mg "bool"=none
 z_enumerate:W.mg "enumerate"=none
 z_int:W.mg "int"=none
 z_isinstance:W.mg "isinstance"=none
 z_len:W.mg "len"=none
 z_list:W.mg "list"=none
 z_max:W.mg "max"=none
 z_min:W.mg "min"=none
 z_range:W.mg "range"=none
 z_set:W.mg "set"=none
 z_sorted:W.mg "sorted"=none
 z_sum:W.mg "sum"=none
 z_tuple:W.mg "tuple"=none
 z_zip:W.mg "zip"=none
 e_GREATEST:∃v u,W.mg "GREATEST"=some u/\RelV v u/\∀Z,Rep W.K Z o7 v
 e_WAYS:∃v u,W.mg "WAYS"=some u/\RelV v u/\∀Z,Rep W.K Z oh v
 hw:Th.h=hashStr W.w
section
variable {W:Wd}
abbrev fM(W:Wd):Prop:=W.Q 1 "_law_stir" 2 .cl m__law_stir
abbrev hG(W:Wd):Prop:=W.Q 2 "_law_drawn" 2 .nw m__law_drawn
abbrev ma(W:Wd):Prop:=W.Q 3 "_law_game" 1 .cl m__law_game
abbrev ko(W:Wd):Prop:=W.Q 1 "_law_ships" 2 .nw m__law_ships
abbrev eD(W:Wd):Prop:=W.Q 1 "_law_cells" 1 .nw m__law_cells
abbrev mr(W:Wd):Prop:=W.Q 2 "_law_halo" 2 .nm m__law_halo
abbrev mv(W:Wd):Prop:=W.Q 1 "_law_free" 2 .cl m__law_free
abbrev og(W:Wd):Prop:=W.Q 3 "_law_all" 3 .nw m__law_all
abbrev jD(W:Wd):Prop:=W.Q 4 "_law_played" 1 .cl m__law_played
abbrev kJ(W:Wd):Prop:=W.Q 2 "_law_order" 2 .nw m__law_order
abbrev ck(W:Wd):Prop:=W.Q 1 "_law_sheet_cells" 1 .nw m__law_sheet_cells
abbrev dB(W:Wd):Prop:=W.Q 2 "_law_answers" 2 .nw m__law_answers
abbrev jy(W:Wd):Prop:=W.Q 3 "_law_record" 3 .cl m__law_record
abbrev mB(W:Wd):Prop:=W.Q 3 "_law_fits" 2 .cl m__law_fits
abbrev iH(W:Wd):Prop:=W.Q 1 "all_cells" 1 .nw m_all_cells
abbrev fP(W:Wd):Prop:=W.Q 1 "is_tuple_of" 2 .cl m_is_tuple_of
abbrev jU(W:Wd):Prop:=W.Q 1 "is_whole" 1 .cl m_is_whole
abbrev qN(W:Wd):Prop:=W.Q 2 "is_size" 1 .cl m_is_size
abbrev lE(W:Wd):Prop:=W.Q 2 "is_cell" 2 .cl m_is_cell
abbrev rD(W:Wd):Prop:=W.Q 3 "is_ship" 2 .cl m_is_ship
abbrev oG(W:Wd):Prop:=W.Q 4 "ships_of" 2 .nw m_ships_of
abbrev eN(W:Wd):Prop:=W.Q 1 "cells_of" 1 .nw m_cells_of
abbrev mj(W:Wd):Prop:=W.Q 1 "answer_to" 3 .cl m_answer_to
abbrev ky(W:Wd):Prop:=W.Q 2 "answers_of" 2 .nw m_answers_of
abbrev eF(W:Wd):Prop:=W.Q 1 "shot_cells" 1 .nw m_shot_cells
abbrev Cn(W:Wd):Prop:=W.Q 3 "fits" 2 .cl m_fits
abbrev l'(W:Wd):Prop:=W.Q 4 "ship_fits" 2 .cl m_ship_fits
abbrev iC(W:Wd):Prop:=W.Q 1 "rows_between" 2 .cl m_rows_between
abbrev fD(W:Wd):Prop:=W.Q 1 "columns_between" 2 .cl m_columns_between
abbrev Dj(W:Wd):Prop:=W.Q 2 "keep" 3 .cl m_keep
abbrev kH(W:Wd):Prop:=W.Q 3 "may_follow" 3 .cl m_may_follow
abbrev ie(W:Wd):Prop:=W.Q 7 "hidings_among" 2 .nw ib
abbrev jC(W:Wd):Prop:=W.Q 8 "all_fitting" 4 .nw m_all_fitting
abbrev iS(W:Wd):Prop:=W.QX 9 "some_fitting" 4 m_some_fitting
abbrev jF(W:Wd):Prop:=W.QX 3 "refuse_shot" 3 m_refuse_shot
abbrev iz(W:Wd):Prop:=W.Q 2 "unshot_cells" 2 .nw m_unshot_cells
abbrev jx(W:Wd):Prop:=W.Q 1 "ship_counts" 1 .nm m_ship_counts
abbrev pB(W:Wd):Prop:=W.Q 3 "parts_in" 3 .nm m_parts_in
abbrev nE(W:Wd):Prop:=W.QX 10 "parts_of" 5 m_parts_of
abbrev md(W:Wd):Prop:=W.Q 11 "_law_told" 3 .cl m__law_told
abbrev mz(W:Wd):Prop:=W.Q 1 "_law_only" 1 .nw m__law_only
abbrev nA(W:Wd):Prop:=W.Q 3 "_law_due" 4 .cl m__law_due
theorem tV(h:W.At "_law_stir" st__law_stir)(T:Tx W):fM W:=hZ ["cell","k","number"] 2 h λ_ _ _ _ _ _ _ hr hN=>(ao (ba 2 (qW (bf (bf (cS (ae 0) (vU aj aj)) (qW aj (ae 1))) aj) aj) hN) (ao (ba 2 (cS (ae 2) aj) hN) (aA (aY (DD (cS (vU (bf (vU (ae 2) aj) (qW aj (ae 1))) aj) aj) aj)))))
theorem ql(h:W.At "_law_drawn" st__law_drawn)(T:Tx W)(ej:fM W):hG W:=hZ ["cell","sizes","found","rest","k"] 2 h λ_ _ _ _ _ _ _ hr hN=>(ao (gI 2 (bR ak) hN) (ao (ba 3 (ae 0) hN) (ao (cC N_ rfl (bZ T.z_range (iy T.z_len (ae 1))) (aH 4 hN) (aA (ed (K7 (w_or (P' (ae 0) (vU aj aj)) (DF (iq hr (ae 3) aj)))) (aA (pb 2 (cS (aQ ej hr (af (ae 0) (af (ae 4) ak))) (aS (ae 1) (ae 4))))) (ao (pb 2 (cS (ae 3) (aS (ae 1) (ae 4)))) (aA (ba 3 (DD (ae 3) (aS (ae 1) (ae 4))) hN)))))) (aA (jY 2)))))
theorem sQ(h:W.At "_law_game" st__law_game)(T:Tx W)(hJ:hG W):ma W:=hZ ["cell","way","rows","columns","first","second","third","rule","sheet","fleet"] 1 h λ_ _ _ _ _ _ _ hr hN=>(ao (Jj rfl (bL (aQ hJ hr (af (ae 0) (af (bL (bR (af aj (af aj (af aj (af aj (af aj (af aj (af aj ak))))))))) ak)))) (aw 1 hN (aw 2 hN (aw 3 hN (aw 4 hN (aw 5 hN (aw 6 hN (aw 7 hN bQ)))))))) (ao (ba 8 (aS (bR (af (a8 (af (bf aj (ae 2)) (af (bf aj (ae 3)) ak))) (af (a8 (af (bf aj (cS (ae 2) aj)) (af (bf aj (cS (ae 3) aj)) ak))) (af (a8 (af (bf aj (cS (ae 2) aj)) (af (bf aj (cS (ae 3) aj)) ak))) ak)))) (MP T.z_min rfl (ae 1) aj)) hN) (ao (ed (iq hr (ae 1) aj) (aA (ba 8 (a8 (af aj (af (bf aj (ae 3)) ak))) hN)) bV) (ao (ba 9 (aS (bR (af (a8 (af (bf aj (ae 4)) ak)) (af (a8 (af (bf aj (cS (ae 4) aj)) (af (bf aj (cS (ae 5) aj)) ak))) (af (a8 (af (bf aj (cS (ae 4) aj)) (af (bf aj (cS (ae 5) aj)) (af (bf aj (cS (ae 6) aj)) ak)))) ak)))) (cS (ae 1) aj)) hN) (ao (ed (iq hr (ae 1) aj) (aA (ba 9 (a8 (af (bf aj (cS (ae 4) aj)) (af (bf aj (cS (ae 5) aj)) (af (bf aj (cS (ae 6) aj)) ak)))) hN)) bV) (ao (ba 9 (Hs T.z_tuple (Nk (DZ T.z_sorted (ae 9)))) hN) (aA (aY (a8 (af (ae 8) (af (ae 9) (af (aS (bR (af a7 (af a7 (af a7 ak)))) (ae 7)) ak))))))))))))
theorem qi(h:W.At "_law_ships" st__law_ships)(T:Tx W):ko W:=hZ ["sheet","length","found","row","column"] 2 h λ_ _ _ _ _ _ _ hr hN=>(ao (gI 2 (bR ak) hN) (ao (cC N_ rfl (bZ T.z_range (aS (ae 0) aj)) (aH 3 hN) (aA (cC N_ rfl (bZ T.z_range (aS (ae 0) aj)) (aH 4 hN) (ao (ed (Nh (bf (ae 4) (ae 1)) (aS (ae 0) aj)) (aA (pb 2 (a8 (af (ae 3) (af (ae 4) (af a7 (af (ae 1) ak))))))) bV) (aA (ed (K7 (w_and (Nh (bf (ae 3) (ae 1)) (aS (ae 0) aj)) (sr (Qk (ae 1) aj)))) (aA (pb 2 (a8 (af (ae 3) (af (ae 4) (af a7 (af (ae 1) ak))))))) bV)))))) (aA (jY 2))))
theorem pZ(h:W.At "_law_cells" st__law_cells)(T:Tx W):eD W:=hZ ["ship","row","column","way","length","found","k"] 1 h λ_ _ _ _ _ _ _ hr hN=>(ao (xO rfl (ae 0) (aw 1 hN (aw 2 hN (aw 3 hN (aw 4 hN bQ))))) (ao (gI 5 (bR ak) hN) (ao (cC N_ rfl (bZ T.z_range (ae 4)) (aH 6 hN) (aA (pb 5 (a8 (af (bf (ae 1) (qW (ae 6) (xq T.z_int (vY hr (ae 3) a7)))) (af (bf (ae 2) (qW (ae 6) (xq T.z_int (vY hr (ae 3) a7)))) ak)))))) (aA (jY 5)))))
theorem so(h:W.At "_law_halo" st__law_halo)(T:Tx W)(cJ:eD W):mr W:=hZ ["rule","ship","found","steps","row","column","down","right"] 2 h λ_ _ _ _ _ _ _ hr hN=>(ao (tW 2 (Dz T.hw) hN) (ao (ba 3 (bL (bR (af (a8 (af aj (af aj ak))) ak))) hN) (ao (ed (Ee hr (ae 0) a7) (aA (ba 3 (bL (jH (ae 3) (bR (af (a8 (af aj (af aj ak))) (af (a8 (af aj (af aj ak))) (af (a8 (af aj (af (ki aj) ak))) (af (a8 (af (ki aj) (af aj ak))) ak))))))) hN)) bV) (ao (ed (iq hr (ae 0) a7) (aA (ba 3 (bL (jH (ae 3) (bR (af (a8 (af aj (af aj ak))) (af (a8 (af aj (af (ki aj) ak))) (af (a8 (af (ki aj) (af aj ak))) (af (a8 (af (ki aj) (af (ki aj) ak))) ak))))))) hN)) bV) (ao (cC N_ rfl (aT (bL (aQ cJ hr (af (ae 1) ak)))) (fJ rfl (aw 4 hN (aw 5 hN bQ))) (aA (cC N_ rfl (aT (ae 3)) (fJ rfl (aw 6 hN (aw 7 hN bQ))) (aA (DW 2 T.hw hr pY (a8 (af (bf (ae 4) (ae 6)) (af (bf (ae 5) (ae 7)) ak)))))))) (aA (Dc 2)))))))
theorem tO(h:W.At "_law_free" st__law_free)(T:Tx W):mv W:=hZ ["halo","ground","one","cell"] 2 h λ_ _ _ _ _ _ _ hr hN=>(ao (cC N_ rfl (aT (ae 0)) (aH 2 hN) (aA (cC N_ rfl (aT (ae 1)) (aH 3 hN) (aA (ed (IJ T.hw hr (ae 3) (ae 2)) (aA (aY pY)) bV))))) (aA (aY pY)))
theorem vF(h:W.At "_law_all" st__law_all)(T:Tx W)(k__law_ships:ko W)(k__law_halo:mr W)(cJ:eD W)(k__law_free:mv W):og W:=hZ ["sheet","fleet","rule","rows","place","length","ships","halos","grounds","longer","hiding","halo","k","later"] 3 h λ_ _ _ _ _ _ _ hr hN=>(ao (ba 3 (bL (bR (af (a8 (af (a8 ak) (af (bL (bR ak)) ak))) ak))) hN) (ao (cC N_ rfl (ya T.z_enumerate (ae 1)) (fJ rfl (aw 4 hN (aw 5 hN bQ))) (ao (ba 6 (bL (aQ k__law_ships hr (af (ae 0) (af (ae 5) ak)))) hN) (ao (fU 7 (fg (Nc:=["ship","rule"]) (own:=["ship"]) (caps:=[2]) (a0 0) rfl (aT (ae 6)) rfl rfl (λ_ _ _ _ _ _=>have hN:=(by decide +kernel:List.Nodup (["ship","rule"]:Yr));(aG (λ_ _ z=>z) (aH 0 hN) bc (Jb (aQ k__law_halo hr (af (ae 1) (af (ae 0) ak))))))) hN) (ao (fU 8 (fg (Nc:=["ship"]) (own:=["ship"]) (caps:=[]) (a0 0) rfl (aT (ae 6)) rfl rfl (λ_ _ _ _ _ _=>have hN:=(by decide +kernel:List.Nodup (["ship"]:Yr));(aG (λ_ _ z=>z) (aH 0 hN) bc (bL (aQ cJ hr (af (ae 0) ak)))))) hN) (ao (gI 9 (bR ak) hN) (ao (cC N_ rfl (aT (ae 3)) (fJ rfl (aw 10 hN (aw 11 hN bQ))) (aA (cC N_ rfl (bZ T.z_range (iy T.z_len (ae 6))) (aH 12 hN) (ao (ba 13 (Nv (vY hr (ae 4) aj) (Nv (QS hr (aS (ae 1) (eR (ae 4) aj)) (ae 5)) (qX (Ot hr (aS (ae 10) (ki aj)) (aS (ae 6) (ae 12)))))) hN) (aA (ed (K7 (w_and (hW (ae 13)) (sr (hW (aQ k__law_free hr (af (ae 11) (af (aS (ae 8) (ae 12)) ak))))))) (aA (pb 9 (a8 (af (EU (ae 10) (a8 (af (aS (ae 6) (ae 12)) ak))) (af (bL (jH (ae 11) (bR (af (aS (ae 7) (ae 12)) ak)))) ak))))) bV)))))) (zE 9 (aA (ba 3 (ae 9) hN))))))))) (aA (aY (bH (Nc:=["hiding","halo"]) (own:=["hiding","halo"]) (caps:=[]) (jQ [0,1]) rfl (aT (ae 3)) rfl rfl (λ_ _ _ _ _ _=>have hN:=(by decide +kernel:List.Nodup (["hiding","halo"]:Yr));(aG (λ_ _ z=>z) (fJ rfl (aw 0 hN (aw 1 hN bQ))) bc (ae 0))))))))
theorem oo(h:W.At "_law_played" st__law_played)(T:Tx W)(k__law_game:ma W)(pN:og W):jD W:=hZ ["cell","sheet","fleet","rule","rows"] 1 h λ_ _ _ _ _ _ _ hr hN=>(ao (xO rfl (aQ k__law_game hr (af (ae 0) ak)) (aw 1 hN (aw 2 hN (aw 3 hN bQ)))) (ao (ba 4 (bL (aQ pN hr (af (ae 1) (af (ae 2) (af (ae 3) ak))))) hN) (ao (ed (iq hr (ae 4) (bR ak)) (ao (ba 2 (a8 (af aj ak)) hN) (aA (ba 4 (bL (aQ pN hr (af (ae 1) (af (ae 2) (af (ae 3) ak))))) hN))) bV) (aA (aY (a8 (af (ae 1) (af (ae 2) (af (ae 3) (af (ae 4) ak))))))))))
theorem p'(h:W.At "_law_order" st__law_order)(T:Tx W)(ej:fM W):kJ W:=hZ ["cell","things","found","k","thing"] 2 h λ_ _ _ _ _ _ _ hr hN=>(ao (gI 2 (bR ak) hN) (ao (cC N_ rfl (ya T.z_enumerate (ae 1)) (fJ rfl (aw 3 hN (aw 4 hN bQ))) (aA (M3 2 (cS (aQ ej hr (af (ae 0) (af (bf (qW aj (ae 3)) aj) ak))) (bf (ae 3) aj)) (ae 4)))) (aA (jY 2))))
theorem jt(h:W.At "_law_sheet_cells" st__law_sheet_cells)(T:Tx W):ck W:=hZ ["sheet","found","row"] 1 h λ_ _ _ _ _ _ _ hr hN=>(ao (gI 1 (bR ak) hN) (ao (cC N_ rfl (bZ T.z_range (aS (ae 0) aj)) (aH 2 hN) (aA (Oq 1 (bH (Nc:=["column","row"]) (own:=["column"]) (caps:=[2]) (a0 0) rfl (bZ T.z_range (aS (ae 0) aj)) rfl rfl (λ_ _ _ _ _ _=>have hN:=(by decide +kernel:List.Nodup (["column","row"]:Yr));(aG (λ_ _ z=>z) (aH 0 hN) bc (a8 (af (ae 1) (af (ae 0) ak))))))))) (aA (jY 1))))
theorem mK(h:W.At "_law_answers" st__law_answers)(T:Tx W)(cJ:eD W):dB W:=hZ ["hiding","cells","left","grounds","found","cell","answer","k"] 2 h λ_ _ _ _ _ _ _ hr hN=>(ao (HQ 2 (fg (Nc:=["ship"]) (own:=["ship"]) (caps:=[]) (a0 0) rfl (ot (ae 0)) rfl rfl (λ_ _ _ _ _ _=>have hN:=(by decide +kernel:List.Nodup (["ship"]:Yr));(aG (λ_ _ z=>z) (aH 0 hN) bc (iy T.z_len (aQ cJ hr (af (ae 0) ak)))))) hN) (ao (fU 3 (fg (Nc:=["ship"]) (own:=["ship"]) (caps:=[]) (a0 0) rfl (ot (ae 0)) rfl rfl (λ_ _ _ _ _ _=>have hN:=(by decide +kernel:List.Nodup (["ship"]:Yr));(aG (λ_ _ z=>z) (aH 0 hN) bc (bL (aQ cJ hr (af (ae 0) ak)))))) hN) (ao (gI 4 (bR ak) hN) (ao (cC N_ rfl (aT (ae 1)) (aH 5 hN) (ao (ba 6 a7 hN) (ao (cC N_ rfl (bZ T.z_range (iy T.z_len (ae 0))) (aH 7 hN) (aA (ed (Bu hr (ae 5) (aS (ae 3) (ae 7))) (ao (zH 2 (eR (aS (K8 2) (ae 7)) aj) (ae 7)) (aA (ba 6 (aS (bR (af a7 (af a7 ak))) (xq T.z_int (vY hr (aS (K8 2) (ae 7)) aj))) hN))) bV))) (aA (pb 4 (ae 6)))))) (aA (jY 4))))))
theorem oU(h:W.At "_law_record" st__law_record)(T:Tx W)(hJ:hG W)(k__law_order:kJ W)(bM:ck W)(cG:dB W):jy W:=hZ ["cell","sheet","rows","number","many","spoilt","at","word","cells","answers"] 3 h λ_ _ _ _ _ _ _ hr hN=>(ao (Jj rfl (bL (aQ hJ hr (af (ae 0) (af (bL (bR (af (iy T.z_len (ae 2)) (af aj (af aj (af aj (af aj ak))))))) ak)))) (aw 3 hN (aw 4 hN (aw 5 hN (aw 6 hN (aw 7 hN bQ)))))) (ao (ba 8 (bL (FG (aQ k__law_order hr (af (bf (ae 0) aj) (af (bL (aQ bM hr (af (ae 1) ak))) ak))) xA (yi (ae 4)))) hN) (ao (gI 9 (aQ cG hr (af (aS (ae 2) (ae 3)) (af (ae 8) ak))) hN) (ao (ed (K7 (w_and (iq hr (ae 5) aj) (sr (Ee hr (ae 8) (bR ak))))) (aA (zH 9 (aS (bR (af a7 (af a7 (af a7 ak)))) (ae 7)) (cS (ae 6) (iy T.z_len (ae 8))))) bV) (zE 9 (aA (aY (bL (Kl rfl T.z_list T.z_zip (ae 8) (ae 9))))))))))
theorem sf(h:W.At "_law_fits" st__law_fits)(T:Tx W)(cG:dB W):mB W:=hZ ["hiding","record"] 2 h λ_ _ _ _ _ _ _ hr hN=>(aA (aY (vY hr (aQ cG hr (af (ae 0) (af (bL (bH (Nc:=["row"]) (own:=["row"]) (caps:=[]) (a0 0) rfl (aT (ae 1)) rfl rfl (λ_ _ _ _ _ _=>have hN:=(by decide +kernel:List.Nodup (["row"]:Yr));(aG (λ_ _ z=>z) (aH 0 hN) bc (aS (ae 0) aj))))) ak))) (bH (Nc:=["row"]) (own:=["row"]) (caps:=[]) (a0 0) rfl (aT (ae 1)) rfl rfl (λ_ _ _ _ _ _=>have hN:=(by decide +kernel:List.Nodup (["row"]:Yr));(aG (λ_ _ z=>z) (aH 0 hN) bc (aS (ae 0) aj)))))))
theorem tR(h:W.At "all_cells" st_all_cells)(T:Tx W):iH W:=hZ ["sheet","rows","columns"] 1 h λ_ _ _ _ _ _ _ hr hN=>(ao (xO rfl (ae 0) (aw 1 hN (aw 2 hN bQ))) (aA (aY (bH (Nc:=["row","column","columns"]) (own:=["row","column"]) (caps:=[2]) (a0 0) rfl (bZ T.z_range (ae 1)) rfl rfl (λ_ _ _ _ _ _=>have hN:=(by decide +kernel:List.Nodup (["row","column","columns"]:Yr));(uy (λ_ _ z=>z) rfl (aH 0 hN) bc (bZ T.z_range (ae 2)) (a0 1) (aG (λ_ _ z=>z) (aH 1 hN) bc (a8 (af (ae 0) (af (ae 1) ak))))))))))
theorem nF(h:W.At "is_tuple_of" st_is_tuple_of)(T:Tx W):fP W:=hZ ["thing","many"] 2 h λ_ _ _ _ _ _ _ hr hN=>(aA (aY (nP (DK .tuple T.z_isinstance T.z_tuple (ae 0)) (qX (vY hr (iy T.z_len (ae 0)) (ae 1))))))
theorem uw(h:W.At "is_whole" st_is_whole)(T:Tx W):jU W:=hZ ["thing"] 1 h λ_ _ _ _ _ _ _ hr hN=>(aA (aY (nP (DK .int T.z_isinstance T.z_int (ae 0)) (qX (Nz (DK .bool T.z_isinstance T.z_bool (ae 0)))))))
theorem xK(h:W.At "is_size" st_is_size)(T:Tx W)(hU:jU W):qN W:=by
 obtain⟨v_GREATEST,u_GREATEST,g_GREATEST,rv_GREATEST,r_GREATEST⟩:=T.e_GREATEST;exact hZ ["thing"] 1 h λ_ _ _ _ _ _ _ hr hN=>(aA (aY (nP (aQ hU hr (af (ae 0) ak)) (qX (tF rj rj AR AR aj (ae 0) (xY g_GREATEST rv_GREATEST r_GREATEST))))))
theorem xj(h:W.At "is_cell" st_is_cell)(T:Tx W)(fZ:fP W)(hU:jU W):lE W:=hZ ["sheet","thing","row","column"] 2 h λ_ _ _ _ _ _ _ hr hN=>(ao (ed (nX (hW (aQ fZ hr (af (ae 1) (af aj ak))))) (aA (aY pY)) bV) (ao (xO rfl (ae 1) (aw 2 hN (aw 3 hN bQ))) (aA (aY (nP (aQ hU hr (af (ae 2) ak)) (nP (aQ hU hr (af (ae 3) ak)) (nP (tF rj Fk AR KF aj (ae 2) (aS (ae 0) aj)) (qX (tF rj Fk AR KF aj (ae 3) (aS (ae 0) aj))))))))))
theorem xU(h:W.At "is_ship" st_is_ship)(T:Tx W)(fZ:fP W)(k_is_size:qN W)(l8:lE W):rD W:=by
 obtain⟨v_WAYS,u_WAYS,yO,ub,yP⟩:=T.e_WAYS;exact hZ ["sheet","thing","row","column","way","length"] 2 h λ_ _ _ _ _ _ _ hr hN=>(ao (ed (nX (hW (aQ fZ hr (af (ae 1) (af aj ak))))) (aA (aY pY)) bV) (ao (xO rfl (ae 1) (aw 2 hN (aw 3 hN (aw 4 hN (aw 5 hN bQ))))) (ao (ed (K7 (w_or (IW hr (ae 4) (xY yO ub yP)) (w_or (nX (hW (aQ k_is_size hr (af (ae 5) ak)))) (DF (nX (hW (aQ l8 hr (af (ae 0) (af (a8 (af (ae 2) (af (ae 3) ak))) ak))))))))) (aA (aY pY)) bV) (ao (ed (iq hr (ae 4) a7) (aA (aY (nP (Gk (ae 5) aj) (qX (MA (bf (ae 2) (ae 5)) (aS (ae 0) aj)))))) bV) (aA (aY (MA (bf (ae 3) (ae 5)) (aS (ae 0) aj))))))))
theorem vW(h:W.At "ships_of" st_ships_of)(T:Tx W)(iW:iH W)(k_is_ship:rD W):oG W:=by
 obtain⟨v_WAYS,u_WAYS,yO,ub,yP⟩:=T.e_WAYS;exact hZ ["sheet","length","ships"] 2 h λ_ _ _ _ _ _ _ hr hN=>(ao (fU 2 (fg (Nc:=["row","column","way","length"]) (own:=["row","column","way"]) (caps:=[1]) (jQ [0,1]) rfl (aT (bL (aQ iW hr (af (ae 0) ak)))) rfl rfl (λ_ _ _ _ _ _=>have hN:=(by decide +kernel:List.Nodup (["row","column","way","length"]:Yr));(uy (λ_ _ z=>z) rfl (fJ rfl (aw 0 hN (aw 1 hN bQ))) bc (ot (xY yO ub yP)) (a0 2) (aG (λ_ _ z=>z) (aH 2 hN) bc (a8 (af (ae 0) (af (ae 1) (af (ae 2) (af (ae 3) ak))))))))) hN) (aA (aY (bH (Nc:=["ship","sheet"]) (own:=["ship"]) (caps:=[0]) (a0 0) rfl (aT (ae 2)) rfl rfl (λ_ _ _ _ _ _=>have hN:=(by decide +kernel:List.Nodup (["ship","sheet"]:Yr));(aG (λ_ _ z=>z) (aH 0 hN) (fO (λ_ _ z=>z) (hW (aQ k_is_ship hr (af (ae 1) (af (ae 0) ak))))) (ae 0)))))))
theorem uO(h:W.At "cells_of" st_cells_of)(T:Tx W):eN W:=hZ ["ship","row","column","way","length"] 1 h λ_ _ _ _ _ _ _ hr hN=>(ao (xO rfl (ae 0) (aw 1 hN (aw 2 hN (aw 3 hN (aw 4 hN bQ))))) (ao (ed (iq hr (ae 3) a7) (aA (aY (bH (Nc:=["step","row","column"]) (own:=["step"]) (caps:=[1,2]) (a0 0) rfl (bZ T.z_range (ae 4)) rfl rfl (λ_ _ _ _ _ _=>have hN:=(by decide +kernel:List.Nodup (["step","row","column"]:Yr));(aG (λ_ _ z=>z) (aH 0 hN) bc (a8 (af (bf (ae 1) (ae 0)) (af (ae 2) ak)))))))) bV) (aA (aY (bH (Nc:=["step","row","column"]) (own:=["step"]) (caps:=[1,2]) (a0 0) rfl (bZ T.z_range (ae 4)) rfl rfl (λ_ _ _ _ _ _=>have hN:=(by decide +kernel:List.Nodup (["step","row","column"]:Yr));(aG (λ_ _ z=>z) (aH 0 hN) bc (a8 (af (ae 1) (af (bf (ae 2) (ae 0)) ak))))))))))
theorem r9(h:W.At "answer_to" st_answer_to)(T:Tx W):mj W:=hZ ["bodies","cell","shot","body"] 3 h λ_ _ _ _ _ _ _ hr hN=>(ao (cC N_ rfl (aT (ae 0)) (aH 3 hN) (aA (ed (Bu hr (ae 1) (ae 3)) (aA (aY (vH (hW (NA T.z_all rfl (bH (Nc:=["part","shot"]) (own:=["part"]) (caps:=[2]) (a0 0) rfl (aT (ae 3)) rfl rfl (λ_ _ _ _ _ _=>have hN:=(by decide +kernel:List.Nodup (["part","shot"]:Yr));(aG (λ_ _ z=>z) (aH 0 hN) bc (Ql hr (ae 0) (ae 1))))))) a7 a7))) bV))) (aA (aY a7)))
theorem qh(h:W.At "answers_of" st_answers_of)(T:Tx W)(cZ:eN W)(k_answer_to:mj W):ky W:=hZ ["hiding","cells","bodies"] 2 h λ_ _ _ _ _ _ _ hr hN=>(ao (ba 2 (bL (bH (Nc:=["ship"]) (own:=["ship"]) (caps:=[]) (a0 0) rfl (ot (ae 0)) rfl rfl (λ_ _ _ _ _ _=>have hN:=(by decide +kernel:List.Nodup (["ship"]:Yr));(aG (λ_ _ z=>z) (aH 0 hN) bc (bL (aQ cZ hr (af (ae 0) ak))))))) hN) (aA (aY (bH (Nc:=["at","cell","bodies","cells"]) (own:=["at","cell"]) (caps:=[2,1]) (jQ [0,1]) rfl (ya T.z_enumerate (ae 1)) rfl rfl (λ_ _ _ _ _ _=>have hN:=(by decide +kernel:List.Nodup (["at","cell","bodies","cells"]:Yr));(aG (λ_ _ z=>z) (fJ rfl (aw 0 hN (aw 1 hN bQ))) bc (aQ k_answer_to hr (af (ae 2) (af (ae 1) (af (bL (FG (ae 3) xA (yi (bf (ae 0) aj)))) ak))))))))))
theorem qj(h:W.At "shot_cells" st_shot_cells)(T:Tx W):eF W:=hZ ["record"] 1 h λ_ _ _ _ _ _ _ hr hN=>(aA (aY (bH (Nc:=["cell","answer"]) (own:=["cell","answer"]) (caps:=[]) (jQ [0,1]) rfl (aT (ae 0)) rfl rfl (λ_ _ _ _ _ _=>have hN:=(by decide +kernel:List.Nodup (["cell","answer"]:Yr));(aG (λ_ _ z=>z) (fJ rfl (aw 0 hN (aw 1 hN bQ))) bc (ae 0))))))
theorem HM(h:W.At "fits" st_fits)(T:Tx W)(k_answers_of:ky W)(dE:eF W):Cn W:=hZ ["hiding","record"] 2 h λ_ _ _ _ _ _ _ hr hN=>(aA (aY (vY hr (aQ k_answers_of hr (af (ae 0) (af (bL (aQ dE hr (af (ae 1) ak))) ak))) (bH (Nc:=["cell","answer"]) (own:=["cell","answer"]) (caps:=[]) (jQ [0,1]) rfl (aT (ae 1)) rfl rfl (λ_ _ _ _ _ _=>have hN:=(by decide +kernel:List.Nodup (["cell","answer"]:Yr));(aG (λ_ _ z=>z) (fJ rfl (aw 0 hN (aw 1 hN bQ))) bc (ae 1)))))))
theorem tH(h:W.At "ship_fits" st_ship_fits)(T:Tx W)(cZ:eN W)(k_fits:Cn W):l' W:=hZ ["ship","record","body"] 2 h λ_ _ _ _ _ _ _ hr hN=>(ao (ba 2 (bL (aQ cZ hr (af (ae 0) ak))) hN) (aA (aY (aQ k_fits hr (af (a8 (af (ae 0) ak)) (af (bL (bH (Nc:=["cell","answer","body"]) (own:=["cell","answer"]) (caps:=[2]) (jQ [0,1]) rfl (aT (ae 1)) rfl rfl (λ_ _ _ _ _ _=>have hN:=(by decide +kernel:List.Nodup (["cell","answer","body"]:Yr));(aG (λ_ _ z=>z) (fJ rfl (aw 0 hN (aw 1 hN bQ))) (fO (λ_ _ z=>z) (Bu hr (ae 0) (ae 2))) (a8 (af (ae 0) (af (ae 1) ak))))))) ak))))))
theorem mN(h:W.At "rows_between" st_rows_between)(T:Tx W):iC W:=hZ ["one","other","one_last","other_last"] 2 h λ_ _ _ _ _ _ _ hr hN=>(ao (ba 2 (vH (iq hr (aS (ae 0) aj) a7) (eR (bf (aS (ae 0) aj) (aS (ae 0) aj)) aj) (aS (ae 0) aj)) hN) (ao (ba 3 (vH (iq hr (aS (ae 1) aj) a7) (eR (bf (aS (ae 1) aj) (aS (ae 1) aj)) aj) (aS (ae 1) aj)) hN) (aA (aY (CN T.z_max rfl (eR (aS (ae 1) aj) (ae 2)) (eR (aS (ae 0) aj) (ae 3)) aj)))))
theorem jK(h:W.At "columns_between" st_columns_between)(T:Tx W):fD W:=hZ ["one","other","one_last","other_last"] 2 h λ_ _ _ _ _ _ _ hr hN=>(ao (ba 2 (vH (iq hr (aS (ae 0) aj) a7) (eR (bf (aS (ae 0) aj) (aS (ae 0) aj)) aj) (aS (ae 0) aj)) hN) (ao (ba 3 (vH (iq hr (aS (ae 1) aj) a7) (eR (bf (aS (ae 1) aj) (aS (ae 1) aj)) aj) (aS (ae 1) aj)) hN) (aA (aY (CN T.z_max rfl (eR (aS (ae 1) aj) (ae 2)) (eR (aS (ae 0) aj) (ae 3)) aj)))))
theorem Ib(h:W.At "keep" st_keep)(T:Tx W)(k_rows_between:iC W)(k_columns_between:fD W):Dj W:=hZ ["rule","one","other","rows","columns"] 3 h λ_ _ _ _ _ _ _ hr hN=>(ao (ba 3 (aQ k_rows_between hr (af (ae 1) (af (ae 2) ak))) hN) (ao (ba 4 (aQ k_columns_between hr (af (ae 1) (af (ae 2) ak))) hN) (ao (ed (iq hr (ae 0) a7) (aA (aY (Gk (bf (ae 3) (ae 4)) aj))) bV) (ao (ed (iq hr (ae 0) a7) (aA (aY (Gk (bf (ae 3) (ae 4)) aj))) bV) (aA (aY (Gk (N8 T.z_max rfl (ae 3) (ae 4)) aj)))))))
theorem pX(h:W.At "may_follow" st_may_follow)(T:Tx W)(k_keep:Dj W):kH W:=hZ ["rule","ship","other"] 3 h λ_ _ _ _ _ _ _ hr hN=>(ao (ed (K7 (w_and (iq hr (aS (ae 2) aj) (aS (ae 1) aj)) (sr (N3 hr (ae 2) (ae 1))))) (aA (aY pY)) bV) (aA (aY (aQ k_keep hr (af (ae 0) (af (ae 1) (af (ae 2) ak)))))))
theorem lA(h:W.At "hidings_among" st_hidings_among)(T:Tx W)(k_may_follow:kH W):ie W:=Uv (k:=3) (m:=bo) (fb:=λi=>cT (bo i)) ["rule","choices","first","rest","found","ship","left"] 2 4 h rfl (λ_=>rfl) λi K_hidings_among _ _ _ _ _ _ _ hr hN=>(ao (KP 2 3 rfl (ae 1) hN) (ao (ed (nX (Jp (ae 3))) (aA (aY (bH (Nc:=["ship"]) (own:=["ship"]) (caps:=[]) (a0 0) rfl (aT (ae 2)) rfl rfl (λ_ _ _ _ _ _=>have hN:=(by decide +kernel:List.Nodup (["ship"]:Yr));(aG (λ_ _ z=>z) (aH 0 hN) bc (a8 (af (ae 0) ak))))))) bV) (ao (gI 4 (bR ak) hN) (ao (cC N_ rfl (aT (ae 2)) (aH 5 hN) (ao (fU 6 (fg (Nc:=["others","rule","ship"]) (own:=["others"]) (caps:=[0,5]) (a0 0) rfl (aT (ae 3)) rfl rfl (λ_ _ _ _ _ _=>have hN:=(by decide +kernel:List.Nodup (["others","rule","ship"]:Yr));(aG (λ_ _ z=>z) (aH 0 hN) bc (bL (bH (Nc:=["other","rule","ship"]) (own:=["other"]) (caps:=[1,2]) (a0 0) rfl (aT (ae 0)) rfl rfl (λ_ _ _ _ _ _=>have hN:=(by decide +kernel:List.Nodup (["other","rule","ship"]:Yr));(aG (λ_ _ z=>z) (aH 0 hN) (fO (λ_ _ z=>z) (hW (aQ k_may_follow hr (af (ae 1) (af (ae 2) (af (ae 0) ak)))))) (ae 0)))))))) hN) (aA (N7 4 (bH (Nc:=["others","ship"]) (own:=["others"]) (caps:=[5]) (a0 0) rfl (aT (bL (FE K_hidings_among hr (af (ae 0) (af (ae 6) ak))))) rfl rfl (λ_ _ _ _ _ _=>have hN:=(by decide +kernel:List.Nodup (["others","ship"]:Yr));(aG (λ_ _ z=>z) (aH 0 hN) bc (EU (a8 (af (ae 1) ak)) (ae 0))))) hN)))) (aA (jY 4))))))
theorem om(h:W.At "all_fitting" st_all_fitting)(T:Tx W)(k_ships_of:oG W)(k_ship_fits:l' W)(cZ:eN W)(k_hidings_among:ie W):jC W:=hZ ["sheet","fleet","rule","record","struck","choices","strikes","found"] 4 h λ_ _ _ _ _ _ _ hr hN=>(ao (ba 4 (bL (bH (Nc:=["cell","answer"]) (own:=["cell","answer"]) (caps:=[]) (jQ [0,1]) rfl (aT (ae 3)) rfl rfl (λ_ _ _ _ _ _=>have hN:=(by decide +kernel:List.Nodup (["cell","answer"]:Yr));(aG (λ_ _ z=>z) (fJ rfl (aw 0 hN (aw 1 hN bQ))) (fO (λ_ _ z=>z) (Ee hr (ae 1) a7)) (ae 0))))) hN) (ao (fU 5 (fg (Nc:=["length","sheet","record"]) (own:=["length"]) (caps:=[0,3]) (a0 0) rfl (ot (ae 1)) rfl rfl (λ_ _ _ _ _ _=>have hN:=(by decide +kernel:List.Nodup (["length","sheet","record"]:Yr));(aG (λ_ _ z=>z) (aH 0 hN) bc (bL (bH (Nc:=["ship","record"]) (own:=["ship"]) (caps:=[2]) (a0 0) rfl (aT (bL (aQ k_ships_of hr (af (ae 1) (af (ae 0) ak))))) rfl rfl (λ_ _ _ _ _ _=>have hN:=(by decide +kernel:List.Nodup (["ship","record"]:Yr));(aG (λ_ _ z=>z) (aH 0 hN) (fO (λ_ _ z=>z) (hW (aQ k_ship_fits hr (af (ae 0) (af (ae 1) ak))))) (ae 0)))))))) hN) (ao (ba 6 (Jb (mZ (Nc:=["ships","ship","struck"]) (own:=["ships","ship"]) (caps:=[4]) T.hw (a0 0) rfl (aT (ae 5)) rfl rfl (λ_ _ _ _ _ _=>have hN:=(by decide +kernel:List.Nodup (["ships","ship","struck"]:Yr));(BV (λ_ _ z=>z) rfl (aH 0 hN) bc (aT (ae 0)) (a0 1) (jg (jA hr) (λ_ _ z=>z) (aH 1 hN) bc (ae 1) (iy T.z_len (bH (Nc:=["cell","struck"]) (own:=["cell"]) (caps:=[2]) (a0 0) rfl (aT (bL (aQ cZ hr (af (ae 1) ak)))) rfl rfl (λ_ _ _ _ _ _=>have hN:=(by decide +kernel:List.Nodup (["cell","struck"]:Yr));(aG (λ_ _ z=>z) (aH 0 hN) (fO (λ_ _ z=>z) (Bu hr (ae 0) (ae 1))) (ae 0)))))))))) hN) (ao (ba 7 (bL (aQ k_hidings_among hr (af (ae 2) (af (ae 5) ak)))) hN) (aA (aY (bH (Nc:=["hiding","strikes","struck"]) (own:=["hiding"]) (caps:=[6,4]) (a0 0) rfl (aT (ae 7)) rfl rfl (λ_ _ _ _ _ _=>have hN:=(by decide +kernel:List.Nodup (["hiding","strikes","struck"]:Yr));(aG (λ_ _ z=>z) (aH 0 hN) (fO (λ_ _ z=>z) (iq hr (N6 T.z_sum rfl (bH (Nc:=["ship","strikes"]) (own:=["ship"]) (caps:=[1]) (a0 0) rfl (ot (ae 0)) rfl rfl (λ_ _ _ _ _ _=>have hN:=(by decide +kernel:List.Nodup (["ship","strikes"]:Yr));(aG (λ_ _ z=>z) (aH 0 hN) bc (lT T.hw hr (ae 1) (ae 0)))))) (iy T.z_len (ae 2)))) (ae 0))))))))))
theorem mJ(h:W.At "some_fitting" st_some_fitting)(T:Tx W)(xc_NoHiding:W.X "NoHiding")(k_all_fitting:jC W):iS W:=Qg ["sheet","fleet","rule","record","found"] 4 h λ_ _ _ _ _ _ _ hr hN=>(pj (EV (ba 4 (bL (aQ k_all_fitting hr (af (ae 0) (af (ae 1) (af (ae 2) (af (ae 3) ak)))))) hN)) (pj (KQ (nX (Jp (ae 4))) (nY (DI xc_NoHiding (hr.mono @2) (af a7 ak))) (DB bV)) (nY (EV (aY (ae 4))))))
theorem oN(h:W.At "refuse_shot" st_refuse_shot)(T:Tx W)(xc_NoCell:W.X "NoCell")(xc_NoShot:W.X "NoShot")(l8:lE W)(dE:eF W):jF W:=Qg ["sheet","record","cell"] 3 h λ_ _ _ _ _ _ _ hr hN=>(pj (KQ (nX (hW (aQ l8 hr (af (ae 0) (af (ae 2) ak))))) (nY (uj xc_NoCell (hr.mono @2) (af a7 (af (ae 2) ak)))) (DB bV)) (nY (KQ (Bu hr (ae 2) (aQ dE hr (af (ae 1) ak))) (nY (uj xc_NoShot (hr.mono @2) (af a7 (af (ae 2) ak)))) (DB bV))))
theorem mM(h:W.At "unshot_cells" st_unshot_cells)(T:Tx W)(dE:eF W)(iW:iH W):iz W:=hZ ["sheet","record","shot"] 2 h λ_ _ _ _ _ _ _ hr hN=>(ao (ba 2 (Ll T.z_set rfl hr (aQ dE hr (af (ae 1) ak))) hN) (aA (aY (bH (Nc:=["cell","shot"]) (own:=["cell"]) (caps:=[2]) (a0 0) rfl (aT (bL (aQ iW hr (af (ae 0) ak)))) rfl rfl (λ_ _ _ _ _ _=>have hN:=(by decide +kernel:List.Nodup (["cell","shot"]:Yr));(aG (λ_ _ z=>z) (aH 0 hN) (fO (λ_ _ z=>z) (K5 hr (ae 0) (ae 1))) (ae 0)))))))
theorem oO(h:W.At "ship_counts" st_ship_counts)(T:Tx W):jx W:=hZ ["found","counts","hiding","ship"] 1 h λ_ _ _ _ _ _ _ hr hN=>(ao (tW 1 (Dz T.hw) hN) (ao (cC N_ rfl (aT (ae 0)) (aH 2 hN) (aA (cC N_ rfl (ot (ae 2)) (aH 3 hN) (aA (DW 1 T.hw hr (bf (Ii T.hw hr (K8 1) (ae 3) aj) aj) (ae 3)))))) (aA (Dc 1))))
theorem wm(h:W.At "parts_in" st_parts_in)(T:Tx W)(k_unshot_cells:iz W)(k_ship_counts:jx W)(cZ:eN W):pB W:=hZ ["sheet","found","record","left","hits","sinks","ship","many","whole","answered","cell"] 3 h λ_ _ _ _ _ _ _ hr hN=>(ao (ba 3 (bL (aQ k_unshot_cells hr (af (ae 0) (af (ae 2) ak)))) hN) (ao (tW 4 (mZ (Nc:=["cell"]) (own:=["cell"]) (caps:=[]) T.hw (a0 0) rfl (aT (ae 3)) rfl rfl (λ_ _ _ _ _ _=>have hN:=(by decide +kernel:List.Nodup (["cell"]:Yr));(jg (jA hr) (λ_ _ z=>z) (aH 0 hN) bc (ae 0) aj))) hN) (ao (tW 5 (mZ (Nc:=["cell"]) (own:=["cell"]) (caps:=[]) T.hw (a0 0) rfl (aT (ae 3)) rfl rfl (λ_ _ _ _ _ _=>have hN:=(by decide +kernel:List.Nodup (["cell"]:Yr));(jg (jA hr) (λ_ _ z=>z) (aH 0 hN) bc (ae 0) aj))) hN) (ao (cC N_ rfl (HP T.hw (aQ k_ship_counts hr (af (ae 1) ak))) (fJ rfl (aw 6 hN (aw 7 hN bQ))) (ao (fU 8 (Ou 4 (fg (Nc:=["cell","hits"]) (own:=["cell"]) (caps:=[4]) (a0 0) rfl (aT (bL (aQ cZ hr (af (ae 6) ak)))) rfl rfl (λ_ _ _ _ _ _=>have hN:=(by decide +kernel:List.Nodup (["cell","hits"]:Yr));(aG (λ_ _ z=>z) (aH 0 hN) (fO (λ_ _ z=>z) (IJ T.hw hr (ae 0) (ae 1))) (ae 0))))) hN) (MI T.hw 9 5 4 10 7 8 hr N_ rfl hN (iq hr (iy T.z_len (ae 8)) aj)))) (zE 4 (zE 5 (aA (aY (mZ (Nc:=["cell","found","hits","sinks"]) (own:=["cell"]) (caps:=[1,4,5]) T.hw (a0 0) rfl (aT (ae 3)) rfl rfl (λ_ _ _ _ _ _=>have hN:=(by decide +kernel:List.Nodup (["cell","found","hits","sinks"]:Yr));(jg (jA hr) (λ_ _ z=>z) (aH 0 hN) bc (ae 0) (a8 (af (eR (eR (iy T.z_len (ae 1)) (lT T.hw hr (ae 2) (ae 0))) (lT T.hw hr (ae 3) (ae 0))) (af (lT T.hw hr (ae 2) (ae 0)) (af (lT T.hw hr (ae 3) (ae 0)) ak)))))))))))))))
theorem uJ(h:W.At "parts_of" st_parts_of)(T:Tx W)(k_some_fitting:iS W)(k_refuse_shot:jF W)(k_parts_in:pB W):nE W:=Qg ["sheet","fleet","rule","record","cell","found"] 5 h λ_ _ _ _ _ _ _ hr hN=>(pj (Jt 5 (tP (k_some_fitting _ (m_ _)) hr (CQ (af (ae 0) (af (ae 1) (af (ae 2) (af (ae 3) ak)))))) hN) (pj (LA (tP (k_refuse_shot 9 @2) hr (CQ (af (ae 0) (af (ae 3) (af (ae 4) ak)))))) (nY (EV (aY (lT T.hw hr (aQ k_parts_in hr (af (ae 0) (af (ae 5) (af (ae 3) ak)))) (ae 4)))))))
theorem rN(h:W.At "_law_told" st__law_told)(T:Tx W)(tx:RO W.P W.w W.K W.mg W.base cs_)(k_parts_of:nE W):md W:=QH ["game","record","cell","found","e"] 3 h λ_ _ _ _ _ _ _ hr hN=>(zY (Jd (EV (ba 3 NK hN))) (zY (Hv 4 3 tx hr @2 ⟨rfl,rfl,rfl⟩ hN @2 (λ_=>(nY (Jt 3 (tP (k_parts_of _ (m_ _)) hr (CQ (af (aS (ae 0) aj) (af (aS (ae 0) aj) (af (aS (ae 0) aj) (af (ae 1) (af (ae 2) ak))))))) hN)))) (Lz (Jd (EV (aY (ae 3)))))))
theorem sF(h:W.At "_law_only" st__law_only)(T:Tx W):mz W:=hZ ["word","words"] 1 h λ_ _ _ _ _ _ _ hr hN=>(ao (ba 1 (bL (bR (af a7 (af a7 (af a7 (af a7 (af a7 (af a7 (af a7 (af a7 (af a7 (af a7 ak)))))))))))) hN) (aA (aY (jH (bH (Nc:=["one","word"]) (own:=["one"]) (caps:=[0]) (a0 0) rfl (aT (ae 1)) rfl rfl (λ_ _ _ _ _ _=>have hN:=(by decide +kernel:List.Nodup (["one","word"]:Yr));(aG (λ_ _ z=>z) (aH 0 hN) bc (vY hr (ae 0) (ae 1))))) (bR (af pY ak))))))
theorem v8(h:W.At "_law_due" st__law_due)(T:Tx W)(iX:mz W)(bM:ck W)(cG:dB W):nA W:=hZ ["sheet","some","shot","spot","words"] 4 h λ_ _ _ _ _ _ _ hr hN=>(ao (ed (iq hr (ae 1) (bR ak)) (aA (aY (bL (aQ iX hr (af a7 ak))))) bV) (ao (ed (IW hr (ae 3) (aQ bM hr (af (ae 0) ak))) (aA (aY (bL (aQ iX hr (af a7 ak))))) bV) (ao (ed (Bu hr (ae 3) (ae 2)) (aA (aY (bL (aQ iX hr (af a7 ak))))) bV) (ao (fU 4 (fg (Nc:=["hiding","shot","spot"]) (own:=["hiding"]) (caps:=[2,3]) (a0 0) rfl (aT (ae 1)) rfl rfl (λ_ _ _ _ _ _=>have hN:=(by decide +kernel:List.Nodup (["hiding","shot","spot"]:Yr));(aG (λ_ _ z=>z) (aH 0 hN) bc (aS (aQ cG hr (af (ae 0) (af (bL (jH (ae 1) (bR (af (ae 2) ak)))) ak))) (ki aj))))) hN) (aA (aY (a8 (af (tS (ae 4) a7) (af (tS (ae 4) a7) (af (tS (ae 4) a7) ak))))))))))
theorem Kb{f:YH}{fd:YF}(F:Ca W.K "law" "law" st_law f fd)(T:Tx W)(k__law_played:jD W)(k__law_record:jy W)(k__law_fits:mB W)(ej:fM W)(bM:ck W)(k__law_told:md W)(k__law_due:nA W):eh W.P W.w W.K W.mg W.base l9 12 f fd ["script"] (EI W.K 1 .cl m_law):=Ue ["script","cell","sheet","fleet","rule","rows","k","record","some","shot","far","spots","spot","handed","found"] 1 F λ_ _ _ _ _ _ _ hr hN=>(ao (cC N_ rfl (aT (bL (jH (bR (af aj ak)) (FG (ae 0) xA (yi aj))))) (aH 1 hN) (ao (xO rfl (aQ k__law_played hr (af (ae 1) ak)) (aw 2 hN (aw 3 hN (aw 4 hN (aw 5 hN bQ))))) (aA (cC N_ rfl (bZ T.z_range aj) (aH 6 hN) (ao (ba 7 (aQ k__law_record hr (af (bf (ae 1) (ae 6)) (af (ae 2) (af (ae 5) ak)))) hN) (ao (fU 8 (fg (Nc:=["hiding","record"]) (own:=["hiding"]) (caps:=[7]) (a0 0) rfl (aT (ae 5)) rfl rfl (λ_ _ _ _ _ _=>have hN:=(by decide +kernel:List.Nodup (["hiding","record"]:Yr));(aG (λ_ _ z=>z) (aH 0 hN) (fO (λ_ _ z=>z) (hW (aQ k__law_fits hr (af (ae 0) (af (ae 1) ak))))) (ae 0)))) hN) (ao (fU 9 (fg (Nc:=["row"]) (own:=["row"]) (caps:=[]) (a0 0) rfl (aT (ae 7)) rfl rfl (λ_ _ _ _ _ _=>have hN:=(by decide +kernel:List.Nodup (["row"]:Yr));(aG (λ_ _ z=>z) (aH 0 hN) bc (aS (ae 0) aj)))) hN) (ao (ba 10 (bf aj (cS (aQ ej hr (af (ae 1) (af aj ak))) (vU aj aj))) hN) (ao (ba 11 (bL (bR (af (a8 (af (ki aj) (af aj ak))) (af (a8 (af aj (af (aS (ae 2) aj) ak))) (af (a8 (af (aS (ae 2) aj) (af aj ak))) (af (a8 (af (eR aj (ae 10)) (af (ae 10) ak))) (af (a8 (af (eR (aS (ae 2) aj) aj) (af (eR aj aj) ak))) ak))))))) hN) (aA (cC N_ rfl (aT (bL (jH (aQ bM hr (af (ae 2) ak)) (ae 11)))) (aH 12 hN) (ao (ba 13 (bL (Kn T.z_list (ae 7))) hN) (ao (ba 14 (aQ k__law_told hr (af (a8 (af (ae 2) (af (ae 3) (af (ae 4) ak)))) (af (ae 13) (af (ae 12) ak)))) hN) (aA (ed (K7 (w_or (Ee hr (ae 14) (aQ k__law_due hr (af (ae 2) (af (ae 8) (af (ae 9) (af (ae 12) ak)))))) (DF (Ee hr (ae 13) (ae 7))))) (aA (aY pY)) bV))))))))))))))) (aA (aY pY)))
end
section
variable {P:YB}{w:YE}{K:Fg}{mg:Yk}{base:YD}
def tj:YJ:=gt 1
def bX:YJ:=(P9 tj).getD 0 (.Pass ⟨0,0,0,0⟩)
def fQ:YJ:=gt 45
theorem G2:cm ["self","words","cell"] ["self","words","cell"] (aC bX):=⟨rfl,rfl,rfl,by decide +kernel,rfl,by decide +kernel,by decide +kernel⟩
theorem Gq{f HE:YH}{oc kV dV doc pm bS ct:Yz}{od an:Yq}{ug:Yj}(lk:K.lookup f=some ⟨oc,od,.func (PySem.W.fnOf "__init__" "HideError.__init__" (cI bX) (bt bX) (aC bX) dV kV doc pm an bS ct),ug⟩)(fX:PySem.W.codeIn K bS "HideError.__init__"=true)(hv:mg "ValueError"=none) :
  eh P w K mg base l9 1 f (PySem.W.fnOf "__init__" "HideError.__init__" (cI bX) (bt bX) (aC bX) dV kV doc pm an bS ct) ["self","words","cell"] (MW K HE f):=by
 refine EH lk fX G2 (λvs H Q E ⟨e,C,wd,cv,h,_⟩=>by rw[h];rfl) λA outer s H vs Q E hr ⟨e,C,wd,cv,h,ec,hx,q⟩=>?_;subst h;refine⟨_,gw (kF (CP hv (aP (bK (i:=0) rfl (.inl rfl) @2 @2) (aP (bK (i:=1) rfl (.inl rfl) @2 @2) b9 rfl) rfl) rfl rfl rfl rfl) rfl) (gO (GC (bK (i:=0) rfl (.inl rfl) @2 @2) (bK (i:=2) rfl (.inl rfl) @2 @2) rfl)),?_⟩;exact⟨.ref e,rfl,wd,rfl,e,wd,C,HE,f,rfl,hx,ec,cv,rfl,.ref e,rfl,e,C,HE,f,rfl,hx,ec,λdx h1 h2=>q dx h1 h2⟩
theorem se{dV kV doc pm bS ct:Yz}{an od:Yq}{dT:YH}{n:Nat}{t0:Tok}{sl:Yj}(hd:dV=.ref dT)(ld:K.lookup dT=some ⟨.type "tuple",od,.seq #[.str "" t0,.none] n,sl⟩):Binds K (PySem.W.fnOf "__init__" "HideError.__init__" (cI bX) (bt bX) (aC bX) dV kV doc pm an bS ct) ["self","words","cell"] [.none]:=by
 subst hd;intro s us X hl;have Cb:us.length=2:=by simpa using hl
 match us,Cb with
 | [a,b],_=>exact BindsTo.of_defaults (T:=dT) (items:=#[.str "" t0,.none]) (n:=n) rfl (X _ _ ld) rfl rfl rfl
theorem tD{dV kV doc pm bS ct:Yz}{an od:Yq}{dT:YH}{n:Nat}{t0:Tok}{sl:Yj}(hd:dV=.ref dT)(ld:K.lookup dT=some ⟨.type "tuple",od,.seq #[.str "" t0,.none] n,sl⟩):Binds K (PySem.W.fnOf "__init__" "HideError.__init__" (cI bX) (bt bX) (aC bX) dV kV doc pm an bS ct) ["self","words","cell"] []:=by
 subst hd;intro s us X hl;have Cb:us.length=3:=by simpa using hl
 match us,Cb with
 | [a,b,c],_=>first | exact BindsTo.of_eq rfl | exact BindsTo.of_defaults (T:=dT) (items:=#[.str "" t0,.none]) (n:=n) rfl (X _ _ ld) rfl rfl rfl
theorem uQ:cm ["e","flags"] ["e"] (aC fQ):=⟨rfl,rfl,rfl,by decide +kernel,rfl,by decide +kernel,by decide +kernel⟩
theorem CD{f HE:YH}{fd:YF}(F:Ca K "_law_flags" "_law_flags" fQ f fd)(hi:mg "isinstance"=none)(hv:mg "ValueError"=none){D1 D2 D3 D4 D5 D6 D7 D8 D9 D10:YH}(m1:mg "NoHiding"=some (.ref D1))(m2:mg "NoNumber"=some (.ref D2))(m3:mg "TooMany"=some (.ref D3))(m4:mg "NoCell"=some (.ref D4))(m5:mg "NoShot"=some (.ref D5))(m6:mg "NothingLeft"=some (.ref D6))(m7:mg "NoCounts"=some (.ref D7))(m8:mg "Over"=some (.ref D8))(m9:mg "NoText"=some (.ref D9))(P3:mg "NoRow"=some (.ref D10)) :
  O8 P w K mg base 1 f fd ["e"] (ME K mg HE):=by
 obtain⟨oc,od,kV,doc,pm,an,bS,ct,ug,rfl,lk,fX⟩:=F.ex;refine JN lk fX uQ (λvs H Q E ⟨v,C,c,h,_⟩=>by rw[h];rfl) λA outer s H vs Q mE=>?_;have hN:=uQ.nd;have cat:∀{X:Cx},jf X (binaryOp .Add) rCat:=JH;refine⟨_,gw (iD hN (i:=1) rfl (.inl rfl) (sD (aP (fW (i:=0) hi m1) (aP (fW (i:=0) hi m2) (aP (fW (i:=0) hi m3) (aP (fW (i:=0) hi m4) b9 rfl) rfl) rfl) rfl)) rfl (.inr rfl)) (gw (iD hN (i:=1) rfl (.inl rfl) (EM cat (bK (i:=1) rfl (.inl rfl) @2 @2) (sD (aP (fW (i:=0) hi m5) (aP (fW (i:=0) hi m6) (aP (fW (i:=0) hi m7) (aP (fW (i:=0) hi m8) b9 rfl) rfl) rfl) rfl))) rfl (.inr rfl)) (gO (rX (EM cat (bK (i:=1) rfl (.inl rfl) @2 @2) (sD (aP (fW (i:=0) hi m9) (aP (fW (i:=0) hi P3) (aP (Lj (i:=0) hi hv) b9 rfl) rfl) rfl)))))),?_⟩;exact yv m1 m2 m3 m4 m5 m6 m7 m8 m9 P3 mE
end
end K13
namespace K13
open PySem PySem.Spec PyProof.Rows L2 Mi Xc
open PySem.W (nsIn findIn keepIn codeIn mg_of mg_none_of)
theorem all_mk{l:PySem.W.OpenLaw}{w:YE}{K:Yy}{h:YD}{mg:Yk}{fa:YH}(X:K.In h)(G:h.Ns mainGlobals mg)(TR:mg "law"=some (.ref fa))
  {f0 f1 f2 f3 f4 f5 f6 f7 f8 f9 f10 f11 f12 f13 f14 f15 f16 f17 f18 f19 f20 f21 f22 f23 f24 f25 f26 f27 f28 f29 f30 f31 f32 f33 f34 f35 f36 f37 f38 f39 f40 f41 f42 T9:YH}
  (h0:et K "_law_stir" st__law_stir f0)
  (h1:et K "_law_drawn" st__law_drawn f1)
  (h2:et K "_law_game" st__law_game f2)
  (h3:et K "_law_ships" st__law_ships f3)
  (h4:et K "_law_cells" st__law_cells f4)
  (h5:et K "_law_halo" st__law_halo f5)
  (h6:et K "_law_free" st__law_free f6)
  (h7:et K "_law_all" st__law_all f7)
  (h8:et K "_law_played" st__law_played f8)
  (h9:et K "_law_order" st__law_order f9)
  (RZ:et K "_law_sheet_cells" st__law_sheet_cells f10)
  (R0:et K "_law_answers" st__law_answers f11)
  (R7:et K "_law_record" st__law_record f12)
  (R8:et K "_law_fits" st__law_fits f13)
  (R9:et K "all_cells" st_all_cells f14)
  (Sa:et K "is_tuple_of" st_is_tuple_of f15)
  (Sb:et K "is_whole" st_is_whole f16)
  (Sd:et K "is_size" st_is_size f17)
  (Se:et K "is_cell" st_is_cell f18)
  (Sf:et K "is_ship" st_is_ship f19)
  (Pd:et K "ships_of" st_ships_of f20)
  (Sg:et K "cells_of" st_cells_of f21)
  (Si:et K "answer_to" st_answer_to f22)
  (Sj:et K "answers_of" st_answers_of f23)
  (Sk:et K "shot_cells" st_shot_cells f24)
  (Sl:et K "fits" st_fits f25)
  (Sm:et K "ship_fits" st_ship_fits f26)
  (Sn:et K "rows_between" st_rows_between f27)
  (So:et K "columns_between" st_columns_between f28)
  (Sq:et K "keep" st_keep f29)
  (Sr:et K "may_follow" st_may_follow f30)
  (Ss:et K "hidings_among" st_hidings_among f31)
  (Su:et K "all_fitting" st_all_fitting f32)
  (Sv:et K "some_fitting" st_some_fitting f33)
  (Sw:et K "refuse_shot" st_refuse_shot f34)
  (Sx:et K "unshot_cells" st_unshot_cells f35)
  (Sy:et K "ship_counts" st_ship_counts f36)
  (Sz:et K "parts_in" st_parts_in f37)
  (SA:et K "parts_of" st_parts_of f38)
  (SB:et K "_law_told" st__law_told f39)
  (h40:et K "_law_only" st__law_only f40)
  (SC:et K "_law_due" st__law_due f41)
  (SE:et K "law" st_law f42)
  (Ua:et K "_law_flags" fQ T9)
  (z_ValueError:nsIn K mainGlobals "ValueError"=some none)
  (z_all:nsIn K mainGlobals "all"=some none)
  (z_bool:nsIn K mainGlobals "bool"=some none)
  (z_enumerate:nsIn K mainGlobals "enumerate"=some none)
  (z_int:nsIn K mainGlobals "int"=some none)
  (z_isinstance:nsIn K mainGlobals "isinstance"=some none)
  (z_len:nsIn K mainGlobals "len"=some none)
  (z_list:nsIn K mainGlobals "list"=some none)
  (z_max:nsIn K mainGlobals "max"=some none)
  (z_min:nsIn K mainGlobals "min"=some none)
  (z_range:nsIn K mainGlobals "range"=some none)
  (z_set:nsIn K mainGlobals "set"=some none)
  (z_sorted:nsIn K mainGlobals "sorted"=some none)
  (z_sum:nsIn K mainGlobals "sum"=some none)
  (z_tuple:nsIn K mainGlobals "tuple"=some none)
  (z_zip:nsIn K mainGlobals "zip"=some none)
  {t_GREATEST:Tok} (a_GREATEST:nsIn K mainGlobals "GREATEST"=some (some (.int 8 t_GREATEST)))
  {nt:YH} {od_WAYS:Yq} {n_WAYS:Nat} {sl_WAYS:Yj} {t0_WAYS t1_WAYS:Tok} (a_WAYS:nsIn K mainGlobals "WAYS"=some (some (.ref nt))) (l_WAYS:K.lookup nt=some ⟨.type "tuple",od_WAYS,.seq #[(.str "along" t0_WAYS),(.str "down" t1_WAYS)] n_WAYS,sl_WAYS⟩)
  {fI dT:YH} {cH c0 c1 c2 c3 c4 c5 c6 c7 c8 c9:Nat} (xH:uT K "HideError" cH bmV)
  (x0:uT K "NoHiding" c0 (.ref cH::bmV))
  (x1:uT K "NoNumber" c1 (.ref cH::bmV))
  (x2:uT K "TooMany" c2 (.ref cH::bmV))
  (x3:uT K "NoCell" c3 (.ref cH::bmV))
  (x4:uT K "NoShot" c4 (.ref cH::bmV))
  (x5:uT K "NothingLeft" c5 (.ref cH::bmV))
  (x6:uT K "NoCounts" c6 (.ref cH::bmV))
  (x7:uT K "Over" c7 (.ref cH::bmV))
  (x8:uT K "NoText" c8 (.ref cH::bmV))
  (x9:uT K "NoRow" c9 (.ref cH::bmV))
  (r0:PF K c0 fI)
  (r3:PF K c3 fI)
  (r4:PF K c4 fI)
  {kV_i dc_i pm_i cd_i ct_i:Yz} {od_i an_i odT:Yq} {sl_i slT:Yj} {nT:Nat} {tT:Tok} (jm:K.lookup fI=some ⟨.type "function",od_i,.func (PySem.W.fnOf "__init__" "HideError.__init__" (cI bX) (bt bX) (aC bX) (.ref dT) kV_i dc_i pm_i an_i cd_i ct_i),sl_i⟩) (uc:codeIn K cd_i "HideError.__init__"=true) (mH:K.lookup dT=some ⟨.type "tuple",odT,.seq #[.str "" tT,.none] nT,slT⟩)
  (lt:[cH,c0,c1,c2,c3,c4,c5,c6,c7,c8,c9].Pairwise (@LT.lt Nat _))
  : ∃fd:YF,(∀(s:YA)(v:Yz),BindsTo s fd ⟨[v],[]⟩ [("script",v)])/\∀base:YD,K.In base->base.Ns mainGlobals mg->eh l.prog w K mg base l9 12 fa fd ["script"] (EI K 1 .cl (@m_law ⟨hashStr w⟩)):=by
 letI:Th:=⟨hashStr w⟩;obtain⟨oc,kV,dc,pm,cd,ct,od,an,sl,aL,lL,cL,kL⟩:=SE;have e:=TR.symm.trans (mg_of X G aL);cases e;refine⟨PySem.W.fnOf "law" "law" (cI st_law) (bt st_law) (aC st_law) .none kV dc pm an cd ct,λs v=>.of_eq rfl,λbase _ _=>?_⟩
 let W:Wd:=⟨l.prog,w,K,mg,base⟩
 have a {x st f} (A:et K x st f):W.At x st:=A.at X G;have T:Tx W:=⟨Va X G z_ValueError,Va X G z_all,Va X G z_bool,Va X G z_enumerate,Va X G z_int,Va X G z_isinstance,Va X G z_len,Va X G z_list,Va X G z_max,Va X G z_min,Va X G z_range,Va X G z_set,Va X G z_sorted,Va X G z_sum,Va X G z_tuple,Va X G z_zip,⟨(.int 8),_,mg_of X G a_GREATEST,⟨_,rfl⟩,λ_=>rfl⟩,⟨.ref nt,_,mg_of X G a_WAYS,rfl,λ_=>⟨nt,[(.str "along"),(.str "down")],rfl,.inr ⟨_,_,_,l_WAYS,rfl,rfl,(show(2:Nat)<=sizeLine by decide),(.cons ⟨_,rfl⟩ (.cons ⟨_,rfl⟩ .nil))⟩,⟨_,_,rfl,⟨rfl,by decide +kernel⟩,⟨_,_,rfl,⟨rfl,by decide +kernel⟩,rfl⟩⟩⟩⟩,rfl⟩;have OI:eh l.prog w K mg base l9 1 fI _ _ (MW K cH fI):=Gq jm uc (Va X G z_ValueError);have e0:=x0.ec r0 jm;have XC_NoHiding:XC l.prog w K mg base 1 "NoHiding":=⟨c0,cH,fI,_,x0.g X G,e0,OI,se rfl mH,tD rfl mH⟩;have e3:=x3.ec r3 jm;have XC_NoCell:XC l.prog w K mg base 1 "NoCell":=⟨c3,cH,fI,_,x3.g X G,e3,OI,se rfl mH,tD rfl mH⟩;have e4:=x4.ec r4 jm;have XC_NoShot:XC l.prog w K mg base 1 "NoShot":=⟨c4,cH,fI,_,x4.g X G,e4,OI,se rfl mH,tD rfl mH⟩;have OT:=J4 (L:=[("NoHiding",c0),("NoNumber",c1),("TooMany",c2),("NoCell",c3),("NoShot",c4),("NothingLeft",c5),("NoCounts",c6),("Over",c7),("NoText",c8),("NoRow",c9)]) X G (dY x0 (dY x1 (dY x2 (dY x3 (dY x4 (dY x5 (dY x6 (dY x7 (dY x8 (dY x9 Lv)))))))))) lt Mp;have CL0:FX K mg cH "NoHiding" c0:=wX e0 r0.2.2.2.2.1 r0.2.2.2.2.2.1 r0.2.2.2.2.2.2 (OT ("NoHiding",c0) (.head _));have CL3:FX K mg cH "NoCell" c3:=wX e3 r3.2.2.2.2.1 r3.2.2.2.2.2.1 r3.2.2.2.2.2.2 (OT ("NoCell",c3) (.tail _ (.tail _ (.tail _ (.head _)))));have CL4:FX K mg cH "NoShot" c4:=wX e4 r4.2.2.2.2.1 r4.2.2.2.2.2.1 r4.2.2.2.2.2.2 (OT ("NoShot",c4) (.tail _ (.tail _ (.tail _ (.tail _ (.head _))))));obtain⟨_,F43,k43,g43⟩:=Ua.fn X G;have b43:=F43.binds (ps:=["e"]) λ_ _ _ _ _ _=>NR λ_=>rfl;have TX:RO l.prog w K mg base cs_:=by
  have GH:=xH.g X G;obtain⟨_,_,_,_,_,_,_,_,_,_,_,_,_,_,_,lH⟩:=xH;exact⟨cH,_,_,_,_,_,_,_,_,_,_,_,_,_,_,T9,_,GH,lH,(rV (x0.g X G) CL0 (rV (x3.g X G) CL3 (rV (x4.g X G) CL4 JR))),CD F43 (Va X G z_isinstance) (Va X G z_ValueError) (x0.g X G) (x1.g X G) (x2.g X G) (x3.g X G) (x4.g X G) (x5.g X G) (x6.g X G) (x7.g X G) (x8.g X G) (x9.g X G),g43,k43,b43⟩
 have C0:=tV (a h0) T;have C1:=ql (a h1) T C0;have C2:=sQ (a h2) T C1;have C3:=qi (a h3) T;have C4:=pZ (a h4) T;have C5:=so (a h5) T C4;have C6:=tO (a h6) T;have C7:=vF (a h7) T C3 C5 C4 C6;have C8:=oo (a h8) T C2 C7;have C9:=p' (a h9) T C0;have C10:=jt (a RZ) T;have C11:=mK (a R0) T C4;have C12:=oU (a R7) T C1 C9 C10 C11;have C13:=sf (a R8) T C11;have C14:=tR (a R9) T;have C15:=nF (a Sa) T;have C16:=uw (a Sb) T;have C17:=xK (a Sd) T C16;have C18:=xj (a Se) T C15 C16;have C19:=xU (a Sf) T C15 C17 C18;have C20:=vW (a Pd) T C14 C19;have C21:=uO (a Sg) T;have C22:=r9 (a Si) T;have C23:=qh (a Sj) T C21 C22;have C24:=qj (a Sk) T;have C25:=HM (a Sl) T C23 C24;have C26:=tH (a Sm) T C21 C25;have C27:=mN (a Sn) T;have C28:=jK (a So) T;have C29:=Ib (a Sq) T C27 C28;have C30:=pX (a Sr) T C29;have C31:=lA (a Ss) T C30;have C32:=om (a Su) T C20 C26 C21 C31;have C33:=mJ (a Sv) T XC_NoHiding C32;have C34:=oN (a Sw) T XC_NoCell XC_NoShot C18 C24;have C35:=mM (a Sx) T C24 C14;have C36:=oO (a Sy) T;have C37:=wm (a Sz) T C35 C36 C21;have C38:=uJ (a SA) T C33 C34 C37;have C39:=rN (a SB) T TX C38;have C40:=sF (a h40) T;have C41:=v8 (a SC) T C40 C10 C11;exact Kb (W:=W) (Dw (st:=st_law) lL cL kL) T C8 C12 C13 C0 C10 C39 C41
theorem EY{l:PySem.W.OpenLaw}{q:YB}{loose:Yr}{XP:Yk->YD->Prop}{YP:YE->YD->Prop}{d:DefRec}{K:Params->Yy}(hn:l.most=some 63)(OF:d.params.defaults=[])
  (hY:∀(w:YE)(h:YD),YP w h->(K w.params).In h)
  (F:∀(w:YE)(mg:Yk)(fa:YH)(h:YD),(K w.params).In h->h.Ns mainGlobals mg->mg d.name=some (.ref fa)->
   ∃fd:YF,(∀(s:YA)(u:Yz),BindsTo s fd ⟨[u],[]⟩ [("script",u)])/\∀base:YD,(K w.params).In base->base.Ns mainGlobals mg->eh l.prog w (K w.params) mg base l9 12 fa fd ["script"] (EI (K w.params) 1 .cl (@m_law ⟨hashStr w⟩))) :
  PySem.W.WalkO q loose XP YP l.row.toRowW d [] (λf vs=>PySem.call f vs):=
 L2.G4 (n:=63) (k:=12) (x:="script") (CX:=λ_=>l9) (sp:=λw=>EI (K w.params) 1 .cl (@m_law ⟨hashStr w⟩)) hn @2 OF ⟨rfl,by decide,by decide⟩ hY F
  (λw H a ns hl _ hS=>⟨H,[.lst (ns.map .int)],.bl true,rfl,λ_ _ z=>z,⟨_,_,rfl,⟨a,_,rfl,hS,av.ints ns⟩,rfl⟩,@law_true ⟨hashStr w⟩ ns hl,λv Z' H' _ g=>g⟩) λ_ _ _ _ _ z=>z
end K13
structure PySem.W.Fast:Prop where(tw10462874532502486000 tw1230266389304027234 tw9010661107682483744 tw8787656359615847907 tw904792236348696760 tw17548035693620482807 tw14741983452043072211 tw3691860764013693698 tw2744974573090902573 tw9301343140352927085 tw17550548994121998780 tw17490868689288963462 tw17697508325417785101 tw9336141423840463583 tw7619630805704406408 tw1921741753330044082 tw10501071840611108180 tw14380320692622974808 tw10875428270902229400 tw15103868327625904246 tw15741422095690863738 tw681816625464260015 tw3596055042327521221 tw14428491566430051469 tw13867387612432891180 tw6132034613764149840 tw202332191960935928 tw2937826326168869403 tw14348450008592808606 tw15821214701855210377 tw4875148207093780811 tw1455602241650759972 tw1323293319714135922 tw18143241068788049563 tw981635134837050163 tw13211769977797796910 tw10119567310932869299 tw16041777528703410913 tw878956475163083936 tw16111089377960640997 tw14231751433842011722 tw17644857528594453618 tw11610863074960770445 tw12620265458075518788 tw8319967706750184140 tw8850501440341051292 tw4233896109513440247 tw15018783573094736036 tw15395041403003439512 tw6438523564715799837 tw5090819114375816747 tw13213500391998662141 tw11165520729686363564 tw10654401032127758559 tw15537386961341209191 tw10064107804273475085 tw14567046167587568599 tw6547754714913615936 tw9236304555430368302 tw14816249107593113329 tw6502721858482191768 tw4052740143604666848 tw9410812212673396307 tw16535069330002119089 tw4483621454987536459 tw11211183489272111379 tw5548777134380438108 tw4180273371492670527 tw16542547392347250261 tw9918709417052148789 tw14148417109742162775 tw3951217938579903752 tw8978774237971216664 tw9622824714650122511 tw18301444800587555528 tw167290869461065345 tw14322761833334455124 tw4134793777453191982 tw16323806297911612665 tw11377238626257593993 tw13896488291830519398 tw7815008924001192539 tw4322817478994969809 tw15412934025034274799 tw2702507384029902874 tw5754947253206501814 tw12329516279245743252 tw15999436478084159040 tw15583931530441475249 tw8248629164771486322 tw18016143817582034647 tw14386416535284901563 tw11945671537433789421 tw5815886018767962837 tw6655537768170894021 tw17319577488888117836 tw9242945754997968769 tw11644915567322750931 tw17610345367580551419 tw15842042599054586461 tw5655072349064302177 tw7676590871377589873 tw4729529115471644402 tw9195639164236317649 tw8704878164373501704 tw9669203650006919864 tw2290737491969243013 tw17345246087154099460 tw12238608922132773069 tw5781248048837793790 tw14008042204400091177 tw10105852953664774904 tw6722042263742030397 tw7081081651036712914 tw13814798686424265433 tw1947997980008001802 tw12876208901278037958 tw1732619604535624729 tw3612793246541660693 tw10268501693654476082 tw6466339343284012877 tw12448957079013414330 tw11570795714872178729 tw12727595495716329828 tw18016872056288796421 tw15909110135756076236 tw1154577100393931087 tw6380102469806483026 tw5664694699890950564 tw10294441649127949237 tw2748875578793332527 tw13237516307961157822 tw927311517976183514 tw7038572202891570954 tw14821462840383100814 tw16278636856462156188 tw8923178479404200418 tw5949281731166286923 tw13530832270249488255 tw13184883781967749004 tw7677131368492192252 tw14557182471765206483 tw10822922301216917938 tw797062087538058373 tw6800463147687097767 tw7820253687360555164 tw16196782018637130848 tw17671458102196741559 tw11322591966365737834 tw15571510312375554532 tw7590019849684990411 tw5114461182430202397 tw10591000182779767488 tw4331893128440661526 tw12027846637555082627 tw16001460538339553217 tw10340334466229362439 tw3288524664603740439 tw2723973434992961309 tw15500798176361357693 tw4804736439978528649 tw2064464570911524806 tw1816503858205870647 tw12767568237914789788 tw14468989737870865592 tw6134710313133791950 tw9882051232058623026 tw7261099289053355135 tw13829877805231153659 tw14898487452429603109 tw3068064792051565127 tw18201859902378716802 tw7327884490214809886 tw16031520117750308452 tw14865037528442886717 tw1132841646493505784 tw5376439828181503375 tw16446384438437734092 tw12547702432995496620 tw2556054118019316832 tw2340676194313860364 tw9219771211425965484 tw15522651290046700970 tw15274364112150771617 tw1674964348772164745 tw9223217470763411116 tw7895107800463928712 tw4535314094997845380 tw3494799438619695174 tw5096261651379578415 tw11594760102349231350 tw1824036668480634069 tw8193492026703581426 tw13418050356980966988 tw4960089362358733832 tw9752893964452407715 tw11891521974725697196 tw2454713387554808525 tw6471311235833531882 tw16214693655837157172 tw1338803677779917660 tw16354194068370356036 tw1640059269268243908 tw9593843465381173108 tw6035448812841216471 tw7969114508959695548 tw8489449671516945163 tw3069923240271129868 tw12729421127098344548 tw3719353726948268421 tw18421430164930976877 tw11379399428304495269 tw2325290919930670494 tw5689583623973304812 tw8836587480800427235 tw11738612680067731009 tw13152819442056458467 tw17091954661402566305 tw4960385141302415186 tw15328385483118165524 tw6213868603332133908 tw7100338873796096977 tw13827507645694529875 tw11836286610084940738 tw6756663606068563900 tw6350824143192744996 tw8521015289510645475 tw6618733088273465096 tw14098653900767424638 tw17443716294931130775 tw12068919665936653848 tw9783926412864290698 tw17082664626779685751 tw5094330651991639846 tw11246582513006047993 tw4216879708982867811 tw9420802691281295192 tw6740793150414280005 tw14354980729365451049 tw10507307460029847603 tw7031431758322837750 tw17868392018388158425 tw6746612477313827270 tw13393454319022826404 tw2686065024379824140 tw12853453329993808851 tw5839699187726511221 tw5234619932041642897 tw16778461001454363753 tw3466252220763831934 tw3599644023032856524 tw6067136397364450949 tw5997931497081076011 tw9593877253889047292 tw5381080880155829011 tw7862632300931229042 tw5003329492557735056 tw15297360954611362321 tw4471176952283509428 tw7248124127380496155 tw3340748901726399945 tw7042504025813996695 tw10429877200110743176 tw17611225355120961560 tw12660991963288415418 tw98923524297289319 tw1648807128635083956 tw14851676109638518829 tw15970047603600753196 tw15776960618389252081 tw18336778905284620949 tw6077991730485727484 tw15087223175776046206 tw18149330934917293562 tw5055044282978538939 tw10711915210969270337 tw4142951151646580108 tw11107866641081728414 tw9786644810190326576 tw13500401795089321442 tw7011007105228724943 tw15191566888983607506 tw17062780910699005147 tw5305878267193769863 tw17792015825312868402 tw13909785503344493923 tw16950207700835758780 tw8595333327820703113 tw14747194920385416731 tw14315258185910868414 tw17889798569663657593 tw76787101578485980 tw14190024516362631381 tw6739375585037287917 tw6469257969132691917 tw12207100813443110231 tw672702826721004618 tw11290044795515772169 tw4102993063632267089 tw2067047760011220398 tw1957569160153726757 tw3272730864978592442 tw8688337302362291057 tw11867027147310453380 tw2201284865214210999 tw15125400903288742371 tw11081270197193894486 tw7463687400094553281 tw9303388883496868332 tw12219145140102594420 tw5466035787640754785 tw12138899400223295111 tw9443004839256331926 tw2246793925905374551 tw8809277931042473693 tw1952441136652735420 tw3833783322329521701 tw13399868386414794171 tw8842366381609163262 tw16978685420051941388 tw5540472228165649460 tw9960364449278112251 tw435344048403336049 tw10710985261866814165 tw17359700904533875872 tw11289800304684938982 tw1499833927992737304 tw12448730898933900878 tw8253845658648282157 tw1250766545386640283 tw9500726509842998853 tw9443591821414218779 tw10377274616855719881 tw2459305403959471537 tw14523338450719954365 tw2997344292534678515 tw2640536630106265332 tw13432732723311520872 tw14125942362616917145 tw5540746425631747978 tw18196440098815446241 tw7326890300189394639 tw7238585705854775602 tw8071944774818273107 tw9481153864195316077 tw17600926702098685644 tw2773934561341603358 tw11588708200302209538 tw9791232552258425838 tw5002575508534029968 tw13822268585586395802 tw11156708823777668097 tw3531098440483610329 tw10740850344843533336 tw12596760064576505172 tw1208001522328868406 tw17017411319117770135 tw12553693914321316518 tw14595167601930279074 tw4066690885375642681 tw6854511774948433944 tw5687951128055253441 tw10825618207834435980 tw16234694859215840924 tw15478605861094392521 tw2827020273162532961 tw13030571116794887561 tw17863204476882144032 tw11748486243173795308 tw16095294645454893642 tw8144593456388598413 tw10679699267980968600 tw9766195337367712574 tw2270098907283993849 tw3344247368405154153 tw18205062246364893496 tw10876226525758834557 tw17301387258880869799 tw1758188815772034731 tw17204777955655681200 tw12603546419216452523 tw11755043824840710190 tw14649286388719722687 tw4676490688252998612 tw10395096194331385825 tw9408713219387616642 tw18249756719351268711 tw3961349814731067056 tw9657375406553472977 tw11664583143571503558 tw9159186166635926718 tw11431463635650402533 tw8054644949314941990 tw3294760951616751842 tw17335657110943016757 tw7072399299765212773 tw8974818283032551291 tw6383317326976703082 tw11200122450667772868 tw7115051740972087423 tw2655625184052486776 tw17880041004318506689 tw3081702490161873619 tw14978139160862386431 tw5129475628634031782 tw14750225578387298082 tw5046772795560461298 tw3030825349267522092 tw4671845445479097147 tw6763169089806099649 tw17488685030910535461 tw9031927065165389782 tw11778702318790633889 tw15454373688505492945 tw17181460453866544469 tw12871501917785124554 tw3129322107912271112 tw9035121935727778445 tw11874592152396109374 tw16197565021919901552 tw1082245532438369821 tw5817131731097036655:True)
set_option hygiene true
open PySem PySem.W PyProof.Rows
local macro_rules | `(tactic| walk_at "at") => `(tactic| (refine' Mi.Nt ?a ?l ?c ?k; (case a => k_is); (case l => k_is); (case c => k_is); (case k => k_is)))
local macro_rules | `(tactic| walk_at "cl") => `(tactic| (refine' Mi.KI ?a ?l; (case a => k_is); (case l => k_is)))
local macro_rules | `(tactic| walk_at "rz") => `(tactic| (refine' ⟨?a, ?b, ?c, ?d, ?e, ?f, ?g⟩; (case a => k_is); (case b => k_is); (case c => k_is); (case d => k_is); (case e => k_is); (case f => k_is); (case g => k_is)))
set_option maxRecDepth 100000 in
set_option maxHeartbeats 0 in
theorem PySem.Challenge.cw_fleethide_k13_parts_of_a_shot_holds : PySem.Challenge.rw_fleethide_k13_parts_of_a_shot.Holds := by
  w_on
  o_law
  k_head
  (case hw=>w_witness2)
  k_fill
  refine K13.EY (l:=PySem.Challenge.rw_fleethide_k13_parts_of_a_shot) rfl rfl (fun w h Y=>PySem.W.kIn_of Y) ?F
  case F=>
    intro w mg fa h KX G hmg
    refine' K13.all_mk KX G hmg ?h0 ?h1 ?h2 ?h3 ?h4 ?h5 ?h6 ?h7 ?h8 ?h9 ?RZ ?R0 ?R7 ?R8 ?R9 ?Sa ?Sb ?Sd ?Se ?Sf ?Pd ?Sg ?Si ?Sj ?Sk ?Sl ?Sm ?Sn ?So ?Sq ?Sr ?Ss ?Su ?Sv ?Sw ?Sx ?Sy ?Sz ?SA ?SB ?h40 ?SC ?SE ?Ua ?z_ValueError ?z_all ?z_bool ?z_enumerate ?z_int ?z_isinstance ?z_len ?z_list ?z_max ?z_min ?z_range ?z_set ?z_sorted ?z_sum ?z_tuple ?z_zip ?ga_GREATEST ?ga_WAYS ?gl_WAYS ?xH ?x0 ?x1 ?x2 ?x3 ?x4 ?x5 ?x6 ?x7 ?x8 ?x9 ?r0 ?r3 ?r4 ?jm ?uc ?mH ?lt
    (case h0=>walk_at "at")
    (case h1=>walk_at "at")
    (case h2=>walk_at "at")
    (case h3=>walk_at "at")
    (case h4=>walk_at "at")
    (case h5=>walk_at "at")
    (case h6=>walk_at "at")
    (case h7=>walk_at "at")
    (case h8=>walk_at "at")
    (case h9=>walk_at "at")
    (case RZ=>walk_at "at")
    (case R0=>walk_at "at")
    (case R7=>walk_at "at")
    (case R8=>walk_at "at")
    (case R9=>walk_at "at")
    (case Sa=>walk_at "at")
    (case Sb=>walk_at "at")
    (case Sd=>walk_at "at")
    (case Se=>walk_at "at")
    (case Sf=>walk_at "at")
    (case Pd=>walk_at "at")
    (case Sg=>walk_at "at")
    (case Si=>walk_at "at")
    (case Sj=>walk_at "at")
    (case Sk=>walk_at "at")
    (case Sl=>walk_at "at")
    (case Sm=>walk_at "at")
    (case Sn=>walk_at "at")
    (case So=>walk_at "at")
    (case Sq=>walk_at "at")
    (case Sr=>walk_at "at")
    (case Ss=>walk_at "at")
    (case Su=>walk_at "at")
    (case Sv=>walk_at "at")
    (case Sw=>walk_at "at")
    (case Sx=>walk_at "at")
    (case Sy=>walk_at "at")
    (case Sz=>walk_at "at")
    (case SA=>walk_at "at")
    (case SB=>walk_at "at")
    (case h40=>walk_at "at")
    (case SC=>walk_at "at")
    (case SE=>walk_at "at")
    (case Ua=>walk_at "at")
    (case z_ValueError=>k_is)
    (case z_all=>k_is)
    (case z_bool=>k_is)
    (case z_enumerate=>k_is)
    (case z_int=>k_is)
    (case z_isinstance=>k_is)
    (case z_len=>k_is)
    (case z_list=>k_is)
    (case z_max=>k_is)
    (case z_min=>k_is)
    (case z_range=>k_is)
    (case z_set=>k_is)
    (case z_sorted=>k_is)
    (case z_sum=>k_is)
    (case z_tuple=>k_is)
    (case z_zip=>k_is)
    (case ga_GREATEST=>k_is)
    (case ga_WAYS=>k_is)
    (case gl_WAYS=>k_is)
    (case xH=>walk_at "cl")
    (case x0=>walk_at "cl")
    (case x1=>walk_at "cl")
    (case x2=>walk_at "cl")
    (case x3=>walk_at "cl")
    (case x4=>walk_at "cl")
    (case x5=>walk_at "cl")
    (case x6=>walk_at "cl")
    (case x7=>walk_at "cl")
    (case x8=>walk_at "cl")
    (case x9=>walk_at "cl")
    (case r0=>walk_at "rz")
    (case r3=>walk_at "rz")
    (case r4=>walk_at "rz")
    (case jm=>k_is)
    (case uc=>k_is)
    (case mH=>k_is)
    (case lt=>decide)
