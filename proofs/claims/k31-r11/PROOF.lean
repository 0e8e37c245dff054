
import PyProof.Rows.All
import Wide.All
import OpenK.AllK
import Wide.FinOn
import Lean
import PyProof.EqAt
import PyProof.EqKinds
import PyProof.TupleCall
import PyProof.SetScanFacts
import PyProof.SetRoads
import PyProof.SetNew
import PyProof.TupleKey
import PyProof.DictFindH
import PyProof.Rows.SetFrom
import KE.KDictOf
import PyProof.AttrMissHeap
import PyProof.MeetsDictList
import PyProof.FString5
import KE.KUnpackStar
import PyProof.StationsW
import PyProof.RulesDel
import PyProof.RulesAs
import PyProof.InstStoreFacts
import PyProof.ExcInit
import PyProof.ExcClass3
import PyProof.ExcBaseAll.ValueError
import PyProof.ExcArgsOwn
import KE.KLam
import KE.KMinKey
import KE.KDictList
import KE.KDictLaws
import KE.KDictSum
import PySem.Challenge.RW_fleethide_k31_whole_fewer_hidings_fewer
set_option Elab.async false
set_option linter.all false
set_option maxRecDepth 100000
set_option maxHeartbeats 4000000
abbrev WT:=PySem.Value->PySem.Shared->Prop
abbrev WU:=List (PySem.Addr×PySem.Obj)
abbrev WV:=Array (Option PySem.Value)
abbrev WW:=PySem.Str->Option PySem.Value
abbrev WX:=List (PySem.Str×PySem.Addr)
abbrev WY:=List (Int×Int)
abbrev WZ:=List PySem.Comprehension
abbrev W0:=List PySem.Value
abbrev W1:=Option PySem.Value
abbrev W2:=Option PySem.Addr
abbrev W3:=List PySem.Str
abbrev W4:=List PySem.Addr
abbrev W5:=List PySem.Expr
abbrev W6:=List PySem.Stmt
abbrev W7:=List Nat
abbrev W8:=List Int
abbrev W9:=Int×Int
abbrev W_:=PySem.W.Frag
abbrev Xa:=PySem.Value
abbrev Xb:=PySem.Shared
abbrev Xd:=PySem.Program
abbrev Xe:=PySem.Around
abbrev Xf:=PySem.Heap
abbrev Xg:=PySem.World
abbrev Xh:=PySem.FuncData
abbrev Xi:=PySem.Scope
abbrev Xj:=PySem.Addr
abbrev Xk:=PySem.Expr
abbrev Xl:=PySem.Stmt
def a_:=@PySem.wpAny_bind
def b_:=@Option.bind_eq_some_iff
def c_:=@List.length_map
def d_:=@PySem.wpAny_pure
def e_:=@PySem.Heap.get?_push_of_some
def f_:=@List.getElem?_eq_getElem
def g_:=@List.getD_eq_getElem?_getD
def h_:=@Nat.le_refl
def i_:=@List.getElem?_eq_some_iff
def j_:=@if_pos
def k_:=@if_neg
def l_:=@List.mem_cons_of_mem
def m_:=@List.getElem?_map
def n_:=@PySem.Heap.get?_push_size
def o_:=@List.mem_cons_self
def p_:=@List.getElem?_set_ne
def q_:=@PySem.Heap.lt_size
def r_:=@List.length_append
def s_:=@List.mem_singleton
def t_:=@List.mem_cons
def u_:=@List.size_toArray
def v_:=@List.getElem?_set_self
def w_:=@decide_eq_true
def x_:=@Bool.false_eq_true
def y_:=@List.mem_map
def z_:=@Nat.ne_of_lt
def A_:=@List.length_cons
def B_:=@Nat.le_trans
def C_:=@decide_eq_true_eq
def D_:=@Option.map_eq_some_iff
def E_:=@decide_eq_false
def F_:=@Bool.and_eq_true
def G_:=@List.getElem?_append_right
def H_:=@Option.bind_some
def I_:=@List.getElem?_append_left
def J_:=@List.mem_append_right
def K_:=@List.getElem?_eq_none
def L_:=@List.map_cons
def M_:=@List.all_eq_true
def N_:=@Nat.lt_of_lt_of_le
def O_:=@List.map_append
def P_:=@Bool.false_ne_true
def Q_:=@PySem.wpAny_holding
def R_:=@List.mem_of_getElem?
def Ss:=@Nat.zero_add
def Su:=@List.mem_append
def Sv:=@PySem.PassesOwn.never
def Sw:=@List.contains_cons
def Sx:=@Array.length_toList
def Sy:=@of_decide_eq_true
def Sz:=@PySem.wpAny_loadPart_at
def SA:=@List.mem_range
def SB:=@PySem.sizeLine_eq
def SC:=@PySem.wpAny_call_entry
def SE:=@PySem.Heap.get?_update_other
def SG:=@List.append_nil
def SH:=@List.mem_filter
def SI:=@PySem.wpAny_mono
def SJ:=@Array.getElem?_eq_getElem
def SL:=@List.pairwise_cons
def SM:=@PySem.Heap.SameBut.update
def SN:=@PySem.mem_of_lookup
def SO:=@List.map_map
def SQ:=@PySem.wpAny_setState_of
def SR:=@Int.toNat_natCast
def SS:=@PySem.Heap.get?_update_self
def SU:=@List.pairwise_iff_getElem
def SV:=@if_false
def SW:=@List.mem_map_of_mem
def SY:=@List.filterMap_cons
def SZ:=@PySem.Obj.data_mapFields
def S0:=@List.not_mem_nil
def S1:=@List.length_take
def S2:=@List.getElem?_replicate
def S3:=@PySem.wpAny_callSpecial?_slot
def S4:=@PySem.Heap.get?_none_of_le
def S5:=@List.replicate_succ
def S6:=@PySem.wpAny_isSubtype_exc
def S7:=@PySem.wpAny_newObj_type
def S8:=@List.pairwise_append
def S9:=@Array.getElem?_eq_some_iff
def S_:=@PySem.wpAny_field
def Ta:=@Bool.eq_iff_iff
def Tb:=@Nat.le_of_not_lt
def Tc:=@List.lookup_cons
def Td:=@List.take_length
def Te:=@PySem.F.plain_min_loop
def Tf:=@Array.getElem?_eq_none
def Tg:=@List.getElem?_zip_eq_some
def Ti:=@List.pairwise_map
def Tj:=@Ne.symm
def Tn:=@PySem.Obj.isFreed_of_fields
def To:=@List.length_filter_le
def Tp:=@congrArg
def Tq:=@PySem.wpAny_standAt
def Tr:=@PySem.F.slot_dict_keyiterator_next
def Ts:=@PySem.wpAny_setField_rec
def Tt:=@PySem.wpAny_forIn_list
def Tu:=@List.getElem_mem
def Tv:=@PySem.wpAny_askSetting
def Tz:=@Bool.not_true
def TC:=@PySem.wpAny_truthy_bool
def TF:=@List.flatten_cons
def TH:=@PySem.wpAny_seqItems
def TJ:=@Bool.or_true
def TK:=@PySem.wpAny_specialOf
def TM:=@List.length_nil
def TN:=@Int.emod_lt_of_pos
def TQ:=@PySem.wpAny_Call_Name_kw
def TR:=@PySem.W.mg_none_of
def TU:=@Nat.pow_succ
def TV:=@Nat.le_of_lt
def TY:=@PySem.wpAny_setField
def TZ:=@PySem.W.looks_findIn
def T1:=@PySem.wpAny_typeNameOfWhole_keyiter
def T3:=@Nat.pow_le_pow_right
def T4:=@List.append_assoc
def T5:=@Nat.lt_succ_of_lt
def T6:=@List.length_range
def T7:=@List.length_eq_zero_iff
def T8:=@PySem.F.slot_dict_setdefault
def T9:=@Nat.ne_of_gt
def T_:=@PyProof.Rows.callWith_type1
def Ua:=@Nat.add_assoc
def Ub:=@Nat.zero_le
def Uc:=@Nat.lt_irrefl
def Ud:=@List.cons_append
def Ue:=@PySem.wpAny_isInstance
def Ug:=@List.mem_flatMap
def Uh:=@List.zip_cons_cons
def Ui:=@List.perm_ext_iff_of_nodup
def Uj:=@Array.forIn_toList
def Uk:=@PySem.F.slot_tuple_iterator_next
def Ul:=@PySem.F.excBase_ValueError
def Um:=@List.take_append_drop
def Uo:=@List.length_singleton
def Up:=@if_true
def Uq:=@List.length_replicate
def Ur:=@List.mem_take_iff_getElem
def Us:=@List.drop_eq_getElem_cons
def Ut:=@PySem.Calls.call_function_entry
def Uu:=@Classical.byContradiction
def Uv:=@Int.emod_nonneg
def Uw:=@List.nil_append
def Ux:=@PySem.F.slot_tuple_hash
def Uy:=@List.ext_getElem?
def Uz:=@List.flatMap_cons
def UA:=@List.take_add_one
def UB:=@Prod.mk.injEq
def UC:=@PyProof.Rows.kind_sorted
def UD:=@PyProof.Rows.boot_sorted
def UE:=@PySem.AutoSeq1.wpAny_loadPart'
def UF:=@PySem.wpAny_typeNameOf_keyiter
def UG:=@List.getElem?_range
def UH:=@List.filter_cons
def UI:=@Int.eq_ofNat_of_zero_le
def UJ:=@List.filter_cons_of_pos
def UK:=@List.filter_cons_of_neg
def UL:=@Nat.le_succ
def UM:=@PySem.wpAny_pyNext_list_item
def UN:=@PySem.Calls.spliced_cons
def UO:=@PySem.W.callWith_K
def UP:=@PySem.W.cellsFrom_some
def UQ:=@PySem.Calls.callWith_builtin
def UR:=@Nat.lt_of_le_of_lt
def US:=@List.ne_nil_of_mem
def UT:=@List.nodup_cons
def UU:=@List.of_mem_zip
def UV:=@Nat.not_lt_zero
def UW:=@List.dropLast_concat_getLast
def UX:=@Nat.mul_assoc
def UY:=@PySem.wpAny_newList
def UZ:=@PySem.wpAny_attempt
def U0:=@PySem.F.slot_enumerate_next
def U1:=@Array.getElem?_toList
def U2:=@List.nodup_append
def U3:=@or_false
def U4:=@List.mem_append_left
def U5:=@PySem.wpAny_newFunctionEnv_cells
def U6:=@List.nodup_nil
def U7:=@PySem.wpAny_tryCatch
def U8:=@Nat.mod_eq_of_lt
def U9:=@PySem.codeAny_mono
def U_:=@List.map_flatMap
def Va:=@List.mem_drop_iff_getElem
def Vb:=@PySem.Heap.get?_update_ne
def Vc:=@List.findSome?_cons
def Vd:=@List.map_eq_nil_iff
def Ve:=@List.Pairwise.imp_of_mem
def Vf:=@PySem.F.args_tuple_add_2
def Vg:=@PySem.wpAny_getItem_list_slice
def Vh:=@PySem.wpAny_comprehension_free
def Vi:=@List.foldl_cons
def Vj:=@PySem.wpAny_execs_nil
def Vk:=@PySem.wpAny_passesOwn
def Vl:=@PySem.codeAny_builtin
def Vm:=@PySem.W.kat_nil
def Vn:=@List.mem_filterMap
def Vo:=@PySem.wpAny_pyIter_tuple
def Vp:=@PySem.wpAny_rule
def Vq:=@PySem.F.entry_tuple_add
def Vr:=@Int.le_refl
def Vs:=@List.pairwise_singleton
def Vt:=@Nat.mul_comm
def Vu:=@Nat.lt_trans
def Vv:=@List.map_nil
def Vw:=@PySem.wpAny_pyIter_list
def Vx:=@PySem.F.slot_tuple_add
def Vy:=@PySem.slot_list_getitem
def Vz:=@Int.le_trans
def VA:=@PySem.Heap.size_push
def VB:=@List.take_of_length_le
def VC:=@Bool.eq_false_iff
def VD:=@PySem.F.entry_min_loop
def VE:=@PySem.wpAny_dictEntries
def VF:=@Nat.and_mod_two_eq_one
def VG:=@List.mem_iff_getElem?
def VH:=@PySem.wpAny_pyNext_list_end
def VI:=@PySem.codeAny_call_function
def VJ:=@PySem.isSubtype_tuple_tuple
def VL:=@PySem.wpAny_execs_cons
def VM:=@PySem.wpAny_call
def VN:=@PyProof.Rows.callWith_builtin1
def VO:=@beq_self_eq_true
def VP:=@beq_iff_eq
def VQ:=@PySem.Heap.size_update
def VR:=@PySem.F.args_dict_setdefault_3
def VS:=@List.map_take
def VT:=@List.all_cons
def VU:=@Nat.mul_add
def VV:=@List.mem_of_mem_take
def VW:=@PySem.Calls.evalArgs_plain
def VX:=@PySem.wpAny_of_eq
def VY:=@PySem.wpAny_newFunctionEnv
def VZ:=@PySem.wpAny_letGo
def V0:=@PySem.codeAny_call_builtin
def V1:=@PySem.Around.under_plainId
def V2:=@PySem.wpAny_pyIter_keyiter
def V3:=@PySem.F.entry_dict_setdefault
def V4:=@List.length_set
def V5:=@PyProof.Rows.get?_update_seq
def V6:=@PyProof.Rows.entry_list_sort
def V7:=@PyProof.Rows.boot_isinstance
def V8:=@PySem.F.type_dict_setdefault
def V9:=@List.length_zip
def V_:=@PySem.F.slot_tuple_eq
def Wa:=@beq_eq_false_iff_ne
def Wb:=@List.filter_eq_self
def Wc:=@List.map_congr_left
def We:=@Function.comp_apply
def Wf:=@Nat.add_comm
def Wg:=@Array.getD_eq_getD_getElem?
def Wh:=@Int.le_of_lt
def Wi:=@PySem.F.slot_int_bit_length
def Wj:=@Nat.mod_lt
def Wk:=@PySem.W.codeRec_of
def Wl:=@PySem.Code.quiet_builtin
def Wm:=@PyProof.Rows.size_push'
def Wn:=@PySem.tupleKind_room_in1
def Wo:=@PySem.wpAny_fieldsOf
def Wp:=@Array.perm_iff_toList_perm
def Wq:=@PySem.wpAny_tupleItemsOf
def Wr:=@Option.toList_some
def Ws:=@Nat.mul_le_mul
def Wt:=@PySem.F.slot_dict_getitem
def Wu:=@Nat.mul_left_comm
def Wv:=@Nat.lt_trichotomy
def Ww:=@PySem.Calls.spliced_nil
def Wx:=@List.take_sublist
def Wy:=@List.reverse_cons
def Wz:=@PySem.Obj.cls_mapFields
def WA:=@PySem.wpAny_pyIter_enum
def WB:=@bne_self_eq_false
def WC:=@PySem.wpAny_pyIter_slot
def WD:=@PySem.plainId_quiet
def WE:=@Nat.succ_ne_self
def WG:=@List.any_eq_true
def WH:=@List.mem_flatten
def WI:=@Nat.mul_succ
def WJ:=@Nat.min_self
def WK:=@List.all_map
def WL:=@Bool.or_eq_true
def WM:=@Nat.and_div_two
def WN:=@Nat.and_le_left
def WO:=@Nat.add_mul
def WQ:=@Bool.false_and
def WR:=@List.take_succ
def WS:=@exists_eq_left
theorem cO{G:Prop}(h:∀Q:Prop,(G->Q)->Q):G:=h G id
namespace St
open PySem
def s5:Nat->Nat
 | 0=>0
 | n+1=>5*s5 n+1
def g5:Nat->Nat->Nat
 | 0,x=>x
 | n+1,x=>5*g5 n x+1
theorem Hj(x:Nat):∀n,g5 n x=x+s5 n*(4*x+1)
 | 0=>by simp[g5,s5]
 | n+1=>by
  unfold g5 s5;rw[Hj x n,WO,VU,UX]
  lia
theorem Cn(x m:Nat):∀n,g5 (m+n) x=g5 n (g5 m x)
 | 0=>rfl
 | n+1=>by rw[<- Ua];show 5*g5 (m+n) x+1=_;rw[Cn x m n];rfl
theorem A9(m:Nat):∀n,s5 (m+n)=s5 m+s5 n+4*(s5 m*s5 n)
 | 0=>by simp[s5]
 | n+1=>by
  rw[<- Ua];show 5*s5 (m+n)+1=s5 m+(5*s5 n+1)+4*(s5 m*(5*s5 n+1));rw[A9 m n,VU (s5 m),Wu (s5 m) 5]
  lia
theorem Cc:∀k,∃a,s5 (2 ^ k)=2 ^ k*(2*a+1)
 | 0=>⟨0,rfl⟩
 | k+1=>by
  obtain⟨a,h⟩:=Cc k;rw[TU,Nat.mul_two,A9];generalize s5 (2 ^ k)=s at h;generalize 2 ^ k=N at h;refine⟨a+s*(2*a+1),?_⟩;have e:(N+N)*(2*(a+s*(2*a+1))+1)=2*(N*(2*a+1))+4*(s*(N*(2*a+1))):=by
   rw[<- Nat.two_mul,UX 2 N];rw[show N*(2*(a+s*(2*a+1))+1)=N*(2*a+1)+N*(2*(s*(2*a+1))) by rw[<- VU];congr 1;lia];rw[VU,show N*(2*(s*(2*a+1)))=2*(s*(N*(2*a+1))) by
    rw[Wu N 2,Wu N s]]
   lia
  rw[e,<- h];lia
theorem Et(k x:Nat):g5 (2 ^ k) x%2 ^ (k+1)=(x+2 ^ k)%2 ^ (k+1):=by
 obtain⟨a,h⟩:=Cc k;rw[Hj,h,TU];generalize 2 ^ k=N;have:x+N*(2*a+1)*(4*x+1)=(x+N)+(N*2)*(a*(4*x+1)+2*x):=by
  rw[UX N,show(2*a+1)*(4*x+1)=2*(a*(4*x+1)+2*x)+1 by rw[WO,UX];lia];rw[VU,UX N 2];lia
 rw[this,Nat.add_mul_mod_self_left]
theorem full:∀(k x y:Nat),∃n,n<2 ^ k/\g5 n x%2 ^ k=y%2 ^ k
 | 0,x,y=>⟨0,by decide,by simp[Nat.mod_one]⟩
 | k+1,x,y=>by
  obtain⟨n,h1,h2⟩:=full k x y;have hp:2 ^ (k+1)=2*2 ^ k:=by rw[TU,Vt]
  by_cases h:g5 n x%2 ^ (k+1)=y%2 ^ (k+1)
  .exact⟨n,by lia,h⟩
  .refine⟨n+2 ^ k,by lia,?_⟩;rw[Cn,Et,hp]at *;generalize g5 n x=z at h h2;have hN:0<2 ^ k:=Nat.two_pow_pos k;generalize 2 ^ k=N at *;have e1:=Nat.mod_mod_of_dvd z (⟨2,by rw[Vt]⟩:N ∣ 2*N);have e2:=Nat.mod_mod_of_dvd y (⟨2,by rw[Vt]⟩:N ∣ 2*N);have b1:=Wj z (show 0<2*N by lia);have b2:=Wj y (show 0<2*N by lia);rw[Nat.add_mod,U8 (show N<2*N by lia)];generalize z%(2*N)=u at *;generalize y%(2*N)=v at *;have d1:=Nat.div_add_mod u N;have d2:=Nat.div_add_mod v N;have q1:u/N<2:=Nat.div_lt_of_lt_mul (by lia);have q2:v/N<2:=Nat.div_lt_of_lt_mul (by lia);have r1:=Wj u hN;have hr:u%N=v%N:=by lia
   generalize u/N=c at *;generalize v/N=d at *;rw[hr]at d1 r1;generalize v%N=w at *;have cc:c=0\/c=1:=by clear d1 d2;lia
   have dd:d=0\/d=1:=by clear d1 d2;lia
   rcases cc with rfl | rfl<;>rcases dd with rfl | rfl
   .exact absurd (by lia) h
   .rw[U8 (by lia)];lia
   .rw[show u+N=2*N+v by lia,Nat.add_mod_left,U8 (by lia)]
   .exact absurd (by lia) h
theorem gap:∀(l:W7)(a:Nat),l.Pairwise (· < ·)->(∀x∈l,a<=x)->∃x,a<=x/\x<=a+l.length/\x∉l
 | [],a,_,_=>⟨a,h_ _,by simp,by simp⟩
 | b::r,a,h,hl=>by
  obtain⟨h1,h2⟩:=SL.mp h;have hb:=hl b o_
  by_cases e:b=a
  .subst e;obtain⟨x,x1,x2,x3⟩:=gap r (b+1) h2 λx hx=>h1 x hx;refine⟨x,by lia,by simp;lia,λhx=>?_⟩;rcases t_.mp hx with z | z
   .lia
   .exact x3 z
  .refine⟨a,h_ _,by simp,λhx=>?_⟩;rcases t_.mp hx with z | z
   .lia
   .have:=h1 a z;lia
theorem nj(xs:Array Nat)(j:Nat)(up:xs.toList.Pairwise (· < ·)):∀(fuel lo hi:Nat),lo<=hi->hi<=xs.size->hi-lo<=fuel->(∀x∈xs.toList.take lo,x<j)->(∀x∈xs.toList.drop hi,j<=x)->
  ∃r,SetTable.below.go xs j fuel lo hi=r/\r<=xs.size/\(∀x∈xs.toList.take r,x<j)/\∀x∈xs.toList.drop r,j<=x
 | 0,lo,hi,h1,h2,h3,h4,h5=>⟨lo,rfl,by lia,h4,by rw[show lo=hi by lia];exact h5⟩
 | fuel+1,lo,hi,h1,h2,h3,h4,h5=>by
  unfold SetTable.below.go
  by_cases hl:lo<hi
  .rw[j_ hl];dsimp only;have hm:(lo+hi)/2<xs.size:=by lia
   have hg:xs.getD ((lo+hi)/2) j=xs.toList[(lo+hi)/2]'(by simpa using hm):=by simp[Array.getD,hm]
   rw[hg];generalize hmm:(lo+hi)/2=mid at *;have Re:mid<xs.toList.length:=by simpa using hm
   by_cases hc:xs.toList[mid]<j
   .rw[j_ hc];refine nj xs j up fuel (mid+1) hi (by lia) h2 (by lia) (λx hx=>?_) h5;obtain⟨i,hi1,rfl⟩:=Ur.mp hx
    by_cases e:i=mid
    .subst e;exact hc
    .exact Vu (SU.mp up i mid (by lia) Re (by lia)) hc
   .rw[k_ hc];refine nj xs j up fuel lo mid (by lia) (by lia) (by lia) h4 (λx hx=>?_);obtain⟨i,hi1,rfl⟩:=Va.mp hx
    by_cases e:i=0
    .subst e;simpa using hc
    .have:=SU.mp up mid (mid+i) Re (by lia) (by lia)
     lia
  .rw[k_ hl];exact⟨lo,rfl,by lia,h4,by rw[show lo=hi by lia];exact h5⟩
theorem ng(xs:Array Nat)(j:Nat)(up:xs.toList.Pairwise (· < ·)):SetTable.below xs j<=xs.size/\(∀x∈xs.toList.take (SetTable.below xs j),x<j)/\∀x∈xs.toList.drop (SetTable.below xs j),j<=x:=by
 obtain⟨r,h1,h2⟩:=nj xs j up xs.size 0 xs.size (Ub _) (h_ _) (h_ _) (by simp) (λx hx=>by rw[<- Sx,List.drop_length]at hx;cases hx);unfold SetTable.below;rw[h1];exact h2
theorem below_at(up:xs.toList.Pairwise (· < ·))(h:xs[i]?=some j):SetTable.below xs j=i:=by
 obtain⟨h1,h2,h3⟩:=ng xs j up;generalize SetTable.below xs j=r at *;have h':xs.toList[i]?=some j:=by simpa using h
 obtain⟨hi,e⟩:=i_.mp h';rcases Wv r i with hlt | rfl | hgt
 .have hr:r<xs.toList.length:=by lia
  have a1:=h3 xs.toList[r] (Va.mpr ⟨0,by simpa using hr,by simp⟩);have a2:=SU.mp up r i hr hi hlt
  lia
 .rfl
 .have:=h2 xs.toList[i] (Ur.mpr ⟨i,by lia,rfl⟩)
  lia
theorem xc(j:Nat):SetTable.has #[] j=false:=by
 unfold SetTable.has;simp
theorem jZ{t:SetTable}{i j:Nat}(up:t.place.toList.Pairwise (· < ·))(h:t.place[i]?=some j):t.slot j=.live i:=by
 unfold SetTable.slot;rw[below_at up h];dsimp only;rw[h];simp
theorem u5{t:SetTable}{j:Nat}(hd:t.dummies=#[])(h:j∉t.place.toList):t.slot j=.empty:=by
 unfold SetTable.slot;dsimp only;rw[k_,hd,xc]
 .rfl
 .intro e;have e2:t.place[SetTable.below t.place j]?=some j:=by simpa using e
  exact h (by have:=Array.mem_of_getElem? e2;simpa using this)
def uy(mask:Nat)(p:SetTable.Probe):SetTable.Probe:=
 if p.more>0 then {p with j:=p.j+1,more:=p.more-1}else
 {p with j:=(SetTable.leap mask p.i p.perturb).1,more:=SetTable.runEnd mask (SetTable.leap mask p.i p.perturb).1-(SetTable.leap mask p.i p.perturb).1,i:=(SetTable.leap mask p.i p.perturb).1,perturb:=(SetTable.leap mask p.i p.perturb).2}
theorem HP(t:SetTable)(p:SetTable.Probe):t.advance p=uy t.mask p:=rfl
def it(mask:Nat)(p:SetTable.Probe):Nat->SetTable.Probe
 | 0=>p
 | m+1=>uy mask (it mask p m)
theorem jg(mask:Nat)(p:SetTable.Probe):∀m,it mask p (m+1)=it mask (uy mask p) m
 | 0=>rfl
 | m+1=>by show uy mask (it mask p (m+1))=uy mask (it mask (uy mask p) m);rw[jg mask p m]
theorem iW(mask:Nat)(p:SetTable.Probe)(a:Nat):∀b,it mask p (a+b)=it mask (it mask p a) b
 | 0=>rfl
 | b+1=>by rw[<- Ua];show uy mask (it mask p (a+b))=_;rw[iW mask p a b];rfl
def st(mask i aM:Nat):SetTable.Probe:={j:=i,more:=SetTable.runEnd mask i-i,i:=i,perturb:=aM,dummy:=none}
theorem tS(t:SetTable)(h:Int):t.probeStart h=st t.mask (SetTable.bits h%(t.mask+1)) (SetTable.bits h):=rfl
theorem qm(mask i:Nat)(h:i<=mask):SetTable.runEnd mask i-i<=9/\i<=SetTable.runEnd mask i/\SetTable.runEnd mask i<=mask:=by
 unfold SetTable.runEnd;split<;>lia
theorem l'(mask i aM:Nat):∀r,r<=SetTable.runEnd mask i-i->it mask (st mask i aM) r={j:=i+r,more:=SetTable.runEnd mask i-i-r,i:=i,perturb:=aM,dummy:=none}
 | 0,_=>rfl
 | r+1,h=>by
  show uy mask (it mask (st mask i aM) r)=_;rw[l' mask i aM r (by lia)];unfold uy;rw[j_ (by dsimp only;lia)];dsimp only;congr 1
def lp(mask:Nat):Nat->Nat×Nat->Nat×Nat
 | 0,q=>q
 | n+1,q=>lp mask n (SetTable.leap mask q.1 q.2)
theorem q9(mask i aM:Nat)(h:i<=mask):it mask (st mask i aM) (SetTable.runEnd mask i-i+1)=st mask (SetTable.leap mask i aM).1 (SetTable.leap mask i aM).2:=by
 show uy mask (it mask (st mask i aM) (SetTable.runEnd mask i-i))=_;rw[l' mask i aM _ (h_ _)];unfold uy;rw[k_ (by dsimp only;lia)]
 rfl
theorem lO(mask i aM:Nat):(SetTable.leap mask i aM).1<=mask:=by
 unfold SetTable.leap;have:=Wj (i*5+1+aM/32) (show 0<mask+1 by lia);dsimp only;lia
theorem G7(mask:Nat):∀(n i aM:Nat),i<=mask->∃m,m<=10*n/\it mask (st mask i aM) m=st mask (lp mask n (i,aM)).1 (lp mask n (i,aM)).2
 | 0,i,aM,_=>⟨0,h_ _,rfl⟩
 | n+1,i,aM,h=>by
  obtain⟨m,h1,h2⟩:=G7 mask n _ (SetTable.leap mask i aM).2 (lO mask i aM);have hr:=(qm mask i h).1;refine⟨SetTable.runEnd mask i-i+1+m,by lia,?_⟩;rw[iW,q9 mask i aM h,h2]
  rfl
theorem xv(mask:Nat):∀(n i aM:Nat),(lp mask n (i,aM)).2=aM/32 ^ n
 | 0,i,aM=>by simp[lp]
 | n+1,i,aM=>by
  show(lp mask n ((SetTable.leap mask i aM).1,aM/32)).2=_;rw[xv mask n,Nat.div_div_eq_div_mul,TU,Vt]
theorem uQ(mask a:Nat):∀(b:Nat)(q:Nat×Nat),lp mask (b+a) q=lp mask a (lp mask b q)
 | 0,q=>by rw[Ss];rfl
 | b+1,q=>by rw[show b+1+a=(b+a)+1 by lia];show lp mask (b+a) _=lp mask a (lp mask b _);rw[uQ mask a b]
theorem xX(mask:Nat):∀(n i:Nat),i<=mask->lp mask n (i,0)=(g5 n i%(mask+1),0)
 | 0,i,h=>by show(i,0)=(i%(mask+1),0);rw[U8 (by lia)]
 | n+1,i,h=>by
  have e:lp mask (n+1) (i,0)=SetTable.leap mask (lp mask n (i,0)).1 (lp mask n (i,0)).2:=by rw[uQ mask 1 n];rfl
  rw[e,xX mask n i h];show((g5 n i%(mask+1)*5+1+0/32)%(mask+1),0/32)=((5*g5 n i+1)%(mask+1),0);have:(g5 n i%(mask+1)*5+1+0/32)%(mask+1)=(5*g5 n i+1)%(mask+1):=by
   rw[Nat.zero_div,Nat.add_zero,Nat.add_mod,Nat.mod_mul_mod,<- Nat.add_mod,Vt]
  rw[this]
theorem GW(mask:Nat):∀(n i aM:Nat),i<=mask->(lp mask n (i,aM)).1<=mask
 | 0,i,aM,h=>h
 | n+1,i,aM,h=>GW mask n _ _ (lO mask i aM)
theorem wy(h:Int):SetTable.bits h<2 ^ 64:=by
 unfold SetTable.bits;have a:=Uv h (show(2 ^ 64:Int)≠0 by decide);have b:=TN h (show(0:Int)<2 ^ 64 by decide);have c:((2:Int) ^ 64)=((2 ^ 64:Nat):Int):=by decide
 lia
theorem meets(k:Nat)(mask:Nat)(hk:mask+1=2 ^ k)(i aM x:Nat)(hi:i<=mask)(hp:aM<2 ^ 64)(hx:x<=mask):∃n,n<=13+mask/\(lp mask n (i,aM)).1=x:=by
 have z:lp mask 13 (i,aM)=((lp mask 13 (i,aM)).1,0):=by
  have:=xv mask 13 i aM;rw[Nat.div_eq_of_lt (Vu hp (by decide))]at this;exact Prod.ext rfl this
 obtain⟨n,h1,h2⟩:=full k (lp mask 13 (i,aM)).1 x;refine⟨13+n,by lia,?_⟩;rw[uQ mask n 13,z,xX mask n _ (GW mask 13 i aM hi)];show g5 n _%(mask+1)=x;rw[hk,h2,<- hk,U8 (by lia)]
theorem jn(mask:Nat)(p:SetTable.Probe)(h:p.dummy=none):∀m,(it mask p m).dummy=none
 | 0=>h
 | m+1=>by
  show(uy mask (it mask p m)).dummy=none;unfold uy
  split
  .exact jn mask p h m
  .exact jn mask p h m
theorem GN(mask i aM:Nat)(hi:i<=mask):∀m,(it mask (st mask i aM) m).i<=mask/\(it mask (st mask i aM) m).j+(it mask (st mask i aM) m).more<=mask
 | 0=>⟨hi,by have:=qm mask i hi;show i+(SetTable.runEnd mask i-i)<=mask;lia⟩
 | m+1=>by
  obtain⟨h1,h2⟩:=GN mask i aM hi m;have e:it mask (st mask i aM) (m+1)=uy mask (it mask (st mask i aM) m):=rfl;rw[e];generalize it mask (st mask i aM) m=p at *;unfold uy
  split
  .exact⟨h1,by dsimp only;lia⟩
  .have hl:=lO mask p.i p.perturb;have hr:=qm mask _ hl;exact⟨hl,by dsimp only;lia⟩
structure Ok(t:SetTable)(hs:List Int):Prop where
 dum:t.dummies=#[]
 pw:∃k,t.mask+1=2 ^ k
 up:t.place.toList.Pairwise (· < ·)
 le:∀x∈t.place.toList,x<=t.mask
 len:t.place.size=hs.length
 lt:t.place.size<=t.mask
 ch:∀q∈t.place.toList.zip hs,∃m,(it t.mask (t.probeStart q.2) m).j=q.1/\∀m'<m,(it t.mask (t.probeStart q.2) m').j∈t.place.toList
theorem mX(mask:Nat)(h:Int):SetTable.bits h%(mask+1)<=mask:=by
 have:=Wj (SetTable.bits h) (show 0<mask+1 by lia);lia
theorem pJ{l:W7}{mask:Nat}(hk:∃k,mask+1=2 ^ k)(up:l.Pairwise (· < ·))(hl:l.length<=mask)(i aM:Nat)(hi:i<=mask)(hp:aM<2 ^ 64) :
  ∃n,n<=13+mask/\(lp mask n (i,aM)).1∉l:=by
 obtain⟨k,hk⟩:=hk;obtain⟨x,_,x2,x3⟩:=gap l 0 up λ_ _=>Ub _;obtain⟨n,h1,h2⟩:=meets k mask hk i aM x hi hp (by lia);exact⟨n,h1,by rw[h2];exact x3⟩
theorem Ok.soon{t:SetTable}{hs:W8}(o:Ok t hs)(h:Int):∃m,m<10*SetTable.turns t.mask/\(it t.mask (t.probeStart h) m).j∉t.place.toList:=by
 obtain⟨n,h1,h2⟩:=pJ o.pw o.up (by simpa using o.lt) _ _ (mX t.mask h) (wy h);obtain⟨m,h3,h4⟩:=G7 t.mask n _ (SetTable.bits h) (mX t.mask h);refine⟨m,by unfold SetTable.turns;lia,?_⟩;rw[tS,h4];exact h2
theorem sY(hd:t.dummies=#[])(up:t.place.toList.Pairwise (· < ·))(ha:Nat->Int)(h:Int):∀(fuel:Nat)(p:SetTable.Probe),p.dummy=none->(∃m,m<fuel/\(it t.mask p m).j∉t.place.toList)->
  ∃met m,SetTable.probe.go t ha h fuel p=some met/\(∀m'<m,∃i,t.place[i]?=some (it t.mask p m').j/\ha i≠h)/\
   ((met=.empty (it t.mask p m).j none/\(it t.mask p m).j∉t.place.toList)\/∃i,t.place[i]?=some (it t.mask p m).j/\ha i=h/\met=.candidate (it t.mask p m).j i (it t.mask p (m+1)))
 | 0,p,_,⟨m,h1,_⟩=>by lia
 | fuel+1,p,hp,⟨m,h1,h2⟩=>by
  unfold SetTable.probe.go
  by_cases hm:p.j∈t.place.toList
  .obtain⟨i,hi⟩:=VG.mp hm;have hi':t.place[i]?=some p.j:=by simpa using hi
   rw[jZ up hi'];dsimp only
   by_cases hh:ha i=h
   .rw[j_ (by simpa using hh)];exact⟨_,0,rfl,λm' z=>by lia,.inr ⟨i,hi',hh,rfl⟩⟩
   .rw[k_ (by simpa using hh),HP];have P4:m≠0:=λz=>h2 (by rw[z];exact hm);obtain⟨m1,rfl⟩:∃m1,m=m1+1:=⟨m-1,by lia⟩;obtain⟨met,m2,g1,g2,g3⟩:=sY hd up ha h fuel (uy t.mask p) (by have:=jn t.mask p hp 1;exact this) ⟨m1,by lia,by rw[<- jg];exact h2⟩;refine⟨met,m2+1,g1,λm' hm'=>?_,?_⟩
    .cases m' with
     | zero=>exact⟨i,hi',hh⟩
     | succ m'=>rw[jg];exact g2 m' (by lia)
    .rw[jg,jg];exact g3
  .rw[u5 hd hm];dsimp only;exact⟨_,0,rfl,λm' z=>by lia,.inl ⟨by rw[hp];rfl,hm⟩⟩
theorem xC:∀(p:Nat)(xs:List α)(ys:List β)(x:α)(y:β),xs.length=ys.length->p<=xs.length->(xs.take p++x::xs.drop p).zip (ys.take p++y::ys.drop p)=(xs.zip ys).take p++(x,y)::(xs.zip ys).drop p
 | 0,xs,ys,x,y,_,_=>rfl
 | p+1,[],_,_,_,_,h=>by simp at h
 | p+1,_::_,[],_,_,h,_=>by simp at h
 | p+1,a::xs,b::ys,x,y,h,hp=>by
  simp only[List.take_succ_cons,List.drop_succ_cons,Ud,Uh];rw[xC p xs ys x y (by simpa using h) (by simpa using hp)]
theorem qE(p:Nat)(l:List α)(x z:α):z∈l.take p++x::l.drop p↔z=x\/z∈l:=by
 rw[Su,t_];constructor
 .rintro(h | h | h)
  .exact .inr (VV h)
  .exact .inl h
  .exact .inr (List.mem_of_mem_drop h)
 .rintro(h | h)
  .exact .inr (.inl h)
  .rw[<- Um p l]at h;rcases Su.mp h with h | h
   .exact .inl h
   .exact .inr (.inr h)
theorem qU(p:Nat)(l:List α)(x:α):(l.take p++x::l.drop p).length=l.length+1:=by
 rw[r_,A_,<- Ua,<- r_,Um]
theorem Ok.put(o:Ok t hs)(h:Int)(m:Nat)(hj:(it t.mask (t.probeStart h) m).j∉t.place.toList)(hb:∀m'<m,(it t.mask (t.probeStart h) m').j∈t.place.toList)(hlt:t.place.size+1<=t.mask)(pl:Bool) :
  ∃p,(t.put (it t.mask (t.probeStart h) m).j).2=p/\p<=hs.length/\Ok {(t.put (it t.mask (t.probeStart h) m).j).1 with plain:=pl} (hs.take p++h::hs.drop p):=by
 have hle:=(GN t.mask _ (SetTable.bits h) (mX t.mask h) m).2;rw[<- tS]at hle;generalize hjj:(it t.mask (t.probeStart h) m).j=j at *;obtain⟨b1,b2,b3⟩:=ng t.place j o.up;refine⟨_,rfl,by rw[<- o.len];exact b1,?_⟩;show Ok {t with place:=SetTable.insertAt t.place (SetTable.below t.place j) j,dummies:=if SetTable.has t.dummies j then SetTable.eraseAt t.dummies (SetTable.below t.dummies j)else t.dummies,plain:=pl} (hs.take (SetTable.below t.place j)++h::hs.drop (SetTable.below t.place j));have hd:(if SetTable.has t.dummies j then SetTable.eraseAt t.dummies (SetTable.below t.dummies j)else t.dummies)=#[]:=by
  rw[o.dum,xc];rfl
 rw[hd];have hl:t.place.toList.length=hs.length:=by rw[<- o.len];simp
 have e1:=SetTable.toList_insertAt t.place (SetTable.below t.place j) j;have hsz:(SetTable.insertAt t.place (SetTable.below t.place j) j).size=t.place.size+1:=by
  rw[<- Sx,e1,qU];simp
 refine⟨rfl,o.pw,?_,λx hx=>?_,?_,?_,λq hq=>?_⟩
 .show List.Pairwise _ (SetTable.insertAt t.place _ j).toList;rw[e1];have hup:=o.up;rw[<- Um (SetTable.below t.place j) t.place.toList]at hup;obtain⟨u1,u2,u3⟩:=S8.mp hup;refine S8.mpr ⟨u1,SL.mpr ⟨λx hx=>?_,u2⟩,λx hx y hy=>?_⟩
  .have:=b3 x hx;have:x≠j:=λz=>hj (z▸List.mem_of_mem_drop hx)
   lia
  .rcases t_.mp hy with rfl | hy
   .exact b2 x hx
   .exact u3 x hx y hy
 .have jJ:x∈(SetTable.insertAt t.place (SetTable.below t.place j) j).toList:=hx;rw[e1,qE]at jJ;rcases jJ with rfl | jJ
  .show x<=t.mask;lia
  .exact o.le x jJ
 .show(SetTable.insertAt t.place _ j).size=_;rw[hsz,qU,o.len]
 .show(SetTable.insertAt t.place _ j).size<=_;rw[hsz];exact hlt
 .have uz:q∈(SetTable.insertAt t.place (SetTable.below t.place j) j).toList.zip (hs.take (SetTable.below t.place j)++h::hs.drop (SetTable.below t.place j)):=hq;have sub:∀x,x∈t.place.toList->x∈(SetTable.insertAt t.place (SetTable.below t.place j) j).toList:=λx hx=>by rw[e1,qE];exact .inr hx
  rw[e1,xC _ _ _ _ _ hl (by simpa using b1),qE]at uz;rcases uz with rfl | uz
  .exact⟨m,hjj,λm' hm'=>sub _ (hb m' hm')⟩
  .obtain⟨m2,g1,g2⟩:=o.ch q uz;exact⟨m2,g1,λm' hm'=>sub _ (g2 m' hm')⟩
def taken(ow:Array (Option Nat))(j:Nat):Prop:=∃k,ow[j]?=some (some k)
theorem vG(n:Nat)(f:Nat->Bool):(∃k,k<n/\(List.range n).find? f=some k/\f k=true/\∀k'<k,f k'=false)\/((List.range n).find? f=none/\∀k<n,f k=false):=by
 cases e:(List.range n).find? f with
 | none=>
  right;refine⟨rfl,λk hk=>?_⟩;have:=List.find?_eq_none.mp e k (SA.mpr hk);simpa using this
 | some k=>
  left;obtain⟨h1,h2⟩:=List.find?_eq_some_iff_append.mp e;obtain⟨as,bs,h3,h4⟩:=h2;have hk:k<n:=by
   have:k∈List.range n:=by rw[h3];simp
   exact SA.mp this
  refine⟨k,hk,rfl,h1,λk' hk'=>?_⟩;have hlen:as.length=k:=by
   have e1:(List.range n)[as.length]?=some k:=by rw[h3];simp
   rw[UG (by have:=Tp List.length h3;simp at this;lia)]at e1;exact Option.some.inj e1
  have:k'∈as:=by
   have e1:(List.range n)[k']?=some k':=UG (by lia);rw[h3,I_ (by lia)]at e1;exact R_ e1
  simpa using h4 k' this
theorem lE(hsz:ow.size=mask+1):∀(fuel i aM:Nat),i<=mask->(∃n,n<fuel/\¬taken ow (lp mask n (i,aM)).1)->
  ∃m,SetTable.layClean.free mask ow fuel i aM=some (it mask (st mask i aM) m).j/\¬taken ow (it mask (st mask i aM) m).j/\(it mask (st mask i aM) m).j<=mask/\∀m'<m,taken ow (it mask (st mask i aM) m').j
 | 0,i,aM,_,⟨n,h,_⟩=>by lia
 | fuel+1,i,aM,hi,⟨n,hn,ht⟩=>by
  obtain⟨r1,r2,r3⟩:=qm mask i hi;unfold SetTable.layClean.free;have gd:∀j,j<=mask->((ow.getD j (some 0)).isNone=true↔¬taken ow j):=λj hj=>by
   have hl:j<ow.size:=by lia
   unfold taken;rw[SJ hl];simp only[Array.getD,hl,dif_pos];cases h:ow[j]with
   | none=>simp[h]
   | some k=>simp[h]
  rcases vG (SetTable.runEnd mask i+1-i) (λk=>(ow.getD (i+k) (some 0)).isNone)with ⟨k,k1,k2,k3,k4⟩ | ⟨k2,k4⟩
  .rw[k2];dsimp only;have e:(it mask (st mask i aM) k).j=i+k:=by rw[l' mask i aM k (by lia)]
   refine⟨k,by rw[e],by rw[e];exact(gd _ (by lia)).mp k3,by rw[e];lia,λm' hm'=>?_⟩;rw[l' mask i aM m' (by lia)];have h1:=k4 m' hm';have h2:=gd (i+m') (by lia)
   by_cases hh:taken ow (i+m')
   .exact hh
   .rw[h2.mpr hh]at h1;cases h1
  .rw[k2];dsimp only;have n0:n≠0:=λz=>by
    subst z;have h1:=k4 0 (by lia);rw[Nat.add_zero,(gd i hi).mpr ht]at h1;cases h1
   obtain⟨n',rfl⟩:∃n',n=n'+1:=⟨n-1,by lia⟩;obtain⟨m,g1,g2,g3,g4⟩:=lE hsz fuel _ (SetTable.leap mask i aM).2 (lO mask i aM) ⟨n',by lia,ht⟩;rw[<- q9 mask i aM hi,<- iW]at g1 g2 g3;refine⟨_,g1,g2,g3,λm' hm'=>?_⟩
   by_cases hh:m'<SetTable.runEnd mask i-i+1
   .rw[l' mask i aM m' (by lia)];have h1:=k4 m' (by lia);have h2:=gd (i+m') (by lia)
    by_cases hk:taken ow (i+m')
    .exact hk
    .rw[h2.mpr hk]at h1;cases h1
   .have:=g4 (m'-(SetTable.runEnd mask i-i+1)) (by lia);rw[<- q9 mask i aM hi,<- iW]at this;rw[show SetTable.runEnd mask i-i+1+(m'-(SetTable.runEnd mask i-i+1))=m' by lia]at this;exact this
structure Lay(mask:Nat)(done:List Int)(ow:Array (Option Nat)):Prop where
 sz:ow.size=mask+1
 bd:∀(j k:Nat),ow[j]?=some (some k)->k<done.length
 on:∀k<done.length,∃j:Nat,ow[j]?=some (some k)
 inj:∀(j j' k:Nat),ow[j]?=some (some k)->ow[j']?=some (some k)->j=j'
 ch:∀(j k:Nat)(h:Int),ow[j]?=some (some k)->done[k]?=some h->∃m,(it mask (st mask (SetTable.bits h%(mask+1)) (SetTable.bits h)) m).j=j/\∀m'<m,taken ow (it mask (st mask (SetTable.bits h%(mask+1)) (SetTable.bits h)) m').j
def lv(mask:Nat)(ow:Array (Option Nat)):List (Nat×Nat):=(List.range (mask+1)).filterMap λj=>(ow.getD j none).map (j,·)
theorem getD_some{ow:Array (Option Nat)}{j k:Nat}:ow.getD j none=some k↔ow[j]?=some (some k):=by
 by_cases h:j<ow.size
 .simp[Array.getD,h]
 .simp[Array.getD,h]
theorem gK{mask:Nat}{ow:Array (Option Nat)}(hsz:ow.size=mask+1){q:Nat×Nat}:q∈lv mask ow↔ow[q.1]?=some (some q.2):=by
 unfold lv;rw[Vn];constructor
 .rintro⟨j,_,h⟩;obtain⟨k,h1,h2⟩:=D_.mp h;subst h2;exact getD_some.mp h1
 .intro h;refine⟨q.1,SA.mpr ?_,D_.mpr ⟨q.2,getD_some.mpr h,rfl⟩⟩;have:=(S9.mp h).1
  lia
theorem Aa(mask:Nat)(ow:Array (Option Nat)):(lv mask ow).Pairwise λa b=>a.1<b.1:=by
 unfold lv;rw[List.pairwise_filterMap];refine Ve (R:=λ(x y:Nat)=>x<y) (λ{x y} _ _ Os a ha b hb=>?_) List.pairwise_lt_range;obtain⟨_,_,rfl⟩:=D_.mp ha;obtain⟨_,_,rfl⟩:=D_.mp hb;exact Os
theorem Lay.nodup(L:Lay mask done ow):((lv mask ow).map (·.2)).Nodup:=by
 unfold List.Nodup;rw[Ti];refine Ve (λ{a b} ha hb Hm e=>?_) (Aa mask ow);have h1:=(gK L.sz).mp ha;have h2:=(gK L.sz).mp hb;rw[e]at h1;have:=L.inj _ _ _ h1 h2
 lia
theorem Lay.perm(L:Lay mask done ow):((lv mask ow).map (·.2)).Perm (List.range done.length):=by
 refine(Ui L.nodup List.nodup_range).mpr λk=>?_;rw[y_,SA];constructor
 .rintro⟨q,hq,rfl⟩;exact L.bd _ _ ((gK L.sz).mp hq)
 .intro hk;obtain⟨j,hj⟩:=L.on k hk;exact⟨(j,k),(gK L.sz).mpr hj,rfl⟩
theorem Lay.len(L:Lay mask done ow):(lv mask ow).length=done.length:=by
 have:=L.perm.length_eq;simpa using this
theorem pz(hsz:ow.size=mask+1)(j:Nat):taken ow j↔j∈(lv mask ow).map (·.1):=by
 rw[y_];constructor
 .rintro⟨k,hk⟩;exact⟨(j,k),(gK hsz).mpr hk,rfl⟩
 .rintro⟨q,hq,rfl⟩;exact⟨q.2,(gK hsz).mp hq⟩
theorem Lay.step(hk:∃k,mask+1=2 ^ k)(L:Lay mask done ow)(hr:done.length<=mask)(h:Int) :
  ∃j,SetTable.layClean.free mask ow (SetTable.turns mask) (SetTable.bits h%(mask+1)) (SetTable.bits h)=some j/\Lay mask (done++[h]) (ow.setIfInBounds j (some done.length)):=by
 have hup:((lv mask ow).map (·.1)).Pairwise (· < ·):=Ti.mpr (Aa mask ow);obtain⟨n,h1,h2⟩:=pJ hk hup (by rw[c_,L.len];exact hr) _ _ (mX mask h) (wy h);rw[<- pz L.sz]at h2;obtain⟨m,g1,g2,g3,g4⟩:=lE L.sz (SetTable.turns mask) _ (SetTable.bits h) (mX mask h) ⟨n,by unfold SetTable.turns;lia,h2⟩;refine⟨_,g1,?_⟩;generalize hj:(it mask (st mask (SetTable.bits h%(mask+1)) (SetTable.bits h)) m).j=j at *;have hjl:j<ow.size:=by rw[L.sz];lia
 have at_:∀x:Nat,(ow.setIfInBounds j (some done.length))[x]?=if x=j then some (some done.length)else ow[x]?:=λx=>by
  rw[Array.getElem?_setIfInBounds]
  by_cases e:j=x
  .subst e;simp[hjl]
  .rw[k_ e,k_ (Tj e)]
 have keep:∀x,taken ow x->taken (ow.setIfInBounds j (some done.length)) x:=λx aC=>by
  obtain⟨k,hx⟩:=aC;refine⟨k,?_⟩;rw[at_,k_ (λz=>g2 ⟨k,by rw[<- z];exact hx⟩)];exact hx
 refine⟨by rw[Array.size_setIfInBounds];exact L.sz,λx k hx=>?_,λk hk'=>?_,λx y k hx hy=>?_,λx k h' hx hh=>?_⟩
 .rw[at_]at hx;rw[r_,Uo]
  split at hx
  .cases hx;lia
  .have:=L.bd x k hx;lia
 .rw[r_,Uo]at hk'
  by_cases e:k=done.length
  .exact⟨j,by rw[at_,j_ rfl,e]⟩
  .obtain⟨x,hx⟩:=L.on k (by lia);exact⟨x,by rw[at_,k_ (λz=>g2 ⟨k,by rw[<- z];exact hx⟩)];exact hx⟩
 .rw[at_]at hx hy
  split at hx<;>split at hy
  .lia
  .cases hx;have:=L.bd y _ hy;lia
  .cases hy;have:=L.bd x _ hx;lia
  .exact L.inj x y k hx hy
 .rw[at_]at hx
  split at hx
  .rename_i e;cases hx;rw[G_ (h_ _),Nat.sub_self]at hh;cases hh;exact⟨m,by rw[hj,e],λm' hm'=>keep _ (g4 m' hm')⟩
  .have hk':=L.bd x k hx;rw[I_ hk']at hh;obtain⟨m2,a1,a2⟩:=L.ch x k h' hx hh;exact⟨m2,a1,λm' hm'=>keep _ (a2 m' hm')⟩
theorem rV(hk:∃k,mask+1=2 ^ k):∀(rest done:W8)(ow:Array (Option Nat)),Lay mask done ow->done.length+rest.length<=mask->
  ∃Ot,rest.foldl (λacc h=>do
   let (owner,k) <- acc
   let j <- SetTable.layClean.free mask owner (SetTable.turns mask) (SetTable.bits h%(mask+1)) (SetTable.bits h)
   pure (owner.setIfInBounds j (some k),k+1)) (some (ow,done.length))=some (Ot,done.length+rest.length)/\Lay mask (done++rest) Ot
 | [],done,ow,L,_=>⟨ow,rfl,by rw[SG];exact L⟩
 | h::rest,done,ow,L,hl=>by
  rw[A_]at hl;obtain⟨j,h1,L2⟩:=L.step hk (by lia) h;obtain⟨Ot,h3,L3⟩:=rV hk rest (done++[h]) _ L2 (by rw[r_,Uo];lia);refine⟨Ot,?_,by rw[T4]at L3;exact L3⟩;rw[Vi];have e:(do
   let (owner,k) <- some (ow,done.length)
   let j <- SetTable.layClean.free mask owner (SetTable.turns mask) (SetTable.bits h%(mask+1)) (SetTable.bits h)
   pure (owner.setIfInBounds j (some k),k+1):Option _)=some (ow.setIfInBounds j (some done.length),done.length+1):=by
   show(SetTable.layClean.free mask ow (SetTable.turns mask) (SetTable.bits h%(mask+1)) (SetTable.bits h)).bind _=_;rw[h1];rfl
  rw[e];rw[r_,Uo]at h3;rw[h3,A_,Ua,Wf 1]
theorem yQ(mask:Nat):Lay mask [] (Array.replicate (mask+1) none):=by
 have no:∀(j k:Nat),(Array.replicate (mask+1) (none:Option Nat))[j]?≠some (some k):=λj k h=>by
  rw[Array.getElem?_replicate]at h
  split at h<;>cases h
 exact⟨by simp,λj k h=>absurd h (no j k),λk h=>by simp at h,λj _ k h=>absurd h (no j k),λj k _ h=>absurd h (no j k)⟩
theorem sL(hk:∃k,mask+1=2 ^ k)(hs:Array Int)(hl:hs.size<=mask):∃ow,SetTable.layClean mask hs=some ow/\Lay mask hs.toList ow:=by
 obtain⟨ow,h1,h2⟩:=rV hk hs.toList [] _ (yQ mask) (by simpa using hl);refine⟨ow,?_,h2⟩;unfold SetTable.layClean;rw[<- Array.foldl_toList];have:(List.foldl (λacc h=>do
   let (owner,k) <- acc
   let j <- SetTable.layClean.free mask owner (SetTable.turns mask) (SetTable.bits h%(mask+1)) (SetTable.bits h)
   pure (owner.setIfInBounds j (some k),k+1)) (some (Array.replicate (mask+1) none,0)) hs.toList)=some (ow,0+hs.toList.length):=h1
 rw[this];rfl
theorem DX{mask:Nat}(hk:∃k,mask+1=2 ^ k)(finger moves:Nat)(led plain:Bool){α:Type}(es:Array (Int×α))(hl:es.size<=mask) :
  ∃t' order es',SetTable.laid mask finger moves led plain (es.map (·.1))=some (t',order)/\order.filterMap (es[·]?)=es'/\es'.size=es.size/\es'.toList.Perm es.toList/\t'.mask=mask/\(t'.led=led/\t'.plain=plain)/\t'.place.size=es.size/\Ok t' (es'.toList.map (·.1)):=by
 obtain⟨ow,h1,L⟩:=sL hk (es.map (·.1)) (by simpa using hl);have hpm:=L.perm;have hln:=L.len;have Gn:(es.map (·.1)).toList.length=es.size:=by simp
 rw[Gn]at hpm hln;have e0:((lv mask ow).map (·.2)).toArray.filterMap (es[·]?)=(((lv mask ow).map (·.2)).filterMap (es[·]?)).toArray:=by simp
 have hperm:(((lv mask ow).map (·.2)).filterMap (es[·]?)).Perm es.toList:=by
  have:=hpm.filterMap (es[·]?);rwa [filterMap_getElem?_range]at this
 have CQ:∀q∈lv mask ow,q.2<es.size:=λq hq=>by
  have:=L.bd _ _ ((gK L.sz).mp hq);rwa [Gn]at this
 have Kl:(((lv mask ow).map (·.2)).filterMap (es[·]?)).map (·.1)=(lv mask ow).map λq=>((es.map (·.1)).toList.getD q.2 0):=by
  have:∀l:List (Nat×Nat),(∀q∈l,q.2<es.size)->((l.map (·.2)).filterMap (es[·]?)).map (·.1)=l.map λq=>((es.map (·.1)).toList.getD q.2 0):=by
   intro l
   induction l with
   | nil=>intro _;rfl
   | cons q l ih=>
    intro hq;have hh:=hq q o_;rw[L_,List.filterMap_cons_some (b:=es[q.2]) (SJ hh),L_,ih λx hx=>hq x (l_ _ hx),L_];congr 1;simp[List.getD,hh]
  exact this _ CQ
 refine⟨_,_,_,(by unfold SetTable.laid;rw[h1];rfl),rfl,?_,?_,rfl,⟨rfl,rfl⟩,?_,?_⟩
 .show(((lv mask ow).map (·.2)).toArray.filterMap (es[·]?)).size=_;rw[e0,u_,hperm.length_eq];simp
 .show(((lv mask ow).map (·.2)).toArray.filterMap (es[·]?)).toList.Perm _;rw[e0];exact hperm
 .show((lv mask ow).map (·.1)).toArray.size=_;simp[hln]
 .have P5:(((lv mask ow).map (·.2)).toArray.filterMap (es[·]?)).toList.map (·.1)=(lv mask ow).map λq=>((es.map (·.1)).toList.getD q.2 0):=by
   rw[e0];exact Kl
  have pm:∀x,x∈((lv mask ow).map (·.1))↔taken ow x:=λx=>(pz L.sz x).symm;refine⟨rfl,hk,Ti.mpr (Aa mask ow),λx hx=>?_,?_,?_,λq hq=>?_⟩
  .obtain⟨k,hx⟩:=(pm x).mp hx;have:=(S9.mp hx).1;show x<=mask;have:=L.sz
   lia
  .show((lv mask ow).map (·.1)).toArray.size=_;rw[u_,c_];exact(by rw[show(((lv mask ow).map (·.2)).toArray.filterMap (es[·]?)).toList.map (·.1)=(lv mask ow).map λq=>((es.map (·.1)).toList.getD q.2 0)from P5,c_]:(lv mask ow).length=((((lv mask ow).map (·.2)).toArray.filterMap (es[·]?)).toList.map (·.1)).length)
  .show((lv mask ow).map (·.1)).toArray.size<=mask;simp[hln];exact hl
  .have uz:q∈((lv mask ow).map (·.1)).zip ((((lv mask ow).map (·.2)).toArray.filterMap (es[·]?)).toList.map (·.1)):=hq;rw[P5,List.zip_map']at uz;obtain⟨r,hr,rfl⟩:=y_.mp uz;have hr1:=(gK L.sz).mp hr;have hr2:=CQ r hr;have hr3:(es.map (·.1)).toList[r.2]?=some ((es.map (·.1)).toList.getD r.2 0):=by
    have:r.2<(es.map (·.1)).toList.length:=by simpa using hr2
    rw[g_,f_ this];rfl
   obtain⟨m,a1,a2⟩:=L.ch r.1 r.2 _ hr1 hr3;exact⟨m,a1,λm' hm'=>(pm _).mpr (a2 m' hm')⟩
structure SK{prog:Program}{w:World}{K:Type}[DecidableEq K](knd:HeapKind prog w K):Prop where
 cls:∀{A:Around}{E:Value->Shared->Prop}{s:Shared}{k:K}{a:Addr}{Q:Bool->Shared->Prop},knd.is s.heap k a->Q false s->wpAny (model prog w) A (ofAClassStatement 8 (.ref a)) Q E s
 hbv:∀{A:Around}{E:Value->Shared->Prop}{s:Shared}{k:K}{a:Addr}{Q:Bool->Shared->Prop},knd.is s.heap k a->(∀b,Q b s)->wpAny (model prog w) A (hashByValue 8 (.ref a)) Q E s
def dU:W7:=[7,31,127,511,2047,8191]
theorem qZ(h:m∈dU):7<=m/\m<=8191/\m%2=1:=by
 unfold dU at h;simp only[t_,S0,U3]at h;rcases h with rfl | rfl | rfl | rfl | rfl | rfl<;>decide
section
variable {prog:Xd}{w:Xg}{K:Type}[DecidableEq K]{knd:HeapKind prog w K}{A:Xe}{E:WT}{s:Xb}
def ent(knd:HeapKind prog w K)(x:K×Xj):Int×Xa:=(knd.hash x.1,.ref x.2)
structure Tab(knd:HeapKind prog w K)(es:Array (Int×Value))(t:SetTable)(xs:List (K×Addr)):Prop where
 perm:es.toList.Perm (xs.map (ent knd))
 ok:Ok t (es.toList.map (·.1))
 msk:t.mask∈dU
 nf:t.place.size*5<t.mask*3
theorem Tab.size(T:Tab knd es t xs):es.size=xs.length:=by
 have:=T.perm.length_eq;simpa using this
theorem Tab.psize(T:Tab knd es t xs):t.place.size=es.size:=by
 have:=T.ok.len;simpa using this
theorem fits_of(o:Ok t hs)(hn:t.place.size=n):t.fits n=true:=by
 unfold SetTable.fits SetTable.fill;rw[o.dum];have:=o.lt;simp[hn];lia
theorem Tab.fits(T:Tab knd es t xs):t.fits es.size=true:=fits_of T.ok T.psize
theorem Tab.mem{es:Array (Int×Xa)}{t:SetTable}{xs:List (K×Xj)}(T:Tab knd es t xs){i:Nat}{e:Int×Xa}(h:es[i]?=some e):∃x∈xs,e=ent knd x:=by
 have h1:e∈es.toList:=by have:=Array.mem_of_getElem? h;simpa using this
 obtain⟨x,hx,e2⟩:=y_.mp (T.perm.mem_iff.mp h1);exact⟨x,hx,e2.symm⟩
theorem F5(S:SK knd){b:Xj}{k:K}(ek:knd.is s.heap k b){stored:W0}(hst:∀v∈stored,∃k' c,v=.ref c/\knd.is s.heap k' c){Q:Bool->Xb->Prop}(h:Q false s) :
  wpAny (model prog w) A (searchCouldBeSeen (.ref b) stored) Q E s:=by
 unfold searchCouldBeSeen;refine a_ ?_;refine Tt _ (λrest r s'=>s'=s/\r=(none,())/\∀v∈rest,∃k' c,v=.ref c/\knd.is s.heap k' c) _ ?_ ?_ _ _ ⟨rfl,rfl,hst⟩
 .rintro x rest r s' ⟨rfl,rfl,hr⟩;obtain⟨k',c,rfl,hc⟩:=hr x o_;dsimp only;have rK:∀v∈rest,∃k' c,v=Value.ref c/\knd.is s'.heap k' c:=λv hv=>hr v (l_ _ hv)
  split
  .exact d_ ⟨rfl,rfl,rK⟩
  .refine a_ (knd.quiet ek ?_);simp only[Tz,x_,SV];refine a_ (knd.quiet hc ?_);simp only[Tz,x_,SV];refine a_ (S.cls ek ?_);simp only[x_,SV];refine a_ (S.cls hc ?_);simp only[x_,SV];exact d_ ⟨rfl,rfl,rK⟩
 .rintro r s' ⟨rfl,rfl,_⟩;exact d_ h
theorem tF(h:Q true s):wpAny (model prog w) A (isSame (.ref c) (.ref c)) Q E s:=by
 unfold isSame;dsimp only;rw[j_ (by simp)];exact d_ h
theorem pZ(S:SK knd)(hu:knd.room A){a b:Xj}{k:K}{o:Obj}{es:Array (Int×Xa)}{ep:Nat}{t:SetTable}{xs:List (K×Xj)}(ho:s.heap.get? a=some o)(hd:o.data=.set es ep t)(T:Tab knd es t xs)
  (zI:∀x∈xs,knd.is s.heap x.1 x.2) (ek:knd.is s.heap k b) {kF:Bool} {Q:SetFound->Xb->Prop}
  (hin:∀c,(k,c)∈xs->∀i,Q (.there (if kF=true then none else some i)) s)
  (hout:(∀c,(k,c)∉xs)->∀m,(it t.mask (t.probeStart (knd.hash k)) m).j∉t.place.toList->(∀m'<m,(it t.mask (t.probeStart (knd.hash k)) m').j∈t.place.toList)->Q (.free (it t.mask (t.probeStart (knd.hash k)) m).j false) s)
  (mf:Nat) (hmf:mf<10*SetTable.turns t.mask) (hfr:(it t.mask (t.probeStart (knd.hash k)) mf).j∉t.place.toList) :
  ∀(fuel m:Nat)(CS:Option SetTable.Probe),CS.getD (t.probeStart (knd.hash k))=it t.mask (t.probeStart (knd.hash k)) m->
   (∀m'<m,(it t.mask (t.probeStart (knd.hash k)) m').j∈t.place.toList/\∀i:Nat,t.place[i]?=some (it t.mask (t.probeStart (knd.hash k)) m').j->∀c,(k,c)∈xs->es[i]?≠some (ent knd (k,c)))->mf-m<fuel->
   wpAny (model prog w) A (setSearchFrom a (.ref b) (knd.hash k) kF fuel CS) Q E s
 | 0,m,CS,_,_,h=>by lia
 | fuel+1,m,CS,hst,K8,hfu=>by
  have hle:m<=mf:=by
   rcases Nat.lt_or_ge mf m with h | h
   .exact absurd (K8 mf h).1 hfr
   .exact h
  have f:=T.fits;unfold setSearchFrom;refine a_ (SQ ho hd f ?_);dsimp only;rw[k_ (by unfold SetTable.gaveWay;have:=(qZ T.msk).2.2;simp[this])];rw[hst];have hdum:(it t.mask (t.probeStart (knd.hash k)) m).dummy=none:=jn _ _ rfl m;obtain⟨met,m1,g1,g2,g3⟩:=sY T.ok.dum T.ok.up (λi=>(es[i]?.map (·.1)).getD 0) (knd.hash k) (10*SetTable.turns t.mask) (it t.mask (t.probeStart (knd.hash k)) m) hdum ⟨mf-m,by lia,by rw[<- iW,show m+(mf-m)=mf by lia];exact hfr⟩;generalize hpr:t.probe _ (knd.hash k) (it t.mask (t.probeStart (knd.hash k)) m)=pr;have hpr2:pr=some met:=hpr.symm.trans g1;subst hpr2;dsimp only;simp only[<- iW]at g2 g3;have Gp:∀m'<m+m1,(it t.mask (t.probeStart (knd.hash k)) m').j∈t.place.toList/\∀i:Nat,t.place[i]?=some (it t.mask (t.probeStart (knd.hash k)) m').j->∀c,(k,c)∈xs->es[i]?≠some (ent knd (k,c)):=λm' hm'=>by
   by_cases h:m'<m
   .exact K8 m' h
   .obtain⟨i,e1,e2⟩:=g2 (m'-m) (by lia);rw[show m+(m'-m)=m' by lia]at e1;have e1':t.place.toList[i]?=some (it t.mask (t.probeStart (knd.hash k)) m').j:=by simpa using e1
    refine⟨R_ e1',λi' hi' c hc z=>?_⟩;have e3:=below_at T.ok.up e1;have e4:=below_at T.ok.up hi';rw[e3]at e4;subst e4;rw[z]at e2;exact e2 rfl
  rcases g3 with ⟨rfl,g4⟩ | ⟨i,p1,p2,rfl⟩
  .dsimp only;refine d_ (hout (λc hc=>?_) (m+m1) g4 λm' hm'=>(Gp m' hm').1);have h1:ent knd (k,c)∈es.toList:=T.perm.mem_iff.mpr (SW hc);obtain⟨i,hi⟩:=VG.mp h1;have hil:=(i_.mp hi).1;have eR:i<t.place.toList.length:=by have:=T.psize;simp at hil ⊢;lia
   have hz:(t.place.toList[i],knd.hash k)∈t.place.toList.zip (es.toList.map (·.1)):=by
    refine R_ (i:=i) ?_;rw[Tg];exact⟨f_ eR,by rw[m_,hi];rfl⟩
   obtain⟨m0,a1,a2⟩:=T.ok.ch _ hz;simp only at a1 a2;rcases Wv m0 (m+m1)with hlt | heq | hgt
   .refine(Gp m0 hlt).2 i ?_ c hc (by simpa using hi);rw[a1];simpa using f_ eR
   .rw[<- heq,a1]at g4;exact g4 (Tu eR)
   .exact g4 (a2 _ hgt)
  .dsimp only;have hil:i<es.size:=by have:=(S9.mp p1).1;rw[T.psize]at this;exact this
   obtain⟨e,he⟩:∃e,es[i]?=some e:=⟨es[i],SJ hil⟩;obtain⟨x,hx,rfl⟩:=T.mem he;have hxk:=zI x hx;have sj:∀m2,it t.mask (it t.mask (t.probeStart (knd.hash k)) m) m2=it t.mask (t.probeStart (knd.hash k)) (m+m2):=λm2=>(iW ..).symm;have cont:wpAny (model prog w) A (do
     let some (_,y):=es[i]? | unsupported "internal:set-entry"
     let equal <- holding [y] (eqBool y (.ref b))
     let (es',_,t') <- setState a
     if kF&&equal then return .there none
     let some same:=t'.sameMemory t.moves t.mask | unsupported "set.changed-during-lookup:is-the-new-block-at-the-old-address"
     let still <- match (if same then t'.slot (it t.mask (t.probeStart (knd.hash k)) (m+m1)).j else .empty)with
      | .live i'=>match es'[i']? with
       | some (_,y')=>do pure (if <- isSame y' y then some i' else none)
       | none=>pure none
      | _=>pure none
     match still with
     | none=>rule "set.search.anew";setSearchFrom a (.ref b) (knd.hash k) kF fuel none
     | some i'=>if equal then return .there (some i')else setSearchFrom a (.ref b) (knd.hash k) kF fuel (some (it t.mask (t.probeStart (knd.hash k)) (m+(m1+1))))) Q E s:=by
    rw[he];dsimp only[ent];refine a_ (Q_ (knd.eqBool hu hxk ek ?_));refine a_ (SQ ho hd f ?_);dsimp only
    by_cases hkk:x.1=k
    .rw[w_ hkk];have hin':=hin x.2 (by rw[<- hkk];exact hx);cases hadd:kF with
     | true=>
      simp only[Bool.and_self,Up];have:=hin' 0;rw[hadd]at this;exact d_ this
     | false=>
      simp only[WQ,x_,SV];have nW:t.sameMemory t.moves t.mask=some true:=by unfold SetTable.sameMemory;simp
      rw[nW];dsimp only;simp only[Up];rw[jZ T.ok.up p1];dsimp only;rw[he];dsimp only[ent];refine a_ (tF (a_ (d_ ?_)));simp only[Up];have:=hin' i;rw[hadd]at this;exact d_ this
    .rw[E_ hkk];simp only[Bool.and_false,x_,SV];have nW:t.sameMemory t.moves t.mask=some true:=by unfold SetTable.sameMemory;simp
     rw[nW];dsimp only;simp only[Up];rw[jZ T.ok.up p1];dsimp only;rw[he];dsimp only[ent];refine a_ (tF (a_ (d_ ?_)));simp only[Up];refine pZ S hu ho hd T zI ek hin hout mf hmf hfr fuel (m+(m1+1)) _ rfl (λm' hm'=>?_) (by
      have hne:m+m1≠mf:=λz=>hfr (by
       rw[<- z];have:t.place.toList[i]?=some (it t.mask (t.probeStart (knd.hash k)) (m+m1)).j:=by simpa using p1
       exact R_ this)
      have hle2:m+m1<=mf:=by
       rcases Nat.lt_or_ge mf (m+m1)with h | h
       .exact absurd (Gp mf h).1 hfr
       .exact h
      lia)
     by_cases h:m'<m+m1
     .exact Gp m' h
     .have:m'=m+m1:=by lia
      subst this;have p1':t.place.toList[i]?=some (it t.mask (t.probeStart (knd.hash k)) (m+m1)).j:=by simpa using p1
      refine⟨R_ p1',λi' hi' c hc z=>?_⟩;have e3:=below_at T.ok.up p1;have e4:=below_at T.ok.up hi';rw[e3]at e4;subst e4;rw[he]at z;have z2:x.2=c:=by
       have:=Option.some.inj z;simp only[ent,UB,Value.ref.injEq]at this;exact this.2
      have hc':=zI _ hc;simp only at hc';rw[<- z2]at hc';exact hkk (knd.inj hxk hc')
   by_cases hled:t.led=true
   .rw[k_ (by simp[hled])]
    first | exact cont | exact a_ (d_ cont)
   .rw[j_ (by simpa using hled)];refine a_ (F5 S ek (λv hv=>?_) ?_)
    .obtain⟨e,uk,rfl⟩:=y_.mp hv;have vX:e∈es.toList:=by
      have:=(Array.mem_filter.mp (Array.mem_toList_iff.mp uk)).1;exact Array.mem_toList_iff.mpr this
     obtain⟨y,hy,rfl⟩:=y_.mp (T.perm.mem_iff.mp vX);exact⟨y.1,y.2,rfl,zI y hy⟩
    .simp only[x_,SV]
     first | exact cont | exact a_ (d_ cont)
end
section
variable {prog:Xd}{w:Xg}{K:Type}[DecidableEq K]{knd:HeapKind prog w K}{A:Xe}{E:WT}{s:Xb}
def iq(knd:HeapKind prog w K)(a:Xj)(xs:List (K×Xj))(h:Xf):Prop:=
 ∃o es ep t,h.get? a=some o/\o.ExactSet/\o.data=.set es ep t/\Tab knd es t xs/\(xs.map (·.1)).Nodup
theorem iq.typeIs(h:iq knd a xs s.heap):s.TypeIs (.ref a) "set":=let ⟨o,_,_,_,ho,hc,_⟩:=h;⟨o,ho,hc.1⟩
theorem BU(h:m∈dU):10*SetTable.turns m<100000:=by
 have:=(qZ h).2.1;unfold SetTable.turns;lia
theorem l7{h:Xf}{a:Xj}{o:Obj}{es:Array (Int×Xa)}{ep:Nat}{t:SetTable}(ho:h.get? a=some o)(hd:o.data=.set es ep t)(es':Array (Int×Xa))(t':SetTable) :
  (h.update a (Obj.putSet es' t')).get? a=some {o with data:=.set es' (ep+1) t'}:=by
 have:=SS (Obj.putSet es' t') ho (by rw[putSet_of es' t' hd];rfl);rw[putSet_of es' t' hd]at this;exact this
theorem mZ(h:n<=5000):n<=sizeLine:=by rw[SB];lia
theorem zE(hm:m∈dU)(h1:n*5<m*3)(h2:m*3<=(n+1)*5)(h3:n+1<=4914):∃m',m'∈dU/\SetTable.sizeAbove (SetTable.grown (n+1))-1=m'/\SetTable.sizeAbove (SetTable.grown (n+1))<=8192/\(n+1)*5<m'*3/\n+1<=m':=by
 have key:∀n0 m',n=n0->m'∈dU/\SetTable.sizeAbove (SetTable.grown (n0+1))-1=m'/\SetTable.sizeAbove (SetTable.grown (n0+1))<=8192/\(n0+1)*5<m'*3/\n0+1<=m'->∃m',m'∈dU/\SetTable.sizeAbove (SetTable.grown (n+1))-1=m'/\SetTable.sizeAbove (SetTable.grown (n+1))<=8192/\(n+1)*5<m'*3/\n+1<=m':=λn0 m' e h=>⟨m',by subst e;exact h⟩;unfold dU at hm;simp only[t_,S0,U3]at hm;rcases hm with rfl | rfl | rfl | rfl | rfl | rfl
 .exact key 4 31 (by lia) (by decide)
 .exact key 18 127 (by lia) (by decide)
 .exact key 76 511 (by lia) (by decide)
 .exact key 306 2047 (by lia) (by decide)
 .exact key 1228 8191 (by lia) (by decide)
 .lia
theorem AG(h:m∈dU):∃k,m+1=2 ^ k:=by
 unfold dU at h;simp only[t_,S0,U3]at h;rcases h with rfl | rfl | rfl | rfl | rfl | rfl
 .exact⟨3,rfl⟩
 .exact⟨5,rfl⟩
 .exact⟨7,rfl⟩
 .exact⟨9,rfl⟩
 .exact⟨11,rfl⟩
 .exact⟨13,rfl⟩
def Fl(a:Xj)(L:Bool)(h:Xf):Prop:=∃o es ep t,h.get? a=some o/\o.data=.set es ep t/\t.led=L/\t.plain=true
def KY(prog:Xd)(w:Xg)(b:Xj)(h:Xf):Prop:=∀(A:Xe)(E:WT)(s:Xb)(Q:Bool->Xb->Prop),s.heap=h->Q true s->wpAny (model prog w) A (hashByValue 8 (.ref b)) Q E s
theorem Aw(ho:s.heap.get? a=some o)(hd:o.data=.set es ep t)(hp:es.toList.Perm l)(ok:Ok t (es.toList.map (·.1)))(hn:es.size=n+1)(hm:t.mask∈dU)(h1:n*5<t.mask*3)(h2:t.mask*3<=(n+1)*5)(h3:n+1<=4914)
  (h:∀es' t',es'.toList.Perm l->Ok t' (es'.toList.map (·.1))->t'.mask∈dU->t'.place.size*5<t'.mask*3->(t'.led=t.led/\t'.plain=t.plain)->Q () {s with heap:=s.heap.update a (Obj.putSet es' t')}) :
  wpAny (model prog w) A (setRelay a (SetTable.grown (n+1))) Q E s:=by
 obtain⟨m',k1,k2,k3,k4,k5⟩:=zE hm h1 h2 h3;have hsz:t.place.size=es.size:=by have:=ok.len;simpa using this
 obtain⟨t',order,es',g1,g2,g3,g4,g5,g6,g7,g8⟩:=DX (AG k1) t.finger (t.movedTo (SetTable.sizeAbove (SetTable.grown (n+1))-1)) t.led t.plain es (by lia);have hr:t.relaid (es.map (·.1)) (SetTable.grown (n+1))=some (t',order):=by
  unfold SetTable.relaid;rw[<- g1,k2]
 unfold setRelay;refine a_ (SQ ho hd (fits_of ok hsz) ?_);dsimp only;rw[k_ (by have:=SB;lia)];refine a_ ?_;show wpAny _ _ (do
  let some (t,order):=t.relaid (es.map (·.1)) (SetTable.grown (n+1)) | unsupported "internal:set-table-without-room"
  let es':=order.filterMap (es[·]?)
  if es'.size != es.size then unsupported "internal:set-table-lost-an-element"
  pure (es',t)) _ _ _
 rw[hr];dsimp only;rw[g2,k_ (by simp[g3])];refine d_ ?_;dsimp only;exact wpAny_storeSet_of ho hd (h es' t' (g4.trans hp) g8 (by rw[g5];exact k1) (by rw[g5,g7,hn];exact k4) g6) (by rw[g3,hn];exact mZ (by lia))
theorem EB(S:SK knd)(hu:knd.room A){a b:Xj}{k:K}{xs:List (K×Xj)}(hS:iq knd a xs s.heap)(zI:∀x∈xs,knd.is s.heap x.1 x.2)(ek:knd.is s.heap k b)(hl:xs.length+1<=4914){Q:Bool->Xb->Prop}
  (hin:k∈xs.map (·.1)->Q false s) (hout:k∉xs.map (·.1)->∀h',Heap.SameBut a s.heap h'->iq knd a (xs++[(k,b)]) h'->(∀L,KY prog w b s.heap->Fl a L s.heap->Fl a L h')->Q true {s with heap:=h'}) :
  wpAny (model prog w) A (setAddHashed a (.ref b) (knd.hash k)) Q E s:=by
 obtain⟨o,es,ep,t,ho,hex,hd,T,hn⟩:=hS;unfold setAddHashed;refine Q_ ?_;unfold setAddHashedIn;refine a_ (SQ ho hd T.fits ?_);dsimp only;rw[k_ (by simp[byScan,Value.scannable])];obtain⟨mf,m1,m2⟩:=T.ok.soon (knd.hash k);have ht:=BU T.msk;unfold setSearch;refine a_ (pZ S hu ho hd T zI ek (λc hc i=>?_) (λhc m hm1 hm2=>?_) mf m1 m2 100000 0 none rfl (λm' hm'=>by lia) (by lia))
 .simp only[Up];exact d_ (hin (y_.mpr ⟨(k,c),hc,rfl⟩))
 .dsimp only;have hk:k∉xs.map (·.1):=λhm=>by
   obtain⟨x,hx,e⟩:=y_.mp hm;obtain⟨y,c⟩:=x;simp only at e;subst e;exact hc c hx
  refine a_ (SQ ho hd T.fits ?_);dsimp only;have hmk:=qZ T.msk;have hnf:=T.nf;have hps:=T.psize;have hes:=T.size;generalize hj:(it t.mask (t.probeStart (knd.hash k)) m).j=j at *;have rest:∀pl:Bool,(KY prog w b s.heap->t.plain=true->pl=true)->wpAny (model prog w) A (do
    storeSet a (SetTable.insertAt es (t.put j).2 (knd.hash k,.ref b)) {(t.put j).1 with plain:=pl}
    if({(t.put j).1 with plain:=pl}:SetTable).tooFull then setRelay a (SetTable.grown (es.size+1))
    return true) Q E s:=λpl hfl=>by
   have flt:∀L,Fl a L s.heap->t.led=L/\t.plain=true:=λL ⟨o',es',xY,t',c1,c2,c3,c4⟩=>by
    rw[ho]at c1;cases c1;rw[hd]at c2;cases c2;exact⟨c3,c4⟩
   obtain⟨p,q1,q2,q3⟩:=T.ok.put (knd.hash k) m (by rw[hj];exact hm1) hm2 (by lia) pl;rw[hj]at q1 q3;rw[q1];have i1:=SetTable.toList_insertAt es p (knd.hash k,Value.ref b);have i2:(SetTable.insertAt es p (knd.hash k,Value.ref b)).toList.map (·.1)=(es.toList.map (·.1)).take p++knd.hash k::(es.toList.map (·.1)).drop p:=by
    rw[i1,O_,L_,VS,List.map_drop]
   have i3:(SetTable.insertAt es p (knd.hash k,Value.ref b)).toList.Perm ((xs++[(k,b)]).map (ent knd)):=by
    have e1:=SetTable.insertAt_perm es p (knd.hash k,Value.ref b);rw[Array.toList_push]at e1;refine e1.trans ?_;rw[O_];exact T.perm.append_right _
   have i4:(SetTable.insertAt es p (knd.hash k,Value.ref b)).size=es.size+1:=by
    rw[<- Sx,i1,qU];simp
   rw[<- i2]at q3;have hnd:((xs++[(k,b)]).map (·.1)).Nodup:=by
    rw[O_];refine U2.mpr ⟨hn,by simp,λx hx y hy=>?_⟩;rw[L_,Vv,s_]at hy;subst hy;rintro rfl;exact hk hx
   have hst:=l7 ho hd (SetTable.insertAt es p (knd.hash k,Value.ref b)) {(t.put j).1 with plain:=pl};have hsb:=SM s.heap a (Obj.putSet (SetTable.insertAt es p (knd.hash k,Value.ref b)) {(t.put j).1 with plain:=pl});have xZ:({(t.put j).1 with plain:=pl}:SetTable).mask=t.mask:=rfl;have Nu:({(t.put j).1 with plain:=pl}:SetTable).place.size=es.size+1:=by
    have:=q3.len;rw[c_,Sx,i4]at this;exact this
   refine a_ (wpAny_storeSet_of ho hd ?_ (by rw[i4];exact mZ (by lia)))
   by_cases hf:({(t.put j).1 with plain:=pl}:SetTable).tooFull=true
   .rw[j_ hf];have P6:t.mask*3<=(es.size+1)*5:=by
     unfold SetTable.tooFull SetTable.fill at hf;rw[q3.dum]at hf;rw[Nu,xZ]at hf;simpa using hf
    refine a_ (Aw hst rfl i3 q3 i4 T.msk (by rw[xZ];lia) (by rw[xZ];exact P6) (by lia) λes' t' r1 r2 r3 r4 r5=>?_);refine d_ (hout hk _ (hsb.trans (SM _ a _)) ⟨_,es',_,t',l7 hst rfl es' t',hex,rfl,⟨r1,r2,r3,r4⟩,hnd⟩ λL y z=>⟨_,es',_,t',l7 hst rfl es' t',rfl,?_,?_⟩)
    .rw[r5.1];exact(flt L z).1
    .rw[r5.2];exact hfl y (flt L z).2
   .rw[k_ hf]
    first
     | refine d_ (hout hk _ hsb ?_ λL y z=>⟨_,_,_,_,hst,rfl,(flt L z).1,hfl y (flt L z).2⟩)
     | refine a_ (d_ (d_ (hout hk _ hsb ?_ λL y z=>⟨_,_,_,_,hst,rfl,(flt L z).1,hfl y (flt L z).2⟩)))
    refine⟨_,_,_,_,hst,hex,rfl,⟨i3,q3,T.msk,?_⟩,hnd⟩;unfold SetTable.tooFull SetTable.fill at hf;rw[q3.dum]at hf;rw[Nu,xZ]at hf ⊢;simpa using hf
  have Rf:({(t.put j).1 with plain:=t.plain}:SetTable)=(t.put j).1:=rfl
  by_cases eR:t.plain=true
  .rw[j_ (show(t.put j).1.plain=true from eR)];have one:=rest t.plain λ_ h=>h;rw[Rf]at one
   by_cases hB:KY prog w b s.heap
   .exact a_ (hB _ _ _ _ rfl (by simpa using one))
   .refine a_ (S.hbv ek λbv=>?_);cases bv with
    | true=>simpa using one
    | false=>simpa using rest false λz=>absurd z hB
  .rw[k_ (show ¬(t.put j).1.plain=true from eR)];refine a_ (d_ ?_);have:=rest t.plain λ_ h=>h;rw[Rf]at this;simpa using this
end
end St
abbrev PySem.Shared.sz(s:PySem.Shared):Nat:=s.heap.objs.size
namespace L2
open PySem PySem.Spec PyProof.Rows
abbrev Key:=Sum Int Str
abbrev Xn:=List Key
abbrev Xm:=List Xn
def ik:Key->Xa->Bool
 | .inl k,v=>Value.isInt k v
 | .inr x,v=>Value.isStrOf x v
def JU(w:Xg):Key->Int
 | .inl k=>hashInt k
 | .inr x=>hashStr w x
theorem aW:∀{k:Key}{v:Xa},ik k v=true->(∃i t,k=Sum.inl i/\v=Value.int i t)\/(∃x t,k=Sum.inr x/\v=Value.str x t)
 | .inl i,v,h=>by
  obtain⟨t,e⟩:=Value.isInt_shape (k:=i) (v:=v) h;exact .inl ⟨i,t,rfl,e⟩
 | .inr x,v,h=>by
  obtain⟨t,e⟩:=Value.isStrOf_shape (x:=x) (v:=v) h;exact .inr ⟨x,t,rfl,e⟩
theorem yG(i:Int)(t:Tok):ik (.inl i) (.int i t)=true:=by simp[ik,Value.isInt]
theorem zt(x:Str)(t:Tok):ik (.inr x) (.str x t)=true:=by simp[ik,Value.isStrOf]
theorem J8(a b:Int):decide ((Sum.inl a:Key)=Sum.inl b)=(a==b):=by
 by_cases e:a=b
 .subst e;simp
 .have h:¬(Sum.inl a:Key)=Sum.inl b:=λq=>e (Sum.inl.inj q);rw[E_ h];exact(Wa.mpr e).symm
theorem Ir(a b:Str):decide ((Sum.inr a:Key)=Sum.inr b)=decide (a=b):=by
 by_cases e:a=b
 .subst e;simp
 .have h:¬(Sum.inr a:Key)=Sum.inr b:=λq=>e (Sum.inr.inj q);rw[E_ h,E_ e]
theorem I9(a:Int)(b:Str):decide ((Sum.inl a:Key)=Sum.inr b)=false:=E_ (λq=>nomatch q)
theorem JQ(a:Str)(b:Int):decide ((Sum.inr a:Key)=Sum.inl b)=false:=E_ (λq=>nomatch q)
def aA(prog:Xd)(w:Xg):PySem.KeyKind prog w Key where
 is:=ik
 hash:=JU w
 inj:=λv a b ha hb=>by
  rcases aW ha with ⟨i,t,rfl,rfl⟩ | ⟨x,t,rfl,rfl⟩
  .rcases aW hb with ⟨j,u,rfl,e⟩ | ⟨y,u,rfl,e⟩
   .injection e with e1 _;rw[e1]
   .exact nomatch e
  .rcases aW hb with ⟨j,u,rfl,e⟩ | ⟨y,u,rfl,e⟩
   .exact nomatch e
   .injection e with e1 _;rw[e1]
 byValue:=λk v h=>by
  rcases aW h with ⟨i,t,rfl,rfl⟩ | ⟨x,t,rfl,rfl⟩<;>rfl
 pyHash:=λhv h=>by
  rcases aW hv with ⟨i,t,rfl,rfl⟩ | ⟨x,t,rfl,rfl⟩
  .exact wpAny_pyHash_int h
  .exact wpAny_pyHash_str h
 eqBool:=λhu hv h=>by
  rcases aW hu with ⟨i,t,rfl,rfl⟩ | ⟨x,t,rfl,rfl⟩
  .rcases aW hv with ⟨j,u,rfl,rfl⟩ | ⟨y,u,rfl,rfl⟩
   .rw[J8]at h;exact wpAny_eqBool_int h
   .rw[I9]at h;exact SeqAt.EqAt.int_str i t y u _ _ _ _ h
  .rcases aW hv with ⟨j,u,rfl,rfl⟩ | ⟨y,u,rfl,rfl⟩
   .rw[JQ]at h;exact SeqAt.EqAt.str_int x t j u _ _ _ _ h
   .rw[Ir]at h;exact wpAny_eqBool_str h
 «strs»:=λk x t v h=>by
  rcases aW h with ⟨i,u,rfl,e⟩ | ⟨y,u,rfl,e⟩
  .exact nomatch e
  .injection e with e1 _
   subst e1;cases v<;>rfl
theorem sO(prog:Xd)(w:Xg)(i:Int)(t:Tok):(aA prog w).is (.inl i) (.int i t)=true:=yG i t
theorem ub(prog:Xd)(w:Xg)(x:Str)(t:Tok):(aA prog w).is (.inr x) (.str x t)=true:=zt x t
inductive V where
 | non | bl (b:Bool) | int (i:Int) | str (x:Str) | byt (b:Array UInt8) | flt (b:UInt64) | ref (a:Addr) | ty (n:String)
 deriving DecidableEq
abbrev Xs:=List V
def RelV:V->Xa->Prop
 | .non,u=>u=Value.none
 | .bl b,u=>u=Value.bool b
 | .int i,u=>∃t,u=Value.int i t
 | .str x,u=>∃t,u=Value.str x t
 | .byt b,u=>∃t,u=Value.bytes b t
 | .flt b,u=>∃t,u=Value.float b t
 | .ref a,u=>u=Value.ref a
 | .ty n,u=>u=Value.type n
abbrev av:Xs->W0->Prop:=Paired RelV
theorem av.length{xs:Xs}{us:W0}(r:av xs us):xs.length=us.length:=Paired.length r
theorem av.get:∀{xs:Xs}{us:W0}{i:Nat}{x:V},av xs us->xs[i]?=some x->∃u,us[i]?=some u/\RelV x u
 | _,_,_,_,.nil,e=>by simp at e
 | _,_,0,_,.cons r _,e=>by simp at e;subst e;exact⟨_,rfl,r⟩
 | _,_,i+1,x,.cons _ t,e=>by
  obtain⟨u,h1,h2⟩:=av.get (i:=i) (x:=x) t (by simpa using e);exact⟨u,by simpa using h1,h2⟩
theorem av.set{x:V}{u:Xa}(r:RelV x u):∀{xs:Xs}{us:W0}(i:Nat),av xs us->av (xs.set i x) (us.set i u)
 | _,_,_,.nil=>.nil
 | _,_,0,.cons _ t=>.cons r t
 | _,_,i+1,.cons q t=>.cons q (av.set r i t)
theorem av.append:∀{xs ys:Xs}{us ws:W0},av xs us->av ys ws->av (xs++ys) (us++ws)
 | _,_,_,_,.nil,s=>s
 | _,_,_,_,.cons r t,s=>.cons r (av.append t s)
theorem av.take:∀{xs:Xs}{us:W0}(n:Nat),av xs us->av (xs.take n) (us.take n)
 | _,_,0,_=>.nil
 | _,_,_+1,.nil=>.nil
 | _,_,n+1,.cons r t=>.cons r (av.take n t)
theorem av.drop:∀{xs:Xs}{us:W0}(n:Nat),av xs us->av (xs.drop n) (us.drop n)
 | _,_,0,r=>r
 | _,_,_+1,.nil=>.nil
 | _,_,n+1,.cons _ t=>av.drop n t
def LO:Option V->W1->Prop
 | some v,some u=>RelV v u
 | none,none=>True
 | _,_=>False
def KV{κ:Type}:List (κ×V)->List (κ×Xa)->Prop:=Paired λ(p:κ×V) (q:κ×Xa)=>p.1=q.1/\RelV p.2 q.2
def kV:Key->V
 | .inl i=>.int i
 | .inr x=>.str x
inductive HO where
  | lst (xs:List V)
  | tup (xs:List V)
  | dK (kvs:List (Key×V)) | dT (kvs:List (List Key×V))
  | set (S:Int->Bool) (n:Nat)
  | ins (C dx:Addr) (fs:List (Str×V))
  | own (x:Addr)
  | xd (fs:List (Str×V))
  | met (f x:Addr)
  | rng (lo hi:Int)
  | frz (o:Obj) (u:HO)
 | tab (q:Str) | cod (q:Str)
  | ext (φ:Heap->Prop)
abbrev Hp:=Xj->Option HO
def upd(H:Hp)(a:Xj)(o:HO):Hp:=λb=>if b=a then some o else H b
theorem ai{H:Hp}{a:Xj}{o:HO}:upd H a o a=some o:=by unfold upd;rw[j_ rfl]
theorem ar{H:Hp}{a b:Xj}{o:HO}(h:b≠a):upd H a o b=H b:=by unfold upd;rw[k_ h]
theorem aV{H:Hp}{a b:Xj}{o:HO}(h:H a=some o)(h':H b=none):a≠b:=by
 intro e;subst e;rw[h]at h';cases h'
section
variable (P:Xd)(w:Xg)
def aU(H:Hp)(h:Xf)(a:Xj):HO->Prop
 | .lst xs=>xs.length<=sizeLine/\∃(aQ:W0)(n:Nat),av xs aQ/\h.get? a=some {cls:=.type "list",data:=.seq aQ.toArray n}
 | .tup xs=>xs.length<=sizeLine/\∃aQ:W0,av xs aQ/\IsTup h a aQ.toArray
 | .dK kvs=>kvs.length<=sizeLine/\(a==sysModules)=false/\∃vs,KV kvs vs/\h.DictOf (aA P w) a vs
 | .dT kvs=>kvs.length<=sizeLine/\(a==sysModules)=false/\∃xs:List (Xn×Xj×Xa),
   Paired (λ(p:Xn×V) (q:Xn×Xj×Xa)=>p.1=q.1/\H q.2.1=some (.tup (p.1.map kV))/\RelV p.2 q.2.2) kvs xs/\
   ∃o es ep,h.get? a=some o/\o.ExactDict/\o.data=.dict es ep/\es.toList=xs.map (entryOfKey (tupleKind (aA P w)))/\(xs.map (·.1)).Nodup
 | .set S n=>h.SetOf (intKind P w) a S n
 | .ins C dx fs=>H dx=some (.own a)/\fs.length<=1000/\dx≠a/\h.get? a=some (PySem.W.instObj C dx)/\
   ∃mA,h.Ns1 dx mA/\(∀f,LO (fs.lookup f) (mA f))/\PySem.Within mA (fs.map (·.1))
 | .own _=>∃o,h.get? a=some o
 | .xd fs=>∃mA,h.Ns1 a mA/\∀f,LO (fs.lookup f) (mA f)
 | .rng lo hi=>∃t u v,h.get? a=some {cls:=.type "range",data:=.fields #[.int lo t,.int hi u,.int 1 v]}
 | .frz o u=>h.get? a=some o/\aU H h a u
 | .tab q=>∃ps:Array Xa,h.get? a=some {cls:=.none,data:=.fields ps}/\PySem.TriplesOk ps.toList/\∀pos v,PySem.codeAmong pos ps.toList=some v->∃c,v=.ref c/\H c=some (.cod q)
 | .cod q=>∃o vs t,h.get? a=some o/\o.data=.fields vs/\vs[1]?=some (.str q t)
 | .met f x=>h.get? a=some (PySem.W.methodObj (.ref f) (.ref x))
 | .ext φ=>φ h/\(∃o,h.get? a=some o)/\∀h1 h2:Xf,φ h1->(∀o,h1.get? a=some o->h2.get? a=some o)->φ h2
def k6(H:Hp)(h:Xf):Prop:=∀a o,H a=some o->aU P w H h a o
end
section
variable {P:Xd}{w:Xg}{H H':Hp}{h h':Xf}{a:Xj}{o:HO}
theorem aU.lt(x:aU P w H h a o):a<h.objs.size:=by
 cases o with
 | lst xs=>obtain⟨_,_,_,_,e⟩:=x;exact q_ e
 | tup xs=>obtain⟨_,_,_,p⟩:=x;exact p.lt
 | dK kvs=>obtain⟨_,_,_,_,o,_,_,e,_⟩:=x;exact q_ e
 | dT kvs=>obtain⟨_,_,_,_,o,_,_,e,_⟩:=x;exact q_ e
 | set S n=>obtain⟨o,_,_,_,e,_⟩:=x;exact q_ e
 | ins C dx fs=>obtain⟨_,_,_,e,_⟩:=x;exact q_ e
 | own y=>obtain⟨_,e⟩:=x;exact q_ e
 | xd fs=>obtain⟨_,⟨_,_,_,e,_⟩,_⟩:=x;exact q_ e
 | rng lo hi=>obtain⟨_,_,_,e⟩:=x;exact q_ e
 | frz ob u=>obtain⟨e,_⟩:=x;exact q_ e
 | tab q=>obtain⟨_,e,_⟩:=x;exact q_ e
 | cod q=>obtain⟨_,_,_,e,_⟩:=x;exact q_ e
 | met f y=>exact q_ (show h.get? a=some _ from x)
 | ext φ=>obtain⟨_,⟨_,e⟩,_⟩:=x;exact q_ e
theorem Paired.mapP{α β:Type}{F G:α->β->Prop}:∀{l₁:List α}{l₂:List β},Paired F l₁ l₂->(∀a b,F a b->G a b)->Paired G l₁ l₂
 | _,_,.nil,_=>.nil
 | _,_,.cons r t,f=>.cons (f _ _ r) (Paired.mapP t f)
theorem aU.stay(x:aU P w H h a o)(k:∀b u,(b=a\/H b=some (.own a))->h.get? b=some u->h'.get? b=some u)
  (ho:∀b,H b=some (.own a)->H' b=some (.own a)) (ht:∀b xs,H b=some (.tup xs)->H' b=some (.tup xs)) (hc:∀b q,H b=some (.cod q)->H' b=some (.cod q)):aU P w H' h' a o:=by
 induction o with
 | lst xs=>obtain⟨z,aQ,n,r,e⟩:=x;exact⟨z,aQ,n,r,k _ _ (.inl rfl) e⟩
 | tup xs=>obtain⟨z,aQ,r,ob,e,c⟩:=x;exact⟨z,aQ,r,ob,k _ _ (.inl rfl) e,c⟩
 | dK kvs=>obtain⟨z,y,vs,r,ob,es,ep,e,c⟩:=x;exact⟨z,y,vs,r,ob,es,ep,k _ _ (.inl rfl) e,c⟩
 | dT kvs=>
  obtain⟨z,y,xs,r,ob,es,ep,e,c⟩:=x;exact⟨z,y,xs,Paired.mapP r λp q z=>⟨z.1,ht _ _ z.2.1,z.2.2⟩,ob,es,ep,k _ _ (.inl rfl) e,c⟩
 | set S n=>obtain⟨ob,es,ep,t,e,c⟩:=x;exact⟨ob,es,ep,t,k _ _ (.inl rfl) e,c⟩
 | ins C dx fs=>
  obtain⟨d,z,ne,e,mA,⟨od,es,ep,e2,c⟩,r⟩:=x;exact⟨ho _ d,z,ne,k _ _ (.inl rfl) e,mA,⟨od,es,ep,k _ _ (.inr d) e2,c⟩,r⟩
 | own y=>obtain⟨ob,e⟩:=x;exact⟨ob,k _ _ (.inl rfl) e⟩
 | xd fs=>obtain⟨mA,⟨od,es,ep,e,c⟩,r⟩:=x;exact⟨mA,⟨od,es,ep,k _ _ (.inl rfl) e,c⟩,r⟩
 | rng lo hi=>obtain⟨t,u,v,e⟩:=x;exact⟨t,u,v,k _ _ (.inl rfl) e⟩
 | frz ob u ih=>obtain⟨e,q⟩:=x;exact⟨k _ _ (.inl rfl) e,ih q⟩
 | tab q=>obtain⟨ps,e,t,c⟩:=x;exact⟨ps,k _ _ (.inl rfl) e,t,λpos v z=>let ⟨b,z1,z2⟩:=c pos v z;⟨b,z1,hc b q z2⟩⟩
 | cod q=>obtain⟨ob,vs,t,e,d⟩:=x;exact⟨ob,vs,t,k _ _ (.inl rfl) e,d⟩
 | met f y=>
  have e:h.get? a=some (PySem.W.methodObj (.ref f) (.ref y)):=x;show h'.get? a=some (PySem.W.methodObj (.ref f) (.ref y));exact k a _ (.inl rfl) e
 | ext φ=>obtain⟨p,⟨o,e⟩,st⟩:=x;exact⟨st _ _ p λo q=>k _ _ (.inl rfl) q,⟨o,k _ _ (.inl rfl) e⟩,st⟩
theorem k6.lt(x:k6 P w H h)(e:H a=some o):a<h.objs.size:=(x a o e).lt
theorem k6.fresh(x:k6 P w H h)(e:h.objs.size<=a):H a=none:=by
 cases q:H a with
 | none=>rfl
 | some u=>exact absurd (N_ (x.lt q) e) (Uc _)
theorem k6.kept(x:k6 P w H h)(k:∀b u,h.get? b=some u->h'.get? b=some u):k6 P w H h':=λa o e=>
 (x a o e).stay (λb u _ q=>k b u q) (λ_ q=>q) (λ_ _ q=>q) λ_ _ q=>q
theorem k6.laid(x:k6 P w H h)(k:∀b u,h.get? b=some u->h'.get? b=some u)(hp:h.objs.size<=a)(new:aU P w (upd H a o) h' a o):k6 P w (upd H a o) h':=λb u e=>by
 have hn:=x.fresh hp
 by_cases hb:b=a
 .subst hb;rw[ai]at e;cases e;exact new
 .rw[ar hb]at e;exact(x b u e).stay (λc v _ q=>k c v q) (λc q=>by rw[ar (aV q hn)];exact q) (λc xs q=>by rw[ar (aV q hn)];exact q) λc xs q=>by rw[ar (aV q hn)];exact q
end
def Rd(H:Hp)(a:Xj)(u:HO):Prop:=H a=some u\/∃o,H a=some (.frz o u)
theorem Rd.ok{P:Xd}{w:Xg}{H:Hp}{h:Xf}{a:Xj}{u:HO}(r:Rd H a u)(x:k6 P w H h):aU P w H h a u:=by
 rcases r with r | ⟨o,r⟩
 .exact x a u r
 .obtain⟨_,q⟩:=x a _ r;exact q
def Oo:Option HO->Prop
 | some (.lst _)=>True
 | some (.dK _)=>True
 | some (.dT _)=>True
 | some (.set _ _)=>True
 | some (.ins _ _ _)=>True
 | some (.ext _)=>True
 | _=>False
section
variable {P:Xd}{w:Xg}{H:Hp}{h h':Xf}{x e:Xj}{o':HO}
theorem k6.write(ok:k6 P w H h)(mu:Oo (H x))(he:e=x\/H e=some (.own x))(k:∀b u,b≠e->h.get? b=some u->h'.get? b=some u)(K9:∃u,h'.get? e=some u)
  (new:aU P w (upd H x o') h' x o'):k6 P w (upd H x o') h':=λb u q=>by
 have Nv:∀c y,H c=some (.own y)->c≠x:=λc y r z=>by subst z;rw[r]at mu;exact mu
 have ntup:∀c xs,H c=some (.tup xs)->c≠x:=λc xs r z=>by subst z;rw[r]at mu;exact mu
 have ncod:∀c q,H c=some (.cod q)->c≠x:=λc q r z=>by subst z;rw[r]at mu;exact mu
 by_cases hb:b=x
 .subst hb;rw[ai]at q;cases q;exact new
 .rw[ar hb]at q
  by_cases Dw:b=e
  .have q':H b=some (.own x):=by
    rcases he with z | z
    .exact absurd (Dw.trans z) hb
    .rw[Dw];exact z
   rw[q]at q';cases q';obtain⟨v,hv⟩:=K9;exact⟨v,by rw[Dw];exact hv⟩
  .refine(ok b u q).stay (λc v hc r=>k c v ?_ r) (λc r=>by rw[ar (Nv c b r)];exact r) (λc xs r=>by rw[ar (ntup c xs r)];exact r) λc xs r=>by rw[ar (ncod c xs r)];exact r
   rcases hc with rfl | hc
   .exact Dw
   .rintro rfl;rcases he with z | z
    .exact Nv c b hc z
    .rw[hc]at z;cases z;exact hb rfl
end
structure Un(fs ex:List Addr)(H H':Hp)(h h':Heap):Prop where
 keep:∀b o,h.get? b=some o->H b=none->b∉fs->b∉ex->h'.get? b=some o
 slot:∀b o,h.get? b=some o->H b=none->b∈fs->b∉ex->∃sl,h'.get? b=some {o with slots:=sl}
 free:∀b o,h.get? b=some o->H b=none->b∉ex->H' b=none
 there:∀b o,h.get? b=some o->b∉ex->∃o',h'.get? b=some o'
 tups:∀b xs,H b=some (.tup xs)->H' b=some (.tup xs)
 frzs:∀b o u,H b=some (.frz o u)->H' b=some (.frz o u)
 tbls:∀b q,H b=some (.tab q)->H' b=some (.tab q)
section
variable {fs Nw ex ex':W4}{H H1 H2:Hp}{h h1 h2 h':Xf}{a x e:Xj}{o:HO}
theorem Un.any(u:Un fs ex H H1 h h1){b:Xj}{ob:Obj}(q:h.get? b=some ob)(n:H b=none)(hx:b∉ex):∃sl,h1.get? b=some {ob with slots:=sl}:=by
 by_cases hb:b∈fs
 .exact u.slot b ob q n hb hx
 .exact⟨ob.slots,u.keep b ob q n hb hx⟩
theorem Un.trans(a:Un fs ex H H1 h h1)(b:Un fs ex H1 H2 h1 h2):Un fs ex H H2 h h2 where
 keep:=λc ob q n hc hx=>b.keep c ob (a.keep c ob q n hc hx) (a.free c ob q n hx) hc hx
 slot:=λc ob q n hc hx=>by
  obtain⟨sl,e1⟩:=a.slot c ob q n hc hx;obtain⟨Nx,e2⟩:=b.slot c _ e1 (a.free c ob q n hx) hc hx;exact⟨Nx,e2⟩
 free:=λc ob q n hx=>by
  obtain⟨o',e1⟩:=a.there c ob q hx;exact b.free c o' e1 (a.free c ob q n hx) hx
 there:=λc ob q hx=>by
  obtain⟨o',e1⟩:=a.there c ob q hx;exact b.there c o' e1 hx
 tups:=λc xs q=>b.tups c xs (a.tups c xs q)
 frzs:=λc ob xs q=>b.frzs c ob xs (a.frzs c ob xs q)
 tbls:=λc ps q=>b.tbls c ps (a.tbls c ps q)
theorem Un.kept(k:∀b u,h.get? b=some u->h'.get? b=some u):Un fs ex H H h h':=
 ⟨λb ob q _ _ _=>k b ob q,λb ob q _ _ _=>⟨ob.slots,k b ob q⟩,λ_ _ _ n _=>n,λb ob q _=>⟨ob,k b ob q⟩,λ_ _ q=>q,λ_ _ _ q=>q,λ_ _ q=>q⟩
theorem Un.refl:Un fs ex H H h h:=Un.kept λ_ _ q=>q
theorem Un.laid(k:∀b u,h.get? b=some u->h'.get? b=some u)(hp:h.objs.size<=a)(hn:H a=none):Un fs ex H (upd H a o) h h' where
 keep:=λb u q _ _ _=>k b u q
 slot:=λb u q _ _ _=>⟨u.slots,k b u q⟩
 free:=λb u q n _=>by rw[ar (z_ (N_ (q_ q) hp))];exact n
 there:=λb u q _=>⟨u,k b u q⟩
 tups:=λb xs q=>by rw[ar (aV q hn)];exact q
 frzs:=λb u xs q=>by rw[ar (aV q hn)];exact q
 tbls:=λb ps q=>by rw[ar (aV q hn)];exact q
theorem Un.write(mu:Oo (H x))(he:e=x\/H e=some (.own x))(k:∀b u,b≠e->h.get? b=some u->h'.get? b=some u)(K9:∃u,h'.get? e=some u):Un fs ex H (upd H x o) h h':=by
 have hx:∀b,H b=none->b≠x:=λb n z=>by subst z;rw[n]at mu;exact mu
 have hb:∀b,H b=none->b≠e:=λb n z=>by
  subst z;rcases he with r | r
  .exact hx b n r
  .rw[n]at r;cases r
 have hm:∀b u,H b=some u->¬Oo (some u)->b≠x:=λb u q nm z=>by subst z;rw[q]at mu;exact nm mu
 refine⟨λb u q n _ _=>k b u (hb b n) q,λb u q n _ _=>⟨u.slots,k b u (hb b n) q⟩,λb u q n _=>by rw[ar (hx b n)];exact n,λb u q _=>?_,
  λb xs q=>by rw[ar (hm b _ q λz=>z)];exact q,λb u xs q=>by rw[ar (hm b _ q λz=>z)];exact q,λb ps q=>by rw[ar (hm b _ q λz=>z)];exact q⟩
 by_cases Dw:b=e
 .subst Dw;exact K9
 .exact⟨u,k b u Dw q⟩
end
def Od(h:Xf)(H:Hp):W4:=(List.range h.objs.size).filter λa=>(H a).isSome
def ql(h:Xf)(H:Hp):Xf:=PySem.W.hideAll h (Od h H)
theorem zx(h:Xf)(H:Hp):(ql h H).objs.size=h.objs.size:=PySem.W.hideAll_size _ _
theorem Ar{h:Xf}{H:Hp}{b:Xj}{o:Obj}(e:h.get? b=some o)(n:H b=none):(ql h H).get? b=some o:=
 PySem.W.hideAll_get _ e λhm=>by
  have q:(H b).isSome=true:=(SH.mp hm).2;rw[n]at q;simp at q
theorem FS{h:Xf}{H:Hp}{b:Xj}{o:Obj}(e:(ql h H).get? b=some o):h.get? b=some o/\H b=none:=by
 have e':h.get? b=some o:=PySem.W.of_hideAll (Od h H) e;refine⟨e',?_⟩;cases q:H b with
 | none=>rfl
 | some x=>
  have hm:b∈Od h H:=SH.mpr ⟨SA.mpr (q_ e'),by simp[q]⟩;have z:(ql h H).get? b=none:=PySem.W.hideAll_none (Od h H) hm;rw[z]at e;cases e
def DR(g h:Xf)(L:Xj):WU:=(List.range h.objs.size).filterMap λa=>if a=L\/(g.get? a).isSome=true then none else(h.get? a).map λo=>(a,o)
def rest(g h:Xf)(L d:Xj):WU:=(DR g h L).filter λp=>decide (p.1≠d)
def Kb:W3:=["best_in","best_shown"]
def tq(K:W_)(P:Xj):Option Str:=Kb.findSome? λx=>(PySem.W.tabIn K x).bind λp=>if p.2=P then some (x++".<locals>."++"<lambda>")else none
structure Mod(K:PySem.W.Frag)(mg:Str->Option Value)(base:Heap):Prop where
 kin:K.In base
 glob:base.Ns mainGlobals mg
 blt:∃mb,base.Ns builtinsNs mb/\∀x:Str,x≠"__name__"->mb x=bootBuiltins x
 nolimit:base.NoLimit
 bmod:∃bm o,mg "__builtins__"=some (.ref bm)/\bm≠builtinsNs/\bm≠mainGlobals/\base.get? bm=some o/\o.cls=.type "module"/\o.dict=some builtinsNs/\o.data=.plain
structure Cx where
 prog:Program
 w:World
 K:PySem.W.Frag
 mg:Str->Option Value
 base:Heap
 A:Around
 N:List Str
 s₀:Shared
 H₀:Hp
 env:Env
 outer:List Env
 stack:List Env
 ex:List Addr
 fn:Str->Bool
 calm:Bool
 pn:List (Addr×Obj)
 xe:Value->Shared->Prop
def k7(l:List Env):W4:=l.filterMap (·.frame)
abbrev Cx.fs(X:Cx):W4:=k7 X.outer
def wH(sc:Xi)(x:Str):Prop:=sc.names.lookup x=some .local\/sc.names.lookup x=some .cell\/sc.names.lookup x=some .free
def Loc(sc:Xi)(x:Str):Prop:=sc.names.lookup x=some .local\/sc.names.lookup x=some .cell
def Look(env:Env)(h:Xf)(m:WW)(x:Str)(u:Xa):Prop:=
 (env.kindOf x=some .local/\m x=some u)\/((env.kindOf x=some .cell\/env.kindOf x=some .free)/\∃c,env.cells.lookup x=some c/\h.IsCell c (some u))
structure Cx.Ok(X:Cx):Prop where
 mod:Mod X.K X.mg X.base
 kind:X.env.scope.kind=.function
 glob:X.env.globals=mainGlobals
 blt:X.env.builtins=builtinsNs
 above:X.s₀.heap.objs.size<=X.env.locals
 inj:∀x y c,X.env.cells.lookup x=some c->X.env.cells.lookup y=some c->x=y
 has:∀x,(X.env.kindOf x=some .cell\/X.env.kindOf x=some .free)->∃c,X.env.cells.lookup x=some c
 cab:∀x c,X.fn x=true->X.env.cells.lookup x=some c->X.s₀.heap.objs.size<=c
 hd:X.calm=true->X.A.handled=none
 frames:X.A.frames=some X.stack
 stk:X.stack=X.outer\/(X.stack=X.env::X.outer/\X.env.frame=some X.env.locals)
 exf:∀b∈X.ex,b≠X.env.locals/\∀x c,X.env.cells.lookup x=some c->c≠b
 bs:∀b o,X.base.get? b=some o->X.s₀.heap.get? b=some o/\X.H₀ b=none
 bsz:X.base.objs.size<=X.s₀.heap.objs.size
 noex:∀b o,X.base.get? b=some o->b∉X.ex
 exfs:∀b∈X.ex,b∉X.fs
 funs:X.s₀.heap.FunFrames X.base X.outer
 frf:∀b∈X.fs,X.H₀ b=none
 tb:∀P q,tq X.K P=some q->X.H₀ P=some (.tab q)
structure Inv(X:Cx)(pins:List (Addr×Obj))(σ:List (Option V))(H:Hp)(s:Shared):Prop where
 ok:X.Ok
 os:s.os=X.s₀.os
 bare:AllBare s.gens
 base:Un X.fs X.ex X.H₀ H X.s₀.heap s.heap
 loc:∃m,s.heap.Ns X.env.locals m/\∀(i:Nat)(x:Str)(v:V),X.N[i]?=some x->σ[i]?=some (some v)->wH X.env.scope x->∃u,RelV v u/\Look X.env s.heap m x u
 cell:∀x c,X.env.cells.lookup x=some c->∃v,s.heap.IsCell c v
 free:H X.env.locals=none
 freeC:∀x c,X.env.cells.lookup x=some c->H c=none
 pin:∀p∈X.pn++pins,s.heap.get? p.1=some p.2/\H p.1=none/\p.1≠X.env.locals/\p.1∉X.fs/\∀v,p.2.data≠.cell v
 hok:k6 X.prog X.w H s.heap
 len:σ.length=X.N.length
section
variable {X:Cx}{pins:WU}{σ:List (Option V)}{H H':Hp}{s:Xb}{h':Xf}
theorem Cx.Ok.nofr(ok:X.Ok){b:Xj}{o:Obj}(e:X.base.get? b=some o):b∉X.fs:=λhb=>by
 have:=(ok.funs.mem hb).1;rw[e]at this;cases this
theorem Inv.bs(I:Inv X pins σ H s):∀b o,X.base.get? b=some o->s.heap.get? b=some o/\H b=none:=λb o e=>
 ⟨I.base.keep b o (I.ok.bs b o e).1 (I.ok.bs b o e).2 (I.ok.nofr e) (I.ok.noex b o e),I.base.free b o (I.ok.bs b o e).1 (I.ok.bs b o e).2 (I.ok.noex b o e)⟩
theorem Inv.bk(I:Inv X pins σ H s):∀b o,X.base.get? b=some o->s.heap.get? b=some o:=λb o e=>(I.bs b o e).1
theorem Inv.tb(I:Inv X pins σ H s):∀P q,tq X.K P=some q->H P=some (.tab q):=λP q e=>I.base.tbls P q (I.ok.tb P q e)
theorem Inv.mod(I:Inv X pins σ H s):Mod X.K X.mg X.base:=I.ok.mod
theorem Inv.kIn(I:Inv X pins σ H s):X.K.In s.heap:=I.ok.mod.kin.keeps I.bk
theorem Inv.nolimit(I:Inv X pins σ H s):s.heap.NoLimit:=I.ok.mod.nolimit.keeps I.bk
theorem Inv.fr(I:Inv X pins σ H s):∃m,Fr X.base X.env.locals s.heap m:=
 let ⟨m,hn,_⟩:=I.loc
 ⟨m,hn,I.bk,B_ I.ok.bsz I.ok.above⟩
theorem Inv.lt(I:Inv X pins σ H s):X.env.locals<s.heap.objs.size:=let ⟨_,hn,_⟩:=I.loc;hn.lt
theorem Inv.sz(I:Inv X pins σ H s):X.s₀.heap.objs.size<=s.heap.objs.size:=B_ I.ok.above (TV I.lt)
theorem Inv.nofs(I:Inv X pins σ H s){a:Xj}(h:s.heap.objs.size<=a):a∉X.fs:=λhb=>by
 obtain⟨_,o,ho,_⟩:=I.ok.funs.mem hb;exact absurd (N_ (q_ ho) (B_ I.sz h)) (Uc _)
theorem Inv.cne(I:Inv X pins σ H s):∀x c,X.env.cells.lookup x=some c->c≠X.env.locals:=λx c e z=>by
 obtain⟨v,o,ho,hd⟩:=I.cell x c e;obtain⟨m,⟨o',es,ep,ho',ya,_⟩,_⟩:=I.loc;rw[z,ho']at ho;cases ho;rw[ya]at hd;cases hd
theorem Inv.funs(I:Inv X pins σ H s):s.heap.FunFrames X.base X.outer:=by
 have all:∀(l:List Env),(∀b∈k7 l,b∈X.fs)->X.s₀.heap.FunFrames X.base l->s.heap.FunFrames X.base l:=by
  intro l
  induction l with
  | nil=>intro _ _;trivial
  | cons env r ih=>
   intro hs hl;obtain⟨hk,⟨L,o,hf,hn,ho,hd⟩,hr⟩:=hl;have hL:L∈X.fs:=hs L (by unfold k7;rw[SY,hf];exact o_);obtain⟨sl,e⟩:=I.base.slot L o ho (I.ok.frf L hL) hL λz=>I.ok.exfs L z hL;exact⟨hk,⟨L,_,hf,hn,e,hd⟩,ih (λb hb=>hs b (by unfold k7;rw[SY,hf];exact l_ _ hb)) hr⟩
 exact all X.outer (λ_ hb=>hb) I.ok.funs
theorem Inv.stack(I:Inv X pins σ H s):s.heap.FunFrames X.base X.stack:=by
 rcases I.ok.stk with e | ⟨e,hf⟩
 .rw[e];exact I.funs
 .rw[e];obtain⟨m,hn,_⟩:=I.loc;refine .cons (by rw[I.ok.kind];decide) hf hn ?_ I.funs;exact S4 (B_ I.ok.bsz I.ok.above)
theorem Inv.stkSub(I:Inv X pins σ H s):∀b∈k7 X.stack,b∈X.env.locals::X.fs:=λb hb=>by
 rcases I.ok.stk with e | ⟨e,hf⟩
 .rw[e]at hb;exact l_ _ hb
 .rw[e]at hb;unfold k7 at hb;rw[SY,hf]at hb;exact hb
theorem Inv.stkFree(I:Inv X pins σ H s):∀b∈k7 X.stack,H b=none:=λb hb=>by
 rcases t_.mp (I.stkSub b hb)with e | hb
 .rw[e];exact I.free
 .obtain⟨_,o,ho,_⟩:=I.ok.funs.mem hb;exact I.base.free b o ho (I.ok.frf b hb) λz=>I.ok.exfs b z hb
theorem Inv.step{g':Array GenState}{t':Nat}{d':Drawn}{ch:W4}(I:Inv X pins σ H s)
  (hch:∀b∈ch,(b∈X.ex\/X.s₀.heap.objs.size<=b)/\b≠X.env.locals/\(∀x c,X.env.cells.lookup x=some c->c≠b)/\∀p∈X.pn++pins,p.1≠b)
  (keep:∀b o,b≠X.env.locals->b∉X.fs->b∉ch->s.heap.get? b=some o->H b=none->h'.get? b=some o)
  (slot:∀b o,b≠X.env.locals->b∈X.fs->b∉ch->s.heap.get? b=some o->H b=none->∃sl,h'.get? b=some {o with slots:=sl}) (free:∀b o,b∉ch->s.heap.get? b=some o->H b=none->H' b=none)
  (there:∀b o,b∉ch->s.heap.get? b=some o->∃o',h'.get? b=some o')
  (tups:∀b xs,H b=some (.tup xs)->H' b=some (.tup xs)) (frzs:∀b o u,H b=some (.frz o u)->H' b=some (.frz o u)) (tbls:∀b q,H b=some (.tab q)->H' b=some (.tab q))
  (ns:∀m,s.heap.Ns X.env.locals m->h'.Ns X.env.locals m) (hok:k6 X.prog X.w H' h') (hg:AllBare g') :
  Inv X pins σ H' {s with heap:=h',gens:=g',drawn:=d',toks:=t'}:=by
 have Rg:∀b o,X.s₀.heap.get? b=some o->b≠X.env.locals:=λb o e=>z_ (N_ (q_ e) I.ok.above);have Ou:∀b o,X.s₀.heap.get? b=some o->b∉X.ex->b∉ch:=λb o e hx hb=>by
  rcases(hch b hb).1 with z | z
  .exact hx z
  .exact absurd (N_ (q_ e) z) (Uc _)
 have cellK:∀x c,X.env.cells.lookup x=some c->∀v,s.heap.IsCell c v->h'.IsCell c v:=λx c e v ⟨o,ho,hd⟩=>by
  have Ny:c∉ch:=λz=>(hch c z).2.2.1 x c e rfl
  by_cases hc:c∈X.fs
  .obtain⟨sl,q⟩:=slot c o (I.cne x c e) hc Ny ho (I.freeC x c e);exact⟨_,q,hd⟩
  .exact⟨o,keep c o (I.cne x c e) hc Ny ho (I.freeC x c e),hd⟩
 refine⟨I.ok,I.os,hg,⟨λb o e n hb hx=>?_,λb o e n hb hx=>?_,λb o e n hx=>?_,λb o e hx=>?_,λb xs e=>tups b xs (I.base.tups b xs e),λb o xs e=>frzs b o xs (I.base.frzs b o xs e),λb ps e=>?_⟩,?_,λx c e=>?_,?_,λx c e=>?_,λp hp=>?_,hok,I.len⟩
 .exact keep b o (Rg b o e) hb (Ou b o e hx) (I.base.keep b o e n hb hx) (I.base.free b o e n hx)
 .obtain⟨sl,e1⟩:=I.base.slot b o e n hb hx;obtain⟨Nx,e2⟩:=slot b _ (Rg b o e) hb (Ou b o e hx) e1 (I.base.free b o e n hx);exact⟨Nx,e2⟩
 .obtain⟨o',e1⟩:=I.base.there b o e hx;exact free b o' (Ou b o e hx) e1 (I.base.free b o e n hx)
 .obtain⟨o',e1⟩:=I.base.there b o e hx;exact there b o' (Ou b o e hx) e1
 .exact tbls b _ (I.base.tbls b ps e)
 .obtain⟨m,hn,hl⟩:=I.loc;refine⟨m,ns m hn,λi x v e1 e2 e3=>?_⟩;obtain⟨u,r,l⟩:=hl i x v e1 e2 e3;refine⟨u,r,?_⟩;rcases l with l | ⟨k,c,e,z⟩
  .exact .inl l
  .exact .inr ⟨k,c,e,cellK x c e _ z⟩
 .obtain⟨v,z⟩:=I.cell x c e;exact⟨v,cellK x c e v z⟩
 .obtain⟨m,⟨o,_,_,ho,_⟩,_⟩:=I.loc;exact free _ o (λz=>(hch _ z).2.1 rfl) ho I.free
 .obtain⟨v,o,ho,hd⟩:=I.cell x c e;exact free c o (λz=>(hch c z).2.2.1 x c e rfl) ho (I.freeC x c e)
 .obtain⟨e,n,ne,nf,d⟩:=I.pin p hp;have Ny:p.1∉ch:=λz=>(hch p.1 z).2.2.2 p hp rfl;exact⟨keep p.1 p.2 ne nf Ny e n,free p.1 p.2 Ny e n,ne,nf,d⟩
theorem Inv.un{t':Nat}(I:Inv X pins σ H s)(u:Un X.fs [] H H' s.heap h')(hok:k6 X.prog X.w H' h'):Inv X pins σ H' {s with heap:=h',toks:=t'}:=by
 obtain⟨m,⟨o,es,ep,ho,r⟩,_⟩:=id I.loc;obtain⟨sl,hL⟩:=u.any ho I.free (by simp);exact I.step (g':=s.gens) (d':=s.drawn) (ch:=[]) (λ_ z=>nomatch z) (λb o _ hb _ e n=>u.keep b o e n hb (by simp)) (λb o _ hb _ e n=>u.slot b o e n hb (by simp)) (λb o _ e n=>u.free b o e n (by simp)) (λb o _ e=>u.there b o e (by simp)) u.tups u.frzs u.tbls (λm' hm=>by
  obtain⟨o',es',xY,ho',r'⟩:=hm;rw[ho]at ho';cases ho';exact⟨_,es',xY,hL,r'⟩) hok I.bare
theorem Inv.call{g':Array GenState}{t':Nat}{d':Drawn}{ch:W4}(I:Inv X pins σ H s)(u:Un (k7 X.stack) ch H H' s.heap h')(hok:k6 X.prog X.w H' h')(hg:AllBare g')
  (hch:∀b∈ch,(b∈X.ex\/X.s₀.heap.objs.size<=b)/\b≠X.env.locals/\(∀x c,X.env.cells.lookup x=some c->c≠b)/\∀p∈X.pn++pins,p.1≠b) :
  Inv X pins σ H' {s with heap:=h',gens:=g',drawn:=d',toks:=t'}:=by
 obtain⟨m,⟨o,es,ep,ho,r⟩,_⟩:=id I.loc;obtain⟨sl,hL⟩:=u.any ho I.free λz=>(hch _ z).2.1 rfl;exact I.step (ch:=ch) hch (λb o hL hb hc e n=>u.keep b o e n (λz=>(t_.mp (I.stkSub b z)).elim hL hb) hc) (λb o _ _ hc e n=>u.any e n hc) (λb o hc e n=>u.free b o e n hc) (λb o hc e=>u.there b o e hc) u.tups u.frzs u.tbls (λm' hm=>by
  obtain⟨o',es',xY,ho',r'⟩:=hm;rw[ho]at ho';cases ho';exact⟨_,es',xY,hL,r'⟩) hok hg
theorem Inv.turned{t':Nat}{it:Xj}(I:Inv X pins σ H s)(k:∀b o,b≠it->s.heap.get? b=some o->h'.get? b=some o)(hn:H it=none)(hL:it≠X.env.locals)
  (h1:it∈X.ex\/X.s₀.heap.objs.size<=it) (h2:∀x c,X.env.cells.lookup x=some c->c≠it) (h3:∀p∈X.pn++pins,p.1≠it):Inv X pins σ H {s with heap:=h',toks:=t'}:=by
 have Nz:∀b u,H b=some u->b≠it:=λb u e z=>by rw[z,hn]at e;cases e
 refine I.step (g':=s.gens) (d':=s.drawn) (ch:=[it]) (λb hb=>?_) (λb o _ _ hc e _=>k b o (λz=>hc (by simp[z])) e) (λb o _ _ hc e _=>⟨o.slots,k b o (λz=>hc (by simp[z])) e⟩) (λ_ _ _ _ n=>n)
  (λb o hc e=>⟨o,k b o (λz=>hc (by simp[z])) e⟩) (λ_ _ e=>e) (λ_ _ _ e=>e) (λ_ _ e=>e) (λm hm=>?_) (λb u e=>?_) I.bare
 .have e:b=it:=by simpa using hb
  subst e;exact⟨h1,hL,h2,h3⟩
 .obtain⟨o,es,ep,ho,r⟩:=hm;exact⟨o,es,ep,k _ o (Tj hL) ho,r⟩
 .refine(I.hok b u e).stay (λc v hc q=>k c v ?_ q) (λ_ q=>q) (λ_ _ q=>q) λ_ _ q=>q;rcases hc with z | z
  .rw[z];exact Nz b u e
  .exact Nz c _ z
theorem Inv.tok(I:Inv X pins σ H s)(t:Nat):Inv X pins σ H {s with toks:=t}:=I.un (h':=s.heap) (t':=t) Un.refl I.hok
theorem Inv.kept{t':Nat}(I:Inv X pins σ H s)(k:∀b u,s.heap.get? b=some u->h'.get? b=some u):Inv X pins σ H {s with heap:=h',toks:=t'}:=I.un (Un.kept k) (I.hok.kept k)
theorem Inv.laid{a:Xj}{o:HO}{t':Nat}(I:Inv X pins σ H s)(k:∀b u,s.heap.get? b=some u->h'.get? b=some u)(hp:s.heap.objs.size<=a)(new:aU X.prog X.w (upd H a o) h' a o) :
  Inv X pins σ (upd H a o) {s with heap:=h',toks:=t'}:=I.un (Un.laid k hp (I.hok.fresh hp)) (I.hok.laid k hp new)
theorem Inv.write{x e:Xj}{o:HO}{t':Nat}(I:Inv X pins σ H s)(mu:Oo (H x))(he:e=x\/H e=some (.own x))(k:∀b u,b≠e->s.heap.get? b=some u->h'.get? b=some u)(K9:∃u,h'.get? e=some u)
  (new:aU X.prog X.w (upd H x o) h' x o):Inv X pins σ (upd H x o) {s with heap:=h',toks:=t'}:=I.un (Un.write mu he k K9) (I.hok.write mu he k K9 new)
theorem Inv.pins_of{um:WU}(I:Inv X pins σ H s)(h:∀p∈um,s.heap.get? p.1=some p.2/\H p.1=none/\p.1≠X.env.locals/\p.1∉X.fs/\∀v,p.2.data≠.cell v):Inv X um σ H s:=
 ⟨I.ok,I.os,I.bare,I.base,I.loc,I.cell,I.free,I.freeC,λp hp=>(Su.mp hp).elim (λz=>I.pin p (U4 _ z)) (h p),I.hok,I.len⟩
theorem r6{N:W3}(hN:N.Nodup){i j:Nat}{x:Str}(a:N[i]?=some x)(b:N[j]?=some x):i=j:=by
 obtain⟨h1,e1⟩:=i_.mp a;obtain⟨h2,e2⟩:=i_.mp b;exact(List.getElem_inj hN).mp (e1.trans e2.symm)
theorem oX{M:Model}{A:Xe}{E:WT}{i:Nat}{x:Str}{v:V}{u:Xa}{Q:Unit->Xb->Prop}(I:Inv X pins σ H s)(hN:X.N.Nodup)(hi:X.N[i]?=some x)(hx:Loc X.env.scope x)(r:RelV v u)
  (h:∀s',Inv X pins (σ.set i (some v)) H s'->(∃a,Heap.SameBut a s.heap s'.heap/\(a=X.env.locals\/X.env.cells.lookup x=some a))->Q () s') (hf:X.fn x=true\/X.env.scope.names.lookup x=some .local:=by first | exact .inl rfl | exact .inr rfl | assumption):wpAny M A (storeName X.env x u) Q E s:=by
 obtain⟨m,hn,hl⟩:=id I.loc;have vY:(X.env.scope.kind==.class||(X.env.scope.kind==.module&&X.env.locals != X.env.globals))=false:=by rw[I.ok.kind];rfl
 have Km:i < σ.length:=by rw[I.len];exact(i_.mp hi).1
 have cne:=I.cne;have tracked:∀{a:Xj}{h':Xf},(∃o,s.heap.get? a=some o/\H a=none)->Heap.SameBut a s.heap h'->k6 X.prog X.w H h':=λ{a h'} ha hs b ob e=>by
  obtain⟨_,_,Hn⟩:=ha;refine(I.hok b ob e).stay (λc w' hc q=>(hs.2 c ?_).trans q) (λ_ q=>q) (λ_ _ q=>q) λ_ _ q=>q;rintro rfl;rcases hc with rfl | hc
  .rw[Hn]at e;cases e
  .rw[Hn]at hc;cases hc
 rcases hx with hk | hk
 .refine wpAny_storeName_local hk hn (λh' Kn hs=>?_) vY;obtain⟨oL,_,_,hoL,_⟩:=id hn;refine h _ ⟨I.ok,I.os,I.bare,⟨λb o e n hb hx=>?_,λb o e n hb hx=>?_,I.base.free,λb o e hx=>?_,I.base.tups,I.base.frzs,I.base.tbls⟩,⟨_,Kn,λj y v' e1 e2 e3=>?_⟩,λy c e=>?_,I.free,I.freeC,λp hp=>?_,tracked ⟨oL,hoL,I.free⟩ hs,by simpa using I.len⟩ ⟨_,hs,.inl rfl⟩
  .exact(hs.2 b (z_ (N_ (q_ e) I.ok.above))).trans (I.base.keep b o e n hb hx)
  .obtain⟨sl,e1⟩:=I.base.slot b o e n hb hx;exact⟨sl,(hs.2 b (z_ (N_ (q_ e) I.ok.above))).trans e1⟩
  .obtain⟨o',e1⟩:=I.base.there b o e hx;exact⟨o',(hs.2 b (z_ (N_ (q_ e) I.ok.above))).trans e1⟩
  .by_cases hj:j=i
   .subst hj;rw[hi]at e1;cases e1;rw[v_ Km]at e2;cases e2;exact⟨u,r,.inl ⟨hk,by simp⟩⟩
   .rw[p_ (Tj hj)]at e2;obtain⟨u',r',q⟩:=hl j y v' e1 e2 e3;refine⟨u',r',?_⟩;rcases q with ⟨k,e⟩ | ⟨k,c,e,z⟩
    .refine .inl ⟨k,?_⟩;have:y≠x:=λe=>hj (r6 hN e1 (e▸hi));simp[this,e]
    .exact .inr ⟨k,c,e,z.sameBut hs (cne y c e)⟩
  .obtain⟨w',z⟩:=I.cell y c e;exact⟨w',z.sameBut hs (cne y c e)⟩
  .obtain⟨e,n,ne,nf,d⟩:=I.pin p hp;exact⟨(hs.2 p.1 ne).trans e,n,ne,nf,d⟩
 .have Ov:X.fn x=true:=by
   rcases hf with z | z
   .exact z
   .rw[z]at hk;cases hk
  obtain⟨c,hc⟩:=I.ok.has x (.inl hk);obtain⟨w',z⟩:=I.cell x c hc;refine wpAny_storeName_cell I.ok.kind hk hc z (λh' hc' hs=>?_);obtain⟨oc,Gq,hocd⟩:=id z;refine h {s with heap:=h'} ⟨I.ok,I.os,I.bare,⟨λb o e n hb hx=>?_,λb o e n hb hx=>?_,I.base.free,λb o e hx=>?_,I.base.tups,I.base.frzs,I.base.tbls⟩,⟨m,hn.sameBut hs (Tj (cne x c hc)),λj y v' e1 e2 e3=>?_⟩,λy c' e=>?_,I.free,I.freeC,λp hp=>?_,tracked ⟨oc,Gq,I.freeC x c hc⟩ hs,by simpa using I.len⟩ ⟨c,hs,.inr hc⟩
  .exact(hs.2 b (z_ (N_ (q_ e) (I.ok.cab x c Ov hc)))).trans (I.base.keep b o e n hb hx)
  .obtain⟨sl,e1⟩:=I.base.slot b o e n hb hx;exact⟨sl,(hs.2 b (z_ (N_ (q_ e) (I.ok.cab x c Ov hc)))).trans e1⟩
  .obtain⟨o',e1⟩:=I.base.there b o e hx;exact⟨o',(hs.2 b (z_ (N_ (q_ e) (I.ok.cab x c Ov hc)))).trans e1⟩
  .by_cases hj:j=i
   .subst hj;rw[hi]at e1;cases e1;rw[v_ Km]at e2;cases e2;exact⟨u,r,.inr ⟨.inl hk,c,hc,hc'⟩⟩
   .rw[p_ (Tj hj)]at e2;obtain⟨u',r',q⟩:=hl j y v' e1 e2 e3;refine⟨u',r',?_⟩;rcases q with q | ⟨k,c',e,z'⟩
    .exact .inl q
    .refine .inr ⟨k,c',e,z'.sameBut hs ?_⟩;rintro rfl;exact hj (r6 hN e1 (I.ok.inj _ _ _ e hc▸hi))
  .by_cases Dx:c'=c
   .subst Dx;exact⟨_,hc'⟩
   .obtain⟨w2,z2⟩:=I.cell y c' e;exact⟨w2,z2.sameBut hs Dx⟩
  .obtain⟨e,n,ne,nf,d⟩:=I.pin p hp;refine⟨(hs.2 p.1 ?_).trans e,n,ne,nf,d⟩;intro q;rw[q,Gq]at e;have q':oc=p.2:=Option.some.inj e;exact d w' (by rw[<- q'];exact hocd)
theorem jC{M:Model}{A:Xe}{E:WT}{i:Nat}{x:Str}{v:V}{u:Xa}{Q:Unit->Xb->Prop}(I:Inv X pins σ H s)(hN:X.N.Nodup)(hi:X.N[i]?=some x)(hx:Loc X.env.scope x)(r:RelV v u)
  (h:∀s',Inv X pins (σ.set i (some v)) H s'->Q () s') (hf:X.fn x=true\/X.env.scope.names.lookup x=some .local:=by first | exact .inl rfl | exact .inr rfl | assumption):wpAny M A (storeName X.env x u) Q E s:=
 oX I hN hi hx r (λs' I' _=>h s' I') hf
theorem Inv.call'{s':Xb}{ch:W4}(I:Inv X pins σ H s)(ho:s'.os=s.os)(u:Un (k7 X.stack) ch H H' s.heap s'.heap)(hok:k6 X.prog X.w H' s'.heap)(hg:AllBare s'.gens)
  (hch:∀b∈ch,(b∈X.ex\/X.s₀.heap.objs.size<=b)/\b≠X.env.locals/\(∀x c,X.env.cells.lookup x=some c->c≠b)/\∀p∈X.pn++pins,p.1≠b):Inv X pins σ H' s':=by
 obtain⟨h',g',d',t',o'⟩:=s';have e:o'=s.os:=ho;subst e;exact I.call (g':=g') (t':=t') (d':=d') u hok hg hch
end
abbrev XK:=Xa->W2->Hp->Prop
abbrev St:=List (Option V)
abbrev VK:=V->Hp->Prop
abbrev TE:=St->Hp->VK->Prop
abbrev TT:=St->Hp->(Bool->Hp->Prop)->Prop
abbrev TA:=St->Hp->(Xs->Hp->Prop)->Prop
structure Ends where
 nx:St->Hp->Prop
 rt:VK
 bk:St->Hp->Prop:=λ_ _=>False
 ct:St->Hp->Prop:=λ_ _=>False
abbrev TS:=Ends->St->Hp->Prop
def EP(X:Cx)(pins:WU)(σ:St)(Q:VK)(u:Xa)(s':Xb):Prop:=∃v H',Inv X pins σ H' s'/\RelV v u/\Q v H'
def TP(X:Cx)(pins:WU)(σ:St)(Q:Bool->Hp->Prop)(b:Bool)(s':Xb):Prop:=∃H',Inv X pins σ H' s'/\Q b H'
def AP(X:Cx)(pins:WU)(σ:St)(Q:Xs->Hp->Prop)(us:W0)(s':Xb):Prop:=∃vs H',Inv X pins σ H' s'/\av vs us/\Q vs H'
def SP(X:Cx)(pins:WU)(D:Ends)(f:Flow)(s':Xb):Prop:=
 match f with
 | .next=>∃σ' H',Inv X pins σ' H' s'/\D.nx σ' H'
 | .brk=>∃σ' H',Inv X pins σ' H' s'/\D.bk σ' H'
 | .cont=>∃σ' H',Inv X pins σ' H' s'/\D.ct σ' H'
 | .ret u=>∃v σ' H',Inv X pins σ' H' s'/\RelV v u/\D.rt v H'
def PE(X:Cx)(e:Xk)(t:TE):Prop:=
 ∀(pins:WU)(s:Xb)(σ:St)(H:Hp)(Q:VK),Inv X pins σ H s->t σ H Q->wpAny (model X.prog X.w) X.A (eval e X.env) (EP X pins σ Q) X.xe s
def PT(X:Cx)(e:Xk)(t:TT):Prop:=
 ∀(pins:WU)(s:Xb)(σ:St)(H:Hp)(Q:Bool->Hp->Prop),Inv X pins σ H s->t σ H Q->wpAny (model X.prog X.w) X.A (isTrue e X.env (eval e X.env)) (TP X pins σ Q) X.xe s
def PW(X:Cx)(e:Xk)(t:TT):Prop:=
 ∀(whole:Sem Xa)(pins:WU)(s:Xb)(σ:St)(H:Hp)(Q:Bool->Hp->Prop),Inv X pins σ H s->t σ H Q->wpAny (model X.prog X.w) X.A (isTrue e X.env whole) (TP X pins σ Q) X.xe s
theorem PW.pt{X:Cx}{e:Xk}{t:TT}(h:PW X e t):PT X e t:=h _
def PA(X:Cx)(es:W5)(t:TA):Prop:=
 ∀(pos:Pos)(pins:WU)(s:Xb)(σ:St)(H:Hp)(Q:Xs->Hp->Prop),Inv X pins σ H s->t σ H Q->wpAny (model X.prog X.w) X.A (spliced (backTo pos (starEach es X.env))) (AP X pins σ Q) X.xe s
def PS(X:Cx)(st:Xl)(t:TS):Prop:=
 ∀(pins:WU)(s:Xb)(σ:St)(H:Hp)(D:Ends),Inv X pins σ H s->t D σ H->wpAny (model X.prog X.w) X.A (exec st X.env) (SP X pins D) X.xe s
def PSs(X:Cx)(st:W6)(t:TS):Prop:=
 ∀(pins:WU)(s:Xb)(σ:St)(H:Hp)(D:Ends),Inv X pins σ H s->t D σ H->wpAny (model X.prog X.w) X.A (execs st X.env) (SP X pins D) X.xe s
theorem aZ{α:Type}{t:Sem α}{Q Q':α->Xb->Prop}{M:Model}{A:Xe}{E:WT}{s:Xb}(h:wpAny M A t Q E s)(hQ:∀a s,Q a s->Q' a s):wpAny M A t Q' E s:=SI h hQ λ_ _ x=>x
section
variable {X:Cx}
def Jy(i:Nat):TE:=λσ H Q=>∃v,σ[i]?=some (some v)/\Q v H
def tC(v:V):TE:=λ_ H Q=>Q v H
theorem bI{i:Nat}{x:Str}{pos:Pos}(hN:X.N[i]?=some x)(hv:wH X.env.scope x)(hd:(x==("__debug__":Str))=false:=by decide)(dQ:(x==("__classdict__":Str))=false:=by decide):PE X (.Name x pos) (Jy i):=by
 intro pins s σ H Q I h;obtain⟨v,e,h⟩:=h;obtain⟨m,hn,hl⟩:=I.loc;obtain⟨u,r,l⟩:=hl i x v hN e hv;have fin:EP X pins σ Q u s:=⟨v,H,I,r,h⟩;rcases l with ⟨hk,hm⟩ | ⟨hk,c,hc,uo⟩
 .exact wpAny_Name (wpAny_loadName_local I.ok.kind hk hn hm fin) hd
 .rcases hk with hk | hk
  .exact wpAny_Name (wpAny_loadName_cell I.ok.kind hk hc uo fin) hd
  .exact wpAny_Name (wpAny_loadName_free I.ok.kind hk hc uo fin dQ) hd
theorem Al{i j pos}:PE X (.Constant (.int i) j pos) (tC (.int i)):=λ_ _ _ H _ I h=>wpAny_Constant_int ⟨.int i,H,I.tok _,⟨_,rfl⟩,h⟩
theorem Ly{b j pos}:PE X (.Constant (.bool b) j pos) (tC (.bl b)):=λ_ _ _ H _ I h=>Constant_bool ⟨.bl b,H,I,rfl,h⟩
theorem Ic{j pos}:PE X (.Constant .none j pos) (tC .non):=λ_ _ _ H _ I h=>Constant_none ⟨.non,H,I,rfl,h⟩
theorem Jn{x j pos}:PE X (.Constant (.str x) j pos) (tC (.str x)):=λ_ _ _ H _ I h=>Calls.Constant_str ⟨.str x,H,I.tok _,⟨_,rfl⟩,h⟩
def Gl(X:Cx)(x:Str):Prop:=X.env.kindOf x=some .globalImplicit
theorem gY{E:WT}{pins:WU}{s:Xb}{σ:St}{H:Hp}{x:Str}{u:Xa}{pos:Pos}{Q:WT}(I:Inv X pins σ H s)(hg:Gl X x)(hm:X.mg x=some u)(h:Q u s)
  (hd:(x==("__debug__":Str))=false:=by decide):wpAny (model X.prog X.w) X.A (eval (.Name x pos) X.env) Q E s:=
 Calls.Name_function_global I.ok.kind hg (Calls.loadGlobal_global (by rw[I.ok.glob];exact I.mod.glob.keeps I.bk) hm h) hd
theorem gT{E:WT}{pins:WU}{s:Xb}{σ:St}{H:Hp}{x:Str}{u:Xa}{pos:Pos}{Q:WT}(I:Inv X pins σ H s)(hg:Gl X x)(hm:X.mg x=none)(hv:bootBuiltins x=some u)(h:Q u s)
  (hn:x≠"__name__":=by decide) (hd:(x==("__debug__":Str))=false:=by decide):wpAny (model X.prog X.w) X.A (eval (.Name x pos) X.env) Q E s:=by
 obtain⟨mb,h1,h2⟩:=I.mod.blt;exact Calls.Name_function_global I.ok.kind hg (Calls.loadGlobal_builtin (by rw[I.ok.glob];exact I.mod.glob.keeps I.bk) hm (by rw[I.ok.blt];exact h1.keeps I.bk) ((h2 x hn).trans hv) h) hd
theorem xQ{x:Str}{v:V}{u:Xa}{pos:Pos}(hg:Gl X x)(hm:X.mg x=some u)(r:RelV v u)(hd:(x==("__debug__":Str))=false:=by decide):PE X (.Name x pos) (tC v):=
 λ_ _ _ H _ I h=>gY I hg hm ⟨v,H,I,r,h⟩ hd
variable {a b:Xk}{ta tb:TE}{pos:Pos}
def tB(t:TE):TT:=λσ H Q=>t σ H λx H1=>∃c,x=.bl c/\Q c H1
theorem J6{e:Xk}{t:TE}(h:PE X e t)(he:∀whole,isTrue e X.env whole=(do let v <- whole;standAt e.pos;holding [v] (truthy v)):=by intro _;rfl):PT X e (tB t):=by
 intro pins s σ H Q I hw;refine isTrue_plain (aZ (h pins s σ H _ I hw) λv s1 ⟨x,H1,I1,r1,q1⟩=>?_) (he _);obtain⟨d,rfl,q⟩:=q1;cases r1;exact TC ⟨H1,I1,q⟩
variable {tA tB':TT}{rest:W5}
def P3(t u:TT):TT:=λσ H Q=>t σ H λc H1=>if c=true then u σ H1 Q else Q false H1
def Sq(t u:TT):TT:=λσ H Q=>t σ H λc H1=>if c=true then Q true H1 else u σ H1 Q
def OV(t:TT):TT:=λσ H Q=>t σ H λc H1=>Q (!c) H1
theorem ES(ha:PT X a tA):PW X (.BoolOp .And [a] pos) tA:=by
 intro wh pins s σ H Q I h;refine isTrue_and (aZ (ha pins s σ H Q I h) λc s1 e=>?_);cases c with
 | true=>exact isTrue_and_nil e
 | false=>exact e
theorem H8(ha:PT X a tA):PW X (.BoolOp .Or [a] pos) tA:=by
 intro wh pins s σ H Q I h;refine isTrue_or (aZ (ha pins s σ H Q I h) λc s1 e=>?_);cases c with
 | false=>exact isTrue_or_nil e
 | true=>exact e
theorem JA(ha:PT X a tA)(hb:PW X (.BoolOp .And (b::rest) pos) tB'):PW X (.BoolOp .And (a::b::rest) pos) (P3 tA tB'):=by
 intro wh pins s σ H Q I h;refine isTrue_and (aZ (ha pins s σ H _ I h) λc s1 ⟨H1,I1,q1⟩=>?_);cases c with
 | true=>exact hb wh pins s1 σ H1 Q I1 q1
 | false=>exact⟨H1,I1,q1⟩
theorem LS(ha:PT X a tA)(hb:PW X (.BoolOp .Or (b::rest) pos) tB'):PW X (.BoolOp .Or (a::b::rest) pos) (Sq tA tB'):=by
 intro wh pins s σ H Q I h;refine isTrue_or (aZ (ha pins s σ H _ I h) λc s1 ⟨H1,I1,q1⟩=>?_);cases c with
 | true=>exact⟨H1,I1,q1⟩
 | false=>exact hb wh pins s1 σ H1 Q I1 q1
theorem HX(ha:PT X a tA):PT X (.UnaryOp .Not a pos) (OV tA):=by
 intro pins s σ H Q I h;exact isTrue_not (ha pins s σ H (λc H1=>Q (!c) H1) I h)
def Pu(ta tb:TE):TE:=λσ H Q=>ta σ H λx H1=>∃c,x=.bl c/\if c=true then Q (.bl true) H1 else tb σ H1 Q
theorem IJ{op}{t:TE}(h:PE X a t):PE X (.BoolOp op [a] pos) t:=λpins s σ H Q I hw=>BoolOp_one (h pins s σ H Q I hw)
theorem LB(ha:PE X a ta)(hb:PE X (.BoolOp .Or (b::rest) pos) tb):PE X (.BoolOp .Or (a::b::rest) pos) (Pu ta tb):=by
 intro pins s σ H Q I h;refine BoolOp_or (aZ (ha pins s σ H _ I h) λv s1 ⟨x,H1,I1,r1,q1⟩=>?_);obtain⟨c,rfl,q1⟩:=q1;cases r1;refine TC ?_;cases c with
 | false=>exact hb pins s1 σ H1 Q I1 q1
 | true=>exact⟨.bl true,H1,I1,rfl,q1⟩
end
def di(K:W_)(H:Hp)(a:Xj)(xs:Xs):Prop:=
 Rd H a (.lst xs)\/
  ∃(o:Obj)(aQ:Array Xa)(n:Nat),K.lookup a=some o/\o.cls=.type "list"/\o.dict=none/\o.data=.seq aQ n/\aQ.size<=sizeLine/\av xs aQ.toList
def cy(K:W_)(H:Hp)(a:Xj)(xs:Xs):Prop:=
 Rd H a (.tup xs)\/
  ∃(o:Obj)(aQ:Array Xa)(n:Nat),K.lookup a=some o/\o.cls=.type "tuple"/\o.data=.seq aQ n/\aQ.size<=sizeLine/\av xs aQ.toList
def PZ:Xa->Option V
 | .none=>some .non
 | .bool b=>some (.bl b)
 | .int i _=>some (.int i)
 | .str x _=>some (.str x)
 | .bytes b _=>some (.byt b)
 | .float b _=>some (.flt b)
 | .ref a=>some (.ref a)
 | .type n=>some (.ty n)
 | _=>none
theorem RelV.abs{x:V}{u:Xa}(r:RelV x u):PZ u=some x:=by
 cases x with
 | non=>cases r;rfl
 | bl _=>cases r;rfl
 | int _=>obtain⟨t,rfl⟩:=r;rfl
 | str _=>obtain⟨t,rfl⟩:=r;rfl
 | byt _=>obtain⟨t,rfl⟩:=r;rfl
 | flt _=>obtain⟨t,rfl⟩:=r;rfl
 | ref _=>cases r;rfl
 | ty _=>cases r;rfl
theorem RelV.inj{x y:V}{u:Xa}(r:RelV x u)(q:RelV y u):x=y:=Option.some.inj (r.abs.symm.trans q.abs)
theorem av.inj:∀{xs ys:Xs}{us:W0},av xs us->av ys us->xs=ys
 | _,_,_,.nil,.nil=>rfl
 | _,_,_,.cons r t,.cons r' t'=>by rw[r.inj r',av.inj t t']
section
variable {X:Cx}{pins:WU}{σ:St}{H:Hp}{s:Xb}{a:Xj}{xs ys:Xs}
theorem di.of{K:W_}(h:H a=some (.lst xs)):di K H a xs:=.inl (.inl h)
theorem cy.of{K:W_}(h:H a=some (.tup xs)):cy K H a xs:=.inl (.inl h)
theorem Inv.list(I:Inv X pins σ H s)(h:di X.K H a xs):∃aQ:W0,av xs aQ/\PlainL s.heap a aQ.toArray/\xs.length<=sizeLine:=by
 rcases h with h | ⟨o,aQ,n,hk,hc,hd,hs,hz,r⟩
 .obtain⟨z,aQ,n,r,e⟩:=h.ok I.hok;exact⟨aQ,r,⟨_,n,e,rfl,rfl,rfl⟩,z⟩
 .refine⟨aQ.toList,r,⟨o,n,I.kIn a o hk,hc,hd,by simpa using hs⟩,?_⟩;have e:=r.length;simp only[Sx]at e;omega
theorem Inv.tuple(I:Inv X pins σ H s)(h:cy X.K H a xs):∃aQ:W0,av xs aQ/\IsTup s.heap a aQ.toArray/\xs.length<=sizeLine:=by
 rcases h with h | ⟨o,aQ,n,hk,hc,hs,hz,r⟩
 .obtain⟨z,aQ,r,p⟩:=h.ok I.hok;exact⟨aQ,r,p,z⟩
 .refine⟨aQ.toList,r,⟨o,I.kIn a o hk,hc,n,by simpa using hs⟩,?_⟩;have e:=r.length;simp only[Sx]at e;omega
theorem Inv.list_inj(I:Inv X pins σ H s)(h:di X.K H a xs)(h':di X.K H a ys):xs=ys:=by
 obtain⟨aQ,r,⟨o,n,e,_,_,d⟩,_⟩:=I.list h;obtain⟨its',r',⟨o',n',e',_,_,d'⟩,_⟩:=I.list h';rw[e]at e';cases e';rw[d]at d'
 injection d' with d1 _
 have:aQ=its':=by simpa using Tp Array.toList d1
 subst this;exact r.inj r'
theorem Inv.tuple_inj(I:Inv X pins σ H s)(h:cy X.K H a xs)(h':cy X.K H a ys):xs=ys:=by
 obtain⟨aQ,r,⟨o,e,_,n,d⟩,_⟩:=I.tuple h;obtain⟨its',r',⟨o',e',_,n',d'⟩,_⟩:=I.tuple h';rw[e]at e';cases e';rw[d]at d'
 injection d' with d1 _
 have:aQ=its':=by simpa using Tp Array.toList d1
 subst this;exact r.inj r'
end
abbrev Cx.wish(X:Cx)(E:WT):Cx:={X with xe:=E}
abbrev Cx.nox(X:Cx):Cx:=X.wish λ_ _=>False
theorem Cx.Ok.wish{X:Cx}(ok:X.Ok)(E:WT):(X.wish E).Ok:=
 ⟨ok.mod,ok.kind,ok.glob,ok.blt,ok.above,ok.inj,ok.has,ok.cab,ok.hd,ok.frames,ok.stk,ok.exf,ok.bs,ok.bsz,ok.noex,ok.exfs,ok.funs,ok.frf,ok.tb⟩
theorem Cx.Ok.unwish{X:Cx}{E:WT}(ok:(X.wish E).Ok):X.Ok:=
 ⟨ok.mod,ok.kind,ok.glob,ok.blt,ok.above,ok.inj,ok.has,ok.cab,ok.hd,ok.frames,ok.stk,ok.exf,ok.bs,ok.bsz,ok.noex,ok.exfs,ok.funs,ok.frf,ok.tb⟩
section
variable {X:Cx}{pins:WU}{σ:St}{H:Hp}{s:Xb}{E:WT}
theorem Inv.wish(I:Inv X pins σ H s)(E:WT):Inv (X.wish E) pins σ H s:=⟨I.ok.wish E,I.os,I.bare,I.base,I.loc,I.cell,I.free,I.freeC,I.pin,I.hok,I.len⟩
theorem Inv.unwish(I:Inv (X.wish E) pins σ H s):Inv X pins σ H s:=⟨I.ok.unwish,I.os,I.bare,I.base,I.loc,I.cell,I.free,I.freeC,I.pin,I.hok,I.len⟩
theorem SP.unwish{D:Ends}{f:Flow}{s':Xb}(h:SP (X.wish E) pins D f s'):SP X pins D f s':=by
 cases f with
 | next=>obtain⟨σ',H',I,q⟩:=h;exact⟨σ',H',I.unwish,q⟩
 | brk=>obtain⟨σ',H',I,q⟩:=h;exact⟨σ',H',I.unwish,q⟩
 | cont=>obtain⟨σ',H',I,q⟩:=h;exact⟨σ',H',I.unwish,q⟩
 | ret u=>obtain⟨v,σ',H',I,r,q⟩:=h;exact⟨v,σ',H',I.unwish,r,q⟩
theorem PT.nox{e:Xk}{t:TT}(h:PT X.nox e t):PT X e t:=λpins s σ H Q I hw=>
 SI (h pins s σ H Q (I.wish _) hw) (λ_ _ ⟨H',I',q⟩=>⟨H',I'.unwish,q⟩) λ_ _ z=>False.elim z
theorem PSs.nox{st:W6}{t:TS}(h:PSs X.nox st t):PSs X st t:=λpins s σ H D I hw=>
 SI (h pins s σ H D (I.wish _) hw) (λ_ _ q=>q.unwish) λ_ _ z=>False.elim z
end
section
variable {X:Cx}{st:Xl}{rest:W6}{t u:TS}{e:Xk}{te:TE}{pos:Pos}
def tNext:TS:=λD σ H=>D.nx σ H
def Ih(t u:TS):TS:=λD σ H=>t {D with nx:=u D} σ H
theorem FU:PSs X [] tNext:=λ_ _ σ H _ I h=>Vj ⟨σ,H,I,h⟩
theorem gR(h1:PS X st t)(h2:PSs X rest u):PSs X (st::rest) (Ih t u):=by
 intro pins s σ H D I h;refine VL (aZ (h1 pins s σ H {D with nx:=u D} I h) λf s1 q=>?_);cases f with
 | next=>
  obtain⟨σ',H',I',q⟩:=q;exact h2 pins s1 σ' H' D I' q
 | ret v=>exact q
 | brk=>exact q
 | cont=>exact q
theorem jr(h1:PS X st t):PSs X [st] t:=by
 intro pins s σ H D I h;refine VL (aZ (h1 pins s σ H D I h) λf s1 q=>?_);cases f with
 | next=>exact Vj q
 | ret v=>exact q
 | brk=>exact q
 | cont=>exact q
theorem Inv.quiet{pins:WU}{σ:St}{H:Hp}{s:Xb}(I:Inv X pins σ H s):interactive X.env=false:=by simp[interactive,I.ok.kind]
def Np(te:TE):TS:=λD σ H=>te σ H λ_ H1=>D.nx σ H1
theorem i5(he:PE X e te)(hs:swapsWith e none pos.line X.env=pure false:=by rfl):PS X (.Expr e pos) (Np te):=by
 intro pins s σ H D I h;exact wpAny_Expr_any (aZ (he pins s σ H _ I h) λv s1 ⟨x,H1,I1,r1,q1⟩=>⟨σ,H1,I1,q1⟩) I.quiet hs
def MJ(te:TE):TS:=λD σ H=>te σ H D.rt
theorem qR(he:PE X e te):PS X (.Return (some e) pos) (MJ te):=by
 intro pins s σ H D I h;exact wpAny_Return_some (aZ (he pins s σ H _ I h) λv s1 ⟨x,H1,I1,r1,q1⟩=>⟨x,σ,H1,I1,r1,q1⟩)
def Pk(c:TT)(t u:TS):TS:=λD σ H=>c σ H λb H1=>if b=true then t D σ H1 else u D σ H1
theorem GV{c:Xk}{a b:W6}{tc:TT}(hc:PT X c tc)(ha:PSs X a t)(hb:PSs X b u):PS X (.If c a b pos) (Pk tc t u):=by
 intro pins s σ H D I h;refine wpAny_If (aZ (hc pins s σ H _ I h) λd s1 ⟨H1,I1,q1⟩=>?_);cases d with
 | true=>exact ha pins s1 σ H1 D I1 q1
 | false=>exact hb pins s1 σ H1 D I1 q1
end
abbrev TG:=V->St->Hp->(St->Hp->Prop)->Prop
abbrev TGs:=Xs->St->Hp->(St->Hp->Prop)->Prop
def PG(X:Cx)(target:Xk)(t:TG):Prop:=
 ∀(pins:WU)(s:Xb)(σ:St)(H:Hp)(v:V)(u:Xa)(Q:St->Hp->Prop),Inv X pins σ H s->RelV v u->t v σ H Q->
  wpAny (model X.prog X.w) X.A (assign target X.env u) (λ_ s'=>∃σ' H',Inv X pins σ' H' s'/\Q σ' H') X.xe s
def As(X:Cx)(ts:W5)(t:TGs):Prop:=
 ∀(pins:WU)(s:Xb)(σ:St)(H:Hp)(vs:Xs)(us:W0)(Q:St->Hp->Prop),Inv X pins σ H s->av vs us->t vs σ H Q->
  wpAny (model X.prog X.w) X.A (assignInOrder ((assignEach ts X.env).map (·.2)) us) (λ_ s'=>∃σ' H',Inv X pins σ' H' s'/\Q σ' H') X.xe s
abbrev TSet:=V->V->V->Hp->(Hp->Prop)->Prop
def Nr(X:Cx)(t:TSet):Prop:=
 ∀(pins:WU)(s:Xb)(σ:St)(H:Hp)(o i v:V)(ov iv u:Xa)(Q:Hp->Prop),Inv X pins σ H s->RelV o ov->RelV i iv->RelV v u->t o i v H Q->
  wpAny (model X.prog X.w) X.A (setItem ov iv u) (λ_ s'=>∃H',Inv X pins σ H' s'/\Q H') X.xe s
section
variable {X:Cx}{pos:Pos}
def mE(i:Nat):TG:=λv σ H Q=>Q (σ.set i (some v)) H
theorem xS{i:Nat}{x:Str}(hN:X.N.Nodup)(hi:X.N[i]?=some x)(hx:Loc X.env.scope x)(hf:X.fn x=true\/X.env.scope.names.lookup x=some .local:=by first | exact .inl rfl | exact .inr rfl | assumption):PG X (.Name x pos) (mE i):=by
 intro pins s σ H v u Q I r h;exact wpAny_assign_Name (jC I hN hi hx r (λs' I'=>⟨_,H,I',h⟩) hf)
def gNil:TGs:=λvs σ H Q=>vs=[]/\Q σ H
def LU(t:TG)(u:TGs):TGs:=λvs σ H Q=>∃v r,vs=v::r/\t v σ H λσ' H'=>u r σ' H' Q
theorem Gc:As X [] gNil:=by
 intro pins s σ H vs us Q I r h;obtain⟨e,h⟩:=h;subst e;cases r;exact assignInOrder_nil ⟨σ,H,I,h⟩
theorem Cg{e:Xk}{es:W5}{t:TG}{u:TGs}(h1:PG X e t)(h2:As X es u)
  (hs:(assignEach (e::es) X.env).map (·.2)=assign e X.env::(assignEach es X.env).map (·.2):=by rfl):As X (e::es) (LU t u):=by
 intro pins s σ H vs us Q I r h;obtain⟨v,vr,e1,h⟩:=h;subst e1;cases r with
 | cons r rr=>
  rw[hs];refine assignInOrder_cons (aZ (h1 pins s σ H _ _ _ I r h) λ_ s1 ⟨σ1,H1,I1,q1⟩=>?_);exact h2 pins s1 σ1 H1 _ _ Q I1 rr q1
def PK(K:W_)(n:Nat)(t:TGs):TG:=λv σ H Q=>∃a xs,v=.ref a/\cy K H a xs/\xs.length=n/\t xs σ H Q
theorem HB{es:W5}{k:Nat}{t:TGs}{n:Nat}(hc:X.calm=true)(h:As X es t)
  (hn:(assignEach es X.env).length=n:=by rfl) (hst:(assignEach es X.env).findIdx? (·.1)=none:=by rfl):PG X (.Tuple es k pos) (PK X.K n t):=by
 intro pins s σ H v u Q I r hw;obtain⟨a,xs,e1,hq,hl,hw⟩:=hw;subst e1;cases r;obtain⟨aQ,rv,ht,hz⟩:=I.tuple hq;refine assign_Tuple_tuple (I.ok.hd hc) ht (by simp[hn,<- hl,rv.length]) hst λh' hx=>?_;have I1:Inv X pins σ H {s with heap:=h'}:=I.kept (t':=s.toks) λb o e=>hx b o (z_ (q_ e)) e;exact h pins _ σ H xs _ Q I1 (by simpa using rv) hw
def Pm(to ti:TE)(t:TSet):TG:=λv σ H Q=>to σ H λo H1=>ti σ H1 λi H2=>t o i v H2 λH3=>Q σ H3
theorem Kg{o i:Xk}{to ti:TE}{t:TSet}(ho:PE X o to)(hi:PE X i ti)(hs:Nr X t)
  (ha:∀v,assign (.Subscript o i pos) X.env v=(do
   let ov <- holding [v] (eval o X.env)
   let iv <- holding [v,ov] (eval i X.env)
   standAt pos
   holding [v,ov,iv] (setItem ov iv v)
   release [v,ov,iv] []):=by intro _;rfl):PG X (.Subscript o i pos) (Pm to ti t):=by
 intro pins s σ H v u Q I r h;rw[ha];refine a_ (Q_ (aZ (ho pins s σ H _ I h) λov s1 ⟨x,H1,I1,r1,q1⟩=>?_));refine a_ (Q_ (aZ (hi pins s1 σ H1 _ I1 q1) λiv s2 ⟨y,H2,I2,r2,q2⟩=>?_));refine a_ (Tq (a_ (Q_ (aZ (hs pins s2 σ H2 x y v ov iv u _ I2 r1 r2 r q2) λ_ s3 ⟨H3,I3,q3⟩=>?_))));exact wpAny_release ⟨σ,H3,I3,q3⟩
def uV(te:TE)(g:TG):TS:=λD σ H=>te σ H λx H1=>g x σ H1 D.nx
theorem vk{tg e:Xk}{te:TE}{g:TG}(he:PE X e te)(hg:PG X tg g)(hs:swapsWithSole [tg] e pos.line X.env=pure false:=by rfl)(hw:swappedStores [tg] e X.env=pure none:=by rfl)
  (h1:(assignEach [tg] X.env).map (·.2)=[assign tg X.env]:=by rfl):PS X (.Assign [tg] e pos) (uV te g):=by
 intro pins s σ H D I h;refine wpAny_Assign_stores (aZ (he pins s σ H _ I h) λv s1 ⟨x,H1,I1,r1,q1⟩=>?_) hs hw;rw[h1];exact aZ (hg pins s1 σ H1 x v _ I1 r1 q1) λ_ s2 q=>q
theorem fW{i:Nat}{x:Str}{e:Xk}{te:TE}{pos':Pos}(hN:X.N.Nodup)(hi:X.N[i]?=some x)(hx:Loc X.env.scope x)(he:PE X e te)(hs:swapsWith e (some (.Name x pos')) pos.line X.env=pure false:=by rfl)(hf:X.fn x=true\/X.env.scope.names.lookup x=some .local:=by first | exact .inl rfl | exact .inr rfl | assumption) :
  PS X (.Assign [.Name x pos'] e pos) (uV te (mE i)):=by
 intro pins s σ H D I h;refine wpAny_Assign_Name (aZ (he pins s σ H _ I h) λv s1 ⟨y,H1,I1,r1,q1⟩=>?_) hs;exact jC I1 hN hi hx r1 (λs2 I2=>⟨_,H1,I2,q1⟩) hf
end
section
variable {X:Cx}{pos:Pos}
end
structure It where
 go:Nat->Hp->Prop
 yld:Nat->Hp->V->Hp->Prop
 stop:Nat->Hp->Prop
def bL(X:Cx)(pins:WU)(H:Hp)(b:Xj):Prop:=
 H b=none/\b≠X.env.locals/\b∉X.fs/\(b∈X.ex\/X.s₀.heap.objs.size<=b)/\(∀x c,X.env.cells.lookup x=some c->c≠b)/\∀p∈X.pn++pins,p.1≠b
theorem Inv.fpOk{X:Cx}{pins:WU}{σ:St}{H H':Hp}{s:Xb}{b:Xj}(I:Inv X pins σ H s)(hb:s.heap.objs.size<=b)(hn:H' b=none):bL X pins H' b:=by
 refine⟨hn,T9 (N_ I.lt hb),I.nofs hb,.inr (B_ I.sz hb),λx c e z=>?_,λp hp z=>?_⟩
 .obtain⟨v,q⟩:=I.cell x c e;exact absurd (N_ q.lt (by rw[z];exact hb)) (Uc _)
 .exact absurd (N_ (q_ (I.pin p hp).1) (by rw[z];exact hb)) (Uc _)
structure Turn(P:Program)(w:World)(K:PySem.W.Frag)(tg:Expr)(J:It)(fp:List Addr)(it:Addr)(tn:Nat->Heap->Prop):Prop where
 mem:it∈fp
 obj:∀i h,tn i h->∀b∈fp,∃o,h.get? b=some o/\∀v,o.data≠.cell v
 keep:∀i h h',tn i h->(∀b∈fp,∀o,h.get? b=some o->h'.get? b=some o)->tn i h'
 item:∀(X:Cx),X.prog=P->X.w=w->X.K=K->X.calm=true->∀(i:Nat)(pins:List (Addr×Obj))(s:Shared)(σ:St)(H:Hp)(E:Value->Shared->Prop),Inv X pins σ H s->(∀b∈fp,bL X pins H b)->tn i s.heap->J.go i H->
  wpAny (model P w) X.A (pyNext (.ref it)) (λr s1=>∃u,r=some u/\
   wpAny (model P w) X.A (letOwnedTupleGo tg (.ref it) u) (λ_ s2=>∃x H',Inv X pins σ H' s2/\RelV x u/\J.yld i H x H'/\tn (i+1) s2.heap/\∀b∈fp,H' b=none) E s1) E s
 done:∀(X:Cx),X.prog=P->X.w=w->X.K=K->X.calm=true->∀(i:Nat)(pins:List (Addr×Obj))(s:Shared)(σ:St)(H:Hp)(E:Value->Shared->Prop),Inv X pins σ H s->(∀b∈fp,bL X pins H b)->tn i s.heap->J.stop i H->
  wpAny (model P w) X.A (pyNext (.ref it)) (λr s1=>r=none/\Inv X pins σ H s1) E s
 self:∀(A:Around)(i:Nat)(s:Shared)(Q:Value->Shared->Prop)(E:Value->Shared->Prop),tn i s.heap->Q (.ref it) s->wpAny (model P w) A (pyIter (.ref it)) Q E s
abbrev TI:=St->Hp->(It->Hp->Prop)->Prop
def Q4(X:Cx)(pins:WU)(σ:St)(tg:Xk)(R:It->Hp->Prop)(NA:Xa)(s2:Xb):Prop:=
 ∃(it:Xj)(fp:W4)(tn:Nat->Xf->Prop)(J:It)(H':Hp),NA=.ref it/\Inv X pins σ H' s2/\Turn X.prog X.w X.K tg J fp it tn/\tn 0 s2.heap/\(∀b∈fp,bL X pins H' b)/\R J H'
def PI(X:Cx)(tg iter:Xk)(wi:TI):Prop:=
 ∀(pins:WU)(s:Xb)(σ:St)(H:Hp)(R:It->Hp->Prop),Inv X pins σ H s->wi σ H R->
  wpAny (model X.prog X.w) X.A (eval iter X.env) (λv s1=>wpAny (model X.prog X.w) X.A (pyIter v) (Q4 X pins σ tg R) X.xe s1) X.xe s
theorem sW{M:Model}{A:Xe}{E:WT}{s:Xb}{tg:Xk}{it:Xj}{u:Xa}{o:Obj}{n:String}{vs:Array Xa}{Q:Unit->Xb->Prop}(ho:s.heap.get? it=some o)(hc:o.cls=.type n)(hd:o.data=.fields vs)
    (hn:["enumerate","zip","dict_itemiterator","dict_reverseitemiterator","odict_iterator","itertools.zip_longest","itertools.pairwise"].contains n=false) (hQ:Q () s):wpAny M A (letOwnedTupleGo tg (.ref it) u) Q E s:=by
  unfold letOwnedTupleGo;cases tg<;>first
    | exact d_ hQ
    | (cases u<;>first
        | exact d_ hQ
        | (refine a_ (wpAny_load ho ?_)
           rw[hc,hd];show wpAny M A (if(["enumerate","zip","dict_itemiterator","dict_reverseitemiterator","odict_iterator","itertools.zip_longest","itertools.pairwise"].contains n&&vs[0]?==some (rawInt _))=true then _ else _) Q E s;rw[k_ (by intro h;rw[hn,WQ]at h;cases h)];exact d_ hQ))
def Pv(K:W_)(a:Xj):It:=
 ⟨λi H=>∃xs x,di K H a xs/\xs[i]?=some x,λi H x H'=>H'=H/\∀xs,di K H a xs->xs[i]?=some x,λi H=>∃xs,di K H a xs/\xs.length<=i⟩
def O0(K:W_)(a:Xj):It:=
 ⟨λi H=>∃xs x,cy K H a xs/\xs[i]?=some x,λi H x H'=>H'=H/\∀xs,cy K H a xs->xs[i]?=some x,λi H=>∃xs,cy K H a xs/\xs.length<=i⟩
def LL(lo:Int)(n:Nat):It:=⟨λi _=>i<n,λi H x H'=>H'=H/\x=.int (lo+i),λi _=>n<=i⟩
theorem yi{P:Xd}{w:Xg}{K:W_}{tg:Xk}(a it:Xj):Turn P w K tg (Pv K a) [it] it (λi h=>h.IsListIter it a i) where
 mem:=by simp
 obj:=λi h st b hb=>by
  have e:b=it:=by simpa using hb
  subst e;obtain⟨o,e,c,d⟩:=st;exact⟨o,e,λv z=>by rw[d]at z;cases z⟩
 keep:=λi h h' st k=>st.at λo e=>k it (by simp) o e
 item:=by
  intro X hP hw hK hc i pins s σ H E I hf st hg;subst hP hw hK;obtain⟨xs,x,hq,hx⟩:=hg;obtain⟨aQ,rv,p,hz⟩:=I.list hq;obtain⟨u,hu,ru⟩:=rv.get hx;obtain⟨f0,f1,f2,f3,f4,f5⟩:=hf it (by simp);refine UM st p.isList (x:=u) (by simpa using hu) λh' lS sb=>?_;have I1:Inv X pins σ H {s with heap:=h'}:=I.turned (t':=s.toks) (λb o hb e=>(sb.2 b hb).trans e) f0 f1 f3 f4 f5;obtain⟨o,e,c,d⟩:=id lS;exact⟨u,rfl,sW (s:={s with heap:=h'}) e c d (by decide) ⟨x,H,I1,ru,⟨rfl,λys hy=>by rw[I.list_inj hy hq];exact hx⟩,lS,λb hb=>(hf b hb).1⟩⟩
 done:=by
  intro X hP hw hK hc i pins s σ H E I hf st hg;subst hP hw hK;obtain⟨xs,hq,hx⟩:=hg;obtain⟨aQ,rv,p,hz⟩:=I.list hq;obtain⟨f0,f1,f2,f3,f4,f5⟩:=hf it (by simp);have hl:=rv.length;exact VH (I.ok.hd hc) st p.isList (by simp;omega) λh' eb=>⟨rfl,I.turned (t':=s.toks) (λb o hb e=>eb b o hb e) f0 f1 f3 f4 f5⟩
 self:=λ_ _ _ _ _ st h=>wpAny_pyIter_listiter st h
theorem vM{P:Xd}{w:Xg}{K:W_}{tg:Xk}(a it:Xj):Turn P w K tg (O0 K a) [it] it (λi h=>h.IsTupleIter it a i) where
 mem:=by simp
 obj:=λi h st b hb=>by
  have e:b=it:=by simpa using hb
  subst e;obtain⟨o,e,c,d⟩:=st;exact⟨o,e,λv z=>by rw[d]at z;cases z⟩
 keep:=λi h h' st k=>st.at λo e=>k it (by simp) o e
 item:=by
  intro X hP hw hK hc i pins s σ H E I hf st hg;subst hP hw hK;obtain⟨xs,x,hq,hx⟩:=hg;obtain⟨aQ,rv,p,hz⟩:=I.tuple hq;obtain⟨u,hu,ru⟩:=rv.get hx;obtain⟨f0,f1,f2,f3,f4,f5⟩:=hf it (by simp);refine wpAny_pyNext_tuple_item st (show s.heap.IsTuple a aQ.toArray from p) (x:=u) (by simpa using hu) λh' lS sb=>?_;have I1:Inv X pins σ H {s with heap:=h'}:=I.turned (t':=s.toks) (λb o hb e=>(sb.2 b hb).trans e) f0 f1 f3 f4 f5;obtain⟨o,e,c,d⟩:=id lS;exact⟨u,rfl,sW (s:={s with heap:=h'}) e c d (by decide) ⟨x,H,I1,ru,⟨rfl,λys hy=>by rw[I.tuple_inj hy hq];exact hx⟩,lS,λb hb=>(hf b hb).1⟩⟩
 done:=by
  intro X hP hw hK hc i pins s σ H E I hf st hg;subst hP hw hK;obtain⟨xs,hq,hx⟩:=hg;obtain⟨aQ,rv,p,hz⟩:=I.tuple hq;obtain⟨f0,f1,f2,f3,f4,f5⟩:=hf it (by simp);have hl:=rv.length;exact wpAny_pyNext_tuple_end (I.ok.hd hc) st (show s.heap.IsTuple a aQ.toArray from p) (by simp;omega) λh' eb=>⟨rfl,I.turned (t':=s.toks) (λb o hb e=>eb b o hb e) f0 f1 f3 f4 f5⟩
 self:=λ_ _ _ _ _ st h=>wpAny_pyIter_tupleiter st h
theorem uI{P:Xd}{w:Xg}{K:W_}{tg:Xk}(it:Xj)(lo:Int)(n:Nat):Turn P w K tg (LL lo n) [it] it (λi h=>IsRangeIter h it (lo+(i:Nat)*1) ((n:Int)-(i:Nat)) 1) where
 mem:=by simp
 obj:=λi h st b hb=>by
  have e:b=it:=by simpa using hb
  subst e;exact⟨_,st,λv z=>by
   have z':Data.fields _=Data.cell v:=z;cases z'⟩
 keep:=λi h h' st k=>k it (by simp) _ st
 item:=by
  intro X hP hw hK hc i pins s σ H E I hf st hg;subst hP hw hK;obtain⟨f0,f1,f2,f3,f4,f5⟩:=hf it (by simp);have W:=Walks.range (prog:=X.prog) (w:=X.w) (I.ok.hd hc) it lo 1 n;refine W.item i s _ _ hg st λv h' tk hv lS kk=>?_;obtain⟨t,rfl⟩:=hv;have I1:Inv X pins σ H {s with heap:=h',toks:=tk}:=I.turned (λb o hb e=>kk b o (by simpa using hb) e) f0 f1 f3 f4 f5;refine⟨_,rfl,sW (s:={s with heap:=h',toks:=tk}) (n:="range_iterator") lS rfl rfl (by decide) ⟨.int (lo+i),H,I1,⟨t,?_⟩,⟨rfl,rfl⟩,lS,λb hb=>(hf b hb).1⟩⟩;rw[Int.mul_one]
 done:=by
  intro X hP hw hK hc i pins s σ H E I hf st hg;subst hP hw hK;obtain⟨f0,f1,f2,f3,f4,f5⟩:=hf it (by simp);exact wpAny_pyNext_range_end (I.ok.hd hc) st (by have:n<=i:=hg;omega) λh' eb=>⟨rfl,I.turned (t':=s.toks) (λb o hb e=>eb b o hb e) f0 f1 f3 f4 f5⟩
 self:=λ_ _ _ _ _ st h=>wpAny_pyIter_rangeiter st h
section
variable {X:Cx}{tg:Xk}
def Mm(K:W_)(tl:TE):TI:=λσ H R=>tl σ H λx H1=>∃a,x=.ref a/\(∃xs,di K H1 a xs)/\R (Pv K a) H1
def Pd(K:W_)(tl:TE):TI:=λσ H R=>tl σ H λx H1=>∃a,x=.ref a/\(∃xs,cy K H1 a xs)/\R (O0 K a) H1
theorem Gi{l:Xk}{tl:TE}(hl:PE X l tl):PI X tg l (Mm X.K tl):=by
 intro pins s σ H R I h;refine aZ (hl pins s σ H _ I h) λv s1 ⟨x,H1,I1,r1,q1⟩=>?_;obtain⟨a,e,⟨xs,hq⟩,q⟩:=q1;subst e;cases r1;obtain⟨aQ,rv,p,hz⟩:=I1.list hq;refine Vw p.isList ?_;refine⟨s1.heap.objs.size,[s1.heap.objs.size],_,_,H1,rfl,I1.kept (t':=s1.toks) λb o e=>e_ _ e,yi a _,⟨_,n_ _ rfl,rfl,rfl⟩,λb hb=>?_,q⟩;have e:b=s1.heap.objs.size:=by simpa using hb
 subst e;exact I1.fpOk (h_ _) (I1.hok.fresh (h_ _))
theorem JZ{l:Xk}{tl:TE}(hl:PE X l tl):PI X tg l (Pd X.K tl):=by
 intro pins s σ H R I h;refine aZ (hl pins s σ H _ I h) λv s1 ⟨x,H1,I1,r1,q1⟩=>?_;obtain⟨a,e,⟨xs,hq⟩,q⟩:=q1;subst e;cases r1;obtain⟨aQ,rv,p,hz⟩:=I1.tuple hq;refine Vo (show s1.heap.IsTuple a aQ.toArray from p) ?_;refine⟨s1.heap.objs.size,[s1.heap.objs.size],_,_,H1,rfl,I1.kept (t':=s1.toks) λb o e=>e_ _ e,vM a _,⟨_,n_ _ rfl,rfl,rfl⟩,λb hb=>?_,q⟩;have e:b=s1.heap.objs.size:=by simpa using hb
 subst e;exact I1.fpOk (h_ _) (I1.hok.fresh (h_ _))
theorem sf{pins:WU}{σ:St}{H:Hp}{s:Xb}{R:It->Hp->Prop}{E:WT}{lo hi:Int}{t u v:Tok}{tk:Nat}(I:Inv X pins σ H s)(h1:-(2 ^ 62)<=lo)(h2:lo<2 ^ 62)(h3:-(2 ^ 62)<=hi)(h4:hi<2 ^ 62)
  (q:R (LL lo (hi-lo).toNat) H):wpAny (model X.prog X.w) X.A (pyIter (.ref s.heap.objs.size)) (Q4 X pins σ tg R) E {s with heap:=s.heap.push {cls:=.type "range",data:=.fields #[.int lo t,.int hi u,.int 1 v]},toks:=tk}:=by
 refine wpAny_pyIter_range (IsRange.new ..) (small_one h1 h2 h3 h4) ?_;have I1:Inv X pins σ H {s with heap:=s.heap.push {cls:=.type "range",data:=.fields #[.int lo t,.int hi u,.int 1 v]},toks:=tk}:=I.kept λb o e=>e_ _ e;refine⟨(s.heap.push {cls:=.type "range",data:=.fields #[.int lo t,.int hi u,.int 1 v]}).objs.size,[(s.heap.push {cls:=.type "range",data:=.fields #[.int lo t,.int hi u,.int 1 v]}).objs.size],_,_,H,rfl,
  I1.kept (t':=tk) λb o e=>e_ _ e,uI _ lo (hi-lo).toNat,?_,λb hb=>?_,q⟩
 .have e1:lo+((0:Nat):Int)*1=lo:=by simp
  have e2:(((hi-lo).toNat:Nat):Int)-((0:Nat):Int)=Builtin.Range.rangeSize lo hi 1:=by rw[rangeSize_one];split<;>omega
  show IsRangeIter _ _ (lo+((0:Nat):Int)*1) ((((hi-lo).toNat:Nat):Int)-((0:Nat):Int)) 1;rw[e1,e2];exact n_ _ rfl
 .have e:b=(s.heap.push {cls:=.type "range",data:=.fields #[.int lo t,.int hi u,.int 1 v]}).objs.size:=by simpa using hb
  subst e;exact I1.fpOk (h_ _) (I1.hok.fresh (h_ _))
def ME(ta:TA):TI:=λσ H R=>ta σ H λvs H1=>∃j:Int,vs=[.int j]/\-(2 ^ 62)<=j/\j<2 ^ 62/\R (LL 0 j.toNat) H1
def M3(ta:TA):TI:=λσ H R=>ta σ H λvs H1=>∃i j:Int,vs=[.int i,.int j]/\(-(2 ^ 62)<=i/\i<2 ^ 62/\-(2 ^ 62)<=j/\j<2 ^ 62)/\R (LL i (j-i).toNat) H1
theorem zb{a:Xk}{ta:TA}{p pos:Pos}(hg:Gl X "range")(hm:X.mg "range"=none)(ha:PA X [a] ta)(hs:starEach [a] X.env=[(false,eval a X.env)]:=by rfl):PI X tg (.Call (.Name "range" p) [a] [] pos) (ME ta):=by
 intro pins s σ H R I h;refine Call_ (gT I hg hm boot_range (T_ (aZ (ha pos pins s σ H _ I h) λus s1 ⟨vs,H1,I1,r1,q1⟩=>?_) hs rfl));obtain⟨j,e,q1,q2,q⟩:=q1;subst e;cases r1 with
 | cons r rr=>
  cases rr;obtain⟨t,rfl⟩:=r;exact call_range_1 (sf I1 (by omega) (by omega) q1 q2 (by simpa using q))
theorem zo{a b:Xk}{ta:TA}{p pos:Pos}(hg:Gl X "range")(hm:X.mg "range"=none)(ha:PA X [a,b] ta)(hs:starEach [a,b] X.env=[(false,eval a X.env),(false,eval b X.env)]:=by rfl)(Ho:starEach [b] X.env=[(false,eval b X.env)]:=by rfl) :
  PI X tg (.Call (.Name "range" p) [a,b] [] pos) (M3 ta):=by
 intro pins s σ H R I h;refine Call_ (gT I hg hm boot_range (T_ (aZ (ha pos pins s σ H _ I h) λus s1 ⟨vs,H1,I1,r1,q1⟩=>?_) (by rw[hs,Ho]) (by rw[Ho];rfl)));obtain⟨i,j,e,⟨q1,q2,q3,q4⟩,q⟩:=q1;subst e;cases r1 with
 | cons r rr=>
  cases rr with
  | cons r' rr=>
   cases rr;obtain⟨t,rfl⟩:=r;obtain⟨t',rfl⟩:=r';exact call_range_2 (sf I1 q1 q2 q3 q4 q)
def Py(wi:TI)(g:TG)(tb:TS):TS:=λD σ H=>wi σ H λJ H1=>∃W:Nat->Nat->St->Hp->Prop,(∃m,W 0 m σ H1)/\∀i m σ H,W i m σ H->
 (J.stop i H/\D.nx σ H)\/(J.go i H/\∃N:St->Hp->Prop,(∀σ' H',N σ' H'->∃m',m'<m/\W (i+1) m' σ' H')/\∀x H',J.yld i H x H'->g x σ H' λσ2 H2=>tb {D with nx:=N,ct:=N,bk:=D.nx} σ2 H2)
def jW(fp:W4)(h:Xf):WU:=fp.filterMap λb=>(h.get? b).map λo=>(b,o)
theorem iO{fp:W4}{h:Xf}{b:Xj}{o:Obj}(hb:b∈fp)(e:h.get? b=some o):(b,o)∈jW fp h:=Vn.mpr ⟨b,hb,by rw[e];rfl⟩
theorem yB{fp:W4}{h:Xf}{p:Xj×Obj}(hp:p∈jW fp h):p.1∈fp/\h.get? p.1=some p.2:=by
 obtain⟨b,hb,e⟩:=Vn.mp hp;cases q:h.get? b with
 | none=>rw[q]at e;cases e
 | some o=>
  rw[q]at e;have e':(b,o)=p:=Option.some.inj e;subst e';exact⟨hb,q⟩
theorem Inv.pinned{pins:WU}{σ:St}{H:Hp}{s:Xb}{fp:W4}(I:Inv X pins σ H s)(hf:∀b∈fp,bL X pins H b)(ho:∀b∈fp,∃o,s.heap.get? b=some o/\∀v,o.data≠.cell v):Inv X (pins++jW fp s.heap) σ H s:=
 I.pins_of λp hp=>(Su.mp hp).elim (λz=>I.pin p (J_ _ z)) λz=>by
  obtain⟨hb,e⟩:=yB z;obtain⟨f0,f1,f2,_⟩:=hf p.1 hb;obtain⟨o,e',d⟩:=ho p.1 hb;rw[e]at e';cases e';exact⟨e,f0,f1,f2,d⟩
theorem Inv.unpinned{pins pl:WU}{σ:St}{H:Hp}{s:Xb}(I:Inv X (pins++pl) σ H s):Inv X pins σ H s:=I.pins_of λp hp=>I.pin p (J_ _ (U4 _ hp))
theorem Ig{iter:Xk}{body:W6}{wi:TI}{g:TG}{tb:TS}{pos:Pos}(hp:PassesOwn (model X.prog X.w) X.A X.env X.xe)(hc:X.calm=true)(hi:PI X tg iter wi)(hg:PG X tg g)(hb:PSs X body tb)
  (hs:∀x,foldedSetIterable iter X.env x=pure x:=by intro _;rfl):PS X (.For tg iter body [] pos) (Py wi g tb):=by
 intro pins s σ H D I h;refine wpAny_For (aZ (hi pins s σ H _ I h) λv s1 h1=>aZ h1 λNA s2 h2=>?_) hs;obtain⟨it,fp,tn,J,H2,e,I2,T,st2,f2,W,⟨m0,w0⟩,turn⟩:=h2;subst e;have vZ:∀{H':Hp},(∀b∈fp,H' b=none)->∀b∈fp,bL X pins H' b:=λhn b hb=>⟨hn b hb,(f2 b hb).2⟩;refine codeAny_forLoop_any (λn s'=>∃i σ' H',Inv X pins σ' H' s'/\tn i s'.heap/\(∀b∈fp,H' b=none)/\W i n σ' H') ?_ m0 ⟨0,σ,H2,I2,st2,λb hb=>(f2 b hb).1,w0⟩;rintro n s3 ⟨i,σ3,H3,I3,Rh,Ow,w3⟩;rcases turn i n σ3 H3 w3 with ⟨stop,qn⟩ | ⟨go,N,hN,step⟩
 .refine Vk hp (aZ (T.done X rfl rfl rfl hc i pins s3 σ3 H3 X.xe I3 (vZ Ow) Rh stop) λr s4 ⟨hr,I4⟩=>?_);subst hr;exact Vj ⟨σ3,H3,I4,qn⟩
 .refine Vk hp (aZ (T.item X rfl rfl rfl hc i pins s3 σ3 H3 X.xe I3 (vZ Ow) Rh go) λr s4 ⟨u,hr,h4⟩=>?_);subst hr;refine Vk hp (aZ h4 λ_ s5 ⟨x,H5,I5,r5,y5,P7,fr5⟩=>?_);have I5':=I5.pinned (vZ fr5) (T.obj _ _ P7);refine Vk hp (aZ (hg _ s5 σ3 H5 x u _ I5' r5 (step x H5 y5)) λ_ s6 ⟨σ6,H6,I6,q6⟩=>?_);refine Vk hp (aZ (hb _ s6 σ6 H6 _ I6 q6) λf s7 q7=>?_);have again:∀{σ7:St}{H7:Hp},Inv X (pins++jW fp s5.heap) σ7 H7 s7->N σ7 H7->∃m,m<n/\∃i σ' H',Inv X pins σ' H' s7/\tn i s7.heap/\(∀b∈fp,H' b=none)/\W i m σ' H':=λ{σ7 H7} I7 n7=>by
   obtain⟨m',hm,w7⟩:=hN σ7 H7 n7;refine⟨m',hm,i+1,σ7,H7,I7.unpinned,T.keep _ _ _ P7 λb hb o e=>(I7.pin (b,o) (J_ _ (J_ _ (iO hb e)))).1,λb hb=>?_,w7⟩;obtain⟨o,e,d⟩:=T.obj _ _ P7 b hb;exact(I7.pin (b,o) (J_ _ (J_ _ (iO hb e)))).2.1
  cases f with
  | next=>obtain⟨σ7,H7,I7,n7⟩:=q7;exact again I7 n7
  | cont=>obtain⟨σ7,H7,I7,n7⟩:=q7;exact again I7 n7
  | brk=>obtain⟨σ7,H7,I7,q7⟩:=q7;exact⟨σ7,H7,I7.unpinned,q7⟩
  | ret v=>obtain⟨x7,σ7,H7,I7,r7,q7⟩:=q7;exact⟨x7,σ7,H7,I7.unpinned,r7,q7⟩
end
abbrev R2:=V->V->Hp->VK->Prop
def gy(X:Cx)(f:Xa->Xa->Sem Xa)(r:R2):Prop:=
 ∀(pins:WU)(s:Xb)(σ:St)(H:Hp)(x y:V)(v u:Xa)(Q:VK),Inv X pins σ H s->RelV x v->RelV y u->r x y H Q->
  wpAny (model X.prog X.w) X.A (f v u) (EP X pins σ Q) X.xe s
def PY(X:Cx)(f:Xa->Sem Xa)(r:V->Hp->VK->Prop):Prop:=
 ∀(pins:WU)(s:Xb)(σ:St)(H:Hp)(x:V)(v:Xa)(Q:VK),Inv X pins σ H s->RelV x v->r x H Q->
  wpAny (model X.prog X.w) X.A (f v) (EP X pins σ Q) X.xe s
def dD(X:Cx)(f:Xa)(r:Xs->Hp->VK->Prop):Prop:=
 ∀(pins:WU)(s:Xb)(σ:St)(H:Hp)(xs:Xs)(us:W0)(Q:VK),Inv X pins σ H s->av xs us->r xs H Q->
  wpAny (model X.prog X.w) X.A (call f us) (EP X pins σ Q) X.xe s
def O5(X:Cx)(r:V->Hp->(Bool->Hp->Prop)->Prop):Prop:=
 ∀(pins:WU)(s:Xb)(σ:St)(H:Hp)(x:V)(v:Xa)(Q:Bool->Hp->Prop),Inv X pins σ H s->RelV x v->r x H Q->
  wpAny (model X.prog X.w) X.A (truthy v) (TP X pins σ Q) X.xe s
def E8(r:R2)(ta tb:TE):TE:=λσ H Q=>ta σ H λx H1=>tb σ H1 λy H2=>r x y H2 Q
def RZ(r:V->Hp->VK->Prop)(ta:TE):TE:=λσ H Q=>ta σ H λx H1=>r x H1 Q
def rI(C:Int->Int->Prop)(g:Int->Int->V):R2:=λx y H Q=>∃i j,x=.int i/\y=.int j/\C i j/\Q (g i j) H
def vW(g:Int->Int->V):R2:=λx y H Q=>∃i j,x=.int i/\y=.int j/\Q (g i j) H
def rU(g:Int->V):V->Hp->VK->Prop:=λx H Q=>∃i,x=.int i/\Q (g i) H
section
variable {X:Cx}{a b c:Xk}{ta tb tc:TE}{pos:Pos}
theorem IV(ha:PE X a ta)(hb:PE X b tb){pins:WU}{s:Xb}{σ:St}{H:Hp}{R:V->V->Hp->Prop}(I:Inv X pins σ H s)
  (h:ta σ H λx H1=>tb σ H1 λy H2=>R x y H2) {Q:WT} {f:Xa->Xa->Sem Xa}
  (hf:∀v u s2 x y H2,Inv X pins σ H2 s2->RelV x v->RelV y u->R x y H2->wpAny (model X.prog X.w) X.A (f v u) Q X.xe s2) :
  wpAny (model X.prog X.w) X.A (eval a X.env) (λv s₁=>wpAny (model X.prog X.w) X.A (eval b X.env) (λu s₂=>wpAny (model X.prog X.w) X.A (f v u) Q X.xe s₂) X.xe s₁) X.xe s:=by
 refine aZ (ha pins s σ H _ I h) λv s1 ⟨x,H1,I1,r1,q1⟩=>?_;refine aZ (hb pins s1 σ H1 _ I1 q1) λu s2 ⟨y,H2,I2,r2,q2⟩=>?_;exact hf v u s2 x y H2 I2 r1 r2 q2
theorem xM{op:Operator}{r:R2}(ho:gy X (binaryOp op) r)(ha:PE X a ta)(hb:PE X b tb):PE X (.BinOp a op b pos) (E8 r ta tb):=by
 intro pins s σ H Q I h;exact wpAny_BinOp (IV ha hb I h λv u s2 x y H2 I2 rx ry q=>ho pins s2 σ H2 x y v u Q I2 rx ry q)
theorem Hc{op:UnaryOp}{r:V->Hp->VK->Prop}(ho:PY X (unaryOp op) r)(ha:PE X a ta):PE X (.UnaryOp op a pos) (RZ r ta):=by
 intro pins s σ H Q I h;exact UnaryOp_ (aZ (ha pins s σ H _ I h) λv s1 ⟨x,H1,I1,r1,q1⟩=>ho pins s1 σ H1 x v Q I1 r1 q1)
theorem MP{f:Xa->Xa->Sem Xa}{C:Int->Int->Prop}{g:Int->Int->Int}
  (rule:∀(i j:Int)(t u:Tok)(s:Xb)(Q:WT)(E:WT),C i j->Q (.int (g i j) s.toks) {s with toks:=s.toks+1}->wpAny (model X.prog X.w) X.A (f (.int i t) (.int j u)) Q E s) :
  gy X f (rI C λi j=>.int (g i j)):=by
 intro pins s σ H x y v u Q I rx ry h;obtain⟨i,j,rfl,rfl,hc,q⟩:=h;obtain⟨t,rfl⟩:=rx;obtain⟨t',rfl⟩:=ry;exact rule i j t t' s _ _ hc ⟨.int (g i j),H,I.tok _,⟨_,rfl⟩,q⟩
theorem HU{f:Xa->Xa->Sem Xa}{g:Int->Int->Int}
  (rule:∀(i j:Int)(t u:Tok)(s:Xb)(Q:WT)(E:WT),Q (.int (g i j) s.toks) {s with toks:=s.toks+1}->wpAny (model X.prog X.w) X.A (f (.int i t) (.int j u)) Q E s) :
  gy X f (vW λi j=>.int (g i j)):=by
 intro pins s σ H x y v u Q I rx ry h;obtain⟨i,j,rfl,rfl,q⟩:=h;obtain⟨t,rfl⟩:=rx;obtain⟨t',rfl⟩:=ry;exact rule i j t t' s _ _ ⟨.int (g i j),H,I.tok _,⟨_,rfl⟩,q⟩
theorem Ke{f:Xa->Xa->Sem Xa}{g:Int->Int->Bool}
  (rule:∀(i j:Int)(t u:Tok)(s:Xb)(Q:WT)(E:WT),Q (.bool (g i j)) s->wpAny (model X.prog X.w) X.A (f (.int i t) (.int j u)) Q E s) :
  gy X f (vW λi j=>.bl (g i j)):=by
 intro pins s σ H x y v u Q I rx ry h;obtain⟨i,j,rfl,rfl,q⟩:=h;obtain⟨t,rfl⟩:=rx;obtain⟨t',rfl⟩:=ry;exact rule i j t t' s _ _ ⟨.bl (g i j),H,I,rfl,q⟩
def MD(i j:Int):Prop:=0<j/\j<1073741824
def MG(i j:Int):Prop:=0<=j/\j<=1000000/\i.natAbs<2 ^ 64
theorem Kj:gy X (binaryOp .Add) (vW λi j=>.int (i+j)):=HU λ_ _ _ _ _ _ _ q=>add_int q
theorem Iu:gy X (binaryOp .Sub) (vW λi j=>.int (i-j)):=HU λ_ _ _ _ _ _ _ q=>sub_int q
theorem Ej:gy X (binaryOp .FloorDiv) (rI MD λi j=>.int (i/j)):=MP λi j _ _ _ _ _ hc q=>by
 have h1:(0:Int)<j:=hc.1;have h2:j<1073741824:=hc.2;exact floordiv_int (by omega) (by rw[Int.fdiv_eq_ediv_of_nonneg i (by omega)];exact q) (.inl (PyProof.noPylong_small (by omega)))
theorem Ij:gy X (binaryOp .Mod) (rI (λ_ j=>0<j) λi j=>.int (i%j)):=MP λi j _ _ _ _ _ hc q=>by
 have h1:(0:Int)<j:=hc;exact mod_int' (by omega) (by rw[Int.fmod_eq_emod_of_nonneg i (by omega)];exact q)
theorem JG:gy X (binaryOp .LShift) (rI MG λi j=>.int (i*2 ^ j.toNat)):=MP λ_ _ _ _ _ _ _ hc q=>lshift_int_small hc.1 hc.2.1 hc.2.2 q
theorem Io:gy X (binaryOp .BitAnd) (vW λi j=>.int (Builtin.bitAnd i j)):=HU λ_ _ _ _ _ _ _ q=>and_int q
theorem O9{f:Xa->Sem Xa}{g:Int->Int}
  (rule:∀(i:Int)(t:Tok)(s:Xb)(Q:WT)(E:WT),Q (.int (g i) s.toks) {s with toks:=s.toks+1}->wpAny (model X.prog X.w) X.A (f (.int i t)) Q E s) :
  PY X f (rU λi=>.int (g i)):=by
 intro pins s σ H x v Q I rx h;obtain⟨i,rfl,q⟩:=h;obtain⟨t,rfl⟩:=rx;exact rule i t s _ _ ⟨.int (g i),H,I.tok _,⟨_,rfl⟩,q⟩
theorem CM:PY X (unaryOp .USub) (rU λi=>.int (-i)):=O9 λ_ _ _ _ _ q=>neg_int q
end
section
variable {X:Cx}{a b c:Xk}{ta tb tc:TE}{pos:Pos}
theorem CJ:gy X (compareOp .Lt) (vW λi j=>.bl (decide (i<j))):=Ke λ_ _ _ _ _ _ _ q=>lt_int q
theorem BW:gy X (compareOp .LtE) (vW λi j=>.bl (decide (i<=j))):=Ke λ_ _ _ _ _ _ _ q=>le_int q
theorem MX:gy X (compareOp .Gt) (vW λi j=>.bl (decide (j<i))):=Ke λ_ _ _ _ _ _ _ q=>gt_int q
theorem gN(b:Xk){op:CmpOp}(h:op≠.In:=by decide)(h2:op≠.NotIn:=by decide):behindInMarks op b=false:=by
 have e1:(op==CmpOp.In)=false:=by cases op<;>first | rfl | exact absurd rfl h
 have e2:(op==CmpOp.NotIn)=false:=by cases op<;>first | rfl | exact absurd rfl h2
 cases b<;>simp[behindInMarks,e1,e2]
theorem ER{op:CmpOp}{r:R2}(ho:gy X (compareOp op) r)(ha:PE X a ta)(hb:PE X b tb)(hm:behindInMarks op b=false):PE X (.Compare a [op] [b] pos) (E8 r ta tb):=by
 intro pins s σ H Q I h;exact wpAny_Compare1 (IV ha hb I h λv u s2 x y H2 I2 rx ry q=>ho pins s2 σ H2 x y v u Q I2 rx ry q) hm
def GM(t:TE):TT:=λσ H Q=>t σ H λx H'=>∃k,x=.bl k/\Q k H'
theorem DK{op:CmpOp}{r:R2}(ho:gy X (compareOp op) r)(ha:PE X a ta)(hb:PE X b tb)(hm:behindInMarks op b=false):PT X (.Compare a [op] [b] pos) (GM (E8 r ta tb)):=by
 intro pins s σ H Q I h;refine wpAny_isTrue_Compare1 (aZ (ha pins s σ H _ I h) λv s1 ⟨x,H1,I1,r1,q1⟩=>aZ (hb pins s1 σ H1 _ I1 q1) λu s2 ⟨y,H2,I2,r2,q2⟩=>
  aZ (ho pins s2 σ H2 x y v u _ I2 r1 r2 q2) λc s3 ⟨z,H3,I3,r3,k,e,q3⟩=>?_) hm
 subst e;cases r3;exact TC ⟨H3,I3,q3⟩
def BR(r r':R2)(ta tb tc:TE):TE:=λσ H Q=>ta σ H λx H1=>tb σ H1 λy H2=>r x y H2 λz H3=>∃k,z=.bl k/\
 (if k=true then tc σ H3 λw' H4=>r' y w' H4 Q else Q (.bl false) H3)
theorem BM{op op':CmpOp}{r r':R2}(ho:gy X (compareOp op) r)(ho':gy X (compareOp op') r')(ha:PE X a ta)(hb:PE X b tb)(hc:PE X c tc)
  (hm:lastMarks [op,op'] [b,c]=false:=by with_unfolding_all rfl):PT X (.Compare a [op,op'] [b,c] pos) (GM (BR r r' ta tb tc)):=by
 intro pins s σ H Q I h;refine isTrue_chain (aZ (ha pins s σ H _ I h) λv s1 ⟨x,H1,I1,r1,q1⟩=>test_link (aZ (hb pins s1 σ H1 _ I1 q1) λu s2 ⟨y,H2,I2,r2,q2⟩=>
  aZ (ho pins s2 σ H2 x y v u _ I2 r1 r2 q2) λd s3 ⟨z,H3,I3,r3,k,e,q3⟩=>?_)) hm
 subst e;cases r3;refine TC ?_;cases k with
 | false=>
  obtain⟨k',e',q'⟩:=q3;cases e';exact ite_ff ⟨H3,I3,q'⟩
 | true=>
  refine ite_tt (test_last (aZ (hc pins s3 σ H3 _ I3 q3) λw' s4 ⟨z',H4,I4,r4,q4⟩=>aZ (ho' pins s4 σ H4 y z' u w' _ I4 r2 r4 q4) λd' s5 ⟨z2,H5,I5,r5,k2,e2,q5⟩=>?_));subst e2;cases r5;exact TC ⟨H5,I5,q5⟩
def MI(K:W_)(x:V)(H:Hp)(k:Bool):Prop:=
 match x with
 | .non=>k=false
 | .bl b=>k=b
 | .int i=>k=(i != 0)
 | .str y=>y.length<=sizeLine/\k=((y.length:Int) != 0)
 | .byt y=>y.size<=sizeLine/\k=((y.size:Int) != 0)
 | .ref p=>(∃xs,di K H p xs/\k=!xs.isEmpty)\/(∃xs,cy K H p xs/\k=!xs.isEmpty)\/∃kvs,H p=some (.dK kvs)/\k=!kvs.isEmpty
 | _=>False
theorem vv{κ:Type}{kvs:List (κ×V)}{vs:List (κ×Xa)}(r:KV kvs vs):(!vs.isEmpty)=!kvs.isEmpty:=by
 cases r<;>rfl
theorem mI{xs:Xs}{aQ:W0}(r:av xs aQ):(!aQ.toArray.isEmpty)=!xs.isEmpty:=by
 cases r<;>simp
theorem mM:(sizeLine:Nat)<2 ^ 63:=by rw[SB];decide
theorem JB:O5 X (λx H Q=>∃k,MI X.K x H k/\Q k H):=by
 intro pins s σ H x v Q I rx h;obtain⟨k,e,q⟩:=h;have hl:=mM;have hs:sizeLine=16777216:=SB;cases x with
 | non=>
  cases rx;have e':k=false:=e;subst e';exact truthy_none ⟨H,I,q⟩
 | bl b=>
  cases rx;have e':k=b:=e;subst e';exact TC ⟨H,I,q⟩
 | int i=>
  obtain⟨t,rfl⟩:=rx;have e':k=(i != 0):=e;subst e';exact PySem.P.truthy_int ⟨H,I,q⟩
 | str y=>
  obtain⟨t,rfl⟩:=rx;obtain⟨hy,e'⟩:y.length<=sizeLine/\k=((y.length:Int) != 0):=e;subst e';exact PySem.P.truthy_str (by omega) ⟨H,I.tok _,q⟩
 | byt y=>
  obtain⟨t,rfl⟩:=rx;obtain⟨hy,e'⟩:y.size<=sizeLine/\k=((y.size:Int) != 0):=e;subst e';exact PySem.W.truthy_bytes (by omega) ⟨H,I.tok _,q⟩
 | ref p=>
  cases rx;have e':(∃xs,di X.K H p xs/\k=!xs.isEmpty)\/(∃xs,cy X.K H p xs/\k=!xs.isEmpty)\/∃kvs,H p=some (.dK kvs)/\k=!kvs.isEmpty:=e;rcases e' with ⟨xs,hx,e'⟩ | ⟨xs,hx,e'⟩ | ⟨kvs,hx,e'⟩
  .subst e';obtain⟨aQ,r,pl,hz⟩:=I.list hx;have hlen:=r.length;exact wpAny_truthy_list pl.isList (by simp only[u_];omega) ⟨H,I.tok _,by rw[mI r];exact q⟩
  .subst e';obtain⟨aQ,r,pl,hz⟩:=I.tuple hx;have hlen:=r.length;exact truthy_tuple pl (by simp only[u_];omega) ⟨H,I.tok _,by rw[mI r];exact q⟩
  .subst e';obtain⟨hz,hS,vs,r,m⟩:kvs.length<=sizeLine/\(p==sysModules)=false/\∃vs,KV kvs vs/\s.heap.DictOf (aA X.prog X.w) p vs:=I.hok p _ hx;have hlen:kvs.length=vs.length:=Paired.length r;exact wpAny_truthy_dict hS m (by omega) ⟨H,I.tok _,by rw[vv r];exact q⟩
 | _=>exact(show False from e).elim
theorem sd(ha:PE X a ta)(he:∀whole,isTrue a X.env whole=(do let v <- whole;standAt a.pos;holding [v] (truthy v))) :
  PT X a (λσ H Q=>ta σ H λx H'=>∃k,MI X.K x H' k/\Q k H'):=by
 intro pins s σ H Q I h;exact isTrue_plain (aZ (ha pins s σ H _ I h) λv s1 ⟨x,H1,I1,r1,q1⟩=>JB pins s1 σ H1 x v Q I1 r1 q1) (he _)
theorem vals1{x:V}{us:W0}(r:av [x] us):∃u,us=[u]/\RelV x u:=by
 cases r with
 | cons r1 r2=>cases r2;exact⟨_,rfl,r1⟩
theorem vals2{x y:V}{us:W0}(r:av [x,y] us):∃u w',us=[u,w']/\RelV x u/\RelV y w':=by
 cases r with
 | cons r1 r2=>
  cases r2 with
  | cons r3 r4=>cases r4;exact⟨_,_,rfl,r1,r3⟩
theorem yv(hc:X.calm=true):dD X (.builtin "max") (λxs H Q=>∃i j,xs=[.int i,.int j]/\Q (.int (if j>i then j else i)) H):=by
 intro pins s σ H xs us Q I r h;obtain⟨i,j,rfl,q⟩:=h;obtain⟨u,w',rfl,⟨t,rfl⟩,⟨t',rfl⟩⟩:=vals2 r;refine max_two_ints (I.ok.hd hc) λh' tk k=>⟨_,H,I.kept k,?_,q⟩
 by_cases hj:j>i
 .rw[j_ hj,j_ hj];exact⟨_,rfl⟩
 .rw[k_ hj,k_ hj];exact⟨_,rfl⟩
theorem yp(hc:X.calm=true):dD X (.builtin "min") (λxs H Q=>∃i j,xs=[.int i,.int j]/\Q (.int (if j<i then j else i)) H):=by
 intro pins s σ H xs us Q I r h;obtain⟨i,j,rfl,q⟩:=h;obtain⟨u,w',rfl,⟨t,rfl⟩,⟨t',rfl⟩⟩:=vals2 r;refine min_two_ints (I.ok.hd hc) λh' tk k=>⟨_,H,I.kept k,?_,q⟩
 by_cases hj:j<i
 .rw[j_ hj,j_ hj];exact⟨_,rfl⟩
 .rw[k_ hj,k_ hj];exact⟨_,rfl⟩
theorem yw:dD X (.type "int") (λxs H Q=>(∃i,xs=[.int i]/\Q (.int i) H)\/∃k,xs=[.bl k]/\Q (.int (if k then 1 else 0)) H):=by
 intro pins s σ H xs us Q I r h;rcases h with ⟨i,rfl,q⟩ | ⟨k,rfl,q⟩
 .obtain⟨u,rfl,t,rfl⟩:=vals1 r;exact call_int_int ⟨.int i,H,I,⟨_,rfl⟩,q⟩
 .obtain⟨u,rfl,r1⟩:=vals1 r;cases r1;exact call_int_bool ⟨.int (if k then 1 else 0),H,I.tok _,⟨_,rfl⟩,q⟩
end
structure ObjM(h:Heap)(x dx C:Addr)(mA:Str->Option Value):Prop where
 obj:h.get? x=some (PySem.W.instObj C dx)
 ns:h.Ns1 dx mA
 ne:dx≠x
section
variable {prog:Xd}{w:Xg}{A:Xe}{E:WT}{s:Xb}{K:W_}{x dx C f:Xj}{mA:WW}{name:Str}{v:Xa}
end
section
variable {P:Xd}{w:Xg}{H H':Hp}{h h':Xf}{a C dx:Xj}{fs Nw:List (Str×V)}
end
structure Cls(K:PySem.W.Frag)(C:Addr):Prop where
 pg:PySem.W.plainGet K C Str.empty=true
 hd:PySem.W.hasDictIn K C=true
 po:PySem.W.plainOver K C=true
 sa:PySem.W.findIn K (.ref C) "__setattr__"=some (some (.builtin "object.__setattr__"))
structure Con(K:PySem.W.Frag)(C:Addr)(f:Str)(v:V)(u:Value):Prop where
 at_:PySem.W.findIn K (.ref C) f=some (some u)
 rel:RelV v u
 get:PySem.W.specialIn K u "__get__"=some none
 cp:PySem.W.copiedNames.contains f=false
structure Meth(K:PySem.W.Frag)(C:Addr)(m:Str)(f:Addr):Prop where
 at_:PySem.W.findIn K (.ref C) m=some (some (.ref f))
 fn:PySem.W.isFn K (.ref f)=true
 kp:PySem.W.keepIn K (.ref f)=true
section
variable {X:Cx}{pins:WU}{σ:St}{H:Hp}{s:Xb}{a C dx:Xj}{fs:List (Str×V)}{f:Str}{v:V}{A:Xe}{E:WT}
end
section
variable {X:Cx}{o e value:Xk}{f:Str}{pos pos' tpos:Pos}{ta tv:TE}
end
section
variable {X:Cx}{pins:WU}{σ:St}{H:Hp}{s:Xb}{A:Xe}{E:WT}{Q:WT}{c:Xa}{b:Bool}
inductive nM(K:PySem.W.Frag)(H:Hp):V->Value->Prop where
 | non:nM K H .non (.type "NoneType")
 | bl (x:Bool):nM K H (.bl x) (.type "bool")
 | int (i:Int):nM K H (.int i) (.type "int")
 | str (x:Str):nM K H (.str x) (.type "str")
 | flt (x:UInt64):nM K H (.flt x) (.type "float")
 | lst {a:Addr} {xs:List V} (e:H a=some (.lst xs)):nM K H (.ref a) (.type "list")
 | frz {a:Addr} {o:Obj} {xs:List V} (e:H a=some (.frz o (.lst xs))):nM K H (.ref a) (.type "list")
 | tup {a:Addr} {xs:List V} (e:H a=some (.tup xs)):nM K H (.ref a) (.type "tuple")
 | dK {a:Addr} {kvs:List (Key×V)} (e:H a=some (.dK kvs)):nM K H (.ref a) (.type "dict")
 | dT {a:Addr} {kvs:List (List Key×V)} (e:H a=some (.dT kvs)):nM K H (.ref a) (.type "dict")
 | ins {a C dx:Addr} {fs:List (Str×V)} (e:H a=some (.ins C dx fs)) (cl:Cls K C) (ha:PySem.W.findIn K (.ref C) "__class__"=some (some (.builtin "object.__class__")))
   (hn:PySem.W.specialIn K (.builtin "object.__class__") "__get__"=some (some (.builtin "getset_descriptor.__get__"))) (htk:PySem.W.takesIn K (.builtin "object.__class__")=some true)
   (hm:PySem.W.mroIn K C (.type "object")=some true):nM K H (.ref a) (.ref C)
end
structure a9(k:Nat)(A:Around):Prop where
 hd:A.handled=none
 dp:A.depth+3*k+5<recursionLimit
 un:A.units+16*k+200<cLine
theorem a9.mono{j k:Nat}{A:Xe}(r:a9 k A)(h:j<=k):a9 j A:=⟨r.hd,by have:=r.dp;omega,by have:=r.un;omega⟩
theorem a9.deeper{k:Nat}{A:Xe}(r:a9 (k+1) A)(env:Env):a9 k (A.deeper env):=
 ⟨r.hd,by have:=r.dp;show A.depth+1+3*k+5<_;omega,by have:=r.un;show A.units+3+16*k+200<_;omega⟩
theorem a9.in1{k:Nat}{A:Xe}(r:a9 (k+1) A):a9 k A.in1:=
 ⟨r.hd,by have:=r.dp;show A.depth+3*k+5<_;omega,by have:=r.un;show A.units+1+16*k+200<_;omega⟩
theorem uD{A:Xe}{C:Xj}{us:W0}{kw:List (Str×Xa)}:(A.under (.builtin "type.__call__" ⟨.ref C::us,kw⟩)).depth=A.depth+1:=by
 first | rfl | simp[Around.under,Code.weight,Code.isCreation,Code.isGuard,Code.isCaller,Code.frames,Code.isFrame,guardIds]
theorem uT{A:Xe}{C:Xj}{us:W0}{kw:List (Str×Xa)}:(A.under (.builtin "type.__call__" ⟨.ref C::us,kw⟩)).units=A.units+1:=by
 first | rfl | simp[Around.under,Code.cUnits,Code.frames,Code.isFrame]
theorem a9.make{k:Nat}{A:Xe}(r:a9 (k+1) A)(C:Xj)(us:W0)(kw:List (Str×Xa)):a9 k (A.under (.builtin "type.__call__" ⟨.ref C::us,kw⟩)):=
 ⟨r.hd,by have:=r.dp;rw[uD];omega,by have:=r.un;rw[uT];omega⟩
theorem a9.depth{k:Nat}{A:Xe}(r:a9 k A):A.depth<recursionLimit:=by have:=r.dp;omega
theorem a9.units{k:Nat}{A:Xe}(r:a9 k A):A.units+64<cLine:=by have:=r.un;omega
def tNil:TA:=λ_ H Q=>Q [] H
def ef(ta:TE)(tr:TA):TA:=λσ H Q=>ta σ H λx H1=>tr σ H1 λxs H2=>Q (x::xs) H2
section
variable {X:Cx}{e:Xk}{es:W5}{te:TE}{t:TA}{pos:Pos}
theorem bM:PA X [] tNil:=λ_ _ _ _ H Q I h=>Ww ⟨[],H,I,.nil,h⟩
theorem aJ(ha:PE X e te)(hr:PA X es t)(hs:starEach (e::es) X.env=(false,eval e X.env)::starEach es X.env:=by rfl):PA X (e::es) (ef te t):=by
 intro pos pins s σ H Q I h;rw[hs];show wpAny _ _ (spliced ((false,eval e X.env)::backTo pos (starEach es X.env))) _ _ s;refine UN (aZ (ha pins s σ H _ I h) λu s1 ⟨x,H1,I1,r1,q1⟩=>?_);exact aZ (hr pos pins s1 σ H1 _ I1 q1) λus s2 ⟨xs,H2,I2,r2,q2⟩=>⟨x::xs,H2,I2,.cons r1 r2,q2⟩
def P1(t:TA):TE:=λσ H Q=>t σ H λxs H1=>xs.length<=sizeLine/\∀p,H1 p=none->Q (.ref p) (upd H1 p (.tup xs))
def DI(t:TA):TE:=λσ H Q=>t σ H λxs H1=>xs.length<=sizeLine/\∀p,H1 p=none->Q (.ref p) (upd H1 p (.lst xs))
theorem JK{x1}(h:PA X es t):PE X (.Tuple es x1 pos) (P1 t):=by
 intro pins s σ H Q I hq;refine wpAny_Tuple_spliced (aZ (h pos pins s σ H _ I hq) λus s1 ⟨xs,H1,I1,r,z,q⟩=>⟨by rw[<- r.length];exact z,?_⟩);have hf:H1 s1.heap.objs.size=none:=I1.hok.fresh (h_ _);refine⟨.ref s1.heap.objs.size,upd H1 s1.heap.objs.size (.tup xs),I1.laid (t':=s1.toks) (λb u e=>e_ _ e) (h_ _) ?_,rfl,q _ hf⟩;exact⟨z,us,r,⟨_,n_ _ rfl,rfl,_,rfl⟩⟩
theorem qT(h:PA X es t):PE X (.List es pos) (DI t):=by
 intro pins s σ H Q I hq;refine wpAny_List_spliced (aZ (h pos pins s σ H _ I hq) λus s1 ⟨xs,H1,I1,r,z,q⟩=>⟨by rw[<- r.length];exact z,?_⟩);have hf:H1 s1.heap.objs.size=none:=I1.hok.fresh (h_ _);refine⟨.ref s1.heap.objs.size,upd H1 s1.heap.objs.size (.lst xs),I1.laid (t':=s1.toks) (λb u e=>e_ _ e) (h_ _) ?_,rfl,q _ hf⟩;exact⟨z,us,0,r,n_ _ rfl⟩
end
abbrev Sp:=Xs->Hp->VK->XK->Prop
abbrev CXT:=List Env->Hp->Xb->XK->WT
structure uq(P:Program)(w:World)(K:PySem.W.Frag)(mg:Str->Option Value)(base:Heap)(A:Around)(outer:List Env)(s:Shared)(H:Hp):Prop where
 frames:A.frames=some outer
 mod:Mod K mg base
 bs:∀b o,base.get? b=some o->s.heap.get? b=some o/\H b=none
 bsz:base.objs.size<=s.heap.objs.size
 funs:s.heap.FunFrames base outer
 frf:∀b∈k7 outer,H b=none
 hok:k6 P w H s.heap
 bare:AllBare s.gens
 tb:∀P q,tq K P=some q->H P=some (.tab q)
def CE(outer:List Env)(P:Xd)(w:Xg)(H:Hp)(s:Xb)(Q:VK)(u:Xa)(s':Xb):Prop:=
 ∃v H',s'.os=s.os/\AllBare s'.gens/\Un (k7 outer) [] H H' s.heap s'.heap/\k6 P w H' s'.heap/\RelV v u/\Q v H'
def CR(CX:CXT)(outer:List Env)(P:Xd)(w:Xg)(H:Hp)(s:Xb)(Q:VK)(E:XK)(r:Result)(s':Xb):Prop:=
 match r with
 | .ok (.ret u)=>CE outer P w H s Q u s'
 | .ok _=>False
 | .error e=>CX outer H s E e s'
structure dj(P:Program)(w:World)(K:PySem.W.Frag)(mg:Str->Option Value)(base:Heap)(CX:CXT)(k:Nat)(f:Addr)(fd:FuncData)(ps:List Str)(sp:Sp):Prop where
 len:∀vs H Q E,sp vs H Q E->vs.length=ps.length
 run:∀(A:Around)(outer:List Env)(s:Shared)(H:Hp)(args:Args)(us:List Value)(vs:List V)(Q:VK)(E:XK),a9 k A->uq P w K mg base A outer s H->BindsTo s fd args (ps.zip us)->av vs us->sp vs H Q E->
  codeAny (model P w) A (.call (.ref f) args) (CR CX outer P w H s Q E) s
theorem dj.mono{P:Xd}{w:Xg}{K:W_}{mg:WW}{base:Xf}{CX:CXT}{j k:Nat}{f:Xj}{fd:Xh}{ps:W3}{sp:Sp}(F:dj P w K mg base CX j f fd ps sp)(h:j<=k) :
  dj P w K mg base CX k f fd ps sp:=⟨F.len,λA outer s H args us vs Q E hr=>F.run A outer s H args us vs Q E (hr.mono h)⟩
theorem uq.make{P:Xd}{w:Xg}{K:W_}{mg:WW}{base:Xf}{A:Xe}{outer:List Env}{s:Xb}{H:Hp}(e:uq P w K mg base A outer s H)(C:Xj)(us:W0)(kw:List (Str×Xa)) :
  uq P w K mg base (A.under (.builtin "type.__call__" ⟨.ref C::us,kw⟩)) outer s H:=⟨by first | exact e.frames | (simpa [Around.under,Code.envs,Code.isFrame,pushEnvs]using e.frames),e.mod,e.bs,e.bsz,e.funs,e.frf,e.hok,e.bare,e.tb⟩
section
variable {X:Cx}{pins:WU}{σ:St}{H:Hp}{s s':Xb}
theorem Inv.env0(I:Inv X pins σ H s):uq X.prog X.w X.K X.mg X.base X.A X.stack s H:=
 ⟨I.ok.frames,I.ok.mod,I.bs,B_ I.ok.bsz I.sz,I.stack,I.stkFree,I.hok,I.bare,I.tb⟩
theorem Inv.after{Q:VK}{u:Xa}(I:Inv X pins σ H s)(h:CE X.stack X.prog X.w H s Q u s'):EP X pins σ Q u s':=by
 obtain⟨v,H',os,bare,un,hok,r,q⟩:=h;obtain⟨hh,g,d,t,os'⟩:=s';obtain rfl:os'=s.os:=os;exact⟨v,H',I.call (h':=hh) (g':=g) (d':=d) (t':=t) (ch:=[]) un hok bare (λb z=>absurd z (by simp)),r,q⟩
end
def G9(sp:Sp)(dvs:Xs)(E:XK)(t:TA):TE:=λσ H Q=>t σ H λvs H1=>sp (vs++dvs) H1 Q E
def Binds(K:W_)(fd:Xh)(ps:W3)(ds:W0):Prop:=
 ∀(s:Xb)(us:W0),K.In s.heap->(us++ds).length=ps.length->BindsTo s fd ⟨us,[]⟩ (ps.zip (us++ds))
theorem Binds.all{K:W_}{fd:Xh}{ps:W3}(h:∀us:W0,us.length=ps.length->bindArgs fd ⟨us,[]⟩=pure (ps.zip us)):Binds K fd ps []:=λs us _ hl=>by
 rw[SG]at hl ⊢;exact .of_eq (h us hl)
def vI(CX:CXT)(X:Cx)(E:XK):Prop:=∀(pins:WU)(σ:St)(H:Hp)(s:Xb)(e:Xa)(s':Xb),Inv X pins σ H s->CX X.stack H s E e s'->X.xe e s'
section
variable {X:Cx}{CX:CXT}{k:Nat}{f C:Xj}{fd:Xh}{ps:W3}{sp:Sp}{dvs:Xs}{ds:W0}{E:XK}{x m:Str}{p pos apos:Pos}{e o:Xk}{es:W5}{ta:TE}{t:TA}
theorem Iv{pins:WU}{σ:St}{H:Hp}{s:Xb}{Q:VK}{us:W0}{vs:Xs}(F:dj X.prog X.w X.K X.mg X.base CX k f fd ps sp)(hr:a9 k X.A)(hb:Binds X.K fd ps ds)(hd:av dvs ds)(hx:vI CX X E)
  (I:Inv X pins σ H s) (r:av vs us) (h:sp (vs++dvs) H Q E):wpAny (model X.prog X.w) X.A (call (.ref f) us) (EP X pins σ Q) X.xe s:=by
 have r2:av (vs++dvs) (us++ds):=r.append hd;have hl:(us++ds).length=ps.length:=by rw[<- r2.length];exact F.len _ _ _ _ h
 refine VM (U9 (F.run X.A X.stack s H ⟨us,[]⟩ (us++ds) (vs++dvs) Q E hr I.env0 (hb s us I.kIn hl) r2 h) λr s' hq=>?_);cases r with
 | error e=>exact hx pins σ H s e s' I hq
 | ok fl=>
  cases fl with
  | ret u=>exact I.after hq
  | next=>exact False.elim hq
  | brk=>exact False.elim hq
  | cont=>exact False.elim hq
theorem EV(F:dj X.prog X.w X.K X.mg X.base CX k f fd ps sp)(hr:a9 k X.A)(hg:Gl X x)(hm:X.mg x=some (.ref f))(hk:PySem.W.keepIn X.K (.ref f)=true)(hb:Binds X.K fd ps ds)(hd:av dvs ds)(hx:vI CX X E)
  (ha:PA X (e::es) t) (kG:(x==("__debug__":Str))=false:=by decide) (he:starEach (e::es) X.env=(false,eval e X.env)::starEach es X.env:=by rfl) (eR:(backTo pos (starEach es X.env)).any (·.1)=false:=by rfl) :
  PE X (.Call (.Name x p) (e::es) [] pos) (G9 sp dvs E t):=by
 intro pins s σ H Q I h;refine TQ (gY I hg hm ?_ kG);refine UO (h₀:=X.base) I.ok.mod.kin hk (aZ (ha pos pins s σ H _ I h) λus s1 ⟨vs,H1,I1,r,q⟩=>⟨I1.kIn,?_⟩) he eR;exact Iv F hr hb hd hx I1 r q
structure Mk(K:PySem.W.Frag)(C f:Addr):Prop where
 makes:PySem.W.makesIn K C=true
 init:PySem.W.findIn K (.ref C) "__init__"=some (some (.ref f))
 fn:PySem.W.isFn K (.ref f)=true
 kp:PySem.W.keepIn K (.ref C)=true
end
section
variable {X:Cx}{CX:CXT}{k:Nat}{f C:Xj}{fd:Xh}{ps ks:W3}{sp:Sp}{E:XK}{x m:Str}{p pos apos NB:Pos}{e o:Xk}{es:W5}{kws:List Keyword}{te ta:TE}{t tk:TA}{nm:Option Str}
structure KBinds(K:PySem.W.Frag)(fd:FuncData)(ps ks:List Str)(g:List Value->List Value->List Value)(gV:List V->List V->List V):Prop where
 to:∀(s:Shared)(us ws:List Value),K.In s.heap->(g us ws).length=ps.length->BindsTo s fd ⟨us,ks.zip ws⟩ (ps.zip (g us ws))
 rel:∀{vs:List V}{us:List Value}{zs:List V}{ws:List Value},av vs us->av zs ws->av (gV vs zs) (g us ws)
variable {g:W0->W0->W0}{gV:Xs->Xs->Xs}
end
structure bC(N P:List Str)(sc:Scope):Prop where
 kind:sc.kind=.function
 co:sc.isCoroutine=false
 gen:sc.isGenerator=false
 nd:N.Nodup
 pre:N.take P.length=P
 par:∀x∈P,sc.names.lookup x=some .local\/sc.names.lookup x=some .cell
 nofree:∀y∈sc.names,y.2≠.free
theorem pC{kindOf:Str->Option NameKind}{x:Str}:∀{binds:List (Str×Xa)}{m:WW},(∀v,(x,v)∉binds)->bindL kindOf binds m x=m x
 | [],_,_=>rfl
 | (n,v)::r,m,h=>by
  unfold bindL;rw[pC λw hw=>h w (l_ _ hw)]
  split
  .have:x≠n:=by rintro rfl;exact h v o_
   simp[this]
  .rfl
theorem oO{kindOf:Str->Option NameKind}{x:Str}:∀{binds:List (Str×Xa)}{m:WW},(∀v,(x,v)∉binds)->bindC kindOf binds m x=m x
 | [],_,_=>rfl
 | (n,v)::r,m,h=>by
  unfold bindC;rw[oO λw hw=>h w (l_ _ hw)]
  split
  .rfl
  .have:x≠n:=by rintro rfl;exact h v o_
   simp[this]
theorem o7{kindOf:Str->Option NameKind}{x:Str}{v:Xa}:∀{P:W3}{vs:W0}{i:Nat}{m:WW},P.Nodup->P[i]?=some x->vs[i]?=some v->kindOf x=some .local->
  bindL kindOf (P.zip vs) m x=some v
 | [],_,_,_,_,h,_,_=>by simp at h
 | _::_,[],_,_,_,_,h,_=>by simp at h
 | p::P,w::vs,0,m,nd,h1,h2,hk=>by
  simp at h1 h2;subst h1;subst h2;show bindL kindOf ((p,w)::P.zip vs) m p=_;unfold bindL;rw[pC λv hv=>(UT.mp nd).1 (UU hv).1,j_ hk];simp
 | p::P,w::vs,i+1,m,nd,h1,h2,hk=>by
  show bindL kindOf ((p,w)::P.zip vs) m x=_;unfold bindL;exact o7 (i:=i) (UT.mp nd).2 (by simpa using h1) (by simpa using h2) hk
theorem pP{kindOf:Str->Option NameKind}{x:Str}{v:Xa}:∀{P:W3}{vs:W0}{i:Nat}{m:WW},P.Nodup->P[i]?=some x->vs[i]?=some v->kindOf x≠some .local->
  bindC kindOf (P.zip vs) m x=some v
 | [],_,_,_,_,h,_,_=>by simp at h
 | _::_,[],_,_,_,_,h,_=>by simp at h
 | p::P,w::vs,0,m,nd,h1,h2,hk=>by
  simp at h1 h2;subst h1;subst h2;show bindC kindOf ((p,w)::P.zip vs) m p=_;unfold bindC;rw[oO λv hv=>(UT.mp nd).1 (UU hv).1,k_ hk];simp
 | p::P,w::vs,i+1,m,nd,h1,h2,hk=>by
  show bindC kindOf ((p,w)::P.zip vs) m x=_;unfold bindC;exact pP (i:=i) (UT.mp nd).2 (by simpa using h1) (by simpa using h2) hk
def start(N:W3)(vs:Xs):St:=vs.map some++List.replicate (N.length-vs.length) none
def eO(CX:CXT)(P:Xd)(w:Xg)(K:W_)(mg:WW)(base:Xf)(N:W3)(qual:Str)(scope:Xi)(f:Xj)(cd:Xa)(A:Xe)(outer:List Env)(s:Xb)(H:Hp)(E:XK):Cx where
 prog:=P
 w:=w
 K:=K
 mg:=mg
 base:=base
 A:=A.deeper (envOfC qual scope s.heap.objs.size f cd)
 N:=N
 s₀:=s
 H₀:=H
 env:=envOfC qual scope s.heap.objs.size f cd
 outer:=outer
 stack:=envOfC qual scope s.heap.objs.size f cd::outer
 ex:=[]
 calm:=true
 fn:=λ_=>true
 pn:=[]
 xe:=λe s'=>wpAny (model P w) (A.deeper (envOfC qual scope s.heap.objs.size f cd)) (leaving (envOfC qual scope s.heap.objs.size f cd) e) (λ_ ND=>CX outer H s E e ND) (λe' ND=>CX outer H s E e' ND) s'
theorem ud{sc:Xi}{n:Nat}{x:Str}(h:sc.names.lookup x=some .cell):∃c,(cellsFrom n sc.names []).lookup x=some c:=by
 have q:=UP sc.names n [] (.inl h);exact Option.isSome_iff_exists.mp q
theorem kj{CX:CXT}{P:Xd}{w:Xg}{K:W_}{mg:WW}{base:Xf}{N ps:W3}{qual:Str}{scope:Xi}{f:Xj}{cd:Xa}{A:Xe}{outer:List Env}{s s1:Xb}{H:Hp}{E:XK}{us:W0}{vs:Xs}
  (S:bC N ps scope) (hd:A.handled=none) (e0:uq P w K mg base A outer s H) (hl:vs.length=ps.length) (r:av vs us)
  (x:InCallC s s.heap.objs.size (bindL (envOfC qual scope s.heap.objs.size f cd).kindOf (ps.zip us) λ_=>none) (cellsFrom (s.heap.objs.size+1) scope.names []) (bindC (envOfC qual scope s.heap.objs.size f cd).kindOf (ps.zip us) λ_=>none) s1) :
  Inv (eO CX P w K mg base N qual scope f cd A outer s H E) [] (start N vs) H s1:=by
 have eR:ps.length<=N.length:=by have:=Tp List.length S.pre;rw[S1]at this;omega
 obtain⟨h1,tk,rfl,hk⟩:=x.done;have Dy:∀b:Xj,b∉(eO CX P w K mg base N qual scope f cd A outer s H E).ex:=λb z=>absurd (show b∈([]:W4)from z) (by simp);refine⟨⟨e0.mod,S.kind,rfl,rfl,h_ _,λy z c h1 h2=>?_,λy hy=>?_,λy c _ h=>?_,λ_=>hd,Around.frames_deeper e0.frames,.inr ⟨rfl,rfl⟩,λb z=>absurd z (Dy b),e0.bs,e0.bsz,λb _ _=>Dy b,λb z=>absurd z (Dy b),e0.funs,e0.frf,e0.tb⟩,
  rfl,e0.bare,Un.kept hk,⟨_,x.toInCall.ns,λi y v h1 h2 h3=>?_⟩,λy c h=>⟨_,x.cell y c h⟩,e0.hok.fresh (h_ _),λy c h=>?_,λp hp=>absurd (show p∈([]:WU)from hp) (by simp),e0.hok.kept hk,?_⟩
 .exact name_of_addr x.apart (SN h1) (SN h2)
 .have hy:scope.names.lookup y=some .cell\/scope.names.lookup y=some .free:=hy;rcases hy with hy | hy
  .exact ud hy
  .exact absurd rfl (S.nofree _ (SN hy))
 .exact TV (x.above y c (SN h))
 .have hi:i<vs.length:=by
   unfold start at h2
   by_cases hi:i<vs.length
   .exact hi
   .rw[G_ (by simpa using hi)]at h2;rw[S2]at h2
    split at h2<;>cases h2
  have ha:vs[i]?=some v:=by
   unfold start at h2;rw[I_ (by simpa using hi),m_]at h2;cases e:vs[i]? with
   | none=>rw[e]at h2;cases h2
   | some a=>rw[e]at h2;cases h2;rfl
  obtain⟨u,hu,rv⟩:=r.get ha;have hp:ps[i]?=some y:=by
   rw[<- S.pre,List.getElem?_take_of_lt (by omega)];exact h1
  have Ri:ps.Nodup:=by rw[<- S.pre];exact S.nd.sublist (Wx _ _)
  refine⟨u,rv,?_⟩;rcases S.par y (R_ hp)with k | k
  .exact .inl ⟨k,o7 Ri hp hu k⟩
  .obtain⟨c,e⟩:=ud (n:=s.heap.objs.size+1) k;refine .inr ⟨.inl k,c,e,?_⟩;have q:=x.cell y c e;rw[pP Ri hp hu (by show scope.names.lookup y≠_;rw[k];decide)]at q;exact q
 .exact e0.hok.fresh (TV (x.above y c (SN h)))
 .unfold start;show _=N.length;rw[r_,c_,Uq];omega
theorem xI{CX:CXT}{P:Xd}{w:Xg}{K:W_}{mg:WW}{base:Xf}{k:Nat}{f:Xj}{name qual:Str}{params:Arguments}{body:W6}{scope:Xi}{dV kV doc pm bq ct oc:Xa}{an od:W2}
  {qb:WV} {N ps:W3} {sp:Sp} (lk:K.lookup f=some ⟨oc,od,.func (PySem.W.fnOf name qual params body scope dV kV doc pm an bq ct),qb⟩) (dQ:PySem.W.codeIn K bq qual=true) (S:bC N ps scope)
  (len:∀vs H Q E,sp vs H Q E->vs.length=ps.length)
  (hbody:∀(A:Xe)(outer:List Env)(s:Xb)(H:Hp)(vs:Xs)(Q:VK)(E:XK),a9 k (A.deeper (envOfC qual scope s.heap.objs.size f bq))->sp vs H Q E->
   ∃t,PSs (eO CX P w K mg base N qual scope f bq A outer s H E) body t/\t {nx:=λ_ H'=>Q .non H',rt:=Q} (start N vs) H) :
  dj P w K mg base CX (k+1) f (PySem.W.fnOf name qual params body scope dV kV doc pm an bq ct) ps sp:=by
 refine⟨len,λA outer s H args us vs Q E hr e0 hb r lT=>?_⟩;have hl:=len _ _ _ _ lT;have KX:K.In s.heap:=e0.mod.kin.keeps λb o e=>(e0.bs b o e).1;have lim:s.heap.NoLimit:=e0.mod.nolimit.keeps λb o e=>(e0.bs b o e).1;have bo:∀y∈ps.zip us,scope.names.lookup y.1=some .local\/(scope.names.lookup y.1=some .cell/\((cellsFrom (s.heap.objs.size+1) scope.names []).lookup y.1).isSome=true):=λ⟨n,v⟩ hy=>by
  rcases S.par n (UU hy).1 with q | q
  .exact .inl q
  .exact .inr ⟨q,UP _ _ _ (.inl q)⟩
 refine VI hr.depth (KX _ _ lk) rfl S.co S.gen rfl (Wk KX dQ) (hb _ _ _ _ ?_);refine U5 S.kind bo λenv he s1 x=>?_;subst he;refine⟨lim.keeps x.toInCall.keep,codeAny_func ?_⟩;obtain⟨t,ht,hq⟩:=hbody A outer s H vs Q E (hr.deeper _) lT;have I:Inv (eO CX P w K mg base N qual scope f bq A outer s H E) [] (start N vs) H s1:=kj S hr.hd e0 hl r x;refine SI (ht [] s1 (start N vs) H _ I hq) (λfl s' hs=>?_) λe s' hs=>hs;have fin:∀{σ':St}{H':Hp}{v:V}{u:Xa},Inv (eO CX P w K mg base N qual scope f bq A outer s H E) [] σ' H' s'->RelV v u->Q v H'->CE outer P w H s Q u s':=
  λ{σ' H' v u} J rv q=>⟨v,H',J.os,J.bare,J.base,J.hok,rv,q⟩
 cases fl with
 | ret u=>
  obtain⟨v,σ',H',J,rv,q⟩:=hs;exact fin J rv q
 | next=>
  obtain⟨σ',H',J,q⟩:=hs;exact fin (v:=V.non) (u:=Value.none) J rfl q
 | brk=>
  obtain⟨_,_,_,q⟩:=hs;exact False.elim q
 | cont=>
  obtain⟨_,_,_,q⟩:=hs;exact False.elim q
section
variable {X:Cx}{x:Str}{p pos:Pos}{e:Xk}{es:W5}{t:TA}{id T:String}{r:Xs->Hp->VK->Prop}
def Ob(r:Xs->Hp->VK->Prop)(t:TA):TE:=λσ H Q=>t σ H λvs H1=>r vs H1 Q
theorem gF(hc:dD X (.builtin id) r)(hg:Gl X x)(hm:X.mg x=none)(hv:bootBuiltins x=some (.builtin id))(ha:PA X (e::es) t)(hn:x≠"__name__":=by decide)(kG:(x==("__debug__":Str))=false:=by decide)
  (he:starEach (e::es) X.env=(false,eval e X.env)::starEach es X.env:=by rfl) (eR:(backTo pos (starEach es X.env)).any (·.1)=false:=by rfl):PE X (.Call (.Name x p) (e::es) [] pos) (Ob r t):=by
 intro pins s σ H Q I h;refine TQ (gT I hg hm hv ?_ hn kG);exact VN (aZ (ha pos pins s σ H _ I h) λus s1 ⟨vs,H1,I1,r1,q1⟩=>hc pins s1 σ H1 vs us Q I1 r1 q1) he eR
theorem yA(hc:dD X (.type T) r)(hg:Gl X x)(hm:X.mg x=none)(hv:bootBuiltins x=some (.type T))(ha:PA X (e::es) t)(hn:x≠"__name__":=by decide)(kG:(x==("__debug__":Str))=false:=by decide)
  (he:starEach (e::es) X.env=(false,eval e X.env)::starEach es X.env:=by rfl) (eR:(backTo pos (starEach es X.env)).any (·.1)=false:=by rfl):PE X (.Call (.Name x p) (e::es) [] pos) (Ob r t):=by
 intro pins s σ H Q I h;refine TQ (gT I hg hm hv ?_ hn kG);exact T_ (aZ (ha pos pins s σ H _ I h) λus s1 ⟨vs,H1,I1,r1,q1⟩=>hc pins s1 σ H1 vs us Q I1 r1 q1) he eR
end
end L2
namespace HT
open PySem PyProof.Rows
theorem sv(A:Xe)(s:Xb)(a:Int)(t:Tok)(c:Int)(u:Tok)(prog:Xd)(w:Xg)(E:WT)(Q:WT)(h:Q (.bool (decide (a<c))) s) :
  wpAny (model prog w) A (richCompare .Lt (.int a t) (.int c u)) Q E s:=
 (PyProof.Rows.lt_int h:wpAny (model prog w) A (compareOp .Lt (.int a t) (.int c u)) Q E s)
section
open PySem.SeqAt
open PySem.AutoSeq1 (wpAny_loadPart')
open PySem.MeetsSeq PySem.MeetsSeq2 PySem.MeetsSeq3
end
section
variable {prog:Xd}{w:Xg}{A:Xe}{E:WT}{s:Xb}
theorem EU{t b:Xj}{vs ws:W0}{Q:WT}(ht:IsTup s.heap t vs.toArray)(hb:IsTup s.heap b ws.toArray)(hv:vs≠[])
  (h1:ws=[]->Q (.ref t) s) (h2:ws≠[]->Q (.ref s.heap.objs.size) {s with heap:=s.heap.push {cls:=.type "tuple",data:=.seq (vs++ws).toArray}})
  (hsz:vs.length+ws.length<=sizeLine):wpAny (model prog w) A (binaryOp .Add (.ref t) (.ref b)) Q E s:=by
 obtain⟨⟨cls,dd,data,sl⟩,ho,hc,n,hd⟩:=id ht;obtain⟨⟨Ko,zJ,data2,Dz⟩,DA,rQ,n2,hd2⟩:=id hb;simp only at hc hd rQ hd2;subst hc hd rQ hd2;have e:vs.toArray++ws.toArray=(vs++ws).toArray:=by simp
 by_cases hw:ws=[]
 .exact concat_meets ⟨_,ho,rfl⟩ ⟨_,DA,rfl⟩ noFill_tuple_add seq_tuple_add Vx Vq (Vf _ _)
   (tuple_addW1 t b vs.toArray ws.toArray n n2 dd zJ sl Dz (by simpa using hv) (by simp[hw])) ⟨ho,DA,h1 hw⟩
 .refine concat_meets ⟨_,ho,rfl⟩ ⟨_,DA,rfl⟩ noFill_tuple_add seq_tuple_add Vx Vq (Vf _ _)
   (tuple_addW2 t b vs.toArray ws.toArray n n2 dd zJ sl Dz (by simpa using hv) (by simpa using hw) (by rw[u_,u_];exact hsz)) ⟨ho,DA,?_⟩
  rw[e];exact h2 hw
def oU(n d:Nat):Option Int->Nat
 | none=>d
 | some v=>if v<0 then(v+(n:Int)).toNat else min v.toNat n
theorem CB(n d:Nat):oU n d none=d:=rfl
theorem Fu(n d k:Nat):oU n d (some (k:Int))=min k n:=by
 show(if(k:Int)<0 then((k:Int)+(n:Int)).toNat else min (k:Int).toNat n)=min k n;rw[k_ (by omega),SR]
end
end HT
namespace L2
open PySem PySem.Spec PyProof.Rows
abbrev TO:=St->Hp->(Option Int->Hp->Prop)->Prop
def PO(X:Cx)(e:Option Xk)(t:TO):Prop:=
 ∀(pins:WU)(s:Xb)(σ:St)(H:Hp)(Q:Option Int->Hp->Prop),Inv X pins σ H s->t σ H Q->
  wpAny (model X.prog X.w) X.A (evalPart e X.env) (λu s'=>∃o H',Inv X pins σ H' s'/\IsPart u o/\Q o H') X.xe s
def tNoPart:TO:=λ_ H Q=>Q none H
def Mq(t:TE):TO:=λσ H Q=>t σ H λx H1=>∃i,x=.int i/\Q (some i) H1
section
variable {X:Cx}{e:Xk}{te:TE}{lo hi:Option Xk}{tl th:TO}{pos p2:Pos}
theorem Eo:PO X none tNoPart:=by
 intro pins s σ H Q I h;rw[evalPart_none];exact d_ ⟨none,H,I,.none,h⟩
theorem xp(h:PE X e te):PO X (some e) (Mq te):=by
 intro pins s σ H Q I hw;rw[evalPart_some];refine aZ (h pins s σ H _ I hw) λu s1 ⟨x,H1,I1,r1,q1⟩=>?_;obtain⟨i,rfl,q⟩:=q1;obtain⟨t,rfl⟩:=r1;exact⟨some i,H1,I1,.int i t,q⟩
def Rc(X:Cx)(r:V->Option Int->Option Int->Hp->VK->Prop):Prop:=
 ∀(pins:WU)(s:Xb)(σ:St)(H:Hp)(x:V)(v vl vu:Xa)(lo hi:Option Int)(sl:Xj)(Q:VK),Inv X pins σ H s->RelV x v->s.heap.IsSliceOf sl vl vu .none->IsPart vl lo->IsPart vu hi->r x lo hi H Q->
  ∃T id,typeLookup (.type T) "__getitem__"=pure (some (.builtin id))/\s.TypeIs v T/\wpAny (model X.prog X.w) X.A (getItem v (.ref sl)) (EP X pins σ Q) X.xe s
def Sg(r:V->Option Int->Option Int->Hp->VK->Prop)(te:TE)(tl th:TO):TE:=λσ H Q=>te σ H λx H1=>tl σ H1 λl H2=>th σ H2 λu H3=>r x l u H3 Q
theorem CF{r:V->Option Int->Option Int->Hp->VK->Prop}(hr:Rc X r)(he:PE X e te)(hl:PO X lo tl)(hu:PO X hi th):PE X (.Subscript e (.Slice lo hi none p2) pos) (Sg r te tl th):=by
 intro pins s σ H Q I h;refine Subscript_ (aZ (he pins s σ H _ I h) λv s1 ⟨x,H1,I1,r1,q1⟩=>?_);refine wpAny_Slice (aZ (hl pins s1 σ H1 _ I1 q1) λvl s2 ⟨l,H2,I2,pl,q2⟩=>aZ (hu pins s2 σ H2 _ I2 q2) λvu s3 ⟨u,H3,I3,pu,q3⟩=>?_);rw[evalPart_none];refine d_ ?_;have I4:Inv X pins σ H3 {s3 with heap:=s3.heap.push {cls:=.type "slice",data:=.fields #[vl,vu,.none]}}:=I3.kept (t':=s3.toks) λb ob q=>e_ _ q;obtain⟨T,id,hT,ht,hg⟩:=hr pins {s3 with heap:=s3.heap.push {cls:=.type "slice",data:=.fields #[vl,vu,.none]}} σ H3 x v vl vu l u s3.heap.objs.size Q I4 r1 (Heap.IsSliceOf.new ..) pl pu q3;show wpAny (model X.prog X.w) X.A (subscriptTail e (.Slice lo hi none p2) v (.ref s3.heap.objs.size)) (EP X pins σ Q) X.xe {s3 with heap:=s3.heap.push {cls:=.type "slice",data:=.fields #[vl,vu,.none]}};exact tail_any (ops:=[.ref s3.heap.objs.size,v]) ht hT hg (by with_unfolding_all rfl)
def yq(xs:Xs)(lo hi:Option Int):Xs:=(xs.drop (HT.oU xs.length 0 lo)).take (HT.oU xs.length xs.length hi-HT.oU xs.length 0 lo)
theorem tR(xs:Xs)(lo hi:Option Int):(yq xs lo hi).length<=xs.length:=by
 unfold yq;rw[S1,List.length_drop];omega
def LF(K:W_):R2:=λx y H Q=>∃a b xs ys,x=.ref a/\y=.ref b/\cy K H a xs/\cy K H b ys/\xs≠[]/\xs.length+ys.length<=sizeLine/\
 (ys=[]->Q (.ref a) H)/\(ys≠[]->∀p,H p=none->Q (.ref p) (upd H p (.tup (xs++ys))))
theorem av.nil_iff{xs:Xs}{us:W0}(r:av xs us):us=[]↔xs=[]:=by
 cases r with
 | nil=>simp
 | cons _ _=>simp
theorem Ga:gy X (binaryOp .Add) (LF X.K):=by
 intro pins s σ H x y v u Q I rx ry h;obtain⟨a,b,xs,ys,rfl,rfl,ha,hb,hx,hz,q1,q2⟩:=h;cases rx;cases ry;obtain⟨aQ,r1,p1,_⟩:=I.tuple ha;obtain⟨v7,r2,p2,_⟩:=I.tuple hb;refine HT.EU p1 p2 (λz=>hx (r1.nil_iff.mp z)) (λz=>⟨.ref a,H,I,rfl,q1 (r2.nil_iff.mp z)⟩) (λz=>?_) (by rw[<- r1.length,<- r2.length];exact hz);refine⟨.ref s.heap.objs.size,_,I.laid (t':=s.toks) (o:=.tup (xs++ys)) (λb ob q=>e_ _ q) (h_ _) ?_,rfl,q2 (λw=>z (r2.nil_iff.mpr w)) _ (I.hok.fresh (h_ _))⟩;exact⟨by rw[r_];exact hz,_,r1.append r2,IsTup.new _ _⟩
end
def vS(n:Nat)(i:Int):Option Nat:=if 0<=i then(if i<n then some i.toNat else none)else if -(n:Int)<=i then some (i+n).toNat else none
def atI{α:Type}(xs:List α)(i:Int):Option α:=(vS xs.length i).bind λj=>xs[j]?
theorem wK{n:Nat}{i:Int}{j:Nat}(h:vS n i=some j):seqIndex? i n=some j/\j<n/\-(n:Int)<=i/\i<n:=by
 unfold vS at h
 by_cases h0:0<=i
 .rw[j_ h0]at h
  by_cases h1:i<n
  .rw[j_ h1]at h;have e:i.toNat=j:=Option.some.inj h;exact⟨by rw[seqIndex_of h0 h1,e],by omega,by omega,h1⟩
  .rw[k_ h1]at h;cases h
 .rw[k_ h0]at h
  by_cases h1:-(n:Int)<=i
  .rw[j_ h1]at h;have e:(i+n).toNat=j:=Option.some.inj h;exact⟨by rw[seqIndex_neg (by omega) h1,e],by omega,h1,by omega⟩
  .rw[k_ h1]at h;cases h
theorem xo{α:Type}{xs:List α}{i:Int}{v:α}(h:atI xs i=some v):∃j,seqIndex? i xs.length=some j/\xs[j]?=some v/\j<xs.length/\-(xs.length:Int)<=i/\i<xs.length:=by
 unfold atI at h;cases e:vS xs.length i with
 | none=>rw[e]at h;cases h
 | some j=>
  rw[e]at h;obtain⟨h1,h2,h3,h4⟩:=wK e;exact⟨j,h1,h,h2,h3,h4⟩
theorem AS{α:Type}(xs:List α)(v:α):atI (xs++[v]) (-1)=some v:=by
 have hl:(xs++[v]).length=xs.length+1:=by simp
 have e:vS (xs++[v]).length (-1)=some xs.length:=by
  unfold vS;rw[hl,k_ (by decide),j_ (by omega)];congr 1;omega
 unfold atI;rw[e];show(xs++[v])[xs.length]?=some v;simp
def xF(b:Xk):Prop:=∀o i,subscripted b false o i=operate [o,i] (getItem o i)
def IZ(X:Cx)(r:R2):Prop:=
 ∀(value slice:Xk)(pins:WU)(s:Xb)(σ:St)(H:Hp)(x y:V)(v u:Xa)(Q:VK),Inv X pins σ H s->RelV x v->RelV y u->r x y H Q->
  subscripted slice false v u=operate [v,u] (getItem v u)->wpAny (model X.prog X.w) X.A (subscriptTail value slice v u) (EP X pins σ Q) X.xe s
def OX(X:Cx)(id:String)(r:V->Xs->Hp->VK->Prop):Prop:=
 ∀(pins:WU)(s:Xb)(σ:St)(H:Hp)(x:V)(xs:Xs)(v:Xa)(us:W0)(Q:VK),Inv X pins σ H s->RelV x v->av xs us->r x xs H Q->
  wpAny (model X.prog X.w) X.A (call (.builtin id) (v::us)) (EP X pins σ Q) X.xe s
section
variable {X:Cx}{a b:Xk}{ta tb:TE}{pos:Pos}
theorem IZ.or{r r':R2}(h:IZ X r)(h':IZ X r'):IZ X (λx y H Q=>r x y H Q\/r' x y H Q):=by
 intro value slice pins s σ H x y v u Q I rx ry q hs;rcases q with q | q
 .exact h value slice pins s σ H x y v u Q I rx ry q hs
 .exact h' value slice pins s σ H x y v u Q I rx ry q hs
theorem Lg{r:R2}(hr:IZ X r)(ha:PE X a ta)(hb:PE X b tb)(hs:xF b):PE X (.Subscript a b pos) (E8 r ta tb):=by
 intro pins s σ H Q I h;exact Subscript_ (IV ha hb I h λv u s2 x y H2 I2 rx ry q=>hr a b pins s2 σ H2 x y v u Q I2 rx ry q (hs _ _))
def Mt(K:W_):R2:=λx y H Q=>∃p xs i v,x=.ref p/\y=.int i/\di K H p xs/\atI xs i=some v/\Q v H
def MR(K:W_):R2:=λx y H Q=>∃p xs i v,x=.ref p/\y=.int i/\cy K H p xs/\atI xs i=some v/\Q v H
theorem EX:IZ X (Mt X.K):=by
 intro value slice pins s σ H x y v u Q I rx ry h hs;obtain⟨p,xs,i,z,rfl,rfl,hq,he,q⟩:=h;cases rx;obtain⟨t,rfl⟩:=ry;obtain⟨aQ,r,pl,hz⟩:=I.list hq;obtain⟨j,h1,h2,h3,h4,h5⟩:=xo he;obtain⟨w,ew,NG⟩:=r.get h2;have hl:=r.length;have hn:=mM;have fin:EP X pins σ Q w s:=⟨z,H,I,NG,q⟩
 by_cases h0:0<=i
 .have hj:i.toNat=j:=by
   rw[seqIndex_of h0 h5]at h1;exact Option.some.inj h1
  exact item_listR pl.isList h0 (by omega) (by rw[hj];simpa using ew) fin hs
 .have hj:(i+(aQ.toArray.size:Int)).toNat=j:=by
   rw[seqIndex_neg (by omega) h4]at h1;rw[u_,<- hl];exact Option.some.inj h1
  exact subscriptTail_builtinR (x:=w) pl.isList.typeIs Vy.lookup
   (wpAny_getItem_list_neg (Q:=λr s'=>r=w/\EP X pins σ Q r s') pl.isList (by omega) (by rw[u_]<;>omega) (by omega) (by rw[hj];simpa using ew) ⟨rfl,fin⟩) hs
theorem JR:IZ X (MR X.K):=by
 intro value slice pins s σ H x y v u Q I rx ry h hs;obtain⟨p,xs,i,z,rfl,rfl,hq,he,q⟩:=h;cases rx;obtain⟨t,rfl⟩:=ry;obtain⟨aQ,r,pl,hz⟩:=I.tuple hq;obtain⟨j,h1,h2,h3,h4,h5⟩:=xo he;obtain⟨w,ew,NG⟩:=r.get h2;have hl:=r.length;have hn:=mM;have fin:EP X pins σ Q w s:=⟨z,H,I,NG,q⟩;exact subscriptTail_builtinR (x:=w) pl.typeIs slot_tuple_getitem.lookup
  (getItem_tuple (j:=j) (Q:=λr s'=>r=w/\EP X pins σ Q r s') pl (by omega) (by omega) (by rw[u_,<- hl];exact h1) (by simpa using ew) ⟨rfl,fin⟩) hs
theorem vA(aQ:W0)(n j:Nat)(u:Xa):Obj.mapSeq (·.setIfInBounds j u) {cls:=.type "list",data:=.seq aQ.toArray n}={cls:=.type "list",data:=.seq (aQ.set j u).toArray n}:=by
 simp[Obj.mapSeq]
theorem Inv.lst{pins:WU}{σ:St}{H:Hp}{s:Xb}{p:Xj}{xs:Xs}(I:Inv X pins σ H s)(h:H p=some (.lst xs)) :
  ∃(aQ:W0)(n:Nat),av xs aQ/\s.heap.get? p=some {cls:=.type "list",data:=.seq aQ.toArray n}/\xs.length<=sizeLine:=by
 obtain⟨z,aQ,n,r,e⟩:=I.hok p _ h;exact⟨aQ,n,r,e,z⟩
theorem Inv.lstUpd{pins:WU}{σ:St}{H:Hp}{s:Xb}{p:Xj}{xs ys:Xs}{aQ its':W0}{n n':Nat}{f:Obj->Obj}(I:Inv X pins σ H s)(h:H p=some (.lst xs))
  (ho:s.heap.get? p=some {cls:=.type "list",data:=.seq aQ.toArray n}) (hf:f {cls:=.type "list",data:=.seq aQ.toArray n}={cls:=.type "list",data:=.seq its'.toArray n'}) (r:av ys its') (hz:ys.length<=sizeLine) (t:Nat) :
  Inv X pins σ (upd H p (.lst ys)) {s with heap:=s.heap.update p f,toks:=t}:=by
 have e:(s.heap.update p f).get? p=some {cls:=.type "list",data:=.seq its'.toArray n'}:=by
  rw[SS f ho (by rw[hf]<;>rfl),hf]
 refine I.write (x:=p) (e:=p) (by rw[h];trivial) (.inl rfl) (λb u hb q=>(SE _ _ (Tj hb)).trans q) ⟨_,e⟩ ?_;exact⟨hz,its',n',r,e⟩
def rSetL:V->V->V->Hp->(Hp->Prop)->Prop:=λo i v H Q=>∃p xs k j,o=.ref p/\i=.int k/\H p=some (.lst xs)/\vS xs.length k=some j/\Q (upd H p (.lst (xs.set j v)))
theorem set_list:Nr X rSetL:=by
 intro pins s σ H o i v ov iv u Q I ro ri rv h;obtain⟨p,xs,k,j,rfl,rfl,hp,hj,q⟩:=h;cases ro;obtain⟨t,rfl⟩:=ri;obtain⟨aQ,n,r,ho,hz⟩:=I.lst hp;obtain⟨h1,h2,h3,h4⟩:=wK hj;have hl:=r.length;have hn:=mM;have I':Inv X pins σ (upd H p (.lst (xs.set j v))) {s with heap:=s.heap.update p (Obj.mapSeq (·.setIfInBounds j u))}:=
  I.lstUpd hp ho (vA aQ n j u) (r.set rv j) (by rw[V4];exact hz) s.toks
 by_cases h0:0<=k
 .have hk:k.toNat=j:=by
   rw[seqIndex_of h0 h4]at h1;exact Option.some.inj h1
  exact PySem.W.ki_setAt ho h0 (by omega) (by rw[u_,<- hl];exact h4) (by rw[hk];exact⟨_,I',q⟩)
 .have hk:(k+(aQ.toArray.size:Int)).toNat=j:=by
   rw[seqIndex_neg (by omega) h3]at h1;rw[u_,<- hl];exact Option.some.inj h1
  exact PySem.W.ki_setBack ho (by omega) (by rw[u_,<- hl];exact h3) (by omega) (by rw[hk];exact⟨_,I',q⟩)
theorem qQ(lo hi:Option Int)(n:Nat):(sliceBounds lo hi none n).1=((HT.oU n 0 lo:Nat):Int)/\(sliceBounds lo hi none n).2.1=((HT.oU n n hi:Nat):Int)/\(sliceBounds lo hi none n).2.2=1:=by
 refine⟨?_,?_,rfl⟩
 .cases lo with
  | none=>simp[sliceBounds,HT.oU]
  | some i=>
   simp only[sliceBounds,HT.oU,Option.getD_none,show(1:Int)>0 by decide,Up]
   by_cases h:i<0
   .simp only[h,Up]<;>omega
   .simp only[h,SV]<;>omega
 .cases hi with
  | none=>simp[sliceBounds,HT.oU]
  | some i=>
   simp only[sliceBounds,HT.oU,Option.getD_none,show(1:Int)>0 by decide,Up]
   by_cases h:i<0
   .simp only[h,Up]<;>omega
   .simp only[h,SV]<;>omega
theorem oz(aQ:W0)(lo hi:Option Int):slicePick aQ.toArray lo hi none=((aQ.drop (HT.oU aQ.length 0 lo)).take (HT.oU aQ.length aQ.length hi-HT.oU aQ.length 0 lo)).toArray:=by
 obtain⟨h1,h2,h3⟩:=qQ lo hi aQ.toArray.size;unfold slicePick;rw[h1,h2,h3];simp only[sliceRange_one,pick_run,u_]<;>rfl
def Pp(K:W_):V->Option Int->Option Int->Hp->VK->Prop:=λx lo hi H Q=>∃a xs,x=.ref a/\di K H a xs/\∀p,H p=none->Q (.ref p) (upd H p (.lst (yq xs lo hi)))
theorem Eh:Rc X (Pp X.K):=by
 intro pins s σ H x v vl vu lo hi sl Q I rx hs pl pu h;obtain⟨a,xs,rfl,hx,q⟩:=h;cases rx;obtain⟨aQ,r,ht,hz⟩:=I.list hx;have hlen:=r.length;refine⟨"list",_,Vy.lookup,ht.isList.typeIs,?_⟩;refine Vg ht.isList hs pl pu .none (by simp) ?_ (by rw[u_]<;>omega);rw[oz,<- hlen];refine⟨.ref s.heap.objs.size,_,I.laid (t':=s.toks) (o:=.lst (yq xs lo hi)) (λb ob q=>e_ _ q) (h_ _) ?_,rfl,q _ (I.hok.fresh (h_ _))⟩;exact⟨B_ (tR xs lo hi) hz,_,0,(r.drop (HT.oU xs.length 0 lo)).take (HT.oU xs.length xs.length hi-HT.oU xs.length 0 lo),n_ _ rfl⟩
theorem qV:dD X (.builtin "len") (λxs H Q=>∃p ys,xs=[.ref p]/\(di X.K H p ys\/cy X.K H p ys)/\Q (.int ys.length) H):=by
 intro pins s σ H xs us Q I r h;obtain⟨p,ys,rfl,hq,q⟩:=h;obtain⟨u,rfl,rx⟩:=vals1 r;cases rx;have hn:=mM;rcases hq with hq | hq
 .obtain⟨aQ,r',pl,hz⟩:=I.list hq;have hlen:=r'.length;exact Calls.call_len_list pl.isList (by simp only[u_]<;>omega) ⟨.int ys.length,H,I.tok _,⟨s.toks+1,by rw[u_,hlen]⟩,q⟩
 .obtain⟨aQ,r',pl,hz⟩:=I.tuple hq;have hlen:=r'.length;exact len_tuple pl (by simp only[u_]<;>omega) ⟨.int ys.length,H,I.tok _,⟨s.toks+1,by rw[u_,hlen]⟩,q⟩
theorem n8:dD X (.type "tuple") (λxs H Q=>∃p ys,xs=[.ref p]/\((di X.K H p ys/\∀l,H l=none->Q (.ref l) (upd H l (.tup ys)))\/(cy X.K H p ys/\Q (.ref p) H))):=by
 intro pins s σ H xs us Q I r h;obtain⟨p,ys,rfl,h⟩:=h;obtain⟨u,rfl,rx⟩:=vals1 r;cases rx;rcases h with ⟨hq,q⟩ | ⟨hq,q⟩
 .obtain⟨aQ,r',pl,hz⟩:=I.list hq;have hlen:=r'.length;refine call_tuple_list pl.isList (λh' kp=>?_) (by simp only[u_]<;>omega);have I1:Inv X pins σ H {s with heap:=h'}:=I.kept (t':=s.toks) kp;have I2:Inv X pins σ (upd H h'.objs.size (.tup ys)) {s with heap:=h'.push {cls:=.type "tuple",data:=.seq aQ.toArray}}:=
   I1.laid (t':=s.toks) (λb o e=>e_ _ e) (h_ _) (show aU X.prog X.w _ _ _ (.tup ys)from⟨hz,aQ,r',IsTup.new _ _⟩)
  exact⟨.ref h'.objs.size,_,I2,rfl,q _ (I1.hok.fresh (h_ _))⟩
 .obtain⟨aQ,r',pl,hz⟩:=I.tuple hq;exact call_tuple_same pl ⟨.ref p,H,I,rfl,q⟩
def O2(K:W_)(T:String)(x:V)(H:Hp):Prop:=match x with
 | .str _=>T="str"
 | .int _=>T="int"
 | .ref p=>(T="list"/\∃xs,di K H p xs)\/(T="tuple"/\∃o,K.lookup p=some o/\o.cls=.type "tuple"/\o.dict=none)\/
   (T="dict"/\((∃kvs,H p=some (.dK kvs))\/∃kvs,H p=some (.dT kvs)))\/(T="set"/\∃S n,H p=some (.set S n))
 | _=>False
theorem A3{pins:WU}{σ:St}{H:Hp}{s:Xb}{T:String}{x:V}{v:Xa}(I:Inv X pins σ H s)(r:RelV x v)(ty:O2 X.K T x H) :
  s.TypeIs v T/\∀a,v=.ref a->∃ob,s.heap.get? a=some ob/\ob.dict=none:=by
 cases x with
 | str z=>
  obtain⟨t,rfl⟩:=r;cases(show T="str" from ty);exact⟨typeIs_str s z t,λ_ e=>nomatch e⟩
 | int i=>
  obtain⟨t,rfl⟩:=r;cases(show T="int" from ty);exact⟨typeIs_int s i t,λ_ e=>nomatch e⟩
 | ref p=>
  cases r;rcases ty with ⟨rfl,xs,hq⟩ | ⟨rfl,o,hk,hc,hd⟩ | ⟨rfl,hk⟩ | ⟨rfl,S,n,hk⟩
  .obtain⟨aQ,_,pl,_⟩:=I.list hq;refine⟨pl.isList.typeIs,λa e=>?_⟩;cases e;obtain⟨o,n,e,c,hd,_⟩:=pl;exact⟨o,e,hd⟩
  .refine⟨⟨o,I.kIn p o hk,hc⟩,λa e=>?_⟩;cases e;exact⟨o,I.kIn _ o hk,hd⟩
  .have z:∃o,s.heap.get? p=some o/\o.ExactDict:=by
    rcases hk with ⟨kvs,hk⟩ | ⟨kvs,hk⟩
    .obtain⟨_,_,_,_,o,_,_,e,ex,_⟩:=I.hok p _ hk;exact⟨o,e,ex⟩
    .obtain⟨_,_,_,_,o,_,_,e,ex,_⟩:=I.hok p _ hk;exact⟨o,e,ex⟩
   obtain⟨o,e,ex⟩:=z;refine⟨⟨o,e,ex.1⟩,λa e2=>?_⟩;cases e2;exact⟨o,e,ex.2.1⟩
  .obtain⟨o,_,_,_,e,ex,_⟩:=I.hok p _ hk;refine⟨⟨o,e,ex.1⟩,λa e2=>?_⟩;cases e2;exact⟨o,e,ex.2.1⟩
 | _=>exact False.elim ty
def Pj(K:W_)(T:String)(r:V->Xs->Hp->VK->Prop)(to:TE):TE:=λσ H Q=>to σ H λx H1=>O2 K T x H1/\r x [] H1 Q
def R9(K:W_)(T:String)(r:V->Xs->Hp->VK->Prop)(to:TE)(t:TA):TE:=λσ H Q=>to σ H λx H1=>O2 K T x H1/\t σ H1 λxs H2=>r x xs H2 Q
variable {o e:Xk}{es:W5}{to:TE}{t:TA}{name:Str}{apos be:Pos}{T id:String}{r:V->Xs->Hp->VK->Prop}
theorem Kh(pa:PlainAttrs T)(slot:Slot T name id)(P8:typeOf (.builtin id)=pure (.type "method_descriptor"))(hm:OX X id r)(ho:PE X o to)
  (jK:attributeBase o name X.env (eval o X.env)=eval o X.env:=by rfl) (jL:(apos.endLine==be.line)=true:=by rfl):PE X (.Call (.Attribute o name apos) [] [] be) (Pj X.K T r to):=by
 intro pins s σ H Q I h;refine wpAny_Call_method0_late jK jL (aZ (ho pins s σ H _ I h) λv s1 ⟨x,H1,I1,r1,ty,q1⟩=>?_);obtain⟨h1,h2⟩:=A3 I1 r1 ty;exact⟨T,id,pa,slot,P8,h1,h2,UQ rfl (PySem.evalArgs_none (hm pins s1 σ H1 x [] v [] Q I1 r1 .nil q1))⟩
theorem GO(pa:PlainAttrs T)(slot:Slot T name id)(P8:typeOf (.builtin id)=pure (.type "method_descriptor"))(hm:OX X id r)(ho:PE X o to)(ha:PA X (e::es) t)
  (jK:attributeBase o name X.env (eval o X.env)=eval o X.env:=by rfl)
  (CU:((backTo be (starEach (e::es) X.env)).all (λx=>!x.1)&&(backToKw be (keywordEach [] X.env)).all (λx=>x.1.isSome)
   && decide ((e::es).length+([]:List Keyword).length+(if([]:List Keyword).isEmpty then 0 else 1)<30))=true:=by rfl)
  (jL:(apos.endLine==be.line)=true:=by rfl) (hs:starEach (e::es) X.env=(false,eval e X.env)::starEach es X.env:=by rfl) (hplain:(backTo be (starEach es X.env)).any (·.1)=false:=by rfl) :
  PE X (.Call (.Attribute o name apos) (e::es) [] be) (R9 X.K T r to t):=by
 intro pins s σ H Q I h;refine wpAny_Call_method_late jK CU jL rfl (aZ (ho pins s σ H _ I h) λv s1 ⟨x,H1,I1,r1,ty,q1⟩=>?_);obtain⟨h1,h2⟩:=A3 I1 r1 ty;refine⟨T,id,pa,slot,P8,h1,h2,?_⟩;have hA:=ha be pins s1 σ H1 _ I1 q1;rw[hs]at hA ⊢;refine UQ (by show(false||(backTo be (starEach es X.env)).any (·.1))=false;rw[hplain]<;>rfl) (VW ?_);exact aZ hA λus s2 ⟨vs,H2,I2,r2,q2⟩=>hm pins s2 σ H2 x vs v us Q I2 r1 r2 q2
end
def Q0(X:Cx)(id:String)(r:V->Xs->Hp->VK->Prop):Prop:=
 ∀(pins:WU)(s:Xb)(σ:St)(H:Hp)(x:V)(xs:Xs)(v:Xa)(us:W0)(Q:VK),Inv X pins σ H s->RelV x v->av xs us->r x xs H Q->
  wpAny (model X.prog X.w) X.A (call (.builtin id) (v::us)) (EP X pins σ Q) X.xe s
theorem av.one:∀{x:V}{us:W0},av [x] us->∃u,us=[u]/\RelV x u
 | _,_,.cons r .nil=>⟨_,rfl,r⟩
theorem av.two:∀{x y:V}{us:W0},av [x,y] us->∃u v,us=[u,v]/\RelV x u/\RelV y v
 | _,_,_,.cons r (.cons q .nil)=>⟨_,_,rfl,r,q⟩
theorem av.rep{xs:Xs}{us:W0}(h:av xs us):∀k:Nat,av (List.replicate k xs).flatten (List.replicate k us).flatten
 | 0=>.nil
 | k+1=>by
  rw[S5,S5,TF,TF];exact av.append h (av.rep h k)
theorem foldl_rep(aQ:W0):∀(k:Nat)(acc:W0),
  List.foldl (λx1 x2=>x1++x2) acc.toArray (List.replicate k aQ.toArray)=(acc++(List.replicate k aQ).flatten).toArray
 | 0,acc=>by simp
 | k+1,acc=>by
  have e:acc.toArray++aQ.toArray=(acc++aQ).toArray:=by simp
  have e2:(acc++aQ)++(List.replicate k aQ).flatten=acc++(List.replicate (k+1) aQ).flatten:=by
   rw[S5,TF,T4]
  rw[<- e2,<- foldl_rep aQ k (acc++aQ),<- e,S5,Vi]
section
variable {X:Cx}{pins:WU}{σ:St}{H:Hp}{s:Xb}{l b:Xj}{xs ys zs:Xs}
theorem Inv.lset{aQ its':W0}{n:Nat}{f:Array Xa->Array Xa}{t':Nat}(I:Inv X pins σ H s)(hH:H l=some (.lst xs))
  (e:s.heap.get? l=some {cls:=.type "list",data:=.seq aQ.toArray n}) (hf:f aQ.toArray=its'.toArray) (hv:av ys its') (hz:ys.length<=sizeLine) :
  Inv X pins σ (upd H l (.lst ys)) {s with heap:=s.heap.update l (Obj.mapSeq f),toks:=t'}:=by
 have q:=PySem.IsL.update e f;rw[hf]at q;refine I.write (x:=l) (e:=l) (by rw[hH];exact trivial) (.inl rfl) (λb' u hb hu=>(SE s.heap (Obj.mapSeq f) (Tj hb)).trans hu) ⟨_,q⟩ ?_;exact⟨hz,its',_,hv,q⟩
theorem Inv.lnew{aQ:W0}{t':Nat}(I:Inv X pins σ H s)(hv:av ys aQ)(hz:ys.length<=sizeLine) :
  Inv X pins σ (upd H s.heap.objs.size (.lst ys)) {s with heap:=s.heap.push {cls:=.type "list",data:=.seq aQ.toArray},toks:=t'}:=
 I.laid (λ_ _ q=>e_ _ q) (h_ _) ⟨hz,aQ,0,hv,n_ _ rfl⟩
theorem Inv.fresh(I:Inv X pins σ H s):H s.heap.objs.size=none:=I.hok.fresh (h_ _)
theorem Inv.lstM(I:Inv X pins σ H s)(hH:H l=some (.lst xs)):xs.length<=sizeLine/\∃(aQ:W0)(n:Nat),av xs aQ/\xs.length=aQ.length/\s.heap.get? l=some {cls:=.type "list",data:=.seq aQ.toArray n}:=by
 obtain⟨z,aQ,n,r,e⟩:=I.hok l _ hH;exact⟨z,aQ,n,r,r.length,e⟩
theorem CD{n:Nat}(h:n<=sizeLine):Builtin.List.listTooLong n=false:=by
 unfold Builtin.List.listTooLong;exact E_ (by omega)
end
section
variable {X:Cx}
def rAppend:V->Xs->Hp->VK->Prop:=λx vs H Q=>∃l xs y,x=.ref l/\vs=[y]/\H l=some (.lst xs)/\xs.length<sizeLine/\Q .non (upd H l (.lst (xs++[y])))
theorem pY:Q0 X "list.append" rAppend:=by
 intro pins s σ H x vs v us Q I rx rv h;obtain⟨l,xs,y,rfl,rfl,hH,hz,q⟩:=h;cases rx;obtain⟨u,rfl,ru⟩:=rv.one;obtain⟨z,aQ,n,r,hl,e⟩:=I.lstM hH;refine call_meets F.slot_list_append ⟨_,e,rfl⟩ F.entry_list_append (F.args_list_append_2 _ _) (PySem.list_append l aQ.toArray n u (by rw[u_];omega)) ⟨e,?_⟩;refine⟨.non,_,I.lset (its':=aQ++[u]) hH e (by simp) (r.append (.cons ru .nil)) ?_,rfl,q⟩;rw[r_,Uo];omega
def rCat:R2:=λx y H Q=>∃l b xs zs,x=.ref l/\y=.ref b/\H l=some (.lst xs)/\H b=some (.lst zs)/\xs.length+zs.length<=sizeLine/\∀p,H p=none->Q (.ref p) (upd H p (.lst (xs++zs)))
theorem JC:gy X (binaryOp .Add) rCat:=by
 intro pins s σ H x y v u Q I rx ry h;obtain⟨l,b,xs,zs,rfl,rfl,hH,hB,hz,q⟩:=h;cases rx;cases ry;obtain⟨z,aQ,n,r,hl,e⟩:=I.lstM hH;obtain⟨z2,v7,n2,r2,P5,e2⟩:=I.lstM hB;refine PySem.P.add_list e e2 ?_ (by rw[u_,u_];omega);have ea:aQ.toArray++v7.toArray=(aQ++v7).toArray:=by simp
 rw[ea];exact⟨.ref _,_,I.lnew (t':=s.toks) (r.append r2) (by rw[r_];omega),rfl,q _ I.fresh⟩
def rRep:R2:=λx y H Q=>∃l k xs,x=.ref l/\y=.int k/\H l=some (.lst xs)/\-(2 ^ 63)<=k/\k<2 ^ 63/\xs.length*k.toNat<=sizeLine/\
 ∀p,H p=none->Q (.ref p) (upd H p (.lst (List.replicate k.toNat xs).flatten))
theorem len_rep{α:Type}(xs:List α)(k:Nat):(List.replicate k xs).flatten.length=k*xs.length:=by
 induction k with
 | zero=>simp
 | succ k ih=>rw[S5,TF,r_,ih,Nat.succ_mul,Wf]
theorem J9:gy X (binaryOp .Mult) rRep:=by
 intro pins s σ H x y v u Q I rx ry h;obtain⟨l,k,xs,rfl,rfl,hH,h1,h2,hz,q⟩:=h;cases rx;obtain⟨t,rfl⟩:=ry;obtain⟨z,aQ,n,r,hl,e⟩:=I.lstM hH;have hlen:aQ.toArray.size*k.toNat<=sizeLine:=by rw[u_,<- hl];exact hz
 have eT:¬aQ.toArray.size*k.toNat>(2 ^ 63-1)/8:=by
  have:(sizeLine:Nat)<=(2 ^ 63-1)/8:=by decide
  omega
 have hfit:¬(!Builtin.List.listFitsIndex k)=true:=by
  rw[fitsIndex_both h1 h2];exact P_
 have hlong:¬Builtin.List.listTooLong (aQ.toArray.size*k.toNat)=true:=by
  rw[CD hlen];exact P_
 have hnew:List.foldl (λx1 x2=>x1++x2) #[] (List.replicate (if aQ.toArray.isEmpty=true then 0 else k.toNat) aQ.toArray)=(List.replicate k.toNat aQ).flatten.toArray:=by
  have f0:∀m:Nat,List.foldl (λx1 x2=>x1++x2) #[] (List.replicate m aQ.toArray)=(List.replicate m aQ).flatten.toArray:=λm=>by
   have:=foldl_rep aQ m [];rw[Uw]at this;exact this
  rw[f0];cases aQ with
  | nil=>simp
  | cons a r'=>rw[k_ (by simp)]
 refine wpAny_binaryOp_repeat_ref (T:="list") (U:="int") (by decide) ⟨_,e,rfl⟩ (λs'=>typeIs_int s' k t) noFill_list_mul F.fills_int_mul F.slot_int_rmul repeat_list F.slot_int_index.lookup
  (call_meets F.slot_int_rmul (typeIs_int s k t) F.entry_int_rmul (F.args_int_rmul_2 _ _) (int___rmul___int_list k t l aQ.toArray n)
   ⟨e,rfl,⟨_,e,rfl⟩,call_meets F.slot_list_mul ⟨_,e,rfl⟩ F.entry_list_mul (F.args_list_mul_2 _ _) (AutoListH.list___mul___list_int_3 l aQ.toArray n k t hfit eT hlong) ⟨e,?_⟩⟩)
 rw[hnew];exact⟨.ref _,_,I.lnew (t':=s.toks) (r.rep k.toNat) (by rw[len_rep,Vt];exact hz),rfl,q _ I.fresh⟩
end
section
variable {prog:Xd}{w:Xg}{A:Xe}{E:WT}{s:Xb}
end
section
variable {X:Cx}
end
end L2
namespace Att
open PySem PySem.W PySem.Calls PyProof.Rows
theorem lh{P:Params}{h:Xf}:∀(ns:W8)(vs:W0),WellAll P h vs (ns.map WData.int)->IntsAre vs ns:=by
 intro ns
 induction ns with
 | nil=>
  intro vs w;rw[Vv]at w;cases w;exact .nil
 | cons n ns ih=>
  intro vs w;rw[L_]at w;cases w with
  | cons a b=>
   cases a;exact .cons _ _ (ih _ b)
theorem ym{l:OpenLaw}{n:Nat}(hn:l.most=some n){P:Params}{h:Xf}{args:List WData}{vals:W0}
  (oE:l.row.toRowW.claim.pre args=true) (P9:WellAll P h vals args) :
  ∃a vs ns,vals=[Value.ref a]/\args=[WData.list (ns.map WData.int)]/\h.get? a=some {cls:=.type "list",data:=.seq vs.toArray}/\IntsAre vs ns/\ns.length<=n:=by
 have hsh:WShape.hasAll [] args [.list .int]=true:=(pre_splitW oE).1;have hc:l.pre.holds [] {args:=args}=true:=(pre_splitW oE).2;obtain⟨d,r,rfl,h1,h2⟩:=hasAllW_cons hsh;obtain rfl:=hasAllW_nil h2;obtain⟨xs,rfl,h3⟩:=hasW_list h1;obtain⟨ns,rfl⟩:=items_int h3;have hlen:ns.length<=n:=by
  unfold OpenLaw.pre at hc;have h4:(WTm.not (.lt (.lit (.int (n:Int))) (.len (.arg 0)))).holds [] {args:=[.list (ns.map .int)]}=true:=by
   have h4:=(holds_andW hc).1;rw[hn]at h4;exact h4
  have h5:=condW_of h4 (w_not (w_lt w_lit (w_len_list (w_arg rfl))));rw[c_]at h5;refine Tb λq=>?_;have q':(n:Int)<((ns.length:Nat):Int):=by omega
  first
   | (rw[w_ q']at h5;exact absurd h5 (by decide))
   | (simp at h5;omega)
 cases P9 with
 | cons w1 w2=>
  cases w2;cases w1 with
  | list ho gW=>exact⟨_,_,ns,rfl,rfl,ho,lh ns _ gW,hlen⟩
theorem yK(l:OpenLaw)(args:List WData):l.row.toRowW.claim.post args (.bool true) args=true:=
 postW_of (r:=l.row.toRowW) (X:=(true==true))
  (show WShape.has [] (.bool true) .bool=true by first | rfl | decide | simp[WShape.has,WShape.arms,WShape.armsAll])
  (show(WTm.eq .res (.lit (.bool true))).value [] {args:=args,res:=some (.bool true),after:=args}=some (.bool (true==true))from w_eq_bool (w_res rfl) w_lit) rfl
theorem sX{l:OpenLaw}{n:Nat}{q:Xd}{loose:W3}{XP:WW->Xf->Prop}{YP:Xg->Xf->Prop}{d:DefRec}
  (hn:l.most=some n) (NH:d.params.defaults=[])
  (call:∀(w:Xg)(s₀ s₁:Xb)(mg mb:WW)(fa:Xj)(o:Obj)(pm cd doc:Xa)(a:Xj)(vs:W0)(ns:W8),
   Ground q loose [] XP w s₀ mg mb s₁.heap->YP w s₁.heap->
   s₁.heap.get? fa=some o->o.data=.func (docDef d.name d.params d.body d.scope pm cd doc)->s₁.heap.CodeRec cd d.name->mg d.name=some (.ref fa)->
   s₁.heap.get? a=some {cls:=.type "list",data:=.seq vs.toArray}->IntsAre vs ns->ns.length<=n->s₁.gens=#[]->
   codeAny (model l.prog w) callerA (.call (.ref fa) ⟨[.ref a],[]⟩) (λr s'=>r=.ok (.ret (.bool true))/\OldK s₁.heap s'.heap/\s'.os=s₁.os/\AllBare s'.gens) s₁) :
  WalkO q loose XP YP l.row.toRowW d [] (λf vs=>PySem.call f vs):=by
 intro w s₀ s₁ mg mb G Y fa o pm cd doc dV kV ho hd dQ hD hmg hg args vals as oE hlay hrd P9 Qb;obtain rfl:dV=.none:=Dflts.none hD NH;obtain rfl:kV=.none:=Dflts.noKw hD;obtain⟨a,vs,ns,rfl,rfl,Kp,hints,hlen⟩:=ym hn oE P9;refine enter_call (U9 (call w s₀ s₁ mg mb fa o pm cd doc a vs ns G Y ho (fd_plain hd) dQ hmg Kp hints hlen hg) λr s' hq=>?_);obtain⟨rfl,h2,h3,h4⟩:=hq;exact⟨.inl ⟨.bool true,.bool true,[],rfl,λ_=>rfl,.bool true,yK l _,λ_=>⟨List.Pairwise.nil,λ_ hm=>(nomatch hm)⟩⟩,h2,h3,h4⟩
section
variable {prog:Xd}{w:Xg}{A:Xe}{E:WT}{s:Xb}{K:Frag}
end
end Att
namespace L2
open PySem PySem.Spec PyProof.Rows
theorem fg:∀{vs:W0}{ns:W8},IntsAre vs ns->av (ns.map V.int) vs
 | _,_,.nil=>.nil
 | _,_,.cons n t h=>.cons ⟨t,rfl⟩ (fg h)
def Jf(H:Hp):Prop:=∀b,H b=none\/(∃o xs,H b=some (.frz o (.lst xs)))\/∃q,H b=some (.tab q)
theorem Cy{P:Xd}{w:Xg}{K:W_}{mg mb:WW}{CX:CXT}{k:Nat}{fa a:Xj}{fd:Xh}{x:Str}{sp:Sp}{s₁:Xb}{vs:W0}{ns:W8}
  (KX:K.In s₁.heap) (zK:s₁.heap.Ns mainGlobals mg) (hb:s₁.heap.Ns builtinsNs mb) (Qc:∀x:Str,x≠"__name__"->mb x=bootBuiltins x) (hlim:s₁.heap.NoLimit) (hg:s₁.gens=#[])
  (hbm:∃bm o,mg "__builtins__"=some (.ref bm)/\bm≠builtinsNs/\s₁.heap.get? bm=some o/\o.cls=.type "module"/\o.dict=some builtinsNs/\o.data=.plain)
  (hT:∀P q,tq K P=some q->(∃c,PySem.W.CodeHd s₁.heap c P)/\s₁.heap.get? P=some (PySem.W.tabObj #[])/\K.lookup P=none)
  (ha:s₁.heap.get? a=some {cls:=.type "list",data:=.seq vs.toArray}) (hi:IntsAre vs ns) (hl:ns.length<=sizeLine) (hr:a9 k callerA)
  (F:∀base:Xf,K.In base->base.Ns mainGlobals mg->dj P w K mg base CX k fa fd [x] sp) (hbind:∀(s:Xb)(u:Xa),BindsTo s fd ⟨[u],[]⟩ [(x,u)])
  (lT:∀H:Hp,Jf H->di K H a (ns.map V.int)->sp [.ref a] H (λv _=>v=.bl true) λ_ _ _=>False)
  (hCX:∀H e s',CX [] H s₁ (λ_ _ _=>False) e s'->False) :
  codeAny (model P w) callerA (.call (.ref fa) ⟨[.ref a],[]⟩) (λr s'=>r=.ok (.ret (.bool true))/\OldK s₁.heap s'.heap/\s'.os=s₁.os/\AllBare s'.gens) s₁:=by
 have rv:=fg hi;have lenV:=hi.length;have tqa:∀b q,tq K b=some q->b≠a:=λb q e z=>by
  have h:=(hT b q e).2.1;rw[z,ha]at h;cases h
 have core:∀G:Option HO,(G=none\/∃o xs,G=some (.frz o (.lst xs)))->(∀H:Hp,H a=G->di K H a (ns.map V.int))->(∀H o,G=some o->aU P w H s₁.heap a o)->(G≠none->K.lookup a=none)->
   codeAny (model P w) callerA (.call (.ref fa) ⟨[.ref a],[]⟩) (λr s'=>r=.ok (.ret (.bool true))/\OldK s₁.heap s'.heap/\s'.os=s₁.os/\AllBare s'.gens) s₁:=by
  intro G hG hS hok0 hK;generalize hH:(λb=>if b=a then G else(tq K b).map HO.tab:Hp)=H;have Ha:H a=G:=by rw[<- hH];exact j_ rfl
  have Hb:∀b,b≠a->H b=(tq K b).map HO.tab:=λb h=>by rw[<- hH];exact k_ h
  have Ht:∀b q,tq K b=some q->H b=some (.tab q):=λb q e=>by rw[Hb b (tqa b q e),e];rfl
  have Hs:∀b o,H b=some o->(b=a/\G=some o)\/∃q,tq K b=some q/\o=.tab q:=λb o e=>by
   by_cases h:b=a
   .exact .inl ⟨h,by rw[<- Ha,<- h];exact e⟩
   .rw[Hb b h]at e;obtain⟨q,e1,e2⟩:=D_.mp e;exact .inr ⟨q,e1,e2.symm⟩
  have hO:Jf H:=λb=>by
   cases e:H b with
   | none=>exact .inl rfl
   | some o=>
    rcases Hs b o e with ⟨_,z⟩ | ⟨q,_,z⟩
    .rcases hG with g | ⟨ob,xs,g⟩
     .rw[g]at z;cases z
     .rw[g]at z;cases z;exact .inr (.inl ⟨_,_,rfl⟩)
    .exact .inr (.inr ⟨q,by rw[z]⟩)
  have hok:k6 P w H s₁.heap:=λb o e=>by
   rcases Hs b o e with ⟨z,g⟩ | ⟨q,z,g⟩
   .subst z;exact hok0 H o g
   .subst g;exact⟨#[],(hT b q z).2.1,trivial,λpos v z=>by cases z⟩
  have rL:∀{b:Xj}{o:Obj},s₁.heap.get? b=some o->H b=none->(ql s₁.heap H).get? b=some o:=λe n=>Ar e n;have Dy:∀{b:Xj}{o:Obj},s₁.heap.get? b=some o->(∀xs n,o.data≠.seq xs n)->(∀xs,o.data≠.fields xs)->H b=none:=λ{b o} e d1 d2=>by
   cases q:H b with
   | none=>rfl
   | some u=>
    rcases Hs b u q with ⟨z,_⟩ | ⟨q,z,_⟩
    .subst z;rw[ha]at e;cases e;exact absurd rfl (d1 _ _)
    .have h:=(hT b q z).2.1;rw[h]at e;cases e;exact absurd rfl (d2 _)
  have Ox:∀{b:Xj}{m:WW},s₁.heap.Ns b m->(ql s₁.heap H).Ns b m:=λ{b m} ⟨o,es,ep,e,d,r⟩=>⟨o,es,ep,rL e (Dy e (λ_ _ z=>by rw[d]at z;cases z) λ_ z=>by rw[d]at z;cases z),d,r⟩;have Rj:K.In (ql s₁.heap H):=λb o e=>rL (KX b o e) (by
   cases q:H b with
   | none=>rfl
   | some u=>
    rcases Hs b u q with ⟨z,g⟩ | ⟨q,z,_⟩
    .subst z;rw[hK (by rw[g];simp)]at e;cases e
    .rw[(hT b q z).2.2]at e;cases e)
  have hM:Mod K mg (ql s₁.heap H):=by
   obtain⟨bm,o,b1,b2,b4,b5,b6,b7⟩:=hbm;refine⟨Rj,Ox zK,⟨mb,Ox hb,Qc⟩,let ⟨mc,h1,h2⟩:=hlim;⟨mc,Ox h1,h2⟩,bm,o,b1,b2,λz=>?_,rL b4 (Dy b4 (λ_ _ z=>by rw[b7]at z;cases z) λ_ z=>by rw[b7]at z;cases z),b5,b6,b7⟩;obtain⟨o',es,ep,e,hd,_⟩:=zK;rw[z,e]at b4;cases b4;rw[hd]at b7;cases b7
  have e0:uq P w K mg (ql s₁.heap H) callerA [] s₁ H:=⟨rfl,hM,λb o e=>FS e,Nat.le_of_eq (zx _ _),trivial,λb hb=>absurd (show b∈([]:W4)from hb) (by simp),hok,.of_eq hg,Ht⟩;refine U9 ((F _ Rj (Ox zK)).run callerA [] s₁ H ⟨[.ref a],[]⟩ [.ref a] [.ref a] _ _ hr e0 (hbind s₁ (.ref a)) (.cons rfl .nil) (lT H hO (hS H Ha))) λr s' h=>?_;cases r with
  | error e=>exact(hCX H e s' h).elim
  | ok fl=>
   cases fl with
   | next=>exact False.elim h
   | brk=>exact False.elim h
   | cont=>exact False.elim h
   | ret u=>
    obtain⟨v,H',os,bare,un,NI,r',q⟩:=h;have q':v=.bl true:=q;subst q';obtain rfl:u=Value.bool true:=r';have old:∀b o,s₁.heap.get? b=some o->s'.heap.get? b=some o\/∃q ps,tq K b=some q/\s'.heap.get? b=some (PySem.W.tabObj ps):=λb o e=>by
     cases q:H b with
     | none=>exact .inl (un.keep b o e q (by intro z;exact absurd (show b∈([]:W4)from z) (by simp)) (by simp))
     | some u=>
      rcases Hs b u q with ⟨_,z⟩ | ⟨qq,z,g⟩
      .rcases hG with g | ⟨ob,xs,g⟩
       .rw[g]at z;cases z
       .rw[g]at z;cases z;have z2:=un.frzs b ob _ q;obtain⟨e1,_⟩:=hok b _ q;obtain⟨e2,_⟩:=NI b _ z2;rw[e]at e1;cases e1;exact .inl e2
      .subst g;obtain⟨ps,e2,_⟩:=NI b _ (un.tbls b qq q);exact .inr ⟨qq,ps,z,e2⟩
    refine⟨rfl,⟨λb o e=>?_,λb o e=>?_⟩,os,bare⟩
    .rcases old b o e with z | ⟨q,ps,z,e2⟩
     .exact .inl z
     .obtain⟨⟨c,hc⟩,h2,_⟩:=hT b q z;rw[h2]at e;cases e;exact .inr (.inl ⟨(hc.tab h2).isCodeTable,rfl,#[],ps,rfl,by rw[Array.empty_append];exact e2⟩)
    .rcases old b o e with z | ⟨q,ps,z,e2⟩
     .exact⟨o,z⟩
     .exact⟨_,e2⟩
 cases hk:K.lookup a with
 | some o=>
  have e:=KX a o hk;rw[ha]at e;cases e;exact core none (.inl rfl) (λH _=>.inr ⟨_,vs.toArray,_,hk,rfl,rfl,rfl,by rw[u_,lenV];exact hl,by simpa using rv⟩) (λH o z=>by cases z) λz=>absurd rfl z
 | none=>
  refine core (some (.frz {cls:=.type "list",data:=.seq vs.toArray} (.lst (ns.map V.int)))) (.inr ⟨_,_,rfl⟩) (λH e=>.inl (.inr ⟨_,e⟩)) (λH o z=>?_) λ_=>hk;cases z;exact⟨ha,by rw[c_];exact hl,vs,_,rv,ha⟩
def bT(s:Xl):Arguments:=match s with
 | .FunctionDef _ a _ _ _ _ _ _ _ _=>a
 | _=>{posonlyargs:=[],args:=[],vararg:=none,kwonlyargs:=[],kw_defaults:=[],kwarg:=none,defaults:=[]}
def aT(s:Xl):W6:=match s with
 | .FunctionDef _ _ b _ _ _ _ _ _ _=>b
 | _=>[]
def ax(s:Xl):Xi:=match s with
 | .FunctionDef _ _ _ _ _ _ sc _ _ _=>sc
 | _=>{kind:=.function,names:=[],isGenerator:=false,isCoroutine:=false}
abbrev jR:CXT:=λ_ _ _ _ _ _=>False
abbrev E0:XK:=λ_ _ _=>False
theorem Nt{X:Cx}:vI jR X E0:=λ_ _ _ _ _ _ _ h=>h.elim
structure yb(K:PySem.W.Frag)(x qual:Str)(st:Stmt)(f:Addr)(fd:FuncData):Prop where
 ex:∃(oc:Value)(od:Option Addr)(kV doc pm:Value)(an:Option Addr)(bq ct:Value)(qb:Array (Option Value)),
  fd=PySem.W.fnOf x qual (bT st) (aT st) (ax st) .none kV doc pm an bq ct/\K.lookup f=some ⟨oc,od,.func fd,qb⟩/\PySem.W.codeIn K bq qual=true
 kp:PySem.W.keepIn K (.ref f)=true
section
variable {P:Xd}{w:Xg}{K:W_}{mg:WW}{base:Xf}
theorem yb.ok{x qual:Str}{st:Xl}{f:Xj}{fd:Xh}{N ps:W3}{k:Nat}{sp:Sp}(F:yb K x qual st f fd)(S:bC N ps (ax st))(len:∀vs H Q E,sp vs H Q E->vs.length=ps.length)
  (hbody:∀(bq:Xa)(A:Xe)(outer:List Env)(s:Xb)(H:Hp)(vs:Xs)(Q:VK)(E:XK),a9 k (A.deeper (envOfC qual (ax st) s.heap.objs.size f bq))->sp vs H Q E->
   ∃t,PSs (eO jR P w K mg base N qual (ax st) f bq A outer s H E).nox (aT st) t/\t {nx:=λ_ H'=>Q .non H',rt:=Q} (start N vs) H):dj P w K mg base jR (k+1) f fd ps sp:=by
 obtain⟨oc,od,kV,doc,pm,an,bq,ct,qb,rfl,lk,dQ⟩:=F.ex;refine xI lk dQ S len λA outer s H vs Q E hr lT=>?_;obtain⟨t,h,q⟩:=hbody bq A outer s H vs Q E hr lT;exact⟨t,h.nox,q⟩
theorem yb.binds{x qual:Str}{st:Xl}{f:Xj}{fd:Xh}{ps:W3}(F:yb K x qual st f fd)
  (h:∀(kV doc pm:Xa)(an:W2)(bq ct:Xa)(us:W0),us.length=ps.length->bindArgs (PySem.W.fnOf x qual (bT st) (aT st) (ax st) .none kV doc pm an bq ct) ⟨us,[]⟩=pure (ps.zip us)):Binds K fd ps []:=by
 obtain⟨oc,od,kV,doc,pm,an,bq,ct,qb,rfl,lk,dQ⟩:=F.ex;exact .all (h kV doc pm an bq ct)
theorem Ax{x qual:Str}{st:Xl}{f:Xj}{oc:Xa}{od an:W2}{qb:WV}{kV doc pm bq ct:Xa}(l:K.lookup f=some ⟨oc,od,.func (PySem.W.fnOf x qual (bT st) (aT st) (ax st) .none kV doc pm an bq ct),qb⟩)
  (c:PySem.W.codeIn K bq qual=true) (k:PySem.W.keepIn K (.ref f)=true):yb K x qual st f (PySem.W.fnOf x qual (bT st) (aT st) (ax st) .none kV doc pm an bq ct):=⟨⟨oc,od,kV,doc,pm,an,bq,ct,qb,rfl,l,c⟩,k⟩
end
theorem AL{A:Xe}{k:Nat}(hr:a9 k A):A.units+1<cLine:=UR (Nat.add_le_add_left (by decide:1<=64) _) hr.units
theorem oN{n:Nat}(h:n<=1000):n<sizeLine:=UR h (by decide)
section
variable {X:Cx}
end
theorem yO{A B:Prop}(h:B):if false=true then A else B:=by
 rw[k_ P_];exact h
theorem zC{A B:Prop}(h:A):if true=true then A else B:=by
 rw[j_ rfl];exact h
def aH(H H':Hp):Prop:=∀b o,H b=some o->H' b=some o
theorem aH.refl(H:Hp):aH H H:=λ_ _ h=>h
theorem aH.trans{H H1 H2:Hp}(a:aH H H1)(b:aH H1 H2):aH H H2:=λc o h=>b c o (a c o h)
theorem aH.free{H H':Hp}(e:aH H H'){l:Xj}(h:H' l=Option.none):H l=Option.none:=by
 cases q:H l with
 | none=>rfl
 | some o=>
  rw[e l o q]at h;cases h
theorem aH.seq{K:W_}{H H':Hp}{a:Xj}{xs:Xs}(e:aH H H')(h:di K H a xs):di K H' a xs:=by
 rcases h with (h | ⟨o,h⟩) | h
 .exact .inl (.inl (e _ _ h))
 .exact .inl (.inr ⟨o,e _ _ h⟩)
 .exact .inr h
section
variable {κ:Type}[DecidableEq κ]
end
theorem Cr{P:Xd}{w:Xg}{k:Key}{u:Xa}(r:RelV (kV k) u):(aA P w).is k u=true:=by
 cases k with
 | inl i=>obtain⟨t,e⟩:=(show ∃t,u=Value.int i t from r);subst e;exact sO P w i t
 | inr x=>obtain⟨t,e⟩:=(show ∃t,u=Value.str x t from r);subst e;exact ub P w x t
theorem jP{P:Xd}{w:Xg}:∀{ks:Xn}{us:W0},av (ks.map kV) us->ItemsAre (aA P w) ks us
 | [],_,r=>by rw[Vv]at r;cases r;exact .nil
 | k::ks,_,r=>by
  rw[L_]at r;cases r with
  | cons h t=>exact .cons (Cr h) (jP t)
section
variable {P:Xd}{w:Xg}{H:Hp}{h:Xf}{a:Xj}
end
section
variable {X:Cx}{pins:WU}{σ:St}{H:Hp}{s:Xb}{a:Xj}{y v:V}{u r:Xa}{o:Option V}{A:Xe}{E:WT}
theorem Inv.big(I:Inv X pins σ H s):sysModules<s.heap.objs.size:=by
 have h:mainGlobals<s.heap.objs.size:=(I.mod.glob.keeps I.bk).lt;exact Vu (by decide) h
end
section
variable {X:Cx}{pins:WU}{σ:St}{H:Hp}{s:Xb}{a:Xj}{kvs:List (Key×V)}{k:Key}{u:Xa}{A:Xe}{E:WT}
end
def AU(i:Xk):Prop:=∀ov iv,subscripted i false ov iv=operate [ov,iv] (getItem ov iv)
theorem xA{prog:Xd}{w:Xg}{A:Xe}{E:WT}{s:Xb}{env:Env}{value slice:Xk}{pos:Pos}{T id:String}{Q:WT}
  (hl:typeLookup (.type T) "__getitem__"=pure (some (.builtin id))) (hs:AU slice)
  (h:wpAny (model prog w) A (eval value env) (λo s₁=>wpAny (model prog w) A (eval slice env) (λi s₂=>s₂.TypeIs o T/\wpAny (model prog w) A (getItem o i) Q E s₂) E s₁) E s) :
  wpAny (model prog w) A (eval (.Subscript value slice pos) env) Q E s:=by
 refine Subscript_ (SI h (λo s₁ h₁=>SI h₁ (λi s₂ h₂=>?_) λ_ _ x=>x) λ_ _ x=>x);obtain⟨hT,h₂⟩:=h₂;unfold subscriptTail;refine a_ ?_;rw[getitemInPython_of_ne hT.not_modules];refine a_ (TK hT hl ?_);have fin:wpAny (model prog w) A (subscripted slice false o i) (λr s₃=>wpAny (model prog w) A (letTemporaryGo value o r >>= λ_=>pure r) Q E s₃) E s₂:=by
  rw[hs o i];exact wpAny_operating (SI h₂ (λr s₃ h₃=>a_ (wpAny_letTemporaryGo (d_ h₃))) λ_ _ x=>x)
 first
  | exact d_ (a_ fin)
  | exact a_ (d_ (a_ fin))
  | exact a_ fin
section
variable {X:Cx}{o i e value:Xk}{pos pos' tpos:Pos}{td ty tv:TE}
end
section
variable {X:Cx}{pos:Pos}
end
structure M1(X:Cx)(o:Expr)(m:Str)(apos:Pos)(e:Expr)(be:Pos):Prop where
 base:attributeBase o m X.env (eval o X.env)=eval o X.env
 few:((backTo be (starEach [e] X.env)).all (λx=>!x.1)&&(backToKw be (keywordEach [] X.env)).all (λx=>x.1.isSome)
  && decide (([e]:List Expr).length+([]:List Keyword).length+(if([]:List Keyword).isEmpty then 0 else 1)<30))=true
 line:(apos.endLine==be.line)=true
 trees:backTo be (starEach [e] X.env)=[(false,eval e X.env)]
structure M2(X:Cx)(o:Expr)(m:Str)(apos:Pos)(e f:Expr)(be:Pos):Prop where
 base:attributeBase o m X.env (eval o X.env)=eval o X.env
 few:((backTo be (starEach [e,f] X.env)).all (λx=>!x.1)&&(backToKw be (keywordEach [] X.env)).all (λx=>x.1.isSome)
  && decide (([e,f]:List Expr).length+([]:List Keyword).length+(if([]:List Keyword).isEmpty then 0 else 1)<30))=true
 line:(apos.endLine==be.line)=true
 trees:backTo be (starEach [e,f] X.env)=[(false,eval e X.env),(false,eval f X.env)]
def P2(H:Hp)(a:Xj):Prop:=(∃kvs,Rd H a (.dK kvs))\/∃kvs,Rd H a (.dT kvs)
section
variable {X:Cx}{pins:WU}{σ:St}{H:Hp}{s:Xb}{a:Xj}{y d:V}{u r:Xa}{o:Option V}{A:Xe}{E:WT}
end
section
variable {X:Cx}{o e f:Xk}{apos be:Pos}{td ty tx:TE}
end
section
variable {X:Cx}{pins:WU}{σ:St}{H:Hp}{s:Xb}{a:Xj}{kvs:List (Key×V)}{A:Xe}{E:WT}
end
section
variable {X:Cx}{pins:WU}{σ:St}{H:Hp}{s:Xb}{a:Xj}{y:V}{u:Xa}{A:Xe}{E:WT}
end
end L2
namespace St
open PySem L2
theorem Em(n:Nat)(h:carriedByValue v=true):ofAClassStatement n v=pure false:=by
 cases v with
 | ref a=>simp[carriedByValue]at h
 | _=>first | rfl | (unfold ofAClassStatement;rfl) | (cases n<;>rfl)
theorem EL(n:Nat)(h:ik k v=true):∃b,hashByValue n v=pure b:=by
 rcases aW h with ⟨i,t,rfl,rfl⟩ | ⟨x,t,rfl,rfl⟩
 .exact⟨true,by cases n<;>simp[hashByValue]⟩
 .exact⟨false,by cases n<;>simp[hashByValue]⟩
theorem Av:SK (tupleKind (aA prog w)) where
 cls:=λ{A E s k a Q} hk h=>by
  have hT:s.TypeIs (.ref a) "tuple":=IsTupleKey.typeIs hk;obtain⟨o,items,n,ho,_,hd,hi⟩:=hk;unfold ofAClassStatement;refine a_ (wpAny_typeOf hT ?_);dsimp only;simp only[VO,Up];refine a_ (d_ ?_);simp only[Tz,x_,SV];refine a_ (TH ho hd ?_);dsimp only;refine a_ ?_;rw[<- Uj];refine Tt _ (λrest r s'=>r.1=none/\s'=s/\∀v∈rest,carriedByValue v=true) _ ?_ ?_ _ _ ⟨rfl,rfl,hi.byValue⟩
  .rintro v rest r s' ⟨hr,rfl,gW⟩;rw[Em _ (gW v o_)];refine a_ (d_ ?_);simp only[x_,SV];exact d_ ⟨rfl,rfl,λu Hq=>gW u (l_ _ Hq)⟩
  .rintro⟨r1,r2⟩ s' ⟨hr,rfl,_⟩;simp only at hr;subst hr;exact d_ h
 hbv:=λ{A E s k a Q} hk h=>by
  have hT:s.TypeIs (.ref a) "tuple":=IsTupleKey.typeIs hk;obtain⟨o,items,n,ho,_,hd,hi⟩:=hk;unfold hashByValue;refine a_ (TK hT Ux.lookup ?_);dsimp only;refine a_ (TH ho hd ?_);refine a_ ?_;show wpAny _ _ (forIn items _ _) _ _ s;rw[<- Uj];refine Tt _ (λrest r s'=>r.1=none/\s'=s/\∃ks,ItemsAre (aA prog w) ks rest) _ ?_ ?_ _ _ ⟨rfl,rfl,_,hi⟩
  .rintro v rest r s' ⟨hr,rfl,ks,NJ⟩;cases NJ with
   | cons h1 rK=>
    obtain⟨b,hb⟩:=EL 7 h1;rw[hb];refine a_ (d_ ?_);cases b with
    | true=>
     simp only[Tz,x_,SV];exact d_ ⟨rfl,rfl,_,rK⟩
    | false=>
     simp only[Bool.not_false,Up];exact d_ (d_ (h _))
  .rintro⟨r1,r2⟩ s' ⟨hr,rfl,_⟩;simp only at hr;subst hr;exact d_ (h _)
def ua[DecidableEq K](xs:List (K×Xj))(x:K×Xj):List (K×Xj):=if x.1∈xs.map (·.1)then xs else xs++[x]
section
variable {prog:Xd}{w:Xg}{A:Xe}{E:WT}{s:Xb}{R:Result->Xb->Prop}
theorem zz(hu:A.units<cLine)(hS:iq (tupleKind (aA prog w)) a xs s.heap)(zI:∀x∈xs,(tupleKind (aA prog w)).is s.heap x.1 x.2)(ek:(tupleKind (aA prog w)).is s.heap k b)(hl:xs.length+1<=4914)
  (h:∀r h' tk,Heap.SameBut a s.heap h'->iq (tupleKind (aA prog w)) a (ua xs (k,b)) h'->(∀L,KY prog w b s.heap->Fl a L s.heap->Fl a L h')->Q r {s with heap:=h',toks:=tk}):wpAny (model prog w) A (setAdd a (.ref b)) Q E s:=by
 unfold setAdd;refine Q_ ?_;refine a_ ((tupleKind (aA prog w)).pyHash (show(tupleKind (aA prog w)).room A from hu) ek ?_);refine EB (s:={s with toks:=s.toks+(tupleKind (aA prog w)).draws k}) Av (show(tupleKind (aA prog w)).room A from hu) hS zI ek hl (λhk=>?_) (λhk h' hsb hS' hF=>?_)
 .have e:ua xs (k,b)=xs:=by unfold ua;rw[j_ hk]
  exact h false s.heap _ ⟨rfl,λ_ _=>rfl⟩ (by rw[e];exact hS) λ_ _ z=>z
 .have e:ua xs (k,b)=xs++[(k,b)]:=by unfold ua;rw[k_ hk]
  exact h true h' _ hsb (by rw[e];exact hS') hF
theorem BK{ps:W8}(hk:(tupleKind (aA prog w)).is h (ps.map Sum.inl) b):KY prog w b h:=by
 intro A E s Q e hQ;subst e;have hT:s.TypeIs (.ref b) "tuple":=IsTupleKey.typeIs hk;obtain⟨o,items,n,ho,_,hd,hi⟩:=hk;unfold hashByValue;refine a_ (TK hT Ux.lookup ?_);dsimp only;refine a_ (TH ho hd ?_);refine a_ ?_;show wpAny _ _ (forIn items _ _) _ _ s;rw[<- Uj];refine Tt _ (λrest r s'=>r.1=none/\s'=s/\∃ks:W8,ItemsAre (aA prog w) (ks.map Sum.inl) rest) _ ?_ ?_ _ _ ⟨rfl,rfl,_,hi⟩
 .rintro v rest r s' ⟨hr,rfl,ks,NJ⟩;cases ks with
  | nil=>cases NJ
  | cons i ks=>
   cases NJ with
   | cons h1 rK=>
    rcases aW (show ik (.inl i) v=true from h1)with ⟨j,t,_,rfl⟩ | ⟨x,t,e,_⟩
    .show wpAny _ _ (pure true >>= _) _ _ _;refine a_ (d_ ?_);simp only[Tz,x_,SV];exact d_ ⟨rfl,rfl,_,rK⟩
    .cases e
 .rintro⟨r1,r2⟩ s' ⟨hr,rfl,_⟩;simp only at hr;subst hr;exact d_ hQ
theorem z9(led:Bool)(e:h.get? a=some {cls:=.type "set",dict:=none,data:=.set #[] 0 (.fresh 0 0 led)}):iq (tupleKind (aA prog w)) a [] h:=by
 refine⟨_,#[],0,_,e,⟨rfl,rfl,rfl⟩,rfl,⟨by simp,⟨rfl,⟨3,rfl⟩,by simp[SetTable.fresh],λx hx=>?_,rfl,by simp[SetTable.fresh],λq hq=>?_⟩,by simp[SetTable.fresh,dU],by simp[SetTable.fresh]⟩,U6⟩
 .simp[SetTable.fresh]at hx
 .simp[SetTable.fresh]at hq
end
section
variable {prog:Xd}{w:Xg}{A:Xe}{E:WT}{s:Xb}{R:Result->Xb->Prop}
section
variable {K:Type}[DecidableEq K]{knd:HeapKind prog w K}
end
end
end St
namespace Mi
open PySem PySem.Spec PyProof.Rows L2
inductive D where
 | non | bl (b:Bool) | int (i:Int) | str (x:Str) | tup (ds:List D) | lst (ds:List D) | dct (ks:List (Int×Int))
  | st (ps:List (Int×Int)) | ln (n:Nat)
  | mp (th:Str->Int) (ks:List (List Key)) (ds:List D)
  | ix (th:Str->Int) (ks:List Key) (ds:List D)
  | nt (ks:List (List Key)) (ds:List D)
 deriving Inhabited
abbrev Xr:=Option D
abbrev Xq:=List D
abbrev Xp:=Option Xq
def kk(p:W9):Xn:=[.inl p.1,.inl p.2]
abbrev Fg:=W_
def Ju(x:W9×Xj):Int×Xa:=(reduceHash (Builtin.Tuple.tupleHashOf [hashInt x.1.1,hashInt x.1.2]),.ref x.2)
def yy(a:Xj)(ps:WY)(bs:W4)(h:Xf):Prop:=
 ∃o es ep t,h.get? a=some o/\o.ExactSet/\o.data=.set es ep t/\es.toList.Perm ((ps.zip bs).map Ju)/\St.Ok t (es.toList.map (·.1))/\t.mask∈St.dU/\t.place.size*5<t.mask*3/\ps.Nodup
def Px(x:W9×Xj):DictEntry:=⟨reduceHash (Builtin.Tuple.tupleHashOf [hashInt x.1.1,hashInt x.1.2]),.ref x.2,.bool true⟩
def L7(a:Xj)(ps:WY)(bs:W4)(h:Xf):Prop:=
 ∃o es ep,h.get? a=some o/\o.ExactDict/\o.data=.dict es ep/\es.toList=(ps.zip bs).map Px/\ps.Nodup/\(a==sysModules)=false/\ps.length<=16000000
def j6(K:Fg)(H:Hp)(ps:WY)(bs:W4):Prop:=bs.length=ps.length/\∀(i:Nat) p b,ps[i]?=some p->bs[i]?=some b->cy K H b [.int p.1,.int p.2]
def yt(K:Fg)(Z H:Hp)(a:Xj)(ks:WY):Prop:=∃bs,H a=some (.ext (L7 a ks bs))/\j6 K Z ks bs
def O6(a:Xj)(n:Nat)(h:Xf):Prop:=∃o es ep,h.get? a=some o/\o.ExactDict/\o.data=.dict es ep/\es.size=n/\(a==sysModules)=false
def hK(th:Str->Int):Key->Int
 | .inl k=>hashInt k
 | .inr x=>th x
def DV(th:Str->Int)(x:Xn×Xj×Xa):DictEntry:=⟨reduceHash (Builtin.Tuple.tupleHashOf (x.1.map (hK th))),.ref x.2.1,x.2.2⟩
def eu(ks:Xm)(bs:W4)(us:W0):List (Xn×Xj×Xa):=ks.zip (bs.zip us)
def ft(th:Str->Int)(a:Xj)(ks:Xm)(bs:W4)(vs:Xs)(h:Xf):Prop:=
 ∃o es ep us,h.get? a=some o/\o.ExactDict/\o.data=.dict es ep/\av vs us/\es.toList=(eu ks bs us).map (DV th)/\ks.Nodup/\(a==sysModules)=false/\ks.length<=16000000/\bs.length=ks.length/\us.length=ks.length
def iM(K:Fg)(H:Hp)(ks:Xm)(bs:W4):Prop:=∀(i:Nat) k b,ks[i]?=some k->bs[i]?=some b->cy K H b (k.map kV)
def CP(th:Str->Int)(o:Obj)(a:Xj)(ks:Xn)(vs:Xs):Prop:=
 (a==sysModules)=false/\ks.length<=16000000/\vs.length=ks.length/\∃(P:Xd)(w:Xg)(us:W0),th=hashStr w/\av vs us/\o.IsDictOf (aA P w) (ks.zip us)
def o8(a:Xj)(o:Obj)(h:Xf):Prop:=h.get? a=some o
def EF:Xn->WY
 | .inl a::.inl b::r=>(a,b)::EF r
 | _=>[]
def fE:WY->Xn
 | []=>[]
 | p::ps=>.inl p.1::.inl p.2::fE ps
def K3(p:W9):Int:=reduceHash (Builtin.Tuple.tupleHashOf [hashInt p.1,hashInt p.2])
def Ol(q:Xn):Int:=reduceHash (Builtin.Tuple.tupleHashOf ((EF q).map K3))
def Fd(x:Xn×Xj×Xa):DictEntry:=⟨Ol x.1,.ref x.2.1,x.2.2⟩
def je(a:Xj)(ep:Nat)(ks:Xm)(bs:W4)(vs:Xs)(h:Xf):Prop:=
 ∃o es us,h.get? a=some o/\o.ExactDict/\o.data=.dict es ep/\av vs us/\es.toList=(eu ks bs us).map Fd/\ks.Nodup/\(a==sysModules)=false/\ks.length<=16000000/\bs.length=ks.length/\us.length=ks.length
def n3(K:Fg)(H:Hp)(ks:Xm)(bs:W4):Prop:=∀(i:Nat) k b,ks[i]?=some k->bs[i]?=some b->∃ps cs,k=fE ps/\cy K H b (cs.map .ref)/\j6 K H ps cs
mutual
def Rep(K:Fg)(H:Hp):D->V->Prop
 | .non,v=>v=.non
 | .bl b,v=>v=.bl b
 | .int i,v=>v=.int i
 | .str x,v=>v=.str x/\PyData.strOk x=true
 | .tup ds,v=>∃a vs,v=.ref a/\cy K H a vs/\ak K H ds vs
 | .lst ds,v=>∃a vs,v=.ref a/\di K H a vs/\ak K H ds vs
 | .dct ks,v=>∃a,v=.ref a/\yt K H H a ks
 | .st ps,v=>∃a bs,v=.ref a/\bs.length=ps.length/\H a=some (.ext (yy a ps bs))/\∀(i:Nat) p b,ps[i]?=some p->bs[i]?=some b->cy K H b [.int p.1,.int p.2]
 | .ln n,v=>∃a,v=.ref a/\H a=some (.ext (O6 a n))
 | .mp th ks ds,v=>∃a bs vs,v=.ref a/\H a=some (.ext (ft th a ks bs vs))/\iM K H ks bs/\ak K H ds vs
 | .ix th ks ds,v=>∃a o vs,v=.ref a/\H a=some (.ext (o8 a o))/\CP th o a ks vs/\ak K H ds vs
 | .nt ks ds,v=>∃a ep bs vs,v=.ref a/\H a=some (.ext (je a ep ks bs vs))/\n3 K H ks bs/\ak K H ds vs
def ak(K:Fg)(H:Hp):Xq->Xs->Prop
 | [],vs=>vs=[]
 | d::ds,vs=>∃v r,vs=v::r/\Rep K H d v/\ak K H ds r
end
theorem bJ{K:Fg}{H H':Hp}{a:Xj}{xs:Xs}(e:aH H H')(h:cy K H a xs):cy K H' a xs:=by
 rcases h with (h | ⟨o,h⟩) | h
 .exact .inl (.inl (e _ _ h))
 .exact .inl (.inr ⟨o,e _ _ h⟩)
 .exact .inr h
theorem iM.mono{K:Fg}{H H':Hp}(s:aH H H'){ks:Xm}{bs:W4}(h:iM K H ks bs):iM K H' ks bs:=λi k b h1 h2=>bJ s (h i k b h1 h2)
theorem j6.mono{K:Fg}{H H':Hp}(s:aH H H'){ps:WY}{bs:W4}(h:j6 K H ps bs):j6 K H' ps bs:=⟨h.1,λi p b h1 h2=>bJ s (h.2 i p b h1 h2)⟩
theorem n3.mono{K:Fg}{H H':Hp}(s:aH H H'){ks:Xm}{bs:W4}(h:n3 K H ks bs):n3 K H' ks bs:=λi k b h1 h2=>let ⟨ps,cs,e,q,r⟩:=h i k b h1 h2;⟨ps,cs,e,bJ s q,r.mono s⟩
theorem yt.mono{K:Fg}{Z Z' H H':Hp}(z:aH Z Z')(s:aH H H'){a:Xj}{ks:WY}(h:yt K Z H a ks):yt K Z' H' a ks:=let ⟨bs,e,r⟩:=h;⟨bs,s _ _ e,r.mono z⟩
mutual
theorem Rep.mono{K:Fg}{H H':Hp}(s:aH H H'):∀(d:D){v:V},Rep K H d v->Rep K H' d v
 | .non,_,h=>h
 | .bl _,_,h=>h
 | .int _,_,h=>h
 | .str _,_,h=>h
 | .tup ds,_,⟨a,vs,e,q,r⟩=>⟨a,vs,e,bJ s q,ak.mono s ds r⟩
 | .lst ds,_,⟨a,vs,e,q,r⟩=>⟨a,vs,e,s.seq q,ak.mono s ds r⟩
 | .dct ks,_,⟨a,e,q⟩=>⟨a,e,q.mono s s⟩
 | .st ps,_,⟨a,bs,e,l,q,r⟩=>⟨a,bs,e,l,s _ _ q,λi p b h1 h2=>bJ s (r i p b h1 h2)⟩
 | .ln n,_,⟨a,e,q⟩=>⟨a,e,s _ _ q⟩
 | .mp th ks ds,_,⟨a,bs,vs,e,q,r,t⟩=>⟨a,bs,vs,e,s _ _ q,r.mono s,ak.mono s ds t⟩
 | .ix th ks ds,_,⟨a,o,vs,e,q,r,t⟩=>⟨a,o,vs,e,s _ _ q,r,ak.mono s ds t⟩
 | .nt ks ds,_,⟨a,ep,bs,vs,e,q,r,t⟩=>⟨a,ep,bs,vs,e,s _ _ q,r.mono s,ak.mono s ds t⟩
theorem ak.mono{K:Fg}{H H':Hp}(s:aH H H'):∀(ds:Xq){vs:Xs},ak K H ds vs->ak K H' ds vs
 | [],_,h=>h
 | d::ds,_,⟨v,r,e,h,q⟩=>⟨v,r,e,Rep.mono s d h,ak.mono s ds q⟩
end
theorem ak.len{K:Fg}{H:Hp}:∀{ds:Xq}{vs:Xs},ak K H ds vs->ds.length=vs.length
 | [],_,h=>by cases(show _=[]from h);rfl
 | d::ds,_,⟨v,r,e,_,q⟩=>by subst e;simp[ak.len q]
theorem ak.get{K:Fg}{H:Hp}:∀{ds:Xq}{vs:Xs}{i:Nat}{d:D},ak K H ds vs->ds[i]?=some d->∃v,vs[i]?=some v/\Rep K H d v
 | [],_,_,_,_,e=>by simp at e
 | d::ds,_,0,_,⟨v,r,e,h,q⟩,e2=>by subst e;simp at e2;subst e2;exact⟨v,rfl,h⟩
 | d::ds,_,i+1,_,⟨v,r,e,h,q⟩,e2=>by subst e;simpa using ak.get (i:=i) q (by simpa using e2)
theorem ak.getV{K:Fg}{H:Hp}{ds:Xq}{vs:Xs}{i:Nat}{v:V}(h:ak K H ds vs)(e:vs[i]?=some v):∃d,ds[i]?=some d/\Rep K H d v:=by
 have hl:=h.len;have hi:i<vs.length:=(i_.mp e).1;have hd:ds[i]?=some (ds[i]'(by lia)):=by simp[hl,hi]
 obtain⟨w,e2,r⟩:=h.get hd;rw[e]at e2;cases e2;exact⟨_,hd,r⟩
theorem ak.app{K:Fg}{H:Hp}:∀{ds es:Xq}{vs us:Xs},ak K H ds vs->ak K H es us->ak K H (ds++es) (vs++us)
 | [],_,_,_,h,q=>by cases(show _=[]from h);exact q
 | d::ds,_,_,_,⟨v,r,e,h,q⟩,q2=>by subst e;exact⟨v,_,rfl,h,ak.app q q2⟩
theorem ak.one{K:Fg}{H:Hp}{d:D}{v:V}(h:Rep K H d v):ak K H [d] [v]:=⟨v,[],rfl,h,rfl⟩
theorem ak.cons{K:Fg}{H:Hp}{d:D}{v:V}{ds:Xq}{vs:Xs}(h:Rep K H d v)(r:ak K H ds vs):ak K H (d::ds) (v::vs):=⟨v,vs,rfl,h,r⟩
theorem ak.set{K:Fg}{H:Hp}{d:D}{v:V}(h:Rep K H d v):∀{ds:Xq}{vs:Xs}(i:Nat),ak K H ds vs->ak K H (ds.set i d) (vs.set i v)
 | [],_,_,q=>by cases(show _=[]from q);rfl
 | d::ds,_,0,⟨w,r,e,_,q⟩=>by subst e;exact⟨v,r,rfl,h,q⟩
 | d::ds,_,i+1,⟨w,r,e,z,q⟩=>by subst e;exact⟨w,_,rfl,z,ak.set h i q⟩
theorem ak.drop{K:Fg}{H:Hp}:∀{ds:Xq}{vs:Xs}(n:Nat),ak K H ds vs->ak K H (ds.drop n) (vs.drop n)
 | _,_,0,q=>q
 | [],_,_+1,q=>by cases(show _=[]from q);rfl
 | _::_,_,n+1,⟨w,r,e,z,q⟩=>by subst e;exact ak.drop n q
theorem ak.take{K:Fg}{H:Hp}:∀{ds:Xq}{vs:Xs}(n:Nat),ak K H ds vs->ak K H (ds.take n) (vs.take n)
 | _,_,0,q=>rfl
 | [],_,_+1,q=>by cases(show _=[]from q);rfl
 | _::_,_,n+1,⟨w,r,e,z,q⟩=>by subst e;exact⟨w,_,rfl,z,ak.take n q⟩
theorem ak.rev{K:Fg}{H:Hp}:∀{ds:Xq}{vs:Xs},ak K H ds vs->ak K H ds.reverse vs.reverse
 | [],_,q=>by cases(show _=[]from q);rfl
 | _::_,_,⟨w,r,e,z,q⟩=>by subst e;simp only[Wy];exact(ak.rev q).app (ak.one z)
theorem ak.ints{K:Fg}{H:Hp}:∀(ns:W8),ak K H (ns.map D.int) (ns.map V.int)
 | []=>rfl
 | n::ns=>⟨_,_,rfl,rfl,ak.ints ns⟩
abbrev Nf(Z Z':Hp):Prop:=∀a ob u,Z' a=some (.frz ob u)->Z a=some (.frz ob u)
abbrev NF(o:HO):Prop:=∀ob u,o≠.frz ob u
theorem Mf:NF (.lst xs):=λ_ _ z=>by cases z
theorem Sn:NF (.tup xs):=λ_ _ z=>by cases z
theorem KU:NF (.ext φ):=λ_ _ z=>by cases z
theorem pS(n:Nf Z Z')(hf:NF o):Nf Z (upd Z' p o):=λa ob u e=>by
 by_cases hb:a=p
 .subst hb;rw[ai]at e;cases e;exact absurd rfl (hf ob u)
 .rw[ar hb]at e;exact n a ob u e
structure Ex(Z H Z' H':Hp):Prop where
 h:aH H H'
 z:aH Z Z'
 zh:aH Z' H'
 fr:∀a,H a≠none->Z a=none->Z' a=none
 nf:Nf Z Z'
theorem Ex.refl(s:aH Z H):Ex Z H Z H:=⟨aH.refl _,aH.refl _,s,λ_ _ h=>h,λ_ _ _ h=>h⟩
theorem nu(s:aH H H')(h:H a≠none):H' a≠none:=by
 cases e:H a with
 | none=>exact absurd e h
 | some o=>rw[s a o e];simp
theorem Ex.trans(x:Ex Z H Z1 H1)(y:Ex Z1 H1 Z2 H2):Ex Z H Z2 H2:=
 ⟨x.h.trans y.h,x.z.trans y.z,y.zh,λa h e=>y.fr a (nu x.h h) (x.fr a h e),λa o u h=>x.nf a o u (y.nf a o u h)⟩
theorem Ex.transB(x:Ex Z B Z1 H1)(y:Ex Z1 B Z2 H2):Ex Z B Z2 H2:=
 ⟨y.h,x.z.trans y.z,y.zh,λa h e=>y.fr a h (x.fr a h e),λa o u h=>x.nf a o u (y.nf a o u h)⟩
theorem Ex.part(b:aH B H)(x:Ex Z H Z' H'):Ex Z B Z' H':=⟨b.trans x.h,x.z,x.zh,λa h e=>x.fr a (nu b h) e,x.nf⟩
theorem cm(h:H p=none):aH H (upd H p o):=λb u e=>by rw[ar (aV e h)];exact e
theorem JF(s:aH Z H)(h:H p=none):aH (upd Z p o) (upd H p o):=λb u e=>by
 by_cases hb:b=p
 .subst hb;rw[ai]at e ⊢;exact e
 .rw[ar hb]at e ⊢;exact s b u e
theorem d8(s:aH Z H)(h:Z p=none):aH Z (upd H p o):=λb u e=>by
 rw[ar (aV e h)];exact s b u e
theorem nq(s:aH Z H)(h:H p=some o):aH (upd Z p o) H:=λb u e=>by
 by_cases hb:b=p
 .subst hb;rw[ai]at e;cases e;exact h
 .rw[ar hb]at e;exact s b u e
theorem Ex.new(s:aH Z H)(h:H p=none)(hf:NF o:=by first | exact Sn | exact Mf | exact KU):Ex Z H (upd Z p o) (upd H p o):=
 ⟨cm h,cm (s.free h),JF s h,λa ha e=>by rw[ar (λz=>ha (by rw[z];exact h))];exact e,pS (λ_ _ _ h=>h) hf⟩
theorem Ex.newL(s:aH Z H)(h:H p=none):Ex Z H Z (upd H p o):=
 ⟨cm h,aH.refl _,d8 s (s.free h),λ_ _ e=>e,λ_ _ _ h=>h⟩
def yP(K:Fg)(Z H:Hp)(a:Xj)(th:Str->Int)(ks:Xm)(ds:Xq):Prop:=∃bs vs,H a=some (.ext (ft th a ks bs vs))/\iM K Z ks bs/\ak K Z ds vs
theorem yP.mono{K:Fg}{Z Z' H H':Hp}(z:aH Z Z')(s:aH H H'){a:Xj}{th:Str->Int}{ks:Xm}{ds:Xq}(h:yP K Z H a th ks ds):yP K Z' H' a th ks ds:=let ⟨bs,vs,e,r,t⟩:=h;⟨bs,vs,s _ _ e,r.mono z,ak.mono z ds t⟩
inductive Gr where | pk | cl | nw | nd | nm
def Gd(K:Fg)(Z' H H':Hp):Gr->D->V->Prop
 | .pk,d,v=>Rep K Z' d v\/(∃a vs ds,v=.ref a/\d=.lst ds/\H' a=some (.lst vs)/\ak K Z' ds vs)\/(∃a ks,v=.ref a/\d=.dct ks/\yt K Z' H' a ks)\/∃a th ks ds,v=.ref a/\d=.mp th ks ds/\yP K Z' H' a th ks ds
 | .cl,d,v=>Rep K Z' d v
 | .nw,d,v=>∃a vs ds,v=.ref a/\d=.lst ds/\H a=none/\H' a=some (.lst vs)/\Z' a=none/\ak K Z' ds vs
 | .nd,d,v=>∃a ks,v=.ref a/\d=.dct ks/\H a=none/\yt K Z' H' a ks/\Z' a=none
 | .nm,d,v=>∃a th ks ds,v=.ref a/\d=.mp th ks ds/\H a=none/\yP K Z' H' a th ks ds/\Z' a=none
section
variable {K:Fg}{Z Z' H H':Hp}{g:Gr}{d:D}{v:V}
theorem Gd.pk(h:Gd K Z' H H' g d v):Gd K Z' H3 H' .pk d v:=by
 cases g with
 | pk=>exact h
 | cl=>exact .inl h
 | nw=>obtain⟨a,vs,ds,e1,e2,_,e3,_,r⟩:=h;exact .inr (.inl ⟨a,vs,ds,e1,e2,e3,r⟩)
 | nd=>obtain⟨a,ks,e1,e2,_,e3,_⟩:=h;exact .inr (.inr (.inl ⟨a,ks,e1,e2,e3⟩))
 | nm=>obtain⟨a,th,ks,ds,e1,e2,_,e3,_⟩:=h;exact .inr (.inr (.inr ⟨a,th,ks,ds,e1,e2,e3⟩))
theorem Gd.rep(s:aH Z' H')(h:Gd K Z' H H' g d v):Rep K H' d v:=by
 rcases(h.pk (H3:=H))with h | ⟨a,vs,ds,rfl,rfl,e,r⟩ | ⟨a,ks,rfl,rfl,e⟩ | ⟨a,th,ks,ds,rfl,rfl,bs,vs,e,r,t⟩
 .exact Rep.mono s d h
 .exact⟨a,vs,rfl,di.of e,ak.mono s ds r⟩
 .exact⟨a,rfl,e.mono s (aH.refl _)⟩
 .exact⟨a,bs,vs,rfl,e,r.mono s,ak.mono s ds t⟩
theorem Gd.lst{ds:Xq}(s:aH Z' H')(h:Gd K Z' H H' g (.lst ds) v):∃a vs,v=.ref a/\di K H' a vs/\ak K Z' ds vs:=by
 rcases(h.pk (H3:=H))with ⟨a,vs,e,q,r⟩ | ⟨a,vs,NK,rfl,e,e2,r⟩ | ⟨_,_,_,e,_⟩ | ⟨_,_,_,_,_,e,_⟩
 .exact⟨a,vs,e,s.seq q,r⟩
 .cases e;exact⟨a,vs,rfl,di.of e2,r⟩
 .cases e
 .cases e
theorem Gd.mp(s:aH Z' H')(h:Gd K Z' H H' g (.mp th ks ds) v):∃a,v=.ref a/\yP K Z' H' a th ks ds:=by
 rcases(h.pk (H3:=H))with ⟨a,bs,vs,e,q,r,t⟩ | ⟨_,_,_,_,e,_⟩ | ⟨_,_,_,e,_⟩ | ⟨a,zL,gq,NK,rfl,e,q⟩
 .exact⟨a,e,bs,vs,s _ _ q,r,t⟩
 .cases e
 .cases e
 .cases e;exact⟨a,rfl,q⟩
theorem Gd.tup{ds:Xq}(s:aH Z' H')(h:Gd K Z' H H' g (.tup ds) v):∃a vs,v=.ref a/\cy K H' a vs/\ak K Z' ds vs:=by
 rcases(h.pk (H3:=H))with ⟨a,vs,e,q,r⟩ | ⟨a,vs,NK,rfl,e,e2,r⟩ | ⟨_,_,_,e,_⟩ | ⟨_,_,_,_,_,e,_⟩
 .exact⟨a,vs,e,bJ s q,r⟩
 .cases e
 .cases e
 .cases e
theorem Gd.int{i:Int}(h:Gd K Z' H H' g (.int i) v):v=.int i:=by
 rcases(h.pk (H3:=H))with h | ⟨_,_,_,_,e,_⟩ | ⟨_,_,_,e,_⟩ | ⟨_,_,_,_,_,e,_⟩
 .exact h
 .cases e
 .cases e
 .cases e
theorem Gd.bl(h:Gd K Z' H H' g (.bl b) v):v=.bl b:=by
 rcases(h.pk (H3:=H))with h | ⟨_,_,_,_,e,_⟩ | ⟨_,_,_,e,_⟩ | ⟨_,_,_,_,_,e,_⟩
 .exact h
 .cases e
 .cases e
 .cases e
theorem Gd.str{x:Str}(h:Gd K Z' H H' g (.str x) v):v=.str x:=by
 rcases(h.pk (H3:=H))with h | ⟨_,_,_,_,e,_⟩ | ⟨_,_,_,e,_⟩ | ⟨_,_,_,_,_,e,_⟩
 .exact h.1
 .cases e
 .cases e
 .cases e
theorem Gd.later(x:Ex Z' H' Z2 H2)(h:Gd K Z' H H' g d v):Gd K Z2 H3 H2 .pk d v:=by
 rcases(h.pk (H3:=H))with h | ⟨a,vs,ds,e1,e2,e3,r⟩ | ⟨a,ks,e1,e2,e3⟩ | ⟨a,th,ks,ds,e1,e2,e3⟩
 .exact .inl (Rep.mono x.z d h)
 .exact .inr (.inl ⟨a,vs,ds,e1,e2,x.h _ _ e3,ak.mono x.z ds r⟩)
 .exact .inr (.inr (.inl ⟨a,ks,e1,e2,e3.mono x.z x.h⟩))
 .exact .inr (.inr (.inr ⟨a,th,ks,ds,e1,e2,e3.mono x.z x.h⟩))
end
inductive rM where
 | L (ds:List D) | T (ks:List (Int×Int)) | M (th:Str->Int) (ks:List (List Key)) (ds:List D) | I (th:Str->Int) (ks:List Key) (ds:List D) | N (ks:List (List Key)) (ds:List D)
def bU(K:Fg)(Z:Hp)(a:Xj):rM->HO->Prop
 | .L ds,o=>∃vs,o=.lst vs/\ak K Z ds vs
 | .T ks,o=>∃bs,o=.ext (L7 a ks bs)/\j6 K Z ks bs
 | .M th ks ds,o=>∃bs vs,o=.ext (ft th a ks bs vs)/\iM K Z ks bs/\ak K Z ds vs
 | .I th ks ds,o=>∃ob vs,o=.ext (o8 a ob)/\CP th ob a ks vs/\ak K Z ds vs
 | .N ks ds,o=>∃ep bs vs,o=.ext (je a ep ks bs vs)/\n3 K Z ks bs/\ak K Z ds vs
def rM.d:rM->D
 | .L ds=>.lst ds
 | .T ks=>.dct ks
 | .M th ks ds=>.mp th ks ds
 | .I th ks ds=>.ix th ks ds
 | .N ks ds=>.nt ks ds
def rM.pd:rM->Xr
 | .L ds=>some (.lst ds)
 | .T ks=>some (.dct ks)
 | .M th ks ds=>some (.mp th ks ds)
 | .I _ _ _=>none
 | .N _ _=>none
theorem bU.l{K:Fg}{Z:Hp}{a:Xj}{ds:Xq}{vs:Xs}(h:ak K Z ds vs):bU K Z a (.L ds) (.lst vs):=⟨vs,rfl,h⟩
theorem bU.mono{K:Fg}{Z Z':Hp}(s:aH Z Z'){a:Xj}{w:rM}{o:HO}(h:bU K Z a w o):bU K Z' a w o:=by
 cases w with
 | L ds=>obtain⟨vs,e,r⟩:=h;exact⟨vs,e,ak.mono s ds r⟩
 | T ks=>obtain⟨bs,e,r⟩:=h;exact⟨bs,e,r.mono s⟩
 | M th ks ds=>obtain⟨bs,vs,e,r,t⟩:=h;exact⟨bs,vs,e,r.mono s,ak.mono s ds t⟩
 | I th ks ds=>obtain⟨ob,vs,e,r,t⟩:=h;exact⟨ob,vs,e,r,ak.mono s ds t⟩
 | N ks ds=>obtain⟨ep,bs,vs,e,r,t⟩:=h;exact⟨ep,bs,vs,e,r.mono s,ak.mono s ds t⟩
theorem bU.rep{K:Fg}{Z:Hp}{w:rM}{o:HO}{a:Xj}(h:bU K Z a w o)(e:Z a=some o):Rep K Z w.d (.ref a):=by
 cases w with
 | L ds=>obtain⟨vs,rfl,r⟩:=h;exact⟨a,vs,rfl,di.of e,r⟩
 | T ks=>obtain⟨bs,rfl,r⟩:=h;exact⟨a,rfl,bs,e,r⟩
 | M th ks ds=>obtain⟨bs,vs,rfl,r,t⟩:=h;exact⟨a,bs,vs,rfl,e,r,t⟩
 | I th ks ds=>obtain⟨ob,vs,rfl,r,t⟩:=h;exact⟨a,ob,vs,rfl,e,r,t⟩
 | N ks ds=>obtain⟨ep,bs,vs,rfl,r,t⟩:=h;exact⟨a,ep,bs,vs,rfl,e,r,t⟩
theorem bU.nf{K:Fg}{Z:Hp}{w:rM}{o:HO}{a:Xj}(h:bU K Z a w o):NF o:=by
 cases w with
 | L ds=>obtain⟨vs,rfl,r⟩:=h;exact Mf
 | T ks=>obtain⟨bs,rfl,r⟩:=h;exact KU
 | M th ks ds=>obtain⟨bs,vs,rfl,r,t⟩:=h;exact KU
 | I th ks ds=>obtain⟨ob,vs,rfl,r,t⟩:=h;exact KU
 | N ks ds=>obtain⟨ep,bs,vs,rfl,r,t⟩:=h;exact KU
inductive Slot where
 | un | F (d:D) | O (w:rM)
def qJ(K:Fg)(Z H:Hp):Slot->Option V->Prop
 | .un,_=>True
 | .F d,x=>∃v,x=some v/\Rep K Z d v
 | .O w,x=>∃a o,x=some (.ref a)/\H a=some o/\Z a=none/\bU K Z a w o
abbrev En:=List Slot
abbrev Xo:=En->Xp
structure Rl(K:Fg)(B Z H:Hp)(env:En)(σ:L2.St):Prop where
 bh:aH B H
 zh:aH Z H
 len:env.length=σ.length
 sl:∀(i:Nat) s,env[i]?=some s->∃x,σ[i]?=some x/\qJ K Z H s x
 ob:∀(i:Nat) ds a,env[i]?=some (.O ds)->σ[i]?=some (some (.ref a))->B a=none
 ap:∀(i j:Nat) ds es a,i≠j->env[i]?=some (.O ds)->env[j]?=some (.O es)->σ[i]?=some (some (.ref a))->σ[j]?≠some (some (.ref a))
section
variable {K:Fg}{B Z H Z' H':Hp}{env:En}{σ:L2.St}
theorem qJ.ext(e:Ex Z H Z' H')(h:qJ K Z H s x):qJ K Z' H' s x:=by
 cases s with
 | un=>trivial
 | F d=>obtain⟨v,e1,r⟩:=h;exact⟨v,e1,Rep.mono e.z d r⟩
 | O w=>obtain⟨a,o,e1,e2,e3,r⟩:=h;exact⟨a,o,e1,e.h _ _ e2,e.fr a (by rw[e2];simp) e3,r.mono e.z⟩
theorem Rl.ext(R:Rl K B Z H env σ)(e:Ex Z H Z' H'):Rl K B Z' H' env σ:=
 ⟨R.bh.trans e.h,e.zh,R.len,λi s h=>let ⟨x,h1,h2⟩:=R.sl i s h;⟨x,h1,h2.ext e⟩,R.ob,R.ap⟩
theorem Rl.setF(R:Rl K B Z H env σ)(i:Nat)(r:Rep K Z d v):Rl K B Z H (env.set i (.F d)) (σ.set i (some v)):=by
 refine⟨R.bh,R.zh,by simp[R.len],λj s h=>?_,λj ds a h h2=>?_,λj k ds es a hne h1 h2 h3 h4=>?_⟩
 .by_cases hj:i=j
  .subst hj
   by_cases hl:i<env.length
   .rw[v_ hl]at h;cases h;exact⟨some v,v_ (by rw[<- R.len];exact hl),v,rfl,r⟩
   .rw[K_ (by simpa using Tb hl)]at h;cases h
  .rw[p_ hj]at h ⊢;exact R.sl j s h
 .by_cases hj:i=j
  .subst hj
   by_cases hl:i<env.length
   .rw[v_ hl]at h;cases h
   .rw[K_ (by simpa using Tb hl)]at h;cases h
  .rw[p_ hj]at h h2;exact R.ob j ds a h h2
 .have Gs:∀{j:Nat}{ds:rM},(env.set i (.F d))[j]?=some (.O ds)->i≠j:=λ{j ds} h z=>by
   subst z
   by_cases hl:i<env.length
   .rw[v_ hl]at h;cases h
   .rw[K_ (by simpa using Tb hl)]at h;cases h
  have n1:=Gs h1;have n2:=Gs h2;rw[p_ n1]at h1 h3;rw[p_ n2]at h2 h4;exact R.ap j k ds es a hne h1 h2 h3 h4
theorem Rl.setO(R:Rl K B Z H env σ)(i:Nat)(hb:B a=none)(hz:Z a=none)(hh:H a=some vs)(r:bU K Z a ds vs)
  (hn:∀(j:Nat) es,j≠i->env[j]?=some (.O es)->σ[j]?≠some (some (.ref a))):Rl K B Z H (env.set i (.O ds)) (σ.set i (some (.ref a))):=by
 have atI:∀{s:Slot},(env.set i (.O ds))[i]?=some s->s=.O ds/\(σ.set i (some (V.ref a)))[i]?=some (some (.ref a)):=λ{s} h=>by
  by_cases hl:i<env.length
  .rw[v_ hl]at h;cases h;exact⟨rfl,v_ (by rw[<- R.len];exact hl)⟩
  .rw[K_ (by simpa using Tb hl)]at h;cases h
 refine⟨R.bh,R.zh,by simp[R.len],λj s h=>?_,λj es b h h2=>?_,λj k es fs b hne h1 h2 h3 h4=>?_⟩
 .by_cases hj:i=j
  .subst hj;obtain⟨e1,e2⟩:=atI h;subst e1;exact⟨_,e2,a,vs,rfl,hh,hz,r⟩
  .rw[p_ hj]at h ⊢;exact R.sl j s h
 .by_cases hj:i=j
  .subst hj;obtain⟨_,e2⟩:=atI h;rw[e2]at h2;cases h2;exact hb
  .rw[p_ hj]at h h2;exact R.ob j es b h h2
 .by_cases hj:i=j
  .subst hj;obtain⟨_,e2⟩:=atI h1;rw[e2]at h3;cases h3;rw[p_ hne]at h2 h4;exact hn k fs (Tj hne) h2 h4
  .by_cases hk:i=k
   .subst hk;obtain⟨_,e2⟩:=atI h2;rw[e2]at h4;cases h4;rw[p_ hj]at h1 h3;exact hn j es (Tj hj) h1 h3
   .rw[p_ hj]at h1 h3;rw[p_ hk]at h2 h4;exact R.ap j k es fs b hne h1 h2 h3 h4
theorem Rl.wr(R:Rl K B Z H env σ)(hi:env[i]?=some (.O ds))(ha:σ[i]?=some (some (.ref a)))(r:bU K Z a es vs) :
  Rl K B Z (upd H a vs) (env.set i (.O es)) σ/\Ex Z B Z (upd H a vs):=by
 have hb:=R.ob i ds a hi ha;obtain⟨x,e1,b,us,e2,e3,hz,_⟩:=R.sl i _ hi;rw[ha]at e1;cases e1;cases e2;have hl:i<env.length:=(i_.mp hi).1;have sb:aH B (upd H a vs):=d8 R.bh hb;have sz:aH Z (upd H a vs):=d8 R.zh hz;refine⟨⟨sb,sz,by simp[R.len],λj s h=>?_,λj fs b h h2=>?_,λj k fs gs b hne h1 h2 h3 h4=>?_⟩,⟨sb,aH.refl _,sz,λ_ _ e=>e,λ_ _ _ h=>h⟩⟩
 .by_cases hj:i=j
  .subst hj;rw[v_ hl]at h;cases h;exact⟨_,ha,a,vs,rfl,ai,hz,r⟩
  .rw[p_ hj]at h;obtain⟨x,e1,q⟩:=R.sl j s h;refine⟨x,e1,?_⟩;cases s with
   | un=>trivial
   | F d=>exact q
   | O fs=>
    obtain⟨b,us',e4,e5,e6,q⟩:=q;refine⟨b,us',e4,?_,e6,q⟩;rw[ar (λz=>?_)]
    .exact e5
    .subst z;subst e4;exact R.ap i j ds fs b hj hi h ha e1
 .by_cases hj:i=j
  .subst hj;rw[ha]at h2;cases h2;exact hb
  .rw[p_ hj]at h;exact R.ob j fs b h h2
 .have old:∀{j:Nat}{fs:rM},(env.set i (.O es))[j]?=some (.O fs)->∃Nw,env[j]?=some (.O Nw):=λ{j fs} h=>by
   by_cases hj:i=j
   .subst hj;exact⟨ds,hi⟩
   .rw[p_ hj]at h;exact⟨fs,h⟩
  obtain⟨Nw,h1'⟩:=old h1;obtain⟨gs',h2'⟩:=old h2;exact R.ap j k Nw gs' b hne h1' h2' h3 h4
theorem Rl.frz{ds:rM}(R:Rl K B Z H env σ){i:Nat}(hi:env[i]?=some (.O ds)):∃Z',Rl K B Z' H (env.set i (.F ds.d)) σ/\Ex Z B Z' H:=by
 obtain⟨x,e1,a,vs,e2,e3,hz,r⟩:=R.sl i _ hi;subst e2;have hb:=R.ob i ds a hi e1;have hl:i<env.length:=(i_.mp hi).1;have s1:aH Z (upd Z a vs):=cm hz;have s2:aH (upd Z a vs) H:=nq R.zh e3;refine⟨upd Z a vs,⟨R.bh,s2,by simp[R.len],λj s h=>?_,λj fs b h h2=>?_,λj k fs gs b hne h1 h2 h3 h4=>?_⟩,⟨R.bh,s1,s2,λb hbn e=>?_,pS (λ_ _ _ h=>h) r.nf⟩⟩
 .by_cases hj:i=j
  .subst hj;rw[v_ hl]at h;cases h;exact⟨_,e1,_,rfl,(r.mono s1).rep ai⟩
  .rw[p_ hj]at h;obtain⟨y,e4,q⟩:=R.sl j s h;refine⟨y,e4,?_⟩;cases s with
   | un=>trivial
   | F d=>obtain⟨v,e5,q⟩:=q;exact⟨v,e5,Rep.mono s1 d q⟩
   | O fs=>
    obtain⟨b,us',e5,e6,e7,q⟩:=q;refine⟨b,us',e5,e6,?_,q.mono s1⟩;rw[ar (λz=>?_)]
    .exact e7
    .subst z;subst e5;exact R.ap i j ds fs b hj hi h e1 e4
 .by_cases hj:i=j
  .subst hj;rw[v_ hl]at h;cases h
  .rw[p_ hj]at h;exact R.ob j fs b h h2
 .have Gs:∀{j:Nat}{es:rM},(env.set i (.F ds.d))[j]?=some (.O es)->i≠j:=λ{j es} h z=>by
   subst z;rw[v_ hl]at h;cases h
  have n1:=Gs h1;have n2:=Gs h2;rw[p_ n1]at h1;rw[p_ n2]at h2;exact R.ap j k fs gs b hne h1 h2 h3 h4
 .rw[ar (λz=>hbn (by rw[z];exact hb))];exact e
end
abbrev Fe:=En->Xr
abbrev Fb:=En->Option Bool
abbrev Xy:Fb:=λ_=>some true
abbrev Fes:=En->Xp
def T(K:Fg)(g:Gr)(f:Fe):TE:=λσ H Q=>∃env B Z d,Rl K B Z H env σ/\f env=some d/\∀v Z' H',Ex Z H Z' H'->Gd K Z' H H' g d v->Q v H'
def TB(K:Fg)(f:Fb):TT:=λσ H Q=>∃env B Z b,Rl K B Z H env σ/\f env=some b/\∀Z' H',Ex Z H Z' H'->Q b H'
def TL(K:Fg)(f:Fes):TA:=λσ H Q=>∃env B Z ds,Rl K B Z H env σ/\f env=some ds/\∀vs Z' H',Ex Z H Z' H'->ak K Z' ds vs->Q vs H'
def PD(X:Cx)(g:Gr)(e:Xk)(f:Fe):Prop:=PE X e (T X.K g f)
def PB(X:Cx)(e:Xk)(f:Fb):Prop:=PT X e (TB X.K f)
def HJ(X:Cx)(e:Xk)(f:Fb):Prop:=PW X e (TB X.K f)
structure PL(X:Cx)(es:List Expr)(f:Fes):Prop where
 p:PA X es (TL X.K f)
 l:∀env ds,f env=some ds->ds.length=es.length
section
variable {X:Cx}
theorem PE.imp(h:PE X e t)(i:∀σ H Q,t' σ H Q->t σ H Q):PE X e t':=λpins s σ H Q I q=>h pins s σ H Q I (i σ H Q q)
theorem PT.imp(h:PT X e t)(i:∀σ H Q,t' σ H Q->t σ H Q):PT X e t':=λpins s σ H Q I q=>h pins s σ H Q I (i σ H Q q)
theorem PW.imp(h:PW X e t)(i:∀σ H Q,t' σ H Q->t σ H Q):PW X e t':=λwh pins s σ H Q I q=>h wh pins s σ H Q I (i σ H Q q)
theorem PA.imp(h:PA X e t)(i:∀σ H Q,t' σ H Q->t σ H Q):PA X e t':=λpos pins s σ H Q I q=>h pos pins s σ H Q I (i σ H Q q)
def fC(d:D):Fe:=λ_=>some d
abbrev Xx:Fe:=fC (.int 4)
abbrev Xw:Fe:=fC (.int 3)
abbrev Xv:Fe:=fC (.int 2)
abbrev Xu:Fe:=fC (.int 1)
abbrev Xt:Fe:=fC (.int 0)
theorem Ct{K:Fg}{g:D}{v:V}{σ:L2.St}{H:Hp}{Q:VK}(h:T K .cl (fC g) σ H Q)(r:∀Z,Rep K Z g v):Q v H:=by
 obtain⟨env,B,Z,d,R,e,k⟩:=h;cases e;exact k v Z H (Ex.refl R.zh) (r Z)
theorem ag{i j pos}:PD X .cl (.Constant (.int i) j pos) (fC (.int i)):=PE.imp Al λ_ _ _ h=>Ct h λ_=>rfl
theorem l4{b j pos}:PD X .cl (.Constant (.bool b) j pos) (fC (.bl b)):=PE.imp Ly λ_ _ _ h=>Ct h λ_=>rfl
theorem MV{j pos}:PD X .cl (.Constant .none j pos) (fC .non):=PE.imp Ic λ_ _ _ h=>Ct h λ_=>rfl
theorem bt{x j pos}(hk:PyData.strOk x=true:=by decide +kernel):PD X .cl (.Constant (.str x) j pos) (fC (.str x)):=PE.imp Jn λ_ _ _ h=>Ct h λ_=>⟨rfl,hk⟩
theorem Jd(hm:X.mg x=some u)(rv:RelV v u)(r:∀Z,Rep X.K Z d v)(hg:Gl X x:=by rfl)(hd:(x==("__debug__":Str))=false:=by decide) :
  PD X .cl (.Name x pos) (fC d):=PE.imp (xQ hg hm rv hd) λ_ _ _ h=>Ct h r
def bH(env:En)(i:Nat):Xr:=match env[i]? with | some (.F d)=>some d | _=>none
def kn(env:En)(i:Nat):Xr:=match env[i]? with | some (.F d)=>some d | some (.O w)=>w.pd | _=>none
theorem ae(i:Nat)(hN:X.N[i]?=some x:=by rfl)(hv:wH X.env.scope x:=by first | exact Or.inl rfl | exact Or.inr (Or.inl rfl) | exact Or.inr (Or.inr rfl))(hd:(x==("__debug__":Str))=false:=by decide)
  (dQ:(x==("__classdict__":Str))=false:=by decide):PD X .cl (.Name x pos) (λenv=>bH env i):=PE.imp (bI hN hv hd dQ) λσ H Q h=>by
 obtain⟨env,B,Z,d,R,e,k⟩:=h;dsimp only[bH]at e
 split at e
 .rename_i d' h1;cases e;obtain⟨x,h2,v,h3,r⟩:=R.sl i _ h1;subst h3;exact⟨v,h2,k v Z H (Ex.refl R.zh) r⟩
 .cases e
theorem Ee(i:Nat)(hN:X.N[i]?=some x:=by rfl)(hv:wH X.env.scope x:=by first | exact Or.inl rfl | exact Or.inr (Or.inl rfl) | exact Or.inr (Or.inr rfl))(hd:(x==("__debug__":Str))=false:=by decide)
  (dQ:(x==("__classdict__":Str))=false:=by decide):PD X .pk (.Name x pos) (λenv=>kn env i):=PE.imp (bI hN hv hd dQ) λσ H Q h=>by
 obtain⟨env,B,Z,d,R,e,k⟩:=h;dsimp only[kn]at e
 split at e
 .rename_i d' h1;cases e;obtain⟨x,h2,v,h3,r⟩:=R.sl i _ h1;subst h3;exact⟨v,h2,k v Z H (Ex.refl R.zh) (.inl r)⟩
 .rename_i ds h1;obtain⟨x,h2,a,vs,h3,h4,h5,r⟩:=R.sl i _ h1;subst h3;refine⟨_,h2,k _ Z H (Ex.refl R.zh) ?_⟩;cases ds with
  | I th ks ds=>cases e
  | N ks ds=>cases e
  | L ds=>cases e;obtain⟨us,rfl,r⟩:=r;exact .inr (.inl ⟨a,us,ds,rfl,rfl,h4,r⟩)
  | T ks=>cases e;obtain⟨bs,rfl,r⟩:=r;exact .inr (.inr (.inl ⟨a,ks,rfl,rfl,bs,h4,r⟩))
  | M th ks ds=>cases e;obtain⟨bs,vs,rfl,r,t⟩:=r;exact .inr (.inr (.inr ⟨a,th,ks,ds,rfl,rfl,bs,vs,h4,r,t⟩))
 .cases e
theorem cS(h:PD X .nw e f):PD X .cl e f:=PE.imp h λσ H Q aC=>by
 obtain⟨env,B,Z,d,R,e,k⟩:=aC;refine⟨env,B,Z,d,R,e,λv Z' H' x g=>?_⟩;obtain⟨a,vs,ds,rfl,rfl,h1,h2,h3,r⟩:=g;have s1:aH Z' (upd Z' a (.lst vs)):=cm h3;exact k _ (upd Z' a (.lst vs)) H' ⟨x.h,x.z.trans s1,nq x.zh h2,λb hb e=>by rw[ar (λz=>hb (by rw[z];exact h1))];exact x.fr b hb e,pS x.nf Mf⟩ ⟨a,vs,rfl,di.of ai,ak.mono s1 ds r⟩
theorem Na(h:PD X .nm e f):PD X .cl e f:=PE.imp h λσ H Q aC=>by
 obtain⟨env,B,Z,d,R,e,k⟩:=aC;refine⟨env,B,Z,d,R,e,λv Z' H' x g=>?_⟩;obtain⟨a,th,ks,ds,rfl,rfl,h1,⟨bs,vs,h2,hp,r⟩,h3⟩:=g;have s1:aH Z' (upd Z' a (.ext (ft th a ks bs vs))):=cm h3;exact k _ (upd Z' a (.ext (ft th a ks bs vs))) H' ⟨x.h,x.z.trans s1,nq x.zh h2,λb hb e=>by rw[ar (λz=>hb (by rw[z];exact h1))];exact x.fr b hb e,pS x.nf KU⟩ ⟨a,bs,vs,rfl,ai,hp.mono s1,ak.mono s1 ds r⟩
def fNil:Fes:=λ_=>some []
def aa(f:Fe)(fs:Fes):Fes:=λenv=>(f env).bind λd=>(fs env).bind λds=>some (d::ds)
theorem au:PL X [] fNil:=⟨PA.imp bM λσ H Q ⟨env,B,Z,ds,R,e,k⟩=>by cases e;exact k [] Z H (Ex.refl R.zh) rfl,λenv ds e=>by cases e;rfl⟩
theorem mr(h:aa f fs env=some ds):∃d r,f env=some d/\fs env=some r/\ds=d::r:=by
 unfold aa at h;refine cO λ_ kq=>?_;obtain⟨d,h1,h2⟩:=b_.mp h;obtain⟨r,h3,h4⟩:=b_.mp h2;cases h4;exact kq (⟨d,r,h1,h3,rfl⟩)
theorem af(h:PD X .cl e f)(hs:PL X es fs)(hst:starEach (e::es) X.env=(false,eval e X.env)::starEach es X.env:=by rfl):PL X (e::es) (aa f fs):=by
 refine⟨PA.imp (aJ h hs.p hst) λσ H Q ⟨env,B,Z,ds,R,e,k⟩=>?_,λenv ds e=>?_⟩
 .obtain⟨d,r,h1,h2,rfl⟩:=mr e;refine⟨env,B,Z,d,R,h1,λv Z1 H1 x1 g1=>⟨env,B,Z1,r,R.ext x1,h2,λvs Z2 H2 x2 g2=>?_⟩⟩;exact k (v::vs) Z2 H2 (x1.trans x2) ⟨v,vs,rfl,Rep.mono x2.z d g1,g2⟩
 .obtain⟨d,r,h1,h2,rfl⟩:=mr e;simp[hs.l env r h2]
def bc(fs:Fes):Fe:=λenv=>(fs env).bind λds=>some (.tup ds)
def b8(fs:Fes):Fe:=λenv=>(fs env).bind λds=>some (.lst ds)
theorem aY{x1 pos}(h:PL X es fs)(hl:es.length<=1000:=by decide):PD X .cl (.Tuple es x1 pos) (bc fs):=PE.imp (JK h.p) λσ H Q aC=>by
 refine cO λ_ kq=>?_;obtain⟨env,B,Z,d,R,e,k⟩:=aC;obtain⟨ds,h1,h2⟩:=b_.mp e;cases h2;refine kq (⟨env,B,Z,ds,R,h1,λvs Z1 H1 x1 r=>⟨?_,λp hp=>?_⟩⟩)
 all_goals clear kq
 .rw[<- r.len,h.l env ds h1];exact TV (oN hl)
 .have s1:aH Z1 (upd Z1 p (.tup vs)):=cm (x1.zh.free hp);exact k _ (upd Z1 p (.tup vs)) _ (x1.trans (Ex.new x1.zh hp)) ⟨p,vs,rfl,cy.of ai,ak.mono s1 ds r⟩
theorem bW{pos}(h:PL X es fs)(hl:es.length<=1000:=by decide):PD X .nw (.List es pos) (b8 fs):=PE.imp (qT h.p) λσ H Q aC=>by
 refine cO λ_ kq=>?_;obtain⟨env,B,Z,d,R,e,k⟩:=aC;obtain⟨ds,h1,h2⟩:=b_.mp e;cases h2;refine kq (⟨env,B,Z,ds,R,h1,λvs Z1 H1 x1 r=>⟨?_,λp hp=>?_⟩⟩)
 all_goals clear kq
 .rw[<- r.len,h.l env ds h1];exact TV (oN hl)
 .exact k _ Z1 _ (x1.trans (Ex.newL x1.zh hp)) ⟨p,vs,ds,rfl,rfl,x1.h.free hp,ai,x1.zh.free hp,r⟩
theorem kP[Decidable c](h:(if c then some a else none)=some d):c/\a=d:=by
 by_cases hc:c
 .rw[j_ hc]at h;exact⟨hc,Option.some.inj h⟩
 .rw[k_ hc]at h;cases h
def ao(b:D->D->Xr)(fa fb:Fe):Fe:=λenv=>(fa env).bind λx=>(fb env).bind λy=>b x y
theorem tj(h:ao b fa fb env=some d):∃x y,fa env=some x/\fb env=some y/\b x y=some d:=by
 unfold ao at h;refine cO λ_ kq=>?_;obtain⟨x,h1,h2⟩:=b_.mp h;obtain⟨y,h3,h4⟩:=b_.mp h2;exact kq (⟨x,y,h1,h3,h4⟩)
theorem Gd.frm{K:Fg}{Z' H0 H H':Hp}{g:Gr}{d:D}{v:V}(s:aH H0 H)(h:Gd K Z' H H' g d v):Gd K Z' H0 H' g d v:=by
 cases g with
 | pk=>exact h
 | cl=>exact h
 | nw=>obtain⟨a,vs,ds,e1,e2,e3,e4⟩:=h;exact⟨a,vs,ds,e1,e2,s.free e3,e4⟩
 | nd=>obtain⟨a,ks,e1,e2,e3,e4⟩:=h;exact⟨a,ks,e1,e2,s.free e3,e4⟩
 | nm=>obtain⟨a,th,ks,ds,e1,e2,e3,e4⟩:=h;exact⟨a,th,ks,ds,e1,e2,s.free e3,e4⟩
def cb(K:Fg)(g:Gr)(b:D->D->Xr)(r:R2):Prop:=
 ∀{Z H:Hp}{x y:V}{dx dy d:D}{Q:VK},aH Z H->Gd K Z H H .pk dx x->Gd K Z H H .pk dy y->b dx dy=some d->(∀v Z' H',Ex Z H Z' H'->Gd K Z' H H' g d v->Q v H')->r x y H Q
theorem fK{K:Fg}{g ga gb:Gr}{b:D->D->Xr}{r:R2}(hb:cb K g b r){fa fb:Fe}{σ:L2.St}{H:Hp}{Q:VK}(h:T K g (ao b fa fb) σ H Q):E8 r (T K ga fa) (T K gb fb) σ H Q:=by
 refine cO λ_ kq=>?_;obtain⟨env,B,Z,d,R,e,k⟩:=h;obtain⟨dx,dy,h1,h2,h3⟩:=tj e;refine kq (⟨env,B,Z,dx,R,h1,λv Z1 H1 x1 g1=>⟨env,B,Z1,dy,R.ext x1,h2,λu Z2 H2 x2 g2=>?_⟩⟩)
 all_goals clear kq
 refine hb x2.zh (g1.later x2) (show Gd K Z2 H2 H2 .pk dy u from g2.pk) h3 λw Z3 H3 x3 g3=>?_;exact k w Z3 H3 ((x1.trans x2).trans x3) (Gd.frm (x1.h.trans x2.h) g3)
theorem og(ho:gy X (binaryOp op) r)(hd:cb X.K g b r)(ha:PD X ga l fa)(hb:PD X gb rr fb) :
  PD X g (.BinOp l op rr pos) (ao b fa fb):=PE.imp (xM ho ha hb) λ_ _ _ h=>fK hd h
theorem Bx(ho:gy X (compareOp op) r)(hd:cb X.K g b r)(ha:PD X ga l fa)(hb:PD X gb rr fb)(hm:behindInMarks op rr=false:=by rfl) :
  PD X g (.Compare l [op] [rr] pos) (ao b fa fb):=PE.imp (ER ho ha hb hm) λ_ _ _ h=>fK hd h
def Q2:D->Option Bool
 | .bl b=>some b
 | _=>none
def fB(f:Fe):Fb:=λenv=>(f env).bind Q2
theorem BN(h:Q2 d=some b):d=.bl b:=by
 cases d<;>cases h;rfl
theorem Cb{K:Fg}{g:Gr}{f:Fe}{σ:L2.St}{H:Hp}{Q:Bool->Hp->Prop}(h:TB K (fB f) σ H Q):T K g f σ H (λx H'=>∃k,x=.bl k/\Q k H'):=by
 refine cO λ_ kq=>?_;obtain⟨env,B,Z,b,R,e,k⟩:=h;obtain⟨d,h1,h2⟩:=b_.mp e;cases BN h2;exact kq (⟨env,B,Z,_,R,h1,λv Z' H' x g=>⟨b,g.bl,k Z' H' x⟩⟩)
theorem kT(ho:gy X (compareOp op) r)(hd:cb X.K .cl b r)(ha:PD X ga l fa)(hb:PD X gb rr fb)(hm:behindInMarks op rr=false:=by rfl) :
  PB X (.Compare l [op] [rr] pos) (fB (ao b fa fb)):=PT.imp (DK ho ha hb hm) λ_ _ _ h=>fK hd (Cb h)
theorem GU(h:PD X g e f)(he:∀whole,isTrue e X.env whole=(do let v <- whole;standAt e.pos;holding [v] (truthy v)):=by intro _;rfl):PB X e (fB f):=
 PT.imp (J6 h he) λ_ _ _ h=>Cb h
def iF(g:Int->Int->D):D->D->Xr
 | .int i,.int j=>some (g i j)
 | _,_=>none
theorem hJ{K:Fg}{g:Int->Int->V}{g':Int->Int->D}(hg:∀Z i j,Rep K Z (g' i j) (g i j)):cb K .cl (iF g') (vW g):=λ{Z H x y dx dy d Q} s h1 h2 e k=>by
 cases dx<;>try cases e
 all_goals (cases dy<;>cases e)
 exact⟨_,_,h1.int,h2.int,k _ Z H (Ex.refl s) (hg _ _ _)⟩
def M9(c:Int->Int->Bool)(g:Int->Int->D):D->D->Xr
 | .int i,.int j=>if c i j then some (g i j)else none
 | _,_=>none
theorem mz{K:Fg}{C:Int->Int->Prop}{c:Int->Int->Bool}{g:Int->Int->V}{g':Int->Int->D}(hc:∀i j,c i j=true->C i j)(hg:∀Z i j,Rep K Z (g' i j) (g i j)):cb K .cl (M9 c g') (rI C g):=λ{Z H x y dx dy d Q} s h1 h2 e k=>by
 cases dx<;>try cases e
 all_goals (cases dy<;>try cases e)
 rename_i i j;have e':(if c i j=true then some (g' i j)else none)=some d:=e
 by_cases Dx:c i j=true
 .rw[j_ Dx]at e';cases e';exact⟨_,_,h1.int,h2.int,hc _ _ Dx,k _ Z H (Ex.refl s) (hg _ _ _)⟩
 .rw[k_ Dx]at e';cases e'
abbrev addI:=iF λi j=>.int (i+j)
abbrev subI:=iF λi j=>.int (i-j)
abbrev ltI:=iF λi j=>.bl (decide (i<j))
abbrev leI:=iF λi j=>.bl (decide (i<=j))
abbrev gtI:=iF λi j=>.bl (decide (j<i))
def big(i:Int):Bool:=decide (i.natAbs<2 ^ 4096)
abbrev mulI:=M9 (λi j=>(big i&&big j)) λi j=>.int (i*j)
abbrev fdivI:=M9 (λ_ j=>decide (0<j/\j<1073741824)) λi j=>.int (i/j)
abbrev modI:=M9 (λ_ j=>decide (0<j)) λi j=>.int (i%j)
abbrev powI:=M9 (λi j=>big i&&decide (0<=j/\j<=1000)) λi j=>.int (i ^ j.toNat)
theorem MA{K:Fg}:cb K .cl addI (vW λi j=>.int (i+j)):=hJ (by intro _ _ _;rfl)
theorem Lo{K:Fg}:cb K .cl subI (vW λi j=>.int (i-j)):=hJ (by intro _ _ _;rfl)
theorem Kd{K:Fg}:cb K .cl ltI (vW λi j=>.bl (decide (i<j))):=hJ (by intro _ _ _;rfl)
theorem IY{K:Fg}:cb K .cl leI (vW λi j=>.bl (decide (i<=j))):=hJ (by intro _ _ _;rfl)
theorem OZ{K:Fg}:cb K .cl gtI (vW λi j=>.bl (decide (j<i))):=hJ (by intro _ _ _;rfl)
theorem Jo{K:Fg}:cb K .cl fdivI (rI MD λi j=>.int (i/j)):=mz (λi j h=>Sy h) (by intro _ _ _;rfl)
theorem Ml{K:Fg}:cb K .cl modI (rI (λ_ j=>0<j) λi j=>.int (i%j)):=mz (λi j h=>Sy h) (by intro _ _ _;rfl)
theorem ma(h:big i=true):Builtin.Int.intBits i<=4096:=by
 have h':i.natAbs<2 ^ 4096:=Sy h;unfold Builtin.Int.intBits
 split
 .lia
 .rename_i hz;have hn:i.natAbs≠0:=by simpa using hz
  have:=(Nat.log2_lt hn).mpr h'
  lia
def G4(i j:Int):Prop:=big i=true/\big j=true
theorem FP:gy X (binaryOp .Mult) (rI G4 λi j=>.int (i*j)):=MP λ_ _ _ _ _ _ _ hc q=>mul_int q (.of_bits (B_ (ma hc.1) (by decide)) (B_ (ma hc.2) (by decide)))
theorem Nn{K:Fg}:cb K .cl mulI (rI G4 λi j=>.int (i*j)):=mz (λi j h=>by
 simp only[F_]at h;exact h) (by intro _ _ _;rfl)
def GP(i j:Int):Prop:=big i=true/\0<=j/\j<=1000
theorem Fc:gy X (binaryOp .Pow) (rI GP λi j=>.int (i ^ j.toNat)):=MP λi j _ _ _ _ _ hc q=>pow_int hc.2.1 (by
 have h1:(Builtin.Int.intBits i:Int)<=4096:=by have:=ma hc.1;lia
 have h2:(Builtin.Int.intBits i:Int)*j<=4096*1000:=Int.mul_le_mul h1 hc.2.2 hc.2.1 (by decide);exact Vz h2 (by decide)) q
theorem L4{K:Fg}:cb K .cl powI (rI GP λi j=>.int (i ^ j.toNat)):=mz (λi j h=>by
 simp only[F_,C_]at h;exact⟨h.1,h.2.1,h.2.2⟩) (by intro _ _ _;rfl)
variable {l r c:Xk}{fa fb fc:Fe}{ga gb gc:Gr}{pos:Pos}
theorem a8(ha:PD X ga l fa)(hb:PD X gb r fb):PD X .cl (.BinOp l .Add r pos) (ao addI fa fb):=og Kj MA ha hb
theorem kU(ha:PD X ga l fa)(hb:PD X gb r fb):PD X .cl (.BinOp l .Sub r pos) (ao subI fa fb):=og Iu Lo ha hb
theorem oY(ha:PD X ga l fa)(hb:PD X gb r fb):PD X .cl (.BinOp l .Mult r pos) (ao mulI fa fb):=og FP Nn ha hb
theorem qI(ha:PD X ga l fa)(hb:PD X gb r fb):PD X .cl (.BinOp l .FloorDiv r pos) (ao fdivI fa fb):=og Ej Jo ha hb
theorem bV(ha:PD X ga l fa)(hb:PD X gb r fb):PD X .cl (.BinOp l .Mod r pos) (ao modI fa fb):=og Ij Ml ha hb
theorem wC(ha:PD X ga l fa)(hb:PD X gb r fb):PD X .cl (.BinOp l .Pow r pos) (ao powI fa fb):=og Fc L4 ha hb
theorem Lk(ha:PD X ga l fa)(hb:PD X gb r fb):PB X (.Compare l [.Lt] [r] pos) (fB (ao ltI fa fb)):=kT CJ Kd ha hb (gN _)
theorem MQ(ha:PD X ga l fa)(hb:PD X gb r fb):PB X (.Compare l [.LtE] [r] pos) (fB (ao leI fa fb)):=kT BW IY ha hb (gN _)
theorem Mu(ha:PD X ga l fa)(hb:PD X gb r fb):PB X (.Compare l [.Gt] [r] pos) (fB (ao gtI fa fb)):=kT MX OZ ha hb (gN _)
def br(g:D->Xr)(f:Fe):Fe:=λenv=>(f env).bind g
def iH:D->Xr
 | .int i=>some (.int (-i))
 | _=>none
theorem ji(ha:PD X ga l fa):PD X .cl (.UnaryOp .USub l pos) (br iH fa):=PE.imp (Hc CM ha) λσ H Q aC=>by
 refine cO λ_ kq=>?_;obtain⟨env,B,Z,d,R,e,k⟩:=aC;obtain⟨x,h1,h2⟩:=b_.mp e;refine kq (⟨env,B,Z,x,R,h1,λv Z1 H1 x1 g1=>?_⟩)
 all_goals clear kq
 cases x<;>cases h2;exact⟨_,g1.int,k _ Z1 H1 x1 rfl⟩
def IC(f g:Fe):Fe:=λenv=>(f env).bind λx=>match x with | .bl true=>some (.bl true) | .bl false=>g env | _=>none
variable {rest:W5}{fr:Fe}{gr:Gr}
theorem MN{op}(ha:PD X ga l fa):PD X ga (.BoolOp op [l] pos) fa:=IJ ha
theorem Ll(ha:PD X ga l fa)(hb:PD X .cl (.BoolOp .Or (r::rest) pos) fr):PD X .cl (.BoolOp .Or (l::r::rest) pos) (IC fa fr):=PE.imp (LB ha hb) λσ H Q aC=>by
 refine cO λ_ kq=>?_;obtain⟨env,B,Z,d,R,e,k⟩:=aC;obtain⟨x,h1,h2⟩:=b_.mp e;refine kq (⟨env,B,Z,x,R,h1,λv Z1 H1 x1 g1=>?_⟩)
 all_goals clear kq
 cases x with
 | bl b=>
  refine⟨b,g1.bl,?_⟩;cases b with
  | false=>exact yO ⟨env,B,Z1,d,R.ext x1,h2,λu Z2 H2 x2 g2=>k u Z2 H2 (x1.trans x2) g2⟩
  | true=>cases h2;exact zC (k _ Z1 H1 x1 rfl)
 | _=>cases h2
def jH(f g:Fb):Fb:=λenv=>(f env).bind λx=>if x=true then g env else some false
def Dm(f g:Fb):Fb:=λenv=>(f env).bind λx=>if x=true then some true else g env
def y6(f:Fb):Fb:=λenv=>(f env).bind λx=>some !x
variable {ta tb:Fb}
theorem u6(ha:PB X l ta):HJ X (.BoolOp .And [l] pos) ta:=ES ha
theorem AO(ha:PB X l ta):HJ X (.BoolOp .Or [l] pos) ta:=H8 ha
theorem w_and(ha:PB X l ta)(hb:HJ X (.BoolOp .And (r::rest) pos) tb):HJ X (.BoolOp .And (l::r::rest) pos) (jH ta tb):=PW.imp (JA ha hb) λσ H Q aC=>by
 refine cO λ_ kq=>?_;obtain⟨env,B,Z,d,R,e,k⟩:=aC;obtain⟨x,h1,h2⟩:=b_.mp e;refine kq (⟨env,B,Z,x,R,h1,λZ1 H1 x1=>?_⟩)
 all_goals clear kq
 cases x with
 | true=>rw[j_ rfl]at h2;exact zC ⟨env,B,Z1,d,R.ext x1,h2,λZ2 H2 x2=>k Z2 H2 (x1.trans x2)⟩
 | false=>rw[k_ (by simp)]at h2;cases h2;exact yO (k Z1 H1 x1)
theorem w_or(ha:PB X l ta)(hb:HJ X (.BoolOp .Or (r::rest) pos) tb):HJ X (.BoolOp .Or (l::r::rest) pos) (Dm ta tb):=PW.imp (LS ha hb) λσ H Q aC=>by
 refine cO λ_ kq=>?_;obtain⟨env,B,Z,d,R,e,k⟩:=aC;obtain⟨x,h1,h2⟩:=b_.mp e;refine kq (⟨env,B,Z,x,R,h1,λZ1 H1 x1=>?_⟩)
 all_goals clear kq
 cases x with
 | false=>rw[k_ (by simp)]at h2;exact yO ⟨env,B,Z1,d,R.ext x1,h2,λZ2 H2 x2=>k Z2 H2 (x1.trans x2)⟩
 | true=>rw[j_ rfl]at h2;cases h2;exact zC (k Z1 H1 x1)
theorem K6(h:HJ X l ta):PB X l ta:=PW.pt h
theorem L0(ha:PB X l ta):PB X (.UnaryOp .Not l pos) (y6 ta):=PT.imp (HX ha) λσ H Q aC=>by
 refine cO λ_ kq=>?_;obtain⟨env,B,Z,d,R,e,k⟩:=aC;obtain⟨x,h1,h2⟩:=b_.mp e;cases h2;exact kq (⟨env,B,Z,x,R,h1,λZ1 H1 x1=>k Z1 H1 x1⟩)
def FV(b b':D->D->Xr)(fa fb fc:Fe):Fe:=λenv=>(fa env).bind λx=>(fb env).bind λy=>(b x y).bind λz=>match z with
 | .bl true=>(fc env).bind λw=>b' y w
 | .bl false=>some (.bl false)
 | _=>none
theorem FH{K:Fg}{b b':D->D->Xr}{r r':R2}(hb:cb K .cl b r)(zM:cb K .cl b' r'){σ:L2.St}{H:Hp}{Q:VK}(h:T K .cl (FV b b' fa fb fc) σ H Q):BR r r' (T K ga fa) (T K gb fb) (T K gc fc) σ H Q:=by
 refine cO λ_ kq=>?_;obtain⟨env,B,Z,d,R,e,k⟩:=h;obtain⟨dx,h1,e⟩:=b_.mp e;obtain⟨dy,h2,e⟩:=b_.mp e;obtain⟨dz,h3,e⟩:=b_.mp e;refine kq (⟨env,B,Z,dx,R,h1,λv Z1 H1 x1 g1=>⟨env,B,Z1,dy,R.ext x1,h2,λu Z2 H2 x2 g2=>?_⟩⟩)
 all_goals clear kq
 refine hb x2.zh (g1.later x2) (show Gd K Z2 H2 H2 .pk dy u from g2.pk) h3 λz Z3 H3 x3 g3=>?_;cases dz with
 | bl t=>
  refine⟨t,g3.bl,?_⟩;cases t with
  | false=>cases e;exact yO (k _ Z3 H3 ((x1.trans x2).trans x3) rfl)
  | true=>
   obtain⟨dw,h4,h5⟩:=b_.mp e;refine zC ⟨env,B,Z3,dw,((R.ext x1).ext x2).ext x3,h4,λw Z4 H4 x4 g4=>?_⟩;refine zM x4.zh (show Gd K Z4 H4 H4 .pk dy u from Gd.later x4 (Gd.later (H3:=H3) x3 g2)) (show Gd K Z4 H4 H4 .pk dw w from g4.pk) h5 λq Z5 H5 x5 g5=>?_;exact k q Z5 H5 (((x1.trans x2).trans x3).trans (x4.trans x5)) g5
 | _=>cases e
theorem wa(ho:gy X (compareOp op) r1)(ho':gy X (compareOp op') r2)(hd:cb X.K .cl b r1)(ya:cb X.K .cl b' r2)(ha:PD X ga l fa)(hb:PD X gb r fb)(hc:PD X gc c fc)
  (hm:lastMarks [op,op'] [r,c]=false:=by with_unfolding_all rfl):PB X (.Compare l [op,op'] [r,c] pos) (fB (FV b b' fa fb fc)):=PT.imp (BM ho ho' ha hb hc hm) λ_ _ _ h=>FH hd ya (Cb h)
end
section
variable {X:Cx}{l r c:Xk}{fa fb fc:Fe}{ga gb gc:Gr}{pos p:Pos}
def aO:D->D->Xr
 | .lst ds,.int i=>atI ds i
 | .tup ds,.int i=>atI ds i
 | _,_=>none
theorem ak.atI{K:Fg}{H:Hp}{ds:Xq}{vs:Xs}{i:Int}{d:D}(h:ak K H ds vs)(e:L2.atI ds i=some d):∃v,L2.atI vs i=some v/\Rep K H d v:=by
 unfold L2.atI at e ⊢;rw[<- h.len];refine cO λ_ kq=>?_;obtain⟨j,h1,h2⟩:=b_.mp e;obtain⟨v,h3,h4⟩:=h.get h2;exact kq (⟨v,by rw[h1];exact h3,h4⟩)
theorem Nb{K:Fg}:cb K .cl aO (λx y H Q=>Mt K x y H Q\/MR K x y H Q):=λ{Z H x y dx dy d Q} s h1 h2 e k=>by
 cases dx<;>try cases e
 all_goals (cases dy<;>try cases e)
 .rename_i ds i;refine cO λ_ kq=>?_;obtain⟨a,vs,rfl,hq,rr⟩:=h1.tup s;obtain⟨v,e1,e2⟩:=rr.atI e;exact kq (.inr ⟨a,vs,i,v,rfl,h2.int,hq,e1,k v Z H (Ex.refl s) e2⟩)
 .rename_i ds i;refine cO λ_ kq=>?_;obtain⟨a,vs,rfl,hq,rr⟩:=h1.lst s;obtain⟨v,e1,e2⟩:=rr.atI e;exact kq (.inl ⟨a,vs,i,v,rfl,h2.int,hq,e1,k v Z H (Ex.refl s) e2⟩)
theorem bg(ha:PD X ga l fa)(hb:PD X gb r fb)(hs:xF r:=by intro _ _;rfl):PD X .cl (.Subscript l r pos) (ao aO fa fb):=PE.imp (Lg (EX.or JR) ha hb hs) λ_ _ _ h=>fK Nb h
abbrev Fo:=En->Option (Option Int)
def Si(K:Fg)(f:Fo):TO:=λσ H Q=>∃env B Z o,Rl K B Z H env σ/\f env=some o/\∀Z' H',Ex Z H Z' H'->Q o H'
def Jc(X:Cx)(e:Option Xk)(f:Fo):Prop:=PO X e (Si X.K f)
theorem PO.imp(h:PO X e t)(i:∀σ H Q,t' σ H Q->t σ H Q):PO X e t':=λpins s σ H Q I q=>h pins s σ H Q I (i σ H Q q)
def oNone:Fo:=λ_=>some none
def cP(f:Fe):Fo:=λenv=>(f env).bind λd=>match d with | .int i=>some (some i) | _=>none
theorem nB:Jc X none oNone:=PO.imp Eo λσ H Q ⟨env,B,Z,o,R,e,k⟩=>by cases e;exact k Z H (Ex.refl R.zh)
theorem jY(h:PD X ga l fa):Jc X (some l) (cP fa):=PO.imp (xp h) λσ H Q aC=>by
 refine cO λ_ kq=>?_;obtain⟨env,B,Z,o,R,e,k⟩:=aC;obtain⟨d,h1,h2⟩:=b_.mp e;refine kq (⟨env,B,Z,d,R,h1,λv Z' H' x g=>?_⟩)
 all_goals clear kq
 cases d<;>cases h2;exact⟨_,g.int,k Z' H' x⟩
def cutD(ds:Xq)(lo hi:Option Int):Xq:=(ds.drop (HT.oU ds.length 0 lo)).take (HT.oU ds.length ds.length hi-HT.oU ds.length 0 lo)
theorem ak.cut{K:Fg}{H:Hp}{ds:Xq}{vs:Xs}(h:ak K H ds vs)(lo hi:Option Int):ak K H (cutD ds lo hi) (yq vs lo hi):=by
 unfold cutD yq;rw[<- h.len];exact(h.drop _).take _
def Dq(b:D->Option Int->Option Int->Xr)(f:Fe)(lo hi:Fo):Fe:=λenv=>(f env).bind λx=>(lo env).bind λi=>(hi env).bind λj=>b x i j
def fF:D->Option Int->Option Int->Xr
 | .lst ds,lo,hi=>some (.lst (cutD ds lo hi))
 | _,_,_=>none
variable {lo hi:Option Xk}{fl fh:Fo}{p2:Pos}
theorem wc(ha:PD X ga l fa)(hl:Jc X lo fl)(hh:Jc X hi fh):PD X .nw (.Subscript l (.Slice lo hi none p2) pos) (Dq fF fa fl fh):=PE.imp (CF Eh ha hl hh) λσ H Q aC=>by
 refine cO λ_ kq=>?_;obtain⟨env,B,Z,d,R,e,k⟩:=aC;obtain⟨x,h1,e⟩:=b_.mp e;obtain⟨i,h2,e⟩:=b_.mp e;obtain⟨j,h3,e⟩:=b_.mp e;cases x<;>cases e;rename_i ds;refine kq (⟨env,B,Z,_,R,h1,λv Z1 H1 x1 g1=>⟨env,B,Z1,i,R.ext x1,h2,λZ2 H2 x2=>⟨env,B,Z2,j,(R.ext x1).ext x2,h3,λZ3 H3 x3=>?_⟩⟩⟩)
 all_goals clear kq
 obtain⟨a,vs,rfl,hq,rr⟩:=Gd.lst x3.zh (Gd.later (H3:=H3) x3 (Gd.later (H3:=H3) x2 g1));refine⟨a,vs,rfl,hq,λq hp=>?_⟩;have x0:=(x1.trans x2).trans x3;exact k _ Z3 _ (x0.trans (Ex.newL x3.zh hp)) ⟨q,_,_,rfl,rfl,x0.h.free hp,ai,x3.zh.free hp,rr.cut i j⟩
def sq:D->D->Xr
 | .lst xs,.lst ys=>if xs.length+ys.length<=16000000 then some (.lst (xs++ys))else none
 | _,_=>none
theorem Jm(h:n<=16000000):n<=sizeLine:=by rw[SB];lia
theorem JY{K:Fg}:cb K .nw sq (λx y H Q=>∃l b xs zs,x=.ref l/\y=.ref b/\di K H l xs/\di K H b zs/\xs.length+zs.length<=sizeLine/\∀p,H p=none->Q (.ref p) (upd H p (.lst (xs++zs)))):=λ{Z H x y dx dy d Q} s h1 h2 e k=>by
 cases dx<;>try cases e
 all_goals (cases dy<;>try cases e)
 rename_i xs ys;obtain⟨hl,rfl⟩:=kP e
 .obtain⟨a,vs,rfl,q1,r1⟩:=h1.lst s;obtain⟨b,us,rfl,q2,r2⟩:=h2.lst s;refine⟨a,b,vs,us,rfl,rfl,q1,q2,by rw[<- r1.len,<- r2.len];exact Jm hl,λp hp=>?_⟩;exact k _ Z _ (Ex.newL s hp) ⟨p,_,_,rfl,rfl,hp,ai,s.free hp,r1.app r2⟩
def ij(K:Fg)(g:Gr)(b:D->Xr)(r:Xs->Hp->VK->Prop):Prop:=
 ∀{Z H:Hp}{x:V}{dx d:D}{Q:VK},aH Z H->Gd K Z H H .pk dx x->b dx=some d->(∀v Z' H',Ex Z H Z' H'->Gd K Z' H H' g d v->Q v H')->r [x] H Q
theorem nv{K:Fg}{g:Gr}{b:D->Xr}{rr:Xs->Hp->VK->Prop}(hb:ij K g b rr){σ:L2.St}{H:Hp}{Q:VK}(h:T K g (br b fa) σ H Q):Ob rr (ef (T K ga fa) tNil) σ H Q:=by
 refine cO λ_ kq=>?_;obtain⟨env,B,Z,d,R,e,k⟩:=h;obtain⟨x,h1,h2⟩:=b_.mp e;refine kq (⟨env,B,Z,x,R,h1,λv Z1 H1 x1 g1=>?_⟩)
 all_goals clear kq
 exact hb x1.zh (show Gd K Z1 H1 H1 .pk x v from g1.pk) h2 λw Z2 H2 x2 g2=>k w Z2 H2 (x1.trans x2) (g2.frm x1.h)
variable {x:Str}{id TT:String}{g:Gr}{b:D->Xr}{rr:Xs->Hp->VK->Prop}
theorem tw(hc:dD X (.builtin id) rr)(hd:ij X.K g b rr)(hv:bootBuiltins x=some (.builtin id))(hm:X.mg x=none)(ha:PD X ga l fa)(hn:x≠"__name__":=by decide)(kG:(x==("__debug__":Str))=false:=by decide)(hg:Gl X x:=by rfl)
  (he:starEach [l] X.env=[(false,eval l X.env)]:=by rfl):PD X g (.Call (.Name x p) [l] [] pos) (br b fa):=PE.imp (gF hc hg hm hv (aJ ha bM he) hn kG he rfl) λ_ _ _ h=>nv hd h
theorem GL(hc:dD X (.type TT) rr)(hd:ij X.K g b rr)(hv:bootBuiltins x=some (.type TT))(hm:X.mg x=none)(ha:PD X ga l fa)(hn:x≠"__name__":=by decide)(kG:(x==("__debug__":Str))=false:=by decide)(hg:Gl X x:=by rfl)
  (he:starEach [l] X.env=[(false,eval l X.env)]:=by rfl):PD X g (.Call (.Name x p) [l] [] pos) (br b fa):=PE.imp (yA hc hg hm hv (aJ ha bM he) hn kG he rfl) λ_ _ _ h=>nv hd h
def ck:D->Xr
 | .lst ds=>some (.int ds.length)
 | .tup ds=>some (.int ds.length)
 | _=>none
theorem M'{K:Fg}:ij K .cl ck (λxs H Q=>∃p ys,xs=[.ref p]/\(di K H p ys\/cy K H p ys)/\Q (.int ys.length) H):=λ{Z H x dx d Q} s h e k=>by
 cases dx<;>cases e
 .obtain⟨a,vs,rfl,q,r⟩:=h.tup s;exact⟨a,vs,rfl,.inr q,k _ Z H (Ex.refl s) (by rw[r.len];rfl)⟩
 .obtain⟨a,vs,rfl,q,r⟩:=h.lst s;exact⟨a,vs,rfl,.inl q,k _ Z H (Ex.refl s) (by rw[r.len];rfl)⟩
theorem gO(hm:X.mg "len"=none)(ha:PD X ga l fa)(hg:Gl X "len":=by rfl)(he:starEach [l] X.env=[(false,eval l X.env)]:=by rfl):PD X .cl (.Call (.Name "len" p) [l] [] pos) (br ck fa):=
 tw qV M' PySem.boot_len hm ha (by decide) (by decide) hg he
def gC:D->Xr
 | .lst ds=>some (.tup ds)
 | .tup ds=>some (.tup ds)
 | _=>none
theorem ET{K:Fg}:ij K .cl gC (λxs H Q=>∃p ys,xs=[.ref p]/\((di K H p ys/\∀l,H l=none->Q (.ref l) (upd H l (.tup ys)))\/(cy K H p ys/\Q (.ref p) H))):=λ{Z H x dx d Q} s h e k=>by
 cases dx<;>cases e
 .rename_i ds;rcases h with h | ⟨_,_,_,_,e,_⟩ | ⟨_,_,_,e,_⟩ | ⟨_,_,_,_,_,e,_⟩
  .obtain⟨a,vs,rfl,q,r⟩:=id h;exact⟨a,vs,rfl,.inr ⟨bJ s q,k _ Z H (Ex.refl s) h⟩⟩
  .cases e
  .cases e
  .cases e
 .obtain⟨a,vs,rfl,q,r⟩:=h.lst s;refine⟨a,vs,rfl,.inl ⟨q,λp hp=>?_⟩⟩;have s1:aH Z (upd Z p (.tup vs)):=cm (s.free hp);exact k _ _ _ (Ex.new s hp) ⟨p,_,rfl,cy.of ai,ak.mono s1 _ r⟩
theorem wo(hm:X.mg "tuple"=none)(ha:PD X ga l fa)(hg:Gl X "tuple":=by rfl)(he:starEach [l] X.env=[(false,eval l X.env)]:=by rfl):PD X .cl (.Call (.Name "tuple" p) [l] [] pos) (br gC fa):=
 GL n8 ET PyProof.Rows.boot_tuple hm ha (by decide) (by decide) hg he
def intD:D->Xr
 | .int i=>some (.int i)
 | .bl b=>some (.int (if b then 1 else 0))
 | _=>none
theorem MY{K:Fg}:ij K .cl intD (λxs H Q=>(∃i,xs=[.int i]/\Q (.int i) H)\/∃k,xs=[.bl k]/\Q (.int (if k then 1 else 0)) H):=λ{Z H x dx d Q} s h e k=>by
 cases dx<;>cases e
 .cases h.bl;exact .inr ⟨_,rfl,k _ Z H (Ex.refl s) rfl⟩
 .cases h.int;exact .inl ⟨_,rfl,k _ Z H (Ex.refl s) rfl⟩
theorem B2(hm:X.mg "int"=none)(ha:PD X ga l fa)(hg:Gl X "int":=by rfl)(he:starEach [l] X.env=[(false,eval l X.env)]:=by rfl):PD X .cl (.Call (.Name "int" p) [l] [] pos) (br intD fa):=
 GL yw MY PyProof.Rows.boot_int hm ha (by decide) (by decide) hg he
def xu(K:Fg)(g:Gr)(b:D->D->Xr)(r:Xs->Hp->VK->Prop):Prop:=cb K g b (λx y H Q=>r [x,y] H Q)
theorem uS{K:Fg}{g:Gr}{b:D->D->Xr}{rr:Xs->Hp->VK->Prop}(hb:xu K g b rr){σ:L2.St}{H:Hp}{Q:VK}(h:T K g (ao b fa fb) σ H Q):Ob rr (ef (T K ga fa) (ef (T K gb fb) tNil)) σ H Q:=fK hb h
variable {b2:D->D->Xr}
theorem Hd(hc:dD X (.builtin id) rr)(hd:xu X.K g b2 rr)(hv:bootBuiltins x=some (.builtin id))(hm:X.mg x=none)(ha:PD X ga l fa)(hb:PD X gb r fb)(hn:x≠"__name__":=by decide)(kG:(x==("__debug__":Str))=false:=by decide)(hg:Gl X x:=by rfl)
  (he:starEach [l,r] X.env=(false,eval l X.env)::starEach [r] X.env:=by rfl) (vX:starEach [r] X.env=[(false,eval r X.env)]:=by rfl) (eR:(backTo pos (starEach [r] X.env)).any (·.1)=false:=by rfl):PD X g (.Call (.Name x p) [l,r] [] pos) (ao b2 fa fb):=
 PE.imp (gF hc hg hm hv (aJ ha (aJ hb bM vX) he) hn kG he eR) λ_ _ _ h=>uS hd h
abbrev maxI:=iF λi j=>.int (if j>i then j else i)
abbrev minI:=iF λi j=>.int (if j<i then j else i)
theorem Nh{K:Fg}:xu K .cl maxI (λxs H Q=>∃i j,xs=[.int i,.int j]/\Q (.int (if j>i then j else i)) H):=λ{Z H x y dx dy d Q} s h1 h2 e k=>by
 cases dx<;>try cases e
 all_goals (cases dy<;>cases e)
 cases h1.int;cases h2.int;exact⟨_,_,rfl,k _ Z H (Ex.refl s) rfl⟩
theorem Nl{K:Fg}:xu K .cl minI (λxs H Q=>∃i j,xs=[.int i,.int j]/\Q (.int (if j<i then j else i)) H):=λ{Z H x y dx dy d Q} s h1 h2 e k=>by
 cases dx<;>try cases e
 all_goals (cases dy<;>cases e)
 cases h1.int;cases h2.int;exact⟨_,_,rfl,k _ Z H (Ex.refl s) rfl⟩
theorem B4(hm:X.mg "max"=none)(bp:X.calm=true)(ha:PD X ga l fa)(hb:PD X gb r fb)(hg:Gl X "max":=by rfl)(he:starEach [l,r] X.env=(false,eval l X.env)::starEach [r] X.env:=by rfl)(vX:starEach [r] X.env=[(false,eval r X.env)]:=by rfl)(eR:(backTo pos (starEach [r] X.env)).any (·.1)=false:=by rfl) :
  PD X .cl (.Call (.Name "max" p) [l,r] [] pos) (ao maxI fa fb):=Hd (yv bp) Nh PyProof.Rows.boot_max hm ha hb (by decide) (by decide) hg he vX eR
theorem ML(hm:X.mg "min"=none)(bp:X.calm=true)(ha:PD X ga l fa)(hb:PD X gb r fb)(hg:Gl X "min":=by rfl)(he:starEach [l,r] X.env=(false,eval l X.env)::starEach [r] X.env:=by rfl)(vX:starEach [r] X.env=[(false,eval r X.env)]:=by rfl)(eR:(backTo pos (starEach [r] X.env)).any (·.1)=false:=by rfl) :
  PD X .cl (.Call (.Name "min" p) [l,r] [] pos) (ao minI fa fb):=Hd (yp bp) Nl PyProof.Rows.boot_min hm ha hb (by decide) (by decide) hg he vX eR
def Ao(K:Fg)(n:Nat)(g:Gr)(m:Xq->Xr):Sp:=λvs H Q _=>∃Z ds d,ds.length=n/\aH Z H/\ak K Z ds vs/\m ds=some d/\∀v Z' H',Ex Z H Z' H'->Gd K Z' H H' g d v->Q v H'
structure NL(P:Program)(w:World)(K:Fg)(mg:Str->Option Value)(base:Heap)(k:Nat)(x:Str)(n:Nat)(g:Gr)(m:List D->Option D):Prop where
 ex:∃f fd ps,ps.length=n/\dj P w K mg base jR k f fd ps (Ao K n g m)/\mg x=some (.ref f)/\PySem.W.keepIn K (.ref f)=true/\Binds K fd ps []
variable {m:Xq->Xr}{k n:Nat}{es:W5}{fs:Fes}
theorem vm(C:NL X.prog X.w X.K X.mg X.base k x n g m)(hr:a9 k X.A)(hl:PL X (l::es) fs)(hn:(l::es).length=n:=by rfl)(hg:Gl X x:=by rfl)(kG:(x==("__debug__":Str))=false:=by decide)
  (he:starEach (l::es) X.env=(false,eval l X.env)::starEach es X.env:=by rfl) (eR:(backTo pos (starEach es X.env)).any (·.1)=false:=by rfl):PD X g (.Call (.Name x p) (l::es) [] pos) (λenv=>(fs env).bind m):=by
 obtain⟨f,fd,ps,hps,F,hm,hk,hb⟩:=C.ex;refine PE.imp (EV F hr hg hm hk hb .nil Nt hl.p kG he eR) λσ H Q aC=>?_;refine cO λ_ kq=>?_;obtain⟨env,B,Z,d,R,e,kk⟩:=aC;obtain⟨ds,h1,h2⟩:=b_.mp e;refine kq (⟨env,B,Z,ds,R,h1,λvs Z1 H1 x1 r=>?_⟩)
 all_goals clear kq
 show Ao X.K n g m (vs++[]) H1 Q E0;rw[SG];exact⟨Z1,ds,d,by rw[hl.l env ds h1];exact hn,x1.zh,r,h2,λv Z' H' x2 g2=>kk v Z' H' (x1.trans x2) (g2.frm x1.h)⟩
end
inductive Out where
 | nx (env:En) | rt (d:D) | bk (env:En) | ct (env:En)
abbrev Fs:=En->Option Out
def so(K:Fg)(rg:Gr)(B Z:Hp)(E:Ends):Out->Prop
 | .nx env'=>∀σ' Z' H',Ex Z B Z' H'->Rl K B Z' H' env' σ'->E.nx σ' H'
 | .bk env'=>∀σ' Z' H',Ex Z B Z' H'->Rl K B Z' H' env' σ'->E.bk σ' H'
 | .ct env'=>∀σ' Z' H',Ex Z B Z' H'->Rl K B Z' H' env' σ'->E.ct σ' H'
 | .rt d=>∀v Z' H',Ex Z B Z' H'->Gd K Z' B H' rg d v->E.rt v H'
def KW(K:Fg)(rg:Gr)(f:Fs):TS:=λE σ H=>∃env B Z o,Rl K B Z H env σ/\f env=some o/\so K rg B Z E o
def SD(X:Cx)(rg:Gr)(st:Xl)(f:Fs):Prop:=PS X st (KW X.K rg f)
def uP(X:Cx)(rg:Gr)(st:W6)(f:Fs):Prop:=PSs X st (KW X.K rg f)
section
variable {X:Cx}{rg:Gr}{st:Xl}{rR:W6}{f g:Fs}{pos:Pos}
theorem PS.imp(h:PS X st t)(i:∀E σ H,t' E σ H->t E σ H):PS X st t':=λpins s σ H E I q=>h pins s σ H E I (i E σ H q)
theorem PSs.imp(h:PSs X rR t)(i:∀E σ H,t' E σ H->t E σ H):PSs X rR t':=λpins s σ H E I q=>h pins s σ H E I (i E σ H q)
theorem so.later{K:Fg}{B Z Z1 H1:Hp}{E:Ends}{o:Out}(x:Ex Z B Z1 H1)(h:so K rg B Z E o):so K rg B Z1 E o:=by
 cases o with
 | nx e=>exact λσ' Z' H' y=>h σ' Z' H' (x.transB y)
 | bk e=>exact λσ' Z' H' y=>h σ' Z' H' (x.transB y)
 | ct e=>exact λσ' Z' H' y=>h σ' Z' H' (x.transB y)
 | rt e=>exact λv Z' H' y=>h v Z' H' (x.transB y)
def nxF:Fs:=λenv=>some (.nx env)
def aI(f g:Fs):Fs:=λenv=>(f env).bind λo=>match o with | .nx e=>g e | o=>some o
theorem cE:uP X rg [] nxF:=PSs.imp FU λE σ H ⟨env,B,Z,o,R,e,k⟩=>by cases e;exact k σ Z H ⟨R.bh,aH.refl _,R.zh,λ_ _ h=>h,λ_ _ _ h=>h⟩ R
theorem ay(h1:SD X rg st f)(h2:uP X rg rR g):uP X rg (st::rR) (aI f g):=PSs.imp (gR h1 h2) λE σ H aC=>by
 refine cO λ_ kq=>?_;obtain⟨env,B,Z,o,R,e,k⟩:=aC;obtain⟨o1,e1,e2⟩:=b_.mp e;refine kq (⟨env,B,Z,o1,R,e1,?_⟩)
 all_goals clear kq
 cases o1 with
 | nx Gu=>exact λσ' Z' H' x R'=>⟨Gu,B,Z',o,R',e2,k.later x⟩
 | rt d=>cases e2;exact k
 | bk d=>cases e2;exact k
 | ct d=>cases e2;exact k
theorem aF(h1:SD X rg st f):uP X rg [st] f:=jr h1
def zl(i:Nat):Fs:=λenv=>match env[i]? with
 | some (.O w)=>some (.nx (env.set i (.F w.d)))
 | some (.F d)=>some (.nx env)
 | _=>none
theorem xP(i:Nat)(h:uP X rg rR g):uP X rg rR (aI (zl i) g):=PSs.imp h λE σ H aC=>by
 obtain⟨env,B,Z,o,R,e,k⟩:=aC;obtain⟨o1,e1,e2⟩:=b_.mp e;unfold zl at e1
 split at e1
 .rename_i ds hi;cases e1;obtain⟨Z',R',x⟩:=R.frz hi;exact⟨_,B,Z',o,R',e2,k.later x⟩
 .cases e1;exact⟨env,B,Z,o,R,e2,k⟩
 .cases e1
def bY(f:Fe):Fs:=λenv=>(f env).bind λd=>some (.rt d)
theorem bA{e:Xk}{f:Fe}(h:PD X rg e f):SD X rg (.Return (some e) pos) (bY f):=PS.imp (qR h) λE σ H aC=>by
 refine cO λ_ kq=>?_;obtain⟨env,B,Z,o,R,e,k⟩:=aC;obtain⟨d,e1,e2⟩:=b_.mp e;cases e2;exact kq (⟨env,B,Z,d,R,e1,λv Z' H' x g=>k v Z' H' (x.part R.bh) (g.frm R.bh)⟩)
def yE(i:Nat):Fs:=λenv=>match env[i]? with
 | some (.O (.L ds))=>some (.rt (.lst ds))
 | _=>none
theorem qY(i:Nat)(hN:X.N[i]?=some x:=by rfl)(hv:wH X.env.scope x:=by first | exact Or.inl rfl | exact Or.inr (Or.inl rfl) | exact Or.inr (Or.inr rfl))(hd:(x==("__debug__":Str))=false:=by decide)
  (dQ:(x==("__classdict__":Str))=false:=by decide):SD X .nw (.Return (some (.Name x p)) pos) (yE i):=PS.imp (qR (bI hN hv hd dQ)) λE σ H aC=>by
 obtain⟨env,B,Z,o,R,e,k⟩:=aC;unfold yE at e
 split at e
 .rename_i ds hi;cases e;obtain⟨y,e1,a,o,e2,e3,e4,vs,rfl,r⟩:=R.sl i _ hi;subst e2;exact⟨_,e1,k _ Z H ⟨R.bh,aH.refl _,R.zh,λ_ _ h=>h,λ_ _ _ h=>h⟩ ⟨a,vs,ds,rfl,rfl,R.ob i _ a hi e1,e3,e4,r⟩⟩
 .cases e
def kX(t:Fb)(f g:Fs):Fs:=λenv=>(t env).bind λb=>if b=true then f env else g env
theorem fQ(hc:PB X c t)(ha:uP X rg a f)(hb:uP X rg b g):SD X rg (.If c a b pos) (kX t f g):=PS.imp (GV hc ha hb) λE σ H aC=>by
 refine cO λ_ kq=>?_;obtain⟨env,B,Z,o,R,e,k⟩:=aC;obtain⟨x,e1,e2⟩:=b_.mp e;refine kq (⟨env,B,Z,x,R,e1,λZ1 H1 x1=>?_⟩)
 all_goals clear kq
 cases x with
 | true=>rw[j_ rfl]at e2;exact zC ⟨env,B,Z1,o,R.ext x1,e2,k.later (x1.part R.bh)⟩
 | false=>rw[k_ (by simp)]at e2;exact yO ⟨env,B,Z1,o,R.ext x1,e2,k.later (x1.part R.bh)⟩
def setF(i:Nat)(f:Fe):Fs:=λenv=>(f env).bind λd=>some (.nx (env.set i (.F d)))
def setO(i:Nat)(f:Fe):Fs:=λenv=>(f env).bind λd=>match d with | .lst ds=>some (.nx (env.set i (.O (.L ds)))) | _=>none
theorem CK{f:Fe}{i:Nat}{E:Ends}{σ:L2.St}{H:Hp}(h:KW X.K rg (setF i f) E σ H):uV (T X.K .cl f) (mE i) E σ H:=by
 refine cO λ_ kq=>?_;obtain⟨env,B,Z,o,R,e,k⟩:=h;obtain⟨d,e1,e2⟩:=b_.mp e;cases e2;exact kq (⟨env,B,Z,d,R,e1,λv Z' H' x g=>k _ Z' H' (x.part R.bh) ((R.ext x).setF i g)⟩)
theorem zB{f:Fe}{i:Nat}{E:Ends}{σ:L2.St}{H:Hp}(h:KW X.K rg (setO i f) E σ H):uV (T X.K .nw f) (mE i) E σ H:=by
 refine cO λ_ kq=>?_;obtain⟨env,B,Z,o,R,e,k⟩:=h;obtain⟨d,e1,e2⟩:=b_.mp e;cases d<;>cases e2;rename_i ds;refine kq (⟨env,B,Z,_,R,e1,λv Z' H' x g=>?_⟩)
 all_goals clear kq
 obtain⟨a,vs,NK,rfl,e3,h1,h2,h3,r⟩:=g;cases e3;refine k _ Z' H' (x.part R.bh) ((R.ext x).setO i (R.bh.free h1) h3 h2 ⟨vs,rfl,r⟩ λj es hj hje hja=>?_);obtain⟨y,e4,b,us,e5,e6,_⟩:=R.sl j _ hje;rw[hja]at e4;cases e4;cases e5;rw[h1]at e6;cases e6
section
variable {x:Str}{e:Xk}{fe:Fe}{pos':Pos}
theorem bf(i:Nat)(he:PD X .cl e fe)(hN:X.N.Nodup)(hi:X.N[i]?=some x:=by rfl)(hx:Loc X.env.scope x:=by first | exact Or.inl rfl | exact Or.inr rfl)(hs:swapsWith e (some (.Name x pos')) pos.line X.env=pure false:=by rfl)
  (hf:X.fn x=true\/X.env.scope.names.lookup x=some .local:=by first | exact .inl rfl | exact .inr rfl | assumption):SD X rg (.Assign [.Name x pos'] e pos) (setF i fe):=PS.imp (fW hN hi hx he hs hf) λE σ H h=>CK h
theorem iR(i:Nat)(he:PD X .nw e fe)(hN:X.N.Nodup)(hi:X.N[i]?=some x:=by rfl)(hx:Loc X.env.scope x:=by first | exact Or.inl rfl | exact Or.inr rfl)(hs:swapsWith e (some (.Name x pos')) pos.line X.env=pure false:=by rfl)
  (hf:X.fn x=true\/X.env.scope.names.lookup x=some .local:=by first | exact .inl rfl | exact .inr rfl | assumption):SD X rg (.Assign [.Name x pos'] e pos) (setO i fe):=PS.imp (fW hN hi hx he hs hf) λE σ H h=>zB h
end
def iJ(i:Nat)(f:Fe):Fs:=λenv=>match env[i]? with
 | some (.O (.L ds))=>(f env).bind λd=>if ds.length<16000000 then some (.nx (env.set i (.O (.L (ds++[d])))))else none
 | _=>none
theorem nz(i:Nat)(he:PD X .cl e fe)(hN:X.N[i]?=some x:=by rfl)(hv:wH X.env.scope x:=by first | exact Or.inl rfl | exact Or.inr (Or.inl rfl) | exact Or.inr (Or.inr rfl))
  (hd:(x==("__debug__":Str))=false:=by decide) (dQ:(x==("__classdict__":Str))=false:=by decide) (hst:starEach [e] X.env=[(false,eval e X.env)]:=by rfl)
  (jK:attributeBase (.Name x px) "append" X.env (eval (.Name x px) X.env)=eval (.Name x px) X.env:=by rfl)
  (CU:((backTo be (starEach [e] X.env)).all (λx=>!x.1)&&(backToKw be (keywordEach [] X.env)).all (λx=>x.1.isSome)
   && decide (([e]:W5).length+([]:List Keyword).length+(if([]:List Keyword).isEmpty then 0 else 1)<30))=true:=by rfl)
  (jL:(apos.endLine==be.line)=true:=by rfl)
  (hs:swapsWith (.Call (.Attribute (.Name x px) "append" apos) [e] [] be) none pos.line X.env=pure false:=by rfl) :
  SD X rg (.Expr (.Call (.Attribute (.Name x px) "append" apos) [e] [] be) pos) (iJ i fe):=by
 refine PS.imp (i5 (GO PySem.F.plainAttrs_list PySem.F.slot_list_append PySem.F.type_list_append pY (bI hN hv hd dQ) (aJ he bM hst) jK CU jL hst rfl) hs) λE σ H aC=>?_;obtain⟨env,B,Z,o,R,e,k⟩:=aC;unfold iJ at e
 split at e
 .rename_i ds hi;obtain⟨d,e1,e2⟩:=b_.mp e;obtain⟨hl,rfl⟩:=kP e2
  .obtain⟨y,e3,a,o,e4,e5,e6,vs,rfl,r⟩:=R.sl i _ hi;subst e4;refine⟨_,e3,.inl ⟨rfl,vs,di.of e5⟩,env,B,Z,d,R,e1,λv Z1 H1 x1 g1=>?_⟩;have R1:=R.ext x1;have r1:=ak.mono x1.z ds r;have ha:=x1.h _ _ e5;refine⟨a,vs,v,rfl,rfl,ha,by rw[<- r.len,SB];lia,?_⟩;obtain⟨R2,x2⟩:=R1.wr hi e3 (bU.l (r1.app (ak.one g1)));exact k σ Z1 _ ((x1.part R.bh).transB x2) R2
 .cases e
def xt(i:Nat)(fk fe:Fe):Fs:=λenv=>(fe env).bind λd=>match env[i]? with
 | some (.O (.L ds))=>(fk env).bind λkd=>match kd with
  | .int j=>(vS ds.length j).bind λn=>some (.nx (env.set i (.O (.L (ds.set n d)))))
  | _=>none
 | _=>none
theorem Ey(i:Nat)(he:PD X .cl e fe)(hk:PD X gk ke fk)(hN:X.N[i]?=some x:=by rfl)(hv:wH X.env.scope x:=by first | exact Or.inl rfl | exact Or.inr (Or.inl rfl) | exact Or.inr (Or.inr rfl))
  (hd:(x==("__debug__":Str))=false:=by decide) (dQ:(x==("__classdict__":Str))=false:=by decide)
  (ha:∀v,assign (.Subscript (.Name x px) ke p2) X.env v=(do
   let ov <- holding [v] (eval (.Name x px) X.env)
   let iv <- holding [v,ov] (eval ke X.env)
   standAt p2
   holding [v,ov,iv] (setItem ov iv v)
   release [v,ov,iv] []):=by intro _;rfl)
  (hs:swapsWithSole [.Subscript (.Name x px) ke p2] e pos.line X.env=pure false:=by rfl) (hw:swappedStores [.Subscript (.Name x px) ke p2] e X.env=pure none:=by rfl)
  (h1:(assignEach [.Subscript (.Name x px) ke p2] X.env).map (·.2)=[assign (.Subscript (.Name x px) ke p2) X.env]:=by rfl) :
  SD X rg (.Assign [.Subscript (.Name x px) ke p2] e pos) (xt i fk fe):=by
 refine PS.imp (vk he (Kg (bI hN hv hd dQ) hk set_list ha) hs hw h1) λE σ H aC=>?_;refine cO λ_ kq=>?_;obtain⟨env,B,Z,o,R,e,k⟩:=aC;obtain⟨d,e1,e⟩:=b_.mp e;refine kq (⟨env,B,Z,d,R,e1,λv Z1 H1 x1 g1=>?_⟩)
 all_goals clear kq
 split at e
 .rename_i ds hi;refine cO λ_ kq=>?_;obtain⟨kd,e2,e⟩:=b_.mp e;cases kd<;>try cases e
  rename_i j;obtain⟨n,e3,e⟩:=b_.mp e;cases e;have R1:=R.ext x1;obtain⟨y,e4,a,o,e5,e6,e7,vs,rfl,r⟩:=R1.sl i _ hi;subst e5;refine kq (⟨_,e4,env,B,Z1,_,R1,e2,λkv Z2 H2 x2 g2=>?_⟩)
  all_goals clear kq
  have R2:=R1.ext x2;refine⟨a,vs,j,n,rfl,g2.int,x2.h _ _ e6,by rw[<- r.len];exact e3,?_⟩;obtain⟨R3,x3⟩:=R2.wr hi e4 (bU.l ((ak.mono x2.z ds r).set (Rep.mono x2.z d g1) n));exact k σ Z2 _ (((x1.trans x2).part R.bh).transB x3) R3
 .cases e
end
abbrev Ft:=D->En->Option En
def Sf(K:Fg)(t:Ft):TG:=λv σ H Q=>∃env B Z d env',Rl K B Z H env σ/\Rep K Z d v/\t d env=some env'/\∀σ' Z' H',Ex Z H Z' H'->Rl K B Z' H' env' σ'->Q σ' H'
def GD(X:Cx)(tg:Xk)(t:Ft):Prop:=PG X tg (Sf X.K t)
section
variable {X:Cx}{rg:Gr}
theorem PG.imp(h:PG X e t)(i:∀v σ H Q,t' v σ H Q->t v σ H Q):PG X e t':=λpins s σ H v u Q I r q=>h pins s σ H v u Q I r (i v σ H Q q)
def b9(i:Nat):Ft:=λd env=>some (env.set i (.F d))
theorem aR(i:Nat)(hN:X.N.Nodup)(hi:X.N[i]?=some x:=by rfl)(hx:Loc X.env.scope x:=by first | exact Or.inl rfl | exact Or.inr rfl)
  (hf:X.fn x=true\/X.env.scope.names.lookup x=some .local:=by first | exact .inl rfl | exact .inr rfl | assumption):GD X (.Name x pos) (b9 i):=PG.imp (xS hN hi hx hf) λv σ H Q aC=>by
 obtain⟨env,B,Z,d,env',R,r,e,k⟩:=aC;cases e;exact k _ Z H (Ex.refl R.zh) (R.setF i r)
def d9:W7->Xq->En->Option En
 | [],[],env=>some env
 | i::is,d::ds,env=>d9 is ds (env.set i (.F d))
 | _,_,_=>none
def PR(K:Fg)(is:W7):TGs:=λvs σ H Q=>∃env B Z ds env',Rl K B Z H env σ/\ak K Z ds vs/\d9 is ds env=some env'/\∀σ',Rl K B Z H env' σ'->Q σ' H
def IX(X:Cx)(NM:W5)(is:W7):Prop:=As X NM (PR X.K is)
theorem As.imp(h:As X e t)(i:∀v σ H Q,t' v σ H Q->t v σ H Q):As X e t':=λpins s σ H v u Q I r q=>h pins s σ H v u Q I r (i v σ H Q q)
theorem cT:IX X [] []:=As.imp Gc λv σ H Q aC=>by
 obtain⟨env,B,Z,ds,env',R,r,e,k⟩:=aC;cases ds with
 | nil=>cases e;exact⟨r,k _ R⟩
 | cons d ds=>cases e
theorem aE(i:Nat)(hN:X.N.Nodup)(h:IX X NM is)(hi:X.N[i]?=some x:=by rfl)(hx:Loc X.env.scope x:=by first | exact Or.inl rfl | exact Or.inr rfl)
  (hf:X.fn x=true\/X.env.scope.names.lookup x=some .local:=by first | exact .inl rfl | exact .inr rfl | assumption)
  (hs:(assignEach (.Name x pos::NM) X.env).map (·.2)=assign (.Name x pos) X.env::(assignEach NM X.env).map (·.2):=by rfl):IX X (.Name x pos::NM) (i::is):=As.imp (Cg (xS hN hi hx hf) h hs) λv σ H Q aC=>by
 obtain⟨env,B,Z,ds,env',R,r,e,k⟩:=aC;cases ds with
 | nil=>cases e
 | cons d ds=>
  obtain⟨w,rr,e1,r1,r2⟩:=r;exact⟨w,rr,e1,env.set i (.F d),B,Z,ds,env',R.setF i r1,r2,e,k⟩
def oj(is:W7):Ft:=λd env=>match d with
 | .tup ds=>d9 is ds env
 | _=>none
theorem iL:∀{is:W7}{ds:Xq}{env env':En},d9 is ds env=some env'->ds.length=is.length
 | [],[],_,_,_=>rfl
 | i::is,d::ds,_,_,h=>by simp[iL (ds:=ds) h]
 | [],_::_,_,_,h=>by cases h
 | _::_,[],_,_,h=>by cases h
theorem jD(hc:X.calm=true)(h:IX X es is)(hn:(assignEach es X.env).length=is.length:=by rfl)(hst:(assignEach es X.env).findIdx? (·.1)=none:=by rfl):GD X (.Tuple es k pos) (oj is):=
 PG.imp (HB hc h hn hst) λv σ H Q aC=>by
  refine cO λ_ kq=>?_;obtain⟨env,B,Z,d,env',R,r,e,k⟩:=aC;cases d<;>try cases e
  rename_i ds;obtain⟨a,vs,e1,hq,rr⟩:=r;exact kq (⟨a,vs,e1,bJ R.zh hq,by rw[<- rr.len];exact iL e,env,B,Z,ds,env',R,rr,e,λσ'=>k σ' Z H (Ex.refl R.zh)⟩)
def dC(t:Ft)(body:Fs):Xq->Fs
 | [],env=>some (.nx env)
 | d::ds,env=>(t d env).bind λe1=>(body e1).bind λo=>match o with
  | .nx e2=>dC t body ds e2
  | .ct e2=>dC t body ds e2
  | .bk e2=>some (.nx e2)
  | .rt d=>some (.rt d)
abbrev Fi:=En->Xp
def Walk(K:Fg)(Z1:Hp)(ds:Xq)(J:It):Prop:=∀(Z' H':Hp),aH Z1 Z'->aH Z' H'->∀i,
 (i<ds.length->J.go i H'/\∀x H'',J.yld i H' x H''->∃Z'' d,Ex Z' H' Z'' H''/\ds[i]?=some d/\Rep K Z'' d x)/\(ds.length<=i->J.stop i H')
def Sa(K:Fg)(f:Fi):TI:=λσ H R=>∃env B Z ds,Rl K B Z H env σ/\f env=some ds/\∀J Z1 H1,Ex Z H Z1 H1->Walk K Z1 ds J->R J H1
def ID(X:Cx)(tg iter:Xk)(f:Fi):Prop:=PI X tg iter (Sa X.K f)
theorem PI.imp(h:PI X tg e t)(i:∀σ H R,t' σ H R->t σ H R):PI X tg e t':=λpins s σ H R I q=>h pins s σ H R I (i σ H R q)
def kA(f:Fe):Fi:=λenv=>(f env).bind λd=>match d with | .lst ds=>some ds | _=>none
def Md(f:Fe):Fi:=λenv=>(f env).bind λd=>match d with | .tup ds=>some ds | _=>none
theorem yo{K:Fg}{Z1:Hp}{a:Xj}{vs:Xs}{ds:Xq}(q:di K Z1 a vs)(rr:ak K Z1 ds vs):Walk K Z1 ds (Pv K a):=λZ' H' s1 s2 i=>by
 have q':=(s1.trans s2).seq q;refine⟨λhi=>⟨⟨vs,vs[i]'(by rw[<- rr.len];exact hi),q',by simp[<- rr.len,hi]⟩,λx H'' y=>?_⟩,λhi=>⟨vs,q',by rw[<- rr.len];exact hi⟩⟩;refine cO λ_ kq=>?_;obtain⟨e,y⟩:=y;obtain⟨d,h1,h2⟩:=rr.getV (y vs q');subst e;exact kq (⟨Z',d,Ex.refl s2,h1,Rep.mono s1 d h2⟩)
theorem AN{K:Fg}{Z1:Hp}{a:Xj}{vs:Xs}{ds:Xq}(q:cy K Z1 a vs)(rr:ak K Z1 ds vs):Walk K Z1 ds (O0 K a):=λZ' H' s1 s2 i=>by
 have q':=bJ (s1.trans s2) q;refine⟨λhi=>⟨⟨vs,vs[i]'(by rw[<- rr.len];exact hi),q',by simp[<- rr.len,hi]⟩,λx H'' y=>?_⟩,λhi=>⟨vs,q',by rw[<- rr.len];exact hi⟩⟩;refine cO λ_ kq=>?_;obtain⟨e,y⟩:=y;obtain⟨d,h1,h2⟩:=rr.getV (y vs q');subst e;exact kq (⟨Z',d,Ex.refl s2,h1,Rep.mono s1 d h2⟩)
theorem bN(h:PD X .cl l f):ID X tg l (kA f):=PI.imp (Gi h) λσ H R aC=>by
 refine cO λ_ kq=>?_;obtain⟨env,B,Z,ds,Rr,e,k⟩:=aC;obtain⟨d,e1,e2⟩:=b_.mp e;cases d<;>cases e2;refine kq (⟨env,B,Z,_,Rr,e1,λv Z1 H1 x1 g1=>?_⟩)
 all_goals clear kq
 obtain⟨a,vs,e,q,r⟩:=g1;exact⟨a,e,⟨vs,x1.zh.seq q⟩,k _ Z1 H1 x1 (yo q r)⟩
theorem G6(h:PD X .cl l f):ID X tg l (Md f):=PI.imp (JZ h) λσ H R aC=>by
 refine cO λ_ kq=>?_;obtain⟨env,B,Z,ds,Rr,e,k⟩:=aC;obtain⟨d,e1,e2⟩:=b_.mp e;cases d<;>cases e2;refine kq (⟨env,B,Z,_,Rr,e1,λv Z1 H1 x1 g1=>?_⟩)
 all_goals clear kq
 obtain⟨a,vs,e,q,r⟩:=g1;exact⟨a,e,⟨vs,bJ x1.zh q⟩,k _ Z1 H1 x1 (AN q r)⟩
def aG(lo:Int)(n:Nat):Xq:=(List.range n).map λi=>.int (lo+(i:Nat))
theorem uj{K:Fg}{Z1:Hp}(lo:Int)(n:Nat):Walk K Z1 (aG lo n) (LL lo n):=λZ' H' s1 s2 i=>by
 have hl:(aG lo n).length=n:=by simp[aG]
 rw[hl];refine⟨λhi=>⟨hi,λx H'' y=>?_⟩,λh=>h⟩;obtain⟨e,y⟩:=y;subst e;subst y;exact⟨Z',.int (lo+i),Ex.refl s2,by simp[aG,hi],rfl⟩
def pT(j:Int):Bool:=decide (-4000000000000000000<j/\j<4000000000000000000)
def gj(f:Fe):Fi:=λenv=>(f env).bind λd=>match d with
 | .int j=>if pT j then some (aG 0 j.toNat)else none
 | _=>none
def z7(f g:Fe):Fi:=λenv=>(f env).bind λd=>(g env).bind λe=>match d,e with
 | .int i,.int j=>if pT i&&pT j then some (aG i (j-i).toNat)else none
 | _,_=>none
theorem cu(hm:X.mg "range"=none)(h:PD X ga l f)(hg:Gl X "range":=by rfl)(hs:starEach [l] X.env=[(false,eval l X.env)]:=by rfl):ID X tg (.Call (.Name "range" p) [l] [] pos) (gj f):=
 PI.imp (zb hg hm (aJ h bM hs) hs) λσ H R aC=>by
  obtain⟨env,B,Z,ds,Rr,e,k⟩:=aC;obtain⟨d,e1,e2⟩:=b_.mp e;cases d<;>try cases e2
  rename_i j;obtain⟨hj,rfl⟩:=kP e2
  .have hj':=Sy hj;refine⟨env,B,Z,_,Rr,e1,λv Z1 H1 x1 g1=>⟨j,by rw[g1.int],by omega,by omega,k _ Z1 H1 x1 (uj 0 j.toNat)⟩⟩
theorem sJ(hm:X.mg "range"=none)(h:PD X ga l f)(h2:PD X gb r g)(hg:Gl X "range":=by rfl)(hs:starEach [l,r] X.env=[(false,eval l X.env),(false,eval r X.env)]:=by rfl)
  (Ho:starEach [r] X.env=[(false,eval r X.env)]:=by rfl):ID X tg (.Call (.Name "range" p) [l,r] [] pos) (z7 f g):=
 PI.imp (zo hg hm (aJ h (aJ h2 bM Ho) (by rw[hs,Ho])) hs Ho) λσ H R aC=>by
  obtain⟨env,B,Z,ds,Rr,e,k⟩:=aC;obtain⟨d,e1,e⟩:=b_.mp e;obtain⟨d2,e3,e2⟩:=b_.mp e;cases d<;>try cases e2
  all_goals (cases d2<;>try cases e2)
  rename_i i j;obtain⟨hj,rfl⟩:=kP e2
  .simp only[F_]at hj;have h1':=Sy hj.1;have h2':=Sy hj.2;refine⟨env,B,Z,_,Rr,e1,λv Z1 H1 x1 g1=>⟨env,B,Z1,_,Rr.ext x1,e3,λu Z2 H2 x2 g2=>⟨i,j,by rw[g1.int,g2.int],⟨by omega,by omega,by omega,by omega⟩,k _ Z2 H2 (x1.trans x2) (uj i (j-i).toNat)⟩⟩⟩
def dM(fi:Fi)(t:Ft)(body:Fs):Fs:=λenv=>(fi env).bind λds=>dC t body ds env
theorem cB(hp:PassesOwn (model X.prog X.w) X.A X.env X.xe)(hc:X.calm=true)(hi:ID X tg iter fi)(hg:GD X tg t)(hb:uP X rg body fb)
  (hs:∀x,foldedSetIterable iter X.env x=pure x:=by intro _;rfl):SD X rg (.For tg iter body [] pos) (dM fi t fb):=PS.imp (Ig hp hc hi hg hb hs) λE σ H aC=>by
 refine cO λ_ kq=>?_;obtain⟨env,B,Z,o,R,e,k⟩:=aC;obtain⟨ds,e1,e2⟩:=b_.mp e;refine kq (⟨env,B,Z,ds,R,e1,λJ Z1 H1 x1 wk=>?_⟩)
 all_goals clear kq
 let In:Nat->L2.St->Hp->Prop:=λi σ H=>∃env' Z',Ex Z B Z' H/\aH Z1 Z'/\Rl X.K B Z' H env' σ/\dC t fb (ds.drop i) env'=some o
 refine⟨λi m σ H=>m=ds.length-i/\i<=ds.length/\In i σ H,⟨ds.length,by simp,Ub _,env,Z1,x1.part R.bh,aH.refl _,R.ext x1,by simpa using e2⟩,?_⟩;rintro i m σ2 H2 ⟨rfl,hi,env',Z',x2,s2,R2,e3⟩;obtain⟨w1,w2⟩:=wk Z' H2 s2 R2.zh i
 by_cases hlt:i<ds.length
 .obtain⟨go,yl⟩:=w1 hlt;refine .inr ⟨go,In (i+1),λσ' H' n=>⟨ds.length-(i+1),by omega,rfl,hlt,n⟩,λx H3 y=>?_⟩;refine cO λ_ kq=>?_;obtain⟨Z3,d,x3,hd,r3⟩:=yl x H3 y;have Qd:ds.drop i=d::ds.drop (i+1):=by
   obtain⟨h1,h2⟩:=i_.mp hd;rw[Us h1,h2]
  rw[Qd]at e3;unfold dC at e3;obtain⟨Rk,e4,e5⟩:=b_.mp e3;obtain⟨o1,e6,e7⟩:=b_.mp e5;have R3:=R2.ext x3;refine kq (⟨env',B,Z3,d,Rk,R3,r3,e4,λσ4 Z4 H4 y4 R4=>⟨Rk,B,Z4,o1,R4,e6,?_⟩⟩)
  all_goals clear kq
  have x4:=x2.transB ((x3.trans y4).part R2.bh);have s4:=(s2.trans x3.z).trans y4.z;cases o1 with
  | nx Oy=>exact λσ5 Z5 H5 x5 R5=>⟨Oy,Z5,x4.transB x5,s4.trans x5.z,R5,e7⟩
  | ct Oy=>exact λσ5 Z5 H5 x5 R5=>⟨Oy,Z5,x4.transB x5,s4.trans x5.z,R5,e7⟩
  | bk Oy=>cases e7;exact λσ5 Z5 H5 x5 R5=>k σ5 Z5 H5 (x4.transB x5) R5
  | rt d=>cases e7;exact λv Z5 H5 x5 g5=>k v Z5 H5 (x4.transB x5) g5
 .refine .inl ⟨w2 (by omega),?_⟩;rw[List.drop_eq_nil_of_le (by omega)]at e3;cases e3;exact k σ2 Z' H2 x2 R2
def GS(is:W7)(f:Fe):Fs:=λenv=>(f env).bind λd=>(oj is d env).bind λe=>some (.nx e)
theorem E2(hc:X.calm=true)(he:PD X .cl e fe)(h:IX X es is)(hn:(assignEach es X.env).length=is.length:=by rfl)(hst:(assignEach es X.env).findIdx? (·.1)=none:=by rfl)
  (hs:swapsWithSole [.Tuple es k p2] e pos.line X.env=pure false:=by rfl) (hw:swappedStores [.Tuple es k p2] e X.env=pure none:=by rfl) (h1:(assignEach [.Tuple es k p2] X.env).map (·.2)=[assign (.Tuple es k p2) X.env]:=by rfl) :
  SD X rg (.Assign [.Tuple es k p2] e pos) (GS is fe):=PS.imp (vk he (jD hc h hn hst) hs hw h1) λE σ H aC=>by
 refine cO λ_ kq=>?_;obtain⟨env,B,Z,o,R,e,k⟩:=aC;obtain⟨d,e1,e⟩:=b_.mp e;obtain⟨en,e2,e⟩:=b_.mp e;cases e;refine kq (⟨env,B,Z,d,R,e1,λv Z1 H1 x1 g1=>⟨env,B,Z1,d,en,R.ext x1,g1,e2,λσ' Z2 H2 x2 R'=>k σ' Z2 H2 ((x1.trans x2).part R.bh) R'⟩⟩)
def aS(n:Nat)(ds:Xq):En:=ds.map .F++List.replicate (n-ds.length) .un
def cx(f:Fs)(n:Nat)(ds:Xq):Xr:=(f (aS n ds)).bind λo=>match o with | .rt d=>some d | _=>none
theorem Rl.start{K:Fg}{Z H:Hp}{N:W3}{ds:Xq}{vs:Xs}(s:aH Z H)(r:ak K Z ds vs):Rl K H Z H (aS N.length ds) (start N vs):=by
 have hl:=r.len;have noO:∀(i:Nat)(es:rM),(aS N.length ds)[i]?≠some (.O es):=λi es h=>by
  unfold aS at h
  by_cases hi:i<ds.length
  .rw[I_ (by simpa using hi),m_]at h;cases q:ds[i]? with
   | none=>rw[q]at h;cases h
   | some d=>rw[q]at h;cases h
  .rw[G_ (by simpa using hi),S2]at h
   split at h<;>cases h
 refine⟨aH.refl _,s,by simp[aS,L2.start,hl],λi sl h=>?_,λi es a h=>absurd h (noO i es),λi j es _ a _ h=>absurd h (noO i es)⟩;unfold aS at h;unfold L2.start
 by_cases hi:i<ds.length
 .rw[I_ (by simpa using hi),m_]at h;cases q:ds[i]? with
  | none=>rw[q]at h;cases h
  | some d=>
   rw[q]at h;cases h;obtain⟨v,h1,h2⟩:=r.get q;exact⟨some v,by rw[I_ (by simpa [<- hl]using hi),m_,h1];rfl,v,rfl,h2⟩
 .rw[G_ (by simpa using hi),S2]at h
  split at h
  .rename_i hk;cases h;refine⟨none,?_,trivial⟩;rw[G_ (by simpa [<- hl]using hi),S2,j_ (by simpa [hl]using hk)]
  .cases h
end
section
variable {P:Xd}{w:Xg}{K:Fg}{mg:WW}{base:Xf}
theorem Q5{x qual:Str}{st:Xl}{f:Xj}{fd:Xh}{N ps:W3}{k:Nat}{g:Gr}{m:Xq->Xr}{fb:Fs}(F:yb K x qual st f fd)(S:bC N ps (ax st))
  (hb:∀(bq:Xa)(A:Xe)(outer:List Env)(s:Xb)(H:Hp)(E:XK),a9 k (A.deeper (envOfC qual (ax st) s.sz f bq))->uP (eO jR P w K mg base N qual (ax st) f bq A outer s H E).nox g (aT st) fb)
  (hm:∀ds d,ds.length=ps.length->m ds=some d->cx fb N.length ds=some d):dj P w K mg base jR (k+1) f fd ps (Ao K ps.length g m):=by
 refine F.ok S (λvs H Q E ⟨Z,ds,d,hl,_,r,_⟩=>by rw[<- r.len];exact hl) λbq A outer s H vs Q E hr aC=>?_;obtain⟨Z,ds,d,hl,s1,r,e,kk⟩:=aC;refine⟨_,hb bq A outer s H E hr,?_⟩;obtain⟨o,e1,e2⟩:=b_.mp (hm ds d hl e);refine⟨_,H,Z,o,Rl.start s1 r,e1,?_⟩;cases o with
 | rt d'=>cases e2;exact kk
 | nx _=>cases e2
 | bk _=>cases e2
 | ct _=>cases e2
end
mutual
def toPy:D->PyData
 | .non=>.none
 | .bl b=>.bool b
 | .int i=>.int i
 | .str x=>.str x
 | .tup ds=>.tuple (dh ds)
 | .lst ds=>.list (dh ds)
 | .dct _=>.none
 | .st _=>.none
 | .ln _=>.none
 | .mp _ _ _=>.none
 | .ix _ _ _=>.none
 | .nt _ _=>.none
def dh:Xq->List PyData
 | []=>[]
 | d::ds=>toPy d::dh ds
end
mutual
def pl:D->Bool
 | .tup ds=>iV ds
 | .lst ds=>iV ds
 | .dct _=>false
 | .st _=>false
 | .ln _=>false
 | .mp _ _ _=>false
 | .ix _ _ _=>false
 | .nt _ _=>false
 | _=>true
def iV:Xq->Bool
 | []=>true
 | d::ds=>pl d&&iV ds
end
mutual
def iP:D->D->Bool
 | .non,.non=>true
 | .bl a,.bl b=>a==b
 | .bl a,.int j=>(if a then 1 else 0)==j
 | .int i,.bl b=>i==(if b then 1 else 0)
 | .int i,.int j=>i==j
 | .str x,.str y=>x==y
 | .tup xs,.tup ys=>jb xs ys
 | .lst xs,.lst ys=>jb xs ys
 | _,_=>false
def jb:Xq->Xq->Bool
 | [],[]=>true
 | x::xs,y::ys=>iP x y&&jb xs ys
 | _,_=>false
end
mutual
theorem lr:∀(d e:D),pl d=true->pl e=true->PyData.eqv (toPy d) (toPy e)=iP d e
 | .non,e,_,h=>by cases e<;>first | (simp[pl]at h;done) | simp[toPy,PyData.eqv,iP]
 | .bl b,e,_,h=>by cases e<;>first | (simp[pl]at h;done) | simp[toPy,PyData.eqv,iP]
 | .int i,e,_,h=>by cases e<;>first | (simp[pl]at h;done) | simp[toPy,PyData.eqv,iP]
 | .str x,e,_,h=>by cases e<;>first | (simp[pl]at h;done) | simp[toPy,PyData.eqv,iP]
 | .tup ds,e,h1,h=>by
  unfold pl at h1;cases e
  case tup es=>unfold pl at h;simp[toPy,PyData.eqv,iP,gQ ds es h1 h]
  case lst es=>unfold pl at h;simp[toPy,PyData.eqv,iP,gQ ds es h1 h]
  all_goals first | (simp[pl]at h;done) | simp[toPy,PyData.eqv,iP]
 | .lst ds,e,h1,h=>by
  unfold pl at h1;cases e
  case tup es=>unfold pl at h;simp[toPy,PyData.eqv,iP,gQ ds es h1 h]
  case lst es=>unfold pl at h;simp[toPy,PyData.eqv,iP,gQ ds es h1 h]
  all_goals first | (simp[pl]at h;done) | simp[toPy,PyData.eqv,iP]
theorem gQ:∀(ds es:Xq),iV ds=true->iV es=true->PyData.eqvAll (dh ds) (dh es)=jb ds es
 | [],es,_,_=>by cases es<;>simp[dh,PyData.eqvAll,jb]
 | d::ds,es,h1,h2=>by
  unfold iV at h1;rw[F_]at h1;cases es with
  | nil=>simp[dh,PyData.eqvAll,jb]
  | cons e es=>
   unfold iV at h2;rw[F_]at h2;simp[dh,PyData.eqvAll,jb,lr d e h1.1 h2.1,gQ ds es h1.2 h2.2]
end
mutual
def dep:D->Nat
 | .tup ds=>oy ds+1
 | .lst ds=>oy ds+1
 | _=>0
def oy:Xq->Nat
 | []=>0
 | d::ds=>max (dep d) (oy ds)
end
mutual
theorem cU:∀(d:D),(toPy d).depth=dep d
 | .non=>by simp[toPy,PyData.depth,dep]
 | .bl b=>by simp[toPy,PyData.depth,dep]
 | .int i=>by simp[toPy,PyData.depth,dep]
 | .str x=>by simp[toPy,PyData.depth,dep]
 | .tup ds=>by simp[toPy,PyData.depth,dep,iU ds]
 | .lst ds=>by simp[toPy,PyData.depth,dep,iU ds]
 | .dct ks=>by simp[toPy,PyData.depth,dep]
 | .st ks=>by simp[toPy,PyData.depth,dep]
 | .ln ks=>by simp[toPy,PyData.depth,dep]
 | .mp _ _ _=>by simp[toPy,PyData.depth,dep]
 | .ix _ _ _=>by simp[toPy,PyData.depth,dep]
 | .nt _ _=>by simp[toPy,PyData.depth,dep]
theorem iU:∀(ds:Xq),PyData.depthAll (dh ds)=oy ds
 | []=>by simp[dh,PyData.depthAll,oy]
 | d::ds=>by simp[dh,PyData.depthAll,oy,cU d,iU ds]
end
section
variable {X:Cx}{pins:WU}{σ:L2.St}{H:Hp}{s:Xb}
mutual
theorem dg(I:Inv X pins σ H s):∀(d:D){x:V}{v:Xa},pl d=true->Rep X.K H d x->RelV x v->∃as,Reads s.heap v (toPy d) as
 | .non,_,_,_,h,r=>by cases(show _=V.non from h);cases r;exact⟨_,.none⟩
 | .bl b,_,_,_,h,r=>by cases(show _=V.bl b from h);cases r;exact⟨_,.bool b⟩
 | .int i,_,_,_,h,r=>by cases(show _=V.int i from h);obtain⟨t,rfl⟩:=r;exact⟨_,.int i t⟩
 | .str y,_,_,_,h,r=>by obtain⟨h,_⟩:=h;subst h;obtain⟨t,rfl⟩:=r;exact⟨_,.str y t⟩
 | .tup ds,_,_,hp,h,r=>by
  unfold pl at hp;refine cO λ_ kq=>?_;obtain⟨a,vs,e,q,rr⟩:=h;subst e;cases r;obtain⟨aQ,rv,⟨o,ho,hc,n,hd⟩,_⟩:=I.tuple q;obtain⟨as,ra⟩:=j8 I ds hp rr rv;exact kq (⟨as,.tuple ho hc hd (by simpa [toPy]using ra)⟩)
 | .lst ds,_,_,hp,h,r=>by
  unfold pl at hp;refine cO λ_ kq=>?_;obtain⟨a,vs,e,q,rr⟩:=h;subst e;cases r;obtain⟨aQ,rv,pl,_⟩:=I.list q;obtain⟨o,ho,hc,n,hd⟩:=pl.isList;obtain⟨as,ra⟩:=j8 I ds hp rr rv;exact kq (⟨_,.list ho hc hd (by simpa [toPy]using ra)⟩)
 | .dct ks,_,_,hp,_,_=>by unfold pl at hp;cases hp
 | .st ks,_,_,hp,_,_=>by unfold pl at hp;cases hp
 | .ln ks,_,_,hp,_,_=>by unfold pl at hp;cases hp
 | .mp _ _ _,_,_,hp,_,_=>by unfold pl at hp;cases hp
 | .ix _ _ _,_,_,hp,_,_=>by unfold pl at hp;cases hp
 | .nt _ _,_,_,hp,_,_=>by unfold pl at hp;cases hp
theorem j8(I:Inv X pins σ H s):∀(ds:Xq){vs:Xs}{us:W0},iV ds=true->ak X.K H ds vs->av vs us->∃as,ReadsAll s.heap us (dh ds) as
 | [],_,_,_,h,r=>by cases(show _=[]from h);cases r;exact⟨_,by simpa [dh]using ReadsAll.nil⟩
 | d::ds,_,_,hp,h,r=>by
  unfold iV at hp;rw[F_]at hp;obtain⟨v,vr,e,h1,h2⟩:=h;subst e;cases r with
  | cons r1 r2=>
   refine cO λ_ kq=>?_;obtain⟨as,q1⟩:=dg I d hp.1 h1 r1;obtain⟨bs,q2⟩:=j8 I ds hp.2 h2 r2;exact kq (⟨_,by simpa [dh]using ReadsAll.cons q1 q2⟩)
end
mutual
theorem fX:∀(d:D){x:V},Rep X.K H d x->(toPy d).canLay0=true
 | .non,_,_=>by simp[toPy,PyData.canLay0]
 | .bl b,_,_=>by simp[toPy,PyData.canLay0]
 | .int i,_,_=>by simp[toPy,PyData.canLay0]
 | .str y,_,h=>by simp[toPy,PyData.canLay0,h.2]
 | .tup ds,_,⟨a,vs,e,q,rr⟩=>by simp[toPy,PyData.canLay0,rE ds rr]
 | .lst ds,_,⟨a,vs,e,q,rr⟩=>by simp[toPy,PyData.canLay0,rE ds rr]
 | .dct ks,_,_=>by simp[toPy,PyData.canLay0]
 | .st ks,_,_=>by simp[toPy,PyData.canLay0]
 | .ln ks,_,_=>by simp[toPy,PyData.canLay0]
 | .mp _ _ _,_,_=>by simp[toPy,PyData.canLay0]
 | .ix _ _ _,_,_=>by simp[toPy,PyData.canLay0]
 | .nt _ _,_,_=>by simp[toPy,PyData.canLay0]
theorem rE:∀(ds:Xq){vs:Xs},ak X.K H ds vs->PyData.canLayAll0 (dh ds)=true
 | [],_,_=>by simp[dh,PyData.canLayAll0]
 | d::ds,_,⟨v,vr,e,h1,h2⟩=>by simp[dh,PyData.canLayAll0,fX d h1,rE ds h2]
end
def fA(d e:D):Bool:=(pl d&&pl e)&&(decide (dep d<=60)||decide (dep e<=60))
def FE(K:Fg)(neg:Bool):R2:=λx y H Q=>∃dx dy,Rep K H dx x/\Rep K H dy y/\fA dx dy=true/\Q (.bl (if neg then !iP dx dy else iP dx dy)) H
theorem uW(h:u+64<cLine)(h2:a<=60\/b<=60):u+min a b<cLine:=by lia
theorem sH(h:fA d e=true):dep d<=60\/dep e<=60:=by unfold fA at h;rw[F_]at h;simpa using h.2
theorem sk(h:fA d e=true):pl d=true/\pl e=true:=by unfold fA at h;rw[F_,F_]at h;exact h.1
theorem Cq(hu:X.A.units+64<cLine):gy X (compareOp .Eq) (FE X.K false):=by
 intro pins s σ H x y v u Q I rx ry h;refine cO λ_ kq=>?_;obtain⟨dx,dy,h1,h2,hd,q⟩:=h;obtain⟨p1,p2⟩:=sk hd;obtain⟨as,r1⟩:=dg I dx p1 h1 rx;obtain⟨bs,r2⟩:=dg I dy p2 h2 ry;refine kq (SeqAt.compareEq_reads r1 r2 (fX dx h1) (fX dy h2) (by rw[cU,cU];exact uW hu (sH hd)) ?_)
 all_goals clear kq
 rw[lr _ _ p1 p2];exact⟨.bl _,H,I,rfl,q⟩
theorem CL(hu:X.A.units+64<cLine):gy X (compareOp .NotEq) (FE X.K true):=by
 intro pins s σ H x y v u Q I rx ry h;refine cO λ_ kq=>?_;obtain⟨dx,dy,h1,h2,hd,q⟩:=h;obtain⟨p1,p2⟩:=sk hd;obtain⟨as,r1⟩:=dg I dx p1 h1 rx;obtain⟨bs,r2⟩:=dg I dy p2 h2 ry;refine kq (SeqAt.compareNe_reads r1 r2 (fX dx h1) (fX dy h2) (by rw[cU,cU];exact uW hu (sH hd)) ?_)
 all_goals clear kq
 rw[lr _ _ p1 p2];exact⟨.bl _,H,I,rfl,q⟩
def iw:D->D->Xr:=λa b=>if fA a b=true then some (.bl (iP a b))else none
def oK:D->D->Xr:=λa b=>if fA a b=true then some (.bl !iP a b)else none
theorem Ls{K:Fg}:cb K .cl iw (FE K false):=λ{Z H x y dx dy d Q} s h1 h2 e k=>by
 obtain⟨hd,rfl⟩:=kP e;exact⟨dx,dy,h1.rep s,h2.rep s,hd,k _ Z H (Ex.refl s) rfl⟩
theorem LN{K:Fg}:cb K .cl oK (FE K true):=λ{Z H x y dx dy d Q} s h1 h2 e k=>by
 obtain⟨hd,rfl⟩:=kP e;exact⟨dx,dy,h1.rep s,h2.rep s,hd,k _ Z H (Ex.refl s) rfl⟩
variable {l r c:Xk}{fa fb fc:Fe}{ga gb gc:Gr}{pos p p2:Pos}{k:Nat}
theorem FX(hr:a9 k X.A)(ha:PD X ga l fa)(hb:PD X gb r fb):PD X .cl (.Compare l [.Eq] [r] pos) (ao iw fa fb):=Bx (Cq hr.units) Ls ha hb (gN _)
theorem O4(hr:a9 k X.A)(ha:PD X ga l fa)(hb:PD X gb r fb):PD X .cl (.Compare l [.NotEq] [r] pos) (ao oK fa fb):=Bx (CL hr.units) LN ha hb (gN _)
theorem sS(hr:a9 k X.A)(ha:PD X ga l fa)(hb:PD X gb r fb):PB X (.Compare l [.Eq] [r] pos) (fB (ao iw fa fb)):=kT (Cq hr.units) Ls ha hb (gN _)
theorem yX(hr:a9 k X.A)(ha:PD X ga l fa)(hb:PD X gb r fb):PB X (.Compare l [.NotEq] [r] pos) (fB (ao oK fa fb)):=kT (CL hr.units) LN ha hb (gN _)
def inD(d:D)(es:Xq):Bool:=es.any λe=>iP e d
def Dl(neg:Bool):D->D->Xr
 | d,.lst es=>if dep d<=60/\(pl d&&iV es)=true then some (.bl (if neg then !inD d es else inD d es))else none
 | d,.tup es=>if dep d<=60/\(pl d&&iV es)=true then some (.bl (if neg then !inD d es else inD d es))else none
 | _,_=>none
def LJ(K:Fg)(neg:Bool):R2:=λx y H Q=>∃dx es p ys,Rep K H dx x/\y=.ref p/\(di K H p ys\/cy K H p ys)/\ak K H es ys/\(dep dx<=60/\(pl dx&&iV es)=true)/\Q (.bl (if neg then !inD dx es else inD dx es)) H
noncomputable def iG(h:Xf)(d:PyData)(y:Xa):Bool:=@decide (∃e as,Reads h y e as/\e.canLay0=true/\PyData.eqv e d=true) (Classical.propDecidable _)
theorem sF(r:Reads h y e as)(c:e.canLay0=true):iG h d y=PyData.eqv e d:=by
 unfold iG;cases q:PyData.eqv e d with
 | true=>exact @w_ _ (Classical.propDecidable _) ⟨e,as,r,c,q⟩
 | false=>
  refine @E_ _ (Classical.propDecidable _) λaC=>?_;obtain⟨e',as',r',c',q'⟩:=aC;rw[SeqAt.Reads.unique e' e y as' as c' r' r]at q';rw[q]at q';cases q'
theorem jU(I:Inv X pins σ H s)(dx:D)(hx:pl dx=true):∀{es:Xq}{ys:Xs}{us:W0},iV es=true->ak X.K H es ys->av ys us->us.any (iG s.heap (toPy dx))=inD dx es
 | [],_,_,_,h,r=>by cases(show _=[]from h);cases r;rfl
 | e::es,_,_,hp,h,r=>by
  unfold iV at hp;rw[F_]at hp;obtain⟨v,vr,z,h1,h2⟩:=h;subst z;cases r with
  | cons r1 r2=>
   obtain⟨as,q⟩:=dg I e hp.1 h1 r1;have ih:=jU I dx hx hp.2 h2 r2;unfold inD at ih ⊢;rw[List.any_cons,List.any_cons,ih,sF q (fX e h1),lr _ _ hp.1 hx]
theorem nk(I:Inv X pins σ H s)(hx:Rep X.K H dx x)(rx:RelV x v)(hu:A.units+64<cLine)(hd:dep dx<=60)(Kq:pl dx=true):∀{es:Xq}{ys:Xs}{us:W0},iV es=true->ak X.K H es ys->av ys us->
  ∀u∈us,SeqAt.EqAt A s u v (iG s.heap (toPy dx) u)
 | [],_,_,_,h,r,u,hm=>by cases(show _=[]from h);cases r;cases hm
 | e::es,_,_,hp,h,r,u,hm=>by
  unfold iV at hp;rw[F_]at hp;obtain⟨w,vr,z,h1,h2⟩:=h;subst z;cases r with
  | cons r1 r2=>
   rcases t_.mp hm with rfl | hm
   .obtain⟨as,q⟩:=dg I e hp.1 h1 r1;obtain⟨bs,q2⟩:=dg I dx Kq hx rx;rw[sF q (fX e h1)];exact SeqAt.eqAt_reads _ _ A s _ _ as bs q q2 (fX e h1) (fX dx hx) (by rw[cU,cU];exact uW hu (.inr hd))
   .exact nk I hx rx hu hd Kq hp.2 h2 r2 u hm
theorem B7(hu:X.A.units+66<cLine)(neg:Bool):gy X (compareOp (if neg then .NotIn else .In)) (LJ X.K neg):=by
 intro pins s σ H x y v u Q I rx ry h;obtain⟨dx,es,p,ys,h1,rfl,h2,rr,⟨hd,Rm⟩,q⟩:=h;rw[F_]at Rm;obtain⟨Kq,Oz⟩:=Rm;cases ry;have Hq:X.A.in1.units+64<cLine:=by show X.A.units+1+64<cLine;lia
 rcases h2 with h2 | h2
 .obtain⟨aQ,r',pl,hz⟩:=I.list h2;have ha:=jU I dx Kq Oz rr r';have gW:∀y,y∈aQ.toArray->SeqAt.EqAt X.A.in1 s y v (iG s.heap (toPy dx) y):=λy hy=>nk I h1 rx Hq hd Kq Oz rr r' y (by simpa using hy);have fin:EP X pins σ Q (.bool (if neg then !aQ.toArray.any (iG s.heap (toPy dx))else aQ.toArray.any (iG s.heap (toPy dx)))) s:=⟨_,H,I,(by rw[List.any_toArray,ha]<;>rfl),q⟩;cases neg with
  | false=>exact SeqAt.in_listAt _ pl.isList gW fin
  | true=>exact SeqAt.notIn_listAt _ pl.isList gW fin
 .obtain⟨aQ,r',pl,hz⟩:=I.tuple h2;have ha:=jU I dx Kq Oz rr r';have gW:∀y,y∈aQ.toArray->SeqAt.EqAt X.A.in1 s y v (iG s.heap (toPy dx) y):=λy hy=>nk I h1 rx Hq hd Kq Oz rr r' y (by simpa using hy);have fin:EP X pins σ Q (.bool (if neg then !aQ.toArray.any (iG s.heap (toPy dx))else aQ.toArray.any (iG s.heap (toPy dx)))) s:=⟨_,H,I,(by rw[List.any_toArray,ha]<;>rfl),q⟩;cases neg with
  | false=>exact SeqAt.in_tupleAt _ (show s.heap.IsTuple p aQ.toArray from pl) gW fin
  | true=>exact SeqAt.notIn_tupleAt _ (show s.heap.IsTuple p aQ.toArray from pl) gW fin
theorem Mc{K:Fg}{neg:Bool}:cb K .cl (Dl neg) (LJ K neg):=λ{Z H x y dx dy d Q} s h1 h2 e k=>by
 cases dy<;>try cases e
 .obtain⟨hd,rfl⟩:=kP e;obtain⟨a,vs,rfl,q,r⟩:=h2.tup s;exact⟨dx,_,a,vs,h1.rep s,rfl,.inr q,ak.mono s _ r,hd,k _ Z H (Ex.refl s) rfl⟩
 .obtain⟨hd,rfl⟩:=kP e;obtain⟨a,vs,rfl,q,r⟩:=h2.lst s;exact⟨dx,_,a,vs,h1.rep s,rfl,.inl q,ak.mono s _ r,hd,k _ Z H (Ex.refl s) rfl⟩
theorem xG(r:a9 k A):A.units+66<cLine:=by have:=r.un;lia
theorem PC(hr:a9 k X.A)(ha:PD X ga l fa)(hb:PD X gb r fb)(hm:behindInMarks .In r=false:=by rfl):PB X (.Compare l [.In] [r] pos) (fB (ao (Dl false) fa fb)):=kT (B7 (xG hr) false) Mc ha hb hm
theorem M5(hr:a9 k X.A)(ha:PD X ga l fa)(hb:PD X gb r fb)(hm:behindInMarks .NotIn r=false:=by rfl):PB X (.Compare l [.NotIn] [r] pos) (fB (ao (Dl true) fa fb)):=kT (B7 (xG hr) true) Mc ha hb hm
inductive Ty where | int | bool | str | tuple | list
def Ty.nm:Ty->String
 | .int=>"int" | .bool=>"bool" | .str=>"str" | .tuple=>"tuple" | .list=>"list"
end
section
variable {elt:Xk}{gens:WZ}{scope:Xi}{pos:Pos}{d:Nat}{tg iter:Xk}{ifs:W5}{it acc:Xa}{env:Env}
def xi(ce tg iter:Xk)(ifs:W5)(d:Nat)(it acc:Xa)(env:Env)(em:Sem Unit):Sem Fin:=do
  standAt iter.pos
  match <- pyNext it with
  | none=>pure (.done .next)
  | some v=>
   letOwnedTupleGo tg it v
   assign tg env v
   let ok <- forIn ifs true λc r=>if r=true then do let ok <- isTrue c env (eval c env);pure (ForInStep.yield ok)else pure (ForInStep.yield r)
   if ok then em
   again (.compLoop ce d it acc env)
def wV(ce tg iter bK:Xk)(ifs:W5)(d:Nat)(it acc:Xa)(env:Env):Sem Fin:=do
  standAt iter.pos
  match <- pyNext it with
  | none=>pure (.done .next)
  | some v=>
   letOwnedTupleGo tg it v
   assign tg env v
   let ok <- forIn ifs true λc r=>if r=true then do let ok <- isTrue c env (eval c env);pure (ForInStep.yield ok)else pure (ForInStep.yield r)
   if ok=true then(do
    let x <- eval bK env
    standAt bK.pos
    let x <- foldedSetIterable bK env x
    let i' <- holding [x] (pyIter x)
    let _ <- runOwn (.compStart ce (d+1) i' acc env) env
    again (.compLoop ce d it acc env))
   else again (.compLoop ce d it acc env)
theorem yF(h:gens[d]?=some ⟨tg,iter,ifs,0⟩)(h2:gens[d+1]?=none):compTurn (.ListComp elt gens scope pos) d it acc env=xi (.ListComp elt gens scope pos) tg iter ifs d it acc env (do let _ <- call (.builtin "list.append") [acc,<- eval elt env]):=by
 unfold compTurn;simp only[h,h2]
 rfl
theorem zk(h:gens[d]?=some ⟨tg,iter,ifs,0⟩)(h2:gens[d+1]?=some ⟨uA,bK,kI,0⟩):compTurn (.ListComp elt gens scope pos) d it acc env=wV (.ListComp elt gens scope pos) tg iter bK ifs d it acc env:=by
 unfold compTurn;simp only[h,h2]
 rfl
end
def fR(lk:Str->W2):List (Str×NameKind)->WX->Option WX
 | [],acc=>some acc
 | (n,k)::r,acc=>if(k==.free)=true then(lk n).bind λc=>fR lk r ((n,c)::acc)else fR lk r acc
theorem jO:∀(names:List (Str×NameKind))(acc cl:WX),fR (λx=>env.cells.lookup x) names acc=some cl->
  (forIn names acc λ(x:Str×NameKind) (r:WX)=>(do if x.2==.free then(do let c <- cellOf env x.1;pure (ForInStep.yield ((x.1,c)::r)))else pure (ForInStep.yield r)):Sem WX)=pure cl
 | [],acc,cl,h=>by cases h;rfl
 | (n,k)::r,acc,cl,h=>by
  rw[List.forIn_cons];unfold fR at h
  by_cases hk:(k==NameKind.free)=true
  .rw[j_ hk]at h;obtain⟨c,h1,h2⟩:=b_.mp h;have h1':cellOf env n=pure c:=by unfold cellOf;rw[show env.cells.lookup n=some c from h1]
   simp only[hk,Up,h1',pure_bind];exact jO r _ cl h2
  .rw[k_ hk]at h;simp only[hk,SV,pure_bind];exact jO r _ cl h
theorem fP(h:fR (λx=>env.cells.lookup x) scope.names []=some cl):closureFor scope env=pure cl:=by
 have:=jO scope.names [] cl h;unfold closureFor;simp only;rw[this]
 rfl
theorem fu:∀{names:List (Str×NameKind)}{acc cl:WX},fR lk names acc=some cl->(∀p∈acc,lk p.1=some p.2)->∀p∈cl,lk p.1=some p.2
 | [],acc,cl,h,ha=>by cases h;exact ha
 | (n,k)::r,acc,cl,h,ha=>by
  unfold fR at h
  split at h
  .obtain⟨c,h1,h2⟩:=b_.mp h;exact fu h2 λp hp=>by
    rcases t_.mp hp with rfl | hp
    .exact h1
    .exact ha p hp
  .exact fu h ha
theorem eV:∀{names:List (Str×NameKind)}{acc cl:WX},fR lk names acc=some cl->∀x,((x,NameKind.free)∈names\/∃c,(x,c)∈acc)->∃c,(x,c)∈cl
 | [],acc,cl,h,x,hx=>by
  cases h;rcases hx with hx | hx
  .cases hx
  .exact hx
 | (n,k)::r,acc,cl,h,x,hx=>by
  unfold fR at h
  split at h
  .rename_i hk;obtain⟨c,h1,h2⟩:=b_.mp h;refine eV h2 x ?_;rcases hx with hx | ⟨c',hx⟩
   .rcases t_.mp hx with e | hx
    .cases e;exact .inr ⟨c,o_⟩
    .exact .inl hx
   .exact .inr ⟨c',l_ _ hx⟩
  .rename_i hk;refine eV h x ?_;rcases hx with hx | hx
   .rcases t_.mp hx with e | hx
    .cases e;exact absurd rfl hk
    .exact .inl hx
   .exact .inr hx
theorem cw:∀{cl:WX},(x,c)∈cl->∃c',cl.lookup x=some c'
 | [],h=>by cases h
 | (y,b)::r,h=>by
  by_cases e:(x==y)=true
  .exact⟨b,by simp[Tc,e]⟩
  .rcases t_.mp h with z | z
   .cases z;exact absurd (VO x) e
   .obtain⟨c',h'⟩:=cw z;exact⟨c',by simp[Tc,e,h']⟩
theorem df{scope:Xi}{env:Env}:∀{names:List (Str×NameKind)}{x:Str}{k:NameKind},
  (names.map λ(n,k)=>if(k==NameKind.free&&env.scope.kind==.function&&env.kindOf n==some .cell)then(n,NameKind.cell)else(n,k)).lookup x=some k->k=.cell\/k=.free->(x,NameKind.free)∈names\/(x,NameKind.cell)∈names
 | [],x,k,h,_=>by simp at h
 | (n,q)::r,x,k,h,hk=>by
  simp only[L_]at h
  by_cases hc:(q==NameKind.free&&env.scope.kind==.function&&env.kindOf n==some .cell)=true
  .rw[j_ hc]at h;simp only[Tc]at h;cases e:x==n with
   | true=>
    have e':=eq_of_beq e;subst e';simp only[F_,VP]at hc;exact .inl (by rw[hc.1.1];exact o_)
   | false=>
    rw[e]at h;rcases df (scope:=scope) h hk with z | z
    .exact .inl (l_ _ z)
    .exact .inr (l_ _ z)
  .rw[k_ hc]at h;simp only[Tc]at h;cases e:x==n with
   | true=>
    rw[e]at h;have e':=eq_of_beq e;subst e';cases h;rcases hk with rfl | rfl
    .exact .inr o_
    .exact .inl o_
   | false=>
    rw[e]at h;rcases df (scope:=scope) h hk with z | z
    .exact .inl (l_ _ z)
    .exact .inr (l_ _ z)
def dq(X:Cx)(scope:Xi)(cl:WX)(Nc:W3)(C:Xj)(s:Xb)(H:Hp)(ex:W4)(pn:WU):Cx:=
 {X with N:=Nc,s₀:=s,H₀:=H,env:=compEnvC scope cl C X.env,outer:=X.stack,stack:=X.stack,ex:=ex,fn:=λ_=>false,pn:=pn,xe:=λ_ _=>False}
def lj(n:Nat)(caps:W7)(σ:L2.St):L2.St:=List.replicate n none++caps.map λj=>(σ[j]?).getD none
def cN(n:Nat)(caps:W7)(env:En):En:=List.replicate n .un++caps.map λj=>match env[j]? with | some (.F d)=>.F d | _=>.un
def iy(X:Cx)(scope:Xi)(caps:W7):Bool:=caps.all λj=>match X.N[j]? with
 | some x=>(X.env.scope.names.lookup x==some .cell||X.env.scope.names.lookup x==some .free)&&scope.names.lookup x==some .free
 | none=>false
theorem fM{env:Env}:∀{names:List (Str×NameKind)}{x:Str},names.lookup x=some .free->
  (names.map λ(n,k)=>if(k==NameKind.free&&env.scope.kind==.function&&env.kindOf n==some .cell)then(n,NameKind.cell)else(n,k)).lookup x=some .free\/
  (names.map λ(n,k)=>if(k==NameKind.free&&env.scope.kind==.function&&env.kindOf n==some .cell)then(n,NameKind.cell)else(n,k)).lookup x=some .cell
 | [],x,h=>by simp at h
 | (n,q)::r,x,h=>by
  simp only[L_];simp only[Tc]at h;cases e:x==n with
  | true=>
   rw[e]at h;cases h
   by_cases hc:(NameKind.free==NameKind.free&&env.scope.kind==.function&&env.kindOf n==some .cell)=true
   .rw[j_ hc];simp[Tc,e]
   .rw[k_ hc];simp[Tc,e]
  | false=>
   rw[e]at h
   by_cases hc:(q==NameKind.free&&env.scope.kind==.function&&env.kindOf n==some .cell)=true
   .rw[j_ hc];simp only[Tc,e];exact fM h
   .rw[k_ hc];simp only[Tc,e];exact fM h
section
variable {X:Cx}{pins:WU}{σ:L2.St}{H:Hp}{s:Xb}{scope:Xi}{cl:WX}{Nc own:W3}{caps:W7}{fp:W4}
theorem fw(I:Inv X pins σ H s)(h1:b≠X.env.locals)(h2:b∉X.fs):b∉k7 X.stack:=λhb=>(t_.mp (I.stkSub b hb)).elim h1 h2
theorem rY{h1:Xf}{tk:Nat}{m:WW}(I:Inv X pins σ H s)(gX:fR (λx=>X.env.cells.lookup x) scope.names []=some cl)(bo:scope.kind=.function)(hnc:∀y∈scope.names,y.2≠.cell)
  (DB:∀b∈fp,bL X pins H b) (hfl:∀b∈fp,b<s.sz) (hN:Nc.map some=own.map some++caps.map (λj=>X.N[j]?)) (eT:iy X scope caps=true)
  (zK:h1.Ns s.sz m) (hk:∀b o,s.heap.get? b=some o->h1.get? b=some o) :
  Inv (dq X scope cl Nc s.sz s H fp (X.pn++pins)) [] (lj own.length caps σ) H {s with heap:=h1,toks:=tk}:=by
 have mem:=fu gX (λp hp=>by cases hp);have low:∀x c,cl.lookup x=some c->X.env.cells.lookup x=some c:=λx c h=>mem (x,c) (SN h);have cellAt:∀x c,cl.lookup x=some c->c<s.sz:=λx c h=>by
  obtain⟨v,q⟩:=I.cell x c (low x c h);exact q.lt
 refine⟨⟨I.ok.mod,bo,I.ok.glob,I.ok.blt,h_ _,λx y c h1 h2=>I.ok.inj x y c (low x c h1) (low y c h2),λx hx=>?_,λx c hf _=>absurd (show false=true from hf) P_,I.ok.hd,I.ok.frames,.inl rfl,λb hb=>⟨z_ (hfl b hb),λx c h=>(DB b hb).2.2.2.2.1 x c (low x c h)⟩,
   I.bs,B_ I.ok.bsz I.sz,λb o e hb=>?_,λb hb hf=>fw I (DB b hb).2.1 (DB b hb).2.2.1 hf,I.stack,I.stkFree,I.tb⟩,
  rfl,I.bare,Un.kept hk,⟨m,zK,λi x v e1 e2 e3=>?_⟩,λx c h=>?_,I.hok.fresh (h_ _),λx c h=>I.freeC x c (low x c h),λp hp=>?_,I.hok.kept hk,?_⟩
 .have jJ:(relabel scope X.env).names.lookup x=some .cell\/(relabel scope X.env).names.lookup x=some .free:=hx;have hmem:(x,NameKind.free)∈scope.names:=by
   rcases jJ with h | h
   .rcases df (scope:=scope) h (.inl rfl)with z | z
    .exact z
    .exact absurd rfl (hnc _ z)
   .rcases df (scope:=scope) h (.inr rfl)with z | z
    .exact z
    .exact absurd rfl (hnc _ z)
  obtain⟨c,hc⟩:=eV gX x (.inl hmem);exact cw hc
 .rcases(DB b hb).2.2.2.1 with z | z
  .exact I.ok.noex b o e z
  .exact absurd (N_ (q_ e) (B_ I.ok.bsz z)) (Uc _)
 .have NN:own.length<=i:=by
   by_cases hi:i<own.length
   .unfold lj at e2;rw[I_ (by simpa using hi),S2,j_ hi]at e2;cases e2
   .lia
  unfold lj at e2;rw[G_ (by simpa using NN),m_]at e2;simp only[Uq]at e2;cases hj:caps[i-own.length]? with
  | none=>rw[hj]at e2;cases e2
  | some j=>
   rw[hj]at e2;have ur:(σ[j]?).getD none=some v:=Option.some.inj e2;have hσ:σ[j]?=some (some v):=by
    cases q:σ[j]? with
    | none=>rw[q]at ur;cases ur
    | some o=>rw[q]at ur;exact Tp some ur
   have hx:X.N[j]?=some x:=by
    have h1:(Nc.map some)[i]?=some (some x):=by rw[m_,show Nc[i]?=some x from e1];rfl
    rw[hN,G_ (by simpa using NN),m_]at h1;simp only[c_]at h1;rw[hj]at h1;exact Option.some.inj h1
   have hc1:=M_.mp eT j (R_ hj);rw[hx]at hc1;simp only[F_,WL,VP]at hc1;obtain⟨hc1,rQ⟩:=hc1;obtain⟨m0,Qe,OA⟩:=I.loc;obtain⟨u,ru,lk⟩:=OA j x v hx hσ (.inr hc1);refine⟨u,ru,.inr ?_⟩;have Qf:∃c,X.env.cells.lookup x=some c/\s.heap.IsCell c (some u):=by
    rcases lk with ⟨h1,_⟩ | ⟨_,c,h1,h2⟩
    .have h1':X.env.scope.names.lookup x=some .local:=h1;rcases hc1 with z | z<;>· rw[h1']at z;cases z
    .exact⟨c,h1,h2⟩
   obtain⟨c,Qg,Qh⟩:=Qf;obtain⟨c',hc'⟩:=eV gX x (.inl (SN rQ));obtain⟨Qi,CV⟩:=cw hc';have e4:=low x Qi CV;rw[Qg]at e4;cases e4;refine⟨?_,c,CV,?_⟩
   .rcases fM (env:=X.env) rQ with z | z
    .exact .inr z
    .exact .inl z
   .obtain⟨o,ho,hd⟩:=Qh;exact⟨o,hk c o ho,hd⟩
 .obtain⟨v,o,ho,hd⟩:=I.cell x c (low x c h);exact⟨v,o,hk c o ho,hd⟩
 .have NO:p∈X.pn++pins:=by simpa [dq]using hp
  obtain⟨h1,h2,h3,h4,h5⟩:=I.pin p NO;exact⟨hk _ _ h1,h2,z_ (q_ h1),fw I h3 h4,h5⟩
 .have:=Tp List.length hN;simp only[c_,r_]at this;simp only[lj,r_,Uq,c_];exact this.symm
end
def dB(is:W7)(env:En):Bool:=is.all λi=>match env[i]? with | some .un=>true | _=>false
def jN(t:Ft)(c:Fb)(k:Xo)(env:En):Xq->Xp
 | []=>some []
 | d::ds=>(t d env).bind λe1=>(c e1).bind λb=>(if b=true then k e1 else some []).bind λxs=>(jN t c k env ds).bind λys=>some (xs++ys)
structure lq(is:List Nat)(t:Ft):Prop where
 len:∀{d:D}{env env':En},t d env=some env'->env'.length=env.length
 oth:∀{d:D}{env env':En},t d env=some env'->∀(j:Nat),j∉is->env'[j]?=env[j]?
 noO:∀{d:D}{env env':En},t d env=some env'->∀(j:Nat)(ds:rM),env'[j]?=some (.O ds)->env[j]?=some (.O ds)
theorem wD{env:En}{i:Nat}{d:D}{j:Nat}{ds:rM}(h:(env.set i (.F d))[j]?=some (.O ds)):env[j]?=some (.O ds):=by
 by_cases e:i=j
 .subst e
  by_cases hl:i<env.length
  .rw[v_ hl]at h;cases h
  .rw[K_ (by simpa using Tb hl)]at h;cases h
 .rw[p_ e]at h;exact h
theorem cD(i:Nat):lq [i] (b9 i):=⟨λh=>by cases h;simp,λh j hj=>by cases h;exact p_ (λz=>hj (by simp[z])),λh j ds hj=>by cases h;exact wD hj⟩
theorem g9:∀{is:W7}{ds:Xq}{env env':En},d9 is ds env=some env'->env'.length=env.length/\(∀(j:Nat),j∉is->env'[j]?=env[j]?)/\∀(j:Nat)(es:rM),env'[j]?=some (.O es)->env[j]?=some (.O es)
 | [],[],env,env',h=>by cases h;exact⟨rfl,λ_ _=>rfl,λ_ _ h=>h⟩
 | i::is,d::ds,env,env',h=>by
  obtain⟨h1,h2,h3⟩:=g9 (ds:=ds) h;refine⟨by simpa using h1,λj hj=>?_,λj es hj=>wD (h3 j es hj)⟩;rw[h2 j λz=>hj (l_ _ z)];exact p_ λz=>hj (by simp[z])
 | [],_::_,_,_,h=>by cases h
 | _::_,[],_,_,h=>by cases h
theorem qx(h:oj is d env=some env'):∃ds,d9 is ds env=some env':=by
 cases d with
 | tup ds=>exact⟨ds,h⟩
 | _=>cases h
theorem vn(is:W7):lq is (oj is):=
 ⟨λh=>let ⟨_,q⟩:=qx h;(g9 q).1,λh=>let ⟨_,q⟩:=qx h;(g9 q).2.1,λh=>let ⟨_,q⟩:=qx h;(g9 q).2.2⟩
theorem Rl.forget{K:Fg}{B Z H:Hp}{e1 env:En}{σ:L2.St}{is:W7}(R:Rl K B Z H e1 σ)(hl:e1.length=env.length)(ho:∀(j:Nat),j∉is->e1[j]?=env[j]?)(hu:dB is env=true):Rl K B Z H env σ:=by
 have key:∀(j:Nat) s,env[j]?=some s->s=.un\/e1[j]?=some s:=λj s h=>by
  by_cases hj:j∈is
  .have:=M_.mp hu j hj;rw[h]at this;cases s with
   | un=>exact .inl rfl
   | F d=>cases this
   | O ds=>cases this
  .exact .inr ((ho j hj).trans h)
 have Kr:∀(j:Nat) ds,env[j]?=some (.O ds)->e1[j]?=some (.O ds):=λj ds h=>by
  rcases key j _ h with z | z
  .cases z
  .exact z
 refine⟨R.bh,R.zh,hl.symm.trans R.len,λj s h=>?_,λj ds a h=>R.ob j ds a (Kr j ds h),λi j ds es a hne h1 h2=>R.ap i j ds es a hne (Kr i ds h1) (Kr j es h2)⟩;rcases key j s h with rfl | z
 .have hj:j < σ.length:=by rw[<- R.len,hl];exact(i_.mp h).1
  exact⟨σ[j],by simp[hj],trivial⟩
 .exact R.sl j s z
theorem Rl.other{K:Fg}{B Z H:Hp}{env:En}{σ:L2.St}{a:Xj}{o:HO}(R:Rl K B Z H env σ)(hb:B a=none)(hz:Z a=none)(nO:∀(i:Nat) ds,env[i]?≠some (.O ds)):Rl K B Z (upd H a o) env σ:=
 ⟨d8 R.bh hb,d8 R.zh hz,R.len,λj s h=>by
  obtain⟨x,e,q⟩:=R.sl j s h;refine⟨x,e,?_⟩;cases s with
  | un=>trivial
  | F d=>exact q
  | O ds=>exact absurd h (nO j ds),R.ob,R.ap⟩
abbrev Qv:=Xj->Hp->Hp->Xq->Xs->Prop
def QT:Qv:=λ_ _ _ _ _=>True
structure OB(qv:Qv):Prop where
 nil:∀{a B H},qv a B H [] []
 mon:∀{a B H H' pre vs},(∀b o,b≠a->H b=some o->H' b=some o)->qv a B H pre vs->qv a B H' pre vs
 base:∀{a B B' H pre vs},aH B B'->qv a B' H pre vs->qv a B H pre vs
theorem Jl:OB QT:=⟨trivial,λ_ _=>trivial,λ_ _=>trivial⟩
abbrev Qa:=Hp->Hp->Hp->Xq->Prop
structure Gv(a:Addr)(qa:Qa):Prop where
 ne:∀{B Z H pre},qa B Z H pre->H a≠none
 mon:∀{B Z H Z' H' pre},Ex Z H Z' H'->qa B Z H pre->qa B Z' H' pre
structure Ac(X:Cx)(qa:Qa)(pins:List (Addr×Obj))(a:Addr)(B Z H:Hp)(env:En)(σ:L2.St)(pre:List D)(s:Shared):Prop where
 I:Inv X pins σ H s
 R:Rl X.K B Z H env σ
 nO:∀(i:Nat) ds,env[i]?≠some (.O ds)
 hb:B a=none
 hz:Z a=none
 ac:qa B Z H pre
abbrev qL(K:Fg)(qv:Qv)(a:Xj):Qa:=λB Z H pre=>∃vs,H a=some (.lst vs)/\ak K Z pre vs/\qv a B H pre vs
theorem G2{K:Fg}{qv:Qv}{a:Xj}(qo:OB qv):Gv a (qL K qv a):=⟨λ⟨vs,h,_⟩ z=>(by rw[z]at h;cases h),λx ⟨vs,h,r,q⟩=>⟨vs,x.h _ _ h,ak.mono x.z _ r,qo.mon (λb o _ h=>x.h b o h) q⟩⟩
abbrev PH(X:Cx)(qv:Qv)(pins:WU)(a:Xj)(B Z H:Hp)(env:En)(σ:L2.St)(pre:Xq)(s:Xb):Prop:=Ac X (qL X.K qv a) pins a B Z H env σ pre s
abbrev BdT:=(Xb->Prop)->WT->Xb->Prop
def y0(X:Cx)(qa:Qa)(a:Xj)(Bd:BdT)(k:Xo):Prop:=∀(pins:WU)(s:Xb)(σ:L2.St)(H B Z:Hp)(env:En)(pre xs:Xq)(P:Xb->Prop)(E:WT),
 Ac X qa pins a B Z H env σ pre s->k env=some xs->pre.length+xs.length<=16000000->(∀s' σ' H' Z',Ac X qa pins a B Z' H' env σ' (pre++xs) s'->Ex Z B Z' H'->P s')->Bd P E s
abbrev Act(X:Cx)(qv:Qv)(a:Xj)(Bd:BdT)(k:Xo):Prop:=y0 X (qL X.K qv a) a Bd k
def Ph(X:Cx)(em:Sem Unit):BdT:=λP E s=>wpAny (model X.prog X.w) X.A em (λ_ s'=>P s') E s
structure CW(P:Program)(w:World)(ce:Expr):Prop where
 lp:∀{A:Around}{d:Nat}{it acc:Value}{env:Env}{Q:Fin->Shared->Prop}{E:Value->Shared->Prop}{s:Shared},wpAny (model P w) A ((compTurn ce d it acc env).onRaise (λx=>do noteFrame x env;theTreesLotGoes x)) Q E s->wpAny (model P w) (A.under (.compLoop ce d it acc env)) ((model P w).den (.compLoop ce d it acc env)) Q E s
 st:∀{A:Around}{d:Nat}{it acc:Value}{env:Env}{Q:Fin->Shared->Prop}{E:Value->Shared->Prop}{s:Shared},wpAny (model P w) A ((compStart ce d it acc env).onRaise (λx=>do noteFrame x env;standAt theWindowsPlace)) Q E s->wpAny (model P w) (A.under (.compStart ce d it acc env)) ((model P w).den (.compStart ce d it acc env)) Q E s
theorem PQ{P:Xd}{w:Xg}{elt:Xk}{gens:WZ}{scope:Xi}{pos:Pos}:CW P w (.ListComp elt gens scope pos):=⟨λh=>h,λh=>h⟩
def Tw(X:Cx)(ce:Xk)(d:Nat)(it:Xj)(acc:Xa)(tg:Xk)(ifs:W5)(Bd:BdT):Prop:=∀(s:Xb)(Q:Fin->Xb->Prop)(E:WT),
   wpAny (model X.prog X.w) X.A (pyNext (.ref it)) (λr s1=>match r with
    | none=>Q (.done .next) s1
    | some v=>wpAny (model X.prog X.w) X.A (letOwnedTupleGo tg (.ref it) v) (λ_ s2=>wpAny (model X.prog X.w) X.A (assign tg X.env v) (λ_ s3=>
      wpAny (model X.prog X.w) X.A (forIn ifs true λc r=>if r=true then do let ok <- isTrue c X.env (eval c X.env);pure (ForInStep.yield ok)else pure (ForInStep.yield r)) (λok s4=>
       if ok=true then Bd (λs5=>Q (.again (.compLoop ce d (.ref it) acc X.env)) s5) E s4 else Q (.again (.compLoop ce d (.ref it) acc X.env)) s4) E s3) E s2) E s1) E s->
   wpAny (model X.prog X.w) X.A (compTurn ce d (.ref it) acc X.env) Q E s
section
variable {X:Cx}{a:Xj}{elt:Xk}{fe:Fe}
def bj(f:Fe):Xo:=λenv=>(f env).bind λd=>some [d]
abbrev Jr(X:Cx)(a:Xj)(elt:Xk):BdT:=Ph X (do let _ <- call (.builtin "list.append") [.ref a,<- eval elt X.env])
theorem BE(hx:∀e s,¬X.xe e s)(h:PD X .cl elt fe):Act X QT a (Jr X a elt) (bj fe):=by
 intro pins s σ H B Z env pre xs P E A e hl hP;refine cO λ_ kq=>?_;obtain⟨d,e1,e2⟩:=b_.mp e;cases e2;obtain⟨vs,hv,rr,_⟩:=A.ac;refine kq (a_ (SI (h pins s σ H _ A.I ⟨env,B,Z,d,A.R,e1,λv Z1 H1 x1 g1=>(show ∃Z1,Ex Z H Z1 H1/\Rep X.K Z1 d v from⟨Z1,x1,g1⟩)⟩) (λu s1 aC=>?_) λe s z=>(hx e s z).elim))
 all_goals clear kq
 obtain⟨v,H1,I1,r1,Z1,x1,g1⟩:=aC;have hne:H a≠none:=by rw[hv];simp
 refine a_ (SI (pY pins s1 σ H1 (.ref a) [v] (.ref a) [u] (λy H2=>H2=upd H1 a (.lst (vs++[v]))) I1 rfl (.cons r1 .nil) ⟨a,vs,v,rfl,rfl,x1.h _ _ hv,by rw[<- rr.len,SB];simp at hl;lia,rfl⟩) (λw s2 aC=>?_) λe s z=>(hx e s z).elim);obtain⟨y,H2,I2,r2,q⟩:=aC;subst q;have hz1:=x1.fr a hne A.hz;have R1:=A.R.ext x1;refine d_ (hP s2 σ _ Z1 ⟨I2,R1.other A.hb hz1 A.nO,A.nO,A.hb,hz1,vs++[v],ai,(ak.mono x1.z pre rr).app (ak.one g1),trivial⟩ ?_);exact⟨d8 R1.bh A.hb,x1.z,d8 R1.zh hz1,λb hb e=>x1.fr b (nu A.R.bh hb) e,x1.nf⟩
def Dr(X:Cx)(ifs:W5)(c:Fb):Prop:=∀(pins:WU)(s:Xb)(σ:L2.St)(H:Hp)(Q:Bool->Hp->Prop)(E:WT),Inv X pins σ H s->TB X.K c σ H Q->
 wpAny (model X.prog X.w) X.A (forIn ifs true λc r=>if r=true then do let ok <- isTrue c X.env (eval c X.env);pure (ForInStep.yield ok)else pure (ForInStep.yield r)) (TP X pins σ Q) E s
theorem cG:Dr X [] Xy:=λpins s σ H Q E I aC=>by
 obtain⟨env,B,Z,b,R,e,k⟩:=aC;cases e;exact wpAny_tests_nil ⟨H,I,k Z H (Ex.refl R.zh)⟩
theorem vc(hx:∀e s,¬X.xe e s)(h:PB X c f):Dr X [c] f:=λpins s σ H Q E I q=>
 wpAny_tests_one (SI (h pins s σ H Q I q) (λ_ _ z=>z) λe s z=>(hx e s z).elim)
theorem jQ{ce:Xk}{qa:Qa}(co:CW X.prog X.w ce)(qo:Gv a qa)
  (hx:∀e s,¬X.xe e s) (bp:X.calm=true) (T:Turn X.prog X.w X.K tg J fp it tn) (hg:GD X tg t) (ht:lq is t) (zN:Dr X ifs c) (nN:y0 X qa a Bd k)
  (CY:Tw X ce dd it acc tg ifs Bd) (A:Ac X qa pins a B Z H env σ pre s) (DB:∀b∈fp,bL X pins H b) (htn:tn 0 s.heap) (hw:Walk X.K Z ds J) (hu:dB is env=true)
  (CZ:jN t c k env ds=some xs) (hl:pre.length+xs.length<=16000000) (hR:∀s' σ' H' Z',Ac X qa pins a B Z' H' env σ' (pre++xs) s'->Ex Z B Z' H'->(∀b∈fp,H' b=none)->R (.ok .next) s') :
  codeAny (model X.prog X.w) X.A (.compLoop ce dd (.ref it) acc X.env) R s:=by
 have vZ:∀{H':Hp},(∀b∈fp,H' b=none)->∀b∈fp,bL X pins H' b:=λhn b hb=>⟨hn b hb,(DB b hb).2⟩;refine codeAny_loop rfl (λn s'=>∃i σ' H' Z' pre' rest,Ac X qa pins a B Z' H' env σ' pre' s'/\tn i s'.heap/\(∀b∈fp,H' b=none)/\n=ds.length-i/\i<=ds.length/\Ex Z B Z' H'/\jN t c k env (ds.drop i)=some rest/\pre'++rest=pre++xs)
  (λn s1 hI=>?_) ds.length ⟨0,σ,H,Z,pre,xs,A,htn,λb hb=>(DB b hb).1,by simp,Ub _,⟨A.R.bh,aH.refl _,A.R.zh,λ_ _ h=>h,λ_ _ _ h=>h⟩,by simpa using CZ,rfl⟩
 obtain⟨i,σ1,H1,Z1,Gw,rest,A1,Rn,Qj,rfl,hi,x1,zO,oE⟩:=hI;refine co.lp (wpAny_noted (CY s1 _ _ ?_));obtain⟨w1,w2⟩:=hw Z1 H1 x1.z A1.R.zh i
 by_cases hlt:i<ds.length
 .obtain⟨go,yl⟩:=w1 hlt;refine aZ (T.item X rfl rfl rfl bp i pins s1 σ1 H1 _ A1.I (vZ Qj) Rn go) λr s2 aC=>?_;obtain⟨u,hr,h2⟩:=aC;subst hr;refine aZ h2 λ_ s3 aC=>?_;refine cO λ_ kq=>?_;obtain⟨x,H3,I3,r3,y3,Qk,Ow⟩:=aC;obtain⟨Z3,d,x3,hd,rep3⟩:=yl x H3 y3;have Qd:ds.drop i=d::ds.drop (i+1):=by
   obtain⟨h1,h2⟩:=i_.mp hd;rw[Us h1,h2]
  rw[Qd]at zO;unfold jN at zO;obtain⟨e1,g1,zO⟩:=b_.mp zO;obtain⟨b,g2,zO⟩:=b_.mp zO;obtain⟨ys,g3,zO⟩:=b_.mp zO;obtain⟨zs,g4,zO⟩:=b_.mp zO;cases zO;have I3':=I3.pinned (vZ Ow) (T.obj _ _ Qk);have hne:=qo.ne A1.ac;have R3:=A1.R.ext x3;refine kq (SI (hg _ s3 σ1 H3 x u (λσ4 H4=>∃Z4,Ex Z3 H3 Z4 H4/\Rl X.K B Z4 H4 e1 σ4) I3' r3 ⟨env,B,Z3,d,e1,R3,rep3,g1,λσ4 Z4 H4 x4 R4=>⟨Z4,x4,R4⟩⟩) (λ_ s4 aC=>?_) λe s z=>(hx e s z).elim)
  all_goals clear kq
  obtain⟨σ4,H4,I4,Z4,x4,R4⟩:=aC;have x34:=x3.trans x4;have Hr:∀(s7:Xb)(σ7:L2.St)(H7 Z7:Hp)(Gx:Xq),Ac X qa (pins++jW fp s3.heap) a B Z7 H7 e1 σ7 Gx s7->Ex Z B Z7 H7->Gx++zs=pre++xs->
    ∃m,m<ds.length-i/\∃i σ' H' Z' pre' rest,Ac X qa pins a B Z' H' env σ' pre' s7/\tn i s7.heap/\(∀b∈fp,H' b=none)/\m=ds.length-i/\i<=ds.length/\Ex Z B Z' H'/\jN t c k env (ds.drop i)=some rest/\pre'++rest=pre++xs:=by
   intro s7 σ7 H7 Z7 Gx A7 x7 h7;have NP:∀b∈fp,∀o,s3.heap.get? b=some o->s7.heap.get? b=some o/\H7 b=none:=λb hb o e=>
    let q:=A7.I.pin (b,o) (J_ _ (J_ _ (iO hb e)))
    ⟨q.1,q.2.1⟩
   refine⟨ds.length-(i+1),by lia,i+1,σ7,H7,Z7,Gx,zs,⟨A7.I.unpinned,A7.R.forget (ht.len g1) (ht.oth g1) hu,A1.nO,A7.hb,A7.hz,A7.ac⟩,T.keep _ _ _ Qk λb hb o e=>(NP b hb o e).1,λb hb=>?_,rfl,hlt,x7,g4,h7⟩;obtain⟨o,e,_⟩:=T.obj _ _ Qk b hb;exact(NP b hb o e).2
  refine aZ (zN _ s4 σ4 H4 (λb' H5=>b'=b/\∃Z5,Ex Z4 H4 Z5 H5) _ I4 ⟨e1,B,Z4,b,R4,g2,λZ5 H5 x5=>⟨rfl,Z5,x5⟩⟩) λok s5 aC=>?_;obtain⟨H5,I5,hok,Z5,x5⟩:=aC;subst hok;have hne4:H4 a≠none:=nu x34.h hne;have hz5:=x5.fr a hne4 (x34.fr a hne A1.hz);have x35:=x34.trans x5;have A5:Ac X qa (pins++jW fp s3.heap) a B Z5 H5 e1 σ4 Gw s5:=⟨I5,R4.ext x5,λj es h=>A1.nO j es (ht.noO g1 j es h),A1.hb,hz5,qo.mon x35 A1.ac⟩;have xB:Ex Z B Z5 H5:=x1.transB (x35.part A1.R.bh);cases ok with
  | false=>
   rw[k_ (by simp)]at g3;cases g3;rw[k_ (by simp)];exact⟨rfl,Hr s5 σ4 H5 Z5 Gw A5 xB (by simpa using oE)⟩
  | true=>
   rw[j_ rfl]at g3;rw[j_ rfl];have hlen:=Tp List.length oE;simp only[r_]at hlen;exact nN _ s5 σ4 H5 B Z5 e1 Gw ys _ _ A5 g3 (by lia) λs7 σ7 H7 Z7 A7 x7=>⟨rfl,Hr s7 σ7 H7 Z7 (Gw++ys) A7 (xB.transB x7) (by rw[T4];exact oE)⟩
 .have hii:i=ds.length:=by lia
  subst hii;rw[List.drop_eq_nil_of_le (by lia)]at zO;cases zO;rw[SG]at oE;refine aZ (T.done X rfl rfl rfl bp _ pins s1 σ1 H1 _ A1.I (vZ Qj) Rn (w2 (h_ _))) λr s2 aC=>?_;obtain⟨hr,I2⟩:=aC;subst hr;exact hR s2 σ1 H1 Z1 ⟨I2,A1.R,A1.nO,A1.hb,A1.hz,by rw[<- oE];exact A1.ac⟩ x1 Qj
end
section
variable {P:Xd}{w:Xg}{A:Xe}{elt:Xk}{gens:WZ}{scope:Xi}{pos:Pos}{d:Nat}{tg iter:Xk}{ifs:W5}{it acc:Xa}{env:Env}{R:Result->Xb->Prop}{s:Xb}
theorem qg{ce:Xk}(co:CW P w ce)(hc:(clausesOf ce)[d]?=some ⟨tg,iter,ifs,0⟩)(h0:codeAny (model P w) A (.compLoop ce d it acc env) R s)
    (h1:wpAny (model P w) A (pyIter it) (λQl s'=>codeAny (model P w) A (.compLoop ce d Ql acc env) R s') (notedBy (model P w) A env λx s'=>R (.error x) s') s) :
    codeAny (model P w) A (.compStart ce d it acc env) R s:=by
  refine codeAny_of_tree (co.st (wpAny_notedAt ?_));unfold compStart;rw[hc];show wpAny (model P w) A (ask >>= _) _ _ s;refine a_ (Tv (wpAny_ite ?_))<;>skip
  split
  . first
      | exact a_ (d_ (d_ ⟨rfl,h0⟩))
      | exact d_ ⟨rfl,h0⟩
  . refine a_ (Vp ?_)
    first
      | exact a_ (Tq (a_ (SI h1 (λQl s' q=>d_ ⟨rfl,q⟩) λ_ _ x=>x)))
      | (show wpAny (model P w) A (standAt iter.pos >>= _) _ _ s
         exact a_ (Tq (a_ (SI h1 (λQl s' q=>d_ ⟨rfl,q⟩) λ_ _ x=>x))))
end
section
variable {X:Cx}{a:Xj}{elt:Xk}{gens:WZ}{scope:Xi}{pos:Pos}{d:Nat}{tg iter uA bK:Xk}{ifs kI:W5}{it:Xj}
theorem wU{ce:Xk}{em:Sem Unit}(ht:compTurn ce d (.ref it) (.ref a) X.env=xi ce tg iter ifs d (.ref it) (.ref a) X.env em):Tw X ce d it (.ref a) tg ifs (Ph X em):=by
 intro s Q E hw;rw[ht];unfold xi;refine a_ (Tq (a_ (aZ hw λr s1 q1=>?_)));cases r with
 | none=>exact d_ q1
 | some v=>
  refine a_ (aZ q1 λ_ s2 q2=>a_ (aZ q2 λ_ s3 q3=>a_ (aZ q3 λok s4 q4=>?_)));cases ok with
  | false=>exact d_ (show Q (.again (.compLoop ce d (.ref it) (.ref a) X.env)) s4 from by rw[k_ (by simp)]at q4;exact q4)
  | true=>
   rw[j_ rfl]at q4;exact a_ (aZ q4 λ_ s5 q5=>d_ q5)
def Am(X:Cx)(a:Xj)(ce:Xk)(d:Nat)(bK:Xk):BdT:=λP E s=>
 wpAny (model X.prog X.w) X.A (eval bK X.env) (λx s5=>wpAny (model X.prog X.w) X.A (pyIter x) (λi' s6=>
  codeAny (model X.prog X.w) X.A (.compStart ce (d+1) i' (.ref a) X.env) (λr s7=>match r with | .ok _=>P s7 | .error e=>cameBackBy (model X.prog X.w) X.A X.env E e s7) s6) E s5) E s
theorem wu{ce:Xk}(ht:compTurn ce d (.ref it) (.ref a) X.env=wV ce tg iter bK ifs d (.ref it) (.ref a) X.env)(hs:∀x,foldedSetIterable bK X.env x=pure x):Tw X ce d it (.ref a) tg ifs (Am X a ce d bK):=by
 intro s Q E hw;rw[ht];unfold wV;refine a_ (Tq (a_ (aZ hw λr s1 q1=>?_)));cases r with
 | none=>exact d_ q1
 | some v=>
  refine a_ (aZ q1 λ_ s2 q2=>a_ (aZ q2 λ_ s3 q3=>a_ (aZ q3 λok s4 q4=>?_)));cases ok with
  | false=>exact d_ (show Q (.again (.compLoop ce d (.ref it) (.ref a) X.env)) s4 from by rw[k_ (by simp)]at q4;exact q4)
  | true=>
   rw[j_ rfl]at q4;refine a_ (aZ q4 λx s5 q5=>a_ (Tq (a_ (VX (hs x) (a_ (Q_ (aZ q5 λi' s6 q6=>?_)))))));refine a_ (wpAny_runOwn (U9 q6 λr s7 q7=>?_));cases r with
   | ok f=>exact d_ q7
   | error e=>exact q7
def fy(fi:Fi)(is:W7)(t:Ft)(c:Fb)(k:Xo):Xo:=λenv=>(fi env).bind λds=>if dB is env=true then jN t c k env ds else none
theorem sT{ce:Xk}{qa:Qa}(co:CW X.prog X.w ce)(qo:Gv a qa)(hx:∀e s,¬X.xe e s)(bp:X.calm=true)(h2:(clausesOf ce)[d+1]?=some ⟨uA,bK,kI,0⟩)
  (hi:ID X uA bK fi) (hg:GD X uA t) (ht:lq is t) (zN:Dr X kI c) (nN:y0 X qa a Bd k)
  (CY:∀it,Tw X ce (d+1) it (.ref a) uA kI Bd) :
  y0 X qa a (Am X a ce d bK) (fy fi is t c k):=by
 intro pins s σ H B Z env pre xs P E Aq e hl hP;obtain⟨ds,e1,e2⟩:=b_.mp e;have hu:dB is env=true:=by
  by_cases hu:dB is env=true
  .exact hu
  .rw[k_ hu]at e2;cases e2
 rw[j_ hu]at e2;refine SI (hi pins s σ H (λJ H1=>∃Z1,Ex Z H Z1 H1/\Walk X.K Z1 ds J) Aq.I ⟨env,B,Z,ds,Aq.R,e1,λJ Z1 H1 x1 wk=>⟨Z1,x1,wk⟩⟩) (λx s5 q5=>?_) λe s z=>(hx e s z).elim;refine SI q5 (λi' s6 aC=>?_) λe s z=>(hx e s z).elim;obtain⟨it,fp,tn,J,H6,hit,I6,T,Ro,fp6,Z6,x6,wk⟩:=aC;subst hit;have A6:Ac X qa pins a B Z6 H6 env σ pre s6:=⟨I6,Aq.R.ext x6,Aq.nO,Aq.hb,x6.fr a (qo.ne Aq.ac) Aq.hz,qo.mon x6 Aq.ac⟩;have go:=jQ co qo (a:=a) hx bp T hg ht zN nN (CY it) A6 fp6 Ro wk hu e2 hl
  (R:=λr s7=>match r with | .ok _=>P s7 | .error e=>cameBackBy (model X.prog X.w) X.A X.env E e s7)
  λs' σ' H' Z' A' x' _=>hP s' σ' H' Z' A' ((x6.part Aq.R.bh).transB x')
 exact qg co h2 go (T.self _ 0 _ _ _ Ro go)
end
structure NQ(X:Cx)(qa:Qa)(a:Addr)(ce:Expr)(d:Nat)(tg:Expr)(ifs:List Expr)(t:Ft)(c:Fb)(k:En->Option (List D)):Prop where
 g:GD X tg t
 ts:Dr X ifs c
 ex:∃Bd,y0 X qa a Bd k/\∀it,Tw X ce d it (.ref a) tg ifs Bd
abbrev JE(X:Cx)(qv:Qv)(a:Xj)(elt:Xk)(gens:WZ)(scope:Xi)(pos:Pos)(d:Nat)(tg:Xk)(ifs:W5)(t:Ft)(c:Fb)(k:Xo):Prop:=NQ X (qL X.K qv a) a (.ListComp elt gens scope pos) d tg ifs t c k
section
variable {X:Cx}{a:Xj}{elt:Xk}{gens:WZ}{scope:Xi}{pos:Pos}{d:Nat}{tg iter uA bK:Xk}{ifs kI:W5}{t t':Ft}{c c':Fb}{k:Xo}{fe:Fe}{fi:Fi}{is:W7}{qv:Qv}
theorem bF(hx:∀e s,¬X.xe e s)(hg:GD X tg t)(zN:Dr X ifs c)(he:PD X .cl elt fe)(h:gens[d]?=some ⟨tg,iter,ifs,0⟩:=by rfl)(h2:gens[d+1]?=none:=by rfl):JE X QT a elt gens scope pos d tg ifs t c (bj fe):=
 ⟨hg,zN,_,BE hx he,λ_=>wU (yF h h2)⟩
theorem rS(hx:∀e s,¬X.xe e s)(bp:X.calm=true)(hg:GD X tg t)(zN:Dr X ifs c)(hi:ID X uA bK fi)(ht:lq is t')(b:JE X QT a elt gens scope pos (d+1) uA kI t' c' k)
  (h:gens[d]?=some ⟨tg,iter,ifs,0⟩:=by rfl) (h2:gens[d+1]?=some ⟨uA,bK,kI,0⟩:=by rfl) (hs:∀x,foldedSetIterable bK X.env x=pure x:=by intro _;rfl):JE X QT a elt gens scope pos d tg ifs t c (fy fi is t' c' k):=by
 obtain⟨Bd,nN,CY⟩:=b.ex;exact⟨hg,zN,_,sT PQ (G2 Jl) hx bp h2 hi b.g ht b.ts nN CY,λ_=>wu (zk h h2) hs⟩
end
def cq(fi:Fi)(is:W7)(t:Ft)(c:Fb)(k:Xo)(n:Nat)(caps:W7):Fe:=λenv=>(fi env).bind λds=>if dB is (cN n caps env)=true then(jN t c k (cN n caps env) ds).bind λxs=>if xs.length<=16000000 then some (.lst xs)else none else none
theorem mQ(h:cq fi is t c k n caps env=some d) :
  ∃ds xs,fi env=some ds/\dB is (cN n caps env)=true/\jN t c k (cN n caps env) ds=some xs/\xs.length<=16000000/\d=.lst xs:=by
 obtain⟨ds,e1,e2⟩:=b_.mp h
 by_cases hu:dB is (cN n caps env)=true
 .rw[j_ hu]at e2;refine cO λ_ kq=>?_;obtain⟨xs,e3,e4⟩:=b_.mp e2;obtain⟨e5,e6⟩:=kP e4;exact kq (⟨ds,xs,e1,hu,e3,e5,e6.symm⟩)
 .rw[k_ hu]at e2;cases e2
theorem iX(n:Nat)(caps:W7)(env:En):∀(i:Nat) ds,(cN n caps env)[i]?≠some (.O ds):=λi ds h=>by
 unfold cN at h
 by_cases hi:i<n
 .rw[I_ (by simpa using hi),S2,j_ hi]at h;cases h
 .rw[G_ (by simpa using hi),m_]at h;cases q:caps[i-(List.replicate n Slot.un).length]? with
  | none=>rw[q]at h;cases h
  | some j=>
   rw[q]at h;simp only[Option.map_some,Option.some.injEq]at h
   split at h<;>cases h
theorem Rl.cap{K:Fg}{B Z H H':Hp}{env:En}{σ:L2.St}(R:Rl K B Z H env σ)(n:Nat)(caps:W7)(s1:aH H H')(s2:aH Z H'):Rl K H Z H' (cN n caps env) (lj n caps σ):=by
 refine⟨s1,s2,by simp[cN,lj],λi s h=>?_,λi ds a h=>absurd h (iX n caps env i ds),λi j ds es a _ h=>absurd h (iX n caps env i ds)⟩;unfold cN at h;unfold lj
 by_cases hi:i<n
 .rw[I_ (by simpa using hi),S2,j_ hi]at h ⊢;cases h;exact⟨none,rfl,trivial⟩
 .rw[G_ (by simpa using hi),m_]at h ⊢;simp only[Uq]at h ⊢;cases q:caps[i-n]? with
  | none=>rw[q]at h;cases h
  | some j=>
   rw[q]at h;simp only[Option.map_some,Option.some.injEq]at h ⊢;refine⟨_,rfl,?_⟩
   split at h
   .rename_i dd hj;subst h;obtain⟨x,h1,v,h2,r⟩:=R.sl j _ hj;rw[h1,h2];exact⟨v,rfl,r⟩
   .subst h;trivial
section
variable {X:Cx}{elt:Xk}{rest:WZ}{scope:Xi}{pos:Pos}{tg iter:Xk}{ifs:W5}{t:Ft}{c:Fb}{k:Xo}{fi:Fi}{is caps:W7}{cl:WX}{Nc own:W3}
theorem pL{qv:Qv}(qo:OB qv)(ht:lq is t)(bp:X.calm=true)(gX:fR (λx=>X.env.cells.lookup x) scope.names []=some cl)(bo:scope.kind=.function)(hnc:∀y∈scope.names,y.2≠.cell)
  (hN:Nc.map some=own.map some++caps.map (λj=>X.N[j]?)) (eT:iy X scope caps=true)
  (hb:∀C s H ex pn a,JE (dq X scope cl Nc C s H ex pn) qv a elt (⟨tg,iter,ifs,0⟩::rest) scope pos 0 tg ifs t c k)
  {pins:WU} {σ:L2.St} {s2:Xb} {H2 B Z2:Hp} {env:En} {ds xs:Xq} {E:WT} {RR:Xa->Xj->Result->Xb->Prop} {it:Xj} {fp:W4} {tn:Nat->Xf->Prop} {J:It}
  (I2:Inv X pins σ H2 s2) (R2:Rl X.K B Z2 H2 env σ) (T:Turn X.prog X.w X.K tg J fp it tn) (Da:tn 0 s2.heap) (rN:∀b∈fp,bL X pins H2 b) (wk:Walk X.K Z2 ds J) (hu:dB is (cN own.length caps env)=true)
  (CZ:jN t c k (cN own.length caps env) ds=some xs) (hl:xs.length<=16000000)
  (Qm:∀a C H' Z' s' vs m,Inv X pins σ H' s'->s'.heap.Ns C m->bL X pins H' C->Ex Z2 H2 Z' H'->H2 a=none->H' a=some (.lst vs)->Z' a=none->ak X.K Z' xs vs->qv a H2 H' xs vs->RR (.ref a) C (.ok .next) s') :
  wpAny (model X.prog X.w) X.A (newList []) (λacc s₃=>wpAny (model X.prog X.w) X.A (newFunctionEnv scope X.env.globals cl [] X.env.qual none .none (some X.env)) (λKs s₄=>
   codeAny (model X.prog X.w) X.A (.compStart (.ListComp elt (⟨tg,iter,ifs,0⟩::rest) scope pos) 0 (.ref it) acc {Ks with scope:=relabel scope X.env}) (RR acc Ks.locals) s₄) E s₃) E s2:=by
 refine S7 ?_ (by size_fits);have hf:H2 s2.sz=none:=I2.hok.fresh (h_ _);have I3:Inv X pins σ (upd H2 s2.sz (.lst [])) {s2 with heap:=s2.heap.push {cls:=.type "list",dict:=none,data:=.seq ([]:W0).toArray}}:=
  I2.laid (λb u e=>e_ _ e) (h_ _) (show aU X.prog X.w _ _ _ (.lst [])from⟨by simp,[],0,.nil,n_ _ rfl⟩)
 generalize hs3:({s2 with heap:=s2.heap.push {cls:=.type "list",dict:=none,data:=.seq ([]:W0).toArray}}:Xb)=s3 at I3 ⊢;have NR:∀b o,s2.heap.get? b=some o->s3.heap.get? b=some o:=λb o e=>by rw[<- hs3];exact e_ _ e
 have NS:s3.sz=s2.sz+1:=by rw[<- hs3];exact VA _ _
 have hfl:∀b∈fp,b<s2.sz:=λb hb=>let ⟨o,e,_⟩:=T.obj _ _ Da b hb;q_ e;have NT:∀b∈fp,bL X pins (upd H2 s2.sz (.lst [])) b:=λb hb=>⟨by rw[ar (z_ (hfl b hb))];exact(rN b hb).1,(rN b hb).2⟩;refine VY hnc (by intro y hy;simp at hy) (λh1 zK hsb=>?_) bo;have NU:∀b o,s3.heap.get? b=some o->h1.get? b=some o:=λb o e=>hsb.extBut b o (z_ (q_ e)) (e_ _ e);have I4:=rY (tk:=s3.toks+([]:List (Str×Xa)).length) I3 gX bo hnc NT (λb hb=>by rw[NS];exact T5 (hfl b hb)) hN eT zK NU;generalize hXc:dq X scope cl Nc s3.sz s3 (upd H2 s2.sz (.lst [])) fp (X.pn++pins)=Xc at I4;have bb:JE Xc qv s2.sz elt (⟨tg,iter,ifs,0⟩::rest) scope pos 0 tg ifs t c k:=by rw[<- hXc];exact hb _ _ _ _ _ _
 obtain⟨Bd,nN,CY⟩:=bb.ex;have eP:Xc.prog=X.prog:=by rw[<- hXc];rfl
 have eW:Xc.w=X.w:=by rw[<- hXc];rfl
 have eK:Xc.K=X.K:=by rw[<- hXc];rfl
 have eA:Xc.A=X.A:=by rw[<- hXc];rfl
 have eE:Xc.env=compEnvC scope cl s3.sz X.env:=by rw[<- hXc];rfl
 have hx:∀e s,¬Xc.xe e s:=λe s z=>by rw[<- hXc]at z;exact z
 have Dx:Xc.calm=true:=by rw[<- hXc];exact bp
 have T':Turn Xc.prog Xc.w Xc.K tg J fp it tn:=by rw[eP,eW,eK];exact T
 have A4:PH Xc qv [] s2.sz H2 Z2 (upd H2 s2.sz (.lst [])) (cN own.length caps env) (lj own.length caps σ) [] {s3 with heap:=h1,toks:=s3.toks+([]:List (Str×Xa)).length}:=
  ⟨I4,by rw[eK];exact R2.cap _ _ (cm hf) (d8 R2.zh (R2.zh.free hf)),iX _ _ _,hf,R2.zh.free hf,[],ai,rfl,qo.nil⟩
 have Qn:∀b∈fp,bL Xc [] (upd H2 s2.sz (.lst [])) b:=λb hb=>by
  obtain⟨f1,f2,f3,f4,f5,f6⟩:=NT b hb;have mem:=fu gX (λp hp=>by cases hp);rw[<- hXc];refine⟨f1,?_,fw I3 f2 f3,.inl hb,λx c h=>f5 x c (mem (x,c) (SN h)),λp hp=>f6 p (by simpa [dq]using hp)⟩;show b≠s3.sz;rw[NS];exact z_ (T5 (hfl b hb))
 have NV:tn 0 ({s3 with heap:=h1,toks:=s3.toks+([]:List (Str×Xa)).length}:Xb).heap:=T.keep _ _ _ Da λb _ o e=>NU b o (NR b o e);have go:=jQ PQ (G2 qo) hx Dx T' bb.g ht bb.ts nN (CY it) A4 Qn NV (by rw[eK];exact wk) hu CZ (by simpa using hl) λs' σ' H' Z' A' x' fr'=>by
  obtain⟨vs,hv,rr,qq⟩:=A'.ac;have base:=A'.I.base;obtain⟨mC,NW,_⟩:=A'.I.loc;have hok:=A'.I.hok;have hos:=A'.I.os;have free:=A'.I.free;rw[eE]at NW free;rw[eP,eW]at hok;rw[eK]at rr;have u1:Un (k7 X.stack) fp H2 (upd H2 s2.sz (.lst [])) s2.heap s3.heap:=Un.laid NR (h_ _) hf;have u2:Un (k7 X.stack) fp (upd H2 s2.sz (.lst [])) H' s3.heap s'.heap:=by rw[<- hXc]at base;exact base
  have Kt:s'.os=s2.os:=by rw[<- hXc]at hos;exact hos.trans (by rw[<- hs3];rfl)
  have I':Inv X pins σ H' s':=I2.call' Kt (u1.trans u2) hok A'.I.bare λb hb=>⟨(rN b hb).2.2.2.1,(rN b hb).2.1,(rN b hb).2.2.2.2.1,(rN b hb).2.2.2.2.2⟩;exact Qm s2.sz s3.sz H' Z' s' vs mC I' NW (I3.fpOk (h_ _) free) x' hf hv A'.hz (by simpa using rr) (by simpa using qq)
 rw[eP,eW,eA,eE]at go;exact qg PQ rfl go (T.self _ 0 _ _ _ NV go)
theorem gA(ht:lq is t)(bp:X.calm=true)(hi:ID X tg iter fi)(gX:fR (λx=>X.env.cells.lookup x) scope.names []=some cl)(hN:Nc.map some=own.map some++caps.map (λj=>X.N[j]?))
  (hb:∀C s H ex pn a,JE (dq X scope cl Nc C s H ex pn) QT a elt (⟨tg,iter,ifs,0⟩::rest) scope pos 0 tg ifs t c k)
  (eT:iy X scope caps=true:=by rfl) (bo:scope.kind=.function:=by rfl) (hnc:∀y∈scope.names,y.2≠.cell:=by decide +kernel) (Ku:∀x∈scope.names,x.2=.local->scope.names.lookup x.1=some .local:=by decide +kernel)
  (hs:∀x,foldedSetIterable iter X.env x=pure x:=by intro _;rfl) :
  PD X .nw (.ListComp elt (⟨tg,iter,ifs,0⟩::rest) scope pos) (cq fi is t c k own.length caps):=by
 intro pins s σ H Q I hT;obtain⟨env,B,Z,d,R,e,kk⟩:=hT;obtain⟨ds,xs,e1,hu,CZ,hl,rfl⟩:=mQ e;rw[eval_ListComp];refine Vh rfl hs (fP gX) bo Ku ?_;refine aZ (hi pins s σ H (λJ H1=>∃Z1,Ex Z H Z1 H1/\Walk X.K Z1 ds J) I ⟨env,B,Z,ds,R,e1,λJ Z1 H1 x1 wk=>⟨Z1,x1,wk⟩⟩) λx s1 q1=>aZ q1 λNA s2 aC=>?_;obtain⟨it,fp,tn,J,H2,hit,I2,T,Da,rN,Z2,x2,wk⟩:=aC;subst hit;refine pL Jl ht bp gX bo hnc hN eT hb I2 (R.ext x2) T Da rN wk hu CZ hl λa C H' Z' s' vs m I' ns fpC x' hf hv hz rr _=>?_;refine⟨m,ns,λh' hs'=>?_⟩;obtain⟨f1,f2,f3,f4,f5,f6⟩:=fpC;refine⟨.ref a,H',I'.turned (λb o hb e=>hs'.extBut b o hb e) f1 f2.symm.symm f4 f5 f6,rfl,kk _ Z' H' (x2.trans x') ⟨a,vs,xs,rfl,rfl,x2.h.free hf,hv,hz,rr⟩⟩
end
section
variable {P:Xd}{w:Xg}{A:Xe}{E:WT}
theorem LP(hne:l≠it):∀(n i:Nat)(s:Xb)(Q:W0->Xb->Prop),s.heap.IsListIter it l i->s.heap.IsList l items->i+n<=items.size->
  (∀h',h'.IsListIter it l (i+n)->Heap.SameBut it s.heap h'->Q ((items.toList.drop i).take n) {s with heap:=h'})->wpAny (model P w) A (draw (.ref it) n) Q E s:=by
 intro n
 induction n with
 | zero=>intro i s Q hit hl hle hQ;exact d_ (show Q [] s from by simpa using hQ s.heap (by simpa using hit) (Heap.SameBut.refl ..))
 | succ n ih=>
  intro i s Q hit hl hle hQ;have hlt:i<items.size:=by lia
  refine(show wpAny (model P w) A (pyNext (.ref it) >>= _) Q E s from a_ (UM hit hl (x:=items[i]) (by simp[hlt]) λh1 Kv hs1=>?_));refine a_ (Q_ (ih (i+1) _ _ Kv (hl.extBut hs1.extBut hne) (by lia) λh2 Kw Ho=>d_ ?_));have q:=hQ h2 (by rw[show i+(n+1)=i+1+n by lia];exact Kw) (hs1.trans Ho);have hd:items.toList.drop i=items[i]::items.toList.drop (i+1):=by simp[Us,hlt]
  rw[hd,List.take_succ_cons]at q;exact q
theorem Ez(hh:A.handled=none)(hl:s.heap.IsList l items)(hQ:∀h',Heap.ExtBut s.sz s.heap h'->Q items.toList {s with heap:=h'}) :
  wpAny (model P w) A (unpackItems (.ref l) items.size none) Q E s:=by
 have hlt:l≠s.sz:=by obtain⟨o,ho,_⟩:=hl;exact z_ (q_ ho)
 unfold unpackItems;refine a_ ?_
 .unfold notIterableAtAll;refine a_ (TK hl.typeIs PySem.slot_list_iter.lookup (d_ ?_));simp only[x_,SV];have hl1:(s.heap.push {cls:=.type "list_iterator",data:=.fields #[.ref l,rawInt 0]}).IsList l items:=by obtain⟨o,ho,r⟩:=hl;exact⟨o,e_ _ ho,r⟩
  refine a_ (Q_ (Vw hl (a_ (Q_ (LP hlt items.size 0 _ _ ⟨_,n_ _ rfl,rfl,rfl⟩ hl1 (by lia) λh1 Kv hs1=>?_)))));have gW:((items.toList.drop 0).take items.size)=items.toList:=by rw[List.drop_zero];exact VB (by simp)
  rw[gW,k_ (by simp)];refine a_ (Q_ (VH hh Kv (hl1.extBut hs1.extBut hlt) (by simp) λh2 vX=>?_));simp only[Option.isSome_none,x_,SV];exact d_ (hQ h2 λb o hb e=>vX b o hb (hs1.extBut b o hb (e_ _ e)))
end
section
variable {X:Cx}{rg:Gr}
def Pw(K:W_)(n:Nat)(t:TGs):TG:=λv σ H Q=>∃a xs,v=.ref a/\di K H a xs/\xs.length=n/\t xs σ H Q
theorem IP(hc:X.calm=true)(h:As X es t)(hn:(assignEach es X.env).length=n:=by rfl)(hst:(assignEach es X.env).findIdx? (·.1)=none:=by rfl):PG X (.Tuple es k pos) (Pw X.K n t):=by
 intro pins s σ H v u Q I r hw;obtain⟨a,xs,e1,hq,hl,hw⟩:=hw;subst e1;cases r;obtain⟨aQ,rv,pl,hz⟩:=I.list hq;have hlen:=rv.length;rw[PyProof.Rows.assign_Tuple];refine a_ (Tq ?_);unfold unpack;rw[hst,hn,show n=aQ.toArray.size by rw[u_];lia];refine a_ (Q_ (Ez (I.ok.hd hc) pl.isList λh' hx=>?_));have I1:Inv X pins σ H {s with heap:=h'}:=I.kept λb o e=>hx b o (z_ (q_ e)) e;exact h pins _ σ H xs _ Q I1 (by simpa using rv) hw
def Q1(is:W7):Ft:=λd env=>match d with
 | .lst ds=>d9 is ds env
 | _=>none
theorem M4(hc:X.calm=true)(h:IX X es is)(hn:(assignEach es X.env).length=is.length:=by rfl)(hst:(assignEach es X.env).findIdx? (·.1)=none:=by rfl):GD X (.Tuple es k pos) (Q1 is):=
 PG.imp (IP hc h hn hst) λv σ H Q aC=>by
  refine cO λ_ kq=>?_;obtain⟨env,B,Z,d,env',R,r,e,k⟩:=aC;cases d<;>try cases e
  rename_i ds;obtain⟨a,vs,e1,hq,rr⟩:=r;exact kq (⟨a,vs,e1,R.zh.seq hq,by rw[<- rr.len];exact iL e,env,B,Z,ds,env',R,rr,e,λσ'=>k σ' Z H (Ex.refl R.zh)⟩)
def Mp(is:W7)(f:Fe):Fs:=λenv=>(f env).bind λd=>(Q1 is d env).bind λe=>some (.nx e)
theorem Nk(hc:X.calm=true)(he:PD X .cl e fe)(h:IX X es is)(hn:(assignEach es X.env).length=is.length:=by rfl)(hst:(assignEach es X.env).findIdx? (·.1)=none:=by rfl)
  (hs:swapsWithSole [.Tuple es k p2] e pos.line X.env=pure false:=by rfl) (hw:swappedStores [.Tuple es k p2] e X.env=pure none:=by rfl) (h1:(assignEach [.Tuple es k p2] X.env).map (·.2)=[assign (.Tuple es k p2) X.env]:=by rfl) :
  SD X rg (.Assign [.Tuple es k p2] e pos) (Mp is fe):=PS.imp (vk he (M4 hc h hn hst) hs hw h1) λE σ H aC=>by
 refine cO λ_ kq=>?_;obtain⟨env,B,Z,o,R,e,k⟩:=aC;obtain⟨d,e1,e⟩:=b_.mp e;obtain⟨en,e2,e⟩:=b_.mp e;cases e;refine kq (⟨env,B,Z,d,R,e1,λv Z1 H1 x1 g1=>⟨env,B,Z1,d,en,R.ext x1,g1,e2,λσ' Z2 H2 x2 R'=>k σ' Z2 H2 ((x1.trans x2).part R.bh) R'⟩⟩)
variable {l r:Xk}{fa fb:Fe}{ga gb:Gr}{pos p:Pos}
theorem El:gy X (binaryOp .Add) (λx y H Q=>∃l b xs zs,x=.ref l/\y=.ref b/\di X.K H l xs/\di X.K H b zs/\xs.length+zs.length<=sizeLine/\∀p,H p=none->Q (.ref p) (upd H p (.lst (xs++zs)))):=by
 intro pins s σ H x y v u Q I rx ry h;refine cO λ_ kq=>?_;obtain⟨l,b,xs,zs,rfl,rfl,hH,hB,hz,q⟩:=h;cases rx;cases ry;obtain⟨aQ,r,⟨o,n,e,c1,c2,c3⟩,_⟩:=I.list hH;obtain⟨v7,r2,⟨o2,n2,e2,d1,d2,d3⟩,_⟩:=I.list hB;obtain⟨cls,dd,dt,sl⟩:=o;obtain⟨Ko,zJ,dt2,Dz⟩:=o2;simp only at c1 c2 c3 d1 d2 d3;subst c1 c2 c3 d1 d2 d3;have h1:=r.length;have h2:=r2.length;have hsz:aQ.toArray.size+v7.toArray.size<=sizeLine:=by simp only[u_];lia
 refine kq (concat_meets ⟨_,e,rfl⟩ ⟨_,e2,rfl⟩ noFill_list_add seq_list_add PySem.F.slot_list_add PySem.F.entry_list_add (PySem.F.args_list_add_2 _ _) (list_addW l b aQ.toArray v7.toArray n n2 none none sl Dz hsz) ⟨e,e2,?_⟩)
 all_goals clear kq
 rw[show aQ.toArray++v7.toArray=(aQ++v7).toArray by simp];exact⟨.ref _,_,I.lnew (r.append r2) (by rw[r_];lia),rfl,q _ I.fresh⟩
theorem mS(ha:PD X ga l fa)(hb:PD X gb r fb):PD X .nw (.BinOp l .Add r pos) (ao sq fa fb):=og El JY ha hb
end
section
variable {X:Cx}{rg:Gr}{elt:Xk}{rest:WZ}{scope:Xi}{pos spos py:Pos}{tg iter:Xk}{ifs:W5}{t:Ft}{c:Fb}{k:Xo}{fi:Fi}{is caps:W7}{cl:WX}{Nc own:W3}{y:Str}
structure Hu(X:Cx)(qv:Qv)(e:Expr)(f:Fe):Prop where
 ex:∀(y:Str)(py spos:Pos)(i:Nat),swapsWith e (some (.Name y py)) spos.line X.env=pure true->X.N.Nodup->X.N[i]?=some y->Loc X.env.scope y->(X.fn y=true\/X.env.scope.names.lookup y=some .local)->
  ∀(pins:List (Addr×Obj))(s:Shared)(σ:L2.St)(H:Hp)(E:Ends),Inv X pins σ H s->(∃env B Z d,Rl X.K B Z H env σ/\f env=some d/\∀v Z' H',Ex Z H Z' H'->Gd X.K Z' H H' .nw d v->(∃a xs vs,v=.ref a/\d=.lst xs/\H' a=some (.lst vs)/\qv a H H' xs vs)->E.nx (σ.set i (some v)) H')->
   wpAny (model X.prog X.w) X.A (exec (.Assign [.Name y py] e spos) X.env) (SP X pins E) X.xe s
abbrev Mn(X:Cx)(e:Xk)(f:Fe):Prop:=Hu X QT e f
theorem nC(ht:lq is t)(bp:X.calm=true)(hi:ID X tg iter fi)(gX:fR (λx=>X.env.cells.lookup x) scope.names []=some cl)(hN:Nc.map some=own.map some++caps.map (λj=>X.N[j]?))
  (hb:∀C s H ex pn a,JE (dq X scope cl Nc C s H ex pn) qv a elt (⟨tg,iter,ifs,0⟩::rest) scope pos 0 tg ifs t c k)
  (eT:iy X scope caps=true:=by rfl) (bo:scope.kind=.function:=by rfl) (hnc:∀y∈scope.names,y.2≠.cell:=by decide +kernel) (Ku:∀x∈scope.names,x.2=.local->scope.names.lookup x.1=some .local:=by decide +kernel)
  (hs:∀x,foldedSetIterable iter X.env x=pure x:=by intro _;rfl) (qo:OB qv:=by exact Jl) :
  Hu X qv (.ListComp elt (⟨tg,iter,ifs,0⟩::rest) scope pos) (cq fi is t c k own.length caps):=by
 refine⟨λy py spos j Kx hNd hj hy hf pins s σ H E I hT=>?_⟩;obtain⟨env,B,Z,d,R,e,kk⟩:=hT;obtain⟨ds,xs,e1,hu,CZ,hl,rfl⟩:=mQ e;rw[exec_Assign_Name_used _ _ _ _ Kx];refine a_ (Tq (a_ ?_));refine(show wpAny (model X.prog X.w) X.A (comprehension (.ListComp elt (⟨tg,iter,ifs,0⟩::rest) scope pos) scope X.env (firstIterPos (⟨tg,iter,ifs,0⟩::rest) pos) (newList []) false (eval iter X.env) (some (assign (.Name y py) X.env)) >>= λ_=>pure ()) _ _ s from ?_);refine a_ (aZ (Vh rfl hs (fP gX) bo Ku ?_) λ_ s' hq=>d_ (d_ hq));refine aZ (hi pins s σ H (λJ H1=>∃Z1,Ex Z H Z1 H1/\Walk X.K Z1 ds J) I ⟨env,B,Z,ds,R,e1,λJ Z1 H1 x1 wk=>⟨Z1,x1,wk⟩⟩) λx s1 q1=>aZ q1 λNA s2 aC=>?_;obtain⟨it,fp,tn,J,H2,hit,I2,T,Da,rN,Z2,x2,wk⟩:=aC;subst hit;refine pL qo ht bp gX bo hnc hN eT hb I2 (R.ext x2) T Da rN wk hu CZ hl λa C H' Z' s' vs m I' ns fpC x' P6 hv hz rr qq=>?_;refine(show wpAny (model X.prog X.w) X.A (assign (.Name y py) X.env (.ref a)) _ _ s' from wpAny_assign_Name (oX I' hNd hj hy (show RelV (.ref a) (.ref a)from rfl) (λs2' I2' aC=>?_) hf));refine cO λ_ kq=>?_;obtain⟨b,hsb,Qc⟩:=aC;obtain⟨f1,f2,f3,f4,f5,f6⟩:=fpC;have hCb:C≠b:=λz=>by
  rcases Qc with z2 | z2
  .exact f2 (z.trans z2)
  .exact f5 y b z2 z.symm
 refine kq (⟨m,ns.sameBut hsb hCb,λh' hs'=>?_⟩)
 all_goals clear kq
 exact⟨_,H',I2'.turned (λb o hb e=>hs'.extBut b o hb e) f1 f2 f4 f5 f6,kk _ Z' H' (x2.trans x') ⟨a,vs,xs,rfl,rfl,x2.h.free P6,hv,hz,rr⟩ ⟨a,xs,vs,rfl,rfl,hv,qo.base x2.h qq⟩⟩
variable {e:Xk}{fe:Fe}
theorem nA(i:Nat)(h:Mn X e fe)(hN:X.N.Nodup)(hi:X.N[i]?=some y:=by rfl)(hx:Loc X.env.scope y:=by first | exact Or.inl rfl | exact Or.inr rfl)(Kx:swapsWith e (some (.Name y py)) spos.line X.env=pure true:=by rfl)
  (hf:X.fn y=true\/X.env.scope.names.lookup y=some .local:=by first | exact .inl rfl | exact .inr rfl | assumption):SD X rg (.Assign [.Name y py] e spos) (setF i fe):=λpins s σ H E I hw=>by
 refine cO λ_ kq=>?_;obtain⟨env,B,Z,o,R,e0,kk⟩:=hw;obtain⟨d,e1,e2⟩:=b_.mp e0;cases e2;refine kq (h.ex y py spos i Kx hN hi hx hf pins s σ H E I ⟨env,B,Z,d,R,e1,λv Z' H' x g _=>?_⟩)
 all_goals clear kq
 obtain⟨a,vs,ds,rfl,rfl,h1,h2,h3,r⟩:=g;have s1:aH Z' (upd Z' a (.lst vs)):=cm h3;have x2:Ex Z H (upd Z' a (.lst vs)) H':=⟨x.h,x.z.trans s1,nq x.zh h2,λb hb e=>by rw[ar (λz=>hb (by rw[z];exact h1))];exact x.fr b hb e,pS x.nf Mf⟩;exact kk _ _ H' (x2.part R.bh) ((R.ext x2).setF i ⟨a,vs,rfl,di.of ai,ak.mono s1 ds r⟩)
end
section
variable {X:Cx}{rg:Gr}
end
end Mi
namespace Mi
open PySem L2
theorem mx(n:Nat)(h:i.natAbs<=n)(hn:n<2 ^ 4096:=by decide +kernel):big i=true:=w_ (UR h hn)
theorem rf(h1:-1000000000<=i)(h2:i<=1000000000):big i=true:=mx 1000000000 (by omega)
theorem nL(h1:-1000000000<=i)(h2:i<=1000000000)(h3:-1000000000<=j)(h4:j<=1000000000):mulI (.int i) (.int j)=some (.int (i*j)):=by
 show(if(big i&&big j)=true then _ else _)=_;rw[rf h1 h2,rf h3 h4];rfl
theorem iK(h:0<j):modI (.int i) (.int j)=some (.int (i%j)):=by
 show(if decide (0<j)=true then _ else _)=_;rw[w_ h];rfl
theorem lQ(h:0<j)(h2:j<1073741824):fdivI (.int i) (.int j)=some (.int (i/j)):=by
 show(if decide (0<j/\j<1073741824)=true then _ else _)=_;rw[w_ (And.intro h h2)];rfl
theorem qH(h:big i=true)(h2:0<=j)(h3:j<=1000):powI (.int i) (.int j)=some (.int (i ^ j.toNat)):=by
 show(if(big i&&decide (0<=j/\j<=1000))=true then _ else _)=_;rw[h,w_ (And.intro h2 h3)];rfl
theorem Fh(h:big i=true)(h2:big j=true):mulI (.int i) (.int j)=some (.int (i*j)):=by
 show(if(big i&&big j)=true then _ else _)=_;rw[h,h2];rfl
theorem gP(i j:Int):addI (.int i) (.int j)=some (.int (i+j)):=rfl
theorem CO(i j:Int):subI (.int i) (.int j)=some (.int (i-j)):=rfl
theorem MW(i j:Int):ltI (.int i) (.int j)=some (.bl (decide (i<j))):=rfl
theorem O'(i j:Int):leI (.int i) (.int j)=some (.bl (decide (i<=j))):=rfl
theorem LD(i j:Int):gtI (.int i) (.int j)=some (.bl (decide (j<i))):=rfl
theorem MU(i j:Int):iw (.int i) (.int j)=some (.bl (i==j)):=rfl
theorem LI(i j:Int):oK (.int i) (.int j)=some (.bl !(i==j)):=rfl
theorem aD(h1:f env=some x)(h2:g env=some y):ao b f g env=b x y:=by
 unfold ao;rw[h1,h2];rfl
theorem mj(h1:f env=some x):br b f env=b x:=by
 unfold br;rw[h1];rfl
theorem FW{x:Int}(n k:Nat)(h1:x.natAbs<=n):(x ^ k).natAbs<=n ^ k:=by
 rw[Int.natAbs_pow];exact Nat.pow_le_pow_left h1 k
theorem Ff{x y:Int}(n m:Nat)(h1:x.natAbs<=n)(h2:y.natAbs<=m):(x+y).natAbs<=n+m:=by omega
theorem tY(I:En->Prop):∀(ds:Xq)(env:En),I env->(∀d∈ds,∀e,I e->∃e1,(t d e).bind body=some (.nx e1)/\I e1)->∃e2,dC t body ds env=some (.nx e2)/\I e2
 | [],env,h,_=>⟨env,rfl,h⟩
 | d::ds,env,h,hb=>by
  obtain⟨e1,h1,h2⟩:=hb d o_ env h;obtain⟨e2,h3,h4⟩:=tY I ds e1 h2 λd' hd=>hb d' (l_ _ hd);refine⟨e2,?_,h4⟩;obtain⟨e0,h5,h6⟩:=b_.mp h1;show(t d env).bind (λe1=>(body e1).bind _)=_;rw[h5];show(body e0).bind _=_;rw[h6];exact h3
theorem bR(I:Nat->En->Prop):∀(ds:Xq)(n:Nat)(env:En),I n env->(∀i d e,ds[i]?=some d->I (n+i) e->∃e1,(t d e).bind body=some (.nx e1)/\I (n+i+1) e1)->∃e2,dC t body ds env=some (.nx e2)/\I (n+ds.length) e2
 | [],n,env,h,_=>⟨env,rfl,h⟩
 | d::ds,n,env,h,hb=>by
  obtain⟨e1,h1,h2⟩:=hb 0 d env rfl h;obtain⟨e2,h3,h4⟩:=bR I ds (n+1) e1 h2 λi d' e hd he=>by
   have:=hb (i+1) d' e (by simpa using hd) (by rw[show n+(i+1)=n+1+i by omega];exact he);rw[show n+1+i+1=n+(i+1)+1 by omega];exact this
  refine⟨e2,?_,by rw[show n+(d::ds).length=n+1+ds.length by simp;omega];exact h4⟩;obtain⟨e0,h5,h6⟩:=b_.mp h1;show(t d env).bind (λe1=>(body e1).bind _)=_;rw[h5];show(body e0).bind _=_;rw[h6];exact h3
theorem dP{α:Type}{xs:List α}{k:Nat}{x:α}(h:xs[k]?=some x):L2.atI xs (k:Int)=some x:=by
 have hk:=(i_.mp h).1;unfold L2.atI L2.vS;rw[j_ (by omega),j_ (by omega)];simpa using h
theorem wI(h:(aG 0 n)[i]?=some d):d=.int i/\i<n:=by
 unfold aG at h;rw[m_]at h;cases e:(List.range n)[i]? with
 | none=>rw[e]at h;cases h
 | some j=>
  rw[e]at h;have hi:=(i_.mp e).1;rw[T6]at hi;rw[UG hi]at e;cases e;cases h;exact⟨by simp,hi⟩
end Mi
namespace Mi
theorem Jg(d:D)(env:En):bH (.F d::env) 0=some d:=rfl
theorem Jb(s:Slot)(env:En)(i:Nat):bH (s::env) (i+1)=bH env i:=rfl
theorem kY(h:env[i]?=some (.O (.L ds)))(hf:f env=some d)(hl:ds.length<16000000):iJ i f env=some (.nx (env.set i (.O (.L (ds++[d]))))):=by
 unfold iJ;rw[h];show(f env).bind _=_;rw[hf];show(if ds.length<16000000 then _ else _)=_;rw[j_ hl]
theorem aw(h:f env=some (.nx e)):aI f g env=g e:=by unfold aI;rw[h];rfl
theorem a7(h:f env=some d):setF i f env=some (.nx (env.set i (.F d))):=by unfold setF;rw[h];rfl
theorem eg(h:f env=some d):bY f env=some (.rt d):=by unfold bY;rw[h];rfl
theorem eC(h:t env=some true):kX t f g env=f env:=by unfold kX;rw[h];rfl
theorem bO(h:t env=some false):kX t f g env=g env:=by unfold kX;rw[h];rfl
theorem bX(h:fi env=some ds):dM fi t b env=dC t b ds env:=by unfold dM;rw[h];rfl
theorem ez(h:f env=some (.bl b)):fB f env=some b:=by unfold fB;rw[h];rfl
theorem LG(h:f env=some true):Dm f g env=some true:=by unfold Dm;rw[h];rfl
theorem xJ(h:f env=some false):Dm f g env=g env:=by unfold Dm;rw[h];rfl
theorem H9(h:f env=some true):jH f g env=g env:=by unfold jH;rw[h];rfl
theorem JX(h:f env=some false):jH f g env=some false:=by unfold jH;rw[h];rfl
theorem Bz(h:f env=some b):y6 f env=some !b:=by unfold y6;rw[h];rfl
theorem call_v{fs:Fes}{m:Xq->Xr}{env:En}{ds:Xq}(h:fs env=some ds):(fs env).bind m=m ds:=by rw[h];rfl
theorem aj(h:f env=some d)(h2:fs env=some ds):aa f fs env=some (d::ds):=by unfold aa;rw[h,h2];rfl
theorem aN:fNil env=some []:=rfl
theorem dt[Decidable p](h:p):some (D.bl (decide p))=some (.bl true):=by rw[w_ h]
theorem bw(h:f (aS n ds)=some (.rt d)):cx f n ds=some d:=by unfold cx;rw[h];rfl
theorem fO(h:f env=some (.int (n:Int)))(h2:n<=1000000000):gj f env=some (aG 0 n):=by
 have hr:pT (n:Int)=true:=by
  simp only[pT,C_];omega
 unfold gj;rw[h,H_];dsimp only;rw[j_ hr,SR]
theorem gf(h:f env=some (.lst ds)):br ck f env=some (.int (ds.length:Int)):=by unfold br;rw[h];rfl
theorem eD(h:f env=some (.lst ds))(h2:g env=some (.int i))(h3:L2.atI ds i=some d):ao aO f g env=some d:=(aD h h2).trans h3
theorem jV(h:f env=some (.tup ds))(h2:g env=some (.int i))(h3:L2.atI ds i=some d):ao aO f g env=some d:=(aD h h2).trans h3
theorem LK(h:f env=some (.lst ds))(h2:d9 is ds env=some e):Mp is f env=some (.nx e):=by
 unfold Mp;rw[h];show(d9 is ds env).bind _=_;rw[h2];rfl
theorem xW(h:f env=some (.tup ds))(h2:d9 is ds env=some e):GS is f env=some (.nx e):=by
 unfold GS;rw[h];show(d9 is ds env).bind _=_;rw[h2];rfl
theorem cQ(h:f env=some (.lst ds)):kA f env=some ds:=by unfold kA;rw[h];rfl
theorem G5(h:f env=some (.tup ds)):Md f env=some ds:=by unfold Md;rw[h];rfl
theorem uG(h:f env=some (.rt d)):aI f g env=some (.rt d):=by unfold aI;rw[h];rfl
theorem xl(h:i<=j):leI (.int i) (.int j)=some (.bl true):=(O' i j).trans (dt h)
theorem zG(ns:Xq)(k:Nat):cutD ns none (some (k:Int))=ns.take k:=by
 unfold cutD;rw[HT.CB,HT.Fu,List.drop_zero,Nat.sub_zero]
 by_cases h:ns.length<=k
 .rw[Nat.min_eq_right h,Td,VB h]
 .rw[Nat.min_eq_left (by omega)]
end Mi
namespace Mi
open PySem PySem.Spec PyProof.Rows L2
section
variable {X:Cx}{l r:Xk}{fa fb:Fe}{ga gb:Gr}{pos p p2 p3 p4:Pos}
theorem xO:∀(l:List α),(∀x∈l,f x=some (g x))->l.filterMap f=l.map g
 | [],_=>rfl
 | a::l,h=>by
  rw[SY,h a o_,L_];exact Tp _ (xO l λx hx=>h x (l_ _ hx))
theorem AA(aQ:W0):slicePick aQ.toArray none none (some (-1))=aQ.reverse.toArray:=by
 unfold slicePick sliceBounds sliceRange;simp only[Option.getD_some,u_,show ¬((-1:Int)>0) by decide,SV];congr 1;have hc:(if(aQ.length:Int)-1 > -1 then((aQ.length:Int)-1 - -1 - -1-1)/(- -1)else 0).toNat=aQ.length:=by
  split
  .rw[show(- -1:Int)=1 by decide,Int.ediv_one];lia
  .lia
 rw[hc];apply Uy;intro i;rw[List.filterMap_map];have key:(List.range aQ.length).filterMap ((λx=>aQ.toArray[x]?) ∘ λ(k:Nat)=>((aQ.length:Int)-1+-1*(k:Int)).toNat)=(List.range aQ.length).map λk=>aQ.getD (aQ.length-1-k) .none:=by
  refine xO _ λk hk=>?_;have hk':k<aQ.length:=by simpa using hk
  simp only[Function.comp];rw[show((aQ.length:Int)-1+-1*(k:Int)).toNat=aQ.length-1-k by lia];simp[List.getD,show aQ.length-1-k<aQ.length by lia]
 rw[key,m_]
 by_cases hi:i<aQ.length
 .rw[UG hi,List.getElem?_reverse hi];simp[List.getD,show aQ.length-1-i<aQ.length by lia]
 .rw[K_ (by simpa using hi),K_ (by simpa using hi)];rfl
def Bb:D->Xr
 | .lst ds=>some (.lst ds.reverse)
 | _=>none
theorem av.rev:∀{xs:Xs}{us:W0},av xs us->av xs.reverse us.reverse
 | [],us,h=>by cases h;exact .nil
 | x::xs,us,h=>by
  cases h with
  | cons p q=>rw[Wy,Wy];exact(av.rev q).append (.cons p .nil)
def PN(K:Fg)(te:TE):TE:=λσ H Q=>te σ H λx H1=>∃a xs,x=.ref a/\di K H1 a xs/\∀q,H1 q=none->Q (.ref q) (upd H1 q (.lst xs.reverse))
theorem Ii{e:Xk}{te:TE}{i j:Int}{k:Nat}(he:PE X e te):PE X (.Subscript e (.Slice none none (some (.UnaryOp .USub (.Constant (.int 1) k p3) p4)) p2) pos) (PN X.K te):=by
 intro pins s σ H Q I h;refine Subscript_ (aZ (he pins s σ H _ I h) λv s1 aC=>?_);obtain⟨x,H1,I1,r1,q1⟩:=aC;obtain⟨a,xs,e1,hx,q⟩:=q1;subst e1;cases r1;refine wpAny_Slice ?_;rw[evalPart_none];refine d_ (d_ ?_);refine aZ (xp (Hc CM Al) pins s1 σ H1 (λo H2=>o=some (-1)/\H2=H1) I1 ⟨_,rfl,_,rfl,rfl,rfl⟩) λNX s2 aC=>?_;obtain⟨o,H2,I2,ps,e2,e3⟩:=aC;subst e2;subst e3;have I4:Inv X pins σ H2 {s2 with heap:=s2.heap.push {cls:=.type "slice",data:=.fields #[.none,.none,NX]}}:=I2.kept λb ob z=>e_ _ z;obtain⟨aQ,rv,ht,hz⟩:=I4.list hx;have hlen:=rv.length;show wpAny (model X.prog X.w) X.A (subscriptTail e (.Slice none none (some (.UnaryOp .USub (.Constant (.int 1) k p3) p4)) p2) (.ref a) (.ref s2.sz)) (EP X pins σ Q) X.xe {s2 with heap:=s2.heap.push {cls:=.type "slice",data:=.fields #[.none,.none,NX]}};refine tail_any ht.isList.typeIs Vy.lookup ?_ (by with_unfolding_all rfl);refine Vg ht.isList (Heap.IsSliceOf.new ..) .none .none ps (by simp) ?_ (by rw[u_]<;>lia);rw[AA];exact⟨.ref _,_,I4.laid (o:=.lst xs.reverse) (λb ob z=>e_ _ z) (h_ _) ⟨by rw[List.length_reverse];exact hz,_,0,av.rev rv,n_ _ rfl⟩,rfl,q _ (I4.hok.fresh (h_ _))⟩
theorem Lq{k:Nat}(ha:PD X ga l fa):PD X .nw (.Subscript l (.Slice none none (some (.UnaryOp .USub (.Constant (.int 1) k p3) p4)) p2) pos) (br Bb fa):=PE.imp (Ii (i:=0) (j:=0) ha) λσ H Q aC=>by
 obtain⟨env,B,Z,d,R,e,kk⟩:=aC;obtain⟨x,h1,h2⟩:=b_.mp e;cases x<;>try cases h2
 rename_i ds;refine⟨env,B,Z,_,R,h1,λv Z1 H1 x1 g1=>?_⟩;obtain⟨a,vs,rfl,q,rr⟩:=(show Gd X.K Z1 H1 H1 .pk (.lst ds) v from g1.pk).lst x1.zh;exact⟨a,vs,rfl,q,λp hp=>kk _ Z1 _ (x1.trans (Ex.newL x1.zh hp)) ⟨p,_,_,rfl,rfl,x1.h.free hp,ai,x1.zh.free hp,ak.rev rr⟩⟩
end
def insI(x:Int):W8->W8
 | []=>[x]
 | y::r=>if x<=y then x::y::r else y::insI x r
def ko:W8->W8
 | []=>[]
 | x::r=>insI x (ko r)
theorem insI_perm(x:Int):∀l,(insI x l).Perm (x::l)
 | []=>.refl _
 | y::r=>by
  unfold insI
  split
  .exact .refl _
  .exact((insI_perm x r).cons y).trans (List.Perm.swap x y r)
theorem hV:∀l,(ko l).Perm l
 | []=>.refl _
 | x::r=>(insI_perm x _).trans ((hV r).cons x)
theorem xx(x:Int):∀{l:W8},l.Pairwise (·<=·)->(insI x l).Pairwise (·<=·)
 | [],_=>by simp[insI]
 | y::r,h=>by
  obtain⟨h1,h2⟩:=SL.mp h;unfold insI
  split
  .rename_i hx;exact SL.mpr ⟨λz hz=>by
    rcases t_.mp hz with rfl | hz
    .exact hx
    .exact Vz hx (h1 z hz),h⟩
  .rename_i hx;refine SL.mpr ⟨λz hz=>?_,xx x h2⟩;rcases t_.mp ((insI_perm x r).mem_iff.mp hz)with rfl | hz
   .lia
   .exact h1 z hz
theorem qt:∀l,(ko l).Pairwise (·<=·)
 | []=>.nil
 | x::r=>xx x (qt r)
theorem pj:∀{l m:W8},l.Perm m->l.Pairwise (·<=·)->m.Pairwise (·<=·)->l=m
 | [],m,p,_,_=>(List.Perm.nil_eq p)
 | x::l,[],p,_,_=>absurd p.symm (by intro h;exact absurd (List.Perm.nil_eq h) (by simp))
 | x::l,y::m,p,h1,h2=>by
  obtain⟨a1,a2⟩:=SL.mp h1;obtain⟨b1,b2⟩:=SL.mp h2;have e:x=y:=by
   have hx:x∈y::m:=p.mem_iff.mp o_;have hy:y∈x::l:=p.mem_iff.mpr o_;rcases t_.mp hx with e | hx
   .exact e
   .rcases t_.mp hy with e | hy
    .exact e.symm
    .have:=b1 x hx;have:=a1 y hy;lia
  subst e;rw[pj ((List.perm_cons x).mp p) a2 b2]
theorem EM(p:m.Perm l)(h:m.Pairwise (·<=·)):m=ko l:=pj (p.trans (hV l).symm) h (qt l)
theorem uc(l:W8):(ko l).length=l.length:=(hV l).length_eq
section
variable {prog:Xd}{w:Xg}{A:Xe}{E:WT}{s:Xb}
theorem tH(ho:s.heap.get? a=some o)(hc:o.cls=.type "list"\/o.cls=.type "tuple")(hd:o.data=.seq vs.toArray n)
    (q:Q vs {s with heap:=(s.heap.push (seqObj "list" #[] 0)).update s.sz (Obj.mapSeq (·++vs.toArray))}) (hz:vs.length<=sizeLine):wpAny (model prog w) A (collect (.ref a)) Q E s:=by
  unfold collect;refine a_ (wpAny_runValue (Vl PyProof.Rows.entry_proto_collect' (show wpAny _ _ (newList [] >>= λz=>again (.builtin "list.__iadd__" ⟨[z,.ref a],[]⟩)) _ _ s from
    a_ (UY (d_ ⟨Wl _ (by decide +kernel),Vl PyProof.Rows.entry_list_iadd' ?_⟩)))))
  have e1:(s.heap.push (seqObj "list" #[] 0)).get? a=some o:=e_ _ ho;have e2:(s.heap.push (seqObj "list" #[] 0)).get? s.sz=some (seqObj "list" #[] 0):=n_ _ rfl;obtain⟨T,hT,ht⟩:∃T:String,o.cls=.type T/\(Value.type T==Value.type "list"||Value.type T==Value.type "tuple")=true:=by
    rcases hc with h | h
    . exact⟨"list",h,rfl⟩
    . exact⟨"tuple",h,rfl⟩
  show wpAny _ _ (Builtin.List.listExtendWith (.ref s.sz) (.ref a) (.ref s.sz)) _ _ {s with heap:=s.heap.push (seqObj "list" #[] 0)};unfold Builtin.List.listExtendWith;refine a_ (wpAny_typeOf ⟨o,e1,hT⟩ ?_);rw[j_ (by rw[Bool.or_assoc,ht,TJ])];refine a_ (listItems_at e1 hd (a_ (listItems_at e2 rfl ?_)));rw[k_ (by simp)];refine a_ (listUpdate_at e2 rfl (d_ ?_) (Ub _) (by simp only[Array.size_append,u_,TM];lia));show wpAny (model prog w) A (load s.sz >>= λo=>match o.data with | .seq xs _=>pure xs.toList | _=>unsupported "internal:collect") Q E {s with heap:=(s.heap.push (seqObj "list" #[] 0)).update s.sz (Obj.mapSeq (·++vs.toArray))};refine a_ (wpAny_load (V5 e2 _) ?_);show wpAny _ _ (pure ((#[]:Array Xa)++vs.toArray).toList) Q E _;rw[show((#[]:Array Xa)++vs.toArray).toList=vs by simp];exact d_ q
theorem sortedS(ho:s.heap.get? a=some o)(hc:o.cls=.type "list"\/o.cls=.type "tuple")(hd:o.data=.seq vs.toArray n)(hI:IntsAre vs ns)(hz:vs.length<64)
  (q:∀(out:Array Xa)(uB:W8),IntsAre out.toList uB->uB.Perm ns->uB.Pairwise (·<=·)->Q (.ref (s.sz+1)) {s with heap:=sortedAll s.heap vs out}):wpAny (model prog w) A (call (.builtin "sorted") [.ref a]) Q E s:=by
 refine Ut UC plain_sorted entry_sorted (args_sorted1 _) ?_;unfold Builtin.«sorted»;refine a_ (d_ (a_ (tH ho hc hd (a_ (UY ?_)) (by have:=SB;lia))));have z1:((s.heap.push (seqObj "list" #[] 0)).update s.sz (Obj.mapSeq (·++vs.toArray))).objs.size=s.sz+1:=by rw[VQ,Wm]
 have z2:(((s.heap.push (seqObj "list" #[] 0)).update s.sz (Obj.mapSeq (·++vs.toArray))).push (seqObj "list" vs.toArray 0)).get? (s.sz+1)=some (seqObj "list" vs.toArray 0):=by
  rw[<- z1];exact n_ _ rfl
 show wpAny _ _ _ _ _ {s with heap:=((s.heap.push (seqObj "list" #[] 0)).update s.sz (Obj.mapSeq (·++vs.toArray))).push (seqObj "list" vs.toArray 0)};rw[z1];exact a_ (Q_ (SC slot_list_sort ⟨_,z2,rfl⟩ V6 (list_sort_tree z2 hI hz λout uB a1 a2 a3=>⟨_,rfl,d_ ⟨_,rfl,q out uB a1 a2 a3⟩⟩) (args_list_sort _)))
end
def ju:Xq->Option W8
 | []=>some []
 | .int i::r=>(ju r).bind λbs=>some (i::bs)
 | _=>none
theorem jq:∀{ds:Xq}{bs:W8},ju ds=some bs->ds=bs.map .int
 | [],bs,h=>by cases h;rfl
 | d::r,bs,h=>by
  cases d<;>try cases h
  obtain⟨cs,h1,h2⟩:=b_.mp h;cases h2;rw[jq h1];rfl
theorem jT:∀(ns:W8),ju (ns.map .int)=some ns
 | []=>rfl
 | n::ns=>by show(ju (ns.map .int)).bind _=_;rw[jT ns];rfl
theorem ak.intsV{K:Fg}{H:Hp}:∀{bs:W8}{vs:Xs},ak K H (bs.map .int) vs->vs=bs.map .int
 | [],vs,h=>h
 | b::bs,vs,⟨v,r,e,h1,h2⟩=>by subst e;cases(show v=V.int b from h1);rw[ak.intsV h2];rfl
theorem av.ints:∀{bs:W8}{us:W0},av (bs.map V.int) us->IntsAre us bs
 | [],us,h=>by cases h;exact .nil
 | b::bs,us,h=>by
  cases h with
  | cons p q=>obtain⟨t,rfl⟩:=(show ∃t,_=Value.int b t from p);exact .cons b t (av.ints q)
theorem av.ofInts:∀{bs:W8}{us:W0},IntsAre us bs->av (bs.map V.int) us
 | [],us,h=>by cases h;exact .nil
 | b::bs,us,h=>by
  cases h with
  | cons n t q=>exact .cons ⟨t,rfl⟩ (av.ofInts q)
def sortI:D->Xr
 | .lst ds=>(ju ds).bind λns=>if ns.length<64 then some (.lst ((ko ns).map .int))else none
 | .tup ds=>(ju ds).bind λns=>if ns.length<64 then some (.lst ((ko ns).map .int))else none
 | _=>none
section
variable {X:Cx}{l r:Xk}{fa fb:Fe}{ga gb:Gr}{pos p:Pos}
theorem qG:dD X (.builtin "sorted") (λxs H Q=>∃(a:Xj)(ns:W8),xs=[.ref a]/\(di X.K H a (ns.map V.int)\/cy X.K H a (ns.map V.int))/\ns.length<64/\∀q,H q=none->Q (.ref q) (upd H q (.lst ((ko ns).map V.int)))):=by
 intro pins s σ H xs us Q I rs h;obtain⟨a,ns,rfl,hq,hl,q⟩:=h;obtain⟨u,rfl,rx⟩:=vals1 rs;cases rx;have fin:∀(aQ:W0)(out:Array Xa)(uB:W8),IntsAre out.toList uB->uB.Perm ns->uB.Pairwise (·<=·)->EP X pins σ Q (.ref (s.sz+1)) {s with heap:=sortedAll s.heap aQ out}:=λaQ out uB a1 a2 a3=>by
  cases EM a2 a3;obtain⟨e,he⟩:=sortedAll_at s.heap aQ out;refine⟨.ref _,_,I.laid (o:=.lst ((ko ns).map V.int)) (λb o z=>sortedAll_old z) (UL _) ⟨?_,out.toList,e,av.ofInts a1,by simpa using he⟩,rfl,q _ (I.hok.fresh (UL _))⟩;have:=SB;rw[c_,uc];lia
 rcases hq with hq | hq
 .obtain⟨aQ,rv,pl,hz⟩:=I.list hq;have hlen:=rv.length;obtain⟨o,ho,hc,n,hd⟩:=pl.isList;exact sortedS ho (.inl hc) hd (av.ints rv) (by rw[<- hlen,c_];exact hl) (fin aQ)
 .obtain⟨aQ,rv,pl,hz⟩:=I.tuple hq;have hlen:=rv.length;obtain⟨o,ho,hc,n,hd⟩:=pl;exact sortedS ho (.inr hc) hd (av.ints rv) (by rw[<- hlen,c_];exact hl) (fin aQ)
theorem AR{K:Fg}:ij K .nw sortI (λxs H Q=>∃(a:Xj)(ns:W8),xs=[.ref a]/\(di K H a (ns.map V.int)\/cy K H a (ns.map V.int))/\ns.length<64/\∀q,H q=none->Q (.ref q) (upd H q (.lst ((ko ns).map V.int)))):=λ{Z H x dx d Q} s h e k=>by
 cases dx<;>try cases e
 .obtain⟨ns,h1,h2⟩:=b_.mp e;obtain⟨hl,rfl⟩:=kP h2;cases jq h1;obtain⟨a,vs,rfl,q,rr⟩:=h.tup s;cases ak.intsV rr;exact⟨a,ns,rfl,.inr q,hl,λp hp=>k _ Z _ (Ex.newL s hp) ⟨p,_,_,rfl,rfl,hp,ai,s.free hp,ak.ints _⟩⟩
 .obtain⟨ns,h1,h2⟩:=b_.mp e;obtain⟨hl,rfl⟩:=kP h2;cases jq h1;obtain⟨a,vs,rfl,q,rr⟩:=h.lst s;cases ak.intsV rr;exact⟨a,ns,rfl,.inl q,hl,λp hp=>k _ Z _ (Ex.newL s hp) ⟨p,_,_,rfl,rfl,hp,ai,s.free hp,ak.ints _⟩⟩
theorem BX(hm:X.mg "sorted"=none)(ha:PD X ga l fa)(hg:Gl X "sorted":=by rfl)(he:starEach [l] X.env=[(false,eval l X.env)]:=by rfl):PD X .nw (.Call (.Name "sorted" p) [l] [] pos) (br sortI fa):=
 tw qG AR UD hm ha (by decide) (by decide) hg he
end
structure Src(prog:Program)(w:World)(i l:Addr)(it:Nat->Heap->Prop)(at_:List Value->Heap->Prop):Prop where
 nxt:∀{A:Around}{E:Value->Shared->Prop}{s:Shared}{k:Nat}{xs:List Value}{x:Value}{Q:Value->Shared->Prop},it k s.heap->at_ xs s.heap->xs[k]?=some x->(∀h',it (k+1) h'->Heap.SameBut i s.heap h'->Q x {s with heap:=h'})->
  wpAny (model prog w) A (Builtin.SmallTypes.nextOf (.ref i)) Q E s
 fin:∀{A:Around}{E:Value->Shared->Prop}{s:Shared}{k:Nat}{xs:List Value}{Q:Value->Shared->Prop},A.handled=none->it k s.heap->at_ xs s.heap->xs[k]?=none->
  (∀h' e,Heap.ExtBut i s.heap h'->(∃o,h'.get? e=some o/\o.cls=.type "StopIteration")->E (.ref e) {s with heap:=h'})->wpAny (model prog w) A (Builtin.SmallTypes.nextOf (.ref i)) Q E s
 itx:∀{k:Nat}{h h':Heap},it k h->(∀o,h.get? i=some o->h'.get? i=some o)->it k h'
 atx:∀{xs:List Value}{h h':Heap},at_ xs h->(∀o,h.get? l=some o->h'.get? l=some o)->at_ xs h'
 obj:∀{k:Nat}{h:Heap},it k h->∃o,h.get? i=some o/\∀v,o.data≠.cell v
 lt:∀{xs:List Value}{h:Heap},at_ xs h->∃o,h.get? l=some o
section
variable {prog:Xd}{w:Xg}
theorem uE(hit:s.heap.IsTupleIter i t k)(ht:s.heap.IsTuple t items)(hx:items[k]?=some x)
  (hQ:∀h',h'.IsTupleIter i t (k+1)->Heap.SameBut i s.heap h'->Q x {s with heap:=h'}):wpAny (model prog w) A (Builtin.SmallTypes.nextOf (.ref i)) Q E s:=by
 obtain⟨o,ho,hc,hd⟩:=id hit;obtain⟨ol,Dc,_,nl,Gn⟩:=ht;unfold Builtin.SmallTypes.nextOf;refine a_ (S3 hit.typeIs Uk (SC Uk hit.typeIs F.entry_tuple_iterator_next ?_ (F.args_tuple_iterator_next_1 _)));show wpAny _ _ (field (.ref i) 0 >>= _) _ _ s;refine a_ (S_ ho hd rfl (show wpAny _ _ (if(Value.ref t==Value.none)=true then _ else _) _ _ s from ?_));rw[k_ (show ¬((Value.ref t==Value.none)=true)from P_)];refine(show wpAny _ _ (field (.ref i) 1 >>= _) _ _ s from a_ (S_ ho hd rfl (show wpAny _ _ (seqItems? (.ref t) >>= _) _ _ s from a_ (TH Dc Gn ?_))));simp only[SR,hx];refine a_ (TY ho hd (by simp) (d_ ⟨x,rfl,d_ (hQ _ ?_ (SM ..))⟩));exact⟨_,SS _ ho (Tn (SZ hd _)),(Wz ..).trans hc,by rw[SZ hd];simp[rawInt]⟩
theorem yM(hh:A.handled=none)(hit:s.heap.IsTupleIter i t k)(ht:s.heap.IsTuple t items)(hx:items[k]?=none)
  (hE:∀h' e,Heap.ExtBut i s.heap h'->(∃o,h'.get? e=some o/\o.cls=.type "StopIteration")->E (.ref e) {s with heap:=h'}):wpAny (model prog w) A (Builtin.SmallTypes.nextOf (.ref i)) Q E s:=by
 obtain⟨o,ho,hc,hd⟩:=id hit;obtain⟨ol,Dc,_,nl,Gn⟩:=ht;unfold Builtin.SmallTypes.nextOf;refine a_ (S3 hit.typeIs Uk (SC Uk hit.typeIs F.entry_tuple_iterator_next ?_ (F.args_tuple_iterator_next_1 _)));show wpAny _ _ (field (.ref i) 0 >>= _) _ _ s;refine a_ (S_ ho hd rfl (show wpAny _ _ (if(Value.ref t==Value.none)=true then _ else _) _ _ s from ?_));rw[k_ (show ¬((Value.ref t==Value.none)=true)from P_)];refine(show wpAny _ _ (field (.ref i) 1 >>= _) _ _ s from a_ (S_ ho hd rfl (show wpAny _ _ (seqItems? (.ref t) >>= _) _ _ s from a_ (TH Dc Gn ?_))));simp only[SR,hx];refine a_ (Vp (a_ (TY ho hd (by simp) ?_)));refine(show wpAny _ _ (newExc (.type "StopIteration") [] >>= _) _ _ _ from a_ ?_);simp only[newExc,newTuple];refine a_ (S7 (a_ (VX (by first | rfl | (simp only[firstArgMember];rfl)) ?_)) (by size_fits));refine S7 ?_ (by size_fits);simp only[raiseNew];refine a_ (wpAny_handled ?_)
 first | rw[show A.in1.handled=none from hh] | rw[hh]
 exact a_ (d_ (wpAny_throw (hE _ _ (((SM ..).extBut.push _).push _) ⟨_,n_ _ rfl,rfl⟩)))
theorem Pe(i l:Xj):Src prog w i l (λk h=>h.IsTupleIter i l k) (λxs h=>h.IsTuple l xs.toArray) where
 nxt:=λh1 h2 h3 h4=>uE h1 h2 (by simpa using h3) h4
 fin:=λhh h1 h2 h3 h4=>yM hh h1 h2 (by simpa using h3) h4
 itx:=λh1 h2=>h1.at h2
 atx:=λ⟨o,h1,h2⟩ h3=>⟨o,h3 o h1,h2⟩
 obj:=λ⟨o,e,c,d⟩=>⟨o,e,λv z=>by rw[d]at z;cases z⟩
 lt:=λ⟨o,h1,_⟩=>⟨o,h1⟩
theorem Pf(i l:Xj):Src prog w i l (λk h=>h.IsListIter i l k) (λxs h=>h.IsList l xs.toArray) where
 nxt:=λh1 h2 h3 h4=>wpAny_nextOf_list_item h1 h2 (by simpa using h3) h4
 fin:=λhh h1 h2 h3 h4=>wpAny_nextOf_list_end hh h1 h2 (by simpa using h3) h4
 itx:=λh1 h2=>h1.at h2
 atx:=λh1 h2=>h1.at h2
 obj:=λ⟨o,e,c,d⟩=>⟨o,e,λv z=>by rw[d]at z;cases z⟩
 lt:=λ⟨o,h1,_⟩=>⟨o,h1⟩
variable {A:Xe}{E:WT}{s:Xb}{z TI TO i1 i2 l1 l2:Xj}{k1 k2:Nat}{xs ys:W0}{x y a b:Xa}{Rp it2:Nat->Xf->Prop}{at1 at2:W0->Xf->Prop}
theorem K2(hs:Heap.ExtBut e h h')(n:c≠e):∀o,h.get? c=some o->h'.get? c=some o:=λo q=>hs c o n q
end
section
variable {X:Cx}{pins:WU}{σ:L2.St}{H:Hp}{s:Xb}{h':Xf}
theorem lN{t':Nat}{ch:W4}(I:L2.Inv X pins σ H s)(hf:∀b∈ch,bL X pins H b)(k:∀b o,b∉ch->s.heap.get? b=some o->h'.get? b=some o):L2.Inv X pins σ H {s with heap:=h',toks:=t'}:=by
 have Nz:∀b u,H b=some u->b∉ch:=λb u e z=>by rw[(hf b z).1]at e;cases e
 refine I.step (λb hb=>?_) (λb o _ _ hc e _=>k b o hc e) (λb o _ _ hc e _=>⟨o.slots,k b o hc e⟩) (λ_ _ _ _ n=>n)
  (λb o hc e=>⟨o,k b o hc e⟩) (λ_ _ e=>e) (λ_ _ _ e=>e) (λ_ _ e=>e) (λm hm=>?_) (λb u e=>?_) I.bare
 .obtain⟨f0,f1,f2,f3,f4,f5⟩:=hf b hb;exact⟨f3,f1,f4,f5⟩
 .obtain⟨o,es,ep,ho,r⟩:=hm;exact⟨o,es,ep,k _ o (λz=>(hf _ z).2.1 rfl) ho,r⟩
 .refine(I.hok b u e).stay (λc v hc q=>k c v ?_ q) (λ_ q=>q) (λ_ _ q=>q) λ_ _ q=>q;rcases hc with z | z
  .rw[z];exact Nz b u e
  .exact Nz c _ z
end
structure Qo(K:Fg)(l:Addr)(S:Hp->List V->Prop)(at_:List Value->Heap->Prop):Prop where
 get:∀{X:Cx}{pins:List (Addr×Obj)}{σ:L2.St}{H:Hp}{s:Shared}{xs:List V},X.K=K->L2.Inv X pins σ H s->S H xs->∃aQ,av xs aQ/\at_ aQ s.heap
 inj:∀{X:Cx}{pins:List (Addr×Obj)}{σ:L2.St}{H:Hp}{s:Shared}{xs ys:List V},X.K=K->L2.Inv X pins σ H s->S H xs->S H ys->xs=ys
theorem Pa{K:Fg}(l:Xj):Qo K l (λH xs=>cy K H l xs) (λxs h=>h.IsTuple l xs.toArray):=
 ⟨λe I h=>by subst e;obtain⟨aQ,rv,p,hz⟩:=I.tuple h;exact⟨aQ,rv,p⟩,λe I h1 h2=>by subst e;exact I.tuple_inj h1 h2⟩
theorem OW{K:Fg}(l:Xj):Qo K l (λH xs=>di K H l xs) (λxs h=>h.IsList l xs.toArray):=
 ⟨λe I h=>by subst e;obtain⟨aQ,rv,p,hz⟩:=I.list h;exact⟨aQ,rv,p.isList⟩,λe I h1 h2=>by subst e;exact I.list_inj h1 h2⟩
abbrev Of(c:String)(h:Xf)(l:Xj):Xf:=h.push {cls:=.type c,data:=.fields #[.ref l,.int 0 0]}
section
variable {X:Cx}{es:W5}{kk:Nat}{tp:Pos}
def pairs:Xq->Xq->Xq
 | x::xs,y::ys=>.tup [x,y]::pairs xs ys
 | _,_=>[]
end
end Mi
namespace Mi
open PySem L2
theorem HL(h1:f env=some (.bl p))(h2:p=false->g env=some (.bl q)):IC f g env=some (.bl (p||q)):=by
 unfold IC;rw[h1];cases p with
 | false=>exact h2 rfl
 | true=>rfl
theorem Ai(h1:f env=some p)(h2:p=true->g env=some q):jH f g env=some (p&&q):=by
 unfold jH;rw[h1];cases p with
 | true=>exact h2 rfl
 | false=>rfl
theorem EH(hx:fa env=some x)(hy:fb env=some y)(hw:fc env=some w)(h1:b x y=some (.bl p))(h2:b' y w=some (.bl q)):FV b b' fa fb fc env=some (.bl (p&&q)):=by
 unfold FV;rw[hx];show(fb env).bind _=_;rw[hy];show(b x y).bind _=_;rw[h1];cases p with
 | true=>show(fc env).bind _=_;rw[hw];exact h2
 | false=>rfl
theorem dA(h1:fi env=some ds)(h2:dB is (cN n caps env)=true)(h3:jN t c k (cN n caps env) ds=some xs)(hl:xs.length<=16000000):cq fi is t c k n caps env=some (.lst xs):=by
 unfold cq;rw[h1];show(if dB is (cN n caps env)=true then _ else _)=_;rw[j_ h2,h3];show(if xs.length<=16000000 then _ else _)=_;rw[j_ hl]
theorem CG(p:D->Bool)(g:D->D):∀(ds:Xq),(∀d∈ds,∃e1,t d env=some e1/\c e1=some (p d)/\(p d=true->k e1=some [g d]))->jN t c k env ds=some ((ds.filter p).map g)
 | [],_=>rfl
 | d::ds,h=>by
  obtain⟨e1,h1,h2,h3⟩:=h d o_;have ih:=CG p g ds λx hx=>h x (l_ _ hx);unfold jN;rw[h1];show(c e1).bind _=_;rw[h2];cases hp:p d with
  | true=>
   show(if true=true then k e1 else some []).bind _=_;rw[j_ rfl,h3 hp];show(jN t c k env ds).bind _=_;rw[ih,UH,j_ hp];rfl
  | false=>
   simp only[H_,x_,SV,ih,Uw,UH,hp]
theorem mi(h:f env=some d):bj f env=some [d]:=by unfold bj;rw[h];rfl
theorem jf(I:Xq->En->Prop)(g:D->Xq)(B M:Nat):∀(ds:Xq)(acc:Xq)(env:En),I acc env->acc.length+B*ds.length<=M->(∀d∈ds,(g d).length<=B/\∀acc e,I acc e->acc.length+B<=M->∃e1,(t d e).bind body=some (.nx e1)/\I (acc++g d) e1)->
  ∃e2,dC t body ds env=some (.nx e2)/\I (acc++ds.flatMap g) e2
 | [],acc,env,h,_,_=>⟨env,rfl,by simpa using h⟩
 | d::ds,acc,env,h,hl,hb=>by
  obtain⟨b1,b2⟩:=hb d o_;rw[A_,WI]at hl;obtain⟨e1,h1,h2⟩:=b2 acc env h (by lia);obtain⟨e2,h3,h4⟩:=jf I g B M ds (acc++g d) e1 h2 (by rw[r_];lia) λd' hd=>hb d' (l_ _ hd);refine⟨e2,?_,by rw[Uz,<- T4];exact h4⟩;obtain⟨e0,h5,h6⟩:=b_.mp h1;show(t d env).bind (λe1=>(body e1).bind _)=_;rw[h5];show(body e0).bind _=_;rw[h6];exact h3
theorem rT{g:D->Xq}{B:Nat}:∀(ds:Xq),(∀d∈ds,(g d).length<=B)->(ds.flatMap g).length<=B*ds.length
 | [],_=>by simp
 | d::ds,h=>by
  rw[Uz,r_,A_,WI];have:=h d o_;have:=rT ds λx hx=>h x (l_ _ hx)
  lia
theorem ja:d∈aG 0 n↔∃i:Nat,i<n/\d=.int i:=by
 unfold aG;simp only[y_,SA];constructor
 .rintro⟨i,h,rfl⟩;exact⟨i,h,by simp⟩
 .rintro⟨i,h,rfl⟩;exact⟨i,h,by simp⟩
theorem lR(n:Nat):(aG 0 n).length=n:=by simp[aG]
theorem rJ:∀{ds:Xq},(∀d∈ds,dep d<=n)->oy ds<=n
 | [],_=>by unfold oy;lia
 | d::ds,h=>by
  unfold oy;have:=h d o_;have:=rJ λx hx=>h x (l_ _ hx)
  lia
theorem xT(h:∀d∈ds,dep d<=n):dep (.tup ds)<=n+1:=by unfold dep;have:=rJ h;lia
theorem DU(h:∀d∈ds,dep d<=n):dep (.lst ds)<=n+1:=by unfold dep;have:=rJ h;lia
theorem lK(i:Int):dep (.int i)=0:=by unfold dep;rfl
theorem PJ(h1:f env=some d)(h2:g env=some (.lst es))(h3:dep d<=60)(hb:inD d es=b)(h4:(pl d&&iV es)=true:=by rfl):ao (Dl false) f g env=some (.bl b):=by
 rw[aD h1 h2];show(if dep d<=60/\(pl d&&iV es)=true then _ else _)=_;rw[j_ ⟨h3,h4⟩,<- hb];rfl
theorem M0(h1:f env=some d)(h2:g env=some e)(h3:fA d e=true)(hb:iP d e=b):ao iw f g env=some (.bl b):=by
 rw[aD h1 h2];unfold iw;rw[j_ h3,hb]
theorem O7(h1:f env=some d)(h2:g env=some e)(h3:fA d e=true)(hb:iP d e=b):ao oK f g env=some (.bl !b):=by
 rw[aD h1 h2];unfold oK;rw[j_ h3,hb]
theorem LY(h:dep d<=60)(h2:(pl d&&pl e)=true):fA d e=true:=by unfold fA;rw[h2,w_ h];rfl
theorem O1(h:dep e<=60)(h2:(pl d&&pl e)=true):fA d e=true:=by unfold fA;rw[h2,w_ h,TJ];rfl
theorem Ew(xs:Xq):iP (.lst xs) (.lst [])=xs.isEmpty:=by
 cases xs<;>(unfold iP;rfl)
theorem kQ(h:fs env=some ds):bc fs env=some (.tup ds):=by unfold bc;rw[h];rfl
theorem xy(h:fs env=some ds):b8 fs env=some (.lst ds):=by unfold b8;rw[h];rfl
theorem Be(h:f env=some (.lst ds)):br gC f env=some (.tup ds):=by unfold br;rw[h];rfl
theorem BJ(h:f env=some (.lst xs))(h2:g env=some (.lst ys))(hl:xs.length+ys.length<=16000000):ao sq f g env=some (.lst (xs++ys)):=by
 rw[aD h h2];show(if xs.length+ys.length<=16000000 then _ else _)=_;rw[j_ hl]
theorem kB(h:f env=some (.lst ds)):setO i f env=some (.nx (env.set i (.O (.L ds)))):=by unfold setO;rw[h];rfl
end Mi
namespace Mi
theorem eQ{t:Ft}{d:D}{e e0:En}{b:Fs}{o:Out}(h:t d e=some e0)(h2:b e0=some o):(t d e).bind b=some o:=by rw[h];exact h2
theorem wB(g:D->D)(ds:Xq)(h:∀d∈ds,∃e1,t d env=some e1/\k e1=some [g d]):jN t Xy k env ds=some (ds.map g):=by
 have:=CG (t:=t) (c:=λ_=>some true) (k:=k) (env:=env) (λ_=>true) g ds λd hd=>by
  obtain⟨e1,h1,h2⟩:=h d hd;exact⟨e1,h1,rfl,λ_=>h2⟩
 rwa [Wb.mpr (λ_ _=>rfl)]at this
theorem Fv(h:fe env=some d)(h1:env[i]?=some (.O (.L ds)))(h2:fk env=some (.int j))(h3:L2.vS ds.length j=some n):xt i fk fe env=some (.nx (env.set i (.O (.L (ds.set n d))))):=by
 unfold xt;rw[h,H_,h1];show(fk env).bind _=_;rw[h2];show(L2.vS ds.length j).bind _=_;rw[h3];rfl
theorem Ib{n:Nat}{j:Int}(h0:0<=j)(h1:j<n):L2.vS n j=some j.toNat:=by unfold L2.vS;rw[j_ h0,j_ h1]
end Mi
namespace Mi
open PySem PySem.Spec PyProof.Rows L2
def ie(ks:WY)(p:W9):WY:=if p∈ks then ks else ks++[p]
theorem nE(h:kk p=kk q):p=q:=by
 obtain⟨a,b⟩:=p;obtain⟨c,d⟩:=q;unfold kk at h;simp at h;exact Prod.ext h.1 h.2
theorem wW:∀{xs:List α}{ys:List β},xs.length=ys.length->(xs.zip ys).map (·.1)=xs
 | [],[],_=>rfl
 | [],_::_,h=>by simp at h
 | _::_,[],h=>by simp at h
 | x::xs,y::ys,h=>by rw[Uh,L_,wW (by simpa using h)]
theorem zy{α β:Type}{f:α->β}(hf:∀x y,f x=f y->x=y){l:List α}:(l.map f).Nodup↔l.Nodup:=by
 unfold List.Nodup;rw[Ti];exact⟨λh=>h.imp λhne e=>hne (by rw[e]),λh=>h.imp λhne e=>hne (hf _ _ e)⟩
def kd(x:W9×Xj):Xn×Xj×Xa:=(kk x.1,x.2,.bool true)
section
variable {P:Xd}{w:Xg}{a:Xj}{ps:WY}{bs:W4}{h:Xf}
end
section
variable {X:Cx}{rg:Gr}{l r:Xk}{fa fb:Fe}{ga gb:Gr}{pos p:Pos}{k:Nat}
theorem Au{pins σ H s}(I:Inv X pins σ H s)(hq:cy X.K H b [.int m,.int n]):(tupleKind (aA X.prog X.w)).is s.heap (kk (m,n)) b:=by
 obtain⟨aQ,rv,⟨o,h1,h2,n',h3⟩,_⟩:=I.tuple hq;exact⟨o,aQ.toArray,n',h1,h2,h3,by simpa using jP (ks:=kk (m,n)) rv⟩
end
section
variable {X:Cx}{rg:Gr}{pos:Pos}
def insAt(xs:List α)(k:Nat)(y:α):List α:=xs.take k++y::xs.drop k
theorem av.insAt(r:av xs us)(ru:RelV y u)(k:Nat):av (Mi.insAt xs k y) (Mi.insAt us k u):=(r.take k).append (.cons ru (r.drop k))
theorem ak.insAt{K:Fg}{H:Hp}{ds:Xq}{vs:Xs}{d:D}{v:V}(r:ak K H ds vs)(rd:Rep K H d v)(k:Nat):ak K H (Mi.insAt ds k d) (Mi.insAt vs k v):=(r.take k).app (ak.cons rd (r.drop k))
theorem y8(xs:List α)(k:Nat)(y:α):(insAt xs k y).length=xs.length+1:=by
 unfold insAt;rw[r_,A_,S1,List.length_drop];omega
def rInsert:V->Xs->Hp->VK->Prop:=λx vs H Q=>∃(l:Xj)(xs:Xs)(k:Nat)(y:V),x=.ref l/\vs=[.int (k:Int),y]/\H l=some (.lst xs)/\k<=xs.length/\xs.length<sizeLine/\Q .non (upd H l (.lst (insAt xs k y)))
theorem yz:Q0 X "list.insert" rInsert:=by
 intro pins s σ H x vs v us Q I rx rv h;obtain⟨l,xs,k,y,rfl,rfl,hH,hk,hz,q⟩:=h;cases rx;obtain⟨u,w,rfl,ru,NG⟩:=rv.two;obtain⟨t,rfl⟩:=ru;obtain⟨z,aQ,n,r,hl,e⟩:=I.lstM hH;have hb:=SB;have hf:¬(!Builtin.List.listFitsIndex (k:Int))=true:=by
  rw[fitsIndex_both (by omega) (by omega)];exact P_
 have hsz:aQ.toArray.size<=sizeLine:=by rw[u_];omega
 generalize hkk:(k:Int)=kz at hf ⊢;have M:=AutoListH.list_insert_list_int_val_1 l aQ.toArray n kz t w hf hsz;refine call_meets F.slot_list_insert ⟨_,e,rfl⟩ F.entry_list_insert (F.args_list_insert_3 _ _ _) M ⟨e,?_⟩;subst hkk;refine⟨.non,_,I.lset hH e ?_ (av.insAt r NG k) (by rw[y8];omega),rfl,q⟩;simp only[u_];rw[k_ (by omega),SR,Nat.min_eq_left (by omega)];simp[insAt,List.push_toArray,List.extract_toArray,VB]
def Ah(i:Nat)(fk f:Fe):Fs:=λenv=>match env[i]? with
 | some (.O (.L ds))=>(fk env).bind λkd=>(f env).bind λd=>match kd with
  | .int j=>if 0<=j/\j<=ds.length/\ds.length<16000000 then some (.nx (env.set i (.O (.L (insAt ds j.toNat d)))))else none
  | _=>none
 | _=>none
theorem M6(i:Nat)(hk:PD X .cl ke fk)(he:PD X .cl e fe)(hN:X.N[i]?=some x:=by rfl)(hv:wH X.env.scope x:=by first | exact Or.inl rfl | exact Or.inr (Or.inl rfl) | exact Or.inr (Or.inr rfl))
  (hd:(x==("__debug__":Str))=false:=by decide) (dQ:(x==("__classdict__":Str))=false:=by decide) (hst:starEach [ke,e] X.env=(false,eval ke X.env)::starEach [e] X.env:=by rfl) (hst2:starEach [e] X.env=[(false,eval e X.env)]:=by rfl)
  (jK:attributeBase (.Name x px) "insert" X.env (eval (.Name x px) X.env)=eval (.Name x px) X.env:=by rfl)
  (CU:((backTo be (starEach [ke,e] X.env)).all (λx=>!x.1)&&(backToKw be (keywordEach [] X.env)).all (λx=>x.1.isSome)
   && decide (([ke,e]:W5).length+([]:List Keyword).length+(if([]:List Keyword).isEmpty then 0 else 1)<30))=true:=by rfl)
  (jL:(apos.endLine==be.line)=true:=by rfl) (eR:(backTo be (starEach [e] X.env)).any (·.1)=false:=by rfl)
  (hs:swapsWith (.Call (.Attribute (.Name x px) "insert" apos) [ke,e] [] be) none pos.line X.env=pure false:=by rfl) :
  SD X rg (.Expr (.Call (.Attribute (.Name x px) "insert" apos) [ke,e] [] be) pos) (Ah i fk fe):=by
 refine PS.imp (i5 (GO PySem.F.plainAttrs_list PySem.F.slot_list_insert PySem.F.type_list_insert yz (bI hN hv hd dQ) (aJ hk (aJ he bM hst2) hst) jK CU jL hst eR) hs) λE σ H aC=>?_;obtain⟨env,B,Z,o,R,e,kq⟩:=aC;unfold Ah at e
 split at e
 .rename_i ds hi;obtain⟨kd,e1,e⟩:=b_.mp e;obtain⟨d,e2,e⟩:=b_.mp e;cases kd<;>try cases e
  rename_i j _;obtain⟨⟨h0,h1,h2⟩,rfl⟩:=kP e;obtain⟨y,e3,a,o,e4,e5,e6,vs,rfl,r⟩:=R.sl i _ hi;subst e4;refine⟨_,e3,.inl ⟨rfl,vs,di.of e5⟩,env,B,Z,_,R,e1,λv Z1 H1 x1 g1=>⟨env,B,Z1,_,R.ext x1,e2,λu Z2 H2 x2 g2=>?_⟩⟩;have x12:=x1.trans x2;have R2:=R.ext x12;have hl:=r.len;refine⟨a,vs,j.toNat,u,rfl,by rw[g1.int,Int.toNat_of_nonneg h0],x12.h _ _ e5,by omega,by rw[SB];omega,?_⟩;obtain⟨R3,x3⟩:=R2.wr hi e3 (bU.l (ak.insAt (ak.mono x12.z ds r) g2 j.toNat));exact kq σ Z2 _ ((x12.part R.bh).transB x3) R3
 .cases e
end
section
variable {X:Cx}{rg:Gr}{l r:Xk}{fa fb:Fe}{ga gb:Gr}{pos p p3:Pos}
end
section
variable {X:Cx}{tg:Xk}
end
section
variable {prog:Xd}{w:Xg}{A:Xe}{E:WT}{s:Xb}{e i l:Xj}{k:Nat}{xs:W0}{x old:Xa}{it:Nat->Xf->Prop}{at_:W0->Xf->Prop}
theorem B1{Q:WT}(S:Src prog w i l it at_)(he:IsEnum s.heap e i k old)(hit:it k s.heap)(Dd:at_ xs s.heap)(hx:xs[k]?=some x)(hne:e≠i)
  (hQ:∀(g h':Xf),IsEnumOut h' e i ((k:Int)+1) x s.sz->it (k+1) h'->g.objs.size=s.sz->(∀b o,b≠e->b≠i->s.heap.get? b=some o->g.get? b=some o)->
   (∀b o,b≠e->(g.push {cls:=.type "tuple",data:=.seq #[.int k s.toks,x]}).get? b=some o->h'.get? b=some o)->Q (.ref s.sz) {s with heap:=h',toks:=s.toks+1}) :
  wpAny (model prog w) A (Builtin.«enumerate.__next__» ⟨[.ref e],[]⟩) (λf s'=>∃v,f=.done (.ret v)/\Q v s') E s:=by
 obtain⟨hp,gn,d,tk,os⟩:=s;refine(show wpAny _ _ (field (.ref e) 2 >>= _) _ _ _ from a_ (S_ he rfl rfl (a_ (S.nxt hit Dd hx λg1 Rp s1=>?_))))
 replace s1:Heap.SameBut i hp g1:=s1
 have Qp:IsEnum g1 e i k old:=(s1.2 e hne).trans he;refine(show wpAny _ _ (field (.ref e) 3 >>= _) _ _ ⟨g1,gn,d,tk,os⟩from a_ (S_ Qp rfl rfl ?_));refine(show wpAny _ _ (field (.ref e) 4 >>= _) _ _ ⟨g1,gn,d,tk,os⟩from a_ (S_ Qp rfl rfl ?_));refine(show wpAny _ _ (mkInt k >>= _) _ _ ⟨g1,gn,d,tk,os⟩from a_ (wpAny_mkInt ?_));refine(show wpAny _ _ (setField (.ref e) 3 (rawInt ((k:Int)+1)) >>= _) _ _ ⟨g1,gn,d,tk+1,os⟩from a_ (Ts Qp (by simp) λg2 vX s2=>?_))
 replace s2:Heap.SameBut e g1 g2:=s2
 replace vX:IsEnum g2 e i ((k:Int)+1) old:=vX
 refine(show wpAny _ _ (setField (.ref e) 4 .none >>= _) _ _ ⟨g2,gn,d,tk+1,os⟩from a_ (Ts vX (by simp) λg3 he3 s3=>?_))
 replace s3:Heap.SameBut e g2 g3:=s3
 replace he3:IsEnum g3 e i ((k:Int)+1) old:=he3
 refine(show wpAny _ _ (newTuple [.int k tk,x] >>= _) _ _ ⟨g3,gn,d,tk+1,os⟩from a_ (wpAny_newTuple ?_));have OC:IsEnum (g3.push {cls:=.type "tuple",data:=.seq #[.int k tk,x]}) e i ((k:Int)+1) old:=e_ _ he3;have hit3:it (k+1) g3:=S.itx (S.itx Rp (K2 s2.extBut (Tj hne))) (K2 s3.extBut (Tj hne));have NY:it (k+1) (g3.push {cls:=.type "tuple",data:=.seq #[.int k tk,x]}):=S.itx hit3 λo q=>e_ _ q;have hsz:g3.objs.size=hp.objs.size:=by rw[s3.1,s2.1,s1.1]
 have hk3:∀b o,b≠e->b≠i->hp.get? b=some o->g3.get? b=some o:=λb o b1 b2 q=>s3.extBut b o b1 (s2.extBut b o b1 (s1.extBut b o b2 q));generalize hh:g3.push {cls:=.type "tuple",data:=.seq #[.int k tk,x]}=g4 at OC NY;refine(show wpAny _ _ (Builtin.SmallTypes.ownedTupleIsFree (.ref e) >>= _) _ _ ⟨g4,gn,d,tk+1,os⟩from ?_);rw[hsz];refine a_ ?_;unfold Builtin.SmallTypes.ownedTupleIsFree;refine a_ (S_ OC rfl rfl (d_ ?_));simp only[Up];refine a_ (Vp (a_ (S_ OC rfl rfl (a_ (Ts OC (by simp) λg5 he5 s5=>?_)))))
 replace s5:Heap.SameBut e g4 g5:=s5
 replace he5:IsEnum g5 e i ((k:Int)+1) x:=he5
 refine(show wpAny _ _ (Builtin.SmallTypes.ownedTupleHandOut (.ref e) (.ref hp.objs.size) >>= _) _ _ ⟨g5,gn,d,tk+1,os⟩from a_ ?_);unfold Builtin.SmallTypes.ownedTupleHandOut;refine a_ (Ts he5 (by simp) λg6 he6 s6=>?_)
 replace s6:Heap.SameBut e g5 g6:=s6
 replace he6:IsEnumOut g6 e i ((k:Int)+1) x hp.objs.size:=he6
 refine Ts he6 (by simp) λg7 he7 s7=>?_
 replace s7:Heap.SameBut e g6 g7:=s7
 replace he7:IsEnumOut g7 e i ((k:Int)+1) x hp.objs.size:=he7
 refine a_ (VZ (d_ ⟨_,rfl,hQ g3 g7 he7 (S.itx (S.itx (S.itx NY (K2 s5.extBut (Tj hne))) (K2 s6.extBut (Tj hne))) (K2 s7.extBut (Tj hne))) hsz hk3 λb o b1 q=>?_⟩));rw[hh]at q;exact s7.extBut b o b1 (s6.extBut b o b1 (s5.extBut b o b1 q))
theorem CC(S:Src prog w i l it at_)(he:IsEnum s.heap e i k old)(hit:it k s.heap)(Dd:at_ xs s.heap)(hx:xs[k]?=some x)(hne:e≠i)
  (hQ:∀(g h':Xf),IsEnumOut h' e i ((k:Int)+1) x s.sz->it (k+1) h'->g.objs.size=s.sz->(∀b o,b≠e->b≠i->s.heap.get? b=some o->g.get? b=some o)->
   (∀b o,b≠e->(g.push {cls:=.type "tuple",data:=.seq #[.int k s.toks,x]}).get? b=some o->h'.get? b=some o)->Q (some (.ref s.sz)) {s with heap:=h',toks:=s.toks+1}):wpAny (model prog w) A (pyNext (.ref e)) Q E s:=by
 have hT:s.TypeIs (.ref e) "enumerate":=⟨_,he,rfl⟩;unfold pyNext;exact a_ (UZ (S3 hT U0 (SC U0 hT F.entry_enumerate_next (B1 S he hit Dd hx hne λg h' b1 b2 b3 b4 b5=>d_ (hQ g h' b1 b2 b3 b4 b5)) (F.args_enumerate_next_1 _))))
theorem zV(hh:A.handled=none)(S:Src prog w i l it at_)(he:IsEnum s.heap e i k old)(hit:it k s.heap)(Dd:at_ xs s.heap)(hx:xs[k]?=none)
  (hQ:∀h',Heap.ExtBut i s.heap h'->Q none {s with heap:=h'}):wpAny (model prog w) A (pyNext (.ref e)) Q E s:=by
 have hT:s.TypeIs (.ref e) "enumerate":=⟨_,he,rfl⟩;unfold pyNext;refine a_ (UZ (S3 hT U0 (SC U0 hT F.entry_enumerate_next ?_ (F.args_enumerate_next_1 _))));refine(show wpAny _ _ (field (.ref e) 2 >>= _) _ _ _ from a_ (S_ he rfl rfl (a_ (S.fin hh hit Dd hx λh' y uk hy=>?_))));obtain⟨o,ho,hc⟩:=hy;exact a_ (Ue ⟨o,ho,hc⟩ isSubtype_stop (d_ (hQ _ uk)))
theorem Jw{es:W5}{x1:Nat}{pos:Pos}{n:Int}{T:Xj}{Q:Unit->Xb->Prop}(he:IsEnumOut s.heap e i n x T)(hQ:∀h',IsEnum h' e i n x->Heap.SameBut e s.heap h'->Q () {s with heap:=h'}) :
  wpAny (model prog w) A (letOwnedTupleGo (.Tuple es x1 pos) (.ref e) (.ref T)) Q E s:=by
 unfold letOwnedTupleGo;refine a_ (wpAny_load he ?_);show wpAny _ _ (if(["enumerate","zip","dict_itemiterator","dict_reverseitemiterator","odict_iterator","itertools.zip_longest","itertools.pairwise"].contains "enumerate"&&(#[rawInt T,.bool false,.ref i,rawInt n,.none,x]:Array Xa)[0]?==some (rawInt T))=true then _ else _) Q E s;rw[j_ (by simp)];exact a_ (Vp (show wpAny _ _ (setField (.ref e) 0 .none) Q E s from Ts he (by simp) λh' uk hs'=>hQ h' uk hs'))
end
def Oh(S:Hp->Xs->Prop):It:=
 ⟨λi H=>∃xs x,S H xs/\xs[i]?=some x,
  λi H v H'=>∃(q:Xj),H q=none/\v=.ref q/\∀xs x,S H xs->xs[i]?=some x->H'=upd H q (.tup [.int (i:Nat),x]),
  λi H=>∃xs,S H xs/\xs.length<=i⟩
theorem oQ{P:Xd}{w:Xg}{K:Fg}{es:W5}{k:Nat}{pos:Pos}{e i l:Xj}{it:Nat->Xf->Prop}{at_:W0->Xf->Prop}{S:Hp->Xs->Prop}(W:Src P w i l it at_)(K1:Qo K l S at_)(hne:e≠i) :
  Turn P w K (.Tuple es k pos) (Oh S) [e,i] e (λn h=>(∃old,IsEnum h e i (n:Nat) old)/\it n h) where
 mem:=by simp
 obj:=λn h ⟨⟨old,he⟩,h1⟩ c hc=>by
  simp only[t_,S0,U3]at hc;rcases hc with rfl | rfl
  .exact⟨_,he,λv q=>by cases q⟩
  .exact W.obj h1
 keep:=λn h h' ⟨⟨old,he⟩,h1⟩ kk=>⟨⟨old,kk e (by simp) _ he⟩,W.itx h1 λo q=>kk i (by simp) o q⟩
 item:=by
  intro X hP hw hK hc n pins s σ H E I hf st hg;subst hP hw;obtain⟨⟨old,he⟩,h1⟩:=st;obtain⟨xs,x,q1,hx⟩:=hg;obtain⟨us,r1,m1⟩:=K1.get hK I q1;obtain⟨u,hu,ru⟩:=r1.get hx;refine CC W he h1 m1 hu hne λg g' b1 b2 b3 b4 b5=>?_;have hT:H s.sz=none:=I.hok.fresh (h_ _);have ne:∀c∈[e,i],c<s.sz:=λc hc=>by
   simp only[t_,S0,U3]at hc;rcases hc with rfl | rfl
   .exact q_ he
   .obtain⟨o,ho,_⟩:=W.obj h1;exact q_ ho
  have I1:L2.Inv X pins σ H {s with heap:=g,toks:=s.toks+1}:=lN I hf λc o hc q=>b4 c o (λz=>hc (by simp[z])) (λz=>hc (by simp[z])) q;have I2:L2.Inv X pins σ (upd H g.objs.size (.tup [.int n,x])) {s with heap:=g.push {cls:=.type "tuple",data:=.seq #[.int n s.toks,u]},toks:=s.toks+1}:=
   I1.laid (λc o q=>e_ _ q) (h_ _) (show aU X.prog X.w _ _ _ (.tup [.int n,x])from⟨by have:=SB;simp;lia,[.int n s.toks,u],.cons ⟨_,rfl⟩ (.cons ru .nil),IsTup.new _ _⟩)
  rw[b3]at I2;have fz:∀c∈[e,i],bL X pins (upd H s.sz (.tup [.int n,x])) c:=λc hc=>⟨by rw[ar (z_ (ne c hc))];exact(hf c hc).1,(hf c hc).2⟩;have I3:L2.Inv X pins σ (upd H s.sz (.tup [.int n,x])) {s with heap:=g',toks:=s.toks+1}:=lN (s:={s with heap:=g.push {cls:=.type "tuple",data:=.seq #[.int n s.toks,u]},toks:=s.toks+1}) (ch:=[e]) I2 (λc hc=>fz c (by simp at hc;simp[hc])) λc o hc q=>b5 c o (λz=>hc (by simp[z])) q;refine⟨_,rfl,Jw b1 λg2 vX s2=>?_⟩;have I4:L2.Inv X pins σ (upd H s.sz (.tup [.int n,x])) {s with heap:=g2,toks:=s.toks+1}:=lN (s:={s with heap:=g',toks:=s.toks+1}) (ch:=[e]) I3 (λc hc=>fz c (by simp at hc;simp[hc])) λc o hc q=>s2.extBut c o (λz=>hc (by simp[z])) q;refine⟨.ref s.sz,_,I4,rfl,⟨s.sz,hT,rfl,λK' x' p1 jJ=>?_⟩,⟨⟨u,vX⟩,W.itx b2 (K2 s2.extBut (Tj hne))⟩,λc hc=>(fz c hc).1⟩;cases K1.inj hK I q1 p1;rw[hx]at jJ;cases jJ
  rfl
 done:=by
  intro X hP hw hK hc n pins s σ H E I hf st hg;subst hP hw;obtain⟨⟨old,he⟩,h1⟩:=st;obtain⟨xs,q1,hl⟩:=hg;obtain⟨us,r1,m1⟩:=K1.get hK I q1;have e1:=r1.length;refine zV (I.ok.hd hc) W he h1 m1 (K_ (by lia)) λg' kk=>⟨rfl,?_⟩;exact lN (ch:=[i]) I (λc hc=>hf c (by simp at hc;simp[hc])) λc o hc q=>kk c o (λz=>hc (by simp[z])) q
 self:=λ_ n _ _ _ ⟨⟨_,he⟩,_⟩ h=>WA he h
abbrev Ra(c:String)(h:Xf)(l:Xj):Xf:=(Of c h l).push {cls:=.type "enumerate",data:=.fields #[.none,.bool false,.ref h.objs.size,rawInt 0,.none,.none]}
theorem zp(l:Xj)(items:Array Xa)(n:Nat)(dct:W2)(sl:WV):Meets (Builtin.«enumerate.__new__» ⟨[.type "enumerate",.ref l],[]⟩) (λ_ R s=>s.heap.get? l=some {cls:=.type "tuple",dict:=dct,data:=.seq items n,slots:=sl}/\
   R (.ok (.ret (.ref (Of "tuple_iterator" s.heap l).objs.size))) {s with heap:=Ra "tuple_iterator" s.heap l}):=
 .of_wp λprog w A R s h=>by
  obtain⟨hp,g,d,tk,os⟩:=s;obtain⟨hl,h⟩:=h;have hsub:=sub_enumerate;have hL:Heap.IsTuple (Shared.heap ⟨hp,g,d,tk,os⟩) l items:=⟨_,hl,rfl,n,rfl⟩
  wp_walk using UE hl
  refine wpAny_stack_any λst=>d_ ?_
  split
  .rename_i c _ _ _ _ _;cases(c==Value.type "enumerate")
   .wp_walk using UE hl,Vo hL
    exact⟨_,rfl,h⟩
   .wp_walk using UE hl,Vo hL
    exact⟨_,rfl,h⟩
  .wp_walk using UE hl,Vo hL
   exact⟨_,rfl,h⟩
theorem u4(hL:s.heap.IsTuple l items)
  (h:∀h',IsEnum h' (s.sz+1) s.sz 0 .none->h'.IsTupleIter s.sz l 0->(∀b o,s.heap.get? b=some o->h'.get? b=some o)->Q (.ref (s.sz+1)) {s with heap:=h'}) :
  wpAny (model prog w) A (call (.type "enumerate") [.ref l]) Q E s:=by
 obtain⟨⟨c,dct,dt,sl⟩,hl,hc,n,hd⟩:=hL
 replace hc:c=.type "tuple":=hc
 replace hd:dt=.seq items n:=hd
 subst hc hd;refine callType_new F.called_enumerate (by decide) (F.typeCall_enumerate_1 _) (F.newCall_enumerate_1 _) (λobj=>F.args_object_init_2 obj _) F.entry_enumerate_new (zp l items n dct sl) ⟨hl,?_⟩;have hz:(Of "tuple_iterator" s.heap l).objs.size=s.sz+1:=VA ..;show _/\_;rw[hz];have he:IsEnum (Ra "tuple_iterator" s.heap l) (s.sz+1) s.sz 0 .none:=by
  have:=n_ (Of "tuple_iterator" s.heap l) (o:={cls:=.type "enumerate",data:=.fields #[.none,.bool false,.ref s.sz,rawInt 0,.none,.none]}) rfl;rw[hz]at this;exact this
 exact⟨⟨_,he,rfl⟩,h _ he ⟨_,e_ _ (n_ _ rfl),rfl,rfl⟩ λb o x=>e_ _ (e_ _ x)⟩
section
variable {X:Cx}{es:W5}{kk:Nat}{tp:Pos}
theorem vJ:bootBuiltins "enumerate"=some (.type "enumerate"):=by decide +kernel
def L5(K:Fg)(ta:TA):TI:=λσ H R=>ta σ H λvs H1=>∃(l:Xj)(xs:Xs),vs=[.ref l]/\((cy K H1 l xs/\R (Oh (λH xs=>cy K H l xs)) H1)\/(di K H1 l xs/\R (Oh (λH xs=>di K H l xs)) H1))
theorem FQ(hg:Gl X "enumerate")(hm:X.mg "enumerate"=none)(ha:PA X [a] ta)(hs:starEach [a] X.env=[(false,eval a X.env)]:=by rfl):PI X (.Tuple es kk tp) (.Call (.Name "enumerate" p) [a] [] pos) (L5 X.K ta):=by
 intro pins s σ H R I h;refine Call_ (gT I hg hm vJ (T_ (aZ (ha pos pins s σ H _ I h) λus s1 aC=>?_) hs rfl));obtain⟨vs,H1,I1,r1,q1⟩:=aC;obtain⟨l,xs,e,q⟩:=q1;subst e;obtain⟨u,rfl,ru⟩:=vals1 r1;cases ru;have fp:∀b∈[s1.sz+1,s1.sz],bL X pins H1 b:=λb hb=>by
  have zM:s1.sz<=b:=by
   simp only[t_,S0,U3]at hb;rcases hb with rfl | rfl
   .exact UL _
   .exact h_ _
  exact I1.fpOk zM (I1.hok.fresh zM)
 rcases q with ⟨m,q⟩ | ⟨m,q⟩
 .obtain⟨us,_,p1,_⟩:=I1.tuple m;refine u4 (show s1.heap.IsTuple l us.toArray from p1) λh' he hi old=>WA he ?_;exact⟨s1.sz+1,_,_,_,H1,rfl,I1.kept old,oQ (Pe _ _) (Pa l) (WE _),⟨⟨_,he⟩,hi⟩,fp,q⟩
 .obtain⟨us,_,p1,_⟩:=I1.list m;refine call_enumerate_list p1.isList λh' he hi _ old=>WA he ?_;exact⟨s1.sz+1,_,_,_,H1,rfl,I1.kept old,oQ (Pf _ _) (OW l) (WE _),⟨⟨_,he⟩,hi⟩,fp,q⟩
def jz:Nat->Xq->Xq
 | _,[]=>[]
 | n,d::ds=>.tup [.int (n:Int),d]::jz (n+1) ds
theorem eX:∀(n:Nat)(ds:Xq),(jz n ds).length=ds.length
 | _,[]=>rfl
 | n,d::ds=>by simp[jz,eX (n+1) ds]
theorem iY:∀{n:Nat}{ds:Xq}{i:Nat}{d:D},ds[i]?=some d->(jz n ds)[i]?=some (.tup [.int ((n+i:Nat):Int),d])
 | n,[],i,d,h=>by simp at h
 | n,x::ds,0,d,h=>by cases h;rfl
 | n,x::ds,i+1,d,h=>by
  show(jz (n+1) ds)[i]?=_;rw[iY (by simpa using h),show n+1+i=n+(i+1) by lia]
theorem pK{K:Fg}{Z1:Hp}{S:Hp->Xs->Prop}{vs:Xs}{xs:Xq}(m1:∀{H H'},aH H H'->S H vs->S H' vs)(q1:S Z1 vs)(r1:ak K Z1 xs vs):Walk K Z1 (jz 0 xs) (Oh S):=λZ' H' s1 s2 i=>by
 have l1:=r1.len;have w1:=m1 (s1.trans s2) q1;rw[eX];refine⟨λhi=>?_,λhi=>⟨vs,w1,by lia⟩⟩;have h1:i<vs.length:=by lia
 refine⟨⟨vs,vs[i],w1,f_ h1⟩,λx H'' ⟨q,hq,e,hy⟩=>?_⟩;subst e;have e2:=hy vs _ w1 (f_ h1);subst e2;obtain⟨d1,e1,p1⟩:=r1.getV (f_ h1);have s3:aH Z' (upd Z' q (.tup [.int (i:Nat),vs[i]])):=cm (s2.free hq);exact⟨_,_,Ex.new s2 hq,iY e1,q,_,rfl,cy.of ai,ak.mono s3 _ ⟨_,_,rfl,by rw[Ss];rfl,_,_,rfl,Rep.mono s1 _ p1,rfl⟩⟩
def Du(f:Fe):Fi:=λenv=>(f env).bind λd=>match d with
 | .tup xs=>some (jz 0 xs)
 | .lst xs=>some (jz 0 xs)
 | _=>none
theorem uN(hm:X.mg "enumerate"=none)(h:PD X .cl l f)(hg:Gl X "enumerate":=by rfl)(hs:starEach [l] X.env=[(false,eval l X.env)]:=by rfl):ID X (.Tuple es kk tp) (.Call (.Name "enumerate" p) [l] [] pos) (Du f):=
 PI.imp (FQ hg hm (aJ h bM hs) hs) λσ H R aC=>by
  obtain⟨env,B,Z,ds,Rr,e,k⟩:=aC;obtain⟨d,e1,e2⟩:=b_.mp e;cases d<;>cases e2
  .refine⟨env,B,Z,_,Rr,e1,λv Z1 H1 x1 g1=>?_⟩;obtain⟨l1,vs,rfl,w1,r1⟩:=g1;exact⟨l1,vs,rfl,.inl ⟨bJ x1.zh w1,k _ Z1 H1 x1 (pK (λs q=>bJ s q) w1 r1)⟩⟩
  .refine⟨env,B,Z,_,Rr,e1,λv Z1 H1 x1 g1=>?_⟩;obtain⟨l1,vs,rfl,w1,r1⟩:=g1;exact⟨l1,vs,rfl,.inr ⟨x1.zh.seq w1,k _ Z1 H1 x1 (pK (λs q=>s.seq q) w1 r1)⟩⟩
end
end Mi
namespace Mi
open PySem PySem.Spec PyProof.Rows L2
section
variable {X:Cx}{l r:Xk}{fa fb:Fe}{ga gb:Gr}{pos p:Pos}{k:Nat}
def GT(K:Fg):R2:=λx y H Q=>∃a b xs ys,x=.ref a/\y=.ref b/\cy K H a xs/\cy K H b ys/\xs.length+ys.length<=sizeLine/\(xs=[]->Q (.ref b) H)/\(xs≠[]->ys=[]->Q (.ref a) H)/\(xs≠[]->ys≠[]->∀p,H p=none->Q (.ref p) (upd H p (.tup (xs++ys))))
theorem F8:gy X (binaryOp .Add) (GT X.K):=by
 intro pins s σ H x y v u Q I rx ry h;obtain⟨a,b,xs,ys,rfl,rfl,ha,hb,hz,q0,q1,q2⟩:=h
 by_cases hx:xs=[]
 .cases rx;cases ry;obtain⟨aQ,r1,p1,_⟩:=I.tuple ha;obtain⟨v7,r2,p2,_⟩:=I.tuple hb;obtain⟨⟨cls,dd,data,sl⟩,ho,hc,n,hd⟩:=id p1;obtain⟨⟨Ko,zJ,data2,Dz⟩,DA,rQ,n2,hd2⟩:=id p2;simp only at hc hd rQ hd2;subst hc hd rQ hd2;have hi:aQ=[]:=r1.nil_iff.mpr hx;exact concat_meets ⟨_,ho,rfl⟩ ⟨_,DA,rfl⟩ noFill_tuple_add seq_tuple_add Vx Vq (Vf _ _) (tuple_addW0 a b aQ.toArray v7.toArray n n2 dd zJ sl Dz (by simp[hi])) ⟨ho,DA,⟨.ref b,H,I,rfl,q0 hx⟩⟩
 .exact Ga pins s σ H _ _ v u Q I rx ry ⟨a,b,xs,ys,rfl,rfl,ha,hb,hx,hz,q1 hx,q2 hx⟩
def Ad:D->D->Xr
 | .tup xs,.tup ys=>if xs.length+ys.length<=16000000 then some (.tup (xs++ys))else none
 | _,_=>none
theorem ak.nil_iff{K:Fg}{H:Hp}{ds:Xq}{vs:Xs}(h:ak K H ds vs):vs=[]↔ds=[]:=by
 have:=h.len;cases ds<;>cases vs<;>simp at this ⊢
theorem HM{K:Fg}:cb K .cl Ad (GT K):=λ{Z H x y dx dy d Q} s h1 h2 e kq=>by
 cases dx<;>try cases e
 all_goals (cases dy<;>try cases e)
 rename_i xs ys;obtain⟨hl,rfl⟩:=kP e;rcases h1 with h1 | ⟨_,_,_,_,e1,_⟩ | ⟨_,_,_,e1,_⟩ | ⟨_,_,_,_,_,e1,_⟩
 .rcases h2 with h2 | ⟨_,_,_,_,e1,_⟩ | ⟨_,_,_,e1,_⟩ | ⟨_,_,_,_,_,e1,_⟩
  .obtain⟨a,vs,rfl,q1,r1⟩:=id h1;obtain⟨b,us,rfl,q2,r2⟩:=id h2;refine⟨a,b,vs,us,rfl,rfl,bJ s q1,bJ s q2,by rw[<- r1.len,<- r2.len,SB];lia,λz=>?_,λz1 z=>?_,λz1 z2 p hp=>?_⟩
   .have hx:=r1.nil_iff.mp z;subst hx;exact kq _ Z H (Ex.refl s) h2
   .have hy:=r2.nil_iff.mp z;subst hy;rw[SG]at kq;exact kq _ Z H (Ex.refl s) h1
   .have s1:aH Z (upd Z p (.tup (vs++us))):=cm (s.free hp);exact kq _ _ _ (Ex.new s hp) ⟨p,_,rfl,cy.of ai,ak.mono s1 _ (r1.app r2)⟩
  .cases e1
  .cases e1
  .cases e1
 .cases e1
 .cases e1
 .cases e1
theorem Az(ha:PD X ga l fa)(hb:PD X gb r fb):PD X .cl (.BinOp l .Add r pos) (ao Ad fa fb):=og F8 HM ha hb
end
def Do:Key->Key->Option Bool
 | .inl a,.inl b=>some (decide (a<b))
 | .inr a,.inr b=>some (decide (a.cps.toList<b.cps.toList))
 | _,_=>none
def dH:Xn->Xn->Option Bool
 | [],[]=>some false
 | [],_::_=>some true
 | _::_,[]=>some false
 | x::xs,y::ys=>if x=y then dH xs ys else Do x y
inductive cC:List Value->List Key->Prop
 | nil:cC [] []
 | int (n:Int) (t:Tok) {vs ks}:cC vs ks->cC (.int n t::vs) (.inl n::ks)
 | str (x:Str) (t:Tok) {vs ks}:cC vs ks->cC (.str x t::vs) (.inr x::ks)
theorem cC.length:∀{vs:W0}{ks:Xn},cC vs ks->vs.length=ks.length
 | _,_,.nil=>rfl
 | _,_,.int _ _ h=>by simp[cC.length h]
 | _,_,.str _ _ h=>by simp[cC.length h]
theorem cC.of:∀{ks:Xn}{us:W0},av (ks.map kV) us->cC us ks
 | [],_,r=>by rw[Vv]at r;cases r;exact .nil
 | .inl n::ks,_,r=>by
  rw[L_]at r;cases r with
  | cons h t=>obtain⟨tk,rfl⟩:=(show ∃t,_=Value.int n t from h);exact .int n tk (cC.of t)
 | .inr x::ks,_,r=>by
  rw[L_]at r;cases r with
  | cons h t=>obtain⟨tk,rfl⟩:=(show ∃t,_=Value.str x t from h);exact .str x tk (cC.of t)
theorem tL(A:Xe)(s:Xb)(a:Str)(t:Tok)(c:Str)(u:Tok)(prog:Xd)(w:Xg)(E:WT)(Q:WT)(h:Q (.bool (decide (a.cps.toList<c.cps.toList))) s) :
  wpAny (model prog w) A (richCompare .Lt (.str a t) (.str c u)) Q E s:=
 (PyProof.Rows.lt_str h:wpAny (model prog w) A (compareOp .Lt (.str a t) (.str c u)) Q E s)
section
open PySem.SeqAt
open PySem.AutoSeq1 (wpAny_loadPart')
open PySem.MeetsSeq PySem.MeetsSeq2 PySem.MeetsSeq3
theorem Eb(hv:cC (y::vs) ns)(hw:cC (x::ws) ms):∃a c uB DC,ns=a::uB/\ms=c::DC/\cC vs uB/\cC ws DC/\
  ∀(A:Xe)(s:Xb)(q:Bool),(if a=c then dH uB DC else Do a c)=some q->∃e,SeqAt.EqAt A s y x e/\(e=true↔a=c)/\(e=false->∀(prog:Xd)(w:Xg)(E:WT)(Q:WT),Q (.bool q) s->wpAny (model prog w) A (richCompare .Lt y x) Q E s):=by
 cases hv with
 | int n t DD=>
  cases hw with
  | int m u Ky=>
   refine⟨_,_,_,_,rfl,rfl,DD,Ky,λA s q hq=>⟨(n==m),SeqAt.EqAt.int_int n t m u,by simp,λhe=>?_⟩⟩;have hne:n≠m:=by simpa using he
   rw[k_ (λz=>hne (Sum.inl.inj z))]at hq;cases hq;exact λprog w E Q h=>HT.sv A s n t m u prog w E Q h
  | str y u Ky=>
   refine⟨_,_,_,_,rfl,rfl,DD,Ky,λA s q hq=>?_⟩;rw[k_ (λz=>nomatch z)]at hq;cases hq
 | str a t DD=>
  cases hw with
  | int m u Ky=>
   refine⟨_,_,_,_,rfl,rfl,DD,Ky,λA s q hq=>?_⟩;rw[k_ (λz=>nomatch z)]at hq;cases hq
  | str b u Ky=>
   refine⟨_,_,_,_,rfl,rfl,DD,Ky,λA s q hq=>⟨(a==b),SeqAt.EqAt.str_str a t b u,by simp,λhe=>?_⟩⟩;have hne:a≠b:=by simpa using he
   rw[k_ (λz=>hne (Sum.inr.inj z))]at hq;cases hq;exact λprog w E Q h=>tL A s a t b u prog w E Q h
theorem oh(l b:Xj)(items items2:Array Xa)(n n2:Nat)(dd zJ:W2)(sl Dz:WV)(ns ms:Xn)(q:Bool)(hi:cC items.toList ns)(hj:cC items2.toList ms)(hq:dH ns ms=some q) :
  Meets (Builtin.«tuple.__lt__» ⟨[.ref l,.ref b],[]⟩)
   (λ_ R s=>s.heap.get? l=some {cls:=.type "tuple",dict:=dd,data:=.seq items n,slots:=sl}/\s.heap.get? b=some {cls:=.type "tuple",dict:=zJ,data:=.seq items2 n2,slots:=Dz}/\R (.ok (.ret (.bool q))) s):=
 .of_wp λprog w A R s h=>by
  obtain⟨hp,g,d,tk,os⟩:=s;obtain⟨hl,hb,h⟩:=h;have f2:=AutoSeq1.sub_tuple_tuple;have z1:items.size=ns.length:=by rw[<- hi.length];simp
  have z2:items2.size=ms.length:=by rw[<- hj.length];simp
  wp_walk using wpAny_loadPart' hl,wpAny_loadPart' hb,Tt _ (λrest b s'=>b.1=none/\s'=⟨hp,g,d,tk,os⟩/\∃(vs ws:W0)(uB DC:Xn),rest=vs.zip ws/\
   cC vs uB/\cC ws DC/\uB.length+items2.size=DC.length+items.size/\dH uB DC=some q) _
  case turn=>
   rintro⟨y,x⟩ rest b s' ⟨zM,rfl,vs,ws,uB,DC,hz,Hv,Rq,hlen,hR⟩;cases vs with
   | nil=>rw[List.zip_nil_left]at hz;cases hz
   | cons v vs=>
    cases ws with
    | nil=>rw[List.zip_nil_right]at hz;cases hz
    | cons w' ws=>
     rw[Uh]at hz
     injection hz with hyx hrest
     injection hyx with hy hx
     subst hy hx;obtain⟨a,c,Rt,Qq,rfl,rfl,hv1,hw1,ask⟩:=Eb Hv Rq;have Qr:(if a=c then dH Rt Qq else Do a c)=some q:=hR;obtain⟨e,he,hiff,hlt⟩:=ask A.in1 ⟨hp,g,d,tk,os⟩ q Qr;simp only[A_]at hlen;refine a_ (he prog w _ _ ?_);cases e with
     | true=>
      rw[j_ (hiff.mp rfl)]at Qr
      wp_walk
      exact⟨rfl,rfl,_,_,_,_,hrest,hv1,hw1,by lia,Qr⟩
     | false=>
      have hri:=hlt rfl prog w
      wp_walk using hri
      exact⟨_,rfl,by simpa using h⟩
  case fin=>
   rintro⟨b1,b2⟩ s' ⟨zM,rfl,vs,ws,uB,DC,hz,Hv,Rq,hlen,hR⟩;simp only at zM;subst zM;have l1:=Hv.length;have l2:=Rq.length;have hv:q=decide (items.size<items2.size):=by
    cases uB with
    | nil=>
     cases DC with
     | nil=>
      simp only[TM]at hlen;cases hR;exact(E_ (by lia)).symm
     | cons c Qq=>
      simp only[TM,A_]at hlen;cases hR;exact(w_ (by lia)).symm
    | cons a Rt=>
     cases DC with
     | nil=>
      simp only[TM,A_]at hlen;cases hR;exact(E_ (by lia)).symm
     | cons c Qq=>
      cases vs with
      | nil=>simp at l1
      | cons v vs=>
       cases ws with
       | nil=>simp at l2
       | cons w' ws=>rw[Uh]at hz;cases hz
   rw[hv]at h
   wp_walk
   exact⟨_,rfl,by simpa [Builtin.Tuple.tupleCompareSizes]using h⟩
  case h=>
   exact⟨rfl,rfl,items.toList,items2.toList,ns,ms,rfl,hi,hj,by lia,hq⟩
end
section
variable {X:Cx}{l r:Xk}{fa fb:Fe}{ga gb:Gr}{pos p:Pos}{k:Nat}
def Lz(K:Fg):R2:=λx y H Q=>∃a b ns ms q,x=.ref a/\y=.ref b/\cy K H a (ns.map kV)/\cy K H b (ms.map kV)/\dH ns ms=some q/\Q (.bl q) H
theorem JT(hu:X.A.units<cLine):gy X (compareOp .Lt) (Lz X.K):=by
 intro pins s σ H x y v u Q I rx ry h;obtain⟨a,b,ns,ms,c,rfl,rfl,ha,hb,hc,q⟩:=h;cases rx;cases ry;obtain⟨aQ,r1,p1,_⟩:=I.tuple ha;obtain⟨v7,r2,p2,_⟩:=I.tuple hb;obtain⟨⟨cls,dd,data,sl⟩,ho,gX,n,hd⟩:=id p1;obtain⟨⟨Ko,zJ,data2,Dz⟩,DA,rQ,n2,hd2⟩:=id p2;simp only at gX hd rQ hd2;subst gX hd rQ hd2;exact richCompare_meets_room (op:=.Lt) ⟨_,ho,rfl⟩ ⟨_,DA,rfl⟩ PySem.F.slot_tuple_lt PySem.F.entry_tuple_lt (PySem.F.args_tuple_lt_2 _ _) (oh a b aQ.toArray v7.toArray n n2 dd zJ sl Dz ns ms c (by simpa using cC.of r1) (by simpa using cC.of r2) hc)
  ⟨ho,DA,show Value.bool c≠Value.notImplemented/\EP X pins σ Q (.bool c) s from⟨(λz=>nomatch z),⟨.bl c,H,I,rfl,q⟩⟩⟩ hu
def lV:Xq->Option Xn
 | []=>some []
 | .int i::r=>(lV r).bind λks=>some (.inl i::ks)
 | .str x::r=>(lV r).bind λks=>some (.inr x::ks)
 | _=>none
theorem fj{K:Fg}{H:Hp}:∀{ds:Xq}{ks:Xn}{vs:Xs},lV ds=some ks->ak K H ds vs->vs=ks.map kV
 | [],ks,vs,h,r=>by cases h;exact r
 | d::ds,ks,vs,h,r=>by
  obtain⟨v,rr,e,h1,h2⟩:=r;subst e;cases d<;>try cases h
  .obtain⟨gq,e1,e2⟩:=b_.mp h;cases e2;cases(show v=_ from h1);rw[fj e1 h2];rfl
  .obtain⟨gq,e1,e2⟩:=b_.mp h;cases e2;cases(show v=_ from h1.1);rw[fj e1 h2];rfl
def MH:D->D->Xr
 | .tup xs,.tup ys=>(lV xs).bind λns=>(lV ys).bind λms=>(dH ns ms).bind λq=>some (.bl q)
 | _,_=>none
theorem Lj{K:Fg}:cb K .cl MH (Lz K):=λ{Z H x y dx dy d Q} s h1 h2 e kq=>by
 cases dx<;>try cases e
 all_goals (cases dy<;>try cases e)
 obtain⟨ns,e1,e⟩:=b_.mp e;obtain⟨ms,e2,e⟩:=b_.mp e;obtain⟨q,e3,e⟩:=b_.mp e;cases e;obtain⟨a,vs,rfl,q1,r1⟩:=h1.tup s;obtain⟨b,us,rfl,q2,r2⟩:=h2.tup s;cases fj e1 r1;cases fj e2 r2;exact⟨a,b,ns,ms,q,rfl,rfl,q1,q2,e3,kq _ Z H (Ex.refl s) rfl⟩
theorem Lf(hr:a9 k X.A)(ha:PD X ga l fa)(hb:PD X gb r fb):PD X .cl (.Compare l [.Lt] [r] pos) (ao MH fa fb):=Bx (JT (by have:=hr.un;lia)) Lj ha hb (gN _)
end
end Mi
namespace Mi
open PySem PySem.Spec PyProof.Rows L2
section
variable {prog:Xd}{w:Xg}{A:Xe}{E:WT}{s:Xb}{z TI TO i1 i2 l1 l2 T:Xj}{k1 k2:Nat}{xs ys:W0}{x y:Xa}{oT:Obj}{bz:Bool}
end
section
variable {prog:Xd}{w:Xg}{A:Xe}{E:WT}{s:Xb}{z TI TO i1 i2 l1 l2:Xj}{xs ys:W0}
end
section
variable {X:Cx}{l r:Xk}{fa fb:Fe}{pos pos2 p p2:Pos}
end
section
variable {X:Cx}
variable {l r q:Xk}{fa fb fc:Fe}{ga gb gc:Gr}{pos p:Pos}
end
def wt:Xn->Bool
 | .inl _::_=>true
 | _=>false
section
variable {prog:Xd}{w:Xg}{A:Xe}{E:WT}{s:Xb}
theorem Ki:∀{xs ys:W0}{ks js:Xn}{q:Bool}{i:Nat},cC xs ks->cC ys js->dH ks js=some q->(i=0->wt ks=true/\wt js=true)->Q q s->
  PySem.W.KatLex prog w A true (decide (xs.length<ys.length)) Q (xs.zip ys) i s
 | _,_,_,_,q,i,.nil,.nil,h,_,hq=>by
  cases h;exact Vm (by simpa using hq)
 | _,_,_,_,q,i,.nil,.int _ _ r,h,_,hq=>by cases h;exact Vm (by simpa using hq)
 | _,_,_,_,q,i,.nil,.str _ _ r,h,_,hq=>by cases h;exact Vm (by simpa using hq)
 | _,_,_,_,q,i,.int _ _ r,.nil,h,_,hq=>by cases h;exact Vm (by simpa using hq)
 | _,_,_,_,q,i,.str _ _ r,.nil,h,_,hq=>by cases h;exact Vm (by simpa using hq)
 | _,_,_,_,q,i,.int n t r1,.str y u r2,h,_,hq=>by
  have h':(if(Sum.inl n:Key)=.inr y then _ else Do (.inl n) (.inr y))=some q:=h;rw[k_ (λz=>nomatch z)]at h';cases h'
 | _,_,_,_,q,i,.str x t r1,.int m u r2,h,_,hq=>by
  have h':(if(Sum.inr x:Key)=.inl m then _ else Do (.inr x) (.inl m))=some q:=h;rw[k_ (λz=>nomatch z)]at h';cases h'
 | _,_,_,_,q,i,@cC.int n t xs ks r1,@cC.int m u ys js r2,h,h0,hq=>by
  have h':(if(Sum.inl n:Key)=.inl m then dH ks js else Do (.inl n) (.inl m))=some q:=h;refine PySem.W.kat_cons (SeqAt.EqAt.int_int n t m u prog w _ _ ?_)
  by_cases e:n=m
  .subst e;rw[j_ rfl]at h';rw[show(n==n)=true by simp];refine PySem.W.kat_yes ?_;have:=Ki (i:=i+1) r1 r2 h' (λz=>by lia) hq;rw[show ∀(a b:Xa),decide ((a::xs).length<(b::ys).length)=decide (xs.length<ys.length)from λa b=>by simp];exact this
  .rw[k_ (λz=>e (Sum.inl.inj z))]at h';cases h';rw[show(n==m)=false by simpa using e];refine PySem.W.kat_no ?_
   by_cases hi:i=0
   .subst hi;exact oneLt_int hq
   .rw[show(true&&i==0)=false by simp[hi]];exact PySem.W.kat_one _ _ (HT.sv A s n t m u prog w _ _ hq)
 | _,_,_,_,q,i,@cC.str x t xs ks r1,@cC.str y u ys js r2,h,h0,hq=>by
  have h':(if(Sum.inr x:Key)=.inr y then dH ks js else Do (.inr x) (.inr y))=some q:=h;have hi:i≠0:=λz=>by have:=(h0 z).1;cases this
  refine PySem.W.kat_cons (SeqAt.EqAt.str_str x t y u prog w _ _ ?_)
  by_cases e:x=y
  .subst e;rw[j_ rfl]at h';rw[show(x==x)=true by simp];refine PySem.W.kat_yes ?_;have:=Ki (i:=i+1) r1 r2 h' (λz=>by lia) hq;rw[show ∀(a b:Xa),decide ((a::xs).length<(b::ys).length)=decide (xs.length<ys.length)from λa b=>by simp];exact this
  .rw[k_ (λz=>e (Sum.inr.inj z))]at h';cases h';rw[show(x==y)=false by simpa using e];refine PySem.W.kat_no ?_;rw[show(true&&i==0)=false by simp[hi]];exact PySem.W.kat_one _ _ (tL A s x t y u prog w _ _ hq)
end
def bP(h:Xf):W0->Xm->Prop
 | [],[]=>True
 | v::vs,ks::kss=>(∃a o xs n,v=.ref a/\h.get? a=some o/\o.cls=.type "tuple"/\o.data=.seq xs n/\cC xs.toList ks)/\bP h vs kss
 | _,_=>False
theorem bP.keeps(k:∀a o,h.get? a=some o->o.cls=.type "tuple"->h'.get? a=some o):∀{vs:W0}{kss:Xm},bP h vs kss->bP h' vs kss
 | [],[],t=>t
 | [],_::_,t=>t.elim
 | _::_,[],t=>t.elim
 | _::_,_::_,⟨⟨a,o,xs,n,e,ho,hc,hd,r⟩,t⟩=>⟨⟨a,o,xs,n,e,k a o ho hc,hc,hd,r⟩,bP.keeps k t⟩
theorem bP.at:∀{vs:W0}{kss:Xm}{i:Nat}{v:Xa},bP h vs kss->vs[i]?=some v->∃a o xs n ks,v=.ref a/\h.get? a=some o/\o.cls=.type "tuple"/\o.data=.seq xs n/\kss[i]?=some ks/\cC xs.toList ks
 | [],[],i,v,_,e=>by simp at e
 | [],_::_,_,_,t,_=>t.elim
 | _::_,[],_,_,t,_=>t.elim
 | w::vs,ks::kss,0,v,⟨⟨a,o,xs,n,e,ho,hc,hd,r⟩,t⟩,e2=>by simp at e2;subst e2;exact⟨a,o,xs,n,ks,e,ho,hc,hd,rfl,r⟩
 | w::vs,ks::kss,i+1,v,⟨_,t⟩,e2=>by
  obtain⟨a,o,xs,n,gq,g⟩:=bP.at (i:=i) t (by simpa using e2);exact⟨a,o,xs,n,gq,by simpa using g⟩
theorem bP.firsts:∀{vs:W0}{kss:Xm},bP h vs kss->kss.all wt=true->∃fs,PySem.W.KatTups h vs fs/\fs.length=vs.length/\∀f∈fs,∃n t,f=Value.int n t
 | [],[],_,_=>⟨[],trivial,rfl,λ_ h=>by cases h⟩
 | [],_::_,t,_=>t.elim
 | _::_,[],t,_=>t.elim
 | w::vs,ks::kss,⟨⟨a,o,xs,n,e,ho,hc,hd,r⟩,t⟩,hh=>by
  rw[VT,F_]at hh;obtain⟨fs,h1,h2,h3⟩:=bP.firsts t hh.2;subst e;obtain⟨xs⟩:=xs;cases r with
  | nil=>cases hh.1
  | str x t r=>cases hh.1
  | int m tk r=>
   refine⟨.int m tk::fs,PySem.W.KatTups.cons ho hc hd (by simp) h1,by simp[h2],λf hf=>?_⟩;rcases t_.mp hf with rfl | hf
   .exact⟨_,_,rfl⟩
   .exact h3 f hf
section
variable {prog:Xd}{w:Xg}{A:Xe}{E:WT}{s:Xb}
end
def kE:Xq->Option Xm
 | []=>some []
 | .tup xs::r=>(lV xs).bind λks=>(kE r).bind λkss=>some (ks::kss)
 | _=>none
section
variable {X:Cx}{l r:Xk}{fa fb:Fe}{ga gb:Gr}{pos p:Pos}
def pA(K:Fg)(H:Hp):Xs->Xm->Prop
 | [],[]=>True
 | v::vs,ks::kss=>(∃a,v=.ref a/\cy K H a (ks.map kV))/\pA K H vs kss
 | _,_=>False
theorem pA.of{K:Fg}{Z:Hp}:∀{ds:Xq}{vs:Xs}{kss:Xm},kE ds=some kss->ak K Z ds vs->pA K Z vs kss
 | [],vs,kss,h,r=>by cases h;cases(show vs=[]from r);trivial
 | d::ds,vs,kss,h,r=>by
  obtain⟨v,rr,e,h1,h2⟩:=r;subst e;cases d<;>try cases h
  obtain⟨ks,e1,h⟩:=b_.mp h;obtain⟨kss',e2,h⟩:=b_.mp h;cases h;obtain⟨a,us,rfl,q,r1⟩:=h1;cases fj e1 r1;exact⟨⟨a,rfl,q⟩,pA.of e2 h2⟩
theorem pA.mono{K:Fg}{H H':Hp}(s:aH H H'):∀{vs:Xs}{kss:Xm},pA K H vs kss->pA K H' vs kss
 | [],[],t=>t
 | [],_::_,t=>t.elim
 | _::_,[],t=>t.elim
 | _::_,_::_,⟨⟨a,e,q⟩,t⟩=>⟨⟨a,e,bJ s q⟩,pA.mono s t⟩
theorem pA.heap{pins σ H s}(I:Inv X pins σ H s):∀{vs:Xs}{us:W0}{kss:Xm},pA X.K H vs kss->av vs us->bP s.heap us kss
 | [],_,[],t,r=>by cases r;trivial
 | [],_,_::_,t,_=>t.elim
 | _::_,_,[],t,_=>t.elim
 | _::_,_,_::_,⟨⟨a,e,q⟩,t⟩,r=>by
  subst e;cases r with
  | cons h r=>
   cases(show _=Value.ref a from h);obtain⟨aQ,rv,⟨o,h1,h2,n',h3⟩,_⟩:=I.tuple q;exact⟨⟨a,o,aQ.toArray,n',rfl,h1,h2,h3,by simpa using cC.of rv⟩,pA.heap I t r⟩
end
end Mi
namespace Mi
open PySem L2
mutual
theorem tf:∀(d:D),pl d=true->iP d d=true
 | .non,_=>by simp[iP]
 | .bl b,_=>by simp[iP]
 | .int i,_=>by simp[iP]
 | .str x,_=>by simp[iP]
 | .tup ds,h=>by unfold iP;exact j9 ds (by unfold pl at h;exact h)
 | .lst ds,h=>by unfold iP;exact j9 ds (by unfold pl at h;exact h)
 | .dct _,h=>by unfold pl at h;cases h
 | .st _,h=>by unfold pl at h;cases h
 | .ln _,h=>by unfold pl at h;cases h
 | .mp _ _ _,h=>by unfold pl at h;cases h
 | .ix _ _ _,h=>by unfold pl at h;cases h
 | .nt _ _,h=>by unfold pl at h;cases h
theorem j9:∀(ds:Xq),iV ds=true->jb ds ds=true
 | [],_=>by simp[jb]
 | d::ds,h=>by
  unfold iV at h;rw[F_]at h;unfold jb;rw[tf d h.1,j9 ds h.2];rfl
end
theorem AH:∀(xs:Xq),(∀x∈xs,pl x=true)->iV xs=true
 | [],_=>by simp[iV]
 | x::xs,h=>by
  unfold iV;rw[h x o_,AH xs λy hy=>h y (l_ _ hy)];rfl
theorem Ef(h:f env=some (.lst xs))(hp:iV xs=true):ao iw f (b8 fNil) env=some (.bl xs.isEmpty):=
 M0 h rfl (O1 (by unfold dep oy;lia) (by unfold pl;rw[hp];rfl)) (Ew xs)
end Mi
namespace Mi
open PySem PySem.Spec PyProof.Rows L2
theorem qD:∀(l:List (α×β)),(l.map (·.1)).zip (l.map (·.2))=l
 | []=>rfl
 | (a,b)::l=>by rw[L_,L_,Uh,qD l]
def kx(x:W9×Xj):Xn×Xj:=(kk x.1,x.2)
theorem nh(hl:bs.length=ps.length):yy a ps bs h↔St.iq (tupleKind (aA P w)) a ((ps.zip bs).map kx) h:=by
 have e1:(ps.zip bs).map Ju=((ps.zip bs).map kx).map (St.ent (tupleKind (aA P w))):=by rw[SO];rfl
 have e2:(((ps.zip bs).map kx).map (·.1)).Nodup↔ps.Nodup:=by
  rw[SO,show((λx:Xn×Xj=>x.1) ∘ kx)=kk ∘ (λx:W9×Xj=>x.1)from rfl,<- SO,wW hl.symm];exact zy λx y=>nE
 constructor
 .rintro⟨o,es,ep,t,h1,h2,h3,h4,h5,h6,h7,h8⟩;exact⟨o,es,ep,t,h1,h2,h3,⟨by rw[<- e1];exact h4,h5,h6,h7⟩,e2.mpr h8⟩
 .rintro⟨o,es,ep,t,h1,h2,h3,⟨h4,h5,h6,h7⟩,h8⟩;exact⟨o,es,ep,t,h1,h2,h3,by rw[e1];exact h4,h5,h6,h7,e2.mp h8⟩
theorem uJ(a:Xj)(ps:WY)(bs:W4):∀h1 h2:Xf,yy a ps bs h1->(∀o,h1.get? a=some o->h2.get? a=some o)->yy a ps bs h2:=λh1 h2 ⟨o,es,ep,t,e,r⟩ k=>⟨o,es,ep,t,k o e,r⟩
def tD(ps:WY):WY:=ps.foldl ie []
def oB(xs:List (W9×Xj))(x:W9×Xj):List (W9×Xj):=if x.1∈xs.map (·.1)then xs else xs++[x]
theorem Gf(xs:List (W9×Xj))(x:W9×Xj):(oB xs x).map kx=St.ua (xs.map kx) (kx x):=by
 unfold oB St.ua;have e:(kx x).1∈(xs.map kx).map (·.1)↔x.1∈xs.map (·.1):=by
  rw[SO,y_,y_];constructor
  .rintro⟨y,hy,e⟩;exact⟨y,hy,nE e⟩
  .rintro⟨y,hy,e⟩;exact⟨y,hy,by show kk y.1=kk x.1;rw[e]⟩
 by_cases h:x.1∈xs.map (·.1)
 .rw[j_ h,j_ (e.mpr h)]
 .rw[k_ h,k_ (λz=>h (e.mp z)),O_];rfl
theorem sQ:∀(l xs:List (W9×Xj)),(l.foldl oB xs).map (·.1)=(l.map (·.1)).foldl ie (xs.map (·.1))
 | [],xs=>rfl
 | x::l,xs=>by
  rw[Vi,sQ l,L_,Vi];congr 1;unfold oB ie
  by_cases h:x.1∈xs.map (·.1)
  .rw[j_ h,j_ h]
  .rw[k_ h,k_ h,O_];rfl
theorem tQ:∀{l xs:List (W9×Xj)}{y:W9×Xj},y∈l.foldl oB xs->y∈xs\/y∈l
 | [],xs,y,h=>.inl h
 | x::l,xs,y,h=>by
  rcases tQ (l:=l) h with h | h
  .unfold oB at h
   split at h
   .exact .inl h
   .rcases Su.mp h with h | h
    .exact .inl h
    .exact .inr (by rw[s_.mp h];exact o_)
  .exact .inr (l_ _ h)
section
variable {X:Cx}{l r:Xk}{fa fb:Fe}{ga gb:Gr}{pos p:Pos}{k:Nat}
def lg:Xq->Option WY
 | []=>some []
 | .tup [.int a,.int b]::r=>(lg r).bind λps=>some ((a,b)::ps)
 | _=>none
end
section
variable {prog:Xd}{w:Xg}{A:Xe}{E:WT}{s:Xb}
end
section
variable {X:Cx}{l r:Xk}{fa fb:Fe}{ga gb:Gr}{pos p:Pos}{k:Nat}
end
theorem AB(ks:WY)(p q:W9):q∈ie ks p↔q∈ks\/q=p:=by
 unfold ie
 split
 .rename_i h;exact⟨λz=>.inl z,λz=>z.elim id λe=>e▸h⟩
 .simp
theorem nH:∀(l xs:WY)(q:W9),q∈l.foldl ie xs↔q∈xs\/q∈l
 | [],xs,q=>by simp
 | x::l,xs,q=>by rw[Vi,nH l,AB,t_,or_assoc]
theorem i9(l:WY)(q:W9):q∈tD l↔q∈l:=by unfold tD;rw[nH];simp
theorem tE(hf:∀p,f p=.tup [.int p.1,.int p.2]):∀(ps:WY),lg (ps.map f)=some ps
 | []=>rfl
 | p::ps=>by rw[L_,hf];show(lg (ps.map f)).bind _=_;rw[tE hf ps];rfl
end Mi
namespace St
open PySem L2
section
variable {prog:Xd}{w:Xg}{A:Xe}{E:WT}{s:Xb}
theorem qz(hu:A.in1.units<cLine)(hS:iq (tupleKind (aA prog w)) a xs s.heap)(zI:∀x∈xs,(tupleKind (aA prog w)).is s.heap x.1 x.2)(ek:(tupleKind (aA prog w)).is s.heap k b)(hl:xs.length+1<=4914)
  (h:∀h' tk,Heap.SameBut a s.heap h'->iq (tupleKind (aA prog w)) a (ua xs (k,b)) h'->(∀L,KY prog w b s.heap->Fl a L s.heap->Fl a L h')->Q .none {s with heap:=h',toks:=tk}):wpAny (model prog w) A (call (.builtin "set.add") [.ref a,.ref b]) Q E s:=by
 refine SC F.slot_set_add hS.typeIs F.entry_set_add ?_ (F.args_set_add_2 _ _);unfold Builtin.«set.add» Builtin.Frozenset.oneOther;simp only[List.isEmpty_nil,bind_assoc];unfold Builtin.Frozenset.addrOf;refine a_ (d_ ?_)
 try dsimp only
 refine a_ (d_ ?_)
 try dsimp only
 refine a_ ?_;refine zz hu hS zI ek hl λr h' tk hsb hS' hF=>?_;show wpAny _ _ (ret Value.none) _ _ _;exact d_ ⟨_,rfl,h h' tk hsb hS' hF⟩
end
end St
namespace Mi
open PySem PySem.Spec PyProof.Rows L2
theorem tX:∀{ds:Xq}{ps:WY}(a b:Int),lg ds=some ps->lg (ds++[.tup [.int a,.int b]])=some (ps++[(a,b)])
 | [],ps,a,b,h=>by cases h;rfl
 | d::ds,ps,a,b,h=>by
  unfold lg at h
  split at h
  .rename_i heq;exact absurd heq (by simp)
  .rename_i a' b' r' e;cases e;obtain⟨qs,h1,h2⟩:=b_.mp h;cases h2;show(lg (ds++[.tup [.int a,.int b]])).bind _=_;rw[tX a b h1];rfl
  .cases h
section
variable {elt:Xk}{gens:WZ}{scope:Xi}{pos:Pos}{d:Nat}{tg iter:Xk}{ifs:W5}{it acc:Xa}{env:Env}
end
structure Ru(X:Cx)(pins:List (Addr×Obj))(a:Addr)(B Z H:Hp)(env:En)(σ:L2.St)(pre:List D)(s:Shared):Prop where
 I:Inv X pins σ H s
 R:Rl X.K B Z H env σ
 nO:∀(i:Nat) ds,env[i]?≠some (.O ds)
 hb:B a=none
 hz:Z a=none
 ac:∃(ps:List (Int×Int))(xs:List ((Int×Int)×Addr)),lg pre=some ps/\xs.map (·.1)=tD ps/\H a=some (.ext (yy a (xs.map (·.1)) (xs.map (·.2))))/\∀x∈xs,cy X.K Z x.2 [.int x.1.1,.int x.1.2]
def Pb(X:Cx)(a:Xj)(Bd:BdT)(k:Xo):Prop:=∀(pins:WU)(s:Xb)(σ:L2.St)(H B Z:Hp)(env:En)(pre xs:Xq)(P:Xb->Prop)(E:WT),
 Ru X pins a B Z H env σ pre s->k env=some xs->pre.length+xs.length<=4900->(∀s' σ' H' Z',Ru X pins a B Z' H' env σ' (pre++xs) s'->Ex Z B Z' H'->P s')->Bd P E s
section
variable {X:Cx}{a:Xj}{elt:Xk}{fe:Fe}
end
section
variable {P:Xd}{w:Xg}{A:Xe}{elt:Xk}{gens:WZ}{scope:Xi}{pos:Pos}{d:Nat}{tg iter:Xk}{ifs:W5}{it acc:Xa}{env:Env}{R:Result->Xb->Prop}{s:Xb}
end
section
variable {X:Cx}{a:Xj}{elt:Xk}{gens:WZ}{scope:Xi}{pos:Pos}{d:Nat}{tg iter uA bK:Xk}{ifs kI:W5}{it:Xj}
end
structure BlkS(X:Cx)(a:Addr)(elt:Expr)(gens:List Comprehension)(scope:Scope)(pos:Pos)(d:Nat)(tg:Expr)(ifs:List Expr)(t:Ft)(c:Fb)(k:En->Option (List D)):Prop where
 g:GD X tg t
 ts:Dr X ifs c
 ex:∃Bd,Pb X a Bd k/\∀(it:Addr)(s:Shared)(Q:Fin->Shared->Prop)(E:Value->Shared->Prop),
   wpAny (model X.prog X.w) X.A (pyNext (.ref it)) (λr s1=>match r with
    | none=>Q (.done .next) s1
    | some v=>wpAny (model X.prog X.w) X.A (letOwnedTupleGo tg (.ref it) v) (λ_ s2=>wpAny (model X.prog X.w) X.A (assign tg X.env v) (λ_ s3=>
      wpAny (model X.prog X.w) X.A (forIn ifs true λc r=>if r=true then do let ok <- isTrue c X.env (eval c X.env);pure (ForInStep.yield ok)else pure (ForInStep.yield r)) (λok s4=>
       if ok=true then Bd (λs5=>Q (.again (.compLoop (.SetComp elt gens scope pos) d (.ref it) (.ref a) X.env)) s5) E s4 else Q (.again (.compLoop (.SetComp elt gens scope pos) d (.ref it) (.ref a) X.env)) s4) E s3) E s2) E s1) E s->
   wpAny (model X.prog X.w) X.A (compTurn (.SetComp elt gens scope pos) d (.ref it) (.ref a) X.env) Q E s
section
variable {X:Cx}{a:Xj}{elt:Xk}{gens:WZ}{scope:Xi}{pos:Pos}{d:Nat}{tg iter:Xk}{ifs:W5}{t:Ft}{c:Fb}{fe:Fe}
end
section
variable {X:Cx}{elt:Xk}{rest:WZ}{scope:Xi}{pos:Pos}{tg iter:Xk}{ifs:W5}{t:Ft}{c:Fb}{k:Xo}{fi:Fi}{is caps:W7}{cl:WX}{Nc own:W3}
end
end Mi
namespace St
open PySem L2
section
variable {prog:Xd}{w:Xg}{K:Type}[DecidableEq K](knd:KeyKind prog w K)
inductive Gy(h:Heap):List (List K)->List Value->Prop
 | nil:Gy h [] []
 | cons {k:List K} {b:Addr} {ks:List (List K)} {vs:List Value}:(tupleKind knd).is h k b->Gy h ks vs->Gy h (k::ks) (.ref b::vs)
def Ji(h:Xf)(ks:List (List K))(a:Xj):Prop:=∃o aQ n,h.get? a=some o/\o.cls=.type "tuple"/\o.data=.seq aQ n/\Gy knd h ks aQ.toList
variable {knd}
variable {A:Xe}{E:WT}{s:Xb}
def zu(ks:List (List K)):Nat:=(ks.map λk=>k.length+1).sum+1
def BD(knd:KeyKind prog w K)(ks:List (List K)):Int:=reduceHash (Builtin.Tuple.tupleHashOf (ks.map (tupleKind knd).hash))
end
section
variable {prog:Xd}{w:Xg}{K:Type}[DecidableEq K]{knd:KeyKind prog w K}{A:Xe}{E:WT}{s:Xb}
def fD(knd:KeyKind prog w K):HeapKind prog w (List (List K)) where
 is:=Ji knd
 hash:=BD knd
 draws:=zu
 room:=λA=>A.units+1<cLine
 inj:=λp q=>p.one q
 keeps:=λp e d sb=>p.stay e d sb
 pyHash:=λhu hk h=>oR hu hk h
 eqBool:=λhu hx hy h=>nest_eq hu hx hy h
 quiet:=λhk h=>mv hk h
end
end St
namespace Mi
open PySem PySem.Spec PyProof.Rows L2
section
variable {K:Type}[DecidableEq K]
end
section
variable {X:Cx}{rg:Gr}{l r:Xk}{fa fb:Fe}{ga gb:Gr}{pos p:Pos}{k:Nat}
end
section
variable {X:Cx}{rg:Gr}{l r:Xk}{fa fb:Fe}{ga gb:Gr}{pos p:Pos}{k:Nat}
end
section
variable {X:Cx}{rg:Gr}{pos:Pos}
end
section
variable {X:Cx}{i:Xk}{fi:Fe}{pos p0 p1 p2 p3 p4:Pos}{k j1 j2 j3 j4:Nat}
end
end Mi
namespace Mi
open PySem PySem.Spec PyProof.Rows L2
section
open PySem.SeqAt
open PySem.AutoSeq1 (wpAny_loadPart')
open PySem.MeetsSeq PySem.MeetsSeq2 PySem.MeetsSeq3
end
section
variable {X:Cx}{l r:Xk}{fa fb:Fe}{ga gb:Gr}{pos p:Pos}{k:Nat}
end
end Mi
namespace Mi
open PySem PySem.Spec PyProof.Rows L2
section
variable {X:Cx}{rg:Gr}{pos:Pos}
end
end Mi
namespace Mi
open PySem
end Mi
namespace Xc
open PySem PySem.Spec PyProof.Rows L2
def Rec(s0h h:Xf)(H:Hp)(e C dx:Xj):Prop:=∃oe vs,h.get? e=some oe/\oe.cls=.ref C/\oe.dict=some dx/\oe.data=.fields vs/\1<vs.size/\
 (vs[1]?=some .none\/∃T oT ts,vs[1]?=some (.ref T)/\T≠e/\s0h.objs.size<=T/\H T=none/\h.get? T=some oT/\oT.data=.fields ts/\ts[3]?=some .none)
section
variable {M:Model}{A:Xe}{E:WT}{s:Xb}
theorem o5
  (hfr:A.frames=some (env::outer)) (hl:s.heap.FunFrames base (env::outer)) (hf:env.frame=some L)
  (he:s.heap.get? e=some oe) (hd:oe.data=.fields vs) (hsz:1<vs.size)
  (h:∀h',(∀b o,b∉k7 (env::outer)->b≠e->s.heap.get? b=some o->h'.get? b=some o)->(∀b o,b∈k7 (env::outer)->s.heap.get? b=some o->∃sl,h'.get? b=some {o with slots:=sl})->
   (∃T oT ts,s.heap.objs.size<=T/\T≠e/\h'.get? e=some (oe.mapFields (·.setIfInBounds 1 (.ref T)))/\h'.get? T=some oT/\oT.data=.fields ts/\ts[3]?=some .none)->Q () {s with heap:=h'}) :
  wpAny M A (do let a <- frameOf env;let pl <- entryPlaceOf L hadNext;let b <- EntryCells.newEntry head a .none (rawInt L) .none pl;setField (.ref e) 1 b) (λ_ s'=>wpAny M A (setFlight (.ref e) none) Q E s') E s:=by
 have NZ:e∉(env::outer).filterMap (·.frame):=λhm=>by
  obtain⟨_,o,ho,hnf⟩:=hl.mem hm;rw[he]at ho;injection ho with ho;subst ho;exact hnf vs hd
 refine a_ (wpAny_frameOf_fun hfr hl hf λh₁ hs₁=>?_);refine a_ (wpAny_entryPlaceOf λpl eR=>?_);unfold EntryCells.newEntry newFields;refine a_ (S7 ?_ (eR.sizeOk5 _ _ _ _ _));have he₁:h₁.get? e=some oe:=(hs₁.2.1 e NZ).trans he;have he₂:=e_ {cls:=.type "traceback",dict:=none,data:=.fields ([head,.ref L,.none,rawInt L,.none]++(if pl.isEmpty then List.replicate 6 Value.none else pl)).toArray} he₁;refine TY he₂ hd hsz ?_;have Gz:h₁.objs.size≠e:=T9 (q_ he₁);have hd₃:=SZ hd (·.setIfInBounds 1 (Value.ref h₁.objs.size));have he₃:=SS (Obj.mapFields (·.setIfInBounds 1 (Value.ref h₁.objs.size))) he₂ (Tn hd₃);have hT₃:=(SE (h₁.push {cls:=.type "traceback",dict:=none,data:=.fields ([head,.ref L,.none,rawInt L,.none]++(if pl.isEmpty then List.replicate 6 Value.none else pl)).toArray})
  (Obj.mapFields (·.setIfInBounds 1 (Value.ref h₁.objs.size))) (Tj Gz)).trans (n_ h₁ rfl)
 unfold setFlight;refine a_ (S_ he₃ hd₃ (x:=.ref h₁.objs.size) (by simp[hsz]) ?_);rw[j_ (show(Value.ref h₁.objs.size != Value.none)=true from by simp)];refine TY hT₃ rfl (by simp only[u_,r_,A_,TM]<;>lia) (h _ ?_ ?_ ?_)
 .intro b o K8 Dw hb;have Rv:h₁.get? b=some o:=(hs₁.2.1 b K8).trans hb;have Qs:h₁.objs.size≠b:=T9 (q_ Rv);rw[SE _ _ Qs,SE _ _ (Tj Dw)];exact e_ _ Rv
 .intro b o K8 hb;obtain⟨sl,hs⟩:=hs₁.2.2 b o hb;have Dw:b≠e:=λq=>NZ (q▸K8);have Qs:h₁.objs.size≠b:=T9 (q_ hs);refine⟨sl,?_⟩;rw[SE _ _ Qs,SE _ _ (Tj Dw)];exact e_ _ hs
 .refine⟨h₁.objs.size,_,_,(by rw[hs₁.1];exact h_ _),Gz,?_,SS _ hT₃ (Tn (SZ rfl _)),SZ rfl _,?_⟩
  .rw[SE _ _ Gz];exact he₃
  .first | (simp;done) | (rcases eR with rfl | ⟨_,_,_,_,_,_,_,rfl⟩<;>simp)
theorem GR
  (hfr:A.frames=some (env::outer)) (hl:s.heap.FunFrames base (env::outer)) (hf:env.frame=some L) (hx:Rec s0h s.heap H e C dx) (h0:s0h.objs.size<=s.heap.objs.size) (hH:∀b,s.heap.objs.size<=b->H b=none)
  (h:∀h' (T':W2),(∀T,T'=some T->s0h.objs.size<=T/\H T=none/\∃oT ts,s.heap.get? T=some oT/\oT.data=.fields ts)->(∀b o,b∉k7 (env::outer)->b≠e->T'≠some b->s.heap.get? b=some o->h'.get? b=some o)->(∀b o,b∈k7 (env::outer)->s.heap.get? b=some o->∃sl,h'.get? b=some {o with slots:=sl})->
   Rec s0h h' H e C dx->(∀T,T'=some T->∃o,h'.get? T=some o)->Q () {s with heap:=h'}):wpAny M A (noteFrame (.ref e) env) (λ_ s'=>wpAny M A (setFlight (.ref e) none) Q E s') E s:=by
 obtain⟨oe,vs,he,hc,N0,hd,hsz,hv⟩:=hx;have fin:∀h',(∃T oT ts,s.heap.objs.size<=T/\T≠e/\h'.get? e=some (oe.mapFields (·.setIfInBounds 1 (.ref T)))/\h'.get? T=some oT/\oT.data=.fields ts/\ts[3]?=some .none)->Rec s0h h' H e C dx:=λh' aC=>by
  obtain⟨T,oT,ts,t1,t2,t3,t4,t5,t6⟩:=aC;refine⟨_,_,t3,(Wz _ _).trans hc,?_,SZ hd _,by simpa using hsz,.inr ⟨T,oT,ts,by simp[hsz],t2,B_ h0 t1,hH T t1,t4,t5,t6⟩⟩;obtain⟨c,d,dt,sl⟩:=oe;have ya:dt=.fields vs:=hd;subst ya;exact N0
 unfold noteFrame;simp only[hf];rcases hv with h1 | ⟨T,oT,ts,h1,Gz,OD,OE,hT,DE,h3⟩
 .refine a_ (S_ he hd h1 ?_);rw[k_ (by decide)];exact o5 hfr hl hf he hd hsz λh' k1 k2 k3=>h h' none (λT z=>by cases z) (λb o b1 b2 _ b4=>k1 b o b1 b2 b4) k2 (fin h' k3) (λT z=>by cases z)
 .refine a_ (S_ he hd h1 ?_);rw[j_ (show(Value.ref T != Value.none)=true from by simp)];refine a_ (S_ hT DE h3 ?_);rw[k_ (show ¬((Value.none==rawInt L)=true)from by simp[rawInt])];refine a_ (TY hT DE (S9.mp h3).1 ?_);have other:∀b,b≠T->(s.heap.update T (Obj.mapFields (·.setIfInBounds 3 Value.none))).get? b=s.heap.get? b:=λb hb=>SE _ _ (Tj hb);have nQ:∀b o,s.heap.get? b=some o->(∀vs,o.data≠.fields vs)->b≠T:=λb o hb hnf q=>by
   rw[q,hT]at hb;injection hb with hb;subst hb;exact hnf ts DE
  have hTn:T∉k7 (env::outer):=λhm=>by
   obtain⟨_,o,ho,hnf⟩:=hl.mem (show T∈(env::outer).filterMap (·.frame)from hm);exact nQ T o ho hnf rfl
  refine o5 hfr (hl.of_keeps λb o hb hnf=>⟨o,(other b (nQ b o hb hnf)).trans hb,rfl⟩) hf ((other e (Tj Gz)).trans he) hd hsz λh' k1 k2 k3=>h h' (some T) (λT' z=>by cases z;exact⟨OD,OE,_,_,hT,DE⟩) (λb o b1 b2 b3 b4=>k1 b o b1 b2 ((other b (λz=>b3 (by rw[z]))).trans b4)) (λb o b1 b2=>?_) (fin h' (by
    obtain⟨T2,oT2,ts2,a1,a2⟩:=k3;exact⟨T2,oT2,ts2,by rw[Heap.size_after_update]at a1;exact a1,a2⟩)) (λT' z=>?_)
  .obtain⟨_,o',ho',hnf⟩:=hl.mem (show b∈(env::outer).filterMap (·.frame)from b1);rw[b2]at ho';injection ho' with ho';subst ho';exact k2 b o b1 ((other b (nQ b o b2 hnf)).trans b2)
  .cases z;exact⟨_,k1 T _ hTn Gz (SS _ hT (Tn (SZ DE _)))⟩
theorem Bw
  (hfr:A.frames=some (env::outer)) (hl:s.heap.FunFrames base (env::outer)) (hf:env.frame=some L) (hx:Rec s0h s.heap H e C dx) (h0:s0h.objs.size<=s.heap.objs.size) (hH:∀b,s.heap.objs.size<=b->H b=none)
  (h:∀h' (T':W2),(∀T,T'=some T->s0h.objs.size<=T/\H T=none)->(∀b o,b∉k7 (env::outer)->b≠e->T'≠some b->s.heap.get? b=some o->h'.get? b=some o)->(∀b o,b∈k7 (env::outer)->s.heap.get? b=some o->∃sl,h'.get? b=some {o with slots:=sl})->
   Rec s0h h' H e C dx->Q () {s with heap:=h'}):wpAny M A (leaving env (.ref e)) Q E s:=by
 unfold leaving;exact a_ (GR hfr hl hf hx h0 hH λh' T' a b c d _=>h h' T' (λT z=>⟨(a T z).1,(a T z).2.1⟩) b c d)
end
end Xc
namespace Xc
open PySem
open Sem (wp)
open PySem.W (Looks)
abbrev bmV:W0:=[.type "ValueError",.type "Exception",.type "BaseException",.type "object"]
abbrev cM(nm q:Str)(C N:Xj)(bs bm:W0)(sn:W3)(sub:W0)(ab:Bool)(col:Option Bool)(dd:W2)(k0 k1 k2 k3 k5:W1):Obj:=excClassObj nm q C N bs bm true sn sub ab col dd k0 k1 k2 k3 k5 "ValueError.__new__"
structure Tl(bm:List Value):Prop where
 v:bm.contains (.type "ValueError")=true
 b:bm.contains (.type "BaseException")=true
 o:bm.contains (.type "object")=true
 a:bm.contains (.type "AttributeError")=false
 n:bm.contains (.type "NameError")=false
section
variable {M:Model}{A:Xe}{E:WT}{h:Xf}{g:Array GenState}{d:Drawn}{t:Nat}{os:OsState}
variable {nm q:Str}{C N:Xj}{bs bm:W0}{sn:W3}{sub:W0}{ab:Bool}{col:Option Bool}{dd:W2}{k0 k1 k2 k3 k5:W1}
theorem zc(Z:Tl bm)(hC:h.get? C=some (cM nm q C N bs bm sn sub ab col dd k0 k1 k2 k3 k5))(hq:Q () ⟨h,g,d,t,os⟩) :
  wpAny M A (checkBuiltinCall "ValueError.__new__" ⟨.ref C::rest,[]⟩) Q E ⟨h,g,d,t,os⟩:=by
 have Fn:=Ul;have hcont:(Value.ref C::bm).contains (.type "ValueError")=true:=by rw[Sw,Z.v,TJ]
 have hstar:=Fn.noStar;simp only[checkBuiltinCall,Fn.newKind,Fn.newSplit,Fn.newRow]
 repeat (first | refine Sz hC ?_ | (refine S6 hC ?_;rw[hcont]) | refine wpAny_staticBase_exc hC ?_ | refine wpAny_madeBy_exc hC ?_ | simp only[WB,x_,SV] | wp_step)
 exact hq
end
section
variable {prog:Xd}{w:Xg}{A:Xe}{R:Result->Xb->Prop}{E:WT}{h:Xf}{g:Array GenState}{d:Drawn}{t:Nat}{os:OsState}
variable {nm q:Str}{C N:Xj}{bs bm:W0}{sn:W3}{sub:W0}{ab:Bool}{col:Option Bool}{dd:W2}{k0 k1 k2 k3 k5:W1}
theorem FY(Z:Tl bm)(hC:h.get? C=some (cM nm q C N bs bm sn sub ab col dd k0 k1 k2 k3 k5))
  (hq:R (.ok (.ret (.ref (h.objs.size+1)))) ⟨(h.push {cls:=.type "tuple",data:=.seq rest.toArray}).push
   {cls:=.ref C,data:=.fields #[.ref h.objs.size,.none,.none,.none,.bool false,.none]},g,d,t,os⟩) (hrest:rest.length<=sizeLine) :
  codeAny (model prog w) A (.builtin "ValueError.__new__" ⟨.ref C::rest,[]⟩) R ⟨h,g,d,t,os⟩:=by
 have Fn:=Ul;have hends:=Fn.ends;have De:(Value.ref C::bm).contains (.type "ValueError")=true:=by rw[Sw,Z.v,TJ]
 have hcA:(Value.ref C::bm).contains (.type "AttributeError")=false:=by rw[Sw,Z.a];rfl
 have hcN:(Value.ref C::bm).contains (.type "NameError")=false:=by rw[Sw,Z.n];rfl
 refine codeAny_builtinAt Fn.entry ?_;unfold Builtin.«BaseException.__new__»;refine wpAt_bind ?_;show wpAt _ _ _ (stack >>= _) _ _ _;refine wpAt_bind (wpAt_stack λp below=>wpAt_of_wpAny ?_)
 wp_walk
 refine wpAt_of_wpAny ?_;rw[Fn.owner]
 repeat (first | with_reducible refine wpAny_madeHere_exc Fn.canon hC ?_ | with_reducible refine Sz hC ?_ | (with_reducible refine S6 hC ?_;first | rw[De] | rw[hcA] | rw[hcN]) | wp_step)
 show R _ _;rw[VA];exact hq
theorem mN(Z:Tl bm)
  (hC:h.get? C=some (cM nm q C N bs bm sn sub ab col dd k0 k1 k2 k3 k5)) (hi:Looks (model prog w) h (typeLookup (.ref C) "__init__") (some (.ref fI)))
  (Qt:h.get? fI=some oI) (Qu:oI.cls=.type "function")
  (hq:∀h' e,Heap.MadeExcOf h h' e (.ref C) rest->h.objs.size<=e->
   wpAny (model prog w) A (call (.ref fI) (.ref e::rest)) (λr s'=>r=.none/\Q (.done (.ret (.ref e))) s') E ⟨h',g,d,t,os⟩) (hrest:rest.length<=sizeLine) :
  wpAny (model prog w) A (Builtin.«type.__call__» ⟨.ref C::rest,[]⟩) Q E ⟨h,g,d,t,os⟩:=by
 have F:=Ul
 repeat (first | with_reducible refine Sz hC ?_ | with_reducible refine wpAny_madeBy_exc hC ?_ | wp_step)
 refine codeAny_call_builtin_code (Wl _ F.quiet) (zc Z hC ?_);refine FY Z hC ?_ hrest;show wpAny _ _ _ _ _ _;have kp:∀b o,h.get? b=some o->((h.push {cls:=.type "tuple",data:=.seq rest.toArray}).push {cls:=.ref C,data:=.fields #[.ref h.objs.size,.none,.none,.none,.bool false,.none]}).get? b=some o:=
  λb o e=>e_ _ (e_ _ e)
 have hC₁:=kp _ _ hC;have hfI₁:=kp _ _ Qt;have CQ:((h.push {cls:=.type "tuple",data:=.seq rest.toArray}).push
   {cls:=.ref C,data:=.fields #[.ref h.objs.size,.none,.none,.none,.bool false,.none]}).get? (h.objs.size+1)=some
   {cls:=.ref C,data:=.fields #[.ref h.objs.size,.none,.none,.none,.bool false,.none]}:=by heap_get
 have hcC:(Value.ref C::bm).contains (.ref C)=true:=by simp
 have hi₁:=hi.keeps kp;unfold isInstance
 repeat (first | with_reducible refine Sz CQ ?_ | (with_reducible refine S6 hC₁ ?_;rw[hcC]) | wp_step)
 show wpAny _ _ (typeLookup (.ref C) _) _ _ _;refine hi₁.at ?_;refine Q_ (a_ ?_);unfold bindSpecial;refine a_ (wpAny_typeOf ⟨_,hfI₁,Qu⟩ ?_);rw[j_ (by decide)];refine d_ (a_ (SI (hq _ (h.objs.size+1) ⟨kp,S4 (UL _),h.objs.size,CQ,S4 (h_ _),?_⟩ (UL _)) (λr s' hr=>?_) λ_ _ x=>x))
 .exact e_ _ (Heap.get?_push_at rfl rfl)
 .obtain⟨rfl,hQ⟩:=hr
  wp_walk
  exact hQ
theorem CN(Z:Tl bm)
  (hC:h.get? C=some (cM nm q C N bs bm sn sub ab col dd k0 k1 k2 k3 k5)) (hi:Looks (model prog w) h (typeLookup (.ref C) "__init__") (some (.ref fI)))
  (Qt:h.get? fI=some oI) (Qu:oI.cls=.type "function")
  (hq:∀h' e,Heap.MadeExcOf h h' e (.ref C) rest->h.objs.size<=e->
   wpAny (model prog w) (A.under (.builtin "type.__call__" ⟨.ref C::rest,[]⟩)) (call (.ref fI) (.ref e::rest)) (λr s'=>r=.none/\Q (.ref e) s') E ⟨h',g,d,t,os⟩) (hrest:rest.length<=sizeLine) :
  wpAny (model prog w) A (call (.ref C) rest) Q E ⟨h,g,d,t,os⟩:=by
 have f1:=tc_lookup;have f2:=tc_bind (.ref C);have hT:(⟨h,g,d,t,os⟩:Xb).TypeIs (.ref C) "type":=⟨_,hC,rfl⟩;refine VM (codeAny_of_tree ?_);show wpAny _ _ (callAny (.ref C) _) _ _ _
 repeat (any_goals (first | assumption | with_reducible refine Sz hC ?_ | wp_step))
 refine⟨rfl,?_⟩;refine codeAny_call_builtin_at (Wl _ (by decide +kernel)) entry_typeCall (wpAny_check_type_call_sub hC (mN Z (hrest:=hrest) hC hi Qt Qu λh' e hm hz=>?_));exact hq h' e hm hz
theorem AK(Z:Tl bm)(hC:h.get? C=some (cM nm q C N bs bm sn sub ab col dd k0 k1 k2 k3 k5))(he:h.get? e=some oe)(vY:oe.cls=.ref C)(hd:oe.data=.fields vs)(hz:vs[0]?=some (.ref t0))(hrest:rest.length<=sizeLine)
  (hq:∀h' tp,(∀b o,b≠e->h.get? b=some o->h'.get? b=some o)->h'.get? e=some (oe.mapFields (·.setIfInBounds 0 (.ref tp)))->Q .none ⟨h',g,d,t,os⟩) :
  wpAny (model prog w) A (call (.builtin "ValueError.__init__") (.ref e::rest)) Q E ⟨h,g,d,t,os⟩:=by
 have F:=Ul;have De:(Value.ref C::bm).contains (.type "ValueError")=true:=by rw[Sw,Z.v,TJ]
 have hshort:=F.noStar;refine VM (V0 F.init.plain F.initEntry ?_);simp only[checkBuiltinCall,F.initKind,F.initSplit,F.initRow]
 repeat (first | (with_reducible refine Sz he ?_;rw[vY]) | with_reducible refine Sz hC ?_ | (with_reducible refine S6 hC ?_;rw[De]) | wp_step)
 refine wpAny_onRaise ?_;rw[show ∀(a b:String)(n:Nat),Bind.check ⟨.positional,"*","ValueError",.self,[⟨"args",.varPos,false⟩]⟩ a b n (List.map (λx=>x.fst) ({pos:=Value.ref e::rest}:Args).kw)=pure ()from
  λa b n=>check_star_args _ _ _ _ _ _]
 refine d_ ?_
 wp_walk
 rw[hd];refine d_ ?_;rw[hz];refine d_ ?_;have he₁:=e_ {cls:=.type "tuple",data:=.seq rest.toArray} he;refine a_ (TY he₁ hd (S9.mp hz).1 ?_);refine VZ ?_;refine d_ (hq _ h.objs.size (λb o hb ho=>?_) ?_)
 .rw[SE _ _ (Tj hb)];exact e_ _ ho
 .exact SS _ he₁ (Tn (SZ hd _))
end
end Xc
namespace Xc
open PySem
open Sem (wp)
open Builtin Builtin.ObjectAttr
open PySem.W (Looks)
section
variable {prog:Xd}{w:Xg}{A:Xe}{E:WT}{h:Xf}{g:Array GenState}{d:Drawn}{t:Nat}{os:OsState}
variable {nm q:Str}{C N x:Xj}{bs bm:W0}{sn:W3}{sub:W0}{ab:Bool}{col:Option Bool}{dd:W2}{k0 k1 k2 k3 k5:W1}{name:Str}{v:Xa}
theorem Ba(Z:Tl bm)
  (hC:h.get? C=some (cM nm q C N bs bm sn sub ab col dd k0 k1 k2 k3 k5)) (hx:h.get? x=some o) (hc:o.cls=.ref C) (hq:Q () ⟨h,g,d,t,os⟩) :
  wpAny M A (checkBuiltinCall "object.__setattr__" ⟨[.ref x,Df,v],[]⟩) Q E ⟨h,g,d,t,os⟩:=by
 have SF:=PySem.F.store_object;have De:(Value.ref C::bm).contains (.type "object")=true:=by rw[Sw,Z.o,TJ]
 have ha:=SF.args (.ref x) Df v;simp only[checkBuiltinCall,SF.kind,SF.split];refine a_ ?_
 .unfold isInstance
  repeat (first | (with_reducible refine Sz hx ?_;rw[hc]) | (with_reducible refine S6 hC ?_;rw[De]) | wp_step)
  exact hq
theorem store_entry
  (hC:h.get? C=some (cM nm q C N bs bm sn sub ab col dd k0 k1 k2 k3 k5)) (Dg:refuseLoop (.ref x) "__setattr__" bm=pure ()) (uo:Looks (model prog w) h (typeLookup (.ref C) name) none)
  (hx:h.get? x=some o) (hc:o.cls=.ref C) (hnc:∀c,o.data≠.cls c) (Qw:o.dict=none)
  (hq:∀h' Kz,(∀b ob,b≠x->h.get? b=some ob->h'.get? b=some ob)->h'.get? x=some {o with dict:=some h.objs.size}->h'.Ns1 h.objs.size (λy=>if y=name then some v else none)->Q (.done (.ret .none)) ⟨h',g,d,Kz,os⟩) :
  wpAny (model prog w) A (Builtin.«object.__setattr__» ⟨[.ref x,.str name tk,v],[]⟩) Q E ⟨h,g,d,t,os⟩:=by
 unfold Builtin.«object.__setattr__»
 repeat (first | rw[refuse_eq] | (rw[refuseLoop_ref,Dg]) | (with_reducible refine Sz hx ?_;rw[hc]) | with_reducible refine wpAny_mroOf_exc hC ?_ | with_reducible refine uo.at ?_ | wp_step)
 rw[Qw,k_ (by simp[typeHasDict])]
 split
 .rename_i dQ;cases dQ
 split
 .rename_i c dQ;exact absurd dQ (hnc c)
 .have Rw:(h.push {cls:=.type "dict",data:=.dict #[]}).get? x=some o:=e_ _ hx;have hxs:x≠h.objs.size:=z_ (q_ hx);refine a_ (wpAny_alloc' ?_);refine a_ (wpAny_update' Rw ?_);refine d_ ?_;have hgd:((h.push {cls:=.type "dict",data:=.dict #[]}).update x λo=>{cls:=o.cls,dict:=some h.objs.size,data:=o.data,slots:=o.slots}).get? h.objs.size
    = some {cls:=.type "dict",data:=.dict #[]}:=
   (Vb _ _ _ _ hxs.symm).trans (Heap.get?_push_at rfl rfl)
  have hnd:((h.push {cls:=.type "dict",data:=.dict #[]}).update x λo=>{cls:=o.cls,dict:=some h.objs.size,data:=o.data,slots:=o.slots}).Ns h.objs.size (λ_=>none):=
   ⟨_,#[],_,hgd,rfl,λe he=>absurd he (by simp),λ_=>rfl⟩
  show wpAny _ _ (storeInDict h.objs.size (.str name tk) name v) _ _ _;unfold storeInDict newKeyGuard;refine a_ (d_ (a_ (wpAny_nsSet1 (Heap.Ns1.of_empty hnd) λh' Kn hs=>?_)));obtain⟨oD,esD,epD,hoD,hdD,hcD⟩:=Kn.count (Within.cons name v Within.nil);refine a_ (wpAny_lookBehind hoD (by rw[hdD];exact pastItsLine_dict (B_ hcD (by rw[A_,TM,SB];lia))) ?_)
  wp_walk
  refine hq h' _ (λb ob hbx hb=>?_) ?_ Kn
  .exact(hs.2 b (z_ (q_ hb))).trans ((Vb _ _ _ _ hbx).trans (e_ _ hb))
  .refine(hs.2 x hxs).trans (SS _ Rw ?_);have hfr:=(Heap.get?_some_iff.mp hx).2;obtain⟨oc,od,odt,qb⟩:=o;cases odt<;>first | rfl | exact hfr
theorem store_attr(Z:Tl bm)
  (hC:h.get? C=some (cM nm q C N bs bm sn sub ab col dd k0 k1 k2 k3 k5)) (Dg:refuseLoop (.ref x) "__setattr__" bm=pure ()) (hset:Looks (model prog w) h (typeLookup (.ref C) "__setattr__") (some (.builtin "object.__setattr__"))) (uo:Looks (model prog w) h (typeLookup (.ref C) name) none)
  (hx:h.get? x=some o) (hc:o.cls=.ref C) (hnc:∀c,o.data≠.cls c) (Qw:o.dict=none)
  (hq:∀h' Kz,(∀b ob,b≠x->h.get? b=some ob->h'.get? b=some ob)->h'.get? x=some {o with dict:=some h.objs.size}->h'.Ns1 h.objs.size (λy=>if y=name then some v else none)->Q () ⟨h',g,d,Kz,os⟩) :
  wpAny (model prog w) A (setAttr (.ref x) name v) Q E ⟨h,g,d,t,os⟩:=by
 have SF:=PySem.F.store_object;have f3:=SF.slot.bind (.ref x);unfold setAttr callSpecial? specialOf
 repeat (any_goals (first | assumption | (with_reducible refine Sz hx ?_;rw[hc]) | with_reducible refine hset.at ?_ | wp_step))
 refine V0 SF.slot.plain SF.entry (Ba Z hC hx hc (store_entry hC Dg uo hx hc hnc Qw λh' Kz k1 k2 k3=>?_))
 repeat (any_goals (first | assumption | wp_step))
 exact hq h' Kz k1 k2 k3
end
end Xc
namespace Xc
open PySem PySem.Spec PyProof.Rows L2
def Raw(e C:Xj):Xf->Prop:=λh=>∃vs t0,h.get? e=some {cls:=.ref C,data:=.fields vs}/\vs.size=6/\vs[0]?=some (.ref t0)/\vs[1]?=some .none
def Full(e C dx:Xj):Xf->Prop:=λh=>∃vs,h.get? e=some {cls:=.ref C,dict:=some dx,data:=.fields vs}/\vs.size=6/\vs[1]?=some .none
theorem oV:∀h1 h2:Xf,Raw e C h1->(∀o,h1.get? e=some o->h2.get? e=some o)->Raw e C h2:=λh1 h2 ⟨vs,t0,a,b⟩ k=>⟨vs,t0,k _ a,b⟩
theorem vU:∀h1 h2:Xf,Full e C dx h1->(∀o,h1.get? e=some o->h2.get? e=some o)->Full e C dx h2:=λh1 h2 ⟨vs,a,b⟩ k=>⟨vs,k _ a,b⟩
structure EC(K:PySem.W.Frag)(C HE fI:Addr):Prop where
 lk:∃nm q N bs sn sub ab col dd k0 k1 k2 k3 k5,K.lookup C=some (cM nm q C N bs (.ref HE::bmV) sn sub ab col dd k0 k1 k2 k3 k5)
 ini:PySem.W.findIn K (.ref C) "__init__"=some (some (.ref fI))
 fn:∃o,K.lookup fI=some o/\o.cls=.type "function"
 sa:PySem.W.findIn K (.ref C) "__setattr__"=some (some (.builtin "object.__setattr__"))
 ce:PySem.W.findIn K (.ref C) "cell"=some none
 kp:PySem.W.keepIn K (.ref C)=true
theorem AM(x:String):(Value.ref HE::bmV).contains (.type x)=bmV.contains (.type x):=by rw[Sw];rfl
theorem vV:Tl (.ref HE::bmV):=⟨(AM _).trans (by decide),(AM _).trans (by decide),(AM _).trans (by decide),(AM _).trans (by decide),(AM _).trans (by decide)⟩
theorem IU(h:H a=some o):upd H a o=H:=by
 funext b;unfold upd;split
 .rename_i e;rw[e,h]
 .rfl
section
variable {X:Cx}{pos apos p:Pos}{e:Xk}{es:W5}{ta:TA}
def J7(K:W_)(ta:TA):TE:=λσ H Q=>ta σ H λvs H1=>∃e wd C HE fI,vs=[.ref e,wd]/\H1 e=some (.ext (Raw e C))/\EC K C HE fI/\Q .non H1
theorem vt:typeOf (.type "ValueError")=pure (.type "type"):=by kernel_rfl
theorem So:Manifest.isStub "ValueError"=false:=by decide +kernel
theorem MO(K:W_):PySem.W.findCls K (.type "ValueError") (.type "type") "__init__"=some (.val (.builtin "ValueError.__init__")):=by
 kernel_rfl
theorem A8(hm:X.mg "ValueError"=none)(ha:PA X (e::es) ta)(hg:Gl X "ValueError":=by rfl)
  (he:starEach (e::es) X.env=(false,eval e X.env)::starEach es X.env:=by rfl) (eR:(backTo pos (starEach es X.env)).any (·.1)=false:=by rfl)
  (ht:eval (.Call (.Attribute (.Name "ValueError" p) "__init__" apos) (e::es) [] pos) X.env=(do
   let ov <- eval (.Name "ValueError" p) X.env
   standAt apos.atName
   let (f,first) <- holding [ov] (getMethod ov "__init__" pl)
   callWith pos f first (backTo pos (starEach (e::es) X.env)) (backToKw pos (keywordEach [] X.env))):=by rfl) :
  PE X (.Call (.Attribute (.Name "ValueError" p) "__init__" apos) (e::es) [] pos) (J7 X.K ta):=by
 intro pins s σ H Q I h;refine PySem.W.methodCall_KW (pl:=pl) (gT I hg hm (u:=.type "ValueError") (by decide +kernel) ?_) ht;obtain⟨m,F⟩:=I.fr;refine PySem.W.method_type F I.ok.mod.kin vt So (MO X.K) (by decide +kernel) ?_;refine VN (aZ (ha pos pins _ σ H _ (I.tok _) h) λus s1 aC=>?_) he eR;obtain⟨vs,H1,I1,r1,ex,wd,C,HE,fI,ev,hx,ec,q1⟩:=aC;subst ev;obtain⟨u0,us',rfl,r0,r1⟩:∃u0 us',us=u0::us'/\RelV (.ref ex) u0/\av [wd] us':=by cases r1 with | cons a b=>exact⟨_,_,rfl,a,b⟩
 obtain rfl:u0=Value.ref ex:=r0;obtain⟨Rx,t0,g1,g2,g3,g4⟩:=(show aU X.prog X.w H1 s1.heap ex (.ext (Raw ex C))from I1.hok ex _ hx).1;obtain⟨nm,q,N,bs,sn,sub,ab,col,dd,k0,k1,k2,k3,k5,lk⟩:=ec.lk;obtain⟨hh,g,d,tk,os⟩:=s1;refine AK (vV (HE:=HE)) (I1.kIn _ _ lk) g1 rfl rfl g3 (by have:=r1.length;simp at this;rw[this,SB];lia) λh' tp hk uk=>?_;refine⟨.non,H1,?_,rfl,q1⟩;have nw:Raw ex C h':=⟨_,tp,uk,by simpa using g2,by simp[g2],by simp[g4]⟩;have:=I1.write (x:=ex) (e:=ex) (o:=.ext (Raw ex C)) (h':=h') (t':=tk) (by rw[hx];exact True.intro) (.inl rfl) (λb u hb z=>hk b u hb z) ⟨_,uk⟩ ⟨nw,⟨_,uk⟩,oV⟩;rwa [IU hx]at this
end
section
variable {X:Cx}{pos pos' apos p:Pos}{e o value:Xk}{es:W5}{ta tv:TE}
def Mv(K:W_)(ta tv:TE):TS:=λD σ H=>tv σ H λy H1=>ta σ H1 λx H2=>∃e C HE fI,x=.ref e/\H2 e=some (.ext (Raw e C))/\EC K C HE fI/\
 ∀dx,H2 dx=none->dx≠e->D.nx σ (upd (upd H2 e (.ext (Full e C dx))) dx (.xd [("cell",y)]))
theorem DZ{H:Hp}{fs:W4}{h h':Xf}{e C dx:Xj}{y:V}(hx:H e=some (.ext (Raw e C)))(hd:h.get? dx=none)(hH:H dx=none)(hk:∀b u,b≠e->h.get? b=some u->h'.get? b=some u)(he:∃u,h'.get? e=some u) :
  Un fs [] H (upd (upd H e (.ext (Full e C dx))) dx (.xd [("cell",y)])) h h' where
 keep:=λb o q n _ _=>hk b o (λz=>by rw[z,hx]at n;cases n) q
 slot:=λb o q n _ _=>⟨o.slots,hk b o (λz=>by rw[z,hx]at n;cases n) q⟩
 free:=λb o q n _=>by
  rw[ar (λz=>by rw[z,hd]at q;cases q),ar (λz=>by rw[z,hx]at n;cases n)];exact n
 there:=λb o q _=>by
  by_cases z:b=e
  .rw[z];exact he
  .exact⟨o,hk b o z q⟩
 tups:=λb xs q=>by rw[ar (λz=>by rw[z,hH]at q;cases q),ar (λz=>by rw[z,hx]at q;cases q)];exact q
 frzs:=λb o u q=>by rw[ar (λz=>by rw[z,hH]at q;cases q),ar (λz=>by rw[z,hx]at q;cases q)];exact q
 tbls:=λb ps q=>by rw[ar (λz=>by rw[z,hH]at q;cases q),ar (λz=>by rw[z,hx]at q;cases q)];exact q
theorem FR(ha:PE X o ta)(hv:PE X value tv)(hs:swapsWith value (some (.Attribute o "cell" pos')) pos.line X.env=pure false):PS X (.Assign [.Attribute o "cell" pos'] value pos) (Mv X.K ta tv):=by
 intro pins s σ H D I h;refine plainObj_wpAny_Assign_Attribute (aZ (hv pins s σ H _ I h) λu s1 ⟨y,H1,I1,ry,q⟩=>aZ (ha pins s1 σ H1 _ I1 q) λov s2 aC=>?_) hs;obtain⟨x,H2,I2,rx,ex,C,HE,fI,ee,hx,ec,q2⟩:=aC;subst ee;obtain rfl:ov=Value.ref ex:=rx;obtain⟨Rx,t0,g1,g2,g3,g4⟩:=(show aU X.prog X.w H2 s2.heap ex (.ext (Raw ex C))from I2.hok ex _ hx).1;obtain⟨nm,q',N,bs,sn,sub,ab,col,dd,k0,k1,k2,k3,k5,lk⟩:=ec.lk;have kin:=I2.kIn;obtain⟨hh,g,d,tk,os⟩:=s2;have uu:H2 hh.objs.size=none:=I2.hok.fresh (h_ _);have hne:hh.objs.size≠ex:=λz=>by have:=q_ g1;rw[<- z]at this;exact absurd this (Uc _)
 refine store_attr (vV (HE:=HE)) (kin _ _ lk) (by rw[refuseLoop_ref];exact PySem.F.store_ValueError.passes _) (TZ kin ec.sa) (TZ kin ec.ce) g1 rfl (λc z=>by cases z) rfl λh' Kz hk he hn=>?_;refine⟨σ,_,I2.un (h':=h') (t':=Kz) (DZ (C:=C) (y:=y) hx (S4 (h_ _)) uu hk ⟨_,he⟩) ?_,q2 _ uu hne⟩;intro a oa GA
 by_cases z1:a=hh.objs.size
 .subst z1;rw[ai]at GA;cases GA;refine⟨_,hn,λf=>?_⟩
  by_cases zf:f="cell"
  .subst zf;rw[j_ rfl];exact ry
  .rw[k_ zf];have:List.lookup f [("cell",y)]=none:=by
    rw[Tc];have:(f=="cell")=false:=by simpa using zf
    rw[this];rfl
   rw[this];exact True.intro
 .rw[ar z1]at GA
  by_cases z2:a=ex
  .subst z2;rw[ai]at GA;cases GA;exact⟨⟨Rx,he,g2,g4⟩,⟨_,he⟩,vU⟩
  .rw[ar z2]at GA;refine(I2.hok a oa GA).stay (λb u hb hu=>hk b u (λz=>?_) hu) (λb hb=>?_) (λb xs hb=>?_) λb xs hb=>?_
   .rcases hb with hb | hb
    .exact z2 (hb▸z)
    .rw[z,hx]at hb;cases hb
   .rw[ar (λz=>by rw[z,uu]at hb;cases hb),ar (λz=>by rw[z,hx]at hb;cases hb)];exact hb
   .rw[ar (λz=>by rw[z,uu]at hb;cases hb),ar (λz=>by rw[z,hx]at hb;cases hb)];exact hb
   .rw[ar (λz=>by rw[z,uu]at hb;cases hb),ar (λz=>by rw[z,hx]at hb;cases hb)];exact hb
theorem forget{pins:WU}{σ:L2.St}{H:Hp}{s:Xb}{e:Xj}{φ:Xf->Prop}(I:Inv X pins σ H s)(hx:H e=some (.ext φ))(hn:X.s₀.heap.get? e=none):Inv X pins σ (λb=>if b=e then none else H b) s:=by
 have ne:∀{b:Xj}{o:HO},H b=some o->o≠.ext φ->b≠e:=λ{b o} h1 h2 z=>by rw[z,hx]at h1;exact h2 (Option.some.inj h1).symm
 have kp:∀{b:Xj},b≠e->(λb=>if b=e then none else H b) b=H b:=λ{b} z=>k_ z;have nn:∀{b:Xj},H b=none->(λb=>if b=e then none else H b) b=none:=λ{b} z=>by
  show(if b=e then none else H b)=none
  split
  .rfl
  .exact z
 refine⟨I.ok,I.os,I.bare,⟨I.base.keep,I.base.slot,λb o q n hxx=>nn (I.base.free b o q n hxx),I.base.there,λb xs q=>?_,λb o u q=>?_,λb ps q=>?_⟩,I.loc,I.cell,nn I.free,λx c hc=>nn (I.freeC x c hc),λp hp=>?_,λa oa ha=>?_,I.len⟩
 .have:=I.base.tups b xs q;exact(kp (ne this (by intro z;cases z))).trans this
 .have:=I.base.frzs b o u q;exact(kp (ne this (by intro z;cases z))).trans this
 .have h2:=I.base.tbls b ps q;exact(kp (ne h2 (by intro z;cases z))).trans h2
 .obtain⟨a1,a2,a3⟩:=I.pin p hp;exact⟨a1,nn a2,a3⟩
 .have hae:a≠e:=λz=>by
   have:(if a=e then none else H a)=some oa:=ha;rw[j_ z]at this;cases this
  have ha':H a=some oa:=(kp hae).symm.trans ha;exact(I.hok a oa ha').stay (λb u _ hu=>hu) (λb hb=>(kp (ne hb (by intro z;cases z))).trans hb) (λb xs hb=>(kp (ne hb (by intro z;cases z))).trans hb) λb xs hb=>(kp (ne hb (by intro z;cases z))).trans hb
end
end Xc
namespace Xc
open PySem PySem.Spec
section
variable {M:Model}{A:Xe}{E:WT}{env:Env}
variable {nm q:Str}{C N:Xj}{bs bm:W0}{sn:W3}{sub:W0}{ab:Bool}{col:Option Bool}{dd:W2}{k0 k1 k2 k3 k5:W1}
theorem uL(Z:Tl bm)(hh:A.handled=none)
  (h:wpAny M A x (λv s₁=>∃e dx vs,v=.ref e/\s₁.heap.get? C=some (cM nm q C N bs bm sn sub ab col dd k0 k1 k2 k3 k5)/\
   s₁.heap.get? e=some {cls:=.ref C,dict:=dx,data:=.fields vs}/\vs[1]?=some .none/\E (.ref e) s₁) E s) :
  wpAny M A (raiseStmt env (some x) none) Q E s:=by
 have De:(Value.ref C::bm).contains (.type "BaseException")=true:=by rw[Sw,Z.b,TJ]
 unfold raiseStmt;refine a_ (SI h (λv s₁ h₁=>?_) λ_ _ x=>x);obtain⟨e,dx,vs,rfl,hC,he,hv,hE⟩:=h₁;obtain⟨hp,g,d,tk,os⟩:=s₁
 repeat (first | with_reducible refine Sz he ?_ | with_reducible refine Sz hC ?_ | (with_reducible refine S6 hC ?_;rw[De]) | (with_reducible refine S_ he rfl hv ?_) | wp_step)
 exact wpAny_raiseNew_none hh hE
end
end Xc
namespace Xc
open PySem PySem.Spec PyProof.Rows L2
def Mo(K:W_)(HE fI:Xj):Sp:=λvs H Q _=>∃e C wd cv,vs=[.ref e,wd,cv]/\EC K C HE fI/\H e=some (.ext (Raw e C))/\∀dx,H dx=none->dx≠e->Q .non (upd (upd H e (.ext (Full e C dx))) dx (.xd [("cell",cv)]))
def PF:Xl->W6
 | .ClassDef _ _ _ b _ _ _ _ _ _ _=>b
 | _=>[]
section
variable {X:Cx}{k:Nat}{pos be p:Pos}{c:Str}{a:Xk}{es:W5}{ta:TA}{dvs:Xs}{ds:W0}{fd:Xh}{HE C fI:Xj}
def wQ(X:Cx)(σ:L2.St)(C:Xj)(R:Xj->Hp->Prop):Prop:=∀(pins:WU)(H:Hp)(s:Xb)(e dx:Xj),Inv X pins σ H s->X.s₀.sz<=e->H e=none->Rec X.s₀.heap s.heap H e C dx->R dx H->X.xe (.ref e) s
def Jj(X:Cx)(C:Xj)(dvs:Xs)(ta:TA):TS:=λ_ σ H=>ta σ H λvs H1=>∃wd cv,vs++dvs=[wd,cv]/\wQ X σ C λdx H2=>H1 dx=none/\H2=upd H1 dx (.xd [("cell",cv)])
theorem Me(I:Inv X pins σ H s)(h:s.sz<=e):X.s₀.heap.get? e=none:=S4 (B_ I.sz h)
theorem BQ(ec:EC X.K C HE fI)(F:dj X.prog X.w X.K X.mg X.base jR k fI fd ["self","words","cell"] (Mo X.K HE fI))(hr:a9 (k+1) X.A)(hg:Gl X c)(hm:X.mg c=some (.ref C))(hb:Binds X.K fd ["self","words","cell"] ds)(hd:av dvs ds)
  (ha:PA X (a::es) ta) (kG:(c==("__debug__":Str))=false:=by decide) (he:starEach (a::es) X.env=(false,eval a X.env)::starEach es X.env:=by rfl) (eR:(backTo be (starEach es X.env)).any (·.1)=false:=by rfl) :
  PS X (.Raise (some (.Call (.Name c p) (a::es) [] be)) none pos) (Jj X C dvs ta):=by
 intro pins s σ H D I h;obtain⟨nm,q,N,bs,sn,sub,ab,col,dd,k0,k1,k2,k3,k5,lk⟩:=ec.lk;obtain⟨oI,lkI,fc⟩:=ec.fn;rw[arm_exec_Raise];refine a_ (Tq (uL (C:=C) (nm:=nm) (q:=q) (N:=N) (bs:=bs) (bm:=.ref HE::bmV) (sn:=sn) (sub:=sub) (ab:=ab) (col:=col) (dd:=dd) (k0:=k0) (k1:=k1) (k2:=k2) (k3:=k3) (k5:=k5) vV hr.hd ?_));refine a_ (SI ?_ (λv s₁ hv=>a_ (Tq (d_ hv))) λ_ _ x=>x);refine TQ (gY I hg hm ?_ kG);refine UO I.ok.mod.kin ec.kp (aZ (ha be pins s σ H _ I h) λus s1 ⟨vs,H1,I1,r,wd,cv,ev,W⟩=>⟨I1.kIn,?_⟩) he eR;have kin:=I1.kIn;have e0:=I1.env0;have OA:vs.length<=2:=by have:=Tp List.length ev;simp at this;lia
 have hus:us.length<=sizeLine:=by rw[<- r.length,SB];lia
 obtain⟨hh,g,d,tk,os⟩:=s1;refine CN (vV) (kin _ _ lk) (TZ kin ec.ini) (kin _ _ lkI) fc (λh' e hm' hz=>?_) hus;obtain⟨t0,Ry,_,_⟩:=hm'.there;have Rz:H1 e=none:=I1.hok.fresh hz;have hne:=Me I1 hz;have I2:Inv X pins σ (upd H1 e (.ext (Raw e C))) ⟨h',g,d,tk,os⟩:=I1.laid hm'.keeps hz ⟨⟨_,t0,Ry,rfl,rfl,rfl⟩,⟨_,Ry⟩,oV⟩;have r2:av (V.ref e::(vs++dvs)) (Value.ref e::(us++ds)):=.cons rfl (r.append hd);have lT:Mo X.K HE fI (.ref e::(vs++dvs)) (upd H1 e (.ext (Raw e C))) (λv H2=>v=.non/\∃dx,H1 dx=none/\dx≠e/\H2=upd (upd (upd H1 e (.ext (Raw e C))) e (.ext (Full e C dx))) dx (.xd [("cell",cv)])) E0:=by
  refine⟨e,C,wd,cv,by rw[ev],ec,ai,λdx h1 h2=>⟨rfl,dx,?_,h2,rfl⟩⟩;rwa [ar h2]at h1
 have hl:(Value.ref e::us++ds).length=["self","words","cell"].length:=by
  have e1:=r2.length;rw[F.len _ _ _ _ lT]at e1;exact e1.symm
 refine VM (U9 (F.run _ X.stack _ _ ⟨Value.ref e::us,[]⟩ (Value.ref e::(us++ds)) _ _ E0 (hr.make C us []) (I2.env0.make C us []) (hb _ (Value.ref e::us) I2.kIn hl) r2 lT) λr s' uz=>?_);cases r with
 | error x=>exact False.elim uz
 | ok fl=>
  cases fl with
  | ret u=>
   refine cO λ_ kq=>?_;obtain⟨v,H',I3,rv,ev',dx,d1,d2,rfl⟩:=I2.after uz;subst ev';have hF:Full e C dx s'.heap:=(show aU X.prog X.w _ s'.heap e (.ext (Full e C dx))from I3.hok e _ (by rw[ar d2.symm,ai])).1;obtain⟨Qx,f1,f2,f3⟩:=hF;have I4:=forget I3 (φ:=Full e C dx) (by rw[ar d2.symm,ai]) hne;have hH:(λb=>if b=e then none else upd (upd (upd H1 e (.ext (Raw e C))) e (.ext (Full e C dx))) dx (.xd [("cell",cv)]) b)=upd H1 dx (.xd [("cell",cv)]):=by
    funext b
    by_cases z:b=e
    .subst z;rw[j_ rfl,ar d2.symm,Rz]
    .rw[k_ z]
     by_cases z2:b=dx
     .subst z2;rw[ai,ai]
     .rw[ar z2,ar z2,ar z,ar z]
   rw[hH]at I4;refine kq (⟨rv,e,some dx,Qx,rfl,I3.kIn _ _ lk,f1,f3,W pins _ s' e dx I4 (B_ I1.sz hz) (by rw[ar d2.symm,Rz]) ⟨_,Qx,f1,rfl,rfl,rfl,by lia,.inl f3⟩ ⟨d1,rfl⟩⟩)
  | next=>exact False.elim uz
  | brk=>exact False.elim uz
  | cont=>exact False.elim uz
end
def G8(P:Xd)(w:Xg):CXT:=λouter H s E ev s'=>∃e C dx,ev=.ref e/\s.sz<=e/\CE outer P w H s (λ_ H'=>H' e=none/\Rec s.heap s'.heap H' e C dx/\E (.ref C) (some dx) H') .none s'
theorem Rec.mono(r:Rec s0 h H e C dx)(k:s1.objs.size<=s0.objs.size):Rec s1 h H e C dx:=by
 obtain⟨oe,vs,a,b,c,d,e',f⟩:=r;refine⟨oe,vs,a,b,c,d,e',f.imp id ?_⟩;rintro⟨T,oT,ts,t1,t2,t3,t4⟩;exact⟨T,oT,ts,t1,t2,B_ k t3,t4⟩
section
variable {X:Cx}{pins:WU}{σ:L2.St}{H:Hp}{s:Xb}
theorem xK(F:dj X.prog X.w X.K X.mg X.base (G8 X.prog X.w) k f fd ps sp)(hr:a9 k X.A)(hb:Binds X.K fd ps ds)(hd:av dvs ds)
  (I:Inv X pins σ H s) (r:av vs us) (h:sp (vs++dvs) H Q E) (hx:∀C,wQ X σ C λdx H'=>E (.ref C) (some dx) H'):wpAny (model X.prog X.w) X.A (call (.ref f) us) (EP X pins σ Q) X.xe s:=by
 have r2:av (vs++dvs) (us++ds):=r.append hd;have hl:(us++ds).length=ps.length:=by rw[<- r2.length];exact F.len _ _ _ _ h
 refine VM (U9 (F.run X.A X.stack s H ⟨us,[]⟩ (us++ds) (vs++dvs) Q E hr I.env0 (hb s us I.kIn hl) r2 h) λr s' hq=>?_);cases r with
 | error e=>
  obtain⟨e,C,dx,rfl,hn,hc⟩:=(show G8 X.prog X.w X.stack H s E _ s' from hq);obtain⟨v,H',I',_,h1,h2,h3⟩:=I.after hc;exact hx C pins H' s' e dx I' (B_ I.sz hn) h1 (h2.mono I.sz) h3
 | ok fl=>
  cases fl with
  | ret u=>exact I.after hq
  | next=>exact False.elim hq
  | brk=>exact False.elim hq
  | cont=>exact False.elim hq
end
theorem BP(u:Un fs [] H0 H h0 h)(uk:h0.objs.size<=e)(hL':h0.objs.size<=L)(hT':∀T,T'=some T->h0.objs.size<=T)
  (k1:∀b o,b∉L::fs->b≠e->T'≠some b->h.get? b=some o->h'.get? b=some o) (k2:∀b o,b∈L::fs->h.get? b=some o->∃sl,h'.get? b=some {o with slots:=sl}):Un fs [] H0 H h0 h':=by
 have he:=S4 uk;have hL:=S4 hL';have hT:∀T,T'=some T->h0.get? T=none:=λT z=>S4 (hT' T z);have ne:∀{b:Xj}{o:Obj},h0.get? b=some o->b≠L/\b≠e/\T'≠some b:=λ{b o} q=>⟨λz=>(by rw[z,hL]at q;cases q),λz=>(by rw[z,he]at q;cases q),λz=>(by rw[hT b z]at q;cases q)⟩;refine⟨λb o q n hf hx=>?_,λb o q n hf hx=>?_,u.free,λb o q hx=>?_,u.tups,u.frzs,u.tbls⟩
 .obtain⟨a1,a2,a3⟩:=ne q;exact k1 b o (λz=>by rcases t_.mp z with z | z;(· exact a1 z);exact hf z) a2 a3 (u.keep b o q n hf hx)
 .obtain⟨sl,e1⟩:=u.slot b o q n hf hx;obtain⟨Nx,e2⟩:=k2 b _ (l_ _ hf) e1;exact⟨Nx,e2⟩
 .obtain⟨o',e1⟩:=u.there b o q hx;obtain⟨a1,a2,a3⟩:=ne q
  by_cases z:b∈L::fs
  .obtain⟨sl,e2⟩:=k2 b o' z e1;exact⟨_,e2⟩
  .exact⟨o',k1 b o' z a2 a3 e1⟩
theorem km(hok:k6 P w H h)(k:∀b o,(∃u,H b=some u)->h.get? b=some o->h'.get? b=some o):k6 P w H h':=λa oa ha=>
 (hok a oa ha).stay (λb u hb hu=>k b u (by rcases hb with hb | hb;(· exact⟨_,hb▸ha⟩);exact⟨_,hb⟩) hu) (λ_ z=>z) (λ_ _ z=>z) λ_ _ z=>z
theorem tK{P:Xd}{w:Xg}{K:W_}{mg:WW}{base:Xf}{N:W3}{qual:Str}{scope:Xi}{f:Xj}{cd:Xa}{A:Xe}{outer:List Env}{s:Xb}{H:Hp}{E:XK}(σ:L2.St)(C:Xj) :
  wQ (eO (G8 P w) P w K mg base N qual scope f cd A outer s H E) σ C λdx H'=>E (.ref C) (some dx) H':=by
 intro pins H1 s1 e dx I hn h1 hr hE;have hstk:s1.heap.FunFrames base (envOfC qual scope s.sz f cd::outer):=I.stack;have hfr:(A.deeper (envOfC qual scope s.sz f cd)).frames=some (envOfC qual scope s.sz f cd::outer):=I.ok.frames;show wpAny (model P w) (A.deeper (envOfC qual scope s.sz f cd)) (leaving (envOfC qual scope s.sz f cd) (.ref e)) _ _ s1;refine Bw (s0h:=s.heap) (H:=H1) hfr hstk (L:=s.sz) rfl hr I.sz (λb hb=>I.hok.fresh hb) λh' T' hT k1 k2 rK=>?_;have hstf:∀b∈k7 (envOfC qual scope s.sz f cd::outer),H1 b=none:=I.stkFree;refine⟨e,C,dx,rfl,hn,.non,H1,I.os,I.bare,BP (L:=s.sz) (T':=T') (e:=e) I.base hn (h_ _) (λT z=>(hT T z).1) k1 k2,km I.hok λb o ⟨u,hu⟩ hb=>k1 b o (λz=>by rw[hstf b z]at hu;cases hu) (λz=>by rw[z,h1]at hu;cases hu) (λz=>by rw[(hT b z).2]at hu;cases hu) hb,rfl,h1,rK,hE⟩
end Xc
namespace Xc
open PySem
open Sem (wp)
open PySem.W (Looks Frag InstAt)
section
variable {prog:Xd}{w:Xg}{A:Xe}{E:WT}{h:Xf}{g:Array GenState}{d:Drawn}{t:Nat}{os:OsState}{a:Xj}{o:Obj}
 {nm q:Str} {C N:Xj} {bs bm:W0} {sn:W3} {sub:W0} {ab:Bool} {col:Option Bool} {dd:W2} {k0 k1 k2 k3 k5:W1} {K:Frag} {od:Obj}
structure EA(K:Frag)(C:Addr):Prop where
 ga:PySem.W.findIn K (.ref C) "__getattribute__"=some (some (.builtin "BaseException.__getattribute__"))
 gt:PySem.W.findIn K (.ref C) "__getattr__"=some none
 cl:PySem.W.findIn K (.ref C) "__class__"=some (some (.builtin "object.__class__"))
 mo:PySem.W.mroIn K C (.type "object")=some true
theorem AZ(Z:Tl bm)(hC:h.get? C=some (cM nm q C N bs bm sn sub ab col dd k0 k1 k2 k3 k5))
  (hx:h.get? a=some o) (hc:o.cls=.ref C) (hq:Q () ⟨h,g,d,t,os⟩):wpAny M A (checkBuiltinCall "BaseException.__getattribute__" ⟨[.ref a,Df],[]⟩) Q E ⟨h,g,d,t,os⟩:=by
 have hk:builtinKind "BaseException.__getattribute__"=some .slot:=by decide +kernel
 have hsplit:splitId "BaseException.__getattribute__"=some ("BaseException","__getattribute__"):=by decide +kernel
 have De:(Value.ref C::bm).contains (.type "BaseException")=true:=by rw[Sw,Z.b,TJ]
 have ha:=F.args_bexc_ga (.ref a) Df;simp only[checkBuiltinCall,hk,hsplit];refine a_ ?_
 .unfold isInstance
  repeat (first | (with_reducible refine Sz hx ?_;rw[hc]) | (with_reducible refine S6 hC ?_;rw[De]) | wp_step)
  exact hq
theorem sP(X:K.In h)(ea:EA K C)(I:InstAt h a o C (some od))(hq:Q (.done (.ret (.ref C))) ⟨h,g,d,t,os⟩) :
  wpAny (model prog w) A (Builtin.«object.__getattribute__» ⟨[.ref a,.str "__class__" tk],[]⟩) Q E ⟨h,g,d,t,os⟩:=by
 have hT5:(⟨h,g,d,t,os⟩:Xb).TypeIs (.builtin "object.__class__") "getset_descriptor":=F.typeOf_object_class;have f5:=F.typeOf_object_class;have f6:=F.slot_gs_get.lookup;have f7:=F.slot_gs_set.lookup;have hx:=I.at_;have hc:=I.cls;have L:=TZ (M:=model prog w) X ea.cl
 repeat (any_goals (first | assumption | (with_reducible refine Sz hx ?_;rw[hc]) | with_reducible refine L.at ?_ | wp_step))
 exact PySem.W.class_get (s:=⟨h,g,d,t,os⟩) X I ea.mo (d_ hq)
theorem uZ(Z:Tl bm)(hC:h.get? C=some (cM nm q C N bs bm sn sub ab col dd k0 k1 k2 k3 k5))(X:K.In h)(ea:EA K C)(I:InstAt h a o C (some od))(hq:Q (some (.ref C)) ⟨h,g,d,t+1,os⟩) :
  wpAny (model prog w) A (getAttr? (.ref a) "__class__") Q E ⟨h,g,d,t,os⟩:=by
 have FB:=PySem.F.excAttr_ValueError;have f3:=FB.ga.bind (.ref a);have hx:=I.at_;have hc:=I.cls;have hx2:(Value.builtin "BaseException.__getattribute__"==Value.builtin "object.__getattribute__")=false:=by decide +kernel
 have hx1:(onTheHeap (Value.ref C)&&Value.builtin "BaseException.__getattribute__"==Value.builtin "object.__getattribute__")=false:=by rw[hx2];rfl
 have L1:=TZ (M:=model prog w) X ea.ga;have L2:=TZ (M:=model prog w) X ea.gt;unfold getAttr? getAttrBy?
 repeat (any_goals (first | assumption | (with_reducible refine Sz hx ?_;rw[hc]) | with_reducible refine L1.at ?_ | with_reducible refine L2.at ?_ | with_reducible refine UZ ?_ | wp_step))
 refine V0 FB.ga.plain F.entry_bexc_ga (AZ Z hC hx hc (sP X ea I ?_))
 repeat (any_goals (first | assumption | wp_step))
end
end Xc
namespace Xc
open PySem PySem.Spec PyProof.Rows L2
open PySem.W (Looks Frag KitX)
section
variable {K:Frag}{x C:Xj}
theorem Bl(Z:Tl bm)(lk:K.lookup C=some (cM nm q C N bs bm sn sub ab col dd k0 k1 k2 k3 k5))(ea:EA K C) :
  KitX K (.ref x) (.ref C) (λh=>∃ox od,PySem.W.InstAt h x ox C (some od)) where
 ty:=λ_ _ _ ⟨_,_,I⟩=>I.type
 it:=λ_ _ X _=>by
  intro A' Q' E' s' k q;unfold isType loadHead;exact a_ (wpAny_loadPart (k _ _ (X _ _ lk)) (d_ q))
 ne:=λh tp dd aQ n sl X htp=>by
  refine VC.mpr λq=>?_;have e:C=tp:=Value.ref.inj (VP.mp q);subst e;have z:=Tp (λo:Option Obj=>o.map (·.data)) ((X _ _ lk).symm.trans htp);cases z
 ca:=λ{prog w A E Q s} X ⟨ox,od,I⟩ k=>by
  obtain⟨hh,g,d,t,os⟩:=s;exact uZ Z (X _ _ lk) X ea I k
end
def yr(e C dx:Xj):Xf->Prop:=λh=>∃oe,h.get? e=some oe/\oe.cls=.ref C/\oe.dict=some dx/\PySem.W.notCls oe=true
theorem vH:∀h1 h2:Xf,yr e C dx h1->(∀o,h1.get? e=some o->h2.get? e=some o)->yr e C dx h2:=λh1 h2 ⟨oe,a,b⟩ k=>⟨oe,k _ a,b⟩
def Cf(H:Hp)(v:V)(C:Xj):Prop:=∃e dx fs,v=.ref e/\H e=some (.ext (yr e C dx))/\H dx=some (.xd fs)
section
variable {X:Cx}{pos p p2 p3:Pos}{l:Xk}{ta:TE}{D:Xj}
theorem uf:dD X (.builtin "isinstance") (λxs H Q=>∃x cv u C b,xs=[x,cv]/\RelV cv u/\(∀u',RelV cv u'->u'=u)/\Cf H x C/\(∃nm q N bs bm sn sub ab col dd k0 k1 k2 k3 k5,Tl bm/\X.K.lookup C=some (cM nm q C N bs bm sn sub ab col dd k0 k1 k2 k3 k5))/\EA X.K C/\PySem.W.kitOne X.K (.ref C) u=some b/\Q (.bl b) H):=by
 intro pins s σ H xs us Q I r h;obtain⟨x,cv,u,C,b,rfl,_,hu,⟨e,dx,fs,rfl,h1,h2⟩,⟨nm,q,N,bs,bm,sn,sub,ab,col,dd,k0,k1,k2,k3,k5,Z,lk⟩,ea,hk,hq⟩:=h;obtain⟨u1,u2,rfl,rx,rt⟩:=r.two;cases hu _ rt;cases(show u1=Value.ref e from rx);obtain⟨oe,a1,a2,a3,a4⟩:=(show aU X.prog X.w H s.heap e (.ext (yr e C dx))from I.hok e _ h1).1;obtain⟨mA,⟨oD,es,ep,o1,o2⟩,_⟩:=(show aU X.prog X.w H s.heap dx (.xd fs)from I.hok dx _ h2);refine PySem.W.kia_one (Bl Z lk ea) I.kIn ⟨oe,oD,a1,a2,a4,by rw[a3];exact o1⟩ hk (λz=>nomatch z) λtk=>⟨.bl b,H,I.tok tk,rfl,hq⟩
def Li(K:W_)(C:Xj):Prop:=(∃nm q N bs bm sn sub ab col dd k0 k1 k2 k3 k5,Tl bm/\K.lookup C=some (cM nm q C N bs bm sn sub ab col dd k0 k1 k2 k3 k5))/\EA K C
def ku(K:W_)(i:Nat)(u:Xa):TE:=λσ H Q=>∃x C b,σ[i]?=some (some x)/\Cf H x C/\Li K C/\PySem.W.kitOne K (.ref C) u=some b/\Q (.bl b) H
theorem eM(hz:X.mg "isinstance"=none)(hm:X.mg c=some (.ref D))(hN:X.N[i]?=some x:=by rfl)(hv:wH X.env.scope x:=by first | exact Or.inl rfl | exact Or.inr (Or.inl rfl))(hg:Gl X "isinstance":=by rfl)(Qy:Gl X c:=by rfl)(kG:(c==("__debug__":Str))=false:=by decide)(KA:(x==("__debug__":Str))=false:=by decide)(hd2:(x==("__classdict__":Str))=false:=by decide)
  (he:starEach [.Name x p3,.Name c p2] X.env=(false,eval (.Name x p3) X.env)::starEach [.Name c p2] X.env:=by rfl):PE X (.Call (.Name "isinstance" p) [.Name x p3,.Name c p2] [] pos) (ku X.K i (.ref D)):=λpins s σ H Q I ⟨v,C,b,h1,h2,⟨h3,h4⟩,h5,h6⟩=>
 gF uf hg hz V7 (aJ (bI hN hv KA hd2) (aJ (xQ Qy hm (v:=.ref D) rfl kG) bM rfl) he) (by decide) (by decide) he rfl pins s σ H Q I ⟨v,h1,v,.ref D,.ref D,C,b,rfl,rfl,λ_ z=>z,h2,h3,h4,h5,h6⟩
theorem Hz(hz:X.mg "isinstance"=none)(hm:X.mg "ValueError"=none)(hN:X.N[i]?=some x:=by rfl)(hv:wH X.env.scope x:=by first | exact Or.inl rfl | exact Or.inr (Or.inl rfl))(hg:Gl X "isinstance":=by rfl)(Qy:Gl X "ValueError":=by rfl)(KA:(x==("__debug__":Str))=false:=by decide)(hd2:(x==("__classdict__":Str))=false:=by decide)
  (he:starEach [.Name x p3,.Name "ValueError" p2] X.env=(false,eval (.Name x p3) X.env)::starEach [.Name "ValueError" p2] X.env:=by rfl):PE X (.Call (.Name "isinstance" p) [.Name x p3,.Name "ValueError" p2] [] pos) (ku X.K i (.type "ValueError")):=λpins s σ H Q I ⟨v,C,b,h1,h2,⟨h3,h4⟩,h5,h6⟩=>
 gF uf hg hz V7 (aJ (bI hN hv KA hd2) (aJ (λpins s σ H Q I h=>gT I Qy hm (by decide +kernel) ⟨.ty "ValueError",H,I,rfl,h⟩:PE X (.Name "ValueError" p2) (tC (.ty "ValueError"))) bM rfl) he) (by decide) (by decide) he rfl pins s σ H Q I ⟨v,h1,v,.ty "ValueError",.type "ValueError",C,b,rfl,rfl,λ_ z=>z,h2,h3,h4,h5,h6⟩
end
end Xc
namespace Xc
open PySem PySem.Spec PyProof.Rows L2
theorem OY(I:Inv X pins σ H s)(A':Xe)(E':WT)(hf:A'.frames=X.A.frames):Inv {X with A:=A',calm:=false,xe:=E'} pins σ H s:=
 ⟨⟨I.ok.mod,I.ok.kind,I.ok.glob,I.ok.blt,I.ok.above,I.ok.inj,I.ok.has,I.ok.cab,λz=>(by cases z),hf.trans I.ok.frames,I.ok.stk,I.ok.exf,I.ok.bs,I.ok.bsz,I.ok.noex,I.ok.exfs,I.ok.funs,I.ok.frf,I.ok.tb⟩,I.os,I.bare,I.base,I.loc,I.cell,I.free,I.freeC,I.pin,I.hok,I.len⟩
theorem On(ok:X.Ok)(I:Inv {X with A:=A',calm:=false,xe:=E'} pins σ H s):Inv X pins σ H s:=
 ⟨ok,I.os,I.bare,I.base,I.loc,I.cell,I.free,I.freeC,I.pin,I.hok,I.len⟩
structure Dh(k:Nat)(A:Around):Prop where
 dp:A.depth+3*k+5<recursionLimit
 un:A.units+16*k+200<cLine
abbrev PU(P:Xd)(w:Xg)(K:W_)(mg:WW)(base:Xf)(N:W3)(qual:Str)(scope:Xi)(f:Xj)(cd:Xa)(A:Xe)(outer:List Env)(s:Xb)(H:Hp):Cx:=
 {eO jR P w K mg base N qual scope f cd {A with handled:=none} outer s H E0 with A:=A.deeper (envOfC qual scope s.sz f cd),calm:=false,xe:=λe s'=>wpAny (model P w) (A.deeper (envOfC qual scope s.sz f cd)) (leaving (envOfC qual scope s.sz f cd) e) (λ_ ND=>False) (λe' ND=>False) s'}
structure N1(P:Program)(w:World)(K:PySem.W.Frag)(mg:Str->Option Value)(base:Heap)(k:Nat)(f:Addr)(fd:FuncData)(ps:List Str)(sp:Sp):Prop where
 len:∀vs H Q E,sp vs H Q E->vs.length=ps.length
 run:∀(A:Around)(outer:List Env)(s:Shared)(H:Hp)(args:Args)(us:List Value)(vs:List V)(Q:VK),Dh k A->uq P w K mg base A outer s H->BindsTo s fd args (ps.zip us)->av vs us->sp vs H Q E0->
  codeAny (model P w) A (.call (.ref f) args) (CR jR outer P w H s Q E0) s
theorem HN{P:Xd}{w:Xg}{K:W_}{mg:WW}{base:Xf}{k:Nat}{f:Xj}{name qual:Str}{params:Arguments}{body:W6}{scope:Xi}{dV kV doc pm bq ct oc:Xa}{an od:W2}
  {qb:WV} {N ps:W3} {sp:Sp} (lk:K.lookup f=some ⟨oc,od,.func (PySem.W.fnOf name qual params body scope dV kV doc pm an bq ct),qb⟩) (dQ:PySem.W.codeIn K bq qual=true) (S:bC N ps scope)
  (len:∀vs H Q E,sp vs H Q E->vs.length=ps.length)
  (hbody:∀(A:Xe)(outer:List Env)(s:Xb)(H:Hp)(vs:Xs)(Q:VK),sp vs H Q E0->
   ∃t,PSs (PU P w K mg base N qual scope f bq A outer s H) body t/\t {nx:=λ_ H'=>Q .non H',rt:=Q} (start N vs) H) :
  N1 P w K mg base (k+1) f (PySem.W.fnOf name qual params body scope dV kV doc pm an bq ct) ps sp:=by
 refine⟨len,λA outer s H args us vs Q hr e0 hb r lT=>?_⟩;have hl:=len _ _ _ _ lT;have KX:K.In s.heap:=e0.mod.kin.keeps λb o e=>(e0.bs b o e).1;have lim:s.heap.NoLimit:=e0.mod.nolimit.keeps λb o e=>(e0.bs b o e).1;have bo:∀y∈ps.zip us,scope.names.lookup y.1=some .local\/(scope.names.lookup y.1=some .cell/\((cellsFrom (s.sz+1) scope.names []).lookup y.1).isSome=true):=λ⟨n,v⟩ hy=>by
  rcases S.par n (UU hy).1 with q | q
  .exact .inl q
  .exact .inr ⟨q,UP _ _ _ (.inl q)⟩
 refine VI (by have:=hr.dp;lia) (KX _ _ lk) rfl S.co S.gen rfl (Wk KX dQ) (hb _ _ _ _ ?_);refine U5 S.kind bo λenv he s1 x=>?_;subst he;refine⟨lim.keeps x.toInCall.keep,codeAny_func ?_⟩;obtain⟨t,ht,hq⟩:=hbody A outer s H vs Q lT;have e1:uq P w K mg base {A with handled:=none} outer s H:=⟨e0.frames,e0.mod,e0.bs,e0.bsz,e0.funs,e0.frf,e0.hok,e0.bare,e0.tb⟩;have I0:Inv (eO jR P w K mg base N qual scope f bq {A with handled:=none} outer s H E0) [] (start N vs) H s1:=kj S rfl e1 hl r x;have I:Inv (PU P w K mg base N qual scope f bq A outer s H) [] (start N vs) H s1:=OY I0 _ _ rfl;refine SI (ht [] s1 (start N vs) H _ I hq) (λfl s' hs=>?_) λe s' hs=>hs;have fin:∀{σ':L2.St}{H':Hp}{v:V}{u:Xa},Inv (PU P w K mg base N qual scope f bq A outer s H) [] σ' H' s'->RelV v u->Q v H'->CE outer P w H s Q u s':=
  λ{σ' H' v u} J rv q=>⟨v,H',J.os,J.bare,J.base,J.hok,rv,q⟩
 cases fl with
 | ret u=>
  obtain⟨v,σ',H',J,rv,q⟩:=hs;exact fin J rv q
 | next=>
  obtain⟨σ',H',J,q⟩:=hs;exact fin (v:=V.non) J rfl q
 | brk=>
  obtain⟨_,_,_,q⟩:=hs;exact False.elim q
 | cont=>
  obtain⟨_,_,_,q⟩:=hs;exact False.elim q
theorem Ck(F:N1 X.prog X.w X.K X.mg X.base k f fd ps sp)(hr:Dh k X.A)(hg:Gl X x)(hm:X.mg x=some (.ref f))(hk:PySem.W.keepIn X.K (.ref f)=true)(hb:Binds X.K fd ps [])
  (ha:PA X (e::es) t) (kG:(x==("__debug__":Str))=false:=by decide) (he:starEach (e::es) X.env=(false,eval e X.env)::starEach es X.env:=by rfl) (eR:(backTo pos (starEach es X.env)).any (·.1)=false:=by rfl) :
  PE X (.Call (.Name x p) (e::es) [] pos) (G9 sp [] E0 t):=by
 intro pins s σ H Q I h;refine TQ (gY I hg hm ?_ kG);refine UO I.ok.mod.kin hk (aZ (ha pos pins s σ H _ I h) λus s1 ⟨vs,H1,I1,r,q⟩=>⟨I1.kIn,?_⟩) he eR
 replace q:sp vs H1 Q E0:=by have q':sp (vs++[]) H1 Q E0:=q;rwa [SG]at q'
 have hl:us.length=ps.length:=by rw[<- r.length];exact F.len _ _ _ _ q
 refine VM (U9 (F.run X.A X.stack s1 H1 ⟨us,[]⟩ us vs Q hr I1.env0 (by have:=hb s1 us I1.kIn (by rw[SG];exact hl);rwa [SG]at this) r q) λr s' hq=>?_);cases r with
 | error e=>exact False.elim hq
 | ok fl=>
  cases fl with
  | ret u=>exact I1.after hq
  | next=>exact False.elim hq
  | brk=>exact False.elim hq
  | cont=>exact False.elim hq
structure v8(X:Cx):Prop where
 pn:X.pn=[]
 stk:X.stack=X.env::X.outer
 fr:X.env.frame=some X.env.locals
section
variable {X:Cx}{σ:L2.St}{H:Hp}{s:Xb}{e C dx:Xj}
theorem fU(I:Inv X [] σ H s)(ho:s.heap.get? e=some o)(hd:o.data=.fields vs):e≠X.env.locals/\∀x c,X.env.cells.lookup x=some c->c≠e:=by
 constructor
 .intro z;obtain⟨m,⟨ol,es,ep,h1,h2,_⟩,_⟩:=I.loc;rw[z,h1]at ho;cases ho;rw[h2]at hd;cases hd
 .intro x c hc z;obtain⟨v,hv⟩:=I.cell x c hc;obtain⟨oc,h1,h2⟩:=hv;rw[z]at h1;rw[h1]at ho;cases ho;rw[hd]at h2;cases h2
theorem Rec.apart(I:Inv X [] σ H s)(r:Rec X.s₀.heap s.heap H e C dx):e≠X.env.locals/\∀x c,X.env.cells.lookup x=some c->c≠e:=by
 obtain⟨oe,vs,he,_,_,hd,_⟩:=r;exact fU I he hd
theorem Cw(T:v8 X)(hfr:A.frames=some X.stack)(I:Inv X [] σ H s)(hn:X.s₀.sz<=e)(he:H e=none)(r:Rec X.s₀.heap s.heap H e C dx)
  (h:∀s3,Inv X [] σ H s3->Rec X.s₀.heap s3.heap H e C dx->Q () s3):wpAny M A (noteFrame (.ref e) X.env) (λ_ s'=>wpAny M A (setFlight (.ref e) none) Q E s') E s:=by
 have hstk:=I.stack;have hstf:=I.stkFree;have hap:=r.apart I;rw[T.stk]at hfr hstk hstf;refine GR (s0h:=X.s₀.heap) (H:=H) hfr hstk (L:=X.env.locals) T.fr r I.sz (λb hb=>I.hok.fresh hb) λh' T' hT k1 k2 rK hT2=>h _ ?_ rK;refine I.call (ch:=e::T'.toList) (H':=H) (h':=h') ?_ (km I.hok λb o ⟨u,hu⟩ hb=>k1 b o (λz=>by rw[hstf b z]at hu;cases hu) (λz=>by rw[z,he]at hu;cases hu) (λz=>by rw[(hT b z).2.1]at hu;cases hu) hb) I.bare λb hb=>?_
 .rw[T.stk];refine⟨λb o q n hf hx=>?_,λb o q n hf hx=>k2 b o hf q,λb o q n hx=>n,λb o q hx=>?_,λ_ _ z=>z,λ_ _ _ z=>z,λ_ _ z=>z⟩
  .exact k1 b o hf (λz=>hx (by simp[z])) (λz=>hx (by simp[z])) q
  .by_cases hf:b∈k7 (X.env::X.outer)
   .obtain⟨sl,z⟩:=k2 b o hf q;exact⟨_,z⟩
   .exact⟨o,k1 b o hf (λz=>hx (by simp[z])) (λz=>hx (by simp[z])) q⟩
 .rcases t_.mp hb with rfl | hb
  .exact⟨.inr hn,hap.1,hap.2,λp hp=>by rw[T.pn]at hp;cases hp⟩
  .obtain⟨a1,a2,oT,ts,a3,a4⟩:=hT b (by simpa using hb);have hap:=fU I a3 a4;exact⟨.inr a1,hap.1,hap.2,λp hp=>by rw[T.pn]at hp;cases hp⟩
theorem vD(T:v8 X)(I:Inv X [] σ H s)(hn:X.s₀.sz<=e)(he:H e=none)(r:Rec X.s₀.heap s.heap H e C dx)
  (h:∀s3,Inv X [] σ H s3->Rec X.s₀.heap s3.heap H e C dx->Q () s3):wpAny M A (setFlight (.ref e) none) Q E s:=by
 obtain⟨oe,vs,a1,a2,a3,a4,a5,a6⟩:=id r;rcases a6 with h1 | ⟨T',oT,ts,h1,Gz,OD,OE,hT,DE,h3⟩
 .unfold setFlight;refine a_ (S_ a1 a4 h1 ?_);rw[k_ (by decide)];exact d_ (h s I r)
 .have hz:3<ts.size:=(S9.mp h3).1;have hap:=fU I hT DE;refine wpAny_setFlight_none a1 a4 h1 hT DE hz (h _ (I.turned (t':=s.toks) (it:=T') (λb o hb ho=>(SE _ _ (Tj hb)).trans ho) OE hap.1 (.inr OD) hap.2 (λp hp=>by rw[T.pn]at hp;cases hp)) ?_);refine⟨oe,vs,(SE _ _ Gz).trans a1,a2,a3,a4,a5,.inr ⟨T',_,_,h1,Gz,OD,OE,SS _ hT (Tn (SZ DE _)),SZ DE _,by simp[hz]⟩⟩
theorem adopt(T:v8 X)(I:Inv X [] σ H s)(hn:X.s₀.sz<=e)(he:H e=none)(hap:e≠X.env.locals/\∀x c,X.env.cells.lookup x=some c->c≠e)(ho:∃o,s.heap.get? e=some o)(hp:φ s.heap)(hs:∀h1 h2:Xf,φ h1->(∀o,h1.get? e=some o->h2.get? e=some o)->φ h2):Inv X [] σ (upd H e (.ext φ)) s:=by
 have hz:=S4 hn;have kp:∀{b:Xj}{o:HO},H b=some o->upd H e (.ext φ) b=some o:=λ{b o} z=>by rw[ar (λy=>by rw[y,he]at z;cases z)];exact z
 refine⟨I.ok,I.os,I.bare,⟨I.base.keep,I.base.slot,λb o q n hx=>?_,I.base.there,λb xs q=>kp (I.base.tups b xs q),λb o u q=>kp (I.base.frzs b o u q),λb ps q=>?_⟩,I.loc,I.cell,?_,λx c hc=>?_,λp hp=>?_,λa oa ha=>?_,I.len⟩
 .rw[ar (λy=>by rw[y,hz]at q;cases q)];exact I.base.free b o q n hx
 .exact kp (I.base.tbls b ps q)
 .rw[ar (Tj hap.1)];exact I.free
 .rw[ar (hap.2 x c hc)];exact I.freeC x c hc
 .rw[T.pn]at hp;cases hp
 .by_cases z:a=e
  .subst z;rw[ai]at ha;cases ha;exact⟨hp,ho,hs⟩
  .rw[ar z]at ha;exact(I.hok a oa ha).stay (λb u _ hu=>hu) (λb hb=>kp hb) (λb xs hb=>kp hb) λb xs hb=>kp hb
end
end Xc
namespace Xc
open PySem PySem.Spec PyProof.Rows L2
section
variable {X:Cx}{σ:L2.St}{H:Hp}{s:Xb}{e C dx:Xj}
theorem ia(T:v8 X)(I:Inv X [] σ H s)(hN:X.N.Nodup)(hi:X.N[i]?=some n)(hl:X.env.scope.names.lookup n=some .local)
  (h:∀s',Inv X [] (σ.set i none) H s'->Q () s'):wpAny M A (do bindName X.env n .none;unbindBehindTheSuite X.env n pos) Q E s:=by
 refine a_ (wpAny_bindName (jC I hN hi (.inl hl) (v:=.non) rfl (λs1 I1=>?_) (.inr hl)));have vY:(X.env.scope.kind==.class||(X.env.scope.kind==.module&&X.env.locals != X.env.globals))=false:=by rw[I1.ok.kind];rfl
 obtain⟨m,hn,Qb⟩:=id I1.loc;have Km:i < σ.length:=by rw[I.len];exact(i_.mp hi).1
 have hk:X.env.kindOf n=some .local:=hl;obtain⟨u,hu,hlk⟩:=Qb i n .non hi (by rw[v_ Km]) (.inl hl);have Qz:m n=some u:=by
  rcases hlk with ⟨_,z⟩ | ⟨z,_⟩
  .exact z
  .rw[hk]at z;rcases z with z | z<;>cases z
 unfold unbindBehindTheSuite;refine wpAny_onRaise (wpAny_unbindName_local hk hn Qz vY λh' u' Kn hs=>h _ ?_);have ne:∀{b:Xj},b≠X.env.locals->h'.get? b=s1.heap.get? b:=λ{b} z=>hs.2 b z;have Di:∀{b:Xj}{o:Obj},X.s₀.heap.get? b=some o->b≠X.env.locals:=λ{b o} q z=>by
  have h1:=q_ q;have h2:=I.ok.above;rw[z]at h1;exact absurd h1 (Nat.not_lt.mpr h2)
 refine⟨I1.ok,I1.os,I1.bare,⟨λb o q n' hf hx=>(ne (Di q)).trans (I1.base.keep b o q n' hf hx),λb o q n' hf hx=>?_,I1.base.free,λb o q hx=>?_,I1.base.tups,I1.base.frzs,I1.base.tbls⟩,⟨_,Kn,λj x v e1 e2 e3=>?_⟩,λx c hc=>?_,I1.free,I1.freeC,λp hp=>?_,km I1.hok λb o ⟨w',hw⟩ hb=>(ne (λz=>by rw[z,I1.free]at hw;cases hw)).trans hb,by rw[V4];exact I.len⟩
 .obtain⟨sl,z⟩:=I1.base.slot b o q n' hf hx;exact⟨sl,(ne (Di q)).trans z⟩
 .obtain⟨o',z⟩:=I1.base.there b o q hx;exact⟨o',(ne (Di q)).trans z⟩
 .have QA:j≠i:=λz=>by subst z;rw[v_ Km]at e2;cases e2
  rw[p_ (Tj QA)]at e2;obtain⟨u2,r2,l2⟩:=Qb j x v e1 (by rw[p_ (Tj QA)];exact e2) e3;refine⟨u2,r2,?_⟩;rcases l2 with ⟨z1,z2⟩ | ⟨z1,c,z2,oc,z3,z4⟩
  .refine .inl ⟨z1,?_⟩;show(if x=n then u' else m x)=some u2;rw[k_]
   .exact z2
   .intro z;subst z;have a1:=i_.mp e1;have a2:=i_.mp hi;rcases Nat.lt_or_gt_of_ne QA with y | y
    .exact SU.mp hN j i a1.1 a2.1 y (a1.2.trans a2.2.symm)
    .exact SU.mp hN i j a2.1 a1.1 y (a2.2.trans a1.2.symm)
  .exact .inr ⟨z1,c,z2,oc,(ne (I1.cne x c z2)).trans z3,z4⟩
 .obtain⟨v,oc,z1,z2⟩:=I1.cell x c hc;exact⟨v,oc,(ne (I1.cne x c hc)).trans z1,z2⟩
 .rw[T.pn]at hp;cases hp
end
theorem Pg:Tl bmV:=⟨by decide,by decide,by decide,by decide,by decide⟩
section
open Sem (wp)
variable {M:Model}{A:Xe}{E:WT}
variable {nm q nm2 q2:Str}{C N HE N2:Xj}{bs bm bs2 bm2:W0}{sn sn2:W3}{sub sub2:W0}{ab ab2:Bool}{col col2:Option Bool}{dd zJ:W2}{k0 k1 k2 k3 k5 j0 j1 j2 j3 j5:W1}
theorem rW{h:Xf}{g:Array GenState}{d:Drawn}{t:Nat}{os:OsState}{e:Xj}{oe:Obj}{Q:Bool->Xb->Prop}(Z:Tl bm2)
  (hC:h.get? C=some (cM nm q C N bs bm sn sub ab col dd k0 k1 k2 k3 k5)) (hE:h.get? HE=some (cM nm2 q2 HE N2 bs2 bm2 sn2 sub2 ab2 col2 zJ j0 j1 j2 j3 j5)) (he:h.get? e=some oe) (vY:oe.cls=.ref C) (hb:(Value.ref C::bm).contains (.ref HE)=true)
  (hq:Q true ⟨h,g,d,t,os⟩):wpAny M A (excMatches (.ref e) (.ref HE)) Q E ⟨h,g,d,t,os⟩:=by
 have De:(Value.ref HE::bm2).contains (.type "BaseException")=true:=by rw[Sw,Z.b,TJ]
 have f:=tc_notTuple;unfold excMatches
 repeat (first | (with_reducible refine Sz he ?_;rw[vY]) | with_reducible refine Sz hE ?_ | (with_reducible refine S6 hE ?_;rw[De]) | (with_reducible refine S6 hC ?_;rw[hb]) | wp_step)
 exact hq
end
section
variable {X:Cx}
abbrev XH(X:Cx)(e:Xj):Cx:={X with A:=X.A.mark (some (.ref e)),calm:=false,xe:=λ_ _=>False}
def Bh(K:W_)(C HE:Xj):Prop:=∃nm q N bs bm sn sub ab col dd k0 k1 k2 k3 k5,(Value.ref C::bm).contains (.ref HE)=true/\K.lookup C=some (cM nm q C N bs bm sn sub ab col dd k0 k1 k2 k3 k5)
def Mw(X:Cx)(HE:Xj)(i:Nat)(ts:TS)(D:Ends)(xe:WT):Prop:=∀(σ:L2.St)(H:Hp)(s:Xb)(pins:WU)(e C dx:Xj),Inv X pins σ H s->X.s₀.sz<=e->H e=none->Rec X.s₀.heap s.heap H e C dx->Bh X.K C HE->
 ts {nx:=λσ' H'=>D.nx (σ'.set i none) H',rt:=D.rt,bk:=λσ' H'=>D.bk (σ'.set i none) H',ct:=λσ' H'=>D.ct (σ'.set i none) H'} (σ.set i (some (.ref e))) (upd H e (.ext (yr e C dx)))->xe (.ref e) s
def O8(X:Cx)(HE:Xj)(i:Nat)(tb:WT->TS)(ts:TS):TS:=λD σ H=>∀xe,Mw X HE i ts D xe->tb xe D σ H
def Q9(X:Cx)(st:Xl)(t:TS):Prop:=∀(s:Xb)(σ:L2.St)(H:Hp)(D:Ends),Inv X [] σ H s->t D σ H->wpAny (model X.prog X.w) X.A (exec st X.env) (SP X [] D) X.xe s
def Mj(X:Cx)(st:W6)(t:TS):Prop:=∀(s:Xb)(σ:L2.St)(H:Hp)(D:Ends),Inv X [] σ H s->t D σ H->wpAny (model X.prog X.w) X.A (execs st X.env) (SP X [] D) X.xe s
theorem IS
  (T:v8 X) (hN:X.N.Nodup) (hi:X.N[i]?=some n) (hl:X.env.scope.names.lookup n=some .local) (hg:Gl X "HideError") (hm:X.mg "HideError"=some (.ref HE)) (lk:X.K.lookup HE=some (cM nm q HE N bs bmV sn sub ab col dd k0 k1 k2 k3 k5))
  (hbody:∀xe,PSs (X.wish xe) body (tb xe)) (hsuite:∀e,PSs (XH X e) (b₀::suite) ts) :
  Q9 X (.Try body [.ExceptHandler (some (.Name "HideError" p)) (some n) (b₀::suite) hp] [] [] pos) (O8 X HE i tb ts):=by
 intro s σ H D I h;refine wpAny_Try_except ?_;refine SI (hbody (λe s₁=>wpAny (model X.prog X.w) X.A (noteFrame e X.env) (λ_ s₂=>wpAny (model X.prog X.w) X.A (setFlight e none) (λ_ s₃=>wpAny (model X.prog X.w) X.A (handleBy e X.env [.ExceptHandler (some (.Name "HideError" p)) (some n) (b₀::suite) hp]) (SP X [] D) X.xe s₃) X.xe s₂) X.xe s₁) [] s σ H D (I.wish _) (h _ ?_)) (λf s₁ hf=>?_) λ_ _ z=>z
 .intro σ1 H1 s1 pins e C dx I1' hn he r hcg zN;have I1:Inv X [] σ1 H1 s1:=I1'.pins_of λp z=>by cases z
  refine Cw T I1.ok.frames I1 hn he r λs3 I3 r3=>?_;refine wpAny_handleBy_cons (codeAny_handlers_test ?_) (by intro z;cases z);have IH:Inv (XH X e) [] σ1 H1 s3:=OY I3 _ _ rfl;refine gY IH hg hm ?_;refine cO λ_ kq=>?_;obtain⟨nmC,qC,NC,bsC,bmC,snC,subC,abC,colC,ddC,c0,c1,c2,c3,c5,hct,lkC⟩:=hcg;obtain⟨oe,vs,a1,a2,a3,a4,a5,a6⟩:=id r3;have kin:=I3.kIn;obtain⟨hh,g,d,tk,os⟩:=s3;refine kq (rW (Pg) (kin _ _ lkC) (kin _ _ lk) a1 a2 hct ?_)
  all_goals clear kq
  simp only[Up];refine codeAny_handlers_suite_as (vD T I3 hn he r3 λs4 I4 r4=>?_);have hap:=r4.apart I4;obtain⟨oe4,vs4,b1,b2,b3,b4,b5,b6⟩:=id r4;have I5:Inv X [] σ1 (upd H1 e (.ext (yr e C dx))) s4:=adopt T I4 hn he hap ⟨_,b1⟩ ⟨oe4,b1,b2,b3,by unfold PySem.W.notCls;rw[b4]⟩ vH;refine jC I5 hN hi (.inl hl) (v:=.ref e) rfl (λs6 I6=>?_) (.inr hl);refine SI (hsuite e [] s6 _ _ _ (OY I6 _ _ rfl) zN) (λf s7 hf=>?_) λ_ _ z=>False.elim z;cases f with
  | next=>
   obtain⟨σ',H',I',q'⟩:=hf;exact ia T (On I.ok I') hN hi hl λs8 I8=>⟨_,H',I8,q'⟩
  | brk=>
   obtain⟨σ',H',I',q'⟩:=hf;exact ia T (On I.ok I') hN hi hl λs8 I8=>⟨_,H',I8,q'⟩
  | cont=>
   obtain⟨σ',H',I',q'⟩:=hf;exact ia T (On I.ok I') hN hi hl λs8 I8=>⟨_,H',I8,q'⟩
  | ret u=>
   obtain⟨v,σ',H',I',rv,q'⟩:=hf;exact ia T (On I.ok I') hN hi hl λs8 I8=>⟨v,_,H',I8,rv,q'⟩
 .cases f with
  | next=>exact Vj hf.unwish
  | ret v=>exact hf.unwish
  | brk=>exact hf.unwish
  | cont=>exact hf.unwish
end
end Xc
namespace Mi
open PySem PySem.Spec PyProof.Rows L2 Xc
abbrev Rs:=Except (Str×D) D
abbrev FeX:=En->Option Rs
abbrev FlX:=En->Option (Except (Str×D) Xq)
inductive GB where
 | nx (env:En) | rt (d:D) | bk (env:En) | ct (env:En) | ex (c:Str) (d:D) (env:En)
abbrev FsX:=En->Option GB
def sU(X:Cx)(B Z:Hp)(env:En)(c:Str)(d:D):Prop:=∀(σ:L2.St)(Z' H':Hp)(C dx:Xj)(u:V),Ex Z B Z' H'->Rl X.K B Z' H' env σ->X.mg c=some (.ref C)->H' dx=some (.xd [("cell",u)])->Rep X.K Z' d u->
 ∀(pins:WU)(s:Xb)(e:Xj),Inv X pins σ H' s->X.s₀.sz<=e->H' e=none->Rec X.s₀.heap s.heap H' e C dx->X.xe (.ref e) s
def zD(X:Cx)(rg:Gr)(B Z:Hp)(E:Ends):GB->Prop
 | .nx env'=>∀σ' Z' H',Ex Z B Z' H'->Rl X.K B Z' H' env' σ'->E.nx σ' H'
 | .bk env'=>∀σ' Z' H',Ex Z B Z' H'->Rl X.K B Z' H' env' σ'->E.bk σ' H'
 | .ct env'=>∀σ' Z' H',Ex Z B Z' H'->Rl X.K B Z' H' env' σ'->E.ct σ' H'
 | .rt d=>∀v Z' H',Ex Z B Z' H'->Gd X.K Z' B H' rg d v->E.rt v H'
 | .ex c d env'=>sU X B Z env' c d
def DO(X:Cx)(rg:Gr)(f:FsX):TS:=λE σ H=>∃env B Z o,Rl X.K B Z H env σ/\f env=some o/\zD X rg B Z E o
def SX(X:Cx)(rg:Gr)(st:Xl)(f:FsX):Prop:=PS X st (DO X rg f)
def Dn(X:Cx)(rg:Gr)(rR:W6)(f:FsX):Prop:=PSs X rR (DO X rg f)
def MC(X:Cx)(rg:Gr)(st:Xl)(f:FsX):Prop:=Q9 X st (DO X rg f)
def BA(X:Cx)(rg:Gr)(rR:W6)(f:FsX):Prop:=Mj X rR (DO X rg f)
def R6(X:Cx)(g:Gr)(f:FeX):TE:=λσ H Q=>∃env B Z r,Rl X.K B Z H env σ/\f env=some r/\match r with
 | .ok d=>∀v Z' H',Ex Z H Z' H'->Gd X.K Z' H H' g d v->Q v H'
 | .error (c,d)=>sU X B Z env c d
def PX(X:Cx)(g:Gr)(e:Xk)(f:FeX):Prop:=PE X e (R6 X g f)
def Sb(X:Cx)(f:FlX):TA:=λσ H Q=>∃env B Z r,Rl X.K B Z H env σ/\f env=some r/\match r with
 | .ok ds=>∀vs Z' H',Ex Z H Z' H'->ak X.K Z' ds vs->Q vs H'
 | .error (c,d)=>sU X B Z env c d
structure RA(X:Cx)(es:List Expr)(f:FlX):Prop where
 p:PA X es (Sb X f)
 l:∀env ds,f env=some (.ok ds)->ds.length=es.length
section
variable {X:Cx}{rg g:Gr}{st:Xl}{rR:W6}{pos p:Pos}{e l:Xk}{es:W5}{x:Str}
theorem sU.later(x:Ex Z B Z1 H1)(h:sU X B Z env c d):sU X B Z1 env c d:=λσ Z' H' C dx u y=>h σ Z' H' C dx u (x.transB y)
theorem zD.later(x:Ex Z B Z1 H1)(h:zD X rg B Z E o):zD X rg B Z1 E o:=by
 cases o with
 | nx e=>exact λσ' Z' H' y=>h σ' Z' H' (x.transB y)
 | bk e=>exact λσ' Z' H' y=>h σ' Z' H' (x.transB y)
 | ct e=>exact λσ' Z' H' y=>h σ' Z' H' (x.transB y)
 | rt e=>exact λv Z' H' y=>h v Z' H' (x.transB y)
 | ex c d env=>exact sU.later x h
def Out.up:Out->GB
 | .nx e=>.nx e
 | .rt d=>.rt d
 | .bk e=>.bk e
 | .ct e=>.ct e
def wA(f:Fs):FsX:=λenv=>(f env).map Out.up
theorem zD.of(h:zD X rg B Z E o.up):so X.K rg B Z E o:=by cases o<;>exact h
theorem Ca(h:DO X rg (wA f) E σ H):KW X.K rg f E σ H:=by
 obtain⟨env,B,Z,o,R,e,k⟩:=h;obtain⟨o',e1,rfl⟩:=D_.mp e;exact⟨env,B,Z,o',R,e1,k.of⟩
theorem PS.nox'(h:PS X.nox st t):PS X st t:=λpins s σ H D I hw=>
 SI (h pins s σ H D (I.wish _) hw) (λ_ _ q=>q.unwish) λ_ _ z=>False.elim z
theorem sR(h:SD X.nox rg st f):SX X rg st (wA f):=λpins s σ H E I q=>PS.nox' h pins s σ H E I (Ca (X:=X) q)
theorem Mg(h:uP X.nox rg rR f):Dn X rg rR (wA f):=λpins s σ H E I q=>L2.PSs.nox h pins s σ H E I (Ca (X:=X) q)
theorem Hh(h:SX X rg st f):MC X rg st f:=λs σ H E I q=>h [] s σ H E I q
def gE(f g:FsX):FsX:=λenv=>(f env).bind λo=>match o with | .nx e=>g e | o=>some o
theorem wX{f g:FsX}{E:Ends}{σ:L2.St}{H:Hp}(h:DO X rg (gE f g) E σ H):DO X rg f {E with nx:=DO X rg g E} σ H:=by
 obtain⟨env,B,Z,o,R,e,k⟩:=h;obtain⟨o1,e1,e2⟩:=b_.mp e;refine⟨env,B,Z,o1,R,e1,?_⟩;cases o1 with
 | nx Gu=>exact λσ' Z' H' x R'=>⟨Gu,B,Z',o,R',e2,k.later x⟩
 | rt d=>cases e2;exact k
 | bk d=>cases e2;exact k
 | ct d=>cases e2;exact k
 | ex c d env=>cases e2;exact k
theorem kc{f g:FsX}(h1:SX X rg st f)(h2:Dn X rg rR g):Dn X rg (st::rR) (gE f g):=λpins s σ H E I q=>gR h1 h2 pins s σ H E I (wX q)
theorem Af(h1:SX X rg st f):Dn X rg [st] f:=jr h1
theorem JS(h1:MC X rg st f):BA X rg [st] f:=by
 intro s σ H D I h;refine VL (aZ (h1 s σ H D I h) λf s1 q=>?_);cases f with
 | next=>exact Vj q
 | ret v=>exact q
 | brk=>exact q
 | cont=>exact q
theorem xR{f g:FsX}(h1:MC X rg st f)(h2:BA X rg rR g):BA X rg (st::rR) (gE f g):=by
 intro s σ H D I h;refine VL (aZ (h1 s σ H {D with nx:=DO X rg g D} I (wX h)) λf s1 q=>?_);cases f with
 | next=>
  obtain⟨σ',H',I',q⟩:=q;exact h2 s1 σ' H' D I' q
 | ret v=>exact q
 | brk=>exact q
 | cont=>exact q
def KS(t:Fb)(f g:FsX):FsX:=λenv=>(t env).bind λb=>if b=true then f env else g env
theorem Pz{c:Xk}{a b:W6}{t:Fb}{f g:FsX}(hc:PB X.nox c t)(ha:Dn X rg a f)(hb:Dn X rg b g):SX X rg (.If c a b pos) (KS t f g):=λpins s σ H E I aC=>by
 obtain⟨env,B,Z,o,R,e,k⟩:=aC;refine GV (L2.PT.nox hc) ha hb pins s σ H E I ?_;obtain⟨x,e1,e2⟩:=b_.mp e;refine⟨env,B,Z,x,R,e1,λZ1 H1 x1=>?_⟩;cases x with
 | true=>rw[j_ rfl]at e2;exact zC ⟨env,B,Z1,o,R.ext x1,e2,k.later (x1.part R.bh)⟩
 | false=>rw[k_ (by simp)]at e2;exact yO ⟨env,B,Z1,o,R.ext x1,e2,k.later (x1.part R.bh)⟩
end
section
variable {X:Cx}{rg g:Gr}{st:Xl}{rR:W6}{pos p be:Pos}{e l a:Xk}{es:W5}{x c:Str}{k:Nat}
def Ag(c:Str)(fs:Fes):FsX:=λenv=>(fs env).bind λds=>match ds with
 | [_]=>some (.ex c .non env)
 | [_,d]=>some (.ex c d env)
 | _=>none
structure XC(P:Program)(w:World)(K:Fg)(mg:Str->Option Value)(base:Heap)(k:Nat)(c:Str):Prop where
 ex:∃C HE fI fd,mg c=some (.ref C)/\EC K C HE fI/\dj P w K mg base jR k fI fd ["self","words","cell"] (Mo K HE fI)/\Binds K fd ["self","words","cell"] [.none]/\Binds K fd ["self","words","cell"] []
theorem zm(hm:X.mg c=some (.ref C))(R:Rl X.K B Z H env σ)(k:sU X B Z env c d)(x1:Ex Z H Z1 H1)(r:Rep X.K Z1 d cv):wQ X σ C λdx H2=>H1 dx=none/\H2=upd H1 dx (.xd [("cell",cv)]):=by
 rintro pins H2 s e dx I hn he hr ⟨N0,rfl⟩;have x2:Ex Z1 H1 Z1 (upd H1 dx (.xd [("cell",cv)])):=Ex.newL x1.zh N0;exact k σ Z1 _ C dx cv ((x1.trans x2).part R.bh) ((R.ext x1).ext x2) hm ai r pins s e I hn he hr
theorem zZ(T:XC X.prog X.w X.K X.mg X.base k c)(hr:a9 (k+1) X.A)(hl:PL X [a] fs)(hg:Gl X c:=by rfl)(kG:(c==("__debug__":Str))=false:=by decide)(he:starEach [a] X.env=(false,eval a X.env)::starEach [] X.env:=by rfl) :
  SX X rg (.Raise (some (.Call (.Name c p) [a] [] be)) none pos) (Ag c fs):=λpins s σ H E I aC=>by
 obtain⟨env,B,Z,o,R,e,kk⟩:=aC;obtain⟨C,HE,fI,fd,hm,ec,F,hb1,hb2⟩:=T.ex;refine BQ ec F hr hg hm hb1 (dvs:=[.non]) (.cons rfl .nil) hl.p kG he rfl pins s σ H E I ?_;obtain⟨ds,e1,e2⟩:=b_.mp e;have hlen:=hl.l env ds e1
 match ds,hlen,e2 with
 | [d0],_,e2=>
  cases e2;refine⟨env,B,Z,[d0],R,e1,λvs Z1 H1 x1 r=>?_⟩;obtain⟨v,r',rfl,_,rK⟩:=r;cases(show r'=[]from rK);exact⟨v,.non,rfl,zm hm R kk x1 rfl⟩
def O3(mg:WW)(K:Fg)(n:Nat)(g:Gr)(m:Xq->Option Rs):Sp:=λvs H Q E=>∃Z ds r,ds.length=n/\aH Z H/\ak K Z ds vs/\m ds=some r/\match r with
 | .ok d=>∀v Z' H',Ex Z H Z' H'->Gd K Z' H H' g d v->Q v H'
 | .error (c,d)=>∀C dx u Z' H',mg c=some (.ref C)->Ex Z H Z' H'->H' dx=some (.xd [("cell",u)])->Rep K Z' d u->E (.ref C) (some dx) H'
structure KB(P:Program)(w:World)(K:Fg)(mg:Str->Option Value)(base:Heap)(k:Nat)(x:Str)(n:Nat)(g:Gr)(m:List D->Option Rs):Prop where
 ex:∃f fd ps,ps.length=n/\dj P w K mg base (G8 P w) k f fd ps (O3 mg K n g m)/\mg x=some (.ref f)/\PySem.W.keepIn K (.ref f)=true/\Binds K fd ps []
def HI(f:Fes):FlX:=λenv=>(f env).map .ok
theorem PA.nox'(h:PA X.nox es t):PA X es t:=λpos pins s σ H Q I hw=>
 SI (h pos pins s σ H Q (I.wish _) hw) (λ_ _ ⟨v,H',I',r,q⟩=>⟨v,H',I'.unwish,r,q⟩) λ_ _ z=>False.elim z
theorem MZ(h:PL X.nox es f):RA X es (HI f):=⟨λpos pins s σ H Q I aC=>by
 obtain⟨env,B,Z,r,R,e1,k⟩:=aC;obtain⟨d,e2,rfl⟩:=D_.mp e1;exact PA.nox' h.p pos pins s σ H Q I ⟨env,B,Z,d,R,e2,k⟩,λenv ds e1=>by
 obtain⟨d,e2,e3⟩:=D_.mp e1;cases e3;exact h.l env ds e2⟩
def BG(fs:FlX)(m:Xq->Option Rs):FeX:=λenv=>(fs env).bind λr=>match r with
 | .ok ds=>m ds
 | .error z=>some (.error z)
theorem DY(C:KB X.prog X.w X.K X.mg X.base k x n g m)(hr:a9 k X.A)(hl:RA X (l::es) fs)(hn:(l::es).length=n:=by rfl)(hg:Gl X x:=by rfl)(kG:(x==("__debug__":Str))=false:=by decide)
  (he:starEach (l::es) X.env=(false,eval l X.env)::starEach es X.env:=by rfl) (eR:(backTo pos (starEach es X.env)).any (·.1)=false:=by rfl):PX X g (.Call (.Name x p) (l::es) [] pos) (BG fs m):=by
 rintro pins s σ H Q I ⟨env,B,Z,r,R,e1,kk⟩;obtain⟨f,fd,ps,hps,F,hm,hk,hb⟩:=C.ex;obtain⟨rl,e2,e3⟩:=b_.mp e1;refine TQ (gY I hg hm ?_ kG);cases rl with
 | error z=>
  cases e3;refine UO I.ok.mod.kin hk (aZ (hl.p pos pins s σ H (λ_ _=>False) I ⟨env,B,Z,.error z,R,e2,kk⟩) λus s1 ⟨vs,H1,I1,r,q⟩=>False.elim q) he eR
 | ok ds=>
  refine UO I.ok.mod.kin hk (aZ (hl.p pos pins s σ H (λvs H1=>∃Z1,Ex Z H Z1 H1/\ak X.K Z1 ds vs) I ⟨env,B,Z,.ok ds,R,e2,λvs Z1 H1 x1 r1=>⟨Z1,x1,r1⟩⟩) λus s1 ⟨vs,H1,I1,rv,Z1,x1,r1⟩=>⟨I1.kIn,?_⟩) he eR;cases r with
  | ok d=>
   refine xK (E:=E0) F hr hb .nil I1 rv ?_ (λC pins H' s' e dx _ _ _ _ z=>False.elim z);rw[SG];exact⟨Z1,ds,.ok d,by rw[hl.l env ds e2];exact hn,x1.zh,r1,e3,λv Z' H' x2 g2=>kk v Z' H' (x1.trans x2) (g2.frm x1.h)⟩
  | error z=>
   obtain⟨c,d⟩:=z;refine xK (E:=λCv dxo H'=>∃C dx u Z',Cv=.ref C/\dxo=some dx/\X.mg c=some (.ref C)/\Ex Z1 H1 Z' H'/\H' dx=some (.xd [("cell",u)])/\Rep X.K Z' d u) F hr hb .nil I1 rv ?_ ?_
   .rw[SG];exact⟨Z1,ds,.error (c,d),by rw[hl.l env ds e2];exact hn,x1.zh,r1,e3,λC dx u Z' H' h1 h2 h3 h4=>⟨C,dx,u,Z',rfl,rfl,h1,h2,h3,h4⟩⟩
   .rintro C um H' s' e dx I' Kn uk rK ⟨C',dx',u,Z',hC,N0,h1,h2,h3,h4⟩;cases hC;cases N0;exact kk σ Z' H' C dx u ((x1.trans h2).part R.bh) ((R.ext x1).ext h2) h1 h3 h4 um s' e I' Kn uk rK
def DJ(i:Nat)(f:FeX):FsX:=λenv=>(f env).bind λr=>match r with
 | .ok d=>some (.nx (env.set i (.F d)))
 | .error (c,d)=>some (.ex c d env)
theorem Ms(i:Nat)(he:PX X .cl e f)(hN:X.N.Nodup)(hi:X.N[i]?=some x:=by rfl)(hx:Loc X.env.scope x:=by first | exact Or.inl rfl | exact Or.inr rfl)(hs:swapsWith e (some (.Name x pos')) pos.line X.env=pure false:=by rfl)
  (hf:X.fn x=true\/X.env.scope.names.lookup x=some .local:=by first | exact .inl rfl | exact .inr rfl | assumption):SX X rg (.Assign [.Name x pos'] e pos) (DJ i f):=λpins s σ H E I aC=>by
 obtain⟨env,B,Z,o,R,e1,k⟩:=aC;refine fW hN hi hx he hs hf pins s σ H E I ?_;obtain⟨r,e2,e3⟩:=b_.mp e1;cases r with
 | ok d=>cases e3;exact⟨env,B,Z,.ok d,R,e2,λv Z' H' x r=>k _ Z' H' (x.part R.bh) ((R.ext x).setF i r)⟩
 | error z=>obtain⟨c,d⟩:=z;cases e3;exact⟨env,B,Z,.error (c,d),R,e2,k⟩
end
def uY(f:FsX)(n:Nat)(ds:Xq):Option Rs:=(f (aS n ds)).bind λo=>match o with
 | .rt d=>some (.ok d)
 | .nx _=>some (.ok .non)
 | .ex c d _=>some (.error (c,d))
 | _=>none
section
variable {P:Xd}{w:Xg}{K:Fg}{mg:WW}{base:Xf}
theorem Sr{x qual:Str}{st:Xl}{f:Xj}{fd:Xh}{N ps:W3}{k:Nat}{m:Xq->Option Rs}{fb:FsX}(F:yb K x qual st f fd)(S:bC N ps (ax st))
  (hb:∀(bq:Xa)(A:Xe)(outer:List Env)(s:Xb)(H:Hp)(E:XK),a9 k (A.deeper (envOfC qual (ax st) s.sz f bq))->Dn (eO (G8 P w) P w K mg base N qual (ax st) f bq A outer s H E) .cl (aT st) fb)
  (hm:∀ds r,ds.length=ps.length->m ds=some r->uY fb N.length ds=some r):dj P w K mg base (G8 P w) (k+1) f fd ps (O3 mg K ps.length .cl m):=by
 obtain⟨oc,od,kV,doc,pm,an,bq,ct,qb,rfl,lk,dQ⟩:=F.ex;refine xI lk dQ S (λvs H Q E ⟨Z,ds,d,hl,_,r,_⟩=>by rw[<- r.len];exact hl) λA outer s H vs Q E hr aC=>?_;obtain⟨Z,ds,rs,hl,s1,r,e,kk⟩:=aC;refine⟨_,hb bq A outer s H E hr,?_⟩;obtain⟨o,e1,e2⟩:=b_.mp (hm ds rs hl e);refine⟨_,H,Z,o,Rl.start s1 r,e1,?_⟩;cases o with
 | rt d'=>cases e2;exact kk
 | nx _=>cases e2;exact λσ' Z' H' x R=>kk .non Z' H' x rfl
 | bk _=>cases e2
 | ct _=>cases e2
 | ex c d env=>
  cases e2;exact λσ Z' H' C dx u x R hmg hxd hu pins s' e I hn he rK=>tK σ C pins H' s' e dx I hn he rK (kk C dx u Z' H' hmg x hxd hu)
theorem Iw{CX:CXT}{k:Nat}{f:Xj}{name qual:Str}{params:Arguments}{body:W6}{scope:Xi}{dV kV doc pm bq ct oc:Xa}{an od:W2}
  {qb:WV} {N ps:W3} {sp:Sp} (lk:K.lookup f=some ⟨oc,od,.func (PySem.W.fnOf name qual params body scope dV kV doc pm an bq ct),qb⟩) (dQ:PySem.W.codeIn K bq qual=true) (S:bC N ps scope)
  (len:∀vs H Q E,sp vs H Q E->vs.length=ps.length)
  (hbody:∀(A:Xe)(outer:List Env)(s:Xb)(H:Hp)(vs:Xs)(Q:VK)(E:XK),a9 k (A.deeper (envOfC qual scope s.sz f bq))->sp vs H Q E->
   ∃t,Mj (eO CX P w K mg base N qual scope f bq A outer s H E) body t/\t {nx:=λ_ H'=>Q .non H',rt:=Q} (start N vs) H) :
  dj P w K mg base CX (k+1) f (PySem.W.fnOf name qual params body scope dV kV doc pm an bq ct) ps sp:=by
 refine⟨len,λA outer s H args us vs Q E hr e0 hb r lT=>?_⟩;have hl:=len _ _ _ _ lT;have KX:K.In s.heap:=e0.mod.kin.keeps λb o e=>(e0.bs b o e).1;have lim:s.heap.NoLimit:=e0.mod.nolimit.keeps λb o e=>(e0.bs b o e).1;have bo:∀y∈ps.zip us,scope.names.lookup y.1=some .local\/(scope.names.lookup y.1=some .cell/\((cellsFrom (s.sz+1) scope.names []).lookup y.1).isSome=true):=λ⟨n,v⟩ hy=>by
  rcases S.par n (UU hy).1 with q | q
  .exact .inl q
  .exact .inr ⟨q,UP _ _ _ (.inl q)⟩
 refine VI hr.depth (KX _ _ lk) rfl S.co S.gen rfl (Wk KX dQ) (hb _ _ _ _ ?_);refine U5 S.kind bo λenv he s1 x=>?_;subst he;refine⟨lim.keeps x.toInCall.keep,codeAny_func ?_⟩;obtain⟨t,ht,hq⟩:=hbody A outer s H vs Q E (hr.deeper _) lT;have I:Inv (eO CX P w K mg base N qual scope f bq A outer s H E) [] (start N vs) H s1:=kj S hr.hd e0 hl r x;refine SI (ht s1 (start N vs) H _ I hq) (λfl s' hs=>?_) λe s' hs=>hs;have fin:∀{σ':L2.St}{H':Hp}{v:V}{u:Xa},Inv (eO CX P w K mg base N qual scope f bq A outer s H E) [] σ' H' s'->RelV v u->Q v H'->CE outer P w H s Q u s':=
  λ{σ' H' v u} J rv q=>⟨v,H',J.os,J.bare,J.base,J.hok,rv,q⟩
 cases fl with
 | ret u=>
  obtain⟨v,σ',H',J,rv,q⟩:=hs;exact fin J rv q
 | next=>
  obtain⟨σ',H',J,q⟩:=hs;exact fin (v:=V.non) J rfl q
 | brk=>
  obtain⟨_,_,_,q⟩:=hs;exact False.elim q
 | cont=>
  obtain⟨_,_,_,q⟩:=hs;exact False.elim q
def Ae(f:FsX)(n:Nat)(ds:Xq):Xr:=(f (aS n ds)).bind λo=>match o with
 | .rt d=>some d
 | _=>none
theorem PV{x qual:Str}{st:Xl}{f:Xj}{fd:Xh}{N ps:W3}{k:Nat}{g:Gr}{m:Xq->Xr}{fb:FsX}(F:yb K x qual st f fd)(S:bC N ps (ax st))
  (hb:∀(bq:Xa)(A:Xe)(outer:List Env)(s:Xb)(H:Hp)(E:XK),a9 k (A.deeper (envOfC qual (ax st) s.sz f bq))->BA (eO jR P w K mg base N qual (ax st) f bq A outer s H E) g (aT st) fb)
  (hm:∀ds d,ds.length=ps.length->m ds=some d->Ae fb N.length ds=some d):dj P w K mg base jR (k+1) f fd ps (Ao K ps.length g m):=by
 obtain⟨oc,od,kV,doc,pm,an,bq,ct,qb,rfl,lk,dQ⟩:=F.ex;refine Iw lk dQ S (λvs H Q E ⟨Z,ds,d,hl,_,r,_⟩=>by rw[<- r.len];exact hl) λA outer s H vs Q E hr aC=>?_;obtain⟨Z,ds,d,hl,s1,r,e,kk⟩:=aC;refine⟨_,hb bq A outer s H E hr,?_⟩;obtain⟨o,e1,e2⟩:=b_.mp (hm ds d hl e);refine⟨_,H,Z,o,Rl.start s1 r,e1,?_⟩;cases o with
 | rt d'=>cases e2;exact kk
 | nx _=>cases e2
 | bk _=>cases e2
 | ct _=>cases e2
 | ex c d env=>cases e2
end
def uO:W3:=["NoHiding","NoNumber","TooMany","NoCell","NoShot","NothingLeft","NoCounts","Over","NoText","NoRow"]
def uH(c:Str):List Bool:=uO.map (λn=>n==c)++[true]
structure GC(K:Fg)(mg:Str->Option Value)(HE:Addr)(c:Str)(C:Addr):Prop where
 own:Li K C
 cg:Bh K C HE
 fl:∀n∈uO,∀D,mg n=some (.ref D)->PySem.W.kitOne K (.ref C) (.ref D)=some (n==c)
 va:PySem.W.kitOne K (.ref C) (.type "ValueError")=some true
def Oj(K:Fg)(mg:WW)(HE:Xj):Sp:=λvs H Q _=>∃v C c,vs=[v]/\Cf H v C/\GC K mg HE c C/\∀a H',aH H H'->H a=none->H' a=some (.lst ((uH c).map V.bl))->Q (.ref a) H'
theorem kC(s:aH H H')(h:Cf H v C):Cf H' v C:=by
 obtain⟨e,dx,fs,a,b,c⟩:=h;exact⟨e,dx,fs,a,s _ _ b,s _ _ c⟩
theorem uK{K:Fg}{mg:WW}{HE:Xj}{D1 D2 D3 D4 D5 D6 D7 D8 D9 D10:Xj}(m1:mg "NoHiding"=some (.ref D1))(m2:mg "NoNumber"=some (.ref D2))(m3:mg "TooMany"=some (.ref D3))(m4:mg "NoCell"=some (.ref D4))(m5:mg "NoShot"=some (.ref D5))(m6:mg "NothingLeft"=some (.ref D6))(m7:mg "NoCounts"=some (.ref D7))(m8:mg "Over"=some (.ref D8))(m9:mg "NoText"=some (.ref D9))(OF:mg "NoRow"=some (.ref D10))
  {vs:Xs} {H:Hp} {Q:VK} {E:XK} {nx:L2.St->Hp->Prop} (h:Oj K mg HE vs H Q E) :
  Ih (uV (DI (ef (ku K 0 (.ref D1)) (ef (ku K 0 (.ref D2)) (ef (ku K 0 (.ref D3)) (ef (ku K 0 (.ref D4)) tNil))))) (mE 1)) (Ih (uV (E8 rCat (Jy 1) (DI (ef (ku K 0 (.ref D5)) (ef (ku K 0 (.ref D6)) (ef (ku K 0 (.ref D7)) (ef (ku K 0 (.ref D8)) tNil)))))) (mE 1))
   (MJ (E8 rCat (Jy 1) (DI (ef (ku K 0 (.ref D9)) (ef (ku K 0 (.ref D10)) (ef (ku K 0 (.type "ValueError")) tNil))))))) {nx:=nx,rt:=Q} (start ["e","flags"] vs) H:=by
 obtain⟨v,C,c,rfl,hE,hC,q⟩:=h;have f1:=hC.fl _ (by decide) _ m1;have f2:=hC.fl _ (by decide) _ m2;have f3:=hC.fl _ (by decide) _ m3;have f4:=hC.fl _ (by decide) _ m4;have f5:=hC.fl _ (by decide) _ m5;have f6:=hC.fl _ (by decide) _ m6;have f7:=hC.fl _ (by decide) _ m7;have f8:=hC.fl _ (by decide) _ m8;have f9:=hC.fl _ (by decide) _ m9;have f10:=hC.fl _ (by decide) _ OF;have o:=hC.own;refine⟨v,C,_,rfl,hE,o,f1,v,C,_,rfl,hE,o,f2,v,C,_,rfl,hE,o,f3,v,C,_,rfl,hE,o,f4,(show(4:Nat)<=sizeLine by decide),λp1 h1=>?_⟩;have s1:aH H (upd H p1 _):=cm (o:=.lst [.bl ("NoHiding"==c),.bl ("NoNumber"==c),.bl ("TooMany"==c),.bl ("NoCell"==c)]) h1;have E1:=kC s1 hE;refine⟨_,rfl,v,C,_,rfl,E1,o,f5,v,C,_,rfl,E1,o,f6,v,C,_,rfl,E1,o,f7,v,C,_,rfl,E1,o,f8,(show(4:Nat)<=sizeLine by decide),λp2 h2=>?_⟩;have n12:p1≠p2:=λz=>by rw[<- z,ai]at h2;cases h2
 refine⟨p1,p2,_,_,rfl,rfl,(ar n12).trans ai,ai,(show(8:Nat)<=sizeLine by decide),λp3 h3=>?_⟩;have s2:=cm (o:=.lst [.bl ("NoShot"==c),.bl ("NothingLeft"==c),.bl ("NoCounts"==c),.bl ("Over"==c)]) h2;have s3:=cm (o:=.lst ([V.bl ("NoHiding"==c),.bl ("NoNumber"==c),.bl ("TooMany"==c),.bl ("NoCell"==c)]++[.bl ("NoShot"==c),.bl ("NothingLeft"==c),.bl ("NoCounts"==c),.bl ("Over"==c)])) h3;have E3:=kC s3 (kC s2 E1);refine⟨_,rfl,v,C,_,rfl,E3,o,f9,v,C,_,rfl,E3,o,f10,v,C,_,rfl,E3,o,hC.va,(show(3:Nat)<=sizeLine by decide),λp4 h4=>?_⟩;have n34:p3≠p4:=λz=>by rw[<- z,ai]at h4;cases h4
 refine⟨p3,p4,_,_,rfl,rfl,(ar n34).trans ai,ai,(show(11:Nat)<=sizeLine by decide),λp5 h5=>?_⟩;have s4:=cm (o:=.lst [.bl ("NoText"==c),.bl ("NoRow"==c),.bl true]) h4;have s5:=cm (o:=.lst (([V.bl ("NoHiding"==c),.bl ("NoNumber"==c),.bl ("TooMany"==c),.bl ("NoCell"==c)]++[.bl ("NoShot"==c),.bl ("NothingLeft"==c),.bl ("NoCounts"==c),.bl ("Over"==c)])++[.bl ("NoText"==c),.bl ("NoRow"==c),.bl true])) h5;have sa:=(((s1.trans s2).trans s3).trans s4).trans s5;refine q p5 _ sa ?_ ?_
 .cases z:H p5 with
  | none=>rfl
  | some ob=>have:=((s1.trans s2).trans s3).trans s4 _ _ z;rw[h5]at this;cases this
 .exact ai
theorem Rl.setU{K:Fg}{B Z H:Hp}{env:En}{σ:L2.St}(R:Rl K B Z H env σ)(i:Nat)(x:Option V):Rl K B Z H (env.set i .un) (σ.set i x):=by
 refine⟨R.bh,R.zh,by simp[R.len],λj s h=>?_,λj ds a h h2=>?_,λj k ds es a hne h1 h2 h3 h4=>?_⟩
 .by_cases hj:i=j
  .subst hj
   by_cases hl:i<env.length
   .rw[v_ hl]at h;cases h;exact⟨x,v_ (by rw[<- R.len];exact hl),trivial⟩
   .rw[K_ (by simpa using Tb hl)]at h;cases h
  .rw[p_ hj]at h ⊢;exact R.sl j s h
 .by_cases hj:i=j
  .subst hj
   by_cases hl:i<env.length
   .rw[v_ hl]at h;cases h
   .rw[K_ (by simpa using Tb hl)]at h;cases h
  .rw[p_ hj]at h h2;exact R.ob j ds a h h2
 .by_cases hj:i=j
  .subst hj
   by_cases hl:i<env.length
   .rw[v_ hl]at h1;cases h1
   .rw[K_ (by simpa using Tb hl)]at h1;cases h1
  .by_cases hk:i=k
   .subst hk
    by_cases hl:i<env.length
    .rw[v_ hl]at h2;cases h2
    .rw[K_ (by simpa using Tb hl)]at h2;cases h2
   .rw[p_ hj]at h1 h3;rw[p_ hk]at h2 h4;exact R.ap j k ds es a hne h1 h2 h3 h4
def gx(c:Str):D:=.lst ((uH c).map .bl)
def By(cs:W3)(i j:Nat)(fb:FsX):FsX:=λenv=>(fb env).bind λo=>match o with
 | .ex c d env'=>if c∈cs then some (.nx ((env'.set j (.F (gx c))).set i .un))else none
 | o=>some o
theorem we{K:Fg}{H:Hp}:∀(bs:List Bool),ak K H (bs.map D.bl) (bs.map V.bl)
 | []=>rfl
 | _::bs=>⟨_,_,rfl,rfl,we bs⟩
theorem IL{X:Cx}{rg:Gr}{i j k:Nat}{HE:Xj}{n y:Str}{cs:W3}{f:Xj}{fd:Xh}{body:W6}{fb:FsX}{p hp pos p1 p2 p3 p4 p5:Pos}{nm q:Str}{N:Xj}{bs:W0}{sn:W3}{sub:W0}{ab:Bool}{col:Option Bool}{dd:W2}{k0 k1 k2 k3 k5:W1}
  (T:v8 X) (hN:X.N.Nodup) (yc:i≠j) (hm:X.mg "HideError"=some (.ref HE)) (lk:X.K.lookup HE=some (cM nm q HE N bs bmV sn sub ab col dd k0 k1 k2 k3 k5))
  (CT:∀c∈cs,∀C,X.mg c=some (.ref C)->GC X.K X.mg HE c C) (F:N1 X.prog X.w X.K X.mg X.base k f fd ["e"] (Oj X.K X.mg HE)) (hr:Dh k X.A) (hf:X.mg "_law_flags"=some (.ref f)) (hk:PySem.W.keepIn X.K (.ref f)=true) (hb:Binds X.K fd ["e"] [])
  (hbody:∀xe,Dn (X.wish xe) rg body fb)
  (hi:X.N[i]?=some n:=by rfl) (hl:X.env.scope.names.lookup n=some .local:=by rfl) (hj:X.N[j]?=some y:=by rfl) (QB:Loc X.env.scope y:=by first | exact Or.inl rfl | exact Or.inr rfl) (hg:Gl X "HideError":=by rfl) (QC:Gl X "_law_flags":=by rfl)
  (KA:(n==("__debug__":Str))=false:=by decide) (hd2:(n==("__classdict__":Str))=false:=by decide)
  (QD:X.fn y=true\/X.env.scope.names.lookup y=some .local:=by first | exact .inl rfl | exact .inr rfl)
  (hst:starEach [.Name n p3] X.env=(false,eval (.Name n p3) X.env)::starEach [] X.env:=by rfl)
  (Kx:swapsWith (.Call (.Name "_law_flags" p2) [.Name n p3] [] p4) (some (.Name y p1)) p5.line X.env=pure false:=by rfl) :
  MC X rg (.Try body [.ExceptHandler (some (.Name "HideError" p)) (some n) [.Assign [.Name y p1] (.Call (.Name "_law_flags" p2) [.Name n p3] [] p4) p5] hp] [] [] pos) (By cs i j fb):=by
 rintro s σ H E I ⟨env,B,Z,o,R,e1,kk⟩;refine IS T hN hi hl hg hm lk hbody (λe=>jr (fW hN hj QB (Ck F ⟨hr.dp,hr.un⟩ QC hf hk hb (aJ (bI hi (.inl hl) KA hd2) bM hst) (by decide) hst rfl) Kx QD)) s σ H E I ?_;intro xe hxe;obtain⟨o1,e2,e3⟩:=b_.mp e1;refine⟨env,B,Z,o1,R,e2,?_⟩;cases o1 with
 | nx Gu=>cases e3;exact kk
 | rt d=>cases e3;exact kk
 | bk d=>cases e3;exact kk
 | ct d=>cases e3;exact kk
 | ex c d env'=>
  obtain⟨hc,rfl⟩:=kP e3;intro σ' Z' H' C dx u x R' hmg hxd hu pins s' e I' hn he rK;have hC:=CT c hc C hmg;refine hxe σ' H' s' pins e C dx I'.unwish hn he rK hC.cg ?_;have Km:i < σ'.length:=by rw[I'.len];exact(i_.mp hi).1
  refine⟨.ref e,v_ Km,.ref e,C,c,rfl,⟨e,dx,[("cell",u)],rfl,ai,?_⟩,hC,λa H2 sa hna hla=>?_⟩
  .rw[ar (λz=>by rw[z,he]at hxd;cases hxd)];exact hxd
  have RB:H' a=none:=by
   by_cases z:a=e
   .rw[z];exact he
   .rwa [ar z]at hna
  have s0:aH H' H2:=(cm he).trans sa;have hZa:Z' a=none:=x.zh.free RB;have x2:Ex Z' H' (upd Z' a (.lst ((uH c).map V.bl))) H2:=⟨s0,cm hZa,λb ob hb=>by
   by_cases z:b=a
   .subst z;rw[ai]at hb;cases hb;exact hla
   .rw[ar z]at hb;exact s0 _ _ (x.zh _ _ hb),λb h1 h2=>by
   rw[ar (λz=>h1 (by rw[z];exact RB))];exact h2,pS (λ_ _ _ h=>h) Mf⟩
  have R2:=((R'.ext x2).setF (d:=gx c) j ⟨a,_,rfl,di.of ai,we _⟩).setU i none;have es:(((σ'.set i (some (V.ref e))).set j (some (V.ref a))).set i none)=(σ'.set j (some (V.ref a))).set i none:=by
   rw[List.set_comm _ _ yc,List.set_set]
  show E.nx (((σ'.set i (some (V.ref e))).set j (some (V.ref a))).set i none) H2;rw[es];exact kk _ _ _ (x.transB (Ex.part x.h x2)) R2
end Mi
namespace Mi
open PySem PySem.Spec PyProof.Rows L2
section
variable {X:Cx}{rg:Gr}{pos px:Pos}{x:Str}{e:Xk}
end
section
variable {X:Cx}{rg:Gr}
end
section
variable {X:Cx}{rg:Gr}{pins:WU}{s:Xb}{σ:L2.St}{H:Hp}
variable {o e:Xk}{fa fb:Fe}{apos be:Pos}{k:Nat}
end
end Mi
namespace Mi
open PySem PySem.Spec PyProof.Rows L2
inductive qc(A:Around)(s:Shared)(q:Bool):List Value->List Value->Prop
 | nil:q=false->qc A s q [] []
 | less {w:Value} {ws:List Value}:q=true->qc A s q [] (w::ws)
 | more {v:Value} {vs:List Value}:q=false->qc A s q (v::vs) []
 | same {v w:Value} {vs ws:List Value}:SeqAt.EqAt A s v w true->qc A s q vs ws->qc A s q (v::vs) (w::ws)
 | apart {v w:Value} {vs ws:List Value}:SeqAt.EqAt A s v w false->(∀(prog:Program)(wd:World)(E:Value->Shared->Prop)(Q:Value->Shared->Prop),Q (.bool q) s->wpAny (model prog wd) A (richCompare .Lt v w) Q E s)->qc A s q (v::vs) (w::ws)
section
open PySem.SeqAt
open PySem.AutoSeq1 (wpAny_loadPart')
open PySem.MeetsSeq PySem.MeetsSeq2 PySem.MeetsSeq3
end
section
variable {X:Cx}{pins:WU}{s:Xb}{σ:L2.St}{H:Hp}
variable {l r:Xk}{fa fb:Fe}{ga gb:Gr}{pos p:Pos}{k:Nat}
end
end Mi
namespace Mi
open PySem PySem.Spec PyProof.Rows L2
def R8:D->Option Bool
 | .lst ds=>some !ds.isEmpty
 | _=>none
def fT(f:Fe):Fb:=λenv=>(f env).bind R8
theorem Ma(h:PD X .cl e f)(he:∀whole,isTrue e X.env whole=(do let v <- whole;standAt e.pos;holding [v] (truthy v)):=by intro _;rfl):PB X e (fT f):=
 PT.imp (sd h he) λσ H Q aC=>by
  obtain⟨env,B,Z,b,R,e,k⟩:=aC;obtain⟨d,h1,h2⟩:=b_.mp e;cases d<;>cases h2;rename_i ds;refine⟨env,B,Z,_,R,h1,λv Z' H' x g=>?_⟩;obtain⟨a,vs,rfl,hq,rr⟩:=g;have hl:=rr.len;have:(!ds.isEmpty)=!vs.isEmpty:=by cases ds<;>cases vs<;>first | rfl | (simp at hl)
  exact⟨_,.inl ⟨vs,x.zh.seq hq,rfl⟩,by rw[<- this];exact k Z' H' x⟩
theorem A0{P:Xd}{w:Xg}{K:Fg}{mg:WW}{base:Xf}{k n:Nat}{f:Xj}{fd:Xh}{ps:W3}{g:Gr}:dj P w K mg base jR k f fd ps (Ao K n g λ_=>none):=
 ⟨λvs H Q E ⟨_,_,_,_,_,_,e,_⟩=>(by cases e),λA outer s H args us vs Q E _ _ _ _ ⟨_,_,_,_,_,_,e,_⟩=>(by cases e)⟩
end Mi
namespace Mi
open PySem PySem.Spec PyProof.Rows L2 Xc
section
variable {K:Fg}{mg:WW}{C D HE fI:Xj}{nm q nm2 q2:Str}{N N2:Xj}{bs bs2 bm bm2:W0}{sn sn2:W3}{sub sub2:W0}{ab ab2:Bool}{col col2:Option Bool}{dd zJ:W2}{k0 k1 k2 k3 k5 j0 j1 j2 j3 j5:W1}
theorem u9(lC:K.lookup C=some (cM nm q C N bs bm sn sub ab col dd k0 k1 k2 k3 k5)):PySem.W.mroIn K C b=some ((Value.ref C::bm).contains b):=by
 unfold PySem.W.mroIn PySem.W.clsIn;rw[lC]
 rfl
theorem EY(lC:K.lookup C=some (cM nm q C N bs (.ref HE::bmV) sn sub ab col dd k0 k1 k2 k3 k5))(lD:K.lookup D=some (cM nm2 q2 D N2 bs2 bm2 sn2 sub2 ab2 col2 zJ j0 j1 j2 j3 j5))(hD:D≠HE) :
  PySem.W.kitOne K (.ref C) (.ref D)=some (decide (D=C)):=by
 unfold PySem.W.kitOne
 by_cases h:D=C
 .subst h;rw[j_ (VO _),w_ rfl]
 .rw[k_ (λz=>h (Value.ref.inj (VP.mp z)).symm),E_ h];unfold PySem.W.kitCls;have h1:((PySem.W.clsIn K D).isSome&&PySem.W.typeIn K (.ref D)==some (.type "type"))=true:=by
   have e1:PySem.W.typeIn K (.ref D)=some (.type "type"):=(Tp (Option.map (λx:Obj=>x.cls)) lD);rw[e1];unfold PySem.W.clsIn;rw[lD]
   rfl
  show(if((PySem.W.clsIn K D).isSome&&PySem.W.typeIn K (.ref D)==some (.type "type"))=true then PySem.W.subIn K (.ref C) (.ref D)else none)=_;rw[j_ h1];show PySem.W.mroIn K C (.ref D)=some false;rw[u9 lC];have c1:(Value.ref D==Value.ref C)=false:=Wa.mpr (λz=>h (Value.ref.inj z));have c2:(Value.ref D==Value.ref HE)=false:=Wa.mpr (λz=>hD (Value.ref.inj z));rw[Sw,c1,Sw,c2]
  rfl
theorem Ea(lC:K.lookup C=some (cM nm q C N bs (.ref HE::bmV) sn sub ab col dd k0 k1 k2 k3 k5))(hm:PySem.W.kitMeta "ValueError"=true:=by decide +kernel):PySem.W.kitOne K (.ref C) (.type "ValueError")=some true:=by
 unfold PySem.W.kitOne;rw[k_ (λz=>by cases(VP.mp z))];show(if PySem.W.kitMeta "ValueError"=true then PySem.W.subIn K (.ref C) (.type "ValueError")else none)=_;rw[j_ hm];show PySem.W.mroIn K C (.type "ValueError")=some true;rw[u9 lC,Sw,vV.v,TJ]
def B3(K:Fg)(mg:WW)(HE C:Xj)(c n:Str):Prop:=∃D,mg n=some (.ref D)/\(∃nm q N bs bm sn sub ab col dd k0 k1 k2 k3 k5,K.lookup D=some (cM nm q D N bs bm sn sub ab col dd k0 k1 k2 k3 k5))/\D≠HE/\(D=C↔n=c)
theorem IF(ec:EC K C HE fI)(ga:PySem.W.findIn K (.ref C) "__getattribute__"=some (some (.builtin "BaseException.__getattribute__")))(gt:PySem.W.findIn K (.ref C) "__getattr__"=some none)(cl:PySem.W.findIn K (.ref C) "__class__"=some (some (.builtin "object.__class__")))
  (o:∀n∈uO,B3 K mg HE C c n):GC K mg HE c C:=by
 obtain⟨nm,q,N,bs,sn,sub,ab,col,dd,k0,k1,k2,k3,k5,lC⟩:=ec.lk;refine⟨⟨⟨nm,q,N,bs,_,sn,sub,ab,col,dd,k0,k1,k2,k3,k5,vV,lC⟩,⟨ga,gt,cl,?_⟩⟩,⟨nm,q,N,bs,_,sn,sub,ab,col,dd,k0,k1,k2,k3,k5,?_,lC⟩,λn hn D hD=>?_,Ea lC⟩
 .rw[u9 lC,Sw,vV.o,TJ]
 .rw[Sw,Sw,VO,Bool.true_or,TJ]
 .obtain⟨D',e,⟨_,_,_,_,_,_,_,_,_,_,_,_,_,_,_,lD⟩,h1,h2⟩:=o n hn;have:D'=D:=Value.ref.inj (Option.some.inj (e.symm.trans hD));subst this;rw[EY lC lD h1];congr 1;rw[Ta];simp[h2]
end
structure QE(P:Program)(w:World)(K:Fg)(mg:Str->Option Value)(base:Heap)(cs:List Str):Prop where
 ex:∃HE nm q N bs sn sub ab col dd k0 k1 k2 k3 k5 f fd,mg "HideError"=some (.ref HE)/\K.lookup HE=some (cM nm q HE N bs bmV sn sub ab col dd k0 k1 k2 k3 k5)/\(∀c∈cs,∀C,mg c=some (.ref C)->GC K mg HE c C)/\
  N1 P w K mg base 1 f fd ["e"] (Oj K mg HE)/\mg "_law_flags"=some (.ref f)/\PySem.W.keepIn K (.ref f)=true/\Binds K fd ["e"] []
theorem DQ(i j:Nat)
  (TX:QE X.prog X.w X.K X.mg X.base cs) (hr:a9 k X.A) (RC:1<=k) (T:v8 X) (hN:X.N.Nodup) (yc:i≠j) (hbody:∀xe,Dn (X.wish xe) rg body fb)
  (hi:X.N[i]?=some n:=by rfl) (hl:X.env.scope.names.lookup n=some .local:=by rfl) (hj:X.N[j]?=some y:=by rfl) (QB:Loc X.env.scope y:=by first | exact Or.inl rfl | exact Or.inr rfl) (hg:Gl X "HideError":=by rfl) (QC:Gl X "_law_flags":=by rfl)
  (KA:(n==("__debug__":Str))=false:=by decide) (hd2:(n==("__classdict__":Str))=false:=by decide)
  (QD:X.fn y=true\/X.env.scope.names.lookup y=some .local:=by first | exact .inl rfl | exact .inr rfl)
  (hst:starEach [.Name n p3] X.env=(false,eval (.Name n p3) X.env)::starEach [] X.env:=by rfl)
  (Kx:swapsWith (.Call (.Name "_law_flags" p2) [.Name n p3] [] p4) (some (.Name y p1)) p5.line X.env=pure false:=by rfl) :
  MC X rg (.Try body [.ExceptHandler (some (.Name "HideError" p)) (some n) [.Assign [.Name y p1] (.Call (.Name "_law_flags" p2) [.Name n p3] [] p4) p5] hp] [] [] pos) (By cs i j fb):=by
 obtain⟨HE,nm,q,N,bs,sn,sub,ab,col,dd,k0,k1,k2,k3,k5,f,fd,hm,lk,CT,F,hf,hk,hb⟩:=TX.ex;have hr1:=hr.mono RC;exact IL T hN yc hm lk CT F ⟨hr1.dp,hr1.un⟩ hf hk hb hbody hi hl hj QB hg QC KA hd2 QD hst Kx
section
variable {K:Fg}{mg:WW}{HE C:Xj}{c:Str}
theorem HH:∀c∈([]:W3),∀C,mg c=some (.ref C)->GC K mg HE c C:=λ_ h=>nomatch h
theorem Gh(m:mg c0=some (.ref C0))(h:GC K mg HE c0 C0)(t:∀c∈cs,∀C,mg c=some (.ref C)->GC K mg HE c C):∀c∈c0::cs,∀C,mg c=some (.ref C)->GC K mg HE c C:=λc hc C hC=>by
 rcases t_.mp hc with rfl | hc
 .have:C0=C:=Value.ref.inj (Option.some.inj (m.symm.trans hC));subst this;exact h
 .exact t c hc C hC
end
end Mi
namespace Mi
open PySem PySem.Spec PyProof.Rows L2
def bE:Xm->List α->Xn->Option α
 | k::ks,d::ds,q=>if k=q then some d else bE ks ds q
 | _,_,_=>none
def cf:Xm->List α->Xn->α->List α
 | k::ks,d::ds,q,x=>(if k=q then x else d)::cf ks ds q x
 | _,ds,_,_=>ds
instance decK(q:Xn)(ks:Xm):Decidable (q∈ks):=decidable_of_iff ((ks.any λk=>decide (k=q))=true) (by simp)
def uw(ks:Xm)(q:Xn):Xm:=if q∈ks then ks else ks++[q]
def ux(ks:Xm)(ds:List α)(q:Xn)(x:α):List α:=if q∈ks then cf ks ds q x else ds++[x]
def GX(ks:Xm)(bs:W4)(q:Xn)(b:Xj):W4:=if q∈ks then bs else bs++[b]
theorem EK(ks:Xm)(q:Xn):(uw ks q).length<=ks.length+1:=by unfold uw;split<;>simp
theorem o6(q:Xn)(x:α):∀(ks:Xm)(ds:List α),(cf ks ds q x).length=ds.length
 | [],ds=>by cases ds<;>simp[cf]
 | _::_,[]=>by simp[cf]
 | k::ks,d::ds=>by simp[cf,o6 q x ks ds]
theorem EG(h:ds.length=ks.length)(q:Xn)(x:α):(ux ks ds q x).length=(uw ks q).length:=by
 unfold ux uw;split<;>simp[o6,h]
theorem Gj(h:bs.length=ks.length)(q:Xn)(b:Xj):(GX ks bs q b).length=(uw ks q).length:=by
 unfold GX uw;split<;>simp[h]
theorem pB:∀{ks:Xm}{ds:List α},q∉ks->bE ks ds q=none
 | [],ds,_=>by cases ds<;>simp[bE]
 | _::_,[],_=>by simp[bE]
 | k::ks,d::ds,h=>by
  have h1:¬k=q:=λe=>h (by rw[e];exact o_);unfold bE;rw[k_ h1];exact pB λh2=>h (l_ _ h2)
theorem ue:∀{ks:Xm}{ds:List α},ds.length=ks.length->q∈ks->∃d,bE ks ds q=some d
 | [],_,_,h=>nomatch h
 | _::_,[],h,_=>by simp at h
 | k::ks,d::ds,hl,h=>by
  unfold bE
  by_cases e:k=q
  .exact⟨d,j_ e⟩
  .rw[k_ e];exact ue (by simpa using hl) ((t_.mp h).resolve_left λz=>e z.symm)
theorem lB(hl:ds.length=ks.length):(bE ks ds q).isSome=decide (q∈ks):=by
 by_cases h:q∈ks
 .obtain⟨d,e⟩:=ue hl h;rw[e,w_ h];rfl
 .rw[pB h,E_ h];rfl
theorem ak.look{K:Fg}{H:Hp}{q:Xn}:∀{ks:Xm}{ds:Xq}{vs:Xs}{d:D},ak K H ds vs->bE ks ds q=some d->∃v,bE ks vs q=some v/\Rep K H d v
 | [],ds,_,_,_,e=>by cases ds<;>simp[bE]at e
 | _::_,[],_,_,_,e=>by simp[bE]at e
 | k::ks,d::ds,_,d',⟨v,r,e1,h,t⟩,e=>by
  subst e1;unfold bE at e ⊢
  by_cases z:k=q
  .rw[j_ z]at e ⊢;cases e;exact⟨v,rfl,h⟩
  .rw[k_ z]at e ⊢;exact ak.look t e
theorem ak.repl{K:Fg}{H:Hp}{q:Xn}{x:D}{y:V}(hx:Rep K H x y):∀{ks:Xm}{ds:Xq}{vs:Xs},ak K H ds vs->ak K H (cf ks ds q x) (cf ks vs q y)
 | [],ds,vs,h=>by
  have e1:cf [] ds q x=ds:=by cases ds<;>rfl
  have e2:cf [] vs q y=vs:=by cases vs<;>rfl
  rw[e1,e2];exact h
 | _::_,[],vs,h=>by cases(show vs=[]from h);exact h
 | k::ks,d::ds,_,⟨v,r,e1,h,t⟩=>by
  subst e1;unfold cf
  by_cases z:k=q
  .rw[j_ z,j_ z];exact⟨y,_,rfl,hx,ak.repl hx t⟩
  .rw[k_ z,k_ z];exact⟨v,_,rfl,h,ak.repl hx t⟩
theorem ak.put{K:Fg}{H:Hp}{q:Xn}{x:D}{y:V}(hx:Rep K H x y){ks:Xm}{ds:Xq}{vs:Xs}(h:ak K H ds vs):ak K H (ux ks ds q x) (ux ks vs q y):=by
 unfold ux
 split
 .exact ak.repl hx h
 .exact h.app (ak.one hx)
theorem av.look:∀{ks:Xm}{vs:Xs}{us:W0}{v:V},av vs us->bE ks vs q=some v->∃u,bE ks us q=some u/\RelV v u
 | [],vs,_,_,_,e=>by cases vs<;>simp[bE]at e
 | _::_,_,_,_,.nil,e=>by simp[bE]at e
 | k::ks,_,_,v,.cons r t,e=>by
  unfold bE at e ⊢
  by_cases z:k=q
  .rw[j_ z]at e ⊢;cases e;exact⟨_,rfl,r⟩
  .rw[k_ z]at e ⊢;exact av.look t e
theorem av.repl(hx:RelV y u):∀{ks:Xm}{vs:Xs}{us:W0},av vs us->av (cf ks vs q y) (cf ks us q u)
 | [],vs,us,h=>by
  have e1:cf [] vs q y=vs:=by cases vs<;>rfl
  have e2:cf [] us q u=us:=by cases us<;>rfl
  rw[e1,e2];exact h
 | _::_,_,_,.nil=>.nil
 | k::ks,_,_,.cons r t=>by
  unfold cf
  by_cases z:k=q
  .rw[j_ z,j_ z];exact .cons hx (av.repl hx t)
  .rw[k_ z,k_ z];exact .cons r (av.repl hx t)
theorem pq(hx:RelV y u):∀{vs:Xs}{us:W0},av vs us->av (vs++[y]) (us++[u])
 | _,_,.nil=>.cons hx .nil
 | _,_,.cons r t=>.cons r (pq hx t)
theorem av.put(hx:RelV y u)(h:av vs us):av (ux ks vs q y) (ux ks us q u):=by
 unfold ux
 split
 .exact av.repl hx h
 .exact pq hx h
theorem eZ(k:Xn)(ks:Xm)(b:Xj)(bs:W4)(u:Xa)(us:W0):eu (k::ks) (b::bs) (u::us)=(k,b,u)::eu ks bs us:=rfl
theorem de:∀{ks:Xm}{bs:W4}{us:W0},bs.length=ks.length->us.length=ks.length->(eu ks bs us).map (·.1)=ks
 | [],_,_,_,_=>rfl
 | _::_,[],_,h,_=>by simp at h
 | _::_,_::_,[],_,h=>by simp at h
 | k::ks,b::bs,u::us,h1,h2=>by rw[eZ,L_,de (by simpa using h1) (by simpa using h2)]
theorem FN(h1:bs.length=ks.length)(h2:us.length=ks.length):(eu ks bs us).length=ks.length:=by
 have:=Tp List.length (de h1 h2);simpa using this
theorem qf(q:Xn):∀{ks:Xm}{bs:W4}{us:W0},bs.length=ks.length->us.length=ks.length->(atKey (eu ks bs us) q).map (·.2)=bE ks us q
 | [],_,us,_,_=>by cases us<;>rfl
 | _::_,[],_,h,_=>by simp at h
 | _::_,_::_,[],_,h=>by simp at h
 | k::ks,b::bs,u::us,h1,h2=>by
  have ih:=qf q (by simpa using h1) (by simpa using h2);rw[eZ];unfold atKey at ih ⊢;unfold bE;rw[List.find?_cons]
  by_cases e:k=q
  .rw[j_ e,show decide ((k,b,u).1=q)=true by simpa using e];rfl
  .rw[k_ e,show decide ((k,b,u).1=q)=false by simpa using e];exact ih
theorem rp(q:Xn)(h1:bs.length=ks.length)(h2:us.length=ks.length):(atKey (eu ks bs us) q).isSome=decide (q∈ks):=by
 rw[<- lB h2,<- qf q h1 h2,Option.isSome_map]
theorem sN(q:Xn)(u':Xa):∀{ks:Xm}{bs:W4}{us:W0},bs.length=ks.length->us.length=ks.length->(eu ks bs us).map (putAt q u')=eu ks bs (cf ks us q u')
 | [],_,us,_,_=>by cases us<;>rfl
 | _::_,[],_,h,_=>by simp at h
 | _::_,_::_,[],_,h=>by simp at h
 | k::ks,b::bs,u::us,h1,h2=>by
  rw[eZ,L_,sN q u' (by simpa using h1) (by simpa using h2)];rw[show cf (k::ks) (u::us) q u'=(if k=q then u' else u)::cf ks us q u' from rfl,eZ];congr 1;unfold putAt
  by_cases e:k=q
  .rw[j_ e,j_ e]
  .rw[k_ e,k_ e]
theorem my(q:Xn)(b':Xj)(u':Xa):∀{ks:Xm}{bs:W4}{us:W0},bs.length=ks.length->us.length=ks.length->eu (ks++[q]) (bs++[b']) (us++[u'])=eu ks bs us++[(q,b',u')]
 | [],[],[],_,_=>rfl
 | [],_::_,_,h,_=>by simp at h
 | [],[],_::_,_,h=>by simp at h
 | _::_,[],_,h,_=>by simp at h
 | _::_,_::_,[],_,h=>by simp at h
 | k::ks,b::bs,u::us,h1,h2=>by
  rw[Ud,Ud,Ud,eZ,eZ,Ud,my q b' u' (by simpa using h1) (by simpa using h2)]
theorem uC(q:Xn)(b:Xj)(u:Xa)(h1:bs.length=ks.length)(h2:us.length=ks.length):storedH (eu ks bs us) q b u=eu (uw ks q) (GX ks bs q b) (ux ks us q u):=by
 unfold storedH uw GX ux;rw[rp q h1 h2]
 by_cases h:q∈ks
 .rw[w_ h,j_ rfl,j_ h,j_ h,j_ h,sN q u h1 h2]
 .rw[E_ h,k_ (by simp),k_ h,k_ h,k_ h,my q b u h1 h2]
theorem xE(h:x∈eu ks bs us):∃i:Nat,ks[i]?=some x.1/\bs[i]?=some x.2.1:=by
 obtain⟨i,hi⟩:=VG.mp h;obtain⟨a1,a2⟩:=Tg.mp hi;exact⟨i,a1,(Tg.mp a2).1⟩
theorem iM.put{K:Fg}{H:Hp}{ks:Xm}{bs:W4}(r:iM K H ks bs)(hl:bs.length=ks.length){q:Xn}{b:Xj}(hq:cy K H b (q.map kV)):iM K H (uw ks q) (GX ks bs q b):=λi k b' h1 h2=>by
 unfold uw at h1;unfold GX at h2
 split at h1
 .rw[j_ ‹_›]at h2;exact r i k b' h1 h2
 .rw[k_ ‹_›]at h2
  by_cases hi:i<ks.length
  .rw[I_ hi]at h1;rw[I_ (by rw[hl];exact hi)]at h2;exact r i k b' h1 h2
  .rw[G_ (by lia)]at h1;rw[G_ (by rw[hl];lia)]at h2;have hz:i-ks.length=0:=by
    have:=(i_.mp h1).1;simp at this;lia
   rw[hz]at h1;rw[hl,hz]at h2;cases h1;cases h2;exact hq
theorem Ay(P:Xd)(w:Xg):DV (hashStr w)=entryOfKey (tupleKind (aA P w)):=by
 funext x;unfold DV entryOfKey;congr 1
section
variable {P:Xd}{w:Xg}{a:Xj}{ks:Xm}{bs:W4}{vs:Xs}{h:Xf}
theorem Gg(d:h.DictOfH (tupleKind (aA P w)) a (eu ks bs us))(hv:av vs us)(h1:bs.length=ks.length)(h2:us.length=ks.length)(hs:(a==sysModules)=false)(hz:ks.length<=16000000):ft (hashStr w) a ks bs vs h:=by
 obtain⟨o,es,ep,e1,e2,e3,e4,_,e6⟩:=d;rw[de h1 h2]at e6;exact⟨o,es,ep,us,e1,e2,e3,hv,by rw[e4,Ay P w],e6,hs,hz,h1,h2⟩
theorem mJ(th:Str->Int)(a:Xj)(ks:Xm)(bs:W4)(vs:Xs):∀h1 h2:Xf,ft th a ks bs vs h1->(∀o,h1.get? a=some o->h2.get? a=some o)->ft th a ks bs vs h2:=λh1 h2 ⟨o,es,ep,us,e,r⟩ k=>⟨o,es,ep,us,k o e,r⟩
end
section
variable {X:Cx}{rg:Gr}{l r:Xk}{fa fb:Fe}{ga gb:Gr}{pos p:Pos}{k:Nat}
theorem jo{pins σ H s}(I:Inv X pins σ H s)(hq:cy X.K H b (q.map kV)):(tupleKind (aA X.prog X.w)).is s.heap q b:=by
 obtain⟨aQ,rv,⟨o,h1,h2,n',h3⟩,_⟩:=I.tuple hq;exact⟨o,aQ.toArray,n',h1,h2,h3,by simpa using jP rv⟩
theorem Bt{pins σ H s}(I:Inv X pins σ H s)(hc:H c=some (.ext (ft (hashStr X.w) c ks bs vs)))(hp:iM X.K H ks bs) :
  ∃us,av vs us/\bs.length=ks.length/\us.length=ks.length/\s.heap.DictOfH (tupleKind (aA X.prog X.w)) c (eu ks bs us)/\(c==sysModules)=false/\ks.length<=16000000:=by
 have hS:ft (hashStr X.w) c ks bs vs s.heap:=(show aU X.prog X.w H s.heap c (.ext (ft (hashStr X.w) c ks bs vs))from I.hok c _ hc).1;obtain⟨o,es,ep,us,e1,e2,e3,hv,e4,e5,e6,e7,h1,h2⟩:=hS;refine⟨us,hv,h1,h2,⟨o,es,ep,e1,e2,e3,by rw[e4,Ay X.prog X.w],λx hx=>?_,by rw[de h1 h2];exact e5⟩,e6,e7⟩;obtain⟨i,a1,a2⟩:=xE hx;exact jo I (hp i _ _ a1 a2)
def Og:Xq->Option Xn
 | []=>some []
 | .int i::ds=>(Og ds).map (.inl i::·)
 | .str x::ds=>(Og ds).map (.inr x::·)
 | _=>none
theorem jd{K:Fg}{H:Hp}:∀{ds:Xq}{vs:Xs}{q:Xn},ak K H ds vs->Og ds=some q->vs=q.map kV
 | [],vs,_,h,e=>by cases e;exact h
 | .int i::ds,_,_,⟨v,r,e1,h,t⟩,e=>by
  obtain⟨q',e2,rfl⟩:=D_.mp e;rw[e1,jd t e2,show v=V.int i from h];rfl
 | .str x::ds,_,_,⟨v,r,e1,h,t⟩,e=>by
  obtain⟨q',e2,rfl⟩:=D_.mp e;rw[e1,jd t e2,show v=V.str x from h.1];rfl
 | .non::_,_,_,_,e=>by cases e
 | .bl _::_,_,_,_,e=>by cases e
 | .tup _::_,_,_,_,e=>by cases e
 | .lst _::_,_,_,_,e=>by cases e
 | .dct _::_,_,_,_,e=>by cases e
 | .st _::_,_,_,_,e=>by cases e
 | .ln _::_,_,_,_,e=>by cases e
 | .mp _ _ _::_,_,_,_,e=>by cases e
 | .ix _ _ _::_,_,_,_,e=>by cases e
 | .nt _ _::_,_,_,_,e=>by cases e
def E7:D->Option Xn
 | .tup ts=>Og ts
 | _=>none
theorem xU{K:Fg}{Z H H0:Hp}{g:Gr}{d:D}{v:V}{q:Xn}(s:aH Z H)(h:Gd K Z H0 H g d v)(e:E7 d=some q):∃b,v=.ref b/\cy K H b (q.map kV):=by
 cases d<;>try cases e
 obtain⟨b,vs,rfl,hq,rr⟩:=h.tup s;rw[jd rr e]at hq;exact⟨b,rfl,hq⟩
open Classical in
noncomputable def KQ(th:Str->Int):D->Option (Xm×Xq)
 | .mp zL ks ds=>if zL=th then some (ks,ds)else none
 | _=>none
open Classical in
theorem tP(h:KQ th d=some x):d=.mp th x.1 x.2:=by
 cases d<;>try cases h
 unfold KQ at h;obtain⟨rfl,rfl⟩:=kP h
 rfl
open Classical in
theorem Hg(th:Str->Int)(ks:Xm)(ds:Xq):KQ th (.mp th ks ds)=some (ks,ds):=by show(if th=th then some (ks,ds)else none)=_;rw[j_ rfl]
noncomputable def Oq(th:Str->Int)(neg:Bool)(x y:D):Xr:=(E7 x).bind λq=>(KQ th y).bind λm=>some (.bl (if neg then !decide (q∈m.1)else decide (q∈m.1)))
def Lp(K:Fg)(th:Str->Int)(neg:Bool):R2:=λx y H Q=>∃(b c:Xj)(ks:Xm)(bs:W4)(vs:Xs)(q:Xn),x=.ref b/\cy K H b (q.map kV)/\y=.ref c/\H c=some (.ext (ft th c ks bs vs))/\iM K H ks bs/\Q (.bl (if neg then !decide (q∈ks)else decide (q∈ks))) H
theorem Iy(hu:X.A.units+1<cLine)(neg:Bool):gy X (compareOp (if neg then .NotIn else .In)) (Lp X.K (hashStr X.w) neg):=by
 intro pins s σ H x y v u Q I rx ry h;obtain⟨b,c,ks,bs,vs,q,rfl,hq,rfl,hc,hp,qq⟩:=h;cases rx;cases ry;obtain⟨us,hv,h1,h2,dd,nW,hz⟩:=Bt I hc hp;cases neg with
 | false=>
  refine wpAny_in_heap (Wn hu) (jo I hq) nW dd ?_;rw[rp q h1 h2];exact⟨.bl _,H,I.tok _,rfl,qq⟩
 | true=>
  refine wpAny_notIn_heap (Wn hu) (jo I hq) nW dd ?_;rw[rp q h1 h2];exact⟨.bl _,H,I.tok _,rfl,qq⟩
theorem Mr{K:Fg}{th:Str->Int}{neg:Bool}:cb K .cl (Oq th neg) (Lp K th neg):=λ{Z H x y dx dy d Q} s h1 h2 e kq=>by
 obtain⟨q,e1,e⟩:=b_.mp e;obtain⟨m,e2,e3⟩:=b_.mp e;cases e3;cases tP e2;obtain⟨b,rfl,hq⟩:=xU s h1 e1;obtain⟨c,rfl,bs,vs,hc,hp,rr⟩:=h2.mp s;exact⟨b,c,m.1,bs,vs,q,rfl,hq,rfl,hc,hp.mono s,kq _ Z H (Ex.refl s) rfl⟩
theorem Lw(hw:th=hashStr X.w)(hr:a9 k X.A)(ha:PD X ga l fa)(hb:PD X gb r fb)(hm:behindInMarks .In r=false:=by rfl):PB X (.Compare l [.In] [r] pos) (fB (ao (Oq th false) fa fb)):=by
 subst hw;exact kT (Iy (AL hr) false) Mr ha hb hm
end
section
variable {X:Cx}{rg:Gr}{l r:Xk}{fa fb:Fe}{ga gb:Gr}{pos p:Pos}{k:Nat}
theorem CI(hw:th=hashStr X.w):PD X .nm (.Dict [] [] pos) (fC (.mp th [] [])):=λpins s σ H Q I hT=>by
 subst hw;obtain⟨env,B,Z,d,R,e,k⟩:=hT;cases e;have hf:=I.hok.fresh (h_ s.sz);have hd:ft (hashStr X.w) s.sz [] [] [] (s.heap.push {cls:=.type "dict",data:=.dict #[]}):=⟨_,#[],0,[],n_ _ rfl,⟨rfl,rfl,rfl⟩,rfl,.nil,rfl,U6,by have:=I.big;simpa using (T9 this),by simp,rfl,rfl⟩;exact wpAny_Dict_empty ⟨.ref s.sz,_,I.laid (o:=.ext (ft (hashStr X.w) s.sz [] [] [])) (λ_ _ q=>e_ _ q) (h_ _) ⟨hd,⟨_,n_ _ rfl⟩,mJ _ _ _ _ _⟩,rfl,
  k _ Z _ (Ex.newL R.zh hf) ⟨s.sz,_,[],[],rfl,rfl,hf,⟨[],[],ai,λi p b h=>by simp at h,rfl⟩,R.zh.free hf⟩⟩
def setM(i:Nat)(f:Fe):Fs:=λenv=>(f env).bind λd=>match d with | .mp th ks ds=>some (.nx (env.set i (.O (.M th ks ds)))) | _=>none
theorem yu(h:KW X.K rg (setM i f) E σ H):uV (T X.K .nm f) (mE i) E σ H:=by
 refine cO λ_ kq=>?_;obtain⟨env,B,Z,o,R,e,k⟩:=h;obtain⟨d,e1,e2⟩:=b_.mp e;cases d<;>cases e2;rename_i th ks ds;refine kq (⟨env,B,Z,_,R,e1,λv Z' H' x g=>?_⟩)
 all_goals clear kq
 obtain⟨a,zL,gq,NK,rfl,e3,h1,⟨bs,vs,h2,hp,rr⟩,h3⟩:=g;cases e3;refine k _ Z' H' (x.part R.bh) ((R.ext x).setO i (R.bh.free h1) h3 h2 (show bU X.K Z' a (.M th ks ds) _ from⟨bs,vs,rfl,hp,rr⟩) λj es hj hje hja=>?_);obtain⟨y,e4,b,us,e5,e6,_⟩:=R.sl j _ hje;rw[hja]at e4;cases e4;cases e5;rw[h1]at e6;cases e6
theorem Bc(i:Nat)(he:PD X .nm e fe)(hN:X.N.Nodup)(hi:X.N[i]?=some x:=by rfl)(hx:Loc X.env.scope x:=by first | exact Or.inl rfl | exact Or.inr rfl)(hs:swapsWith e (some (.Name x pos')) pos.line X.env=pure false:=by rfl)
  (hf:X.fn x=true\/X.env.scope.names.lookup x=some .local:=by first | exact .inl rfl | exact .inr rfl | assumption):SD X rg (.Assign [.Name x pos'] e pos) (setM i fe):=PS.imp (fW hN hi hx he hs hf) λE σ H h=>yu h
def Cs(i:Nat):Fs:=λenv=>match env[i]? with
 | some (.O (.M th ks ds))=>some (.rt (.mp th ks ds))
 | _=>none
theorem Ce(i:Nat)(hN:X.N[i]?=some x:=by rfl)(hv:wH X.env.scope x:=by first | exact Or.inl rfl | exact Or.inr (Or.inl rfl) | exact Or.inr (Or.inr rfl))(hd:(x==("__debug__":Str))=false:=by decide)
  (dQ:(x==("__classdict__":Str))=false:=by decide):SD X .nm (.Return (some (.Name x p)) pos) (Cs i):=PS.imp (qR (bI hN hv hd dQ)) λE σ H aC=>by
 obtain⟨env,B,Z,o,R,e,k⟩:=aC;unfold Cs at e
 split at e
 .rename_i th ks ds hi;cases e;obtain⟨y,e1,a,o,e2,e3,e4,r⟩:=R.sl i _ hi;obtain⟨bs,vs,rfl,hp,rr⟩:=r;subst e2;exact⟨_,e1,k _ Z H ⟨R.bh,aH.refl _,R.zh,λ_ _ h=>h,λ_ _ _ h=>h⟩ ⟨a,th,ks,ds,rfl,rfl,R.ob i _ a hi e1,⟨bs,vs,e3,hp,rr⟩,e4⟩⟩
 .cases e
def LZ(K:Fg)(th:Str->Int)(td ty tv:TE):TS:=λD σ H=>tv σ H λv H1=>td σ H1 λx H2=>ty σ H2 λy H3=>∃(a b:Xj)(ks:Xm)(bs:W4)(vs:Xs)(q:Xn),x=.ref a/\y=.ref b/\H3 a=some (.ext (ft th a ks bs vs))/\iM K H3 ks bs/\cy K H3 b (q.map kV)/\ks.length<16000000/\
 (bs.length=ks.length->D.nx σ (upd H3 a (.ext (ft th a (uw ks q) (GX ks bs q b) (ux ks vs q v)))))
theorem map_set{pins σ H s}(hu:A.units+1<cLine)(I:Inv X pins σ H s)
  (hc:H a=some (.ext (ft (hashStr X.w) a ks bs vs))) (hp:iM X.K H ks bs) (hq:cy X.K H b (q.map kV)) (hl:ks.length<16000000) (rv:RelV v u)
  (h:∀s',bs.length=ks.length->Inv X pins σ (upd H a (.ext (ft (hashStr X.w) a (uw ks q) (GX ks bs q b) (ux ks vs q v)))) s'->Q () s'):wpAny (model X.prog X.w) A (setItem (.ref a) (.ref b) u) Q E s:=by
 obtain⟨us,hv,h1,h2,dd,nW,hz⟩:=Bt I hc hp;refine wpAny_setItem_heap (hsz:=by rw[FN h1 h2,SB];lia) (Wn hu) (jo I hq) dd λh' dd' hs'=>?_;rw[uC q b u h1 h2]at dd';have hnew:=Gg dd' (av.put rv hv) (Gj h1 q b) (EG h2 q u) nW (by have:=EK ks q;lia);have he:∃u,h'.get? a=some u:=by obtain⟨o,_,_,_,e,_⟩:=hnew;exact⟨o,e⟩
 exact h _ h1 (I.write (by rw[hc];exact True.intro) (.inl rfl) (λb u hb z=>(hs'.2 b hb).trans z) he ⟨hnew,he,mJ _ _ _ _ _⟩)
theorem FC(hu:X.A.units+1<cLine)(ho:PE X o td)(hi:PE X i ty)(hv:PE X value tv)(hs:swapsWith value (some (.Subscript o i pos')) pos.line X.env=pure false) :
  PS X (.Assign [.Subscript o i pos'] value pos) (LZ X.K (hashStr X.w) td ty tv):=by
 intro pins s σ H D I h;refine wpAny_Assign_Subscript (aZ (hv pins s σ H _ I h) λr s1 ⟨v,H1,I1,rv,q1⟩=>aZ (ho pins s1 σ H1 _ I1 q1) λu s2 ⟨x,H2,I2,rx,q2⟩=>aZ (hi pins s2 σ H2 _ I2 q2) λiv s3 aC=>?_) hs;obtain⟨y,H3,I3,ry,a,b,ks,bs,vs,q,ex,ey,hc,hp,hq,hl,q3⟩:=aC;subst ex ey;cases(show u=Value.ref a from rx);cases(show iv=Value.ref b from ry);exact map_set hu I3 hc hp hq hl rv λs4 z I4=>⟨σ,_,I4,q3 z⟩
open Classical in
noncomputable def Cz(th:Str->Int)(i:Nat)(fv fk:Fe):Fs:=λenv=>(fv env).bind λd=>(fk env).bind λkd=>(E7 kd).bind λq=>match env[i]? with
 | some (.O (.M zL ks ds))=>if zL=th/\ks.length<16000000 then some (.nx (env.set i (.O (.M th (uw ks q) (ux ks ds q d)))))else none
 | _=>none
open Classical in
theorem AX(i:Nat)(hw:th=hashStr X.w)(hr:a9 k X.A)(hv:PD X .cl value fv)(hk:PD X .cl key fk)(hN:X.N[i]?=some x:=by rfl)(Hv:wH X.env.scope x:=by first | exact Or.inl rfl | exact Or.inr (Or.inl rfl) | exact Or.inr (Or.inr rfl))
  (hd:(x==("__debug__":Str))=false:=by decide) (dQ:(x==("__classdict__":Str))=false:=by decide)
  (hs:swapsWith value (some (.Subscript (.Name x px) key p2)) pos.line X.env=pure false:=by rfl) :
  SD X rg (.Assign [.Subscript (.Name x px) key p2] value pos) (Cz th i fv fk):=by
 subst hw;refine PS.imp (FC (AL hr) (bI hN Hv hd dQ) hk hv hs) λE σ H aC=>?_;obtain⟨env,B,Z,o,R,e,kq⟩:=aC;obtain⟨d,e1,e⟩:=b_.mp e;obtain⟨kd,e2,e⟩:=b_.mp e;obtain⟨q,e7,e⟩:=b_.mp e;refine⟨env,B,Z,d,R,e1,λv Z1 H1 x1 g1=>?_⟩
 split at e
 .rename_i zL ks ds hi;obtain⟨⟨rfl,hlen⟩,rfl⟩:=kP e;have R1:=R.ext x1;obtain⟨y,e3,c,o,e4,e5,e6,bs,vs,rfl,hp,rr⟩:=R1.sl i _ hi;subst e4;refine⟨_,e3,env,B,Z1,kd,R1,e2,λkv Z2 H2 x2 g2=>?_⟩;have R2:=R1.ext x2;obtain⟨b,rfl,hq⟩:=xU x2.zh (show Gd X.K Z2 H1 H2 .cl kd kv from g2) e7;have hq0:cy X.K Z2 b (q.map kV):=by
   cases kd<;>try cases e7
   obtain⟨b',Qx,e8,uz,rr'⟩:=(show Rep X.K Z2 (.tup _) _ from g2);cases e8;rw[jd rr' e7]at uz;exact uz
  refine⟨c,b,ks,bs,vs,q,rfl,rfl,x2.h _ _ e5,(hp.mono x2.z).mono x2.zh,hq,hlen,λhl=>?_⟩;obtain⟨R3,x3⟩:=R2.wr hi e3 (show bU X.K _ c (.M _ (uw ks q) (ux ks ds q d)) _ from⟨_,_,rfl,iM.put (hp.mono x2.z) hl hq0,ak.put (Rep.mono x2.z d g1) (ak.mono x2.z ds rr)⟩);exact kq σ _ _ (((x1.trans x2).part R.bh).transB x3) R3
 .cases e
end
section
variable {X:Cx}{rg:Gr}{l r:Xk}{fa fb:Fe}{ga gb:Gr}{pos p:Pos}{k:Nat}
end
def era(Z:Hp)(a:Xj):Hp:=λb=>if b=a then none else Z b
theorem ny:era Z a a=none:=j_ rfl
theorem qp(h:b≠a):era Z a b=Z b:=k_ h
theorem Rl.frzX{K:Fg}{B Z H:Hp}{env:En}{σ:L2.St}{w:rM}(R:Rl K B Z H env σ){i:Nat}{a:Xj}{o:HO}(hi:env[i]?=some (.O w))(hs:σ[i]?=some (some (.ref a)))(ho:H a=some o)(hz:Z a=none)(r:bU K Z a w o):Rl K B (upd Z a o) H (env.set i (.F w.d)) σ:=by
 have hb:=R.ob i w a hi hs;have hl:i<env.length:=(i_.mp hi).1;have s1:aH Z (upd Z a o):=cm hz;have s2:aH (upd Z a o) H:=nq R.zh ho;have Gs:∀{j:Nat}{es:rM},(env.set i (.F w.d))[j]?=some (.O es)->i≠j:=λ{j es} h z=>by
  subst z;rw[v_ hl]at h;cases h
 refine⟨R.bh,s2,by simp[R.len],λj s h=>?_,λj fs b h h2=>?_,λj k fs gs b hne h1 h2 h3 h4=>?_⟩
 .by_cases hj:i=j
  .subst hj;rw[v_ hl]at h;cases h;exact⟨_,hs,_,rfl,(r.mono s1).rep ai⟩
  .rw[p_ hj]at h;obtain⟨y,e4,q⟩:=R.sl j s h;refine⟨y,e4,?_⟩;cases s with
   | un=>trivial
   | F d=>obtain⟨v,e5,q⟩:=q;exact⟨v,e5,Rep.mono s1 d q⟩
   | O fs=>
    obtain⟨b,us',e5,e6,e7,q⟩:=q;refine⟨b,us',e5,e6,?_,q.mono s1⟩;rw[ar (λz=>?_)]
    .exact e7
    .subst z;subst e5;exact R.ap i j w fs b hj hi h hs e4
 .have n:=Gs h;rw[p_ n]at h;exact R.ob j fs b h h2
 .have n1:=Gs h1;have n2:=Gs h2;rw[p_ n1]at h1;rw[p_ n2]at h2;exact R.ap j k fs gs b hne h1 h2 h3 h4
theorem Ex.unfrz(hz:Z a=none)(ha:H a=some o)(x:Ex (upd Z a o) H Z' H'):Ex Z H (era Z' a) H':=by
 refine⟨x.h,λb u e=>?_,λb u e=>?_,λb hb e=>?_,λb ob u e=>?_⟩
 .have hne:b≠a:=λz=>by subst z;rw[hz]at e;cases e
  rw[qp hne];exact x.z b u (by rw[ar hne];exact e)
 .by_cases hne:b=a
  .subst hne;rw[ny]at e;cases e
  .rw[qp hne]at e;exact x.zh b u e
 .by_cases hne:b=a
  .subst hne;exact ny
  .rw[qp hne];exact x.fr b hb (by rw[ar hne];exact e)
 .have hne:b≠a:=λz=>by subst z;rw[ny]at e;cases e
  rw[qp hne]at e;have q:=x.nf b ob u e;rw[ar hne]at q;exact q
section
variable {X:Cx}{e:Xk}{f:Fe}
end
section
variable {prog:Xd}{w:Xg}{A:Xe}{E:WT}{s:Xb}{it d:Xj}{i n ep:Nat}{es:Array DictEntry}{od:Obj}{y z:Xa}
end
section
variable {X:Cx}{es:W5}{kk:Nat}{tp:Pos}
end
def kD:Key->D
 | .inl i=>.int i
 | .inr x=>.str x
def AI(k:Xn):Bool:=k.all λx=>match x with | .inl _=>true | .inr x=>PyData.strOk x
theorem rm{K:Fg}{H:Hp}:∀{k:Xn},AI k=true->ak K H (k.map kD) (k.map kV)
 | [],_=>rfl
 | .inl i::k,h=>⟨_,_,rfl,rfl,rm (k:=k) (by unfold AI at h ⊢;simpa using h)⟩
 | .inr x::k,h=>by
  unfold AI at h;rw[VT,F_]at h;exact⟨_,_,rfl,⟨rfl,h.1⟩,rm (k:=k) h.2⟩
section
variable {X:Cx}{es:W5}{kk:Nat}{tp:Pos}
end
section
variable {kx vx:Xk}{gens:WZ}{scope:Xi}{pos:Pos}{d:Nat}{tg iter:Xk}{ifs:W5}{it:Xa}{a:Xj}{env:Env}
end
section
variable {X:Cx}{a:Xj}{kx vx:Xk}{fk fv:Fe}
end
section
variable {X:Cx}{a:Xj}{kx vx:Xk}{gens:WZ}{scope:Xi}{pos:Pos}{d:Nat}{tg iter uA bK:Xk}{ifs kI:W5}{t t':Ft}{c c':Fb}{k:Xo}{fe fk:Fe}{fi:Fi}{is:W7}
end
section
variable {X:Cx}{kx vx:Xk}{rest:WZ}{scope:Xi}{pos:Pos}{tg iter:Xk}{ifs:W5}{t:Ft}{c:Fb}{k:Xo}{fi:Fi}{is caps:W7}{cl:WX}{Nc own:W3}
end
theorem fg:∀{ns:W8}{us:W0},av (ns.map V.int) us->∀(i:Nat)(v:Xa),us[i]?=some v->∃t,v=Value.int (ns.getD i 0) t
 | [],_,.nil,i,v,h=>by simp at h
 | n::ns,_,.cons r t,0,v,h=>by simp at h;subst h;exact r
 | n::ns,_,.cons r t,i+1,v,h=>by
  obtain⟨t',e⟩:=fg t i v (by simpa using h);exact⟨t',by simpa using e⟩
theorem preSum_eq(ns:W8):∀n,n<=ns.length->preSum (λi=>ns.getD i 0) n=(ns.take n).sum
 | 0,_=>by simp[preSum]
 | n+1,h=>by
  have hn:n<ns.length:=h;rw[preSum,preSum_eq ns n (by lia),WR,List.sum_append];simp[List.getD,hn]
section
variable {X:Cx}{l r:Xk}{fa fb:Fe}{ga gb:Gr}{pos p:Pos}
theorem zv(hc:X.calm=true):dD X (.builtin "sum") (λxs H Q=>∃(a:Xj)(ns:W8),xs=[.ref a]/\di X.K H a (ns.map V.int)/\Q (.int ns.sum) H):=by
 intro pins s σ H xs us Q I rs h;obtain⟨a,ns,rfl,hq,q⟩:=h;obtain⟨u,rfl,rx⟩:=vals1 rs;cases rx;obtain⟨aQ,rv,pl,hz⟩:=I.list hq;have hlt:a<s.sz:=by obtain⟨o,ho,_⟩:=pl.isList;exact q_ ho
 have hl:=av.length rv;rw[c_]at hl;refine call_sum_walkG (Vw pl.isList ⟨s.sz,_,_,_,_,_,λi=>ns.getD i 0,rfl,Walks.list (show X.A.in1.handled=none from I.ok.hd hc) s.sz a (z_ hlt) aQ.toArray,⟨⟨_,n_ _ rfl,rfl,rfl⟩,pl.isList.push _⟩,λb hb=>?_,λi v hv=>fg rv i v (by simpa using hv),λh' tk t' hk=>?_⟩)
 .simp only[t_,S0,U3]at hb;rw[VA];rcases hb with rfl | rfl
  .exact Nat.lt_succ_self _
  .exact T5 hlt
 .have e:preSum (λi=>ns.getD i 0) aQ.toArray.size=ns.sum:=by
   rw[show aQ.toArray.size=ns.length by simp[<- hl],preSum_eq ns _ (h_ _),Td]
  rw[e];refine⟨.int ns.sum,H,I.kept λb o e=>hk b o (λhb=>?_) (e_ _ e),⟨_,rfl⟩,q⟩;have:b=s.sz:=by simpa using hb
  exact z_ (q_ e) this
def Ek:D->Xr
 | .lst ds=>(ju ds).bind λns=>some (.int ns.sum)
 | _=>none
theorem Mz{K:Fg}:ij K .cl Ek (λxs H Q=>∃(a:Xj)(ns:W8),xs=[.ref a]/\di K H a (ns.map V.int)/\Q (.int ns.sum) H):=λ{Z H x dx d Q} s h e k=>by
 cases dx<;>try cases e
 obtain⟨ns,h1,h2⟩:=b_.mp e;cases h2;cases jq h1;obtain⟨a,vs,rfl,q,rr⟩:=h.lst s;cases ak.intsV rr;exact⟨a,ns,rfl,q,k _ Z H (Ex.refl s) rfl⟩
theorem yL:bootBuiltins "sum"=some (.builtin "sum"):=by decide +kernel
theorem Nq(hm:X.mg "sum"=none)(bp:X.calm=true)(ha:PD X ga l fa)(hg:Gl X "sum":=by rfl)(he:starEach [l] X.env=[(false,eval l X.env)]:=by rfl):PD X .cl (.Call (.Name "sum" p) [l] [] pos) (br Ek fa):=
 tw (zv bp) Mz yL hm ha (by decide) (by decide) hg he
variable {o e:Xk}{apos be:Pos}
end
section
variable {X:Cx}{rg:Gr}
open Classical in
open Classical in
end
class Th where
 h:Str->Int
end Mi
namespace Lm
open PySem PySem.Spec PyProof.Rows L2
theorem yT{pos:Pos}{a b:Int}{c v:Xa}(l:W0)(h:TriplesOk l):codeAmong pos (l++[rawInt a,rawInt b,c])=some v->codeAmong pos l=some v\/v=c:=by
 fun_induction TriplesOk l with
 | case1=>
  intro z;simp only[Uw,codeAmong,rawInt]at z
  split at z
  .cases z;exact .inr rfl
  .cases z
 | case2 a' t b' u x rest ih=>
  intro z;simp only[Ud,codeAmong]at z ⊢
  split at z
  .rename_i hc;rw[j_ hc];exact .inl z
  .rename_i hc;rw[k_ hc];exact ih h z
 | case3 l h1 h2=>exact h.elim
def vy(f:Xj)(mk:Xa->Xh)(h:Xf):Prop:=∃ctv,h.get? f=some {cls:=.type "function",data:=.func (mk ctv)}
theorem mq(f:Xj)(mk:Xa->Xh):∀h1 h2:Xf,vy f mk h1->(∀o,h1.get? f=some o->h2.get? f=some o)->vy f mk h2:=λ_ _ ⟨c,e⟩ k=>⟨c,k _ e⟩
section
variable {X:Cx}{pins:WU}{σ:L2.St}{H:Hp}{s:Xb}{h':Xf}{P c:Xj}{q:Str}{ps:Array Xa}{a b:Int}{mk:Xa->Xh}{ctv:Xa}{t':Tok}
theorem lam(I:L2.Inv X pins σ H s)(hP:H P=some (.tab q))(hps:s.heap.get? P=some {cls:=.none,data:=.fields ps})(ht:TriplesOk ps.toList)
  (hx:Heap.ExtBut P s.heap h') (h1:s.heap.objs.size<=c) (h2:c<h'.objs.size) (hc:h'.CodeRec (.ref c) q) (hn:h'.get? P=some {cls:=.none,data:=.fields (ps++#[rawInt a,rawInt b,.ref c])}) :
  L2.Inv X pins σ (upd (upd H c (.cod q)) h'.objs.size (.ext (vy h'.objs.size mk))) {s with heap:=h'.push {cls:=.type "function",data:=.func (mk ctv)},toks:=t'}:=by
 have fc:H c=none:=I.hok.fresh h1;have ff:H h'.objs.size=none:=I.hok.fresh (B_ h1 (TV h2));have ncf:c≠h'.objs.size:=z_ h2;have up:∀{b:Xj}{o:HO},H b=some o->upd (upd H c (.cod q)) h'.objs.size (.ext (vy h'.objs.size mk)) b=some o:=λ{b o} e=>by
  rw[ar (aV e ff),ar (aV e fc)];exact e
 have kp:∀b o,b≠P->s.heap.get? b=some o->(h'.push {cls:=.type "function",data:=.func (mk ctv)}).get? b=some o:=λb o hb e=>e_ _ (hx b o hb e);have nP:∀{b:Xj},H b=none->b≠P:=λ{b} n z=>by rw[z,hP]at n;cases n
 refine I.step (g':=s.gens) (d':=s.drawn) (t':=t') (ch:=[]) (λ_ z=>nomatch z) (λb o _ _ _ e n=>kp b o (nP n) e) (λb o _ _ _ e n=>⟨o.slots,kp b o (nP n) e⟩) (λb o _ e n=>?_) (λb o _ e=>?_)
  (λb xs e=>up e) (λb o u e=>up e) (λb ps e=>up e) (λm hm=>?_) (λb u e=>?_) I.bare
 .have lt:=q_ e;rw[ar (z_ (N_ lt (B_ h1 (TV h2)))),ar (z_ (N_ lt h1))];exact n
 .by_cases hb:b=P
  .subst hb;exact⟨_,e_ _ hn⟩
  .exact⟨o,kp b o hb e⟩
 .obtain⟨o,es,ep,ho,r⟩:=hm;exact⟨o,es,ep,kp _ o (nP I.free) ho,r⟩
 .by_cases hf:b=h'.objs.size
  .subst hf;rw[ai]at e;cases e;have z:(h'.push {cls:=.type "function",data:=.func (mk ctv)}).get? h'.objs.size=some {cls:=.type "function",data:=.func (mk ctv)}:=n_ _ rfl;exact⟨⟨ctv,z⟩,⟨_,z⟩,mq _ _⟩
  .rw[ar hf]at e
   by_cases hbc:b=c
   .subst hbc;rw[ai]at e;cases e;obtain⟨c2,oc,vs,t,e2,Gq,hd,hv⟩:=hc;cases e2;exact⟨oc,vs,t,e_ _ Gq,hd,hv⟩
   .rw[ar hbc]at e
    by_cases hbP:b=P
    .subst hbP;rw[hP]at e;cases e;obtain⟨ps0,e0,_,KC⟩:=(show aU X.prog X.w H s.heap b (.tab q)from I.hok b _ hP);rw[hps]at e0;cases e0;refine⟨_,e_ _ hn,?_,λpos v z=>?_⟩
     .rw[Array.toList_append];exact TriplesOk_snoc _ _ _ _ ht
     .rw[Array.toList_append]at z;rcases yT _ ht z with z | z
      .obtain⟨c0,z1,z2⟩:=KC pos v z;exact⟨c0,z1,up z2⟩
      .exact⟨c,z,by rw[ar ncf,ai]⟩
    .refine(I.hok b u e).stay (λd v hd r=>kp d v ?_ r) (λd r=>up r) (λd xs r=>up r) λd xs r=>up r;rcases hd with z | z
     .rw[z];exact hbP
     .exact λw=>by rw[w,hP]at z;cases z
theorem JD(I:L2.Inv X pins σ H s)(hk:∀b o,s.heap.get? b=some o->h'.get? b=some o)(hs:s.heap.objs.size<=h'.objs.size) :
  L2.Inv X pins σ (upd H h'.objs.size (.ext (vy h'.objs.size mk))) {s with heap:=h'.push {cls:=.type "function",data:=.func (mk ctv)},toks:=t'}:=by
 have z:(h'.push {cls:=.type "function",data:=.func (mk ctv)}).get? h'.objs.size=some {cls:=.type "function",data:=.func (mk ctv)}:=n_ _ rfl;exact I.laid (t':=t') (λb u e=>e_ _ (hk b u e)) hs ⟨⟨ctv,z⟩,⟨_,z⟩,mq _ _⟩
end
section
variable {X:Cx}{pins:WU}{σ:L2.St}{H:Hp}{s:Xb}{P c0:Xj}{params:Arguments}{body:Xk}{scope:Xi}{pos:Pos}{zP:WX}
abbrev vP(X:Cx):Str:=X.env.qual++"<lambda>"
abbrev zH(X:Cx)(params:Arguments)(body:Xk)(scope:Xi)(zP:WX)(c:Xj)(ctv:Xa):Xh:=
 PySem.W.kla_fn "<lambda>" (vP X) params body scope zP ((X.mg "__name__").getD .none) (.ref c) ctv
theorem HK{Q:WT}{E:WT}(I:L2.Inv X pins σ H s)(hP:H P=some (.tab (vP X)))(yd:X.env.code=.ref c0)(C:PySem.W.CodeHd X.base c0 P)
  (hB:∃bm o,X.mg "__builtins__"=some (.ref bm)/\bm≠builtinsNs/\bm≠mainGlobals/\X.base.get? bm=some o/\o.cls=.type "module"/\o.dict=some builtinsNs/\o.data=.plain)
  (gX:closureFor scope X.env=pure zP) (KD:defaultsOf params X.env=([],[]))
  (k:∀f c H' s',L2.Inv X pins σ H' s'->aH H H'->H f=none->H' c=some (.cod (vP X))->H' f=some (.ext (vy f (zH X params body scope zP c)))->Q (.ref f) s') :
  wpAny (model X.prog X.w) X.A (eval (.Lambda params body scope pos) X.env) Q E s:=by
 have kb:∀b o,X.base.get? b=some o->s.heap.get? b=some o:=λb o e=>(I.bs b o e).1;obtain⟨ps,e1,ht,KC⟩:=(show aU X.prog X.w H s.heap P (.tab (vP X))from I.hok P _ hP);have hg:s.heap.Ns mainGlobals X.mg:=by
  obtain⟨o,es,ep,e,r⟩:=I.ok.mod.glob;exact⟨o,es,ep,kb _ _ e,r⟩
 have nP:∀b o,X.base.get? b=some o->b≠P:=λb o e z=>by
  have:=(I.bs b o e).2;rw[z,hP]at this;cases this
 have hgP:mainGlobals≠P:=by
  obtain⟨o,es,ep,e,r⟩:=I.ok.mod.glob;exact nP _ _ e
 have hb:s.heap.BuiltinsAt X.mg P:=by
  obtain⟨bm,o,b1,b2,b3,b4,b5⟩:=hB;exact⟨bm,o,b1,b2,b3,nP _ _ b4,kb _ _ b4,b5⟩
 refine PySem.W.kla_eval KD ?_;cases hn:codeAmong pos ps.toList with
 | none=>
  refine PySem.W.kla_makeFunction gX I.ok.glob hg yd (C.keeps kb) e1 ht hn hgP hb λc' ctv h' tk hx Hw hlt hrec htb=>?_;have I':=lam (mk:=zH X params body scope zP c') (ctv:=ctv) (t':=tk) I hP e1 ht hx Hw hlt hrec htb;have fc:H c'=none:=I.hok.fresh Hw;have ff:H h'.objs.size=none:=I.hok.fresh (B_ Hw (TV hlt));exact k _ c' _ _ I' (λb o e=>by rw[ar (aV e ff),ar (aV e fc)];exact e) ff (by rw[ar (z_ hlt),ai]) ai
 | some cv=>
  obtain⟨c',rfl,hc'⟩:=KC pos cv hn;refine PySem.W.kla_makeFunctionHit gX I.ok.glob hg yd (C.keeps kb) e1 ht hn hb λctv h' tk hk hsz=>?_;have I':=JD (mk:=zH X params body scope zP c') (ctv:=ctv) (t':=tk) I hk hsz;have ff:H h'.objs.size=none:=I.hok.fresh hsz;exact k _ c' _ _ I' (λb o e=>by rw[ar (aV e ff)];exact e) ff (by rw[ar (aV hc' ff)];exact hc') ai
end
end Lm
namespace Lm
open PySem PySem.Spec PyProof.Rows L2 Mi
abbrev rj(X:Cx)(scope:Xi)(cl:WX)(f c L:Xj):Env:=newEnv scope L mainGlobals cl (vP X++".<locals>.") (some f) (.ref c) none builtinsNs
def tV(X:Cx)(A:Xe)(scope:Xi)(cl:WX)(Nc:W3)(f c:Xj)(s:Xb)(H:Hp)(pn:WU):Cx:=
 {X with A:=A.deeper (rj X scope cl f c s.sz),N:=Nc,s₀:=s,H₀:=H,env:=rj X scope cl f c s.sz,outer:=X.stack,stack:=rj X scope cl f c s.sz::X.stack,ex:=[],fn:=λ_=>false,calm:=true,pn:=pn,xe:=λ_ _=>False}
section
variable {X:Cx}{A:Xe}{pins:WU}{σ:L2.St}{H:Hp}{s:Xb}{scope:Xi}{cl:WX}{Nc:W3}{caps:W7}{f c:Xj}{x0:Str}{v:V}{u:Xa}
theorem Fk{h1:Xf}{tk:Nat}(I:Inv X pins σ H s)(hd:A.handled=none)(hfr:A.frames=some X.stack)(gX:fR (λx=>X.env.cells.lookup x) scope.names []=some cl)(bo:scope.kind=.function)(hnc:∀y∈scope.names,y.2≠.cell)
  (hN:Nc.map some=some x0::caps.map (λj=>X.N[j]?)) (eT:iy X scope caps=true) (h0:scope.names.lookup x0=some .local) (r:RelV v u)
  (zK:h1.Ns s.sz (λx=>[(x0,u)].reverse.lookup x)) (hk:∀b o,s.heap.get? b=some o->h1.get? b=some o) :
  Inv (tV X A scope cl Nc f c s H (X.pn++pins)) [] ((lj 1 caps σ).set 0 (some v)) H {s with heap:=h1,toks:=tk}:=by
 have mem:=fu gX (λp hp=>by cases hp);have low:∀x c,cl.lookup x=some c->X.env.cells.lookup x=some c:=λx c h=>mem (x,c) (SN h);have Dy:∀b:Xj,b∉(tV X A scope cl Nc f c s H (X.pn++pins)).ex:=λb z=>absurd (show b∈([]:W4)from z) (by simp);refine⟨⟨I.ok.mod,bo,rfl,rfl,h_ _,λx y c h1 h2=>I.ok.inj x y c (low x c h1) (low y c h2),λx hx=>?_,λx c hf _=>absurd (show false=true from hf) P_,λ_=>hd,Around.frames_deeper hfr,.inr ⟨rfl,rfl⟩,λb z=>absurd z (Dy b),
   I.bs,B_ I.ok.bsz I.sz,λb _ _=>Dy b,λb z=>absurd z (Dy b),I.stack,I.stkFree,I.tb⟩,
  rfl,I.bare,Un.kept hk,⟨_,zK,λi x v' e1 e2 e3=>?_⟩,λx c h=>?_,I.hok.fresh (h_ _),λx c h=>I.freeC x c (low x c h),λp hp=>?_,I.hok.kept hk,?_⟩
 .have jJ:scope.names.lookup x=some .cell\/scope.names.lookup x=some .free:=hx;rcases jJ with h | h
  .exact absurd rfl (hnc _ (SN h))
  .obtain⟨c,hc⟩:=eV gX x (.inl (SN h));exact cw hc
 .cases i with
  | zero=>
   have ur:some (some v)=some (some v'):=e2;cases ur;have h1:(Nc.map some)[0]?=some (some x):=by rw[m_,show Nc[0]?=some x from e1];rfl
   rw[hN]at h1;have h2:some (some x0)=some (some x):=h1;cases h2;exact⟨u,r,.inl ⟨h0,by simp⟩⟩
  | succ i=>
   have ur:(caps.map λj=>(σ[j]?).getD none)[i]?=some (some v'):=e2;rw[m_]at ur;cases hj:caps[i]? with
   | none=>rw[hj]at ur;cases ur
   | some j=>
    rw[hj]at ur;have ur:(σ[j]?).getD none=some v':=Option.some.inj ur;have hσ:σ[j]?=some (some v'):=by
     cases q:σ[j]? with
     | none=>rw[q]at ur;cases ur
     | some o=>rw[q]at ur;exact Tp some ur
    have hx:X.N[j]?=some x:=by
     have h1:(Nc.map some)[i+1]?=some (some x):=by rw[m_,show Nc[i+1]?=some x from e1];rfl
     rw[hN]at h1;have h2:(caps.map (λj=>X.N[j]?))[i]?=some (some x):=h1;rw[m_,hj]at h2;exact Option.some.inj h2
    have hc1:=M_.mp eT j (R_ hj);rw[hx]at hc1;simp only[F_,WL,VP]at hc1;obtain⟨hc1,rQ⟩:=hc1;obtain⟨m0,Qe,OA⟩:=I.loc;obtain⟨u,ru,lk⟩:=OA j x v' hx hσ (.inr hc1);refine⟨u,ru,.inr ?_⟩;have Qf:∃c,X.env.cells.lookup x=some c/\s.heap.IsCell c (some u):=by
     rcases lk with ⟨h1,_⟩ | ⟨_,c,h1,h2⟩
     .have h1':X.env.scope.names.lookup x=some .local:=h1;rcases hc1 with z | z<;>· rw[h1']at z;cases z
     .exact⟨c,h1,h2⟩
    obtain⟨c,Qg,Qh⟩:=Qf;obtain⟨c',hc'⟩:=eV gX x (.inl (SN rQ));obtain⟨Qi,CV⟩:=cw hc';have e4:=low x Qi CV;rw[Qg]at e4;cases e4;obtain⟨o,ho,hd⟩:=Qh;exact⟨.inr rQ,c,CV,o,hk c o ho,hd⟩
 .obtain⟨v,o,ho,hd⟩:=I.cell x c (low x c h);exact⟨v,o,hk c o ho,hd⟩
 .have NO:p∈X.pn++pins:=by simpa [tV]using hp
  obtain⟨h1,h2,h3,h4,h5⟩:=I.pin p NO;exact⟨hk _ _ h1,h2,z_ (q_ h1),fw I h3 h4,h5⟩
 .have:=Tp List.length hN;simp only[c_,A_]at this;simp only[lj,V4,r_,Uq,c_];rw[Wf];exact this.symm
def Mb(X:Cx)(pins:WU)(σ:L2.St)(Z H:Hp)(n:Int)(y:Xa)(s':Xb):Prop:=∃t H' Z',y=.int n t/\Inv X pins σ H' s'/\Ex Z H Z' H'
theorem Bp{params:Arguments}{body:Xk}{fl:Fe}{B Z:Hp}{env:En}{d:D}{n:Int}(I:Inv X pins σ H s)(R:Rl X.K B Z H env σ)(hfr:A.frames=some X.stack)(hr:a9 k A)
  (hf:H f=some (.ext (vy f (zH X params body scope cl c)))) (hc:H c=some (.cod (vP X)))
  (hb:∀ctv u,bindArgs (zH X params body scope cl c ctv) ⟨[u],[]⟩=pure [(x0,u)]) (hco:scope.isCoroutine=false) (KF:scope.isGenerator=false)
  (gX:fR (λx=>X.env.cells.lookup x) scope.names []=some cl) (bo:scope.kind=.function) (hnc:∀y∈scope.names,y.2≠.cell)
  (hN:Nc.map some=some x0::caps.map (λj=>X.N[j]?)) (eT:iy X scope caps=true) (h0:scope.names.lookup x0=some .local)
  (hbody:∀s H pn,PD (tV X A scope cl Nc f c s H pn) .cl body fl) (r:RelV v u) (hv:Rep X.K Z d v) (hfl:fl ((cN 1 caps env).set 0 (.F d))=some (.int n)) :
  wpAny (model X.prog X.w) A (call (.ref f) [u]) (Mb X pins σ Z H n) (λ_ _=>False) s:=by
 obtain⟨⟨ctv,hF⟩,_⟩:=(show aU X.prog X.w H s.heap f (.ext _)from I.hok f _ hf);obtain⟨oc,vs,t,h1,h2,h3⟩:=(show aU X.prog X.w H s.heap c (.cod _)from I.hok c _ hc);refine VM (PySem.W.kla_callFunE hr.depth hF rfl hco KF rfl ⟨c,oc,vs,t,rfl,h1,h2,h3⟩ ?_);refine VX (hb ctv u) ?_;refine VY hnc (by intro y hy;rw[s_.mp hy];exact h0) (λh1 zK hsb=>?_) bo;have k:∀b o,s.heap.get? b=some o->h1.get? b=some o:=λb o e=>hsb.extBut b o (z_ (q_ e)) (e_ _ e);refine⟨I.nolimit.keeps k,PySem.W.kla_codeExpr ?_⟩;have J:=Fk (f:=f) (c:=c) (tk:=s.toks+[(x0,u)].length) I hr.hd hfr gX bo hnc hN eT h0 r zK k;have R':Rl X.K H Z H ((cN 1 caps env).set 0 (.F d)) ((lj 1 caps σ).set 0 (some v)):=(R.cap 1 caps (aH.refl _) R.zh).setF 0 hv;refine SI (hbody s H (X.pn++pins) [] _ _ H (λw H'=>∃Z',Ex Z H Z' H'/\Rep X.K Z' (.int n) w) J ⟨_,H,Z,_,R',hfl,λw Z' H' x g=>⟨Z',x,g⟩⟩) (λy s' hy=>?_) λe s' he=>he.elim;obtain⟨w,H',J',rw_,Z',x,g⟩:=hy;cases(show w=.int n from g);obtain⟨t,rfl⟩:=rw_;exact⟨t,H',Z',rfl,I.call' (ch:=[]) J'.os J'.base J'.hok J'.bare (λb z=>absurd z (by simp)),x⟩
end
section
variable {X:Cx}{A:Xe}{pins:WU}{σ:L2.St}{Z H:Hp}{l q I S:Xj}{xs:Xs}{kf:Nat->Int}{R:Result->Xb->Prop}
abbrev GQ(X:Cx)(A:Xe)(σ:L2.St)(Z H:Hp)(q:Xj)(xs:Xs)(kf:Nat->Int):Prop:=∀(i:Nat)(v:V)(u:Xa),xs[i]?=some v->RelV v u->∀(pins:WU)(s:Xb)(Z1 H1:Hp),Inv X pins σ H1 s->Ex Z H Z1 H1->
 wpAny (model X.prog X.w) A (call (.ref q) [u]) (Mb X pins σ Z1 H1 (kf i)) (λ_ _=>False) s
theorem Lr{H1:Hp}{s:Xb}{oS oI:Obj}(J:Inv X pins σ H1 s)(fS:bL X pins H1 S)(fI:bL X pins H1 I)(gS:s.heap.get? S=some oS)(gI:s.heap.get? I=some oI)(dS:∀v,oS.data≠.cell v)(dI:∀v,oI.data≠.cell v):Inv X (pins++[(S,oS),(I,oI)]) σ H1 s:=
 J.pins_of λp hp=>(Su.mp hp).elim (λz=>J.pin p (J_ _ z)) λz=>by
  rcases t_.mp z with rfl | z
  .exact⟨gS,fS.1,fS.2.1,fS.2.2.1,dS⟩
  .rw[s_.mp z];exact⟨gI,fI.1,fI.2.1,fI.2.2.1,dI⟩
theorem bL.at{H1 H2:Hp}{b:Xj}(f:bL X pins H1 b)(h:H2 b=none):bL X pins H2 b:=⟨h,f.2⟩
theorem Bv(hh:A.handled=none)(hS:di X.K H l xs)(RD:l≠I)(RE:l≠S)(N3:S≠I)(turn:GQ X A.in1 σ Z H q xs kf)
  (hR:∀i v u s' Z' H',xs[i]?=some v->RelV v u->(∀j,j<xs.length->kf i<=kf j/\(j<i->kf i<kf j))->Inv X pins σ H' s'->Ex Z H Z' H'->R (.ok (.ret u)) s') :
  ∀(r j i:Nat)(s:Xb)(Z1 H1:Hp)(v:V)(vb:Xa)(tb:Tok)(c:Nat),xs.length-(j+1)=r->j+1<=xs.length->Inv X pins σ H1 s->Ex Z H Z1 H1->bL X pins H1 S->bL X pins H1 I->
   s.heap.get? S=some (seqObj "list" #[vb,.int (kf i) tb] c)->s.heap.IsListIter I l (j+1)->xs[i]?=some v->RelV v vb->i<=j->(∀j',j'<=j->kf i<=kf j'/\(j'<i->kf i<kf j'))->
   codeAny (model X.prog X.w) A (.builtin "min.loop" ⟨[.ref I,.ref q,.ref S],[]⟩) R s:=by
 have uv:(toString "min"++toString ".loop":String)="min.loop":=by decide
 intro r
 induction r with
 | zero=>
  intro j i s Z1 H1 v vb tb c hr hj J x fS fI gS hit hv rv yc hbest;obtain⟨aQ,ri,p,_⟩:=J.list (x.h.seq hS);have hin:aQ.length=j+1:=by have:=ri.length;lia
  refine Vl VD ?_;rw[V1 Te _];show wpAny _ A.in1 (seqItems? (.ref S) >>= _) _ _ _;refine a_ (TH gS rfl ?_);show wpAny _ A.in1 (tryCatch (pyNext (.ref I)) _ >>= _) _ _ _;refine a_ (U7 (VH hh hit p.isList (by simp[hin]) λh' eb=>?_));have gS':=eb S _ N3 gS;have J1:Inv X pins σ H1 {s with heap:=h'}:=J.turned (t':=s.toks) (λb o hb e=>eb b o hb e) fI.1 fI.2.1 fI.2.2.2.1 fI.2.2.2.2.1 fI.2.2.2.2.2;have s1:=SM h' S (Obj.mapSeq λ_=>(#[]:Array Xa));show wpAny _ A.in1 (updateSeq S (λ_=>#[]) >>= _) _ _ _;refine a_ ?_;refine wpAny_updateSeq gS' rfl (a_ (VZ (d_ ?_)));exact hR i v vb _ _ _ hv rv (λj' hj'=>hbest j' (by lia)) (J1.turned (t':=s.toks) (λb o hb e=>(s1.2 b hb).trans e) fS.1 fS.2.1 fS.2.2.2.1 fS.2.2.2.2.1 fS.2.2.2.2.2) x
 | succ r ih=>
  intro j i s Z1 H1 v vb tb c hr hj J x fS fI gS hit hv rv yc hbest;have hlt:j+1<xs.length:=by lia
  obtain⟨aQ,ri,p,_⟩:=J.list (x.h.seq hS);have hx:xs[j+1]?=some xs[j+1]:=f_ hlt;obtain⟨u,hu,ru⟩:=ri.get hx;refine Vl VD ?_;rw[V1 Te _];show wpAny _ A.in1 (seqItems? (.ref S) >>= _) _ _ _;refine a_ (TH gS rfl ?_);show wpAny _ A.in1 (tryCatch (pyNext (.ref I)) _ >>= _) _ _ _;refine a_ (U7 (UM hit p.isList (x:=u) (by simpa using hu) λh' lS sb=>?_));have J1:Inv X pins σ H1 {s with heap:=h'}:=J.turned (t':=s.toks) (λb o hb e=>(sb.2 b hb).trans e) fI.1 fI.2.1 fI.2.2.2.1 fI.2.2.2.2.1 fI.2.2.2.2.2;obtain⟨OG,KG,Gq,zQ⟩:=id lS;have gS1:=(sb.2 S N3).trans gS;have J2:=Lr J1 fS fI gS1 KG (λv z=>by cases z) (λv z=>by rw[zQ]at z;cases z);show wpAny _ A.in1 (tryCatch (holding [u] (call (.ref q) [u])) _ >>= _) _ _ _;refine a_ (U7 (Q_ (SI (turn (j+1) _ u hx ru _ _ Z1 H1 J2 x) (λy s2 he=>?_) λ_ _ hF=>hF.elim)));obtain⟨t2,H2,Z2,rfl,J3,x2⟩:=he;have nS:=J3.pin (S,_) (J_ _ (J_ _ (.head _)));have nI:=J3.pin (I,_) (J_ _ (J_ _ (.tail _ (.head _))));have J4:=J3.unpinned;have Kw:s2.heap.IsListIter I l (j+1+1):=⟨OG,nI.1,Gq,zQ⟩;show wpAny _ A.in1 (tryCatch (holding [u,.int (kf (j+1)) t2] (richCompare .Lt (.int (kf (j+1)) t2) (.int (kf i) tb) >>= _)) _ >>= _) _ _ _;refine a_ (U7 (Q_ (a_ (CmpOf.ints_lt (prog:=X.prog) (w:=X.w) (A:=A.in1) (P:=λi v=>∃t,v=.int (kf i) t) kf (λi v h=>h) (j+1) i _ _ _ _ _ ⟨t2,rfl⟩ ⟨tb,rfl⟩ ?_))));refine a_ (Q_ (TC ?_));refine a_ (VZ (d_ ?_));have ye:bL X pins H2 S:=bL.at fS nS.2.1;have OH:bL X pins H2 I:=bL.at fI nI.2.1
  by_cases zM:kf (j+1)<kf i
  .have s1:=SM s2.heap S (Obj.mapSeq λ_=>#[u,.int (kf (j+1)) t2]);obtain⟨c2,rQ⟩:∃c2,(s2.heap.update S (Obj.mapSeq λ_=>#[u,.int (kf (j+1)) t2])).get? S=some (seqObj "list" #[u,.int (kf (j+1)) t2] c2):=⟨_,V5 nS.1 λ_=>#[u,.int (kf (j+1)) t2]⟩;simp only[zM,decide_true,Up];refine a_ ?_;refine wpAny_updateSeq nS.1 rfl (a_ (VZ ?_));rw[uv];refine d_ ⟨WD Te _,ih (j+1) (j+1) _ Z2 H2 _ u t2 c2 (by lia) hlt (J4.turned (t':=s2.toks) (λb o hb e=>(s1.2 b hb).trans e) ye.1 ye.2.1 ye.2.2.2.1 ye.2.2.2.2.1 ye.2.2.2.2.2) (x.trans x2) ye OH rQ
    ⟨OG,(s1.2 I N3.symm).trans nI.1,Gq,zQ⟩ hx ru (h_ _) λj' hj'=>?_⟩
   by_cases e:j'=j+1
   .subst e;exact⟨by lia,λ_=>by lia⟩
   .have hb1:=hbest j' (by lia);have hb2:=hb1.1;exact⟨by lia,λ_=>by lia⟩
  .simp only[zM,decide_false,x_,SV];refine a_ (VZ ?_);rw[uv];refine d_ ⟨WD Te _,ih (j+1) i s2 Z2 H2 v vb tb c (by lia) hlt J4 (x.trans x2) ye OH nS.1 Kw hv rv (by lia) λj' hj'=>?_⟩
   by_cases e:j'=j+1
   .subst e;exact⟨by lia,λ_=>by lia⟩
   .exact hbest j' (by lia)
theorem Er{s:Xb}{Q:WT}{E:WT}(hh:A.handled=none)(hS:di X.K H l xs)(J:Inv X pins σ H s)(zh:aH Z H)(hne:0<xs.length)(turn:GQ X A.in1 σ Z H q xs kf)
  (hQ:∀i v u s' Z' H',xs[i]?=some v->RelV v u->(∀j,j<xs.length->kf i<=kf j/\(j<i->kf i<kf j))->Inv X pins σ H' s'->Ex Z H Z' H'->Q u s') :
  wpAny (model X.prog X.w) A (call (.builtin "min") [.ref l] [("key",.ref q)]) Q E s:=by
 have uv:(toString "min"++toString ".loop":String)="min.loop":=by decide
 obtain⟨aQ,ri,p,_⟩:=J.list hS;have hll:=p.lt;refine kmk_tree PySem.F.kind_min PySem.F.plain_min PySem.F.entry_min (kmk_min_key _ _) ?_;show wpAny _ A.in1 (Builtin.Builtins.bindParams "min" ["key","default"] 0 ⟨[],[("key",.ref q)]⟩ >>= _) _ _ s;refine a_ (VX (show Builtin.Builtins.bindParams "min" ["key","default"] 0 ⟨[],[("key",.ref q)]⟩=pure [some (.ref q),none]from rfl) ?_);refine a_ (d_ ?_);refine a_ (Vw p.isList ?_);refine a_ (UY ?_ (Ub _));rw[uv];have sI:(s.heap.push {cls:=.type "list_iterator",data:=.fields #[.ref l,.int 0 0]}).objs.size=s.heap.objs.size+1:=Wm ..;rw[sI];have gI:((s.heap.push {cls:=.type "list_iterator",data:=.fields #[.ref l,.int 0 0]}).push (seqObj "list" #[] 0)).get? s.heap.objs.size=some {cls:=.type "list_iterator",data:=.fields #[.ref l,.int 0 0]}:=
  e_ _ (n_ _ rfl)
 have gS:((s.heap.push {cls:=.type "list_iterator",data:=.fields #[.ref l,.int 0 0]}).push (seqObj "list" #[] 0)).get? (s.heap.objs.size+1)=some (seqObj "list" #[] 0):=by rw[<- sI];exact n_ _ rfl
 have kk:∀b o,s.heap.get? b=some o->((s.heap.push {cls:=.type "list_iterator",data:=.fields #[.ref l,.int 0 0]}).push (seqObj "list" #[] 0)).get? b=some o:=λb o e=>e_ _ (e_ _ e);have fI:bL X pins H s.heap.objs.size:=J.fpOk (h_ _) (J.hok.fresh (h_ _));have fS:bL X pins H (s.heap.objs.size+1):=J.fpOk (UL _) (J.hok.fresh (UL _));have N3:s.heap.objs.size+1≠s.heap.objs.size:=WE _;have RD:l≠s.heap.objs.size:=z_ hll;have RE:l≠s.heap.objs.size+1:=z_ (T5 hll);have J0:Inv X pins σ H {s with heap:=(s.heap.push {cls:=.type "list_iterator",data:=.fields #[.ref l,.int 0 0]}).push (seqObj "list" #[] 0)}:=J.kept (t':=s.toks) kk;generalize hh2:(s.heap.push {cls:=.type "list_iterator",data:=.fields #[.ref l,.int 0 0]}).push (seqObj "list" #[] 0)=h2 at gI gS J0 kk;refine d_ ⟨WD Te _,?_⟩;have hx:xs[0]?=some xs[0]:=f_ hne;obtain⟨v7,ri2,p2,_⟩:=J0.list hS;obtain⟨u,hu,ru⟩:=ri2.get hx;refine Vl VD ?_;rw[V1 Te _];show wpAny _ A.in1 (seqItems? (.ref _) >>= _) _ _ _;refine a_ (TH gS rfl ?_);show wpAny _ A.in1 (tryCatch (pyNext (.ref s.heap.objs.size)) _ >>= _) _ _ _;refine a_ (U7 (UM ⟨_,gI,rfl,rfl⟩ p2.isList (x:=u) (by simpa using hu) λh' lS sb=>?_));have J1:Inv X pins σ H {s with heap:=h'}:=J0.turned (t':=s.toks) (λb o hb e=>(sb.2 b hb).trans e) fI.1 fI.2.1 fI.2.2.2.1 fI.2.2.2.2.1 fI.2.2.2.2.2;obtain⟨OG,KG,Gq,zQ⟩:=id lS;have gS1:=(sb.2 _ N3).trans gS;have J2:=Lr J1 fS fI gS1 KG (λv z=>by cases z) (λv z=>by rw[zQ]at z;cases z);show wpAny _ A.in1 (tryCatch (holding [u] (call (.ref q) [u])) _ >>= _) _ _ _;refine a_ (U7 (Q_ (SI (turn 0 _ u hx ru _ _ Z H J2 (Ex.refl zh)) (λy s2 he=>?_) λ_ _ hF=>hF.elim)));obtain⟨t2,H2,Z2,rfl,J3,x2⟩:=he;have nS:=J3.pin (_,_) (J_ _ (J_ _ (.head _)));have nI:=J3.pin (_,_) (J_ _ (J_ _ (.tail _ (.head _))));have J4:=J3.unpinned;have ye:bL X pins H2 (s.heap.objs.size+1):=bL.at fS nS.2.1;have OH:bL X pins H2 s.heap.objs.size:=bL.at fI nI.2.1;have s1:=SM s2.heap (s.heap.objs.size+1) (Obj.mapSeq λ_=>#[u,.int (kf 0) t2]);obtain⟨c2,rQ⟩:∃c2,(s2.heap.update (s.heap.objs.size+1) (Obj.mapSeq λ_=>#[u,.int (kf 0) t2])).get? (s.heap.objs.size+1)=some (seqObj "list" #[u,.int (kf 0) t2] c2):=⟨_,V5 nS.1 λ_=>#[u,.int (kf 0) t2]⟩;show wpAny _ A.in1 (updateSeq (s.heap.objs.size+1) (λ_=>#[u,.int (kf 0) t2]) >>= _) _ _ _;refine a_ ?_;refine wpAny_updateSeq nS.1 rfl ?_;rw[uv];refine d_ ⟨WD Te _,Bv hh hS RD RE N3 turn (λi v u s' Z' H' h1 h2 h3 h4 h5=>hQ i v u s' Z' H' h1 h2 h3 h4 h5) _ 0 0 _ Z2 H2 _ u t2 c2 rfl hne
  (J4.turned (t':=s2.toks) (λb o hb e=>(s1.2 b hb).trans e) ye.1 ye.2.1 ye.2.2.2.1 ye.2.2.2.2.1 ye.2.2.2.2.2) x2 ye OH rQ ⟨OG,(s1.2 _ N3.symm).trans nI.1,Gq,zQ⟩ hx ru (h_ _) λj' hj'=>?_⟩
 have e:j'=0:=by lia
 subst e;exact⟨by lia,λh=>absurd h (Uc _)⟩
end
end Lm
namespace Mi
open PySem PySem.Spec PyProof.Rows L2
section
variable {X:Cx}{a:Xj}{elt:Xk}{fe:Fe}
end
def Jk:D->D->Xr
 | .lst xs,.int k=>if 0<=k/\xs.length*k.toNat<=16000000/\k<1000000000 then some (.lst (List.replicate k.toNat xs).flatten)else none
 | _,_=>none
theorem ak.rep{K:Fg}{Z:Hp}{ds:Xq}{vs:Xs}(h:ak K Z ds vs):∀(k:Nat),ak K Z (List.replicate k ds).flatten (List.replicate k vs).flatten
 | 0=>rfl
 | k+1=>by rw[S5,S5,TF,TF];exact h.app (ak.rep h k)
theorem Iq(ha:PD X .nw l fa)(hb:PD X gb r fb):PD X .nw (.BinOp l .Mult r pos) (ao Jk fa fb):=PE.imp (xM J9 ha hb) λσ H Q aC=>by
 obtain⟨env,B,Z,d,R,e,k⟩:=aC;obtain⟨x,y,e1,e2,e3⟩:=tj e;cases x<;>try cases e3
 cases y<;>try cases e3
 rename_i ds n;obtain⟨hc,rfl⟩:=kP e3;refine⟨env,B,Z,_,R,e1,λv Z1 H1 x1 g1=>⟨env,B,Z1,_,R.ext x1,e2,λu Z2 H2 x2 g2=>?_⟩⟩;obtain⟨b,us,NK,rfl,e4,hb0,hb1,hb2,rr⟩:=g1;cases e4;cases g2.int;have hl:=rr.len;refine⟨b,n,us,rfl,rfl,x2.h _ _ hb1,by lia,by lia,by rw[<- hl,SB];lia,λp hp=>?_⟩;have x12:=x1.trans x2;exact k _ Z2 _ (x12.trans (Ex.newL x12.zh hp)) ⟨p,_,_,rfl,rfl,x12.h.free hp,ai,x12.zh.free hp,(ak.mono x2.z ds rr).rep _⟩
def O9:Xq->Option W8
 | []=>some []
 | .int n::r=>(O9 r).bind λns=>some (n::ns)
 | _=>none
def noO(env:En):Bool:=env.all λs=>match s with | .O _=>false | _=>true
structure GrAt(a:Addr)(bs:List Addr)(g:List (List Int))(B Z H:Hp):Prop where
 ha:H a=some (.lst (bs.map V.ref))
 ba:B a=none
 za:Z a=none
 nd:bs.Nodup
 len:bs.length=g.length
 el:∀(i:Nat)(b:Addr),bs[i]?=some b->b≠a/\B b=none/\Z b=none/\∃ns:List Int,g[i]?=some ns/\H b=some (.lst (ns.map V.int))
section
variable {X:Cx}{comp iter1 iter2:Xk}{fc:Fe}{fi1 fi2:Fi}{q:D->Xp}{tb sh mn rw cn:Str}{k1 k2:Nat}{pt p1 p2 p3 p4 p5 p6 p7 p8 p9 pa pb pc pd pe pf pg ph spos:Pos}
end
end Mi
namespace Mi
open PySem
end Mi
namespace Mi
open PySem PySem.Spec PyProof.Rows L2
section
variable {X:Cx}{l r:Xk}{fa fb:Fe}{ga gb:Gr}{pos p:Pos}
end
section
variable {prog:Xd}{w:Xg}{A:Xe}{E:WT}{s:Xb}{it d:Xj}{i ep:Nat}{es:Array DictEntry}{od:Obj}
theorem mm(hit:s.heap.IsKeyIter it d i es.size ep)(zQ:s.heap.get? d=some od)(N4:od.data=.dict es ep)(hlt':i<es.size)
  (hQ:∀h',h'.IsKeyIter it d (i+1) es.size ep->Heap.SameBut it s.heap h'->Q (some es[i].key) {s with heap:=h'}):wpAny (model prog w) A (pyNext (.ref it)) Q E s:=by
 obtain⟨o,ho,hc,hd⟩:=id hit;unfold pyNext;refine a_ (UZ (S3 (name:="__next__") hit.typeIs Tr
  (SC Tr hit.typeIs F.entry_dict_keyiterator_next ?_ (F.args_dict_keyiterator_next_1 _))))
 refine a_ (d_ (a_ (a_ ?_)))
 first | refine a_ (T1 hit.typeIs (d_ ?_)) | refine a_ (UF hit.typeIs (d_ ?_))
 refine a_ (Wo ho hd ?_);have KH:Builtin.Dict_items.ownsTuple "dict_keyiterator"=false:=by decide
 simp only[KH,x_,SV];show wpAny _ _ (if(Value.ref d==Value.none)=true then _ else _) _ _ s;rw[k_ (show ¬((Value.ref d==Value.none)=true)from P_)];refine a_ (d_ (a_ (VE zQ N4 ?_)));rw[k_ (by simp)];refine a_ (d_ (a_ (wpAny_dictEpoch zQ N4 ?_)));rw[k_ (by simp)];refine d_ ?_;simp only[show ¬((i:Int)<0)from by lia,SV,SR,SJ hlt'];refine a_ ?_
 first | refine a_ (T1 hit.typeIs (d_ ?_)) | refine a_ (UF hit.typeIs (d_ ?_))
 refine a_ (wpAny_isOneOf_keyiter hit.typeIs ?_);show wpAny _ _ (setField (.ref it) 1 (rawInt ((i:Int)+1)) >>= _) _ _ s;refine a_ (TY ho hd (by simp) ?_);have Dj:(s.heap.update it (Obj.mapFields (·.setIfInBounds 1 (rawInt ((i:Int)+1))))).IsKeyIter it d (i+1) es.size ep:=
  ⟨_,SS _ ho (Tn (SZ hd _)),(Wz ..).trans hc,by rw[SZ hd];simp[rawInt]⟩
 refine a_ (Q_ ?_);refine a_ (wpAny_isOneOf_keyiter (s:={s with heap:=s.heap.update it (Obj.mapFields (·.setIfInBounds 1 (rawInt ((i:Int)+1))))}) Dj.typeIs ?_);show wpAny _ _ (pure es[i].key) _ _ _;exact d_ (d_ ⟨_,rfl,d_ (hQ _ Dj (SM ..))⟩)
theorem qX(hh:A.handled=none)(hit:s.heap.IsKeyIter it d i es.size ep)(zQ:s.heap.get? d=some od)(N4:od.data=.dict es ep)(Hw:es.size<=i)
  (hQ:∀h',Heap.ExtBut it s.heap h'->Q none {s with heap:=h'}):wpAny (model prog w) A (pyNext (.ref it)) Q E s:=by
 obtain⟨o,ho,hc,hd⟩:=id hit;unfold pyNext;refine a_ (UZ (S3 (name:="__next__") hit.typeIs Tr
  (SC Tr hit.typeIs F.entry_dict_keyiterator_next ?_ (F.args_dict_keyiterator_next_1 _))))
 refine a_ (d_ (a_ (a_ ?_)))
 first | refine a_ (T1 hit.typeIs (d_ ?_)) | refine a_ (UF hit.typeIs (d_ ?_))
 refine a_ (Wo ho hd ?_);have KH:Builtin.Dict_items.ownsTuple "dict_keyiterator"=false:=by decide
 simp only[KH,x_,SV];show wpAny _ _ (if(Value.ref d==Value.none)=true then _ else _) _ _ s;rw[k_ (show ¬((Value.ref d==Value.none)=true)from P_)];refine a_ (d_ (a_ (VE zQ N4 ?_)));rw[k_ (by simp)];refine a_ (d_ (a_ (wpAny_dictEpoch zQ N4 ?_)));rw[k_ (by simp)];refine d_ ?_;simp only[show ¬((i:Int)<0)from by lia,SV,SR,Tf Hw];refine a_ ?_
 first | refine a_ (T1 hit.typeIs (d_ ?_)) | refine a_ (UF hit.typeIs (d_ ?_))
 show wpAny _ _ (setField (.ref it) 0 .none >>= _) _ _ s;refine a_ (TY ho hd (by simp) ?_);show wpAny _ _ (newExc (.type "StopIteration") [] >>= _) _ _ _;refine a_ ?_;simp only[newExc,newTuple];refine a_ (S7 ?_ (by size_fits));refine a_ (m:=firstArgMember _ _) (VX (a:=Value.none) (by first | rfl | (simp only[firstArgMember];rfl)) ?_);refine S7 ?_ (by size_fits);simp only[raiseNew];refine a_ (wpAny_handled ?_);rw[show A.in1.handled=none from hh];refine a_ (d_ (wpAny_throw ?_));refine a_ (Ue (T:="StopIteration") (b:=true) ⟨_,n_ _ rfl,rfl⟩ isSubtype_stop ?_);exact d_ (hQ _ (((SM ..).extBut.push _).push _))
theorem me(hs:(d==sysModules)=false)(ho:s.heap.get? d=some od)(hc:od.ExactDict)(N5:od.data=.dict es ep)
  (hQ:Q (.ref s.heap.objs.size) {s with heap:=s.heap.push {cls:=.type "dict_keyiterator",data:=.fields #[.ref d,.int 0 0,.int es.size 0,.int ep 0]}}):wpAny (model prog w) A (pyIter (.ref d)) Q E s:=by
 have hT:s.TypeIs (.ref d) "dict":=⟨od,ho,hc.1⟩;refine WC hT F.slot_dict_iter (SC F.slot_dict_iter hT F.entry_dict_iter ?_ (F.args_dict_iter_1 _));unfold Builtin.«dict.__iter__»;refine a_ ?_;unfold Builtin.Dict.dictSlotNone;refine a_ (wpAny_notOrdered_dict hT ?_);show wpAny _ _ (pure (Value.ref d)) _ _ s;refine d_ ?_;show wpAny _ _ (Builtin.Dict.showsAll d >>= _) _ _ s;unfold Builtin.Dict.showsAll;rw[k_ (by rw[hs];exact P_)];refine a_ (d_ (a_ (VE ho N5 (a_ (wpAny_dictEpoch ho N5 ?_)))));exact a_ (S7 (d_ ⟨_,rfl,"dict_keyiterator",_,⟨_,n_ _ rfl,rfl⟩,Tr.lookup,hQ⟩))
end
def P2(d:Xj)(es:Array DictEntry)(ep:Nat)(h:Xf):Prop:=∃o,h.get? d=some o/\o.ExactDict/\o.data=.dict es ep
theorem Es{prog:Xd}{w:Xg}{d:Xj}{es:Array DictEntry}{ep:Nat}(lo:(d==sysModules)=false):PySem.W.KdlSrc prog w "dict" d d es.size (λi v=>∃e,es[i]?=some e/\v=e.key) (P2 d es ep) where
 type:=λ_ ⟨o,h1,h2,_⟩=>⟨o,h1,h2.1⟩
 there:=λ_ ⟨o,h1,_⟩=>⟨q_ h1,q_ h1⟩
 keep:=λ_ _ ⟨o,h1,h2⟩ hk=>⟨o,hk d (.inl rfl) o h1,h2⟩
 notList:=by decide
 notTuple:=by decide
 hint:=λ_ _ _ _ ⟨o,h1,h2,_⟩ hq=>PySem.W.kdl_hint_dict ⟨o,h1,h2.1⟩ hq
 iter:=λA s hh ⟨o,h1,h2,h3⟩=>by
  have hne:d≠s.heap.objs.size:=z_ (q_ h1);refine⟨_,λi h=>h.IsKeyIter s.heap.objs.size d i es.size ep/\P2 d es ep h,λ_ _ hq=>me lo h1 h2 h3 hq,⟨λb hb=>by simp at hb;simp[hb],λ_ _ _ st hk=>⟨st.1.at λo e=>hk _ (by simp) o e,let ⟨o,e,r⟩:=st.2;⟨o,hk d (by simp) o e,r⟩⟩,λi s' Q E hi st hQ=>?_,λs' Q E st hQ=>?_,λ_ _ _ _ st hQ=>V2 st.1 hQ⟩,⟨⟨_,n_ _ rfl,rfl,rfl⟩,o,e_ _ h1,h2,h3⟩⟩
  .obtain⟨hit,o,e1,e2,e3⟩:=st;exact mm hit e1 e3 hi λh' Dj hs'=>hQ _ h' s'.toks ⟨_,SJ hi,rfl⟩ ⟨Dj,o,hs'.extBut _ _ hne e1,e2,e3⟩ λb o hb e=>hs'.extBut b o (λh=>hb (by simp[h])) e
  .obtain⟨hit,o,e1,e2,e3⟩:=st;exact qX hh hit e1 e3 (h_ _) λh' uk=>hQ h' s'.toks λb o hb e=>uk b o (λh=>hb (by simp[h])) e
section
variable {X:Cx}{l r e:Xk}{fa fb:Fe}{ga gb:Gr}{pos p:Pos}{k:Nat}{th:Str->Int}
theorem kh:∀bs:W4,av (bs.map V.ref) (bs.map Value.ref)
 | []=>.nil
 | _::bs=>.cons rfl (kh bs)
theorem gZ{K:Fg}{Z:Hp}:∀{ks:Xm}{bs:W4},bs.length=ks.length->iM K Z ks bs->ks.all AI=true->ak K Z (ks.map λk=>.tup (k.map kD)) (bs.map V.ref)
 | [],[],_,_,_=>rfl
 | [],_::_,h,_,_=>by simp at h
 | _::_,[],h,_,_=>by simp at h
 | k::ks,b::bs,hl,h,ho=>by
  rw[VT,F_]at ho;exact⟨_,_,rfl,⟨b,_,rfl,h 0 k b rfl rfl,rm ho.1⟩,gZ (by simpa using hl) (λi k b h1 h2=>h (i+1) k b h1 h2) ho.2⟩
noncomputable def GY(th:Str->Int)(x:D):Xr:=(KQ th x).bind λm=>if m.1.all AI=true then some (.lst (m.1.map λk=>.tup (k.map kD)))else none
end
theorem K4{α:Type}{p:List α->Prop}(h:∀a,p [a]):∀us:List α,us.length=1->p us
 | [a],_=>h a
theorem M7{α:Type}{p:List α->Prop}(h:∀a b,p [a,b]):∀us:List α,us.length=2->p us
 | [a,b],_=>h a b
theorem Mx{α:Type}{p:List α->Prop}(h:∀a b c,p [a,b,c]):∀us:List α,us.length=3->p us
 | [a,b,c],_=>h a b c
abbrev ic(K:Fg)(x:Str)(st:Xl)(f:Xj):Prop:=∃(oc kV dc pm cd ct:Xa)(od an:W2)(sl:WV),PySem.W.nsIn K mainGlobals x=some (some (.ref f))/\K.lookup f=some ⟨oc,od,.func (PySem.W.fnOf x x (bT st) (aT st) (ax st) .none kV dc pm an cd ct),sl⟩/\PySem.W.codeIn K cd x=true/\PySem.W.keepIn K (.ref f)=true
section
variable {K:Fg}{h:Xf}{mg:WW}{x:Str}{st:Xl}{f:Xj}
theorem ic.fn(A:ic K x st f)(X:K.In h)(G:h.Ns mainGlobals mg):∃fd,yb K x x st f fd/\PySem.W.keepIn K (.ref f)=true/\mg x=some (.ref f):=by
 obtain⟨_,_,_,_,_,_,_,_,_,a,l,c,k⟩:=A;exact⟨_,Ax l c k,k,PySem.W.mg_of X G a⟩
theorem Nm{oc kV dc pm cd ct:Xa}{od an:W2}{sl:WV}(a:PySem.W.nsIn K mainGlobals x=some (some (.ref f)))(l:K.lookup f=some ⟨oc,od,.func (PySem.W.fnOf x x (bT st) (aT st) (ax st) .none kV dc pm an cd ct),sl⟩)(c:PySem.W.codeIn K cd x=true)(k:PySem.W.keepIn K (.ref f)=true):ic K x st f:=⟨_,_,_,_,_,_,_,_,_,a,l,c,k⟩
variable {P:Xd}{w:Xg}{base:Xf}{d n:Nat}{g:Gr}{m:Xq->Xr}{fd:Xh}{ps:W3}
theorem u7(O:dj P w K mg base jR d f fd ps (Ao K n g m))(hk:PySem.W.keepIn K (.ref f)=true)(hm:mg x=some (.ref f))(hb:Binds K fd ps [])(hn:ps.length=n:=by rfl):∀j,d<=j->NL P w K mg base j x n g m:=
 λ_ hj=>⟨f,fd,ps,hn,O.mono hj,hm,hk,hb⟩
end
structure Wd where
 P:Program
 w:World
 K:Fg
 mg:Str->Option Value
 base:Heap
abbrev Wd.Q(W:Wd)(d:Nat)(x:Str)(n:Nat)(g:Gr)(m:Xq->Xr):Prop:=∀j,d<=j->NL W.P W.w W.K W.mg W.base j x n g m
abbrev Wd.At(W:Wd)(x:Str)(st:Xl):Prop:=∃f fd,yb W.K x x st f fd/\PySem.W.keepIn W.K (.ref f)=true/\W.mg x=some (.ref f)
theorem ic.at{K:Fg}{h:Xf}{mg:WW}{x:Str}{st:Xl}{f:Xj}(X:K.In h)(G:h.Ns mainGlobals mg)(A:ic K x st f):∃f fd,yb K x x st f fd/\PySem.W.keepIn K (.ref f)=true/\mg x=some (.ref f):=
 let ⟨fd,a⟩:=A.fn X G
 ⟨f,fd,a⟩
abbrev Bi(x:Str)(st:Xl)(ps:W3):Prop:=∀(kV doc pm:Xa)(an:W2)(bq ct:Xa)(us:W0),us.length=ps.length->bindArgs (PySem.W.fnOf x x (bT st) (aT st) (ax st) .none kV doc pm an bq ct) ⟨us,[]⟩=pure (ps.zip us)
variable {W:Wd}{x:Str}{st:Xl}{k:Nat}{g:Gr}{fb:Fs}
theorem nZ(N:W3)(n:Nat)(h:W.At x st)
  (hb:∀(bq:Xa)(A:Xe)(outer:List Env)(s:Xb)(H:Hp)(E:XK)(f:Xj),a9 k (A.deeper (envOfC x (ax st) s.sz f bq))->N.Nodup->uP (eO jR W.P W.w W.K W.mg W.base N x (ax st) f bq A outer s H E).nox g (aT st) fb)
  (S:bC N (N.take n) (ax st):=by exact⟨rfl,rfl,rfl,by decide +kernel,rfl,by decide +kernel,by decide +kernel⟩)
  (hB:Bi x st (N.take n):=by intro _ _ _ _ _ _;first | exact K4 λ_=>rfl | exact M7 λ_ _=>rfl | exact Mx λ_ _ _=>rfl | exact ar4 λ_ _ _ _=>rfl | exact ar5 λ_ _ _ _ _=>rfl):W.Q (k+1) x (N.take n).length g (cx fb N.length):=by
 obtain⟨f,fd,F,hk,hm⟩:=h;exact u7 (Q5 F S (λbq A outer s H E hr=>hb bq A outer s H E f hr S.nd) (λ_ _ _ e=>e)) hk hm (F.binds hB)
theorem Sm(N:W3)(n:Nat)(F:yb W.K x x st f fd)
  (hb:∀(bq:Xa)(A:Xe)(outer:List Env)(s:Xb)(H:Hp)(E:XK)(f:Xj),a9 k (A.deeper (envOfC x (ax st) s.sz f bq))->N.Nodup->uP (eO jR W.P W.w W.K W.mg W.base N x (ax st) f bq A outer s H E).nox g (aT st) fb)
  (S:bC N (N.take n) (ax st):=by exact⟨rfl,rfl,rfl,by decide +kernel,rfl,by decide +kernel,by decide +kernel⟩):dj W.P W.w W.K W.mg W.base jR (k+1) f fd (N.take n) (Ao W.K (N.take n).length g (cx fb N.length)):=
 Q5 F S (λbq A outer s H E hr=>hb bq A outer s H E f hr S.nd) λ_ _ _ e=>e
theorem Sj{m:Nat->Xq->Xr}{fb:Nat->Fs}(N:W3)(n i:Nat)(h:W.At x st)(h0:m 0=λ_=>none)(h1:∀i,m (i+1)=cx (fb i) N.length)
  (hb:∀i,NL W.P W.w W.K W.mg W.base (k+i) x (N.take n).length g (m i)->∀(bq:Xa)(A:Xe)(outer:List Env)(s:Xb)(H:Hp)(E:XK)(f:Xj),a9 (k+i) (A.deeper (envOfC x (ax st) s.sz f bq))->N.Nodup->uP (eO jR W.P W.w W.K W.mg W.base N x (ax st) f bq A outer s H E).nox g (aT st) (fb i))
  (S:bC N (N.take n) (ax st):=by exact⟨rfl,rfl,rfl,by decide +kernel,rfl,by decide +kernel,by decide +kernel⟩)
  (hB:Bi x st (N.take n):=by intro _ _ _ _ _ _;first | exact K4 λ_=>rfl | exact M7 λ_ _=>rfl | exact Mx λ_ _ _=>rfl | exact ar4 λ_ _ _ _=>rfl | exact ar5 λ_ _ _ _ _=>rfl):W.Q (k+i) x (N.take n).length g (m i):=by
 induction i with
 | zero=>
  obtain⟨f,fd,F,hk,hm⟩:=h;exact λj _=>⟨f,fd,_,rfl,by rw[h0];exact A0,hm,hk,F.binds hB⟩
 | succ i c=>
  rw[h1];exact nZ N n h (hb i (c (k+i) (h_ _))) S hB
section
variable {X:Cx}{k d n:Nat}{l:Xk}{es:W5}{fs:Fes}{m:Xq->Xr}{p pos:Pos}
theorem aX(C:∀j,d<=j->NL X.prog X.w X.K X.mg X.base j x n g m)(hr:a9 k X.A)(hl:PL X (l::es) fs)(hd:d<=k:=by first | decide | omega)(hn:(l::es).length=n:=by rfl)(hg:Gl X x:=by rfl)(kG:(x==("__debug__":Str))=false:=by decide)
  (he:starEach (l::es) X.env=(false,eval l X.env)::starEach es X.env:=by rfl) (eR:(backTo pos (starEach es X.env)).any (·.1)=false:=by rfl):PD X g (.Call (.Name x p) (l::es) [] pos) (λenv=>(fs env).bind m):=vm (C k hd) hr hl hn hg kG he eR
end
end Mi
namespace Mi
open PySem PySem.Spec PyProof.Rows L2 Lm
def pO(g:D->Xr):Xq->Option W8
 | []=>some []
 | d::ds=>(g d).bind λx=>match x with
  | .int n=>(pO g ds).bind λns=>some (n::ns)
  | _=>none
theorem md{g:D->Xr}:∀{ds:Xq}{ns:W8},pO g ds=some ns->ns.length=ds.length/\∀(i:Nat) d,ds[i]?=some d->g d=some (.int (ns.getD i 0))
 | [],ns,h=>by cases h;exact⟨rfl,λi d e=>by simp at e⟩
 | d::ds,ns,h=>by
  unfold pO at h;obtain⟨x,h1,h2⟩:=b_.mp h;cases x<;>try cases h2
  obtain⟨r,h3,h4⟩:=b_.mp h2;cases h4;obtain⟨e1,e2⟩:=md h3;refine⟨by simp[e1],λi d' e=>?_⟩;cases i with
  | zero=>cases e;exact h1
  | succ i=>exact e2 i d' e
def iS(ns:W8):Nat:=ns.findIdx λn=>ns.all λm=>decide (n<=m)
def Hk(g:D->Xr):D->Xr
 | .lst ds=>(pO g ds).bind λns=>ds[iS ns]?
 | _=>none
def L8(f:Fe)(caps:W7)(fl:Fe):Fe:=λenv=>(f env).bind (Hk λx=>fl ((cN 1 caps env).set 0 (.F x)))
theorem B8{ns:W8}{i:Nat}(hi:i<ns.length)(h:∀j,j<ns.length->ns.getD i 0<=ns.getD j 0/\(j<i->ns.getD i 0<ns.getD j 0)):iS ns=i:=by
 have g:∀(j:Nat)(hj:j<ns.length),ns.getD j 0=ns[j]:=λj hj=>by rw[g_,f_ hj];rfl
 refine(List.findIdx_eq hi).mpr ⟨?_,λj hj=>?_⟩
 .rw[M_];intro m hm;obtain⟨k,hk,rfl⟩:=List.getElem_of_mem hm;have:=(h k hk).1;rw[g i hi,g k hk]at this;exact w_ this
 .have hj':=Vu hj hi;have:=(h j hj').2 hj;rw[g i hi,g j hj']at this;rw[VC];intro z;rw[M_]at z;have:=Sy (z _ (Tu hi))
  lia
theorem IG{X:Cx}{P c0:Xj}{k:Nat}{g:Gr}{e body:Xk}{params:Arguments}{scope:Xi}{x0:Str}{fe fl:Fe}{Nc:W3}{caps:W7}{cl:WX}{p pos lpos NB:Pos}(hr:a9 (k+2) X.A)(hm:X.mg "min"=none)(bp:X.calm=true)
  (ht:tq X.K P=some (vP X)) (yd:X.env.code=.ref c0) (hC:PySem.W.codeHdIn X.K c0 P=true) (he:PD X g e fe)
  (gX:fR (λx=>X.env.cells.lookup x) scope.names []=some cl) (hN:Nc.map some=some x0::caps.map (λj=>X.N[j]?)) (eT:iy X scope caps=true)
  (hbody:∀f c s H pn,a9 k (X.A.in1.deeper (rj X scope cl f c s.sz))->PD (tV X X.A.in1 scope cl Nc f c s H pn) .cl body fl)
  (h0:scope.names.lookup x0=some .local:=by rfl) (bo:scope.kind=.function:=by rfl) (hnc:∀y∈scope.names,y.2≠.cell:=by decide +kernel) (hco:scope.isCoroutine=false:=by rfl) (KF:scope.isGenerator=false:=by rfl)
  (hb:∀c ctv u,bindArgs (zH X params body scope cl c ctv) ⟨[u],[]⟩=pure [(x0,u)]:=by intro _ _ _;rfl) (KD:defaultsOf params X.env=([],[]):=by rfl)
  (hg:Gl X "min":=by rfl) (hst:starEach [e] X.env=(false,eval e X.env)::starEach [] X.env:=by rfl)
  (h1:backTo pos (starEach [e] X.env)=(false,eval e X.env)::backTo pos (starEach [] X.env):=by rfl) (h2:(backTo pos (starEach [e] X.env)).any (·.1)=false:=by rfl) :
  PD X .cl (.Call (.Name "min" p) [e] [⟨some "key",.Lambda params body scope lpos,NB⟩] pos) (L8 fe caps fl):=by
 intro pins s σ H Q I aC;obtain⟨env,B,Z,d,R,e1,kk⟩:=aC;obtain⟨d1,e2,e3⟩:=b_.mp e1;cases d1<;>try cases e3
 rename_i ds;obtain⟨ns,e4,e5⟩:=b_.mp e3;obtain⟨hlen,ek⟩:=md e4;have hpos:0<ds.length:=by
  obtain⟨z,_⟩:=i_.mp e5
  lia
 refine TQ (gT I hg hm PyProof.Rows.boot_min ?_ (by decide) (by decide));refine callWith_kw (aZ (aJ he bM hst pos pins s σ H (λvs H1=>∃l xs Z1,vs=[.ref l]/\Ex Z H Z1 H1/\di X.K H1 l xs/\ak X.K Z1 ds xs) I ⟨env,B,Z,_,R,e2,λv Z1 H1 x1 g1=>?_⟩) λus s1 aC=>?_) h1 h2 rfl rfl
 .obtain⟨l,xs,rfl,hq,rr⟩:=g1.lst x1.zh;exact⟨l,xs,Z1,rfl,x1,hq,rr⟩
 obtain⟨vs,H1,I1,r1,l,xs,Z1,rfl,x1,hS,rr⟩:=aC;obtain⟨u,rfl,rx⟩:=vals1 r1;cases rx;show wpAny _ _ (evalAll [(do let v <- eval (.Lambda params body scope lpos) X.env;standAt pos;pure v)]) _ _ s1;refine wpAny_evalAll_cons (a_ (HK I1 (I1.tb P _ ht) yd (PySem.W.codeHd_of_K I.ok.mod.kin hC) I.ok.mod.bmod (fP gX) KD λf c H2 s2 I2 sm Ov hc hf=>a_ (Tq (d_ (wpAny_evalAll_nil ?_)))));show wpAny _ _ (call (.builtin "min") [.ref l] [("key",.ref f)]) _ _ s2;have x2:Ex Z1 H1 Z1 H2:=⟨sm,aH.refl _,x1.zh.trans sm,λ_ _ h=>h,λ_ _ _ h=>h⟩;have R2:=(R.ext x1).ext x2;have hxl:=rr.len;refine Er (kf:=λi=>ns.getD i 0) (A:=X.A) (I.ok.hd bp) (sm.seq hS) I2 x2.zh (by lia) (λi v u hv ru um s' Z' H' I' x'=>?_) λi v u s' Z' H' hv ru zM I' x'=>?_
 .obtain⟨d,hd,rep⟩:=rr.getV hv;exact Bp (k:=k+1) I' (R2.ext x') I.ok.frames hr.in1 (x'.h _ _ hf) (x'.h _ _ hc) (hb c) hco KF gX bo hnc hN eT h0 (λs H pn=>hbody f c s H pn (hr.in1.deeper _)) ru (Rep.mono x'.z d rep) (ek i d hd)
 .obtain⟨d',hd,rep⟩:=rr.getV hv;have hi:i<ns.length:=by rw[hlen];exact(i_.mp hd).1
  rw[B8 hi λj hj=>zM j (by lia),hd]at e5;cases e5;exact⟨v,H',I',ru,kk v Z' H' ((x1.trans x2).trans x') (Rep.mono x'.z _ rep)⟩
abbrev Wd.AtC(W:Wd)(x:Str)(st:Xl)(c:Xj):Prop:=∃f fd,yb W.K x x st f fd/\fd.code=.ref c/\PySem.W.keepIn W.K (.ref f)=true/\W.mg x=some (.ref f)
theorem ic.atC{K:Fg}{h:Xf}{mg:WW}{x:Str}{st:Xl}{f c P:Xj}(X:K.In h)(G:h.Ns mainGlobals mg)(A:ic K x st f)(ht:PySem.W.tabIn K x=some (c,P)):∃f fd,yb K x x st f fd/\fd.code=.ref c/\PySem.W.keepIn K (.ref f)=true/\mg x=some (.ref f):=by
 obtain⟨fd,F,h1,h2⟩:=A.fn X G;refine⟨f,fd,F,?_,h1,h2⟩;obtain⟨oc,od,kV,doc,pm,an,bq,ct,qb,rfl,lk,dQ⟩:=F.ex;obtain⟨_,_,_,_,_,_,_,_,_,aL,_⟩:=A;unfold PySem.W.tabIn at ht;rw[aL]at ht;dsimp only at ht;rw[lk]at ht;dsimp only[PySem.W.fnOf]at ht ⊢;cases bq<;>try cases ht
 rename_i c';dsimp only at ht
 split at ht
 .split at ht
  .cases ht;rfl
  .cases ht
 .cases ht
structure Lam(W:Wd)(x:Str)(c P:Addr):Prop where
 t:tq W.K P=some (x++".<locals>."++"<lambda>")
 c:PySem.W.codeHdIn W.K c P=true
theorem R7{K:Fg}{c P:Xj}(h0:PySem.W.tabIn K "best_in"=none)(h:PySem.W.tabIn K "best_shown"=some (c,P)):tq K P=some (("best_shown":Str)++".<locals>."++"<lambda>"):=by
 unfold tq Kb;rw[Vc,show PySem.W.tabIn K "best_in"=none from h0,Vc,show PySem.W.tabIn K "best_shown"=some (c,P)from h];simp only[Option.bind_none,H_,Up]
section
variable {W:Wd}{x:Str}{st:Xl}{k:Nat}{g:Gr}{fb:Fs}{c:Xj}
theorem Pl(N:W3)(n:Nat)(h:W.AtC x st c)
  (hb:∀(A:Xe)(outer:List Env)(s:Xb)(H:Hp)(E:XK)(f:Xj),a9 k (A.deeper (envOfC x (ax st) s.sz f (.ref c)))->N.Nodup->uP (eO jR W.P W.w W.K W.mg W.base N x (ax st) f (.ref c) A outer s H E).nox g (aT st) fb)
  (S:bC N (N.take n) (ax st):=by exact⟨rfl,rfl,rfl,by decide +kernel,rfl,by decide +kernel,by decide +kernel⟩)
  (hB:Bi x st (N.take n):=by intro _ _ _ _ _ _;first | exact K4 λ_=>rfl | exact M7 λ_ _=>rfl | exact Mx λ_ _ _=>rfl | exact ar4 λ_ _ _ _=>rfl | exact ar5 λ_ _ _ _ _=>rfl):W.Q (k+1) x (N.take n).length g (cx fb N.length):=by
 obtain⟨f,fd,F,hc,hk,hm⟩:=h;refine u7 ?_ hk hm (F.binds hB);obtain⟨oc,od,kV,doc,pm,an,bq,ct,qb,rfl,lk,dQ⟩:=F.ex;cases(show bq=.ref c from hc);refine xI lk dQ S (λvs H Q E ⟨Z,ds,d,hl,_,r,_⟩=>by rw[<- r.len];exact hl) λA outer s H vs Q E hr aC=>?_;obtain⟨Z,ds,d,hl,s1,r,e,kk⟩:=aC;refine⟨_,PSs.nox (hb A outer s H E f hr S.nd),?_⟩;obtain⟨o,e1,e2⟩:=b_.mp e;refine⟨_,H,Z,o,Rl.start s1 r,e1,?_⟩;cases o with
 | rt d'=>cases e2;exact kk
 | nx _=>cases e2
 | bk _=>cases e2
 | ct _=>cases e2
end
end Mi
namespace L2
open PySem PySem.Spec PyProof.Rows
theorem BS{l:PySem.W.OpenLaw}{n k:Nat}{q:Xd}{loose:W3}{XP:WW->Xf->Prop}{YP:Xg->Xf->Prop}{d:DefRec}{K:Params->W_}{CX:Xg->CXT}{sp:Xg->Sp}{x:Str}
  (hn:l.most=some n) (hn2:n<=sizeLine) (NH:d.params.defaults=[]) (hr:a9 k callerA)
  (hY:∀(w:Xg)(h:Xf),YP w h->(K w.params).In h)
  (hL:∀(w:Xg)(h:Xf),YP w h->∀P qq,tq (K w.params) P=some qq->(∃c,PySem.W.CodeHd h c P)/\h.get? P=some (PySem.W.tabObj #[])/\(K w.params).lookup P=none)
  (F:∀(w:Xg)(mg:WW)(fa:Xj)(h:Xf),(K w.params).In h->h.Ns mainGlobals mg->mg d.name=some (.ref fa)->
   ∃fd:Xh,(∀(s:Xb)(u:Xa),BindsTo s fd ⟨[u],[]⟩ [(x,u)])/\
    ∀base:Xf,(K w.params).In base->base.Ns mainGlobals mg->dj l.prog w (K w.params) mg base (CX w) k fa fd [x] (sp w))
  (lT:∀(w:Xg)(H:Hp)(a:Xj)(ns:W8),ns.length<=n->Jf H->di (K w.params) H a (ns.map V.int)->sp w [.ref a] H (λv _=>v=.bl true) λ_ _ _=>False)
  (hCX:∀(w:Xg)(H:Hp)(s:Xb)(e:Xa)(s':Xb),CX w [] H s (λ_ _ _=>False) e s'->False) :
  PySem.W.WalkO q loose XP YP l.row.toRowW d [] (λf vs=>PySem.call f vs):=by
 refine Att.sX hn NH λw s₀ s₁ mg mb fa o pm cd doc a vs ns G Y ho hd dQ hmg Kp hints hlen hg=>?_;have KX:=hY w _ Y;obtain⟨fd,hb,hF⟩:=F w mg fa _ KX G.T.g hmg;have hbm:=G.T.bmain;refine Cy KX G.T.g G.T.b G.T.builtins G.T.nolimit hg (by obtain⟨bm,ob,b1,b2,b3,b4,b5,b6⟩:=hbm;exact⟨bm,ob,b1,b2,b3,b4,b5,b6⟩) (λP qq e=>?_) Kp hints (B_ hlen hn2) hr hF hb (λH hO hS=>lT w H a ns hlen hO hS) λH e s'=>hCX w H s₁ e s';exact hL w _ Y P qq e
theorem HY{K:W_}{h:Xf}{c P:Xj}(X:K.In h)(hc:PySem.W.codeHdIn K c P=true)(hn:PySem.W.noTabs K=true)(ho:h.get? P=some (PySem.W.tabObj #[])):(∃c,PySem.W.CodeHd h c P)/\h.get? P=some (PySem.W.tabObj #[])/\K.lookup P=none:=by
 refine⟨⟨c,PySem.W.codeHd_of_K X hc⟩,ho,?_⟩;cases hk:K.lookup P with
 | none=>rfl
 | some o=>
  have e5:=X _ _ hk;rw[ho]at e5;cases e5;have h3:=M_.mp hn _ (PySem.W.mem_of_lookupK hk);exact absurd (show false=true from h3) P_
theorem MT{K:W_}{h:Xf}{c P0:Xj}(X:K.In h)(h1:PySem.W.tabIn K "best_in"=none)(h2:PySem.W.tabIn K "best_shown"=some (c,P0))(hc:PySem.W.codeHdIn K c P0=true)(hn:PySem.W.noTabs K=true)(ho:h.get? P0=some (PySem.W.tabObj #[])) :
  ∀P qq,tq K P=some qq->(∃c,PySem.W.CodeHd h c P)/\h.get? P=some (PySem.W.tabObj #[])/\K.lookup P=none:=λP qq e=>by
 have hP:P0=P:=by
  unfold tq Kb at e;rw[Vc,show PySem.W.tabIn K "best_in"=none from h1,Vc,show PySem.W.tabIn K "best_shown"=some (c,P0)from h2]at e
  by_cases hP:P0=P
  .exact hP
  .simp[hP]at e
 subst hP;exact HY X hc hn ho
end L2
namespace Mi
open PySem
theorem JI{K:Fg}{x:Str}{f c P:Xj}{oc occ:Xa}{od odc:W2}{fd:Xh}{vs:Array Xa}{sl slc:WV}(a:PySem.W.nsIn K mainGlobals x=some (some (.ref f)))(l:K.lookup f=some ⟨oc,od,.func fd,sl⟩)(e:fd.code=.ref c)(k:K.lookup c=some ⟨occ,odc,.fields vs,slc⟩)(p:vs[11]?=some (.ref P)):PySem.W.tabIn K x=some (c,P):=by
 unfold PySem.W.tabIn;rw[a];dsimp only;rw[l];dsimp only;rw[e];dsimp only;rw[k];dsimp only;rw[p]
theorem Ap{K:Fg}{x:Str}(a:PySem.W.nsIn K mainGlobals x=some none):PySem.W.tabIn K x=none:=by
 unfold PySem.W.tabIn;rw[a]
end Mi
namespace Mi
open PySem PySem.Spec PyProof.Rows L2
section
variable {prog:Xd}{w:Xg}{K:Type}[DecidableEq K]{knd:HeapKind prog w K}{A:Xe}{E:WT}{s:Xb}{a b:Xj}{xa xb:List (K×Xj×Xa)}
end
section
variable {X:Cx}{l r:Xk}{fa fb:Fe}{ga gb:Gr}{pos p:Pos}{k:Nat}{th:Str->Int}
end
end Mi
namespace Mi
open PySem PySem.Spec PyProof.Rows L2
open PySem.W (KasT kas_rev kas_asc kas_desc kas_tail3 kas_descPart kas_count kas_place kas_bin kas_sort)
def fo{α:Type}(lt:Nat->Nat->Bool):KasT α->α
 | .ret a=>a
 | .ask i j k=>fo lt (k (lt i j))
theorem e9{α β:Type}(lt:Nat->Nat->Bool)(f:α->KasT β):∀t:KasT α,fo lt (t.bind f)=fo lt (f (fo lt t))
 | .ret _=>rfl
 | .ask i j k=>e9 lt f (k (lt i j))
section
variable {key:Nat->Int}{n:Nat}
def kl(key:Nat->Int):Nat->Nat->Bool:=λi j=>decide (key i<key j)
def ka(key:Nat->Int)(p:Array Nat)(i:Nat):Int:=key (p.getD i 0)
def AV(key:Nat->Int)(p:Array Nat)(b:Nat):Prop:=∀i j,i<=j->j<b->ka key p i<=ka key p j
def Pr(key:Nat->Int)(p:Array Nat)(b:Nat):Prop:=∀i j,i<=j->j<b->ka key p j<=ka key p i
def kIn(key:Nat->Int)(p:Array Nat):Prop:=∀i j,i<j->j<p.size->ka key p i≠ka key p j
theorem pN{p:Array Nat}{j:Nat}(hj:j<=p.size)(k:Nat):ka key (kas_rev p 0 j) k=if k<j then ka key p (j-1-k)else ka key p k:=by
 have e:=getElem?_mirror_all (xs:=p) (i:=0) hj k;unfold ka kas_rev;simp only[Wg,e,Ub,true_and,Ss]
 split<;>rfl
theorem pQ{p:Array Nat}{k l:Nat}(hs:k<p.size)(hl:l<=k)(i:Nat):ka key (bubble p k (k-l)) i=if i=l then ka key p k else if l<i/\i<=k then ka key p (i-1)else ka key p i:=by
 have e:=getElem?_bubble (xs:=p) hs (k-l) (by lia) i;rw[show k-(k-l)=l by lia]at e;unfold ka;simp only[Wg,e]
 split
 .rfl
 .split<;>rfl
theorem Ia{p:Array Nat}:AV key p 1:=λi j a b=>by
 have:i=j:=by lia
 subst this;exact Vr _
theorem vB{p:Array Nat}:∀(f m:Nat),1<=m->AV key p m->m<=fo (kl key) (kas_asc p f m)/\fo (kl key) (kas_asc p f m)<=m+f/\AV key p (fo (kl key) (kas_asc p f m))/\
  (fo (kl key) (kas_asc p f m)=m+f\/ka key p (fo (kl key) (kas_asc p f m))<ka key p (fo (kl key) (kas_asc p f m)-1))
 | 0,m,h1,hu=>⟨h_ _,h_ _,hu,.inl rfl⟩
 | f+1,m,h1,hu=>by
  show _<=fo _ (if kl key (p.getD m 0) (p.getD (m-1) 0)=true then .ret m else kas_asc p f (m+1))/\fo _ (if kl key (p.getD m 0) (p.getD (m-1) 0)=true then .ret m else kas_asc p f (m+1))<=_/\AV key p (fo _ (if kl key (p.getD m 0) (p.getD (m-1) 0)=true then .ret m else kas_asc p f (m+1)))/\(fo _ (if kl key (p.getD m 0) (p.getD (m-1) 0)=true then .ret m else kas_asc p f (m+1))=_\/ka key p (fo _ (if kl key (p.getD m 0) (p.getD (m-1) 0)=true then .ret m else kas_asc p f (m+1)))<ka key p (fo _ (if kl key (p.getD m 0) (p.getD (m-1) 0)=true then .ret m else kas_asc p f (m+1))-1))
  by_cases hl:ka key p m<ka key p (m-1)
  .rw[j_ (show kl key (p.getD m 0) (p.getD (m-1) 0)=true from w_ hl)];exact⟨h_ _,by show m<=_;lia,hu,.inr hl⟩
  .rw[k_ (show ¬kl key (p.getD m 0) (p.getD (m-1) 0)=true from λz=>hl (Sy z))];have Hq:AV key p (m+1):=λi j a b=>by
    by_cases hj:j<m
    .exact hu i j a hj
    .have:j=m:=by lia
     subst this
     by_cases hi:i=j
     .subst hi;exact Vr _
     .exact Vz (hu i (j-1) (by lia) (by lia)) (Int.not_lt.mp hl)
   obtain⟨a,b,c,d⟩:=vB f (m+1) (by lia) Hq;exact⟨by lia,by lia,c,d.imp (λe=>by lia) id⟩
theorem xk{p:Array Nat}(hi:kIn key p):∀(f m:Nat),1<=m->m+f<=p.size->Pr key p m->∃x,fo (kl key) (kas_desc f p m 0)=(p,x,0)/\m<=x/\x<=m+f/\Pr key p x
 | 0,m,h1,_,hd=>⟨m,rfl,h_ _,h_ _,hd⟩
 | f+1,m,h1,hz,hd=>by
  show ∃x,fo _ (if kl key (p.getD m 0) (p.getD (m-1) 0)=true then(if 0>0 then _ else kas_desc f p (m+1) 0)else KasT.ask (p.getD (m-1) 0) (p.getD m 0) λd=>if d=true then .ret (p,m,0)else kas_desc f p (m+1) (0+1))=_/\_
  by_cases hl:ka key p m<ka key p (m-1)
  .rw[j_ (show kl key (p.getD m 0) (p.getD (m-1) 0)=true from w_ hl),k_ (by lia)];have ya:Pr key p (m+1):=λi j a b=>by
    by_cases hj:j<m
    .exact hd i j a hj
    .have:j=m:=by lia
     subst this
     by_cases yc:i=j
     .subst yc;exact Vr _
     .exact Vz (Wh hl) (hd i (j-1) (by lia) (by lia))
   obtain⟨x,a,b,c,d⟩:=xk hi f (m+1) (by lia) (by lia) ya;exact⟨x,a,by lia,by lia,d⟩
  .rw[k_ (show ¬kl key (p.getD m 0) (p.getD (m-1) 0)=true from λz=>hl (Sy z))];have h2:ka key p (m-1)<ka key p m:=by have:=hi (m-1) m (by lia) (by lia);lia
   show ∃x,fo _ (if kl key (p.getD (m-1) 0) (p.getD m 0)=true then _ else _)=_/\_;rw[j_ (show kl key (p.getD (m-1) 0) (p.getD m 0)=true from w_ h2)];exact⟨m,rfl,h_ _,by lia,hd⟩
theorem zY{p:Array Nat}(hi:kIn key p)(h1:1<=p.size):∃m p',fo (kl key) (kas_count p.size p)=(m,p')/\1<=m/\m<=p.size/\p'.Perm p/\AV key p' m:=by
 unfold kas_count;rw[e9];obtain⟨a,b,c,d⟩:=vB (key:=key) (p:=p) (p.size-1) 1 (h_ _) Ia;generalize fo (kl key) (kas_asc p (p.size-1) 1)=m at a b c d
 by_cases e:m=p.size
 .rw[j_ (by simpa using e)];exact⟨m,p,rfl,a,by lia,.refl _,c⟩
 .rw[k_ (by simpa using e)];have hlt:=d.resolve_left (by lia)
  by_cases hg:m>1
  .rw[j_ hg];show ∃m' p',fo _ (if kl key (p.getD 0 0) (p.getD (m-1) 0)=true then _ else _)=_/\_;have h2:ka key p 0<ka key p (m-1):=by have:=hi 0 (m-1) (by lia) (by lia);have:=c 0 (m-1) (by lia) (by lia);lia
   rw[j_ (show kl key (p.getD 0 0) (p.getD (m-1) 0)=true from w_ h2)];exact⟨m,p,rfl,a,by lia,.refl _,c⟩
  .rw[k_ hg];have:m=1:=by lia
   subst this;unfold kas_descPart;rw[e9];obtain⟨x,e1,x1,x2,x3⟩:=xk hi (p.size-(1+1)) (1+1) (by lia) (by lia) (λi j a b=>by
    by_cases yc:i=j
    .subst yc;exact Vr _
    .have e1:i=0:=by lia
     have e2:j=1:=by lia
     subst e1;subst e2;exact Wh hlt)
   rw[e1];rw[k_ (by show ¬0>0;lia)];unfold kas_tail3;rw[e9];have hu:AV key (kas_rev p 0 x) x:=λi j a b=>by
    rw[pN (by lia),pN (by lia),j_ (by lia),j_ (by lia)];exact x3 _ _ (by lia) (by lia)
   obtain⟨a',b',c',d'⟩:=vB (p.size-x) x (by lia) hu;exact⟨_,_,rfl,by show 1<=fo _ (kas_asc (kas_rev p 0 x) (p.size-x) x);lia,by show fo _ (kas_asc (kas_rev p 0 x) (p.size-x) x)<=_;lia,mirror_perm _ _ _ _,c'⟩
theorem gD{p:Array Nat}{k:Nat}(hu:AV key p k):∀(f l r:Nat),l<=r->r<=k->r-l<=f->(∀i,i<l->ka key p i<=ka key p k)->(∀i,r<=i->i<k->ka key p k<ka key p i)->
  ∃x,fo (kl key) (kas_place p k f l r)=x/\x<=k/\(∀i,i<x->ka key p i<=ka key p k)/\(∀i,x<=i->i<k->ka key p k<ka key p i)
 | 0,l,r,h1,h2,h3,h4,h5=>⟨l,rfl,by lia,h4,λi a b=>h5 i (by lia) b⟩
 | f+1,l,r,h1,h2,h3,h4,h5=>by
  unfold kas_place
  by_cases hg:l>=r
  .rw[j_ hg];exact⟨l,rfl,by lia,h4,λi a b=>h5 i (by lia) b⟩
  .rw[k_ hg];show ∃x,fo _ (if kl key (p.getD k 0) (p.getD ((l+r)/2) 0)=true then _ else _)=_/\_
   by_cases hl:ka key p k<ka key p ((l+r)/2)
   .rw[j_ (show kl key (p.getD k 0) (p.getD ((l+r)/2) 0)=true from w_ hl)];exact gD hu f _ _ (by lia) (by lia) (by lia) h4 λi a b=>Int.lt_of_lt_of_le hl (hu _ _ a b)
   .rw[k_ (show ¬kl key (p.getD k 0) (p.getD ((l+r)/2) 0)=true from λz=>hl (Sy z))];exact gD hu f _ _ (by lia) (by lia) (by lia) (λi a=>Vz (hu i _ (by lia) (by lia)) (Int.not_lt.mp hl)) h5
theorem Bm:∀(f:Nat)(p:Array Nat)(k:Nat),k+f=p.size->AV key p k->(fo (kl key) (kas_bin f p k)).Perm p/\AV key (fo (kl key) (kas_bin f p k)) p.size
 | 0,p,k,h,hu=>⟨.refl _,by rw[<- h];exact hu⟩
 | f+1,p,k,h,hu=>by
  unfold kas_bin;rw[e9];obtain⟨x,e,x1,x2,x3⟩:=gD hu k 0 k (Ub _) (h_ _) (by lia) (λi a=>by lia) λi a b=>by lia
  rw[e];have hz:(bubble p k (k-x)).size=p.size:=bubble_size _ _ _;obtain⟨a,b⟩:=Bm f (bubble p k (k-x)) (k+1) (by lia) λi j yc hj=>by
   rw[pQ (by lia) x1,pQ (by lia) x1]
   repeat' split
   all_goals first
    | (exfalso;lia)
    | exact Vr _
    | exact x2 _ (by lia)
    | exact Wh (x3 _ (by lia) (by lia))
    | exact hu _ _ (by lia) (by lia)
  rw[hz]at b;exact⟨a.trans (bubble_perm _ _ _),b⟩
theorem F2(hn:1<=n)(hi:∀i j,i<j->j<n->key i≠key j):(fo (kl key) (kas_sort n)).toList.Perm (List.range n)/\(fo (kl key) (kas_sort n)).toList.Pairwise λi j=>key i<=key j:=by
 have hs:(List.toArray (List.range n)).size=n:=by simp
 have hg:∀i,i<n->(List.toArray (List.range n)).getD i 0=i:=λi h=>by simp[Array.getD,h]
 have hin:kIn key (List.toArray (List.range n)):=λi j a b=>by
  rw[hs]at b;unfold ka;rw[hg i (by lia),hg j b];exact hi i j a b
 have main:(fo (kl key) (kas_sort n)).Perm (List.toArray (List.range n))/\AV key (fo (kl key) (kas_sort n)) n:=by
  unfold kas_sort;rw[e9];obtain⟨m,p',e,m1,m2,hp,hu⟩:=zY hin (by lia);rw[hs]at e m2;rw[e];have hz:p'.size=n:=by rw[hp.size_eq,hs]
  by_cases hl:m<n
  .rw[j_ (show(m,p').1<n from hl)];show(fo _ (kas_bin (n-max m 1) p' (max m 1))).Perm _/\_;rw[show max m 1=m by lia];obtain⟨a,b⟩:=Bm (n-m) p' m (by lia) hu;rw[hz]at b;exact⟨a.trans hp,b⟩
  .rw[k_ (show ¬(m,p').1<n from hl)];have:m=n:=by lia
   subst this;exact⟨hp,hu⟩
 obtain⟨hp,hu⟩:=main;refine⟨by simpa using Wp.mp hp,SU.mpr λi j h1 h2 yc=>?_⟩;have hz:(fo (kl key) (kas_sort n)).size=n:=by rw[hp.size_eq,hs]
 have:=hu i j (by lia) (by simpa [hz]using h2);unfold ka at this;simp only[Sx]at h1 h2;simpa [Array.getD,h1,h2]using this
end
end Mi
namespace Mi
open PySem PySem.Spec PyProof.Rows L2
open PySem.W (KasT kas_sort kas_ask kat_run kat_snds kas_rev kas_asc kas_desc kas_tail3 kas_descPart kas_count kas_place kas_bin)
def qP{α:Type}(n:Nat)(P:α->Prop):KasT α->Prop
 | .ret a=>P a
 | .ask i j k=>(i<n/\j<n)/\∀b,qP n P (k b)
section
variable {n:Nat}{p:Array Nat}
theorem fq{α β:Type}{f:α->KasT β}{P:α->Prop}{R:β->Prop}(h:∀a,P a->qP n R (f a)):∀{t:KasT α},qP n P t->qP n R (t.bind f)
 | .ret a,g=>h a g
 | .ask _ _ k,⟨g,q⟩=>⟨g,λb=>fq h (q b)⟩
def gd(n:Nat)(p:Array Nat):Prop:=(0<n/\p.size=n)/\∀x∈p.toList,x<n
theorem gd.at(h:gd n p)(i:Nat):p.getD i 0<n:=by
 by_cases hi:i<p.size
 .rw[show p.getD i 0=p[i] by simp[Array.getD,hi]];exact h.2 _ (by simp)
 .rw[show p.getD i 0=0 by simp[Array.getD,hi]];exact h.1.1
theorem gd.perm{q:Array Nat}(h:gd n p)(e:q.Perm p):gd n q:=⟨⟨h.1.1,e.size_eq.trans h.1.2⟩,λx hx=>h.2 x ((Wp.mp e).mem_iff.mp hx)⟩
theorem gd.rev(h:gd n p)(i j:Nat):gd n (kas_rev p i j):=h.perm (mirror_perm _ _ _ _)
theorem vh(h:gd n p):∀(f m:Nat),qP n (λ_=>True) (kas_asc p f m)
 | 0,_=>trivial
 | f+1,m=>⟨⟨h.at _,h.at _⟩,λb=>by
  cases b
  .exact vh h f (m+1)
  .trivial⟩
theorem lF:∀(f:Nat)(p:Array Nat)(m q:Nat),gd n p->qP n (λr=>gd n r.1) (kas_desc f p m q)
 | 0,_,_,_,h=>h
 | f+1,p,m,q,h=>⟨⟨h.at _,h.at _⟩,λb=>by
  cases b
  .refine⟨⟨h.at _,h.at _⟩,λb=>?_⟩;cases b
   .exact lF f p (m+1) (q+1) h
   .exact h
  .show qP n _ (if q>0 then _ else _)
   split
   .exact lF f _ _ _ (h.rev _ _)
   .exact lF f _ _ _ h⟩
theorem wb(h:gd n p)(m k:Nat):qP n (λr=>gd n r.2) (kas_tail3 m k p):=fq (n:=n) (P:=λ_=>True) (R:=λr=>gd n r.2) (f:=λx=>KasT.ret (x,kas_rev p 0 m)) (λ_ _=>h.rev 0 m) (vh (h.rev 0 m) _ _)
theorem wR(h:gd n p)(m k:Nat):qP n (λr=>gd n r.2) (kas_descPart m k p):=fq (λa ha=>by
 show qP n _ (if a.2.2>0 then _ else _)
 split
 .exact wb (ha.rev _ _) _ _
 .exact wb ha _ _) (lF _ _ _ _ h)
theorem Cd(h:gd n p)(k:Nat):qP n (λr=>gd n r.2) (kas_count k p):=fq (λa _=>by
 split
 .exact h
 .split
  .refine⟨⟨h.at _,h.at _⟩,λb=>?_⟩;cases b
   .exact wR (h.rev _ _) _ _
   .exact h
  .exact wR h _ _) (vh h _ _)
theorem mH(h:gd n p)(k:Nat):∀(f l r:Nat),qP n (λ_=>True) (kas_place p k f l r)
 | 0,_,_=>trivial
 | f+1,l,r=>by
  unfold kas_place
  split
  .trivial
  .refine⟨⟨h.at _,h.at _⟩,λb=>?_⟩;cases b
   .exact mH h k f _ _
   .exact mH h k f _ _
theorem B6:∀(f:Nat)(p:Array Nat)(k:Nat),gd n p->qP n (gd n) (kas_bin f p k)
 | 0,_,_,h=>h
 | f+1,p,k,h=>fq (λ_ _=>B6 f _ _ (h.perm (bubble_perm _ _ _))) (mH h k _ _ _)
theorem lG(h:0<n):qP n (gd n) (kas_sort n):=fq (λa ha=>by
 split
 .exact B6 _ _ _ ha
 .exact ha) (Cd ⟨⟨h,by simp⟩,λx hx=>by simpa using hx⟩ n)
theorem qP.out{α:Type}{P:α->Prop}{lt:Nat->Nat->Bool}:∀{t:KasT α},qP n P t->P (fo lt t)
 | .ret _,h=>h
 | .ask i j k,h=>qP.out (t:=k (lt i j)) (h.2 (lt i j))
end
theorem bP.len{h:Xf}:∀{vs:W0}{kss:Xm},bP h vs kss->vs.length=kss.length
 | [],[],_=>rfl
 | [],_::_,t=>t.elim
 | _::_,[],t=>t.elim
 | _::_,_::_,t=>by rw[A_,A_,bP.len t.2]
def Lh(kss:Xm)(i j:Nat):Bool:=(dH (kss.getD i []) (kss.getD j [])).getD false
def cA(kss:Xm):W7:=if kss.length<2 then List.range kss.length else(fo (Lh kss) (kas_sort kss.length)).toList
def uh(kss:Xm):Bool:=kss.all wt&&kss.all λx=>kss.all λy=>(dH x y).isSome
theorem hW{kss:Xm}:∀i∈cA kss,i<kss.length:=by
 intro i hi;unfold cA at hi
 split at hi
 .simpa using hi
 .exact(lG (by lia)).out.2 i hi
theorem ml(kss:Xm):(cA kss).length=kss.length:=by
 unfold cA
 split
 .simp
 .rw[Sx];exact(lG (by lia)).out.1.2
section
variable {prog:Xd}{w:Xg}{A:Xe}{E:WT}{s:Xb}
theorem BV{α:Type}{n:Nat}{cmp:Nat->Nat->(Bool->Xb->Prop)->Xb->Prop}{lt:Nat->Nat->Bool}{s:Xb}(hc:∀i j (C:Bool->Xb->Prop),i<n->j<n->C (lt i j) s->cmp i j C s){P:α->Prop}{Q:α->Xb->Prop}:∀{t:KasT α},qP n P t->Q (fo lt t) s->t.kasWp cmp Q s
 | .ret _,_,h=>h
 | .ask i j k,⟨g,q⟩,h=>hc i j _ g.1 g.2 (BV hc (q (lt i j)) h)
theorem gz{a:Xj}{vs:W0}{kss:Xm}{n:Nat}{P:PySem.Fin->Xb->Prop}(ho:s.heap.get? a=some (seqObj "list" vs.toArray n))
  (ht:bP s.heap vs kss) (hx:uh kss=true) (Hx:vs.length<64)
  (h:P (.done (.ret .none)) {s with heap:=sortedHeap s.heap a vs ((cA kss).map λi=>vs.getD i .none).toArray}) :
  wpAny (model prog w) A (Builtin.«list.sort» ⟨[.ref a],[]⟩) P E s:=by
 rw[list_sort_plain];have ha:a<s.sz:=q_ ho;have hz:vs.length<=sizeLine:=by have:=SB;lia
 refine a_ (listItems_at ho rfl ?_);refine a_ (listUpdate_at ho rfl ?_ (by simpa using hz) (by simp));obtain⟨e1,RF⟩:∃e1,(s.heap.update a (Obj.mapSeq λ_=>#[])).get? a=some (seqObj "list" #[] e1):=⟨_,V5 ho (λ_=>#[])⟩;refine a_ (seqEpoch_at RF rfl ?_);refine a_ (wpAny_newTuple ?_);refine a_ (UY ?_);refine Q_ ?_;have OJ:(((s.heap.update a (Obj.mapSeq λ_=>#[])).push (seqObj "tuple" vs.toArray 0)).push (seqObj "list" #[] 0)).get? a=some (seqObj "list" #[] e1):=by
  rw[Heap.get?_push_ne _ _ _ (by rw[Wm,VQ];exact z_ (T5 ha)),Heap.get?_push_ne _ _ _ (by rw[VQ];exact z_ ha)];exact RF
 show wpAny (model prog w) A _ P E {s with heap:=((s.heap.update a (Obj.mapSeq λ_=>#[])).push (seqObj "tuple" vs.toArray 0)).push (seqObj "list" #[] 0)};have La:bP (((s.heap.update a (Obj.mapSeq λ_=>#[])).push (seqObj "tuple" vs.toArray 0)).push (seqObj "list" #[] 0)) vs kss:=ht.keeps λb o hb hc=>by
  refine e_ _ (e_ _ ?_);rw[Vb _ _ _ _ (λz=>?_)]
  .exact hb
  .subst z;rw[ho]at hb;cases hb;injection (show Value.type "list"=Value.type "tuple" from hc)with e;exact absurd e (by decide)
 dsimp only;have hsz:vs.toArray.size=vs.length:=by simp
 have hl:=ht.len;unfold uh at hx;rw[F_]at hx
 by_cases h2:vs.toArray.size<2
 .have Kl:(vs.toArray.zip vs.toArray).map (·.2)=((cA kss).map λi=>vs.getD i .none).toArray:=by
   unfold cA;rw[j_ (by lia),<- hl];apply Array.ext
   .simp
   .intro i h1 h2;simp at h1 h2;simp[h1]
  rw[j_ h2,j_ h2];refine a_ (d_ ?_);rw[StateT.run_pure];refine a_ (d_ ?_);dsimp only;refine a_ (seqEpoch_at OJ rfl ?_);refine a_ (listUpdate_at OJ rfl ?_ (hsz2:=by rw[Array.size_map];rw[Array.size_zip,hsz,WJ];lia));simp only[WB,x_,SV];refine d_ ?_;show P (.done (.ret .none)) {s with heap:=(((s.heap.update a (Obj.mapSeq λ_=>#[])).push (seqObj "tuple" vs.toArray 0)).push (seqObj "list" #[] 0)).update a (Obj.mapSeq λ_=>(vs.toArray.zip vs.toArray).map (·.2))};rw[Kl];exact h
 .rw[k_ h2,k_ h2];obtain⟨fs,f1,f2,f3⟩:=La.firsts hx.1;refine a_ (PySem.W.kat_kind (T:=.type "int") f1 (by lia) (λv hv=>?_) (by simp) ?_)
  .obtain⟨m,t,rfl⟩:=f3 v hv;exact PySem.W.Looks.now
  rw[show(Value.type "int" != Value.type "tuple")=true by decide];have N6:∀i,i<vs.length->∃b o xs k ks,vs.getD i Value.none=.ref b/\(((s.heap.update a (Obj.mapSeq λ_=>#[])).push (seqObj "tuple" vs.toArray 0)).push (seqObj "list" #[] 0)).get? b=some o/\o.cls=.type "tuple"/\o.data=.seq xs k/\kss[i]?=some ks/\cC xs.toList ks:=λi hi=>La.at (i:=i) (v:=vs.getD i .none) (by rw[g_,f_ hi];rfl);refine a_ (SI (kat_run (ks:=vs) (vs:=vs) (κ:=tuples' true) (G:=λp s'=>s'={s with heap:=((s.heap.update a (Obj.mapSeq λ_=>#[])).push (seqObj "tuple" vs.toArray 0)).push (seqObj "list" #[] 0)}/\p.toList=cA kss)
   (Q:=λlS s'=>s'={s with heap:=((s.heap.update a (Obj.mapSeq λ_=>#[])).push (seqObj "tuple" vs.toArray 0)).push (seqObj "list" #[] 0)}/\failedOf lS=none/\(cA kss).length=vs.length/\(arrOf lS).map (·.2)=List.toArray ((cA kss).map λi=>vs.getD i Value.none)) rfl (by lia) Hx
   (λp lS s' a1 a2 a3 a4=>⟨a4.1,a3,by rw[<- a4.2,Sx,a1],by rw[kat_snds rfl a2,a4.2]⟩) (BV (lt:=Lh kss) (λi j C hi hj hC=>?lt) (lG (by lia)) ⟨rfl,?od⟩)) ?post λ_ _ e=>e)
  case od=>unfold cA;rw[k_ (by lia),hl]
  case lt=>
   obtain⟨b,o,xs,k,ks,e3,c1,c2,c3,c4,c5⟩:=N6 i hi;obtain⟨b',o',K',k',gq,e4,d1,d2,d3,d4,d5⟩:=N6 j hj;show wpAny (model prog w) A (keyLt' _ (vs.getD i Value.none) (vs.getD j Value.none)) C _ _;rw[e3,e4];refine PySem.W.kat_lt c1 c3 d1 d3 ?_;have hd:decide (xs.size<K'.size)=decide (xs.toList.length<K'.toList.length):=by simp
   rw[hd];have m1:=R_ c4;have m2:=R_ d4;obtain⟨q,hq⟩:=Option.isSome_iff_exists.mp (M_.mp (M_.mp hx.2 _ m1) _ m2);refine Ki c5 d5 hq (λ_=>⟨M_.mp hx.1 _ m1,M_.mp hx.1 _ m2⟩) ?_;unfold Lh at hC;rw[g_,g_,c4,d4]at hC;dsimp only[Option.getD_some]at hC;rw[hq]at hC;exact hC
  case post=>
   rintro⟨⟨⟩,lS⟩ s' ⟨rfl,hf,Dc,hp⟩;dsimp only at hp hf ⊢;rw[hf,hp];refine a_ (seqEpoch_at OJ rfl ?_);refine a_ (listUpdate_at OJ rfl ?_ (hsz2:=by rw[u_,c_,Dc];lia));simp only[WB,x_,SV];exact d_ h
theorem Fx{a:Xj}{o:Obj}{n:Nat}{vs:W0}{kss:Xm}{Q:WT}(ho:s.heap.get? a=some o)(hc:o.cls=.type "list"\/o.cls=.type "tuple")(hd:o.data=.seq vs.toArray n)
  (ht:bP s.heap vs kss) (hx:uh kss=true) (Hx:vs.length<64)
  (q:Q (.ref (s.sz+1)) {s with heap:=sortedAll s.heap vs ((cA kss).map λi=>vs.getD i .none).toArray}):wpAny (model prog w) A (call (.builtin "sorted") [.ref a]) Q E s:=by
 refine Ut UC plain_sorted entry_sorted (args_sorted1 _) ?_;unfold Builtin.«sorted»;refine a_ (m:=checkCount "sorted" 1 1 _) (d_ (a_ (tH ho hc hd (a_ (UY ?_)) (by have:=SB;lia))));have z1:((s.heap.push (seqObj "list" #[] 0)).update s.sz (Obj.mapSeq (·++vs.toArray))).objs.size=s.sz+1:=by rw[VQ,Wm]
 have z2:(((s.heap.push (seqObj "list" #[] 0)).update s.sz (Obj.mapSeq (·++vs.toArray))).push (seqObj "list" vs.toArray 0)).get? (s.sz+1)=some (seqObj "list" vs.toArray 0):=by
  rw[<- z1];exact n_ _ rfl
 show wpAny _ _ _ _ _ {s with heap:=((s.heap.push (seqObj "list" #[] 0)).update s.sz (Obj.mapSeq (·++vs.toArray))).push (seqObj "list" vs.toArray 0)};rw[z1];have La:bP (((s.heap.push (seqObj "list" #[] 0)).update s.sz (Obj.mapSeq (·++vs.toArray))).push (seqObj "list" vs.toArray 0)) vs kss:=ht.keeps λb o hb hc=>by
  refine e_ _ ?_;rw[Vb _ _ _ _ (z_ (q_ hb))];exact e_ _ hb
 exact a_ (Q_ (SC slot_list_sort ⟨_,z2,rfl⟩ V6 (gz z2 La hx Hx ⟨_,rfl,d_ ⟨_,rfl,q⟩⟩) (args_list_sort _)))
end
def kW:D->Xr
 | .lst ds=>(kE ds).bind λkss=>if ds.length<64/\uh kss=true then some (.lst ((cA kss).map λi=>ds.getD i .non))else none
 | _=>none
section
variable {X:Cx}{l r:Xk}{fa fb:Fe}{ga gb:Gr}{pos p:Pos}
def Ak(K:Fg):Xs->Hp->VK->Prop:=λxs H Q=>∃(a:Xj)(vs:Xs)(kss:Xm),xs=[.ref a]/\di K H a vs/\pA K H vs kss/\vs.length<64/\uh kss=true/\∀q,H q=none->Q (.ref q) (upd H q (.lst ((cA kss).map λi=>vs.getD i .non)))
theorem pA.len{K:Fg}{H:Hp}:∀{vs:Xs}{kss:Xm},pA K H vs kss->vs.length=kss.length
 | [],[],_=>rfl
 | [],_::_,t=>t.elim
 | _::_,[],t=>t.elim
 | _::_,_::_,t=>by rw[A_,A_,pA.len t.2]
theorem g0{vs:Xs}{us:W0}(r:av vs us):∀{is:W7},(∀i∈is,i<vs.length)->av (is.map λi=>vs.getD i .non) (is.map λi=>us.getD i .none)
 | [],_=>.nil
 | i::is,h=>by
  have hi:=h i (o_ ..);obtain⟨u,h5,h6⟩:=av.get r (f_ hi);refine .cons ?_ (g0 r λj hj=>h j (l_ _ hj));dsimp only;rw[g_,g_,h5,f_ hi];exact h6
theorem qO:dD X (.builtin "sorted") (Ak X.K):=by
 intro pins s σ H xs us Q I rs h;obtain⟨a,vs,kss,rfl,hq,ht,Hx,hx,q⟩:=h;obtain⟨u,rfl,rx⟩:=vals1 rs;cases rx;obtain⟨aQ,rv,pl,hz⟩:=I.list hq;obtain⟨o,ho,hc,n,hd⟩:=pl.isList;have hl:=rv.length;refine Fx ho (.inl hc) hd (ht.heap I rv) hx (by lia) ?_;obtain⟨e,he⟩:=sortedAll_at s.heap aQ ((cA kss).map λi=>aQ.getD i .none).toArray;have hk:=ht.len;have v2:=g0 rv (is:=cA kss) λi hi=>by have:=hW i hi;lia
 refine⟨.ref _,_,I.laid (t':=s.toks) (o:=.lst ((cA kss).map λi=>vs.getD i .non)) (λb o z=>sortedAll_old z) (UL _) ⟨?_,_,e,v2,by simpa using he⟩,rfl,q _ (I.hok.fresh (UL _))⟩;rw[c_,ml];lia
theorem kr{K:Fg}{Z:Hp}{ds:Xq}{vs:Xs}(r:ak K Z ds vs):∀{is:W7},(∀i∈is,i<ds.length)->ak K Z (is.map λi=>ds.getD i .non) (is.map λi=>vs.getD i .non)
 | [],_=>rfl
 | i::is,h=>by
  have hi:=h i (o_ ..);obtain⟨u,h5,h6⟩:=r.get (f_ hi);refine ak.cons ?_ (kr r λj hj=>h j (l_ _ hj));dsimp only;rw[g_,g_,h5,f_ hi];exact h6
theorem F7{K:Fg}:ij K .nw kW (Ak K):=λ{Z H x dx d Q} s h e k=>by
 cases dx<;>try cases e
 obtain⟨kss,h1,h2⟩:=b_.mp e;obtain⟨hl,rfl⟩:=kP h2;obtain⟨a,vs,rfl,q,rr⟩:=h.lst s;have ht:=pA.of h1 rr;have hk:=ht.len;have vl:=rr.len;exact⟨a,vs,kss,rfl,q,ht.mono s,by lia,hl.2,λp hp=>k _ Z _ (Ex.newL s hp) ⟨p,_,_,rfl,rfl,hp,ai,s.free hp,kr rr λi hi=>by have:=hW i hi;lia⟩⟩
theorem xg(hm:X.mg "sorted"=none)(ha:PD X ga l fa)(hg:Gl X "sorted":=by rfl)(he:starEach [l] X.env=[(false,eval l X.env)]:=by rfl):PD X .nw (.Call (.Name "sorted" p) [l] [] pos) (br kW fa):=
 tw qO F7 UD hm ha (by decide) (by decide) hg he
end
end Mi
namespace Mi
open PySem PySem.Spec PyProof.Rows L2
section
variable {X:Cx}{l r:Xk}{fa fb:Fe}{ga gb:Gr}{pos p:Pos}
end
def cJ:D->D->Xr
 | .int i,.int j=>some (.int (Builtin.bitAnd i j))
 | _,_=>none
def mO:D->D->Xr
 | .int i,.int j=>if decide (0<=j/\j<=1000000/\i.natAbs<2 ^ 64)then some (.int (i*2 ^ j.toNat))else none
 | _,_=>none
section
variable {X:Cx}{l r:Xk}{fa fb:Fe}{ga gb:Gr}{pos p:Pos}
theorem Kk{K:Fg}:cb K .cl cJ (vW λi j=>.int (Builtin.bitAnd i j)):=hJ (by intro _ _ _;rfl)
theorem MK{K:Fg}:cb K .cl mO (rI MG λi j=>.int (i*2 ^ j.toNat)):=mz (λi j h=>Sy h) (by intro _ _ _;rfl)
theorem jS(ha:PD X ga l fa)(hb:PD X gb r fb):PD X .cl (.BinOp l .BitAnd r pos) (ao cJ fa fb):=og Io Kk ha hb
theorem wg(ha:PD X ga l fa)(hb:PD X gb r fb):PD X .cl (.BinOp l .LShift r pos) (ao mO fa fb):=og JG MK ha hb
theorem jc(i j:Nat):cJ (.int i) (.int j)=some (.int ((i &&& j:Nat):Int)):=by
 show some (D.int (Builtin.bitAnd i j))=_;congr 2
def Q7:D->Option Bool
 | .int i=>some (i != 0)
 | _=>none
def Pi(f:Fe):Fb:=λenv=>(f env).bind Q7
theorem Jt{e:Xk}{f:Fe}(h:PD X .cl e f)(he:∀whole,isTrue e X.env whole=(do let v <- whole;standAt e.pos;holding [v] (truthy v)):=by intro _;rfl):PB X e (Pi f):=
 PT.imp (sd h he) λσ H Q aC=>by
  obtain⟨env,B,Z,b,R,e,k⟩:=aC;obtain⟨d,h1,h2⟩:=b_.mp e;cases d<;>cases h2;refine⟨env,B,Z,_,R,h1,λv Z' H' x g=>?_⟩;cases g.int;exact⟨_,rfl,k Z' H' x⟩
def An:D->Xr
 | .int i=>some (.int ((Builtin.Int.intBits i:Nat):Int))
 | _=>none
theorem Fm:OX X "int.bit_length" (λx vs H Q=>∃i,x=.int i/\vs=[]/\Q (.int ((Builtin.Int.intBits i:Nat):Int)) H):=by
 intro pins s σ H x xs v us Q I rx rv h;obtain⟨i,rfl,rfl,q⟩:=h;cases rv;obtain⟨t,rfl⟩:=(show ∃t,v=Value.int i t from rx);exact call_gives Wi (typeIs_int s _ t) PySem.F.entry_int_bit_length (PySem.F.args_int_bit_length_1 _) (PySem.AutoIntG2.int_bit_length_int_0 i t) ⟨.int _,H,I.kept (t':=s.toks+1) (λ_ _ e=>e),⟨_,rfl⟩,q⟩
theorem Kc{o:Xk}{apos be:Pos}(ha:PD X .cl o fa)(jK:attributeBase o "bit_length" X.env (eval o X.env)=eval o X.env:=by rfl)(jL:(apos.endLine==be.line)=true:=by rfl) :
  PD X .cl (.Call (.Attribute o "bit_length" apos) [] [] be) (br An fa):=
 PE.imp (Kh PySem.F.plainAttrs_int Wi PySem.F.type_int_bit_length Fm ha jK jL) λσ H Q aC=>by
 obtain⟨env,B,Z,d,R,e,kq⟩:=aC;obtain⟨da,e1,e⟩:=b_.mp e;cases da<;>try cases e
 refine⟨env,B,Z,_,R,e1,λv Z1 H1 x1 g1=>?_⟩;cases g1.int;exact⟨rfl,_,rfl,rfl,kq _ Z1 H1 x1 rfl⟩
end
def gi(n:Nat)(lo hi st:Option Int):W7:=sliceRange (sliceBounds lo hi st n).1 (sliceBounds lo hi st n).2.1 (sliceBounds lo hi st n).2.2
def bG{α:Type}(xs:List α)(is:W7):List α:=is.filterMap (xs[·]?)
theorem F3(aQ:W0)(lo hi st:Option Int):slicePick aQ.toArray lo hi st=(bG aQ (gi aQ.length lo hi st)).toArray:=by
 unfold slicePick bG gi;simp only[u_,List.getElem?_toArray]
theorem iQ{vs:Xs}{us:W0}(r:av vs us):∀is:W7,av (bG vs is) (bG us is)
 | []=>.nil
 | i::is=>by
  have hl:=r.length;unfold bG
  by_cases hi:i<vs.length
  .obtain⟨u,h5,h6⟩:=av.get r (f_ hi);rw[SY,SY,h5,f_ hi];exact .cons h6 (iQ r is)
  .rw[SY,SY,K_ (by lia),K_ (by lia)];exact iQ r is
theorem fV{K:Fg}{Z:Hp}{ds:Xq}{vs:Xs}(r:ak K Z ds vs):∀is:W7,ak K Z (bG ds is) (bG vs is)
 | []=>rfl
 | i::is=>by
  have hl:=r.len;unfold bG
  by_cases hi:i<ds.length
  .obtain⟨u,h5,h6⟩:=r.get (f_ hi);rw[SY,SY,h5,f_ hi];exact ak.cons h6 (fV r is)
  .rw[SY,SY,K_ (by lia),K_ (by lia)];exact fV r is
section
variable {X:Cx}{l:Xk}{fa:Fe}{ga:Gr}{pos p2:Pos}{lo hi st:Option Xk}{fl fh fs:Fo}
def R0(K:Fg)(te:TE)(tl th ts:TO):TE:=λσ H Q=>te σ H λx H1=>tl σ H1 λi H2=>th σ H2 λj H3=>ts σ H3 λn H4=>n≠some 0/\∃a xs,x=.ref a/\di K H4 a xs/\(bG xs (gi xs.length i j n)).length<=xs.length/\∀q,H4 q=none->Q (.ref q) (upd H4 q (.lst (bG xs (gi xs.length i j n))))
theorem LR{e:Xk}{te:TE}{tl th ts:TO}{se:Xk}(he:PE X e te)(hl:PO X lo tl)(hh:PO X hi th)(hs:PO X (some se) ts):PE X (.Subscript e (.Slice lo hi (some se) p2) pos) (R0 X.K te tl th ts):=by
 intro pins s σ H Q I h;refine Subscript_ (aZ (he pins s σ H _ I h) λv s1 aC=>?_);obtain⟨x,H1,I1,r1,q1⟩:=aC;refine wpAny_Slice ?_;refine aZ (hl pins s1 σ H1 _ I1 q1) λvl s2 aC=>?_;obtain⟨i,H2,I2,pl,q2⟩:=aC;refine aZ (hh pins s2 σ H2 _ I2 q2) λvu s3 aC=>?_;obtain⟨j,H3,I3,pu,q3⟩:=aC;refine aZ (hs pins s3 σ H3 _ I3 q3) λNX s4 aC=>?_;obtain⟨n,H4,I4',ps,hn,a,xs,rfl,hx,hle,q⟩:=aC;cases r1;have I4:Inv X pins σ H4 {s4 with heap:=s4.heap.push {cls:=.type "slice",data:=.fields #[vl,vu,NX]}}:=I4'.kept λb ob z=>e_ _ z;obtain⟨aQ,rv,ht,hz⟩:=I4.list hx;have hlen:=rv.length;show wpAny (model X.prog X.w) X.A (subscriptTail e (.Slice lo hi (some se) p2) (.ref a) (.ref s4.sz)) (EP X pins σ Q) X.xe {s4 with heap:=s4.heap.push {cls:=.type "slice",data:=.fields #[vl,vu,NX]}};refine tail_any ht.isList.typeIs Vy.lookup ?_ (by with_unfolding_all rfl);refine Vg ht.isList (Heap.IsSliceOf.new ..) pl pu ps hn ?_ (by rw[u_]<;>lia);rw[F3,<- hlen];exact⟨.ref _,_,I4.laid (o:=.lst (bG xs (gi xs.length i j n))) (λb ob z=>e_ _ z) (h_ _) ⟨B_ hle hz,_,0,iQ rv _,n_ _ rfl⟩,rfl,q _ (I4.hok.fresh (h_ _))⟩
def RX:D->Option Int->Option Int->Option Int->Xr
 | .lst ds,i,j,n=>if n≠some 0/\(bG ds (gi ds.length i j n)).length<=ds.length then some (.lst (bG ds (gi ds.length i j n)))else none
 | _,_,_,_=>none
def Oe(f:Fe)(lo hi st:Fo):Fe:=λenv=>(f env).bind λx=>(lo env).bind λi=>(hi env).bind λj=>(st env).bind λn=>RX x i j n
theorem OU{se:Xk}(ha:PD X ga l fa)(hl:Jc X lo fl)(hh:Jc X hi fh)(hs:Jc X (some se) fs):PD X .nw (.Subscript l (.Slice lo hi (some se) p2) pos) (Oe fa fl fh fs):=PE.imp (LR ha hl hh hs) λσ H Q aC=>by
 refine cO λ_ kq=>?_;obtain⟨env,B,Z,d,R,e,k⟩:=aC;obtain⟨x,h1,e⟩:=b_.mp e;obtain⟨i,h2,e⟩:=b_.mp e;obtain⟨j,h3,e⟩:=b_.mp e;obtain⟨n,h4,e⟩:=b_.mp e;cases x<;>try cases e
 rename_i ds _ _ _;obtain⟨hc,rfl⟩:=kP e;refine kq (⟨env,B,Z,_,R,h1,λv Z1 H1 x1 g1=>⟨env,B,Z1,i,R.ext x1,h2,λZ2 H2 x2=>⟨env,B,Z2,j,(R.ext x1).ext x2,h3,λZ3 H3 x3=>⟨env,B,Z3,n,((R.ext x1).ext x2).ext x3,h4,λZ4 H4 x4=>?_⟩⟩⟩⟩)
 all_goals clear kq
 obtain⟨a,vs,rfl,hq,rr⟩:=Gd.lst x4.zh (Gd.later (H3:=H4) x4 (Gd.later (H3:=H4) x3 (Gd.later (H3:=H4) x2 g1)));have hv:=rr.len;have hp:=(fV rr (gi ds.length i j n)).len;refine⟨hc.1,a,vs,rfl,hq,by rw[<- hv,<- hp];exact hc.2,λq hp=>?_⟩;have x0:=((x1.trans x2).trans x3).trans x4;exact k _ Z4 _ (x0.trans (Ex.newL x4.zh hp)) ⟨q,_,_,rfl,rfl,x0.h.free hp,ai,x4.zh.free hp,by rw[<- hv];exact fV rr _⟩
end
section
variable {X:Cx}{rg:Gr}{pos:Pos}
def Ep(i:Nat)(f:Fe):Fe:=λenv=>match env[i]? with
 | some (.O (.L ds))=>(f (env.set i (.F (.lst ds)))).bind λd=>match d with | .int n=>some (.int n) | _=>none
 | _=>none
theorem HD(i:Nat)(h:PD X .cl e f):PD X .cl e (Ep i f):=PE.imp h λσ H Q aC=>by
 obtain⟨env,B,Z,d,R,e,k⟩:=aC;unfold Ep at e
 split at e
 .rename_i ds hi;obtain⟨d',e1,e2⟩:=b_.mp e;obtain⟨y,e3,a,o,e4,e5,e6,r⟩:=R.sl i _ hi;subst e4;have R1:=R.frzX hi e3 e5 e6 r;refine⟨_,B,_,d',R1,e1,λv Z' H' x g=>?_⟩;cases d'<;>cases e2;exact k v (era Z' a) H' (x.unfrz e6 e5) (show v=_ from g)
 .cases e
end
section
variable {X:Cx}{rg:Gr}{l:Xk}{fa:Fe}{ga:Gr}{pos pos2 p p2:Pos}
end
def lookI(ks:Xn)(xs:List α)(q:Key):Option α:=match ks,xs with
 | k::ks,x::xs=>if k=q then some x else lookI ks xs q
 | _,_=>none
theorem ib:∀(ks:Xn)(us:W0)(q:Key),valueAt (ks.zip us) q=lookI ks us q
 | [],us,q=>by cases us<;>rfl
 | k::ks,[],q=>rfl
 | k::ks,u::us,q=>by
  unfold lookI
  by_cases h:k=q
  .rw[j_ h];simp[valueAt,h]
  .rw[k_ h,<- ib ks us q];simp[valueAt,h]
theorem ak.lookI{K:Fg}{H:Hp}:∀{ks:Xn}{ds:Xq}{vs:Xs}{q:Key}{d:D},ak K H ds vs->Mi.lookI ks ds q=some d->∃v,Mi.lookI ks vs q=some v/\Rep K H d v
 | [],ds,_,_,_,_,h=>by cases ds<;>cases h
 | k::ks,[],_,_,_,_,h=>by cases h
 | k::ks,e::ds,_,q,d,⟨v,r,e1,h1,h2⟩,h=>by
  subst e1;unfold Mi.lookI at h ⊢
  by_cases hk:k=q
  .rw[j_ hk]at h ⊢;cases h;exact⟨v,rfl,h1⟩
  .rw[k_ hk]at h ⊢;exact ak.lookI h2 h
theorem av.lookI:∀{ks:Xn}{vs:Xs}{us:W0}{q:Key}{v:V},av vs us->Mi.lookI ks vs q=some v->∃u,Mi.lookI ks us q=some u/\RelV v u
 | [],vs,_,_,_,_,h=>by cases vs<;>cases h
 | k::ks,_,_,_,_,.nil,h=>by cases h
 | k::ks,_,_,q,d,.cons (a:=a) (b:=b) h1 h2,h=>by
  unfold Mi.lookI at h ⊢
  by_cases hk:k=q
  .rw[j_ hk]at h ⊢;cases h;exact⟨_,rfl,h1⟩
  .rw[k_ hk]at h ⊢;exact av.lookI h2 h
theorem ej:∀{ks:Xn}{xs:List α}{q:Key},xs.length=ks.length->(Mi.lookI ks xs q=none↔q∉ks)
 | [],xs,q,_=>by cases xs<;>simp[lookI]
 | k::ks,[],q,h=>by simp at h
 | k::ks,x::xs,q,h=>by
  unfold lookI
  by_cases hk:k=q
  .rw[j_ hk];simp[hk]
  .rw[k_ hk,ej (by simpa using h)];simp[Tj hk]
theorem BC{P P':Xd}{w w':Xg}{o:Obj}{kvs:List (Key×Xa)}(e:hashStr w=hashStr w')(h:o.IsDictOf (aA P w) kvs):o.IsDictOf (aA P' w') kvs:=by
 obtain⟨es,ep,h1,h2,h3,h4,h5⟩:=h;have hk:∀k,JU w k=JU w' k:=λk=>by cases k with | inl i=>rfl | inr x=>exact congrFun e x
 refine⟨es,ep,h1,h2,λx hx=>?_,?_,h5⟩
 .obtain⟨k,a,b⟩:=h3 x hx;exact⟨k,a,b.trans (hk k)⟩
 .clear h5 h2 h3;generalize es.toList=l at h4
  induction h4 with
  | nil=>exact .nil
  | cons a b _ ih=>exact .cons a b ih
section
variable {X:Cx}{rg:Gr}{l r o:Xk}{fa fb:Fe}{ga gb:Gr}{pos p:Pos}{k:Nat}{th:Str->Int}
theorem Cu{pins σ H s}{a:Xj}{ob:Obj}{ks:Xn}{vs:Xs}(I:Inv X pins σ H s)(hc:H a=some (.ext (o8 a ob)))(hx:CP (hashStr X.w) ob a ks vs) :
  ∃us,av vs us/\us.length=ks.length/\s.heap.get? a=some ob/\ob.IsDictOf (aA X.prog X.w) (ks.zip us)/\(a==sysModules)=false:=by
 obtain⟨h1,h2,h3,P,w,us,e,hv,dd⟩:=hx;exact⟨us,hv,by rw[<- av.length hv];exact h3,(show aU X.prog X.w H s.heap a (.ext (o8 a ob))from I.hok a _ hc).1,BC e.symm dd,h1⟩
theorem G0{pins σ H s}{a:Xj}{ob:Obj}{ks:Xn}{vs:Xs}(I:Inv X pins σ H s)(hc:H a=some (.ext (o8 a ob)))(hx:CP (hashStr X.w) ob a ks vs) :
  ∃us,av vs us/\us.length=ks.length/\s.heap.DictOf (aA X.prog X.w) a (ks.zip us)/\(a==sysModules)=false:=by
 obtain⟨us,h1,h2,h3,h4,h5⟩:=Cu I hc hx;exact⟨us,h1,h2,Heap.dictOf_iff.mpr ⟨ob,h3,h4⟩,h5⟩
theorem oJ(a:Xj)(ob:Obj):∀h1 h2:Xf,o8 a ob h1->(∀o,h1.get? a=some o->h2.get? a=some o)->o8 a ob h2:=λ_ _ e k=>k _ e
def II:D->Option Key
 | .int i=>some (.inl i)
 | .str x=>some (.inr x)
 | _=>none
theorem wM{K:Fg}{Z H H0:Hp}{g:Gr}{d:D}{v:V}{q:Key}(h:Gd K Z H0 H g d v)(e:II d=some q):v=kV q:=by
 cases d<;>cases e
 .exact h.int
 .exact h.str
open Classical in
noncomputable def Ln(th:Str->Int):D->Option (Xn×Xq)
 | .ix zL ks ds=>if zL=th then some (ks,ds)else none
 | _=>none
open Classical in
theorem tO(h:Ln th d=some x):d=.ix th x.1 x.2:=by
 cases d<;>try cases h
 unfold Ln at h;obtain⟨rfl,rfl⟩:=kP h
 rfl
open Classical in
theorem He(th:Str->Int)(ks:Xn)(ds:Xq):Ln th (.ix th ks ds)=some (ks,ds):=by show(if th=th then some (ks,ds)else none)=_;rw[j_ rfl]
noncomputable def Co(th:Str->Int)(x y:D):Xr:=(Ln th x).bind λm=>(II y).bind λq=>lookI m.1 m.2 q
def G1(th:Str->Int):R2:=λx y H Q=>∃(a:Xj)(ob:Obj)(ks:Xn)(vs:Xs)(q:Key)(v:V),x=.ref a/\H a=some (.ext (o8 a ob))/\CP th ob a ks vs/\y=kV q/\lookI ks vs q=some v/\Q v H
theorem Eu(ho:PE X o td)(hi:PE X i ty)(hs:AU i):PE X (.Subscript o i pos) (E8 (G1 (hashStr X.w)) td ty):=by
 intro pins s σ H Q I h;refine xA Wt.lookup hs (aZ (ho pins s σ H _ I h) λu s1 ⟨x,H1,I1,rx,q1⟩=>aZ (hi pins s1 σ H1 _ I1 q1) λiv s2 aC=>?_);obtain⟨y,H2,I2,ry,a,ob,ks,vs,q,v,ex,hc,hx,ey,hl,q2⟩:=aC;subst ex ey;obtain rfl:u=Value.ref a:=rx;obtain⟨us,hv,h1,dd,h2⟩:=G0 I2 hc hx;obtain⟨w',e1,e2⟩:=av.lookI hv hl;exact⟨dd.typeIs,wpAny_getItem_of (Cr ry) dd.mapOf (by rw[ib];exact e1) ⟨v,H2,I2.tok _,e2,q2⟩⟩
theorem Jz{K:Fg}{th:Str->Int}:cb K .cl (Co th) (G1 th):=λ{Z H x y dx dy d Q} s h1 h2 e kq=>by
 obtain⟨m,e1,e⟩:=b_.mp e;obtain⟨q,e2,e3⟩:=b_.mp e;cases tO e1;rcases h1 with h1 | ⟨_,_,_,_,e,_⟩ | ⟨_,_,_,e,_⟩ | ⟨_,_,_,_,_,e,_⟩
 .obtain⟨a,ob,vs,rfl,hc,hx,rr⟩:=h1;obtain⟨v,e4,e5⟩:=ak.lookI rr e3;exact⟨a,ob,m.1,vs,q,v,rfl,s _ _ hc,hx,wM h2 e2,e4,kq v Z H (Ex.refl s) e5⟩
 .cases e
 .cases e
 .cases e
theorem HA(hw:th=hashStr X.w)(ha:PD X ga l fa)(hb:PD X gb r fb)(hs:AU r:=by intro _ _;rfl):PD X .cl (.Subscript l r pos) (ao (Co th) fa fb):=by
 subst hw;exact PE.imp (Eu ha hb hs) λ_ _ _ h=>fK Jz h
theorem F':PE X (.Dict [] [] pos) (λσ H Q=>∀a ob,H a=none->CP (hashStr X.w) ob a [] []->Q (.ref a) (upd H a (.ext (o8 a ob)))):=λpins s σ H Q I hT=>by
 have hf:=I.hok.fresh (h_ s.sz);have hg:=n_ s.heap (o:={cls:=.type "dict",data:=.dict #[]}) rfl;have hx:CP (hashStr X.w) {cls:=.type "dict",data:=.dict #[]} s.sz [] []:=⟨by have:=I.big;simpa using (T9 this),by simp,rfl,X.prog,X.w,[],rfl,.nil,#[],0,⟨rfl,rfl,rfl⟩,rfl,λe he=>by simp at he,.nil,by simp⟩;exact wpAny_Dict_empty ⟨.ref s.sz,_,I.laid (o:=.ext (o8 s.sz {cls:=.type "dict",data:=.dict #[]})) (λ_ _ q=>e_ _ q) (h_ _) ⟨hg,⟨_,hg⟩,oJ _ _⟩,rfl,hT _ _ hf hx⟩
def MS(th:Str->Int)(i:Nat):Fs:=λenv=>some (.nx (env.set i (.O (.I th [] []))))
theorem JH(i:Nat)(hw:th=hashStr X.w)(hN:X.N.Nodup)(hi:X.N[i]?=some x:=by rfl)(hx:Loc X.env.scope x:=by first | exact Or.inl rfl | exact Or.inr rfl)(hs:swapsWith (.Dict [] [] p) (some (.Name x pos')) pos.line X.env=pure false:=by rfl)
  (hf:X.fn x=true\/X.env.scope.names.lookup x=some .local:=by first | exact .inl rfl | exact .inr rfl | assumption):SD X rg (.Assign [.Name x pos'] (.Dict [] [] p) pos) (MS th i):=PS.imp (fW hN hi hx F' hs hf) λE σ H h=>by
 subst hw;obtain⟨env,B,Z,o,R,e,k⟩:=h;cases e;intro a ob ha hx;have x1:Ex Z H Z (upd H a (.ext (o8 a ob))):=Ex.newL R.zh ha;refine k _ Z _ (x1.part R.bh) ((R.ext x1).setO i (R.bh.free ha) (R.zh.free ha) ai (show bU X.K Z a (.I _ [] []) _ from⟨ob,[],rfl,hx,rfl⟩) λj es hj hje hja=>?_);obtain⟨y,e4,b,us,e5,e6,_⟩:=R.sl j _ hje;rw[hja]at e4;cases e4;cases e5;rw[ha]at e6;cases e6
def L9(th:Str->Int)(td ty tx:TE):TE:=λσ H Q=>td σ H λx H1=>∃a ob ks vs,x=.ref a/\H1 a=some (.ext (o8 a ob))/\CP th ob a ks vs/\ty σ H1 λy H2=>tx σ H2 λz H3=>∃q:Key,H3 a=some (.ext (o8 a ob))/\y=kV q/\ks.length<16000000/\
 (∀v,lookI ks vs q=some v->Q v H3)/\(q∉ks->∀DF,CP th DF a (ks++[q]) (vs++[z])->Q z (upd H3 a (.ext (o8 a DF))))
theorem Bf:∀{ks:List α}{us:List β}(_:us.length=ks.length)(q:α)(u:β),(ks++[q]).zip (us++[u])=ks.zip us++[(q,u)]:=λ{ks us} h q u=>by
 rw[List.zip_append h.symm];rfl
theorem Gm(ho:PE X o td)(he:PE X e ty)(hf:PE X f tx)(m:M2 X o "setdefault" apos e f be):PE X (.Call (.Attribute o "setdefault" apos) [e,f] [] be) (L9 (hashStr X.w) td ty tx):=by
 intro pins s σ H Q I h;refine wpAny_Call_method m.base m.few m.line PySem.F.plainAttrs_dict T8 V8 (aZ (ho pins s σ H _ I h) λu s1 aC=>?_);obtain⟨x,H1,I1,rx,a,ob,ks,vs,ex,hc1,hx,q1⟩:=aC;subst ex;obtain rfl:u=Value.ref a:=rx;obtain⟨us,hv,h1,h2,h3,nW⟩:=Cu I1 hc1 hx;have t1:s1.TypeIs (.ref a) "dict":=by obtain⟨es,ep,e1,_⟩:=h3;exact⟨ob,h2,e1.1⟩
 have t2:∀b,Value.ref a=.ref b->∃ob,s1.heap.get? b=some ob/\ob.dict=none:=λb q=>by
  cases q;obtain⟨es,ep,e1,_⟩:=h3;exact⟨ob,h2,e1.2.1⟩
 refine⟨t1,t2,?_⟩;rw[m.trees];refine UQ rfl (VW (UN (aZ (he pins s1 σ H1 _ I1 q1) λiv s2 ⟨y,H2,I2,ry,q2⟩=>UN (aZ (hf pins s2 σ H2 _ I2 q2) λfv s3 aC=>Ww ?_))));obtain⟨z,H3,I3,rz,q,hc,ey,hl,q3,q4⟩:=aC;subst ey;obtain⟨us,hv,h1,dd,nW⟩:=G0 I3 hc hx;have hlz:(ks.zip us).length=ks.length:=by rw[V9,h1];exact WJ _
 refine call_meetsIn T8 dd.typeIs V3 (VR _ _ _) (PySem.kt_meets_setdefault (aA X.prog X.w) a (Cr ry) nW fv) ⟨_,dd,by rw[hlz,SB];lia,λv' DD=>?_,λhn h' dd' hs'=>?_⟩
 .rw[ib]at DD;have QF:vs.length=ks.length:=by rw[av.length hv];exact h1
  cases e:lookI ks vs q with
  | none=>
   have:=(ej QF).mp e;have h0:=(ej (xs:=us) (q:=q) h1).mpr this;rw[h0]at DD;cases DD
  | some v=>
   obtain⟨w',e1,e2⟩:=av.lookI hv e;rw[DD]at e1;cases e1;exact⟨v,H3,I3.tok _,e2,q3 v e⟩
 .rw[ib]at hn;have hnq:=(ej h1).mp hn;have e0:((ks.zip us).any λkv=>decide (kv.1=q))=false:=by
   rw[List.any_eq_false];intro kv hkv hq;exact hnq (by rw[<- Sy hq];exact(UU (show(kv.1,kv.2)∈ks.zip us from hkv)).1)
  have e1:stored (ks.zip us) q fv=((ks++[q]).zip (us++[fv])):=by
   unfold stored;rw[k_ (by rw[e0];exact P_),Bf h1]
  rw[e1]at dd';obtain⟨DF,g1,g2⟩:=Heap.dictOf_iff.mp dd';have jJ:CP (hashStr X.w) DF a (ks++[q]) (vs++[z]):=⟨nW,by rw[r_];simp;lia,by rw[r_,r_,av.length hv,h1];rfl,X.prog,X.w,us++[fv],rfl,av.append hv (.cons rz .nil),g2⟩;exact⟨z,upd H3 a (.ext (o8 a DF)),I3.write (by rw[hc];exact True.intro) (.inl rfl) (λb u hb z=>(hs'.2 b hb).trans z) ⟨DF,g1⟩ ⟨g1,⟨DF,g1⟩,oJ _ _⟩,rz,q4 hnq DF jJ⟩
open Classical in
noncomputable def HQ(th:Str->Int)(i:Nat)(fk fx:Fe):Fs:=λenv=>(fk env).bind λkd=>(fx env).bind λd=>(II kd).bind λq=>match env[i]? with
 | some (.O (.I zL ks ds))=>if zL=th/\ks.length<16000000/\ds.length=ks.length then some (.nx (env.set i (.O (if q∈ks then .I th ks ds else .I th (ks++[q]) (ds++[d])))))else none
 | _=>none
open Classical in
theorem HZ(i:Nat)(hw:th=hashStr X.w)(hk:PD X .cl ke fk)(hx:PD X .cl ve fx)(hN:X.N[i]?=some x:=by rfl)(Hv:wH X.env.scope x:=by first | exact Or.inl rfl | exact Or.inr (Or.inl rfl) | exact Or.inr (Or.inr rfl))
  (hd:(x==("__debug__":Str))=false:=by decide) (dQ:(x==("__classdict__":Str))=false:=by decide)
  (h1:attributeBase (.Name x px) "setdefault" X.env (eval (.Name x px) X.env)=eval (.Name x px) X.env:=by rfl) (h2:((backTo be (starEach [ke,ve] X.env)).all (λx=>!x.1)&&(backToKw be (keywordEach [] X.env)).all (λx=>x.1.isSome)
   && decide (([ke,ve]:W5).length+([]:List Keyword).length+(if([]:List Keyword).isEmpty then 0 else 1)<30))=true:=by rfl) (h3:(apos.endLine==be.line)=true:=by rfl)
  (h4:backTo be (starEach [ke,ve] X.env)=[(false,eval ke X.env),(false,eval ve X.env)]:=by rfl)
  (hs:swapsWith (.Call (.Attribute (.Name x px) "setdefault" apos) [ke,ve] [] be) none pos.line X.env=pure false:=by rfl) :
  SD X rg (.Expr (.Call (.Attribute (.Name x px) "setdefault" apos) [ke,ve] [] be) pos) (HQ th i fk fx):=by
 subst hw;refine PS.imp (i5 (Gm (bI hN Hv hd dQ) hk hx ⟨h1,h2,h3,h4⟩) hs) λE σ H aC=>?_;refine cO λ_ kg=>?_;obtain⟨env,B,Z,o,R,e,kq⟩:=aC;obtain⟨kd,e1,e⟩:=b_.mp e;obtain⟨d,e2,e⟩:=b_.mp e;obtain⟨q,e7,e⟩:=b_.mp e
 split at e
 .rename_i zL ks ds hi;obtain⟨⟨rfl,hlen,Gn⟩,rfl⟩:=kP e;obtain⟨y,e3,c,o,e4,e5,e6,ob,vs,rfl,hx,rr⟩:=R.sl i _ hi;subst e4;refine kg ⟨_,e3,c,ob,ks,vs,rfl,e5,hx,env,B,Z,kd,R,e1,λkv Z1 H1 x1 g1=>⟨env,B,Z1,d,R.ext x1,e2,λv Z2 H2 x2 g2=>?_⟩⟩;clear kg;have R2:=(R.ext x1).ext x2;have x0:=x1.trans x2;refine⟨q,x2.h _ _ (x1.h _ _ e5),wM (show Gd X.K Z1 H H1 .cl kd kv from g1) e7,hlen,λu hu=>?_,λhn DF jJ=>?_⟩
  .have hin:q∈ks:=Uu λz=>by
    rw[(ej hx.2.2.1).mpr z]at hu;cases hu
   rw[j_ hin]at kq;have he:env.set i (.O (.I (hashStr X.w) ks ds))=env:=by
    refine Uy λj=>?_
    by_cases hj:i=j
    .subst hj;rw[v_ (i_.mp hi).1,hi]
    .rw[p_ hj]
   rw[he]at kq;exact kq σ Z2 H2 (x0.part R.bh) R2
  .rw[k_ hn]at kq;obtain⟨R3,x3⟩:=R2.wr hi e3 (show bU X.K _ c (.I (hashStr X.w) (ks++[q]) (ds++[d])) _ from⟨DF,_,rfl,jJ,(ak.mono x0.z ds rr).app (ak.one g2)⟩);exact kq σ _ _ ((x0.part R.bh).transB x3) R3
 .cases e
def Q8(a:Xj)(ob:Obj)(ks:Xn):It:=⟨λi H=>H a=some (.ext (o8 a ob))/\i<ks.length,λi H x H'=>H'=H/\∀q,ks[i]?=some q->x=kV q,λi H=>H a=some (.ext (o8 a ob))/\ks.length<=i⟩
theorem mh{P:Xd}{w:Xg}:∀{es:List DictEntry}{kvs:List (Key×Xa)},Pairs (aA P w) es kvs->∀{i:Nat}{en:DictEntry},es[i]?=some en->∃kv,kvs[i]?=some kv/\ik kv.1 en.key=true
 | _,_,.nil,i,en,h=>by simp at h
 | _,_,.cons a b r,0,en,h=>by simp at h;subst h;exact⟨_,rfl,a⟩
 | _,_,.cons a b r,i+1,en,h=>by simpa using mh r (i:=i) (by simpa using h)
theorem yU{q:Key}{u:Xa}(h:ik q u=true):RelV (kV q) u:=by
 rcases aW h with ⟨i,t,rfl,rfl⟩ | ⟨x,t,rfl,rfl⟩
 .exact⟨t,rfl⟩
 .exact⟨t,rfl⟩
theorem ze{P:Xd}{w:Xg}{K:Fg}{tg:Xk}{it a:Xj}{ob:Obj}{ks:Xn}{us:W0}{es:Array DictEntry}{ep:Nat}(hd:ob.data=.dict es ep)(hp:Pairs (aA P w) es.toList (ks.zip us))(hl:us.length=ks.length) :
  Turn P w K tg (Q8 a ob ks) [it] it (λn h=>h.IsKeyIter it a n es.size ep) where
 mem:=by simp
 obj:=λi h st b hb=>by
  have e:b=it:=by simpa using hb
  subst e;obtain⟨o,e,c,d⟩:=st;exact⟨o,e,λv z=>by rw[d]at z;cases z⟩
 keep:=λi h h' st k=>st.at λo e=>k it (by simp) o e
 item:=by
  intro X hP hw hK hc i pins s σ H E I hf st hg;subst hP hw hK;obtain⟨ha,hi⟩:=hg;have h1:s.heap.get? a=some ob:=(show aU X.prog X.w H s.heap a (.ext (o8 a ob))from I.hok a _ ha).1;have hsz:es.size=ks.length:=by rw[<- Sx,hp.length,V9,hl];exact WJ _
  obtain⟨f0,f1,f2,f3,f4,f5⟩:=hf it (by simp);refine mm st h1 hd (by rw[hsz];exact hi) λh' lS sb=>?_;have I1:Inv X pins σ H {s with heap:=h'}:=I.turned (t':=s.toks) (λb o hb e=>(sb.2 b hb).trans e) f0 f1 f3 f4 f5;obtain⟨o,e,c,d⟩:=id lS;obtain⟨kv,e2,e3⟩:=mh hp (i:=i) (en:=es[i]'(by rw[hsz];exact hi)) (by simp[hsz,hi]);have e4:ks[i]?=some kv.1:=(Tg.mp (show(ks.zip us)[i]?=some (kv.1,kv.2)from e2)).1;exact⟨_,rfl,sW (s:={s with heap:=h'}) e c d (by decide) ⟨kV kv.1,H,I1,yU e3,⟨rfl,λq hq=>by rw[e4]at hq;cases hq;rfl⟩,lS,λb hb=>(hf b hb).1⟩⟩
 done:=by
  intro X hP hw hK hc i pins s σ H E I hf st hg;subst hP hw hK;obtain⟨ha,hi⟩:=hg;have h1:s.heap.get? a=some ob:=(show aU X.prog X.w H s.heap a (.ext (o8 a ob))from I.hok a _ ha).1;have hsz:es.size=ks.length:=by rw[<- Sx,hp.length,V9,hl];exact WJ _
  obtain⟨f0,f1,f2,f3,f4,f5⟩:=hf it (by simp);exact qX (I.ok.hd hc) st h1 hd (by rw[hsz];exact hi) λh' eb=>⟨rfl,I.turned (t':=s.toks) (λb o hb e=>eb b o hb e) f0 f1 f3 f4 f5⟩
 self:=λ_ _ _ _ _ st h=>V2 st h
def LQ(th:Str->Int)(td:TE):TI:=λσ H R=>td σ H λx H1=>∃(a:Xj)(ob:Obj)(ks:Xn)(vs:Xs),x=.ref a/\H1 a=some (.ext (o8 a ob))/\CP th ob a ks vs/\R (Q8 a ob ks) H1
theorem Fy{l:Xk}{tl:TE}(hl:PE X l tl):PI X tg l (LQ (hashStr X.w) tl):=by
 intro pins s σ H R I h;refine aZ (hl pins s σ H _ I h) λv s1 ⟨x,H1,I1,r1,q1⟩=>?_;obtain⟨a,ob,ks,vs,e,hc,hx,q⟩:=q1;subst e;cases r1;obtain⟨us,hv,h1,h2,⟨es,ep,e1,e2,e3,e4,e5⟩,nW⟩:=Cu I1 hc hx;refine me nW h2 e1 e2 ?_;refine⟨s1.heap.objs.size,[s1.heap.objs.size],_,_,H1,rfl,I1.kept (t':=s1.toks) λb o e=>e_ _ e,ze e2 e4 h1,⟨_,n_ _ rfl,rfl,rfl⟩,λb hb=>?_,q⟩;have e:b=s1.heap.objs.size:=by simpa using hb
 subst e;exact I1.fpOk (h_ _) (I1.hok.fresh (h_ _))
noncomputable def Oa(th:Str->Int)(f:Fe):Fi:=λenv=>(f env).bind λd=>(Ln th d).bind λm=>if AI m.1=true then some (m.1.map kD)else none
theorem IA(hw:th=hashStr X.w)(h:PD X .cl l f):ID X tg l (Oa th f):=by
 subst hw;refine PI.imp (Fy h) λσ H R aC=>?_;refine cO λ_ kq=>?_;obtain⟨env,B,Z,ds,Rr,e,k⟩:=aC;obtain⟨d,e1,e2⟩:=b_.mp e;obtain⟨m,e3,e4⟩:=b_.mp e2;obtain⟨hk,rfl⟩:=kP e4;cases tO e3;refine kq (⟨env,B,Z,_,Rr,e1,λv Z1 H1 x1 g1=>?_⟩);clear kq;obtain⟨a,ob,vs,rfl,hc,hx,rr⟩:=g1;refine⟨a,ob,m.1,vs,rfl,x1.zh _ _ hc,hx,k _ Z1 H1 x1 λZ' H' s1 s2 i=>?_⟩;have ha:=(s1.trans s2) _ _ hc;rw[c_];refine⟨λhi=>⟨⟨ha,hi⟩,λx H'' y=>?_⟩,λhi=>⟨ha,hi⟩⟩;obtain⟨rfl,y⟩:=y;have e5:=y m.1[i] (by simp[hi]);refine⟨Z',kD m.1[i],Ex.refl s2,by simp[hi],?_⟩;rw[e5];have:=M_.mp hk m.1[i] (Tu hi);cases hh:m.1[i]with
 | inl j=>rfl
 | inr z=>rw[hh]at this;exact⟨rfl,this⟩
end
end Mi
namespace St
open PySem PySem.Spec PyProof.Rows PyProof.V
theorem bS:Slot "set_iterator" "__next__" "set_iterator.__next__":=
 .of (owner:="set_iterator") (n:="__next__") (by rw[typeLookup_type,builtinLookup_eq_fast];kernel_rfl) (by decide +kernel) (by decide +kernel) (by decide +kernel)
  (by first | exact .inl (by decide +kernel) | exact .inr (by decide +kernel)) (by rw[isSubtype_type];kernel_rfl)
theorem jm:Slot "set_iterator" "__iter__" "set_iterator.__iter__":=
 .of (owner:="set_iterator") (n:="__iter__") (by rw[typeLookup_type,builtinLookup_eq_fast];kernel_rfl) (by decide +kernel) (by decide +kernel) (by decide +kernel)
  (by first | exact .inl (by decide +kernel) | exact .inr (by decide +kernel)) (by rw[isSubtype_type];kernel_rfl)
theorem ig:entryFor table "set_iterator.__next__"=some Builtin.«set_iterator.__next__»:=entryFor_of_tree (by kernel_rfl)
theorem nY:entryFor table "set_iterator.__iter__"=some Builtin.«dict_keyiterator.__iter__»:=entryFor_alias (id':="dict_keyiterator.__iter__") (by kernel_rfl) rfl (by decide +kernel) (by kernel_rfl)
theorem mB:entryFor table "set.__iter__"=some Builtin.«frozenset.__iter__»:=entryFor_alias (id':="frozenset.__iter__") (by kernel_rfl) rfl (by decide +kernel) (by kernel_rfl)
theorem sr:Manifest.owners.lookup (String.ofList ['r','o','t','a','r','e','t','i','_','t','e','s'].reverse)=some Manifest.sig_set_iterator:=by kernel_rfl
theorem jE(a:Xa):argsOk "set_iterator.__next__" ⟨[a],[]⟩:=by
 unfold argsOk;rw[signature?_of (id:="set_iterator.__next__") (n:=['_','_','t','x','e','n','_','_']) (o:=['r','o','t','a','r','e','t','i','_','t','e','s']) (by kernel_rfl) sr];kernel_rfl
theorem qy(a:Xa):argsOk "set_iterator.__iter__" ⟨[a],[]⟩:=by
 unfold argsOk;rw[signature?_of (id:="set_iterator.__iter__") (n:=['_','_','r','e','t','i','_','_']) (o:=['r','o','t','a','r','e','t','i','_','t','e','s']) (by kernel_rfl) sr];kernel_rfl
def gm(w:Xg)(a:Xj)(ep:Nat)(es:Array (Int×Xa)):Array (Int×Xa):=if w.params.followText "set-order"=true then pickOrder (w.params.setOrder a ep) es else es
theorem mY{α:Type}:∀{l:List α}{i:Nat}(h:i<l.length),(l[i]::l.eraseIdx i).Perm l
 | x::l,0,h=>List.Perm.refl _
 | x::l,i+1,h=>by
  have h':i<l.length:=by simpa using h
  exact(List.Perm.swap ..).trans ((mY h').cons x)
theorem oM{α:Type}(f:Nat->Nat):∀(n k:Nat)(left:List α)(out:Array α),left.length=n->(pickOrder.go f n k left out).toList.Perm (out.toList++left)
 | 0,k,left,out,h=>by
  rw[T7.mp h,SG];exact List.Perm.refl _
 | n+1,k,left,out,h=>by
  have hi:f k%left.length<left.length:=Wj _ (by lia);unfold pickOrder.go;rw[f_ hi];refine(oM f n (k+1) _ _ (by rw[List.length_eraseIdx_of_lt hi];lia)).trans ?_;rw[Array.toList_push,T4];exact List.Perm.append_left _ (mY hi)
theorem hU(w:Xg)(a:Xj)(ep:Nat)(es:Array (Int×Xa)):(gm w a ep es).toList.Perm es.toList:=by
 unfold gm
 split
 .exact oM _ _ _ _ _ (by simp)
 .exact List.Perm.refl _
structure Lb(w:World)(a:Addr)(o:Obj)(es:Array (Int×Value))(ep:Nat)(t:SetTable):Prop where
 ex:o.ExactSet
 dat:o.data=.set es ep t
 ok:Ok t (es.toList.map (·.1))
 led:t.led=!w.params.followText "set-order"
 pl:t.plain=true
section
variable {prog:Xd}{w:Xg}{A:Xe}{E:WT}{s:Xb}{a it:Xj}{o:Obj}{es:Array (Int×Xa)}{ep:Nat}{t:SetTable}
theorem Lb.fits(W:Lb w a o es ep t):t.fits es.size=true:=fits_of W.ok (by have:=W.ok.len;simpa using this)
def slotAt(t:SetTable)(i:Nat):Nat:=match i with
 | 0=>0
 | j+1=>t.place.getD j 0+1
def zj(h:Xf)(it a:Xj)(n ep:Nat)(w:Xg)(t:SetTable)(i:Nat):Prop:=h.get? it=some {cls:=.type "set_iterator",data:=.fields #[.int (if w.params.followText "set-order"=true then 0 else slotAt t i:Nat) 0,.int i 0,.ref a,.int n 0,.int ep 0]}
theorem DL(W:Lb w a o es ep t)(ho:s.heap.get? a=some o)(hQ:Q (.ref s.heap.objs.size) {s with heap:=s.heap.push {cls:=.type "set_iterator",data:=.fields #[.int 0 0,.int 0 0,.ref a,.int es.size 0,.int ep 0]}}):wpAny (model prog w) A (pyIter (.ref a)) Q E s:=by
 have hT:s.TypeIs (.ref a) "set":=⟨o,ho,W.ex.1⟩;refine WC hT F.slot_set_iter (SC F.slot_set_iter hT mB ?_ (F.args_set_iter_1 _));unfold Builtin.«frozenset.__iter__» Builtin.Frozenset.slot0 Builtin.Frozenset.sizeOf;refine a_ (a_ (d_ ?_));show wpAny _ _ (pure a) _ _ s;refine d_ ?_;unfold setEntries setDrawn setEpoch;refine a_ (a_ (a_ (SQ ho W.dat W.fits (d_ (d_ ?_)))));refine a_ (a_ (SQ ho W.dat W.fits ?_));unfold setsByText;refine a_ (a_ (Tv (d_ ?_)));refine d_ ?_;have e0:∀b:Bool,(b&&(!t.plain&&decide (es.size>1)))=false:=λb=>by rw[W.pl];cases b<;>rfl
 show wpAny _ _ (if(!(w.params.followText "set-order")&&(!t.plain&&decide (es.size>1)))=true then _ else _) _ _ s;rw[e0,k_ P_];refine a_ (d_ (a_ (a_ (SQ ho W.dat W.fits (d_ (a_ (S7 ?_)))))));exact d_ ⟨_,rfl,"set_iterator",_,⟨_,n_ _ rfl,rfl⟩,bS.lookup,hQ⟩
theorem lZ(W:Lb w a o es ep t)(i:Nat)(hi:i<=es.size):SetTable.below t.place (slotAt t i)=i:=by
 have hz:t.place.size=es.size:=by have:=W.ok.len;simpa using this
 obtain⟨h1,h2,h3⟩:=ng t.place (slotAt t i) W.ok.up;generalize SetTable.below t.place (slotAt t i)=r at *;have hl:t.place.toList.length=es.size:=by simpa using hz
 cases i with
 | zero=>
  cases r with
  | zero=>rfl
  | succ r=>exact absurd (h2 t.place.toList[0] (Ur.mpr ⟨0,by lia,rfl⟩)) (UV _)
 | succ j=>
  have hj:j<t.place.toList.length:=by lia
  have e:slotAt t (j+1)=t.place.toList[j]+1:=by
   show t.place.getD j 0+1=_;have:j<t.place.size:=by lia
   simp[Array.getD,this]
  rw[e]at h2 h3;rcases Wv r (j+1)with hlt | rfl | hgt
  .have:=h3 t.place.toList[j] (Va.mpr ⟨j-r,by lia,by congr 1;lia⟩)
   lia
  .rfl
  .have KI:j+1<t.place.toList.length:=by lia
   have a1:=h2 t.place.toList[j+1] (Ur.mpr ⟨j+1,by lia,rfl⟩);have a2:=SU.mp W.ok.up j (j+1) hj KI (by lia)
   lia
theorem FJ(W:Lb w a o es ep t)(hi:zj s.heap it a es.size ep w t i)(ho:s.heap.get? a=some o)(hlt:i<es.size)
  (hQ:∀h' v,(∃k,(gm w a ep es)[i]?=some (k,v))->zj h' it a es.size ep w t (i+1)->Heap.SameBut it s.heap h'->Q (some v) {s with heap:=h'}):wpAny (model prog w) A (pyNext (.ref it)) Q E s:=by
 have hT:s.TypeIs (.ref it) "set_iterator":=⟨_,hi,rfl⟩;unfold pyNext;refine a_ (UZ (S3 (name:="__next__") hT bS (SC bS hT ig ?_ (jE _))));refine a_ (d_ (a_ (Wo hi rfl ?_)));show wpAny _ _ (setEntries a >>= _) _ _ s;unfold setEntries;refine a_ (a_ (SQ ho W.dat W.fits (d_ ?_)));show wpAny _ _ (if(((es.size:Int) != (es.size:Int))=true)then _ else _) _ _ s;rw[k_ (by simp)];have hz:t.place.size=es.size:=by have:=W.ok.len;simpa using this
 have e0:∀b:Bool,(b&&(!t.plain&&decide (es.size>1)))=false:=λb=>by rw[W.pl];cases b<;>rfl
 have go:∀(x:Xa)(nx:Nat),(∃k,(gm w a ep es)[i]?=some (k,x))->(nx=if w.params.followText "set-order"=true then 0 else slotAt t (i+1))->
   ∀{R:Fin->Xb->Prop}{E':WT},(∀h',zj h' it a es.size ep w t (i+1)->Heap.SameBut it s.heap h'->R (.done (.ret x)) {s with heap:=h'})->
   wpAny (model prog w) A.in1 (do setField (.ref it) 0 (rawInt nx);setField (.ref it) 1 (rawInt ((i:Int)+1));ret x) R E' s:=λx nx hx hn R E' hR=>by
  refine a_ (Ts hi (by simp) λg1 e1 s1=>?_);refine a_ (Ts e1 (by simp) λg2 e2 s2=>?_);refine d_ (hR g2 ?_ (s1.trans s2));unfold zj;rw[<- hn];simpa [rawInt]using e2
 unfold setNext setsByText;refine a_ (a_ (SQ ho W.dat W.fits (a_ (a_ (Tv (d_ ?_))))));have Dc:(gm w a ep es).size=es.size:=by have:=(hU w a ep es).length_eq;simpa using this
 have Lc:(gm w a ep es)[i]?=some ((gm w a ep es)[i]'(by rw[Dc];exact hlt)):=by simp[Dc,hlt]
 by_cases hb:w.params.followText "set-order"=true
 .show wpAny _ _ (if w.params.followText "set-order"=true then _ else _) _ _ s;rw[j_ hb];dsimp only;rw[k_ (by simp)];unfold setWalk setsByText;refine a_ (a_ (SQ ho W.dat W.fits (a_ (a_ (Tv (d_ ?_))))));show wpAny _ _ (if w.params.followText "set-order"=true then _ else _) _ _ s;rw[j_ hb];refine a_ (Tv (d_ (d_ ?_)));show wpAny _ _ (match Option.map (_:Int×Xa->Xa×Nat) (pickOrder (w.params.setOrder a ep) es)[i]? with | some (x,next)=>_ | none=>_) _ _ s;have e1:pickOrder (w.params.setOrder a ep) es=gm w a ep es:=by unfold gm;rw[j_ hb]
  rw[e1,Lc];exact go _ _ ⟨_,Lc⟩ (by simp[hb]) λh' q1 q2=>⟨_,rfl,d_ (hQ h' _ ⟨_,Lc⟩ q1 q2)⟩
 .show wpAny _ _ (if w.params.followText "set-order"=true then _ else _) _ _ s;rw[k_ hb];show wpAny _ _ (if(!t.plain&&decide (es.size>1))=true then _ else _) _ _ s;rw[k_ (by rw[W.pl];exact P_)];show wpAny _ _ ((if(!t.led&&!es.isEmpty)=true then unsupported _ else pure ()) >>= _) _ _ s;rw[k_ (by rw[W.led];simp[hb])];refine a_ (d_ (d_ ?_));show wpAny _ _ (match (match es[SetTable.below t.place (((if w.params.followText "set-order"=true then 0 else slotAt t i:Nat):Int)).toNat]?,t.place[SetTable.below t.place (((if w.params.followText "set-order"=true then 0 else slotAt t i:Nat):Int)).toNat]? with | some (_,x),some j=>some (x,j+1) | _,_=>none)with | some (x,next)=>_ | none=>_) _ _ s;have e1:gm w a ep es=es:=by unfold gm;rw[k_ hb]
  have e2:t.place[i]?=some (t.place[i]'(by rw[hz];exact hlt)):=by simp[hz,hlt]
  have hei:es[i]?=some ((gm w a ep es)[i]'(by rw[Dc];exact hlt)):=by rw[<- Lc,e1]
  rw[k_ hb,SR,lZ W i (TV hlt),e2,hei];refine go _ _ ⟨_,Lc⟩ ?_ λh' q1 q2=>⟨_,rfl,d_ (hQ h' _ ⟨_,Lc⟩ q1 q2)⟩;rw[k_ hb];show _=t.place.getD i 0+1;simp[Array.getD,hz,hlt]
theorem Jp(hh:A.handled=none)(W:Lb w a o es ep t)(hi:zj s.heap it a es.size ep w t es.size)(ho:s.heap.get? a=some o)
  (hQ:∀h',Heap.ExtBut it s.heap h'->Q none {s with heap:=h'}):wpAny (model prog w) A (pyNext (.ref it)) Q E s:=by
 have hT:s.TypeIs (.ref it) "set_iterator":=⟨_,hi,rfl⟩;unfold pyNext;refine a_ (UZ (S3 (name:="__next__") hT bS (SC bS hT ig ?_ (jE _))));refine a_ (d_ (a_ (Wo hi rfl ?_)));show wpAny _ _ (setEntries a >>= _) _ _ s;unfold setEntries;refine a_ (a_ (SQ ho W.dat W.fits (d_ ?_)));show wpAny _ _ (if(((es.size:Int) != (es.size:Int))=true)then _ else _) _ _ s;rw[k_ (by simp)];have hz:t.place.size=es.size:=by have:=W.ok.len;simpa using this
 have fin:∀{R:Fin->Xb->Prop}{E':WT},(∀h' e ob,Heap.ExtBut it s.heap h'->h'.get? e=some ob->ob.cls=.type "StopIteration"->E' (.ref e) {s with heap:=h'})->
   wpAny (model prog w) A.in1 (do setField (.ref it) 2 .none;raiseNew (<- newExc (.type "StopIteration") [])) R E' s:=λhE=>by
  refine a_ (TY hi rfl (by simp) ?_);show wpAny _ _ (newExc (.type "StopIteration") [] >>= _) _ _ _;simp only[newExc,newTuple];refine a_ (a_ (S7 (a_ (VX (by first | rfl | (simp only[firstArgMember];rfl)) (S7 ?_ (by size_fits)))) (by size_fits)));simp only[raiseNew];refine a_ (wpAny_handled ?_);rw[show A.in1.handled=none from hh];exact a_ (d_ (wpAny_throw (hE _ _ _ (((SM ..).extBut.push _).push _) (n_ _ rfl) rfl)))
 have out:∀h' e ob,Heap.ExtBut it s.heap h'->h'.get? e=some ob->ob.cls=.type "StopIteration"->wpAny (model prog w) A (do if <- isInstance (.ref e) (.type "StopIteration")then pure none else throw (.ref e)) Q E {s with heap:=h'}:=λh' e ob q1 q2 q3=>
  a_ (Ue ⟨ob,q2,q3⟩ isSubtype_stop (d_ (hQ _ q1)))
 have Dc:(gm w a ep es).size=es.size:=by have:=(hU w a ep es).length_eq;simpa using this
 unfold setNext setsByText;refine a_ (a_ (SQ ho W.dat W.fits (a_ (a_ (Tv (d_ ?_))))))
 by_cases hb:w.params.followText "set-order"=true
 .show wpAny _ _ (if w.params.followText "set-order"=true then _ else _) _ _ s;rw[j_ hb];dsimp only;rw[k_ (by simp)];unfold setWalk setsByText;refine a_ (a_ (SQ ho W.dat W.fits (a_ (a_ (Tv (d_ ?_))))));show wpAny _ _ (if w.params.followText "set-order"=true then _ else _) _ _ s;rw[j_ hb];refine a_ (Tv (d_ (d_ ?_)));show wpAny _ _ (match Option.map (_:Int×Xa->Xa×Nat) (pickOrder (w.params.setOrder a ep) es)[es.size]? with | some (x,next)=>_ | none=>_) _ _ s;have e1:pickOrder (w.params.setOrder a ep) es=gm w a ep es:=by unfold gm;rw[j_ hb]
  rw[e1,Tf (by lia)];exact fin out
 .show wpAny _ _ (if w.params.followText "set-order"=true then _ else _) _ _ s;rw[k_ hb];show wpAny _ _ (if(!t.plain&&decide (es.size>1))=true then _ else _) _ _ s;rw[k_ (by rw[W.pl];exact P_)];show wpAny _ _ ((if(!t.led&&!es.isEmpty)=true then unsupported _ else pure ()) >>= _) _ _ s;rw[k_ (by rw[W.led];simp[hb])];refine a_ (d_ (d_ ?_));show wpAny _ _ (match (match es[SetTable.below t.place (((if w.params.followText "set-order"=true then 0 else slotAt t es.size:Nat):Int)).toNat]?,t.place[SetTable.below t.place (((if w.params.followText "set-order"=true then 0 else slotAt t es.size:Nat):Int)).toNat]? with | some (_,x),some j=>some (x,j+1) | _,_=>none)with | some (x,next)=>_ | none=>_) _ _ s;rw[k_ hb,SR,lZ W es.size (h_ _),Tf (h_ _)];exact fin out
theorem Bg(hT:s.TypeIs (.ref a) "set"){Q:Bool->Xb->Prop}(h:Q false s):wpAny (model prog w) A (Builtin.List.listLengthHint (.ref a)) Q E s:=by
 unfold Builtin.List.listLengthHint;refine a_ (TK hT PySem.F.slot_set_len.lookup ?_);generalize hid:("set.__len__":String)=id0
 wp_delta
 rw[show splitId id0=some ("set","__len__")from by subst hid;decide +kernel];subst hid;refine a_ (Ue (T:="set") (b:=true) hT (by rw[isSubtype_type];kernel_rfl) ?_);refine wpAny_ite_split (λHm=>absurd Hm (by decide)) (λ_=>?_);refine wpAny_ite_split (λ_=>?_) (λHm=>absurd (by decide +kernel) Hm);refine a_ (wpAny_typeOf hT ?_);exact d_ h
theorem F9(W:Lb w a o es ep t):PySem.W.KdlSrc prog w "set" a a es.size (λi v=>∃k,(gm w a ep es)[i]?=some (k,v)) (λh=>h.get? a=some o) where
 type:=λ_ h1=>⟨o,h1,W.ex.1⟩
 there:=λ_ h1=>⟨q_ h1,q_ h1⟩
 keep:=λ_ _ h1 hk=>hk a (.inl rfl) o h1
 notList:=by decide
 notTuple:=by decide
 hint:=λ_ _ _ _ h1 hq=>Bg ⟨o,h1,W.ex.1⟩ hq
 iter:=λA s hh h1=>by
  have hne:a≠s.heap.objs.size:=z_ (q_ h1);refine⟨_,λi h=>zj h s.heap.objs.size a es.size ep w t i/\h.get? a=some o,λ_ _ hq=>DL W h1 hq,⟨λb hb=>by simp at hb;simp[hb],λ_ _ _ st hk=>⟨hk _ (by simp) _ st.1,hk a (by simp) o st.2⟩,λi s' Q E hi st hQ=>?_,λs' Q E st hQ=>?_,λ_ s' _ _ st hQ=>?_⟩,⟨?_,e_ _ h1⟩⟩
  .exact FJ W st.1 st.2 hi λh' v hv Dj hs'=>hQ v h' s'.toks hv ⟨Dj,hs'.extBut _ _ hne st.2⟩ λb o hb e=>hs'.extBut b o (λh=>hb (by simp[h])) e
  .exact Jp hh W st.1 st.2 λh' uk=>hQ h' s'.toks λb o hb e=>uk b o (λh=>hb (by simp[h])) e
  .have ty:s'.TypeIs (.ref s.heap.objs.size) "set_iterator":=⟨_,st.1,rfl⟩;refine WC ty jm (SC jm ty nY ?_ (qy _));show wpAny _ _ (ret (.ref s.heap.objs.size)) _ _ s';exact d_ ⟨_,rfl,"set_iterator",_,ty,bS.lookup,hQ⟩
  .show(s.heap.push _).get? _=some _;rw[n_ _ rfl];simp[slotAt]
end
end St
namespace Mi
open PySem PySem.Spec PyProof.Rows L2
open PySem.W (KasT kas_sort)
theorem zw{α β:Type}(f:α->β){o l:List β}(h:o.Perm l):∀{zs:List α},zs.map f=l->∃ys:List α,ys.Perm zs/\ys.map f=o:=by
 induction h with
 | nil=>intro zs e;exact⟨[],by rw[Vd.mp e],rfl⟩
 | cons x _ ih=>
  intro zs e;cases zs with
  | nil=>cases e
  | cons z zs=>
   rw[L_]at e;obtain⟨e1,e2⟩:=List.cons.inj e;obtain⟨ys,p,q⟩:=ih e2;exact⟨z::ys,p.cons z,by rw[L_,q,e1]⟩
 | swap x y l=>
  intro zs e
  match zs,e with
  | a::b::zs,e=>
   rw[L_,L_]at e;obtain⟨e1,e2⟩:=List.cons.inj e;obtain⟨e3,e4⟩:=List.cons.inj e2;exact⟨b::a::zs,List.Perm.swap a b zs,by rw[L_,L_,e1,e3,e4]⟩
 | trans _ _ ih1 ih2=>
  intro zs e;obtain⟨ys,p,q⟩:=ih2 e;obtain⟨xs,p2,q2⟩:=ih1 q;exact⟨xs,p2.trans p,q2⟩
theorem pv{α:Type}{n:Nat}{P:α->Prop}{lt lt':Nat->Nat->Bool}(h:∀i j,i<n->j<n->lt i j=lt' i j):∀{t:KasT α},qP n P t->fo lt t=fo lt' t
 | .ret _,_=>rfl
 | .ask i j k,⟨g,q⟩=>by
  show fo lt (k (lt i j))=fo lt' (k (lt' i j));rw[h i j g.1 g.2];exact pv h (q _)
def gB(p:W9):Int:=p.1*64+p.2
def okP(p:W9):Prop:=0<=p.1/\p.1<64/\0<=p.2/\p.2<64
theorem r9{p q:W9}(hp:okP p)(hq:okP q):dH (kk p) (kk q)=some (decide (gB p<gB q)):=by
 obtain⟨a,b⟩:=p;obtain⟨c,d⟩:=q;show(if(Sum.inl a:L2.Key)=.inl c then(if(Sum.inl b:L2.Key)=.inl d then some false else some (decide (b<d)))else some (decide (a<c)))=some (decide (a*64+b<c*64+d));simp only[okP]at hp hq
 by_cases e:a=c
 .subst e;rw[j_ rfl]
  by_cases e:b=d
  .subst e;rw[j_ rfl,E_ (by lia)]
  .rw[k_ (λz=>e (Sum.inl.inj z))];congr 1
   by_cases g:b<d
   .rw[w_ g,w_ (by lia)]
   .rw[E_ g,E_ (by lia)]
 .rw[k_ (λz=>e (Sum.inl.inj z))];congr 1
  by_cases g:a<c
  .rw[w_ g,w_ (by lia)]
  .rw[E_ g,E_ (by lia)]
theorem GJ{α:Type}(f:α->Int):∀{l1 l2:List α},l1.Perm l2->l1.Pairwise (λx y=>f x<=f y)->l2.Pairwise (λx y=>f x<f y)->l1=l2
 | [],l2,p,_,_=>p.nil_eq
 | x::l1,[],p,_,_=>by have:=p.length_eq;simp at this
 | x::l1,y::l2,p,h1,h2=>by
  obtain⟨a1,a2⟩:=SL.mp h1;obtain⟨b1,b2⟩:=SL.mp h2;have hx:x∈y::l2:=p.mem_iff.mp (o_ ..);have hy:y∈x::l1:=p.mem_iff.mpr (o_ ..);have e:x=y:=by
   rcases t_.mp hx with e | hx
   .exact e
   .rcases t_.mp hy with e | hy
    .exact e.symm
    .have:=a1 y hy;have:=b1 x hx
     lia
  subst e;rw[GJ f (List.Perm.cons_inv p) a2 b2]
theorem nJ{α:Type}(L:List α)(z:α):(List.range L.length).map (λi=>L.getD i z)=L:=by
 apply List.ext_getElem
 .simp
 .intro i h1 h2;simp[g_,h2]
theorem pM(L L':WY)(hp:L'.Perm L)(h8:∀p∈L,okP p)(up:L.Pairwise λp q=>gB p<gB q):(cA (L'.map kk)).map (λi=>L'.getD i (0,0))=L/\uh (L'.map kk)=true:=by
 have OK:∀p∈L',okP p:=λp h=>h8 p (hp.mem_iff.mp h);have lx:∀i j,i<(L'.map kk).length->j<(L'.map kk).length->Lh (L'.map kk) i j=kl (λi=>gB (L'.getD i (0,0))) i j:=λi j hi hj=>by
  rw[c_]at hi hj;unfold Lh kl;have e:∀i,(hi:i<L'.length)->(L'.map kk).getD i []=kk (L'.getD i (0,0))/\L'.getD i (0,0)∈L':=λi hi=>by
   rw[g_,g_,m_,f_ hi];exact⟨rfl,Tu hi⟩
  rw[(e i hi).1,(e j hj).1,r9 (OK _ (e i hi).2) (OK _ (e j hj).2)];rfl
 refine⟨?_,?_⟩
 .by_cases h2:(L'.map kk).length<2
  .unfold cA;rw[j_ h2,c_,nJ];rw[c_]at h2
   match L',L,hp,h2 with
   | [],L,hp,_=>exact hp.nil_eq
   | [x],L,hp,_=>exact(List.perm_singleton.mp hp.symm).symm
  .have hd:∀i j,i<j->j<(L'.map kk).length->gB (L'.getD i (0,0))≠gB (L'.getD j (0,0)):=λi j yc hj=>by
    rw[c_]at hj;have nd:(L'.map gB).Nodup:=((hp.map gB).nodup_iff).mpr (by rw[List.Nodup,Ti];exact up.imp λh e=>by lia);intro z;rw[g_,g_,f_ hj,f_ (by lia:i<L'.length)]at z;have:=(List.getElem_inj (xs:=L'.map gB) (i:=i) (j:=j) (h₀:=by simp;lia) (h₁:=by simp;lia) nd).mp (by simpa using z)
    lia
   obtain⟨s1,s2⟩:=F2 (key:=λi=>gB (L'.getD i (0,0))) (n:=(L'.map kk).length) (by lia) hd;unfold cA;rw[k_ h2,pv lx (lG (by lia))];refine GJ gB ?_ (by rw[Ti];exact s2) up;have:=s1.map λi=>L'.getD i (0,0);rw[c_,nJ]at this;rw[c_];exact this.trans hp
 .unfold uh;rw[F_,M_,M_];refine⟨λx hx=>?_,λx hx=>M_.mpr λy hy=>?_⟩
  .obtain⟨p,_,rfl⟩:=y_.mp hx;rfl
  .obtain⟨p,h1,rfl⟩:=y_.mp hx;obtain⟨q,h2,rfl⟩:=y_.mp hy;rw[r9 (OK p h1) (OK q h2)];rfl
def pI:WY:=(List.range 4096).map λn=>(((n/64:Nat):Int),((n%64:Nat):Int))
theorem zT:pI.Pairwise λp q=>gB p<gB q:=by
 unfold pI;rw[Ti];refine List.pairwise_lt_range.imp λ{a b} h=>?_;unfold gB;dsimp only
 lia
theorem yx{p:W9}:p∈pI↔okP p:=by
 unfold pI okP;rw[y_];constructor
 .rintro⟨n,h,rfl⟩;have:=SA.mp h;dsimp only
  lia
 .rintro⟨h1,h2,h3,h4⟩;refine⟨(p.1*64+p.2).toNat,SA.mpr (by lia),?_⟩;obtain⟨a,b⟩:=p;simp only at *;rw[UB]
  lia
def la(ps:WY):WY:=pI.filter λp=>decide (p∈ps)
theorem vO(ps:WY):(la ps).Pairwise λp q=>gB p<gB q:=zT.filter _
theorem fG{ps:WY}(h:∀p∈ps,okP p){p:W9}:p∈la ps↔p∈ps:=by
 unfold la;rw[SH,C_,yx];exact⟨λz=>z.2,λz=>⟨h p z,z⟩⟩
theorem gH{ps:WY}(h:∀p∈ps,okP p)(nd:ps.Nodup):ps.Perm (la ps):=
 (Ui nd ((vO ps).imp λz e=>by rw[e]at z;exact absurd z (Int.lt_irrefl _))).mpr λp=>(fG h).symm
theorem zA{ps:WY}(h:∀p∈ps,okP p)(nd:ps.Nodup):ps.length<=4096:=by
 rw[(gH h nd).length_eq];refine B_ (To _ _) ?_;unfold pI;rw[c_,T6];exact h_ _
section
variable {elt:Xk}{gens:WZ}{scope:Xi}{pos:Pos}{d:Nat}{tg iter:Xk}{ifs:W5}{it acc:Xa}{env:Env}
theorem uF(h:gens[d]?=some ⟨tg,iter,ifs,0⟩)(h2:gens[d+1]?=none):compTurn (.SetComp elt gens scope pos) d it acc env=xi (.SetComp elt gens scope pos) tg iter ifs d it acc env (do let v <- eval elt env;standAt elt.pos;let _ <- call (.builtin "set.add") [acc,v]):=by
 unfold compTurn;simp only[h,h2]
 rfl
theorem vf(h:gens[d]?=some ⟨tg,iter,ifs,0⟩)(h2:gens[d+1]?=some ⟨uA,bK,kI,0⟩):compTurn (.SetComp elt gens scope pos) d it acc env=wV (.SetComp elt gens scope pos) tg iter bK ifs d it acc env:=by
 unfold compTurn;simp only[h,h2]
 rfl
theorem PM{P:Xd}{w:Xg}:CW P w (.SetComp elt gens scope pos):=⟨λh=>h,λh=>h⟩
end
def BB(w:Xg):Bool:=!w.params.followText "set-order"
def eY(w:Xg)(a:Xj)(zs:List (W9×Xj))(h:Xf):Prop:=yy a (zs.map (·.1)) (zs.map (·.2)) h/\St.Fl a (BB w) h
theorem mL(w:Xg)(a:Xj)(zs:List (W9×Xj)):∀h1 h2:Xf,eY w a zs h1->(∀o,h1.get? a=some o->h2.get? a=some o)->eY w a zs h2:=λh1 h2 ⟨x,o,es,ep,t,e,r⟩ k=>⟨uJ _ _ _ h1 h2 x k,o,es,ep,t,k o e,r⟩
abbrev qW(K:Fg)(w:Xg)(a:Xj):Qa:=λ_ Z H pre=>∃ps zs,lg pre=some ps/\(∀p∈ps,okP p)/\zs.map (·.1)=tD ps/\H a=some (.ext (eY w a zs))/\∀x∈zs,cy K Z x.2 [.int x.1.1,.int x.1.2]
theorem GZ{K:Fg}{w:Xg}{a:Xj}:Gv a (qW K w a):=⟨λ⟨_,_,_,_,_,h,_⟩ z=>(by rw[z]at h;cases h),λx ⟨ps,zs,h1,h2,h3,h4,h5⟩=>⟨ps,zs,h1,h2,h3,x.h _ _ h4,λy hy=>bJ x.z (h5 y hy)⟩⟩
section
variable {X:Cx}{a:Xj}{elt:Xk}{fe:Fe}
def oP(f:Fe):Xo:=λenv=>(f env).bind λd=>match d with | .tup [.int m,.int n]=>if 0<=m/\m<64/\0<=n/\n<64 then some [.tup [.int m,.int n]]else none | _=>none
theorem yj(hu:X.A.units+1<cLine)(hx:∀e s,¬X.xe e s)(h:PD X .cl elt fe):y0 X (qW X.K X.w a) a (Ph X (do let v <- eval elt X.env;standAt elt.pos;let _ <- call (.builtin "set.add") [.ref a,v])) (oP fe):=by
 intro pins s σ H B Z env pre xs P E A e hl hP;obtain⟨d,e1,e2⟩:=b_.mp e
 split at e2
 .rename_i m n;obtain⟨Qz,rfl⟩:=kP e2;obtain⟨ps,zs,hps,hok,oF,hv,rr⟩:=A.ac;refine a_ (SI (h pins s σ H _ A.I ⟨env,B,Z,_,A.R,e1,λv Z1 H1 x1 g1=>(show ∃Z1,Ex Z H Z1 H1/\Rep X.K Z1 (.tup [.int m,.int n]) v from⟨Z1,x1,g1⟩)⟩) (λu s1 aC=>?_) λe s z=>(hx e s z).elim);obtain⟨v,H1,I1,r1,Z1,x1,g1⟩:=aC;obtain⟨b,us,rfl,q,r2⟩:=g1;cases ak.intsV (bs:=[m,n]) r2;cases(show u=Value.ref b from r1);have hne:H a≠none:=by rw[hv];simp
  have hv1:=x1.h _ _ hv;have hz1:=x1.fr a hne A.hz;have R1:=A.R.ext x1;have RG:∀x∈zs,cy X.K Z1 x.2 [.int x.1.1,.int x.1.2]:=λx hx=>bJ x1.z (rr x hx);obtain⟨hS,hF⟩:eY X.w a zs s1.heap:=(show aU X.prog X.w H1 s1.heap a (.ext (eY X.w a zs))from I1.hok a _ hv1).1;rw[nh (by simp),qD]at hS;have hnd:(zs.map (·.1)).Nodup:=(show aU X.prog X.w H1 s1.heap a (.ext (eY X.w a zs))from I1.hok a _ hv1).1.1.choose_spec.choose_spec.choose_spec.choose_spec.2.2.2.2.2.2.2;have hlen:zs.length<=4096:=by
   have:=zA (ps:=zs.map (·.1)) (λp hp=>by rw[oF]at hp;exact hok p ((i9 _ _).mp hp)) hnd;simpa using this
  have ek:(tupleKind (aA X.prog X.w)).is s1.heap (kk (m,n)) b:=Au I1 (bJ x1.zh q);refine a_ (Tq (a_ ?_));refine St.qz (by rw[Around.in1_units];exact hu) hS (λx hx=>?_) ek (by rw[c_];lia) λh' tk hsb hS' hF'=>?_
  .obtain⟨y,hy,rfl⟩:=y_.mp hx;exact Au I1 (bJ x1.zh (RG y hy))
  .rw[show(kk (m,n),b)=kx ((m,n),b)from rfl,<- Gf]at hS';have RH:eY X.w a (oB zs ((m,n),b)) h':=⟨by rw[nh (by simp),qD];exact hS',hF' _ (St.BK (ps:=[m,n]) ek) hF⟩;have he:∃u,h'.get? a=some u:=by obtain⟨_,o,_,_,_,e,_⟩:=RH;exact⟨o,e⟩
   have I2:=I1.write (t':=tk) (o:=.ext (eY X.w a (oB zs ((m,n),b)))) (by rw[hv1];exact True.intro) (.inl rfl) (λb u hb z=>(hsb.2 b hb).trans z) he ⟨RH,he,mL _ _ _⟩;refine d_ (hP _ σ _ Z1 ⟨I2,R1.other A.hb hz1 A.nO,A.nO,A.hb,hz1,ps++[(m,n)],oB zs ((m,n),b),tX m n hps,λp hp=>?_,?_,ai,λx hx=>?_⟩ ?_)
   .rcases Su.mp hp with z | z
    .exact hok p z
    .rw[s_.mp z];exact Qz
   .have:=sQ [((m,n),b)] zs;show([((m,n),b)].foldl oB zs).map (·.1)=_;rw[this,oF];unfold tD;rw[List.foldl_append];rfl
   .have:x∈zs\/x∈[((m,n),b)]:=tQ hx;rcases this with h | h
    .exact RG x h
    .rw[s_.mp h];exact q
   .exact⟨d8 R1.bh A.hb,x1.z,d8 R1.zh hz1,λb hb e=>x1.fr b (nu A.R.bh hb) e,x1.nf⟩
 .cases e2
end
abbrev vw(X:Cx)(a:Xj)(elt:Xk)(gens:WZ)(scope:Xi)(pos:Pos)(d:Nat)(tg:Xk)(ifs:W5)(t:Ft)(c:Fb)(k:Xo):Prop:=NQ X (qW X.K X.w a) a (.SetComp elt gens scope pos) d tg ifs t c k
section
variable {X:Cx}{a:Xj}{elt:Xk}{gens:WZ}{scope:Xi}{pos:Pos}{d:Nat}{tg iter uA bK:Xk}{ifs kI:W5}{t t':Ft}{c c':Fb}{k:Xo}{fe:Fe}{fi:Fi}{is:W7}
theorem zi(hu:X.A.units+1<cLine)(hx:∀e s,¬X.xe e s)(hg:GD X tg t)(zN:Dr X ifs c)(he:PD X .cl elt fe)(h:gens[d]?=some ⟨tg,iter,ifs,0⟩:=by rfl)(h2:gens[d+1]?=none:=by rfl):vw X a elt gens scope pos d tg ifs t c (oP fe):=
 ⟨hg,zN,_,yj hu hx he,λ_=>wU (uF h h2)⟩
theorem yH(hx:∀e s,¬X.xe e s)(bp:X.calm=true)(hg:GD X tg t)(zN:Dr X ifs c)(hi:ID X uA bK fi)(ht:lq is t')(b:vw X a elt gens scope pos (d+1) uA kI t' c' k)
  (h:gens[d]?=some ⟨tg,iter,ifs,0⟩:=by rfl) (h2:gens[d+1]?=some ⟨uA,bK,kI,0⟩:=by rfl) (hs:∀x,foldedSetIterable bK X.env x=pure x:=by intro _;rfl):vw X a elt gens scope pos d tg ifs t c (fy fi is t' c' k):=by
 obtain⟨Bd,nN,CY⟩:=b.ex;exact⟨hg,zN,_,sT PM GZ hx bp h2 hi b.g ht b.ts nN CY,λ_=>wu (vf h h2) hs⟩
end
theorem DN{prog:Xd}{w:Xg}{A:Xe}{E:WT}{s:Xb}{Q:WT}(h:Q (.ref s.sz) {s with heap:=s.heap.push {cls:=.type "set",dict:=none,data:=.set #[] 0 (.fresh 0 0 (BB w))}}):wpAny (model prog w) A (newSet (.type "set")) Q E s:=by
 unfold newSet setsByText;refine a_ (a_ (Tv (d_ ?_)));dsimp only;simp only[newObj];exact a_ (wpAny_alloc (d_ h))
section
variable {X:Cx}{elt:Xk}{rest:WZ}{scope:Xi}{pos:Pos}{tg iter:Xk}{ifs:W5}{t:Ft}{c:Fb}{k:Xo}{fi:Fi}{is caps:W7}{cl:WX}{Nc own:W3}
theorem vg(ht:lq is t)(bp:X.calm=true)(gX:fR (λx=>X.env.cells.lookup x) scope.names []=some cl)(bo:scope.kind=.function)(hnc:∀y∈scope.names,y.2≠.cell)
  (hN:Nc.map some=own.map some++caps.map (λj=>X.N[j]?)) (eT:iy X scope caps=true)
  (hb:∀C s H ex pn a,vw (dq X scope cl Nc C s H ex pn) a elt (⟨tg,iter,ifs,0⟩::rest) scope pos 0 tg ifs t c k)
  {pins:WU} {σ:L2.St} {s2:Xb} {H2 B Z2:Hp} {env:En} {ds xs:Xq} {E:WT} {RR:Xa->Xj->Result->Xb->Prop} {it:Xj} {fp:W4} {tn:Nat->Xf->Prop} {J:It}
  (I2:Inv X pins σ H2 s2) (R2:Rl X.K B Z2 H2 env σ) (T:Turn X.prog X.w X.K tg J fp it tn) (Da:tn 0 s2.heap) (rN:∀b∈fp,bL X pins H2 b) (wk:Walk X.K Z2 ds J) (hu:dB is (cN own.length caps env)=true)
  (CZ:jN t c k (cN own.length caps env) ds=some xs) (hl:xs.length<=16000000)
  (Qm:∀(a C:Xj)(H' Z':Hp)(s':Xb)(ps:WY)(zs:List (W9×Xj)) m,Inv X pins σ H' s'->s'.heap.Ns C m->bL X pins H' C->Ex Z2 H2 Z' H'->H2 a=none->lg xs=some ps->(∀p∈ps,okP p)->zs.map (·.1)=tD ps->H' a=some (.ext (eY X.w a zs))->Z' a=none->(∀x∈zs,cy X.K Z' x.2 [.int x.1.1,.int x.1.2])->RR (.ref a) C (.ok .next) s') :
  wpAny (model X.prog X.w) X.A (newSet (.type "set")) (λacc s₃=>wpAny (model X.prog X.w) X.A (newFunctionEnv scope X.env.globals cl [] X.env.qual none .none (some X.env)) (λKs s₄=>
   codeAny (model X.prog X.w) X.A (.compStart (.SetComp elt (⟨tg,iter,ifs,0⟩::rest) scope pos) 0 (.ref it) acc {Ks with scope:=relabel scope X.env}) (RR acc Ks.locals) s₄) E s₃) E s2:=by
 refine DN ?_;have hf:H2 s2.sz=none:=I2.hok.fresh (h_ _);have I3:Inv X pins σ (upd H2 s2.sz (.ext (eY X.w s2.sz []))) {s2 with heap:=s2.heap.push {cls:=.type "set",dict:=none,data:=.set #[] 0 (.fresh 0 0 (BB X.w))}}:=
  I2.laid (λb u e=>e_ _ e) (h_ _) (show aU X.prog X.w _ _ _ (.ext (eY X.w s2.sz []))from⟨⟨(nh (P:=X.prog) (w:=X.w) rfl).mpr (St.z9 (BB X.w) (n_ _ rfl)),_,_,_,_,n_ _ rfl,rfl,rfl,rfl⟩,⟨_,n_ _ rfl⟩,mL _ _ _⟩)
 generalize hs3:({s2 with heap:=s2.heap.push {cls:=.type "set",dict:=none,data:=.set #[] 0 (.fresh 0 0 (BB X.w))}}:Xb)=s3 at I3 ⊢;have NR:∀b o,s2.heap.get? b=some o->s3.heap.get? b=some o:=λb o e=>by rw[<- hs3];exact e_ _ e
 have NS:s3.sz=s2.sz+1:=by rw[<- hs3];exact VA _ _
 have hfl:∀b∈fp,b<s2.sz:=λb hb=>let ⟨o,e,_⟩:=T.obj _ _ Da b hb;q_ e;have NT:∀b∈fp,bL X pins (upd H2 s2.sz (.ext (eY X.w s2.sz []))) b:=λb hb=>⟨by rw[ar (z_ (hfl b hb))];exact(rN b hb).1,(rN b hb).2⟩;refine VY hnc (by intro y hy;simp at hy) (λh1 zK hsb=>?_) bo;have NU:∀b o,s3.heap.get? b=some o->h1.get? b=some o:=λb o e=>hsb.extBut b o (z_ (q_ e)) (e_ _ e);have I4:=rY (tk:=s3.toks+([]:List (Str×Xa)).length) I3 gX bo hnc NT (λb hb=>by rw[NS];exact T5 (hfl b hb)) hN eT zK NU;generalize hXc:dq X scope cl Nc s3.sz s3 (upd H2 s2.sz (.ext (eY X.w s2.sz []))) fp (X.pn++pins)=Xc at I4;have bb:vw Xc s2.sz elt (⟨tg,iter,ifs,0⟩::rest) scope pos 0 tg ifs t c k:=by rw[<- hXc];exact hb _ _ _ _ _ _
 obtain⟨Bd,nN,CY⟩:=bb.ex;have eP:Xc.prog=X.prog:=by rw[<- hXc];rfl
 have eW:Xc.w=X.w:=by rw[<- hXc];rfl
 have eK:Xc.K=X.K:=by rw[<- hXc];rfl
 have eA:Xc.A=X.A:=by rw[<- hXc];rfl
 have eE:Xc.env=compEnvC scope cl s3.sz X.env:=by rw[<- hXc];rfl
 have hx:∀e s,¬Xc.xe e s:=λe s z=>by rw[<- hXc]at z;exact z
 have Dx:Xc.calm=true:=by rw[<- hXc];exact bp
 have T':Turn Xc.prog Xc.w Xc.K tg J fp it tn:=by rw[eP,eW,eK];exact T
 have A4:Ac Xc (qW Xc.K Xc.w s2.sz) [] s2.sz H2 Z2 (upd H2 s2.sz (.ext (eY X.w s2.sz []))) (cN own.length caps env) (lj own.length caps σ) [] {s3 with heap:=h1,toks:=s3.toks+([]:List (Str×Xa)).length}:=
  ⟨I4,by rw[eK];exact R2.cap _ _ (cm hf) (d8 R2.zh (R2.zh.free hf)),iX _ _ _,hf,R2.zh.free hf,[],[],rfl,λ_ h=>by simp at h,rfl,by rw[eW];exact ai,λ_ h=>by simp at h⟩
 have Qn:∀b∈fp,bL Xc [] (upd H2 s2.sz (.ext (eY X.w s2.sz []))) b:=λb hb=>by
  obtain⟨f1,f2,f3,f4,f5,f6⟩:=NT b hb;have mem:=fu gX (λp hp=>by cases hp);rw[<- hXc];refine⟨f1,?_,fw I3 f2 f3,.inl hb,λx c h=>f5 x c (mem (x,c) (SN h)),λp hp=>f6 p (by simpa [dq]using hp)⟩;show b≠s3.sz;rw[NS];exact z_ (T5 (hfl b hb))
 have NV:tn 0 ({s3 with heap:=h1,toks:=s3.toks+([]:List (Str×Xa)).length}:Xb).heap:=T.keep _ _ _ Da λb _ o e=>NU b o (NR b o e);have go:=jQ PM GZ hx Dx T' bb.g ht bb.ts nN (CY it) A4 Qn NV (by rw[eK];exact wk) hu CZ (by simpa using hl) λs' σ' H' Z' A' x' fr'=>by
  obtain⟨ps,zs,hps,hokp,oF,hv,rr⟩:=A'.ac;rw[eW]at hv;have base:=A'.I.base;obtain⟨mC,NW,_⟩:=A'.I.loc;have hok:=A'.I.hok;have hos:=A'.I.os;have free:=A'.I.free;rw[eE]at NW free;rw[eP,eW]at hok;rw[eK]at rr;have u1:Un (k7 X.stack) fp H2 (upd H2 s2.sz (.ext (eY X.w s2.sz []))) s2.heap s3.heap:=Un.laid NR (h_ _) hf;have u2:Un (k7 X.stack) fp (upd H2 s2.sz (.ext (eY X.w s2.sz []))) H' s3.heap s'.heap:=by rw[<- hXc]at base;exact base
  have Kt:s'.os=s2.os:=by rw[<- hXc]at hos;exact hos.trans (by rw[<- hs3];rfl)
  have I':Inv X pins σ H' s':=I2.call' Kt (u1.trans u2) hok A'.I.bare λb hb=>⟨(rN b hb).2.2.2.1,(rN b hb).2.1,(rN b hb).2.2.2.2.1,(rN b hb).2.2.2.2.2⟩;exact Qm s2.sz s3.sz H' Z' s' ps zs mC I' NW (I3.fpOk (h_ _) free) x' hf (by simpa using hps) hokp oF hv A'.hz rr
 rw[eP,eW,eA,eE]at go;exact qg PM rfl go (T.self _ 0 _ _ _ NV go)
def RY(X:Cx)(fi:Fi)(is:W7)(t:Ft)(c:Fb)(k:Xo)(n:Nat)(caps:W7):TE:=λσ H Q=>∃env B Z ds xs ps,Rl X.K B Z H env σ/\fi env=some ds/\dB is (cN n caps env)=true/\jN t c k (cN n caps env) ds=some xs/\xs.length<=16000000/\lg xs=some ps/\
 ∀a Z' H' (zs:List (W9×Xj)),Ex Z H Z' H'->(∀p∈ps,okP p)->zs.map (·.1)=tD ps->H' a=some (.ext (eY X.w a zs))->(∀x∈zs,cy X.K Z' x.2 [.int x.1.1,.int x.1.2])->Q (.ref a) H'
theorem Il(ht:lq is t)(bp:X.calm=true)(hi:ID X tg iter fi)(gX:fR (λx=>X.env.cells.lookup x) scope.names []=some cl)(hN:Nc.map some=own.map some++caps.map (λj=>X.N[j]?))
  (hb:∀C s H ex pn a,vw (dq X scope cl Nc C s H ex pn) a elt (⟨tg,iter,ifs,0⟩::rest) scope pos 0 tg ifs t c k)
  (eT:iy X scope caps=true) (bo:scope.kind=.function) (hnc:∀y∈scope.names,y.2≠.cell) (Ku:∀x∈scope.names,x.2=.local->scope.names.lookup x.1=some .local)
  (hs:∀x,foldedSetIterable iter X.env x=pure x) :
  PE X (.SetComp elt (⟨tg,iter,ifs,0⟩::rest) scope pos) (RY X fi is t c k own.length caps):=by
 intro pins s σ H Q I hT;obtain⟨env,B,Z,ds,xs,ps,R,e1,hu,CZ,hl,hps,kk⟩:=hT;rw[arm_eval_SetComp];refine Vh rfl hs (fP gX) bo Ku ?_;refine aZ (hi pins s σ H (λJ H1=>∃Z1,Ex Z H Z1 H1/\Walk X.K Z1 ds J) I ⟨env,B,Z,ds,R,e1,λJ Z1 H1 x1 wk=>⟨Z1,x1,wk⟩⟩) λx s1 q1=>aZ q1 λNA s2 aC=>?_;obtain⟨it,fp,tn,J,H2,hit,I2,T,Da,rN,Z2,x2,wk⟩:=aC;subst hit;refine vg ht bp gX bo hnc hN eT hb I2 (R.ext x2) T Da rN wk hu CZ hl λa C H' Z' s' ps' zs m I' ns fpC x' hf hps' hok oF hv hz rr=>?_;refine⟨m,ns,λh' hs'=>?_⟩;obtain⟨f1,f2,f3,f4,f5,f6⟩:=fpC;rw[hps]at hps';cases hps';exact⟨.ref a,H',I'.turned (λb o hb e=>hs'.extBut b o hb e) f1 f2.symm.symm f4 f5 f6,rfl,kk a Z' H' zs (x2.trans x') hok oF hv rr⟩
end
theorem HG{c:Prop}[Decidable c]{o:Option α}{d:α}(h:(if c then o else none)=some d):c/\o=some d:=by
 by_cases hc:c
 .rw[j_ hc]at h;exact⟨hc,h⟩
 .rw[k_ hc]at h;cases h
def HS(K:Fg)(w:Xg):Xs->Hp->VK->Prop:=λxs H Q=>∃(a:Xj)(zs:List (W9×Xj)),xs=[.ref a]/\H a=some (.ext (eY w a zs))/\(∀x∈zs,cy K H x.2 [.int x.1.1,.int x.1.2])/\(∀x∈zs,okP x.1)/\zs.length<64/\
 ∀q (ws:List (W9×Xj)),H q=none->ws.map (·.1)=la (zs.map (·.1))->(∀x∈ws,x∈zs)->Q (.ref q) (upd H q (.lst (ws.map λx=>V.ref x.2)))
theorem AY{K:Fg}{H:Hp}:∀(ws:List (W9×Xj)),(∀x∈ws,cy K H x.2 [.int x.1.1,.int x.1.2])->pA K H (ws.map λx=>V.ref x.2) ((ws.map (·.1)).map kk)
 | [],_=>trivial
 | x::ws,h=>⟨⟨x.2,rfl,h x (o_ ..)⟩,AY ws λy hy=>h y (l_ _ hy)⟩
theorem rB:∀(ws:List (W9×Xj)),av (ws.map λx=>V.ref x.2) (ws.map λx=>Value.ref x.2)
 | []=>.nil
 | _::ws=>.cons rfl (rB ws)
theorem uR{X:Cx}(hc:X.calm=true):dD X (.builtin "sorted") (HS X.K X.w):=by
 intro pins s σ H xs us Q I rs h;obtain⟨a,zs,rfl,ha,hq,hok,Hx,q⟩:=h;obtain⟨u,rfl,rx⟩:=vals1 rs;cases rx;obtain⟨⟨o,es,ep,t,h1,h2,h3,h4,h5,h6,h7,h8⟩,o',es',xY,t',g1,g2,g3,g4⟩:=(show aU X.prog X.w H s.heap a (.ext (eY X.w a zs))from I.hok a _ ha).1;rw[h1]at g1;cases g1;rw[h3]at g2;cases g2;have W:St.Lb X.w a o es ep t:=⟨h2,h3,h5,g3,g4⟩;rw[qD]at h4;have hz:es.size=zs.length:=by have:=h4.length_eq;simpa using this
 obtain⟨OL,p1,p2⟩:=zw Ju ((St.hU X.w a ep es).trans h4) (zs:=zs) rfl;have l0:=p1.length_eq;refine Ut UC plain_sorted entry_sorted (args_sorted1 _) ?_;unfold Builtin.«sorted»;refine a_ (m:=checkCount "sorted" 1 1 _) (d_ (a_ (PySem.W.kdu_collect (A:=X.A.in1) (St.F9 W) (I.ok.hd hc) h1 (by rw[hz,SB];lia) λh' tk acc hk hacc=>?_)));have e3:acc.toList=OL.map λx=>Value.ref x.2:=by
  have e4:(OL.map λx=>Value.ref x.2)=(St.gm X.w a ep es).toList.map (·.2):=by rw[<- p2,SO];rfl
  rw[e4];refine Uy λj=>?_;rw[U1,m_,U1]
  by_cases hj:j<es.size
  .have KI:j<acc.size:=by rw[hacc.1];exact hj
   obtain⟨k,h1⟩:=hacc.2 j _ (SJ KI);rw[h1,SJ KI];rfl
  .have Dc:(St.gm X.w a ep es).size=es.size:=by have:=(St.hU X.w a ep es).length_eq;simpa using this
   rw[Tf (by rw[hacc.1];lia),Tf (by lia)];rfl
 rw[e3];have P4:∀x∈OL,x∈zs:=λx hx=>p1.mem_iff.mp hx;have ht:bP s.heap (OL.map λx=>Value.ref x.2) ((OL.map (·.1)).map kk):=(AY OL λx hx=>hq x (P4 x hx)).heap I (rB OL);have La:bP (h'.push {cls:=.type "list",data:=.seq (OL.map λx=>Value.ref x.2).toArray}) (OL.map λx=>Value.ref x.2) ((OL.map (·.1)).map kk):=ht.keeps λb o hb _=>e_ _ (hk b o hb);have HI:∀p∈zs.map (·.1),okP p:=λp hp=>by obtain⟨x,hx,rfl⟩:=y_.mp hp;exact hok x hx
 obtain⟨o1,o2⟩:=pM (la (zs.map (·.1))) (OL.map (·.1)) ((p1.map (·.1)).trans (gH HI h8)) (λp hp=>HI p ((fG HI).mp hp)) (vO _);refine a_ (UY ?_ (by rw[c_,SB];lia));have ho:(h'.push {cls:=.type "list",data:=.seq (OL.map λx=>Value.ref x.2).toArray}).get? h'.objs.size=some (seqObj "list" (OL.map λx=>Value.ref x.2).toArray 0):=n_ _ rfl;refine a_ (Q_ (SC slot_list_sort ⟨_,ho,rfl⟩ V6 (gz (s:={s with heap:=h'.push {cls:=.type "list",data:=.seq (OL.map λx=>Value.ref x.2).toArray},toks:=tk}) ho La o2 (by rw[c_];lia) ⟨_,rfl,d_ ⟨_,rfl,?_⟩⟩) (args_list_sort _)));obtain⟨e,he⟩:=sortedHeap_at (out:=((cA ((OL.map (·.1)).map kk)).map λi=>(OL.map λx=>Value.ref x.2).getD i .none).toArray) ho;have hin:∀i∈cA ((OL.map (·.1)).map kk),i<OL.length:=λi hi=>by have:=hW i hi;simpa using this
 have v2:=g0 (rB OL) (is:=cA ((OL.map (·.1)).map kk)) λi hi=>by have:=hin i hi;simpa using this
 have I1:Inv X pins σ H {s with heap:=h',toks:=tk}:=I.kept hk;have ew:((cA ((OL.map (·.1)).map kk)).map λi=>(OL.map λx=>V.ref x.2).getD i .non)=((cA ((OL.map (·.1)).map kk)).map λi=>OL.getD i ((0,0),0)).map λx=>V.ref x.2:=by
  rw[show ∀l:W7,(l.map λi=>OL.getD i ((0,0),0)).map (λx=>V.ref x.2)=l.map λi=>V.ref (OL.getD i ((0,0),0)).2 from λl=>by rw[SO];rfl];refine Wc λi hi=>?_;have hi':=hin i hi;show(OL.map λx=>V.ref x.2).getD i .non=V.ref (OL.getD i ((0,0),0)).2;rw[g_,g_,m_,f_ hi'];rfl
 rw[ew]at v2;have hlen:((cA ((OL.map (·.1)).map kk)).map λi=>OL.getD i ((0,0),0)).length<=64:=by rw[c_,ml,c_,c_];lia
 refine⟨.ref h'.objs.size,_,I1.laid (t':=tk) (o:=.lst (((cA ((OL.map (·.1)).map kk)).map λi=>OL.getD i ((0,0),0)).map λx=>V.ref x.2)) (λb o z=>?_) (h_ _) ⟨by rw[c_,SB];lia,_,e,v2,by simpa using he⟩,rfl,q _ _ I1.fresh ?_ λx hx=>?_⟩
 .have hb:b<h'.objs.size:=q_ z;rw[sortedHeap_old (z_ hb) (by rw[Wm];lia)];exact e_ _ z
 .rw[<- o1,show ∀l:W7,(l.map λi=>OL.getD i ((0,0),0)).map (·.1)=l.map λi=>(OL.getD i ((0,0),0)).1 from λl=>by rw[SO];rfl];refine Wc λi hi=>?_;have hi':=hin i hi;show(OL.getD i ((0,0),0)).1=(OL.map (·.1)).getD i (0,0);rw[g_,g_,m_,f_ hi'];rfl
 .obtain⟨i,hi,rfl⟩:=y_.mp hx;have hi':=hin i hi;rw[g_,f_ hi'];exact P4 _ (Tu hi')
def IR(p:W9):D:=.tup [.int p.1,.int p.2]
def vT(fi:Fi)(is:W7)(t:Ft)(c:Fb)(k:Xo)(n:Nat)(caps:W7):Fe:=λenv=>(fi env).bind λds=>if dB is (cN n caps env)=true then(jN t c k (cN n caps env) ds).bind λxs=>if xs.length<=16000000 then(lg xs).bind λps=>if(tD ps).length<64 then some (.lst ((la (tD ps)).map IR))else none else none else none
theorem xr{K:Fg}{Z:Hp}:∀(ws:List (W9×Xj)),(∀x∈ws,cy K Z x.2 [.int x.1.1,.int x.1.2])->ak K Z ((ws.map (·.1)).map IR) (ws.map λx=>V.ref x.2)
 | [],_=>rfl
 | x::ws,h=>⟨_,_,rfl,⟨x.2,_,rfl,h x (o_ ..),⟨_,_,rfl,rfl,_,_,rfl,rfl,rfl⟩⟩,xr ws λy hy=>h y (l_ _ hy)⟩
section
variable {X:Cx}{elt:Xk}{rest:WZ}{scope:Xi}{pos p pos':Pos}{tg iter:Xk}{ifs:W5}{t:Ft}{c:Fb}{k:Xo}{fi:Fi}{is caps:W7}{cl:WX}{Nc own:W3}
theorem F4(hm:X.mg "sorted"=none)(ht:lq is t)(bp:X.calm=true)(hi:ID X tg iter fi)(gX:fR (λx=>X.env.cells.lookup x) scope.names []=some cl)(hN:Nc.map some=own.map some++caps.map (λj=>X.N[j]?))
  (hb:∀C s H ex pn a,vw (dq X scope cl Nc C s H ex pn) a elt (⟨tg,iter,ifs,0⟩::rest) scope pos' 0 tg ifs t c k)
  (eT:iy X scope caps=true:=by rfl) (bo:scope.kind=.function:=by rfl) (hnc:∀y∈scope.names,y.2≠.cell:=by decide +kernel) (Ku:∀x∈scope.names,x.2=.local->scope.names.lookup x.1=some .local:=by decide +kernel)
  (hs:∀x,foldedSetIterable iter X.env x=pure x:=by intro _;rfl) (hg:Gl X "sorted":=by rfl)
  (he:starEach [.SetComp elt (⟨tg,iter,ifs,0⟩::rest) scope pos'] X.env=[(false,eval (.SetComp elt (⟨tg,iter,ifs,0⟩::rest) scope pos') X.env)]:=by rfl) :
  PD X .nw (.Call (.Name "sorted" p) [.SetComp elt (⟨tg,iter,ifs,0⟩::rest) scope pos'] [] pos) (vT fi is t c k own.length caps):=
 PE.imp (gF (uR bp) hg hm UD (aJ (Il ht bp hi gX hN hb eT bo hnc Ku hs) bM he) (by decide) (by decide) he rfl) λσ H Q aC=>by
 refine cO λ_ kq=>?_;obtain⟨env,B,Z,d,R,e,kk⟩:=aC;obtain⟨ds,e1,e⟩:=b_.mp e;obtain⟨hu,e⟩:=HG e;obtain⟨xs,e2,e⟩:=b_.mp e;obtain⟨hl,e⟩:=HG e;obtain⟨ps,e3,e⟩:=b_.mp e;obtain⟨Hx,e⟩:=HG e;cases e;refine kq ⟨env,B,Z,ds,xs,ps,R,e1,hu,e2,hl,e3,λa Z' H' zs x1 hok oF hv rr=>?_⟩;clear kq;have hzl:zs.length<64:=by have:=Tp List.length oF;rw[c_]at this;lia
 refine⟨a,zs,rfl,hv,λx hx=>bJ x1.zh (rr x hx),λx hx=>hok _ ((i9 _ _).mp (by rw[<- oF];exact SW hx)),hzl,λq ws hq hws hin=>?_⟩;refine kk _ Z' _ (x1.trans (Ex.newL x1.zh hq)) ⟨q,_,_,rfl,rfl,x1.h.free hq,ai,x1.zh.free hq,?_⟩;have:=xr (K:=X.K) (Z:=Z') ws λx hx=>rr x (hin x hx);rw[hws,oF]at this;exact this
end
end Mi
namespace Mi
open PySem PySem.Spec PyProof.Rows L2 Xc
abbrev AtC(K:Fg)(x:Str)(C:Xj)(bm:W0):Prop:=∃nm q N bs sn sub ab col dd k0 k1 k2 k3 k5,PySem.W.nsIn K mainGlobals x=some (some (.ref C))/\K.lookup C=some (cM nm q C N bs bm sn sub ab col dd k0 k1 k2 k3 k5)
abbrev Q6(K:Fg)(C fI:Xj):Prop:=PySem.W.findIn K (.ref C) "__init__"=some (some (.ref fI))/\PySem.W.findIn K (.ref C) "__setattr__"=some (some (.builtin "object.__setattr__"))/\PySem.W.findIn K (.ref C) "cell"=some none/\PySem.W.keepIn K (.ref C)=true/\
 PySem.W.findIn K (.ref C) "__getattribute__"=some (some (.builtin "BaseException.__getattribute__"))/\PySem.W.findIn K (.ref C) "__getattr__"=some none/\PySem.W.findIn K (.ref C) "__class__"=some (some (.builtin "object.__class__"))
section
variable {K:Fg}{h:Xf}{mg:WW}{x c:Str}{st:Xl}{f C HE fI E:Xj}{bm:W0}
theorem Lx{a b:Nat}(h:¬a=b):@Ne Xj a b:=h
theorem AtC.g(A:AtC K x C bm)(X:K.In h)(G:h.Ns mainGlobals mg):mg x=some (.ref C):=by
 obtain⟨_,_,_,_,_,_,_,_,_,_,_,_,_,_,a,_⟩:=A;exact PySem.W.mg_of X G a
theorem AtC.ec(A:AtC K x C (.ref HE::bmV))(R:Q6 K C fI)(l:K.lookup fI=some o)(ho:o.cls=.type "function":=by rfl):EC K C HE fI:=by
 obtain⟨_,_,_,_,_,_,_,_,_,_,_,_,_,_,_,a⟩:=A;exact⟨⟨_,_,_,_,_,_,_,_,_,_,_,_,_,_,a⟩,R.1,⟨_,l,ho⟩,R.2.1,R.2.2.1,R.2.2.2.1⟩
theorem vd{α β:Type}{f:α->β}:∀{L:List α},(L.map f).Nodup->∀{p q:α},p∈L->q∈L->f p=f q->p=q
 | [],_,_,_,h,_,_=>nomatch h
 | a::L,nd,p,q,hp,hq,e=>by
  obtain⟨n1,n2⟩:=SL.mp nd;rcases t_.mp hp with rfl | h1
  .rcases t_.mp hq with rfl | h2
   .rfl
   .exact absurd e (n1 _ (SW h2))
  .rcases t_.mp hq with rfl | h2
   .exact absurd e.symm (n1 _ (SW h1))
   .exact vd n2 h1 h2 e
theorem HR{L:List (Str×Nat)}(X:K.In h)(G:h.Ns mainGlobals mg)(ha:∀p∈L,AtC K p.1 p.2 (.ref HE::bmV))(up:(HE::L.map Prod.snd).Pairwise (@LT.lt Nat _))(nm:(L.map Prod.fst).Nodup):∀q∈L,∀n∈L.map Prod.fst,B3 K mg HE q.2 q.1 n:=λq hq n hn=>by
 obtain⟨p,hp,rfl⟩:=y_.mp hn;obtain⟨u1,u2⟩:=SL.mp up;have A:=ha p hp;have g:=A.g X G;obtain⟨_,_,_,_,_,_,_,_,_,_,_,_,_,_,_,a⟩:=A;refine⟨p.2,g,⟨_,_,_,_,_,_,_,_,_,_,_,_,_,_,_,a⟩,Lx (T9 (u1 _ (SW hp))),⟨λe=>?_,λe=>?_⟩⟩
 .rw[vd (u2.imp λz=>z_ z) hp hq e]
 .rw[vd nm hp hq e]
theorem Mh:(["NoHiding","NoNumber","TooMany","NoCell","NoShot","NothingLeft","NoCounts","Over","NoText","NoRow"]:W3).Nodup:=by decide
theorem Jv{p:α->Prop}:∀a∈([]:List α),p a:=λ_ h=>nomatch h
theorem cY{p:α->Prop}{a:α}{L:List α}(h:p a)(t:∀b∈L,p b):∀b∈a::L,p b:=λb hb=>by
 rcases t_.mp hb with rfl | hb
 .exact h
 .exact t b hb
theorem Ka(a:PySem.W.nsIn K mainGlobals x=some (some (.ref C)))(l:K.lookup C=some (cM nm q C N bs bm sn sub ab col dd k0 k1 k2 k3 k5)):AtC K x C bm:=⟨_,_,_,_,_,_,_,_,_,_,_,_,_,_,a,l⟩
variable {P:Xd}{w:Xg}{base:Xf}{d n:Nat}{g:Gr}{m:Xq->Option Rs}{fd:Xh}{ps:W3}
theorem Ed(O:dj P w K mg base (G8 P w) d f fd ps (O3 mg K n g m))(hk:PySem.W.keepIn K (.ref f)=true)(hm:mg x=some (.ref f))(hb:Binds K fd ps [])(hn:ps.length=n:=by rfl):∀j,d<=j->KB P w K mg base j x n g m:=
 λ_ hj=>⟨f,fd,ps,hn,O.mono hj,hm,hk,hb⟩
end
abbrev Wd.QX(W:Wd)(d:Nat)(x:Str)(n:Nat)(m:Xq->Option Rs):Prop:=∀j,d<=j->KB W.P W.w W.K W.mg W.base j x n .cl m
abbrev Wd.X(W:Wd)(c:Str):Prop:=XC W.P W.w W.K W.mg W.base 1 c
variable {W:Wd}{x:Str}{st:Xl}{k:Nat}{g:Gr}{fb:FsX}
theorem Sk(N:W3)(n:Nat)(h:W.At x st)
  (hb:∀(bq:Xa)(A:Xe)(outer:List Env)(s:Xb)(H:Hp)(E:XK)(f:Xj),a9 k (A.deeper (envOfC x (ax st) s.sz f bq))->N.Nodup->Dn (eO (G8 W.P W.w) W.P W.w W.K W.mg W.base N x (ax st) f bq A outer s H E) .cl (aT st) fb)
  (S:bC N (N.take n) (ax st):=by exact⟨rfl,rfl,rfl,by decide +kernel,rfl,by decide +kernel,by decide +kernel⟩)
  (hB:Bi x st (N.take n):=by intro _ _ _ _ _ _;first | exact K4 λ_=>rfl | exact M7 λ_ _=>rfl | exact Mx λ_ _ _=>rfl | exact ar4 λ_ _ _ _=>rfl | exact ar5 λ_ _ _ _ _=>rfl):W.QX (k+1) x (N.take n).length (uY fb N.length):=by
 obtain⟨f,fd,F,hk,hm⟩:=h;exact Ed (Sr F S (λbq A outer s H E hr=>hb bq A outer s H E f hr S.nd) (λ_ _ _ e=>e)) hk hm (F.binds hB)
theorem Pq(N:W3)(n:Nat)(h:W.At x st)
  (hb:∀(bq:Xa)(A:Xe)(outer:List Env)(s:Xb)(H:Hp)(E:XK)(f:Xj),a9 k (A.deeper (envOfC x (ax st) s.sz f bq))->N.Nodup->BA (eO jR W.P W.w W.K W.mg W.base N x (ax st) f bq A outer s H E) g (aT st) fb)
  (S:bC N (N.take n) (ax st):=by exact⟨rfl,rfl,rfl,by decide +kernel,rfl,by decide +kernel,by decide +kernel⟩)
  (hB:Bi x st (N.take n):=by intro _ _ _ _ _ _;first | exact K4 λ_=>rfl | exact M7 λ_ _=>rfl | exact Mx λ_ _ _=>rfl | exact ar4 λ_ _ _ _=>rfl | exact ar5 λ_ _ _ _ _=>rfl):W.Q (k+1) x (N.take n).length g (Ae fb N.length):=by
 obtain⟨f,fd,F,hk,hm⟩:=h;exact u7 (PV F S (λbq A outer s H E hr=>hb bq A outer s H E f hr S.nd) (λ_ _ _ e=>e)) hk hm (F.binds hB)
end Mi
namespace Mi
open PySem PySem.Spec PyProof.Rows L2 Lm
section
open Xc
variable {W:Wd}{x:Str}{st:Xl}{k:Nat}{fb:FsX}{c:Xj}
end
end Mi
namespace Mi
open PySem PySem.Spec PyProof.Rows L2 Xc
variable {X:Cx}{e:Xk}{es:W5}
end Mi
namespace Mi
open PySem PySem.Spec PyProof.Rows L2
theorem kR:∀ps:WY,EF (fE ps)=ps
 | []=>rfl
 | p::ps=>by show(p.1,p.2)::EF (fE ps)=_;rw[kR ps]
section
variable {P:Xd}{w:Xg}{A:Xe}{E:WT}{s:Xb}
inductive cV(P:Program)(w:World)(h:Heap):List (Int×Int)->List Value->Prop
 | nil:cV P w h [] []
 | cons {p:Int×Int} {c:Addr} {ps us}:IsTupleKey (aA P w) h (kk p) c->cV P w h ps us->cV P w h (p::ps) (.ref c::us)
def bZ(P:Xd)(w:Xg)(h:Xf)(q:Xn)(a:Xj):Prop:=∃ps o items n,q=fE ps/\h.get? a=some o/\o.cls=.type "tuple"/\o.data=.seq items n/\cV P w h ps items.toList
theorem nE{p r:W9}(h:kk p=kk r):p=r:=by
 injection h with h1 h2
 injection h2 with h2 _
 injection h1 with h1
 injection h2 with h2
 exact Prod.ext h1 h2
theorem cV.inj{h:Xf}{x y:WY}{vs:W0}(hx:cV P w h x vs)(hy:cV P w h y vs):x=y:=by
 induction hx generalizing y with
 | nil=>cases hy;rfl
 | cons h1 _ ih=>cases hy with | cons h2 t2=>rw[nE (h1.inj h2),ih t2]
theorem bZ.typeIs{q:Xn}{a:Xj}(x:bZ P w s.heap q a):s.TypeIs (.ref a) "tuple":=let ⟨_,o,_,_,_,ho,hc,_⟩:=x;⟨o,ho,hc⟩
theorem bZ.inj{h:Xf}{a:Xj}{x y:Xn}(hx:bZ P w h x a)(hy:bZ P w h y a):x=y:=by
 obtain⟨ps,o,items,n,rfl,ho,_,hd,hi⟩:=hx;obtain⟨rs,o',items',n',rfl,ho',_,ya,hi'⟩:=hy;obtain rfl:o=o':=Option.some.inj (ho.symm.trans ho');rw[hd]at ya
 injection ya with h1 _
 subst h1;rw[hi.inj hi']
theorem cV.keeps{h h':Xf}{d:Xj}{o:Obj}{es ep}(ho:h.get? d=some o)(hd:o.data=.dict es ep)(hs:Heap.SameBut d h h'){x:WY}{vs:W0}(hx:cV P w h x vs):cV P w h' x vs:=by
 induction hx with
 | nil=>exact .nil
 | cons h1 _ ih=>exact .cons (h1.keeps ho hd hs) ih
theorem bZ.keeps{h h':Xf}{q:Xn}{a d:Xj}{o:Obj}{es ep}(x:bZ P w h q a)(ho:h.get? d=some o)(hd:o.data=.dict es ep)(hs:Heap.SameBut d h h'):bZ P w h' q a:=by
 obtain⟨ps,o',items,n,e,ho',hc,ya,hi⟩:=x;have hne:a≠d:=by
  rintro rfl;obtain rfl:o'=o:=Option.some.inj (ho'.symm.trans ho);rw[hd]at ya;exact nomatch ya
 exact⟨ps,o',items,n,e,(hs.2 a hne).trans ho',hc,ya,hi.keeps ho hd hs⟩
theorem oR{q:Xn}{a:Xj}{Q:Int->Xb->Prop}(hu:A.units+1<cLine)(hk:bZ P w s.heap q a)(h:Q (Ol q) {s with toks:=s.toks+((EF q).length*3+1)}) :
  wpAny (model P w) A (pyHash (.ref a)) Q E s:=by
 have hT:=hk.typeIs;obtain⟨ks,o,items,n,rfl,ho,_,hd,hi⟩:=hk;unfold Ol at h;rw[kR]at h;unfold pyHash
 first | unfold pyHashByItsType | skip
 first | refine a_ (wpAny_cRoomFor_or (.inr (by omega)) ?_) | skip
 refine a_ (TK hT Ux.lookup ?_);show wpAny _ _ (if(some (Value.builtin "tuple.__hash__")==some Value.none)=true then _ else _) Q E s;rw[k_ (by rw[beq_builtin_none];exact P_)];refine a_ (TK hT Ux.lookup ?_);show wpAny _ _ (callSpecialIfBoundUnlessNone? (.ref a) "__hash__" _ >>= _) Q E s;refine a_ (wpAny_callSpecialIfBoundUnlessNone?_slot hT Ux (SC Ux hT F.entry_tuple_hash ?_ (F.args_tuple_hash_1 _)));show wpAny _ _ (Builtin.Tuple.tupleItemsOf (.ref a) >>= _) _ _ s;refine a_ (Wq ho hd ?_);refine a_ ?_;rw[<- Uj];refine Tt _
  (λrest (b:Array Int) s'=>∃done left,ks=done++left/\cV P w s.heap left rest/\b.toList=done.map K3/\s'={s with toks:=s.toks+done.length*3})
  _ ?_ ?_ _ _ ⟨[],ks,rfl,hi,rfl,rfl⟩
 .rintro x rest b s' ⟨done,left,rfl,hl,hb,rfl⟩;cases hl with
  | @cons k c gq _ h1 Dk=>
   refine a_ (wpAny_pyHash_tuple (by omega) (show IsTupleKey (aA P w) ({s with toks:=s.toks+done.length*3}:Xb).heap (kk k) c from h1) ?_)
   first
    | exact d_ ⟨done++[k],gq,by simp,Dk,by simp[hb,hF_is],by simp[kk,WO,Ua]⟩
    | exact a_ (d_ (d_ ⟨done++[k],gq,by simp,Dk,by simp[hb,hF_is],by simp[kk,WO,Ua]⟩))
 .rintro b s' ⟨done,left,rfl,hl,hb,rfl⟩;cases hl;rw[SG]at h;show wpAny _ _ (retInt (Builtin.Tuple.tupleHashOf b.toList)) _ _ _;rw[hb];refine wpAny_ret_mkInt ?_;show wpAny _ _ (if(decide (-(2:Int) ^ 63<=Builtin.Tuple.tupleHashOf (done.map K3))&&decide (Builtin.Tuple.tupleHashOf (done.map K3)<2 ^ 63))=true then _ else _) Q E _;unfold reduceHash at h
  by_cases hr:(decide (-(2:Int) ^ 63<=Builtin.Tuple.tupleHashOf (done.map K3))&&decide (Builtin.Tuple.tupleHashOf (done.map K3)<2 ^ 63))=true
  .rw[j_ hr];rw[j_ hr]at h;exact d_ (by simpa [Ua]using h)
  .rw[k_ hr];rw[k_ hr]at h;exact a_ (Vp (d_ (by simpa [Ua]using h)))
theorem FI{x y:WY}:decide (fE x=fE y)=decide (x=y):=by
 by_cases h:x=y
 .rw[h];simp
 .rw[E_ h,E_];intro z;exact h (by rw[<- kR x,z,kR])
theorem rq{x y:Xn}{a b:Xj}{Q:PySem.Fin->Xb->Prop}(hu:A.units+1<cLine)(hx:bZ P w s.heap x a)(hy:bZ P w s.heap y b)(h:Q (.done (.ret (.bool (decide (x=y))))) s) :
  wpAny (model P w) A (Builtin.«tuple.__eq__» ⟨[.ref a,.ref b],[]⟩) Q E s:=by
 have hTb:=hy.typeIs;obtain⟨px,oa,xs,na,rfl,GA,_,hda,hia⟩:=hx;obtain⟨py,ob,ys,nb,rfl,hob,_,kG,OM⟩:=hy;rw[FI]at h;show wpAny _ _ (isInstance (.ref b) (.type "tuple") >>= _) _ _ s;refine a_ (Ue hTb VJ ?_);simp only[Tz,x_,SV];refine a_ (Wq GA hda ?_);refine a_ (Wq hob kG ?_);refine a_ ?_;refine Tt _
  (λrest r s'=>r.1=none/\s'=s/\∃x' y' K' ON,rest=List.zip K' ON/\cV P w s.heap x' K'/\cV P w s.heap y' ON/\decide (x'=y')=decide (px=py)/\(K'.length==ON.length)=(xs.size==ys.size))
  _ ?_ ?_ _ _ ⟨rfl,rfl,px,py,xs.toList,ys.toList,rfl,hia,OM,rfl,by simp⟩
 .rintro⟨u,v⟩ rest r s' ⟨hr,rfl,x',y',K',ON,hz,jJ,OO,GE,hlen⟩;cases jJ with
  | nil=>simp at hz
  | @cons k1 c1 RI xs'' h1 hx''=>
   cases OO with
   | nil=>simp at hz
   | @cons k2 c2 RJ ys'' h2 hy''=>
    simp only[Uh,List.cons.injEq,UB]at hz;obtain⟨⟨rfl,rfl⟩,rfl⟩:=hz;refine a_ (wpAny_eqBool_tuple (by omega) h1 h2 ?_)
    by_cases hk:k1=k2
    .subst hk;rw[w_ rfl];simp only[Tz,x_,SV];refine d_ ⟨rfl,rfl,RI,RJ,xs'',ys'',rfl,hx'',hy'',?_,by simpa using hlen⟩;rw[<- GE]
     by_cases Os:RI=RJ
     .simp[Os]
     .simp[Os]
    .rw[E_ (λz=>hk (nE z))];simp only[Bool.not_false,Up];have hf:decide (px=py)=false:=by rw[<- GE];simp[hk]
     rw[hf]at h;exact a_ (d_ (d_ (d_ h)))
 .rintro⟨r1,r2⟩ s' ⟨hr,rfl,x',y',K',ON,hz,jJ,OO,GE,hlen⟩;simp only at hr;subst hr;refine d_ ?_;have hfin:(xs.size==ys.size)=decide (px=py):=by
   rw[<- GE,<- hlen];cases jJ with
   | nil=>
    cases OO with
    | nil=>simp
    | cons _ _=>simp
   | cons _ _=>
    cases OO with
    | nil=>simp
    | cons _ _=>simp at hz
  show Q (.done (.ret (.bool (xs.size==ys.size)))) s';rw[hfin];exact h
theorem sV{x y:Xn}{a b:Xj}{Q:Bool->Xb->Prop}(hu:A.units+2<cLine)(hx:bZ P w s.heap x a)(hy:bZ P w s.heap y b)(h:Q (decide (x=y)) s) :
  wpAny (model P w) A (eqBool (.ref a) (.ref b)) Q E s:=by
 unfold eqBool
 try with_reducible refine Q_ ?_
 show wpAny _ _ (if(Value.ref a==Value.ref b)=true then _ else _) Q E s
 by_cases Hm:(Value.ref a==Value.ref b)=true
 .rw[j_ Hm];have e:a=b:=by have:=eq_of_beq Hm;injection this
  subst e;obtain rfl:=hx.inj hy;exact a_ (Vp (d_ (by simpa using h)))
 .rw[k_ Hm];exact a_ (wpAny_richCompare_same_room (op:=.Eq) hx.typeIs hy.typeIs V_
   (SC V_ hx.typeIs F.entry_tuple_eq (rq (show A.units+1+1<cLine from hu) hx hy ⟨_,rfl,(λe=>nomatch e),TC h⟩) (F.args_tuple_eq_2 _ _)) (by omega))
theorem uX{k:Nat}{ks:Xn}{a:Xj}{Q:Bool->Xb->Prop}(hk:IsTupleKey (aA P w) s.heap ks a)(h:Q true s):wpAny (model P w) A (eqIsQuiet (k+1) (.ref a)) Q E s:=by
 have hT:=hk.typeIs;obtain⟨o,items,n,ho,_,hd,hi⟩:=hk;unfold eqIsQuiet;refine a_ (TK hT V_.lookup ?_);show wpAny _ _ (isInstance (.ref a) (.type "tuple") >>= _) _ _ s;refine a_ (Ue hT VJ ?_);simp only[Tz,x_,SV];refine a_ (TH ho hd ?_);refine a_ ?_;show wpAny _ _ (forIn items _ _) _ _ s;rw[<- Uj];refine Tt _ (λrest r s'=>r.1=none/\s'=s/\∀v∈rest,carriedByValue v=true) _ ?_ ?_ _ _ ⟨rfl,rfl,hi.byValue⟩
 .rintro v rest r s' ⟨hr,rfl,gW⟩;rw[eqIsQuiet_byValue _ (gW v o_)];refine a_ (d_ ?_);simp only[Tz,x_,SV];exact d_ ⟨rfl,rfl,λu Hq=>gW u (l_ _ Hq)⟩
 .rintro⟨r1,r2⟩ s' ⟨hr,rfl,_⟩;simp only at hr;subst hr;exact d_ h
theorem mv{q:Xn}{a:Xj}{Q:Bool->Xb->Prop}(hk:bZ P w s.heap q a)(h:Q true s):wpAny (model P w) A (eqIsQuiet 8 (.ref a)) Q E s:=by
 have hT:=hk.typeIs;obtain⟨ps,o,items,n,rfl,ho,_,hd,hi⟩:=hk;unfold eqIsQuiet;refine a_ (TK hT V_.lookup ?_);show wpAny _ _ (isInstance (.ref a) (.type "tuple") >>= _) _ _ s;refine a_ (Ue hT VJ ?_);simp only[Tz,x_,SV];refine a_ (TH ho hd ?_);refine a_ ?_;show wpAny _ _ (forIn items _ _) _ _ s;rw[<- Uj];refine Tt _ (λrest r s'=>r.1=none/\s'=s/\∃ps,cV P w s.heap ps rest) _ ?_ ?_ _ _ ⟨rfl,rfl,_,hi⟩
 .rintro v rest r s' ⟨hr,rfl,ps,gW⟩;cases gW with
  | @cons p c ps' us' h1 h2=>
  refine a_ (uX (k:=6) h1 ?_);simp only[Tz,x_,SV];exact d_ ⟨rfl,rfl,_,h2⟩
 .rintro⟨r1,r2⟩ s' ⟨hr,rfl,_⟩;simp only at hr;subst hr;exact d_ h
end
def fD(P:Xd)(w:Xg):HeapKind P w Xn where
 is:=bZ P w
 hash:=Ol
 draws:=λq=>(EF q).length*3+1
 room:=λA=>A.units+2<cLine
 inj:=λhx hy=>hx.inj hy
 keeps:=λx ho hd hs=>x.keeps ho hd hs
 pyHash:=λhu hk h=>oR (by omega) hk h
 eqBool:=λhu hx hy h=>sV hu hx hy h
 quiet:=λhk h=>mv hk h
section
variable {P:Xd}{w:Xg}{K:Type}[DecidableEq K]{knd:HeapKind P w K}{A:Xe}{E:WT}{s:Xb}
theorem ui{d a:Xj}{xs:List (K×Xj×Xa)}{k:K}{v:Xa}{Q:WT}(hu:knd.room A)(ek:knd.is s.heap k a)(hm:s.heap.DictOfH knd d xs)
  (h1:∀p,atKey xs k=some p->Q p.2 {s with toks:=s.toks+knd.draws k})
  (h2:atKey xs k=none->∀h',h'.DictOfH knd d (xs++[(k,a,v)])->Heap.SameBut d s.heap h'->Q v {s with heap:=h',toks:=s.toks+knd.draws k})
  (hsz:xs.length<=sizeLine) :
  wpAny (model P w) A (dictSetDefault d (.ref a) v) Q E s:=by
 obtain⟨o,es,ep,ho,hc,hd,he,zI,hn⟩:=hm;unfold dictSetDefault
 try with_reducible refine Q_ ?_
 refine a_ (knd.pyHash hu ek ?_);refine a_ (wpAny_dictFind_heap (s:={s with toks:=s.toks+knd.draws k}) hu ek ho hd he zI hn ?_ ?_)
 .intro NN;have hnot:k∉xs.map (·.1):=not_mem_keys_of_get NN;refine a_ (Vp (a_ (wpAny_updateDictKeys (hz:=by have e:=size_of_entries he;omega) (s:={s with toks:=s.toks+knd.draws k}) ho hd (d_ (h2 (atKey_none_of_get NN) _ ⟨_,_,ep+1,SS _ ho (Obj.isFreed_of_dict (Obj.data_mapDictKeys hd _)),
   hc.mapDictKeys _,Obj.data_mapDictKeys hd _,?_,?_,?_⟩ (SM ..))))))
  .simp[he,entryOfKey]
  .intro x hx;rcases Su.mp hx with hx | hx
   .exact knd.keeps (zI x hx) ho hd (SM ..)
   .simp only[s_]at hx;subst hx;exact knd.keeps ek ho hd (SM ..)
  .rw[O_,U2];refine⟨hn,by simp,?_⟩;intro x hx y hy;simp only[L_,Vv,s_]at hy;subst hy;exact λe=>hnot (e▸hx)
 .intro j p hj;refine a_ (VE (s:={s with toks:=s.toks+knd.draws k}) ho hd ?_);rw[entry_at he j,hj];exact a_ (Vp (d_ (h1 p (atKey_of_get hn hj))))
theorem qK{k:K}{a:Xj}(d:Xj)(hd:(d==sysModules)=false)(dflt:Xa) :
  MeetsIn P w (Builtin.«dict.setdefault» ⟨[.ref d,.ref a,dflt],[]⟩) (λA R s=>knd.room A.in1/\∃xs,knd.is s.heap k a/\s.heap.DictOfH knd d xs/\xs.length<=sizeLine/\
   (∀p,atKey xs k=some p->R (.ok (.ret p.2)) {s with toks:=s.toks+knd.draws k})/\
   (atKey xs k=none->∀h',h'.DictOfH knd d (xs++[(k,a,dflt)])->Heap.SameBut d s.heap h'->R (.ok (.ret dflt)) {s with heap:=h',toks:=s.toks+knd.draws k})):=
 .of_wp λA R s ⟨hu,xs,hk,hm,hz,h1,h2⟩=>by
  unfold Builtin.«dict.setdefault»;refine a_ ?_;unfold Builtin.Dict.keyAndDefault;refine a_ (wpAny_notOrdered_dict hm.typeIs ?_);show wpAny _ _ (pure (d,Value.ref a,some dflt)) _ _ s;refine d_ ?_;show wpAny _ _ (if(d==sysModules)=true then _ else(dictSetDefault d (.ref a) dflt >>= _)) _ _ s;rw[k_ (by rw[hd];exact P_)];exact a_ (ui (hsz:=hz) hu hk hm (λp hp=>d_ ⟨_,rfl,h1 p hp⟩) λhn h' hm' hs'=>d_ ⟨dflt,rfl,h2 hn h' hm' hs'⟩)
end
theorem xm(P:Xd)(w:Xg):Fd=entryOfKey (fD P w):=rfl
theorem pF(a:Xj)(ep:Nat)(ks:Xm)(bs:W4)(vs:Xs):∀h1 h2:Xf,je a ep ks bs vs h1->(∀o,h1.get? a=some o->h2.get? a=some o)->je a ep ks bs vs h2:=λh1 h2 ⟨o,es,us,e,r⟩ k=>⟨o,es,us,k o e,r⟩
theorem Jh{P:Xd}{w:Xg}{h:Xf}(d:h.DictOfH (fD P w) a (eu ks bs us))(hv:av vs us)(h1:bs.length=ks.length)(h2:us.length=ks.length)(hs:(a==sysModules)=false)(hz:ks.length<=16000000):∃ep,je a ep ks bs vs h:=by
 obtain⟨o,es,ep,e1,e2,e3,e4,_,e6⟩:=d;rw[de h1 h2]at e6;exact⟨ep,o,es,us,e1,e2,e3,hv,by rw[e4,xm P w],e6,hs,hz,h1,h2⟩
section
variable {X:Cx}{rg:Gr}{l r o:Xk}{fa fb:Fe}{ga gb:Gr}{pos p:Pos}{k:Nat}
theorem wq:∀{cs:W4}{us:W0},av (cs.map V.ref) us->us=cs.map Value.ref
 | [],_,h=>by cases h;rfl
 | c::cs,_,h=>by cases h with | cons a b=>rw[show _=Value.ref c from a,wq b];rfl
theorem pV{pins σ H s}(I:Inv X pins σ H s):∀{ps:WY}{cs:W4},j6 X.K H ps cs->cV X.prog X.w s.heap ps (cs.map Value.ref)
 | [],cs,h=>by
  have:=h.1;cases cs with
  | nil=>exact .nil
  | cons a b=>simp at this
 | p::ps,[],h=>by have:=h.1;simp at this
 | p::ps,c::cs,h=>.cons (jo I (q:=kk p) (h.2 0 p c rfl rfl)) (pV I ⟨by have:=h.1;simpa using this,λi q b h1 h2=>h.2 (i+1) q b (by simpa using h1) (by simpa using h2)⟩)
theorem mG{pins σ H s}{ps:WY}{cs:W4}{b:Xj}(I:Inv X pins σ H s)(hq:cy X.K H b (cs.map V.ref))(hp:j6 X.K H ps cs):bZ X.prog X.w s.heap (fE ps) b:=by
 obtain⟨aQ,rv,⟨o,h1,h2,n',h3⟩,_⟩:=I.tuple hq;have e:=wq rv;subst e;exact⟨ps,o,_,n',rfl,h1,h2,h3,by simpa using pV I hp⟩
theorem G3{pins σ H s}(I:Inv X pins σ H s)(hc:H c=some (.ext (je c ep ks bs vs)))(hp:n3 X.K H ks bs) :
  ∃us,av vs us/\bs.length=ks.length/\us.length=ks.length/\s.heap.DictOfH (fD X.prog X.w) c (eu ks bs us)/\(c==sysModules)=false/\ks.length<=16000000:=by
 have hS:je c ep ks bs vs s.heap:=(show aU X.prog X.w H s.heap c (.ext (je c ep ks bs vs))from I.hok c _ hc).1;obtain⟨o,es,us,e1,e2,e3,hv,e4,e5,e6,e7,h1,h2⟩:=hS;refine⟨us,hv,h1,h2,⟨o,es,ep,e1,e2,e3,by rw[e4,xm X.prog X.w],λx hx=>?_,by rw[de h1 h2];exact e5⟩,e6,e7⟩;obtain⟨i,a1,a2⟩:=xE hx;obtain⟨ps,cs,e,q,r⟩:=hp i _ _ a1 a2;rw[e];exact mG I q r
def prD(p:W9):D:=.tup [.int p.1,.int p.2]
def K7:Xq->Option WY
 | []=>some []
 | .tup [.int a,.int b]::ds=>(K7 ds).map ((a,b)::·)
 | _=>none
theorem wO:∀ps:WY,K7 (ps.map prD)=some ps
 | []=>rfl
 | p::ps=>by show(K7 (ps.map prD)).map _=_;rw[wO ps];rfl
theorem z6{ds:Xq}:∀{ps},K7 ds=some ps->ds=ps.map prD:=by
 induction ds with
 | nil=>intro ps e;cases e;rfl
 | cons d ds ih=>
  intro ps e;unfold K7 at e
  split at e
  .rename_i h;cases h
  .rename_i h;cases h;obtain⟨qs,e1,rfl⟩:=D_.mp e;rw[ih e1];rfl
  .cases e
theorem sZ{K:Fg}{H:Hp}:∀{ps:WY}{vs:Xs},ak K H (ps.map prD) vs->∃cs:W4,vs=cs.map V.ref/\j6 K H ps cs
 | [],_,h=>⟨[],h,rfl,λi p b h1=>by simp at h1⟩
 | p::ps,_,⟨v,r,e,⟨c,us,e1,hq,u1,r1,e2,g1,u2,r2,e3,g2,e4⟩,t⟩=>by
  obtain⟨cs,rfl,hp⟩:=sZ t;subst e e1 e2 e3;cases(show u1=V.int p.1 from g1);cases(show u2=V.int p.2 from g2);cases(show r2=[]from e4);refine⟨c::cs,rfl,by simpa using hp.1,λi q b h1 h2=>?_⟩;cases i with
  | zero=>cases h1;cases h2;exact hq
  | succ i=>exact hp.2 i q b (by simpa using h1) (by simpa using h2)
theorem tN{K:Fg}{H:Hp}:∀{ps:WY}{cs:W4},j6 K H ps cs->ak K H (ps.map prD) (cs.map V.ref)
 | [],cs,h=>by
  have:=h.1;cases cs with
  | nil=>rfl
  | cons a b=>simp at this
 | p::ps,[],h=>by have:=h.1;simp at this
 | p::ps,c::cs,h=>⟨_,_,rfl,⟨c,_,rfl,h.2 0 p c rfl rfl,_,_,rfl,rfl,_,_,rfl,rfl,rfl⟩,tN ⟨by have:=h.1;simpa using this,λi q b h1 h2=>h.2 (i+1) q b (by simpa using h1) (by simpa using h2)⟩⟩
def zg:D->Option WY
 | .tup ts=>K7 ts
 | _=>none
theorem AE(ps:WY):zg (.tup (ps.map prD))=some ps:=wO ps
theorem ug{K:Fg}{Z:Hp}{d:D}{v:V}{ps:WY}(h:Rep K Z d v)(e:zg d=some ps):∃b cs,v=.ref b/\cy K Z b (cs.map V.ref)/\j6 K Z ps cs:=by
 cases d<;>try cases e
 cases z6 e;obtain⟨b,vs,rfl,hq,rr⟩:=h;obtain⟨cs,rfl,hp⟩:=sZ rr;exact⟨b,cs,rfl,hq,hp⟩
def Pn:D->Option (Xm×Xq)
 | .nt ks ds=>some (ks,ds)
 | _=>none
theorem tz(h:Pn d=some x):d=.nt x.1 x.2:=by cases d<;>cases h;rfl
def yS(x y:D):Xr:=(Pn x).bind λm=>(zg y).bind λq=>bE m.1 m.2 (fE q)
def GK(K:Fg):R2:=λx y H Q=>∃(a b:Xj)(ep:Nat)(ks:Xm)(bs:W4)(vs:Xs)(ps:WY)(cs:W4)(v:V),x=.ref a/\H a=some (.ext (je a ep ks bs vs))/\n3 K H ks bs/\y=.ref b/\cy K H b (cs.map V.ref)/\j6 K H ps cs/\bE ks vs (fE ps)=some v/\Q v H
theorem Ec(hu:X.A.units+3<cLine)(ho:PE X o td)(hi:PE X i ty)(hs:AU i):PE X (.Subscript o i pos) (E8 (GK X.K) td ty):=by
 intro pins s σ H Q I h;refine xA Wt.lookup hs (aZ (ho pins s σ H _ I h) λu s1 ⟨x,H1,I1,rx,q1⟩=>aZ (hi pins s1 σ H1 _ I1 q1) λiv s2 aC=>?_);obtain⟨y,H2,I2,ry,a,b,ep,ks,bs,vs,ps,cs,v,ex,hc,hp,ey,hq,hr,hl,q2⟩:=aC;subst ex ey;obtain rfl:u=Value.ref a:=rx;obtain rfl:iv=Value.ref b:=ry;obtain⟨us,hv,h1,h2,dd,nW,hz⟩:=G3 I2 hc hp;obtain⟨w',e1,e2⟩:=av.look hv hl;rw[<- qf _ h1 h2]at e1;obtain⟨pr,e3,e4⟩:=D_.mp e1;exact⟨dd.typeIs,wpAny_getItem_heap (knd:=fD X.prog X.w) (show X.A.units+1+2<cLine from hu) (mG I2 hq hr) dd e3 (by rw[e4];exact⟨v,H2,I2.tok _,e2,q2⟩)⟩
theorem JJ{K:Fg}:cb K .cl yS (GK K):=λ{Z H x y dx dy d Q} s h1 h2 e kq=>by
 obtain⟨m,e1,e⟩:=b_.mp e;obtain⟨q,e2,e3⟩:=b_.mp e;cases tz e1;have h2':Rep K Z dy y:=by
  rcases h2 with h2 | ⟨_,_,_,_,e,_⟩ | ⟨_,_,_,e,_⟩ | ⟨_,_,_,_,_,e,_⟩
  .exact h2
  all_goals subst e;cases e2
 rcases h1 with h1 | ⟨_,_,_,_,e,_⟩ | ⟨_,_,_,e,_⟩ | ⟨_,_,_,_,_,e,_⟩
 .obtain⟨a,ep,bs,vs,rfl,hc,hp,rr⟩:=h1;obtain⟨b,cs,rfl,hq,hr⟩:=ug h2' e2;obtain⟨v,e4,e5⟩:=rr.look e3;exact⟨a,b,ep,m.1,bs,vs,q,cs,v,rfl,s _ _ hc,hp.mono s,rfl,bJ s hq,hr.mono s,e4,kq v Z H (Ex.refl s) e5⟩
 all_goals cases e
theorem Bu{A:Xe}{k:Nat}(hr:a9 k A):A.units+3<cLine:=UR (Nat.add_le_add_left (by decide:3<=64) _) hr.units
theorem JP(hr:a9 k X.A)(ha:PD X ga l fa)(hb:PD X gb r fb)(hs:AU r:=by intro _ _;rfl):PD X .cl (.Subscript l r pos) (ao yS fa fb):=
 PE.imp (Ec (Bu hr) ha hb hs) λ_ _ _ h=>fK JJ h
theorem EE:PE X (.Dict [] [] pos) (λσ H Q=>∀a,H a=none->Q (.ref a) (upd H a (.ext (je a 0 [] [] [])))):=λpins s σ H Q I hT=>by
 have hf:=I.hok.fresh (h_ s.sz);have hd:je s.sz 0 [] [] [] (s.heap.push {cls:=.type "dict",data:=.dict #[]}):=⟨_,#[],[],n_ _ rfl,⟨rfl,rfl,rfl⟩,rfl,.nil,rfl,U6,by have:=I.big;simpa using (T9 this),by simp,rfl,rfl⟩;exact wpAny_Dict_empty ⟨.ref s.sz,_,I.laid (o:=.ext (je s.sz 0 [] [] [])) (λ_ _ q=>e_ _ q) (h_ _) ⟨hd,⟨_,n_ _ rfl⟩,pF _ _ _ _ _⟩,rfl,hT _ hf⟩
def MF(i:Nat):Fs:=λenv=>some (.nx (env.set i (.O (.N [] []))))
theorem IQ(i:Nat)(hN:X.N.Nodup)(hi:X.N[i]?=some x:=by rfl)(hx:Loc X.env.scope x:=by first | exact Or.inl rfl | exact Or.inr rfl)(hs:swapsWith (.Dict [] [] p) (some (.Name x pos')) pos.line X.env=pure false:=by rfl)
  (hf:X.fn x=true\/X.env.scope.names.lookup x=some .local:=by first | exact .inl rfl | exact .inr rfl | assumption):SD X rg (.Assign [.Name x pos'] (.Dict [] [] p) pos) (MF i):=PS.imp (fW hN hi hx EE hs hf) λE σ H h=>by
 obtain⟨env,B,Z,o,R,e,k⟩:=h;cases e;intro a ha;have x1:Ex Z H Z (upd H a (.ext (je a 0 [] [] []))):=Ex.newL R.zh ha;refine k _ Z _ (x1.part R.bh) ((R.ext x1).setO i (R.bh.free ha) (R.zh.free ha) ai (show bU X.K Z a (.N [] []) _ from⟨0,[],[],rfl,λi k b h=>by simp at h,rfl⟩) λj es hj hje hja=>?_);obtain⟨y,e4,b,us,e5,e6,_⟩:=R.sl j _ hje;rw[hja]at e4;cases e4;cases e5;rw[ha]at e6;cases e6
def Lu(K:Fg)(td ty tx:TE):TE:=λσ H Q=>td σ H λx H1=>∃a ep ks bs vs,x=.ref a/\H1 a=some (.ext (je a ep ks bs vs))/\n3 K H1 ks bs/\ty σ H1 λy H2=>tx σ H2 λz H3=>∃b ps cs,H3 a=some (.ext (je a ep ks bs vs))/\n3 K H3 ks bs/\y=.ref b/\cy K H3 b (cs.map V.ref)/\j6 K H3 ps cs/\ks.length<16000000/\
 (∀v,bE ks vs (fE ps)=some v->Q v H3)/\(fE ps∉ks->bs.length=ks.length->∀xY,Q z (upd H3 a (.ext (je a xY (ks++[fE ps]) (bs++[b]) (vs++[z])))))
theorem FO(hu:X.A.units+3<cLine)(ho:PE X o td)(he:PE X e ty)(hf:PE X f tx)(m:M2 X o "setdefault" apos e f be):PE X (.Call (.Attribute o "setdefault" apos) [e,f] [] be) (Lu X.K td ty tx):=by
 intro pins s σ H Q I h;refine wpAny_Call_method m.base m.few m.line PySem.F.plainAttrs_dict T8 V8 (aZ (ho pins s σ H _ I h) λu s1 aC=>?_);obtain⟨x,H1,I1,rx,a,ep,ks,bs,vs,ex,hc1,RC,q1⟩:=aC;subst ex;obtain rfl:u=Value.ref a:=rx;obtain⟨ob,es,us,h2,h3,h4,_⟩:je a ep ks bs vs s1.heap:=(show aU X.prog X.w H1 s1.heap a (.ext (je a ep ks bs vs))from I1.hok a _ hc1).1;have t1:s1.TypeIs (.ref a) "dict":=⟨ob,h2,h3.1⟩;have t2:∀b,Value.ref a=.ref b->∃ob,s1.heap.get? b=some ob/\ob.dict=none:=λb q=>by cases q;exact⟨ob,h2,h3.2.1⟩
 refine⟨t1,t2,?_⟩;rw[m.trees];clear h2 h3 h4 t1 t2;refine UQ rfl (VW (UN (aZ (he pins s1 σ H1 _ I1 q1) λiv s2 ⟨y,H2,I2,ry,q2⟩=>UN (aZ (hf pins s2 σ H2 _ I2 q2) λfv s3 aC=>Ww ?_))));obtain⟨z,H3,I3,rz,b,ps,cs,hc,hk,ey,hq,hr,hl,q3,q4⟩:=aC;subst ey;obtain rfl:iv=Value.ref b:=ry;obtain⟨us,hv,h1,h2,dd,nW,hz⟩:=G3 I3 hc hk;refine call_meetsIn T8 dd.typeIs V3 (VR _ _ _) (qK (knd:=fD X.prog X.w) (k:=fE ps) a nW fv) ⟨show X.A.units+1+2<cLine from hu,_,mG I3 hq hr,dd,by rw[SB,<- c_ (f:=(·.1)),de h1 h2];lia,λpr hpr=>?_,λhn h' dd' hs'=>?_⟩
 .have e1:bE ks us (fE ps)=some pr.2:=by rw[<- qf _ h1 h2,hpr];rfl
  have QF:vs.length=ks.length:=by rw[av.length hv];exact h2
  cases e:bE ks vs (fE ps)with
  | none=>
   have g1:=lB (q:=fE ps) (ds:=vs) QF;have g2:=lB (q:=fE ps) (ds:=us) h2;rw[e]at g1;rw[e1]at g2;rw[<- g1]at g2;cases g2
  | some v=>
   obtain⟨w',e3,e2⟩:=av.look hv e;rw[e1]at e3;cases e3;exact⟨v,H3,I3.tok _,e2,q3 v e⟩
 .have hnq:fE ps∉ks:=λhin=>by
   have g:=rp (fE ps) h1 h2;rw[hn,w_ hin]at g;cases g
  rw[<- my (fE ps) b fv h1 h2]at dd';obtain⟨xY,jJ⟩:∃xY,je a xY (ks++[fE ps]) (bs++[b]) (vs++[z]) h':=Jh dd' (av.append hv (.cons rz .nil)) (by simp[h1]) (by simp[h2]) nW (by simp;lia);have hg:∃o,h'.get? a=some o:=let ⟨o,_,_,e,_⟩:=jJ;⟨o,e⟩;exact⟨z,upd H3 a (.ext (je a xY (ks++[fE ps]) (bs++[b]) (vs++[z]))),I3.write (by rw[hc];exact True.intro) (.inl rfl) (λb u hb z=>(hs'.2 b hb).trans z) hg ⟨jJ,hg,pF _ _ _ _ _⟩,rz,q4 hnq h1 xY⟩
def HF(i:Nat)(fk fx:Fe):Fs:=λenv=>(fk env).bind λkd=>(fx env).bind λd=>(zg kd).bind λq=>match env[i]? with
 | some (.O (.N ks ds))=>if ks.length<16000000/\ds.length=ks.length then some (.nx (env.set i (.O (if fE q∈ks then .N ks ds else .N (ks++[fE q]) (ds++[d])))))else none
 | _=>none
theorem Je(i:Nat)(hr:a9 k X.A)(hk:PD X .cl ke fk)(hx:PD X .cl ve fx)(hN:X.N[i]?=some x:=by rfl)(Hv:wH X.env.scope x:=by first | exact Or.inl rfl | exact Or.inr (Or.inl rfl) | exact Or.inr (Or.inr rfl))
  (hd:(x==("__debug__":Str))=false:=by decide) (dQ:(x==("__classdict__":Str))=false:=by decide)
  (h1:attributeBase (.Name x px) "setdefault" X.env (eval (.Name x px) X.env)=eval (.Name x px) X.env:=by rfl) (h2:((backTo be (starEach [ke,ve] X.env)).all (λx=>!x.1)&&(backToKw be (keywordEach [] X.env)).all (λx=>x.1.isSome)
   && decide (([ke,ve]:W5).length+([]:List Keyword).length+(if([]:List Keyword).isEmpty then 0 else 1)<30))=true:=by rfl) (h3:(apos.endLine==be.line)=true:=by rfl)
  (h4:backTo be (starEach [ke,ve] X.env)=[(false,eval ke X.env),(false,eval ve X.env)]:=by rfl)
  (hs:swapsWith (.Call (.Attribute (.Name x px) "setdefault" apos) [ke,ve] [] be) none pos.line X.env=pure false:=by rfl) :
  SD X rg (.Expr (.Call (.Attribute (.Name x px) "setdefault" apos) [ke,ve] [] be) pos) (HF i fk fx):=by
 refine PS.imp (i5 (FO (Bu hr) (bI hN Hv hd dQ) hk hx ⟨h1,h2,h3,h4⟩) hs) λE σ H aC=>?_;refine cO λ_ kg=>?_;obtain⟨env,B,Z,o,R,e,kq⟩:=aC;obtain⟨kd,e1,e⟩:=b_.mp e;obtain⟨d,e2,e⟩:=b_.mp e;obtain⟨q,e7,e⟩:=b_.mp e
 split at e
 .rename_i ks ds hi;obtain⟨⟨hlen,Gn⟩,rfl⟩:=kP e;obtain⟨y,e3,c,o,e4,e5,e6,ep,bs,vs,rfl,hp,rr⟩:=R.sl i _ hi;subst e4;refine kg ⟨_,e3,c,ep,ks,bs,vs,rfl,e5,hp.mono R.zh,env,B,Z,kd,R,e1,λkv Z1 H1 x1 g1=>⟨env,B,Z1,d,R.ext x1,e2,λv Z2 H2 x2 g2=>?_⟩⟩;clear kg;have R2:=(R.ext x1).ext x2;have x0:=x1.trans x2;obtain⟨b,cs,rfl,hq,rK⟩:=ug (show Rep X.K Z1 kd kv from g1) e7;refine⟨b,q,cs,x2.h _ _ (x1.h _ _ e5),(hp.mono x0.z).mono x0.zh,rfl,bJ x0.zh (bJ x2.z hq),(rK.mono x2.z).mono x0.zh,hlen,λu hu=>?_,λhn hbl xY=>?_⟩
  .have hin:fE q∈ks:=Uu λz=>by
    have g:=lB (q:=fE q) (ks:=ks) (ds:=vs) (by rw[<- Gn];exact rr.len.symm);rw[hu,E_ z]at g;cases g
   rw[j_ hin]at kq;have he:env.set i (.O (.N ks ds))=env:=by
    refine Uy λj=>?_
    by_cases hj:i=j
    .subst hj;rw[v_ (i_.mp hi).1,hi]
    .rw[p_ hj]
   rw[he]at kq;exact kq σ Z2 H2 (x0.part R.bh) R2
  .rw[k_ hn]at kq;have NO:n3 X.K Z2 (ks++[fE q]) (bs++[b]):=λi k b' h1 h2=>by
    by_cases hi:i<ks.length
    .rw[I_ hi]at h1;rw[I_ (by rw[hbl];exact hi)]at h2;exact hp.mono x0.z i k b' h1 h2
    .rw[G_ (by lia)]at h1;rw[G_ (by rw[hbl];lia)]at h2;have hz:i-ks.length=0:=by
      have:=(i_.mp h1).1;simp at this;lia
     rw[hz]at h1;rw[hbl,hz]at h2;cases h1;cases h2;exact⟨q,cs,rfl,bJ x2.z hq,rK.mono x2.z⟩
   obtain⟨R3,x3⟩:=R2.wr hi e3 (show bU X.K _ c (.N (ks++[fE q]) (ds++[d])) _ from⟨xY,_,_,rfl,NO,(ak.mono x0.z ds rr).app (ak.one g2)⟩);exact kq σ _ _ ((x0.part R.bh).transB x3) R3
 .cases e
def Rb(a:Xj)(ep:Nat)(ks:Xm)(bs:W4)(vs:Xs):It:=⟨λi H=>H a=some (.ext (je a ep ks bs vs))/\i<ks.length,λi H x H'=>H'=H/\∃b,bs[i]?=some b/\x=.ref b,λi H=>H a=some (.ext (je a ep ks bs vs))/\ks.length<=i⟩
theorem vq{P:Xd}{w:Xg}{K:Fg}{tg:Xk}{it a:Xj}{ep:Nat}{ks:Xm}{bs:W4}{vs:Xs} :
  Turn P w K tg (Rb a ep ks bs vs) [it] it (λn h=>h.IsKeyIter it a n ks.length ep) where
 mem:=by simp
 obj:=λi h st b hb=>by
  have e:b=it:=by simpa using hb
  subst e;obtain⟨o,e,c,d⟩:=st;exact⟨o,e,λv z=>by rw[d]at z;cases z⟩
 keep:=λi h h' st k=>st.at λo e=>k it (by simp) o e
 item:=by
  intro X hP hw hK hc i pins s σ H E I hf st hg;subst hP hw hK;obtain⟨ha,hi⟩:=hg;obtain⟨ob,es,us,h1,h2,hd,hv,he,hn,nW,hz,l1,l2⟩:je a ep ks bs vs s.heap:=(show aU X.prog X.w H s.heap a (.ext (je a ep ks bs vs))from I.hok a _ ha).1;have hsz:es.size=ks.length:=by rw[<- Sx,he,c_,<- c_ (f:=(·.1)),de l1 l2]
  obtain⟨f0,f1,f2,f3,f4,f5⟩:=hf it (by simp);rw[<- hsz]at st;refine mm st h1 hd (by rw[hsz];exact hi) λh' lS sb=>?_;have I1:Inv X pins σ H {s with heap:=h'}:=I.turned (t':=s.toks) (λb o hb e=>(sb.2 b hb).trans e) f0 f1 f3 f4 f5;obtain⟨o,e,c,d⟩:=id lS;have OM:i<bs.length:=by rw[l1];exact hi
  have e2:(es[i]'(by rw[hsz];exact hi)).key=Value.ref bs[i]:=by
   have hiu:i<us.length:=by rw[l2];exact hi
   have g:es.toList[i]?=some (Fd (ks[i],bs[i],us[i])):=by
    rw[he,m_];have:(eu ks bs us)[i]?=some (ks[i],bs[i],us[i]):=by
     unfold eu;rw[Tg];exact⟨by simp[hi],by rw[Tg];exact⟨by simp[OM],by simp[hiu]⟩⟩
    rw[this];rfl
   have g2:es[i]?=some (Fd (ks[i],bs[i],us[i])):=by rw[<- g];simp
   rw[SJ (by rw[hsz];exact hi)]at g2;rw[Option.some.inj g2];rfl
  rw[hsz]at lS;rw[e2];exact⟨_,rfl,sW (s:={s with heap:=h'}) e c d (by decide) ⟨V.ref bs[i],H,I1,rfl,⟨rfl,bs[i],f_ OM,rfl⟩,lS,λb hb=>(hf b hb).1⟩⟩
 done:=by
  intro X hP hw hK hc i pins s σ H E I hf st hg;subst hP hw hK;obtain⟨ha,hi⟩:=hg;obtain⟨ob,es,us,h1,h2,hd,hv,he,hn,nW,hz,l1,l2⟩:je a ep ks bs vs s.heap:=(show aU X.prog X.w H s.heap a (.ext (je a ep ks bs vs))from I.hok a _ ha).1;have hsz:es.size=ks.length:=by rw[<- Sx,he,c_,<- c_ (f:=(·.1)),de l1 l2]
  obtain⟨f0,f1,f2,f3,f4,f5⟩:=hf it (by simp);rw[<- hsz]at st;exact qX (I.ok.hd hc) st h1 hd (by rw[hsz];exact hi) λh' eb=>⟨rfl,I.turned (t':=s.toks) (λb o hb e=>eb b o hb e) f0 f1 f3 f4 f5⟩
 self:=λ_ _ _ _ _ st h=>V2 st h
def Ik(td:TE):TI:=λσ H R=>td σ H λx H1=>∃(a:Xj)(ep:Nat)(ks:Xm)(bs:W4)(vs:Xs),x=.ref a/\H1 a=some (.ext (je a ep ks bs vs))/\R (Rb a ep ks bs vs) H1
theorem zX{l:Xk}{tl:TE}(hl:PE X l tl):PI X tg l (Ik tl):=by
 intro pins s σ H R I h;refine aZ (hl pins s σ H _ I h) λv s1 ⟨x,H1,I1,r1,q1⟩=>?_;obtain⟨a,ep,ks,bs,vs,e,hc,q⟩:=q1;subst e;cases r1;obtain⟨ob,es,us,h2,e1,e2,hv,he,hn,nW,hz,l1,l2⟩:je a ep ks bs vs s1.heap:=(show aU X.prog X.w H1 s1.heap a (.ext (je a ep ks bs vs))from I1.hok a _ hc).1;have hsz:es.size=ks.length:=by rw[<- Sx,he,c_,<- c_ (f:=(·.1)),de l1 l2]
 refine me nW h2 e1 e2 ?_;rw[hsz];refine⟨s1.heap.objs.size,[s1.heap.objs.size],_,_,H1,rfl,I1.kept (t':=s1.toks) λb o e=>e_ _ e,vq,⟨_,n_ _ rfl,rfl,rfl⟩,λb hb=>?_,q⟩;have e:b=s1.heap.objs.size:=by simpa using hb
 subst e;exact I1.fpOk (h_ _) (I1.hok.fresh (h_ _))
def M8(q:Xn):D:=.tup ((EF q).map prD)
def Oi(f:Fe):Fi:=λenv=>(f env).bind λd=>(Pn d).bind λm=>some (m.1.map M8)
theorem FD(h:PD X .cl l f):ID X tg l (Oi f):=by
 refine PI.imp (zX h) λσ H R aC=>?_;refine cO λ_ kq=>?_;obtain⟨env,B,Z,ds,Rr,e,k⟩:=aC;obtain⟨d,e1,e2⟩:=b_.mp e;obtain⟨m,e3,e4⟩:=b_.mp e2;cases e4;cases tz e3;refine kq (⟨env,B,Z,_,Rr,e1,λv Z1 H1 x1 g1=>?_⟩);clear kq;obtain⟨a,ep,bs,vs,rfl,hc,hp,rr⟩:=g1;refine⟨a,ep,m.1,bs,vs,rfl,x1.zh _ _ hc,k _ Z1 H1 x1 λZ' H' s1 s2 i=>?_⟩;have ha:=(s1.trans s2) _ _ hc;rw[c_];refine⟨λhi=>⟨⟨ha,hi⟩,λx H'' y=>?_⟩,λhi=>⟨ha,hi⟩⟩;obtain⟨rfl,b,hb,e5⟩:=y;obtain⟨ps,cs,g1,g2,g3⟩:=hp i m.1[i] b (by simp[hi]) hb;refine⟨Z',M8 m.1[i],Ex.refl s2,by simp[hi],?_⟩;rw[e5];show Rep X.K Z' (.tup ((EF m.1[i]).map prD)) _;rw[g1,kR];exact⟨_,_,rfl,bJ s1 g2,tN (g3.mono s1)⟩
end
section
variable {X:Cx}{l r e:Xk}{fa fb:Fe}{ga gb:Gr}{pos p:Pos}{k:Nat}{th:Str->Int}
def BY(K:Fg)(th:Str->Int):Xs->Hp->VK->Prop:=λxs H Q=>∃(a:Xj)(ks:Xm)(bs:W4)(vs:Xs)(kss:Xm),xs=[.ref a]/\H a=some (.ext (ft th a ks bs vs))/\(bs.length=ks.length->pA K H (bs.map V.ref) kss)/\ks.length<64/\uh kss=true/\
 ∀q,H q=none->bs.length=ks.length->Q (.ref q) (upd H q (.lst ((cA kss).map λi=>(bs.map V.ref).getD i .non)))
theorem vN(hc:X.calm=true):dD X (.builtin "sorted") (BY X.K th):=by
 intro pins s σ H xs us Q I rs h;obtain⟨a,ks,bs,vs,kss,rfl,hm,hkt,Hx,hlx,q⟩:=h;obtain⟨u,rfl,rx⟩:=vals1 rs;cases rx;obtain⟨o,es,ep,us,h1,h2,h3,h4,h5,h6,h7,h8,h9,OP⟩:=(show aU X.prog X.w H s.heap a (.ext (ft th a ks bs vs))from I.hok a _ hm).1;have e1:es.toList.map (·.key)=bs.map Value.ref:=by
  rw[h5,SO];have:((λe:DictEntry=>e.key) ∘ DV th)=Value.ref ∘ (Prod.fst ∘ Prod.snd):=rfl;unfold eu;rw[this,<- SO,<- SO,List.map_snd_zip (by rw[V9];lia),List.map_fst_zip (by lia)]
 have e2:es.size=ks.length:=by rw[<- Sx,<- c_ (f:=(·.key)),e1,c_,h9]
 refine Ut UC plain_sorted entry_sorted (args_sorted1 _) ?_;unfold Builtin.«sorted»;refine a_ (m:=checkCount "sorted" 1 1 _) (d_ (a_ (PySem.W.kdu_collect (A:=X.A.in1) (Es (es:=es) (ep:=ep) h7) (I.ok.hd hc) ⟨o,h1,h2,h3⟩ (by rw[e2,SB];lia) λh' tk acc hk hacc=>?_)));have e3:acc.toList=bs.map Value.ref:=by
  rw[<- e1];refine Uy λj=>?_;rw[U1,m_,U1]
  by_cases hj:j<es.size
  .have KI:j<acc.size:=by rw[hacc.1];exact hj
   obtain⟨e,h1,h2⟩:=hacc.2 j _ (SJ KI);rw[h1,SJ KI,h2];rfl
  .rw[Tf (by rw[hacc.1];lia),Tf (by lia)];rfl
 rw[e3];have hkt:=hkt h9;have hkl:=hkt.len;rw[c_]at hkl;have ht:bP s.heap (bs.map Value.ref) kss:=hkt.heap I (kh bs);have La:bP (h'.push {cls:=.type "list",data:=.seq (bs.map Value.ref).toArray}) (bs.map Value.ref) kss:=ht.keeps λb o hb _=>e_ _ (hk b o hb);refine a_ (UY ?_ (by rw[c_,SB];lia));have ho:(h'.push {cls:=.type "list",data:=.seq (bs.map Value.ref).toArray}).get? h'.objs.size=some (seqObj "list" (bs.map Value.ref).toArray 0):=n_ _ rfl;refine a_ (Q_ (SC slot_list_sort ⟨_,ho,rfl⟩ V6 (gz (s:={s with heap:=h'.push {cls:=.type "list",data:=.seq (bs.map Value.ref).toArray},toks:=tk}) ho La hlx (by rw[c_];lia) ⟨_,rfl,d_ ⟨_,rfl,?_⟩⟩) (args_list_sort _)));obtain⟨e,he⟩:=sortedHeap_at (out:=((cA kss).map λi=>(bs.map Value.ref).getD i .none).toArray) ho;have v2:=g0 (kh bs) (is:=cA kss) λi hi=>by have:=hW i hi;rw[c_];lia
 have I1:Inv X pins σ H {s with heap:=h',toks:=tk}:=I.kept hk;refine⟨.ref h'.objs.size,_,I1.laid (t':=tk) (o:=.lst ((cA kss).map λi=>(bs.map V.ref).getD i .non)) (λb o z=>?_) (h_ _) ⟨by rw[c_,ml,SB];lia,_,e,v2,by simpa using he⟩,rfl,q _ I1.fresh h9⟩;have hb:b<h'.objs.size:=q_ z;rw[sortedHeap_old (z_ hb) (by rw[Wm];lia)];exact e_ _ z
noncomputable def pX(th:Str->Int)(x:D):Xr:=(GY th x).bind kW
theorem Fj{K:Fg}:ij K .nw (pX th) (BY K th):=λ{Z H x dx d Q} s h e k=>by
 obtain⟨y,e,e'⟩:=b_.mp e;obtain⟨m,h1,h2⟩:=b_.mp e;obtain⟨ho,rfl⟩:=kP h2;cases tP h1;obtain⟨a,rfl,bs,vs,hm,hk,_⟩:=h.mp s;obtain⟨kss,g1,g2⟩:=b_.mp e';obtain⟨hl,rfl⟩:=kP g2;refine⟨a,m.1,bs,vs,kss,rfl,hm,λhb=>(pA.of g1 (gZ hb hk ho)).mono s,by simpa using hl.1,hl.2,λp hp hb=>k _ Z _ (Ex.newL s hp) ⟨p,_,_,rfl,rfl,hp,ai,s.free hp,kr (gZ hb hk ho) λi hi=>?_⟩⟩;have:=hW i hi;have:=(pA.of g1 (gZ (K:=K) (Z:=Z) hb hk ho)).len;rw[c_]at this;rw[c_];lia
theorem DT(hm:X.mg "sorted"=none)(bp:X.calm=true)(ha:PD X ga l fa)(hg:Gl X "sorted":=by rfl)(he:starEach [l] X.env=[(false,eval l X.env)]:=by rfl):PD X .nw (.Call (.Name "sorted" p) [l] [] pos) (br (pX th) fa):=
 tw (vN bp) Fj UD hm ha (by decide) (by decide) hg he
end
end Mi
namespace K31
open PySem Mi
abbrev aq:Fe:=λenv=>bH env 0
abbrev ah:Fe:=λenv=>bH env 1
abbrev aK:Fe:=λenv=>bH env 2
abbrev aB:Fe:=λenv=>bH env 3
abbrev aP:Fe:=λenv=>bH env 4
abbrev d6:Fe:=λenv=>bH env 5
abbrev cj:Fe:=λenv=>bH env 6
abbrev pH:Fe:=λenv=>bH env 7
abbrev jG:Fe:=λenv=>bH env 8
abbrev eG:Fe:=λenv=>bH env 9
abbrev dW:Fe:=λenv=>bH env 10
abbrev gJ:Fe:=λenv=>bH env 11
abbrev dk:Fe:=λenv=>bH env 12
abbrev Bq:Fe:=λenv=>bH env 13
noncomputable section
variable [Th]
def cs_:W3:=["TooMany"]
def cI:D:=(.int 10)
def kK :Fs:=(aI (setF 2 (ao mulI (ao addI (ao addI (ao modI aq (ao powI (fC (.int 10)) (fC (.int 60)))) (ao mulI (fC (.int 7919)) ah)) Xu) (fC (.int 27182818284590452353602874713527)))) (aI (setF 2 (ao modI aK (fC (.int 170141183460469231731687303715884105727)))) (bY (ao fdivI (ao modI (ao powI (ao addI (ao powI aK (fC (.int 5))) (ao mulI (fC (.int 48271)) ah)) Xw) (fC (.int 162259276829213363391578010288127))) (fC (.int 7))))))
def m__law_stir:=cx (kK ) 3
def d7:Fs:=(kX (Dm (fB (ao ltI aq (ao powI (fC (.int 10)) (fC (.int 18))))) (fB (ao iw aB Xt))) (iJ 2 (ao modI (λenv=>((aa aq (aa aP fNil)) env).bind m__law_stir) (ao aO ah aP))) (aI (iJ 2 (ao modI aB (ao aO ah aP))) (setF 3 (ao fdivI aB (ao aO ah aP)))))
def rF:Fs:=(aI (setO 2 (b8 fNil)) (aI (setF 3 aq) (aI (dM (gj (br ck ah)) (b9 4) d7) (yE 2))))
def m__law_drawn:=cx rF 5
def sg:Fs:=(aI (Mp [1,2,3,4,5,6,7] (λenv=>((aa aq (aa (b8 (aa Xx (aa Xx (aa Xx (aa Xx (aa Xx (aa Xx (aa Xw fNil)))))))) fNil)) env).bind m__law_drawn)) (aI (setF 8 (ao aO (b8 (aa (bc (aa (ao addI Xu aK) (aa (ao addI Xu aB) fNil))) (aa (bc (aa (ao addI Xv (ao modI aK Xw)) (aa (ao addI Xv (ao modI aB Xw)) fNil))) (aa (bc (aa (ao addI Xu (ao modI aK Xw)) (aa (ao addI Xw (ao modI aB Xv)) fNil))) fNil)))) (ao minI ah Xv))) (aI (kX (fB (ao iw ah Xw)) (setF 8 (bc (aa Xv (aa (ao addI Xv aB) fNil)))) nxF) (aI (setF 9 (ao aO (b8 (aa (bc (aa (ao addI Xu aP) fNil)) (aa (bc (aa (ao addI Xu (ao modI aP Xw)) (aa (ao addI Xu (ao modI d6 Xw)) fNil))) (aa (bc (aa (ao addI Xu (ao modI aP Xw)) (aa (ao addI Xu (ao modI d6 Xv)) (aa (ao addI Xu (ao modI cj Xv)) fNil)))) fNil)))) (ao modI ah Xw))) (aI (kX (fB (ao iw ah Xw)) (setF 9 (bc (aa (ao addI Xu (ao modI aP Xw)) (aa (ao addI Xu (ao modI d6 Xw)) (aa (ao addI Xu (ao modI cj Xv)) fNil))))) nxF) (aI (setF 9 (br gC (br Bb (br sortI eG)))) (bY (bc (aa jG (aa eG (aa (ao aO (b8 (aa (fC (.str "free")) (aa (fC (.str "sides")) (aa (fC (.str "corners")) fNil)))) pH) fNil)))))))))))
def m__law_game:=cx sg 10
def dY :Fs:=(aI (kX (fB (ao leI (ao addI aP ah) (ao aO aq Xu))) (iJ 2 (bc (aa aB (aa aP (aa (fC (.str "along")) (aa ah fNil)))))) nxF) (kX (jH (fB (ao leI (ao addI aB ah) (ao aO aq Xt))) (fB (ao gtI ah Xu))) (iJ 2 (bc (aa aB (aa aP (aa (fC (.str "down")) (aa ah fNil)))))) nxF))
def cF :Fs:=(dM (gj (ao aO aq Xu)) (b9 4) (dY ))
def qM :Fs:=(aI (setO 2 (b8 fNil)) (aI (dM (gj (ao aO aq Xt)) (b9 3) (cF )) (yE 2)))
def m__law_ships:=cx (qM ) 5
def dR :Fs:=(iJ 5 (bc (aa (ao addI ah (ao mulI cj (br intD (ao iw aB (fC (.str "down")))))) (aa (ao addI aK (ao mulI cj (br intD (ao iw aB (fC (.str "along")))))) fNil))))
def qF :Fs:=(aI (GS [1,2,3,4] aq) (aI (setO 5 (b8 fNil)) (aI (dM (gj aP) (b9 6) (dR )) (yE 5))))
def m__law_cells:=cx (qF ) 7
def il :Fs:=(Cz Th.h 2 (fC (.bl true)) (bc (aa (ao addI aP cj) (aa (ao addI d6 pH) fNil))))
def cX :Fs:=(dM (kA aB) (oj [6,7]) (il ))
def tI:Fs:=(aI (setM 2 (fC (.mp Th.h [] []))) (aI (setF 3 (b8 (aa (bc (aa Xt (aa Xt fNil))) fNil))) (aI (kX (fB (ao oK aq (fC (.str "free")))) (setF 3 (ao sq aB (b8 (aa (bc (aa Xt (aa Xu fNil))) (aa (bc (aa Xu (aa Xt fNil))) (aa (bc (aa Xt (aa (br iH Xu) fNil))) (aa (bc (aa (br iH Xu) (aa Xt fNil))) fNil))))))) nxF) (aI (kX (fB (ao iw aq (fC (.str "corners")))) (setF 3 (ao sq aB (b8 (aa (bc (aa Xu (aa Xu fNil))) (aa (bc (aa Xu (aa (br iH Xu) fNil))) (aa (bc (aa (br iH Xu) (aa Xu fNil))) (aa (bc (aa (br iH Xu) (aa (br iH Xu) fNil))) fNil))))))) nxF) (aI (dM (kA (λenv=>((aa ah fNil) env).bind m__law_cells)) (oj [4,5]) (cX )) (Cs 2))))))
def m__law_halo:=cx tI 8
def ir :Fs:=(kX (fB (ao (Oq Th.h false) aB aK)) (bY (fC (.bl false))) nxF)
def cZ :Fs:=(dM (kA ah) (b9 3) (ir ))
def sA :Fs:=(aI (dM (kA aq) (b9 2) (cZ )) (bY (fC (.bl true))))
def m__law_free:=cx (sA ) 4
def dO:Fs:=(aI (setF 13 (IC (ao iw aP Xt) (IC (ao oK (ao aO ah (ao subI aP Xu)) d6) (ao MH (ao aO dW (br iH Xu)) (ao aO cj dk))))) (kX (jH (fB Bq) (fB (λenv=>((aa gJ (aa (ao aO jG dk) fNil)) env).bind m__law_free))) (iJ 9 (bc (aa (ao Ad dW (bc (aa (ao aO cj dk) fNil))) (aa (ao sq gJ (b8 (aa (ao aO pH dk) fNil))) fNil)))) nxF))
def dJ:Fs:=(dM (gj (br ck cj)) (b9 12) dO)
def fN:Fs:=(aI (setF 6 (λenv=>((aa aq (aa d6 fNil)) env).bind m__law_ships)) (aI (setF 7 (cq (kA cj) [0] (b9 0) Xy (bj (λenv=>((aa ah (aa aq fNil)) env).bind m__law_halo)) 1 [2])) (aI (setF 8 (cq (kA cj) [0] (b9 0) Xy (bj (λenv=>((aa aq fNil) env).bind m__law_cells)) 1 [])) (aI (setO 9 (b8 fNil)) (aI (dM (kA aB) (oj [10,11]) dJ) (aI (zl 9) (setF 3 eG)))))))
def vi:Fs:=(aI (setF 3 (b8 (aa (bc (aa (bc fNil) (aa (b8 fNil) fNil))) fNil))) (aI (dM (Du ah) (oj [4,5]) fN) (bY (cq (kA aB) [0,1] (oj [0,1]) Xy (bj aq) 2 []))))
def m__law_all:=cx vi 14
def nX:Fs:=(aI (GS [1,2,3] (λenv=>((aa aq fNil) env).bind m__law_game)) (aI (setF 4 (λenv=>((aa ah (aa aK (aa aB fNil))) env).bind m__law_all)) (aI (kX (fB (ao iw aP (b8 fNil))) (aI (setF 2 (bc (aa Xu fNil))) (setF 4 (λenv=>((aa ah (aa aK (aa aB fNil))) env).bind m__law_all))) nxF) (bY (bc (aa ah (aa aK (aa aB (aa aP fNil)))))))))
def m__law_played:=cx nX 5
def vF :Fs:=(aI (GS [1,2,3,4] aq) (aI (kX (fB (ao iw aB (fC (.str "down")))) (bY (cq (gj aP) [0] (b9 0) Xy (bj (bc (aa (ao addI ah aq) (aa aK fNil)))) 1 [1,2])) nxF) (bY (cq (gj aP) [0] (b9 0) Xy (bj (bc (aa ah (aa (ao addI aK aq) fNil)))) 1 [1,2]))))
def m_cells_of:=cx (vF ) 5
def n9:Fs:=(bY (br kW (cq (Md aq) [0] (b9 0) Xy (fy (kA (λenv=>((aa aq fNil) env).bind m_cells_of)) [1] (b9 1) Xy (bj ah)) 2 [])))
def m_lying_cells:=cx n9 1
def n6 :Fs:=(aI (setF 1 (cq (gj (br ck aq)) [0] (b9 0) Xy (fy (gj aq) [1] (b9 1) Xy (bj (bc (aa ah (aa aq fNil))))) 2 [])) (bY (br kW (cq (kA ah) [0,1] (oj [0,1]) (fB (ao iw (ao aO aK aq) (ao aO aK ah))) (bj (bc (aa aq (aa ah fNil)))) 2 [0]))))
def m_alike_pairs:=cx (n6 ) 2
def fm :Fs:=(HQ Th.h 1 (br Ek (cq (Du aq) [0,1] (oj [0,1]) (fB (ao (Dl false) aK ah)) (bj (ao mO Xu aq)) 2 [2])) aK)
def l6 :Fs:=(aI (MS Th.h 1) (aI (dM (kA (vT (kA aq) [0] (b9 0) Xy (fy (kA aq) [1] (b9 1) Xy (oP ah)) 2 [])) (b9 2) (fm )) (aI (zl 1) (bY ah))))
def m_cells_by_lot:=cx (l6 ) 3
def nF :Fs:=(bY (ao maxI (ao aO aK (ao cJ ah aq)) (ao aO aK (ao subI ah (ao cJ ah aq)))))
def m_depth_behind:=cx (nF ) 3
def qr:Fs:=(aI (setF 3 (cq (Oa Th.h ah) [0] (b9 0) (fB (FV ltI ltI Xt (ao cJ ah aq) ah)) (bj aq) 1 [0])) (bY (L8 aB [0,2] (λenv=>((aa aq (aa ah (aa aK fNil))) env).bind m_depth_behind))))
def m_best_shown:=cx qr 4
def cR:Fs:=(kX (Pi (ao cJ aB (ao subI aB Xu))) (xt 2 aB (Ep 2 (ao addI Xu (λenv=>((aa (λenv=>((aa aB (aa aq (aa aK fNil))) env).bind m_best_shown) (aa aB (aa aK fNil))) env).bind m_depth_behind)))) nxF)
def mR:Fs:=(aI (setO 2 (ao Jk (b8 (aa Xt fNil)) (ao mO Xu ah))) (aI (dM (gj (ao mO Xu ah)) (b9 3) cR) (aI (zl 2) (bY aK))))
def m_least_depths:=cx mR 4
def fJ(nR:Xq->Xr):Fs:=(aI (kX (fB (ao iw (ao aO aK aq) Xt)) (bY (bc (aa (fC (.str "known")) (aa (ao subI (br An aq) Xu) fNil)))) nxF) (aI (setF 3 (λenv=>((aa aq (aa ah (aa aK fNil))) env).bind m_best_shown)) (aI (setF 4 (λenv=>((aa (ao subI aq (ao cJ aq aB)) (aa ah (aa aK fNil))) env).bind nR)) (bY (bc (aa (fC (.str "look")) (aa (ao (Co Th.h) ah aB) (aa aP (aa (λenv=>((aa (ao cJ aq aB) (aa ah (aa aK fNil))) env).bind nR) fNil)))))))))
def bu:Nat->Xq->Xr
 | 0=>λ_=>none
 | n+1=>cx (fJ (bu n)) 5
def iI:Xq->Xr:=bu 64
def qj:FsX:=(gE (KS (y6 (fB (FV leI leI Xu (br ck aq) (fC cI)))) (Ag "TooMany" (aa (fC (.str "a plan is told of one to ten hidings")) fNil)) (wA nxF)) (gE (wA (setF 1 (cq (kA aq) [0] (b9 0) Xy (bj (λenv=>((aa aq fNil) env).bind m_lying_cells)) 1 []))) (gE (wA (setF 2 (λenv=>((aa ah fNil) env).bind m_alike_pairs))) (gE (wA (kX (fT aK) (bY (ao Ad (bc (aa (fC (.str "alike")) fNil)) (ao aO aK Xt))) nxF)) (gE (wA (setF 3 (λenv=>((aa ah fNil) env).bind m_cells_by_lot))) (gE (wA (setF 4 (λenv=>((aa aB (aa (br ck ah) fNil)) env).bind m_least_depths))) (wA (bY (bc (aa (fC (.str "plan")) (aa (ao aO aP (br iH Xu)) (aa (λenv=>((aa (ao subI (br ck aP) Xu) (aa aB (aa aP fNil))) env).bind iI) fNil))))))))))))
def m_least_plan:=uY qj 5
def r8:FsX:=(gE (wA (setF 1 (fC .non))) (gE (By cs_ 2 1 (DJ 1 (BG (HI (aa aq fNil)) m_least_plan))) (wA (bY ah))))
def m__law_told:=Ae r8 3
def tM :Fs:=(aI (setF 1 (b8 (aa (fC (.str "hiding")) (aa (fC (.str "number")) (aa (fC (.str "many")) (aa (fC (.str "cell")) (aa (fC (.str "shot")) (aa (fC (.str "nothing")) (aa (fC (.str "counts")) (aa (fC (.str "over")) (aa (fC (.str "text")) (aa (fC (.str "row")) fNil)))))))))))) (bY (ao sq (cq (kA ah) [0] (b9 0) Xy (bj (ao iw aq ah)) 1 [0]) (b8 (aa (fC (.bl true)) fNil)))))
def m__law_only:=cx (tM ) 2
def gg :Fs:=(Cz Th.h 1 (fC (.bl true)) aB)
def dr:Fs:=(dM (kA (λenv=>((aa aK fNil) env).bind m__law_cells)) (b9 3) (gg ))
def ot:Fs:=(aI (setM 1 (fC (.mp Th.h [] []))) (aI (dM (Md aq) (b9 2) dr) (Cs 1)))
def m__law_ground:=cx ot 4
def f':Fs:=(HF 1 (br gC (br (pX Th.h) (λenv=>((aa aK fNil) env).bind m__law_ground))) aK)
def oA:Fs:=(aI (MF 1) (aI (dM (kA aq) (b9 2) f') (aI (zl 1) (bY (cq (Oi ah) [0] (b9 0) Xy (bj (ao yS ah aq)) 1 [1])))))
def m__law_unlike:=cx oA 3
def gL:Fs:=(Ah 2 (ao modI (λenv=>((aa aq (aa (ao addI (ao mulI Xw aB) Xu) fNil)) env).bind m__law_stir) (ao addI aB Xu)) aP)
def rA:Fs:=(aI (setO 2 (b8 fNil)) (aI (dM (Du ah) (oj [3,4]) gL) (yE 2)))
def m__law_order:=cx rA 5
def dF:Fs:=(aI (setF 3 (ao addI Xu (ao modI (λenv=>((aa aq (aa (fC (.int 60)) fNil)) env).bind m__law_stir) aK))) (aI (setF 4 (ao addI Xu (ao modI (λenv=>((aa aq (aa (fC (.int 61)) fNil)) env).bind m__law_stir) (ao maxI Xu (ao fdivI (br ck ah) aB))))) (bY (λenv=>((aa aq (aa (Dq fF (Oe ah (cP (ao modI (λenv=>((aa aq (aa (fC (.int 62)) fNil)) env).bind m__law_stir) (ao maxI Xu (ao fdivI (br ck ah) Xv)))) oNone (cP aP)) oNone (cP aB)) fNil)) env).bind m__law_order))))
def m__law_some_hidings:=cx dF 5
def qi:Fs:=(aI (setF 9 (λenv=>((aa (Dq fF cj oNone (cP jG)) fNil) env).bind m__law_told)) (aI (kX (Dm (fB (ao oK (ao aO eG Xt) (fC (.str "plan")))) (fB (ao ltI (ao mO Xu (ao aO eG Xu)) jG))) (bY (fC (.bl false))) nxF) (iJ 7 (ao aO eG Xu))))
def q8 :Fs:=(kX (fB (ao (Dl true) (ao subI (ao aO (λenv=>kn env 7) dW) (ao aO (λenv=>kn env 7) (ao subI dW Xu))) (bc (aa Xt (aa Xu fNil))))) (bY (fC (.bl false))) nxF)
def qw:Fs:=(aI (GS [2,3,4,5] (λenv=>((aa ah fNil) env).bind m__law_played)) (aI (kX (fB (ao oK (λenv=>((aa (b8 fNil) fNil) env).bind m__law_told) (λenv=>((aa (fC (.str "many")) fNil) env).bind m__law_only))) (bY (fC (.bl false))) nxF) (aI (kX (jH (fB (ao gtI (br ck d6) (fC (.int 10)))) (fB (ao oK (λenv=>((aa (Dq fF d6 oNone (cP (fC (.int 11)))) fNil) env).bind m__law_told) (λenv=>((aa (fC (.str "many")) fNil) env).bind m__law_only)))) (bY (fC (.bl false))) nxF) (aI (setF 6 (λenv=>((aa (λenv=>((aa ah (aa d6 (aa (fC (.int 10)) fNil))) env).bind m__law_some_hidings) fNil) env).bind m__law_unlike)) (aI (setO 7 (b8 fNil)) (aI (dM (z7 Xu (ao addI (br ck cj) Xu)) (b9 8) qi) (aI (dM (z7 Xu (br ck (λenv=>kn env 7))) (b9 10) (q8 )) (aI (setF 11 (λenv=>((aa (λenv=>((aa (ao addI ah Xu) (aa cj fNil)) env).bind m__law_order) fNil) env).bind m__law_told)) (kX (Dm (fB (ao oK (ao aO gJ Xt) (fC (.str "plan")))) (fB (ao oK (ao aO gJ Xu) (ao aO (λenv=>kn env 7) (br iH Xu))))) (bY (fC (.bl false))) nxF)))))))))
def Nj:Fs:=(aI (dM (kA (ao sq (b8 (aa Xt fNil)) (Dq fF aq oNone (cP (fC (.int 6)))))) (b9 1) qw) (bY (fC (.bl true))))
def m_law:=cx Nj 12
end
end K31
namespace K31
open PySem Mi
variable [Th]
theorem qd(c k:Int)(hk:0<=k)(hk2:k<=1000):∃z,m__law_stir [.int c,.int k]=some (.int z):=by
 have p60:powI (.int 10) (.int 60)=some (.int (10 ^ 60)):=qH (rf (by decide) (by decide)) (by decide) (by decide);have QG:(0:Int)<10 ^ 60:=by decide +kernel
 have h1:(c%10 ^ 60).natAbs<=10 ^ 60:=by
  have a:=Uv c (Int.ne_of_gt QG);have b:=TN c QG;have e:(10 ^ 60:Int)=((10 ^ 60:Nat):Int):=by decide +kernel
  lia
 have m1:mulI (.int 7919) (.int k)=some (.int (7919*k)):=nL (by decide) (by decide) (by lia) (by lia);have h2:(c%10 ^ 60+7919*k+1).natAbs<=10 ^ 60+7919001:=by lia
 have m2:mulI (.int (c%10 ^ 60+7919*k+1)) (.int 27182818284590452353602874713527)=some (.int ((c%10 ^ 60+7919*k+1)*27182818284590452353602874713527)):=Fh (mx _ h2) (mx 27182818284590452353602874713527 (by decide));generalize hn:(c%10 ^ 60+7919*k+1)*27182818284590452353602874713527=n at m2;have N7:modI (.int n) (.int 170141183460469231731687303715884105727)=some (.int (n%170141183460469231731687303715884105727)):=iK (by decide);have h3:(n%170141183460469231731687303715884105727).natAbs<=170141183460469231731687303715884105727:=by lia
 generalize n%170141183460469231731687303715884105727=q at N7 h3;have p5:powI (.int q) (.int 5)=some (.int (q ^ 5)):=qH (mx _ h3) (by decide) (by decide);have h4:=FW _ 5 h3;have m3:mulI (.int 48271) (.int k)=some (.int (48271*k)):=nL (by decide) (by decide) (by lia) (by lia);have h5:(q ^ 5+48271*k).natAbs<=170141183460469231731687303715884105727 ^ 5+48271000:=Ff _ _ h4 (by lia);generalize q ^ 5=t at p5 h5;have p3:powI (.int (t+48271*k)) (.int 3)=some (.int ((t+48271*k) ^ 3)):=qH (mx _ h5) (by decide) (by decide);have hmod2:modI (.int ((t+48271*k) ^ 3)) (.int 162259276829213363391578010288127)=some (.int ((t+48271*k) ^ 3%162259276829213363391578010288127)):=iK (by decide);have hd:fdivI (.int ((t+48271*k) ^ 3%162259276829213363391578010288127)) (.int 7)=some (.int ((t+48271*k) ^ 3%162259276829213363391578010288127/7)):=lQ (by decide) (by decide);have hmod0:modI (.int c) (.int (10 ^ 60))=some (.int (c%10 ^ 60)):=iK QG;refine⟨(t+48271*k) ^ 3%162259276829213363391578010288127/7,?_⟩
 .unfold m__law_stir cx kK;simp only[aS,List.map,List.length,List.replicate,Ud,Uw,aI,setF,bY,ao,fC,Jg,Jb,H_,List.set,List.getElem?_cons_zero,List.getElem?_cons_succ,p60,hmod0,m1,gP,m2,N7,p5,m3,p3,hmod2,hd]
theorem Js:∃w,powI (.int 10) (.int 18)=some (.int w):=⟨_,qH (rf (by decide) (by decide)) (by decide) (by decide)⟩
theorem EZ(c q:Int)(ss r:W8)(i:Nat)(s:Int)(N8:ss[i]?=some s)(hpos:0<s/\s<1073741824)(hi:i<1000)(hr:r.length=i) :
  ∃y q',d7 [.F (.int c),.F (.lst (ss.map .int)),.O (.L (r.map .int)),.F (.int q),.F (.int i)]=some (.nx [.F (.int c),.F (.lst (ss.map .int)),.O (.L ((r++[y]).map .int)),.F (.int q'),.F (.int i)])/\0<=y/\y<s:=by
 obtain⟨w,p18⟩:=Js;have Dd:L2.atI (ss.map D.int) (i:Int)=some (.int s):=dP (by rw[m_,N8];rfl);obtain⟨z,hz⟩:=qd c i (by lia) (by lia);have hap:(r.map D.int).length<16000000:=by simp;lia
 have snoc:∀y:Int,(r++[y]).map D.int=r.map D.int++[D.int y]:=λy=>by simp
 have RK:ao aO ah aP [.F (.int c),.F (.lst (ss.map .int)),.O (.L (r.map .int)),.F (.int q),.F (.int i)]=some (.int s):=eD rfl rfl Dd;have t1:fB (ao ltI aq (ao powI (fC (.int 10)) (fC (.int 18)))) [.F (.int c),.F (.lst (ss.map .int)),.O (.L (r.map .int)),.F (.int q),.F (.int i)]=some (decide (c<w)):=ez ((aD rfl ((aD rfl rfl).trans p18)).trans (MW _ _));have t2:fB (ao iw aB Xt) [.F (.int c),.F (.lst (ss.map .int)),.O (.L (r.map .int)),.F (.int q),.F (.int i)]=some (q==0):=ez ((aD rfl rfl).trans (MU _ _));have yf:∀{t:Fb}{g:Fs},t [.F (.int c),.F (.lst (ss.map .int)),.O (.L (r.map .int)),.F (.int q),.F (.int i)]=some true->kX t (iJ 2 (ao modI (λenv=>((aa aq (aa aP fNil)) env).bind m__law_stir) (ao aO ah aP))) g [.F (.int c),.F (.lst (ss.map .int)),.O (.L (r.map .int)),.F (.int q),.F (.int i)]=some (.nx [.F (.int c),.F (.lst (ss.map .int)),.O (.L ((r++[z%s]).map .int)),.F (.int q),.F (.int i)]):=λht=>by
  rw[snoc];exact(eC ht).trans ((kY rfl ((aD ((call_v (aj rfl (aj rfl aN))).trans hz) RK).trans (iK hpos.1)) hap))
 by_cases h1:c<w
 .rw[w_ h1]at t1;exact⟨z%s,q,yf (LG t1),Uv _ (by lia),TN _ hpos.1⟩
 .rw[E_ h1]at t1
  by_cases h2:q=0
  .rw[show(q==0)=true by simp[h2]]at t2;exact⟨z%s,q,yf ((xJ t1).trans t2),Uv _ (by lia),TN _ hpos.1⟩
  .rw[show(q==0)=false by simp[h2]]at t2;refine⟨q%s,q/s,?_,Uv _ (by lia),TN _ hpos.1⟩;rw[snoc];refine(bO ((xJ t1).trans t2)).trans ((aw (kY rfl ((aD rfl RK).trans (iK hpos.1)) hap)).trans (a7 ((aD rfl (eD rfl rfl Dd)).trans (lQ hpos.1 hpos.2))))
theorem zU(c:Int)(ss:W8)(hs:∀x∈ss,0<x/\x<1073741824)(hl:ss.length<=1000) :
  ∃r:W8,m__law_drawn [.int c,.lst (ss.map .int)]=some (.lst (r.map .int))/\r.length=ss.length/\∀(i:Nat)(x s:Int),r[i]?=some x->ss[i]?=some s->0<=x/\x<s:=by
 let I:Nat->En->Prop:=λn env=>∃(r:W8)(q:Int)(s4:Slot),env=[.F (.int c),.F (.lst (ss.map .int)),.O (.L (r.map .int)),.F (.int q),s4]/\r.length=n/\∀(i:Nat)(x s:Int),r[i]?=some x->ss[i]?=some s->0<=x/\x<s
 have hrl:(aG 0 ss.length).length=ss.length:=by simp[aG]
 obtain⟨e2,h1,r,q,s4,he,hr,hx⟩:=bR (t:=b9 4) (body:=d7) I (aG 0 ss.length) 0 [.F (.int c),.F (.lst (ss.map .int)),.O (.L []),.F (.int c),.un] ⟨[],c,.un,rfl,rfl,λi x s h=>by simp at h⟩ λi d e hd aC=>by
   obtain⟨r,q,s4,he,hr,hx⟩:=aC;subst he;obtain⟨rfl,hi⟩:=wI hd;obtain⟨s,N8⟩:∃s,ss[i]?=some s:=⟨ss[i],f_ hi⟩;have hpos:=hs s (R_ N8);obtain⟨y,q',h2,h3,h4⟩:=EZ c q ss r i s N8 hpos (by lia) (by lia);refine⟨_,h2,r++[y],q',_,rfl,by simp;lia,λj x s' jJ hsj=>?_⟩
   by_cases hj:j<r.length
   .rw[I_ hj]at jJ;exact hx j x s' jJ hsj
   .rw[G_ (by lia)]at jJ;have hj0:j-r.length=0:=by
     have:=(i_.mp jJ).1;simp at this
     lia
    rw[hj0]at jJ;cases jJ;rw[show j=i by lia,N8]at hsj;cases hsj;exact⟨h3,h4⟩
 subst he;rw[hrl]at hr;refine⟨r,?_,by lia,hx⟩;have hit:gj (br ck ah) [.F (.int c),.F (.lst (ss.map .int)),.O (.L []),.F (.int c),.un]=some (aG 0 ss.length):=by
  rw[<- c_ (f:=D.int) (as:=ss)];exact fO (gf rfl) (by rw[c_];lia)
 exact bw ((aw rfl).trans ((aw rfl).trans ((aw ((bX hit).trans h1)).trans rfl)))
abbrev rG:Str:="along"
abbrev sDn:Str:="down"
abbrev K5:Str:="free"
abbrev K0:Str:="sides"
abbrev Oc:Str:="corners"
def dX(r:Str):Prop:=r=K5\/r=K0\/r=Oc
structure Sh where
 a:Int
 b:Int
 dn:Bool
 n:Nat
 deriving DecidableEq
def Sh.w(s:Sh):Str:=if s.dn=true then sDn else rG
def Sh.d(s:Sh):D:=.tup [.int s.a,.int s.b,.str s.w,.int s.n]
def Sh.at(s:Sh)(i:Int):W9:=if s.dn=true then(s.a+i,s.b)else(s.a,s.b+i)
def Sh.cs(s:Sh):WY:=(List.range s.n).map λ(i:Nat)=>s.at i
def cel(p:W9):D:=.tup [.int p.1,.int p.2]
theorem w8(n:Nat):(aG 0 n).map g=(List.range n).map λ(i:Nat)=>g (.int i):=by
 unfold aG;simp[SO,Function.comp_def]
theorem sE(n:Nat):(aG 0 n).flatMap g=(List.range n).flatMap λ(i:Nat)=>g (.int i):=by
 unfold aG;rw[List.flatMap_map];simp
theorem Hi:∀(ds:Xq),(ds.flatMap λd=>[g d])=ds.map g
 | []=>rfl
 | d::ds=>by rw[Uz,Hi ds];rfl
theorem vp(h1:fi env=some ds)(h2:dB is env=true)(h3:jN t c k env ds=some xs):fy fi is t c k env=some xs:=by
 unfold fy;rw[h1];show(if dB is env=true then _ else _)=_;rw[j_ h2,h3]
def Om(s:Sh):D->D
 | .int i=>cel (s.at i)
 | _=>.non
theorem vR(s:Sh):(aG 0 s.n).map (Om s)=s.cs.map cel:=by
 rw[w8];unfold Sh.cs;rw[SO];rfl
theorem uU(s:Sh):s.cs.length=s.n:=by unfold Sh.cs;simp
theorem IT(s:Sh)(s0:Slot)(i:Nat)(hi:i<1000)(acc:Xq)(hl:acc.length<16000) :
  dR [s0,.F (.int s.a),.F (.int s.b),.F (.str s.w),.F (.int s.n),.O (.L acc),.F (.int i)]=some (.nx [s0,.F (.int s.a),.F (.int s.b),.F (.str s.w),.F (.int s.n),.O (.L (acc++[cel (s.at i)])),.F (.int i)]):=by
 obtain⟨a,b,dn,n⟩:=s;have m0:mulI (.int i) (.int 0)=some (.int 0):=by rw[nL (by lia) (by lia) (by decide) (by decide),Int.mul_zero]
 have m1:mulI (.int i) (.int 1)=some (.int i):=by rw[nL (by lia) (by lia) (by decide) (by decide),Int.mul_one]
 cases dn
 .have e0:br intD (ao iw aB (fC (.str "down"))) [s0,.F (.int a),.F (.int b),.F (.str rG),.F (.int n),.O (.L acc),.F (.int i)]=some (.int 0):=rfl;have e1:br intD (ao iw aB (fC (.str "along"))) [s0,.F (.int a),.F (.int b),.F (.str rG),.F (.int n),.O (.L acc),.F (.int i)]=some (.int 1):=rfl;refine kY (d:=cel (a,b+i)) rfl (kQ (aj ((aD (y:=.int 0) rfl ((aD rfl e0).trans m0)).trans ?_) (aj ((aD (y:=.int i) rfl ((aD rfl e1).trans m1)).trans (gP _ _)) aN))) (by lia);rw[gP,Int.add_zero]
 .have e0:br intD (ao iw aB (fC (.str "along"))) [s0,.F (.int a),.F (.int b),.F (.str sDn),.F (.int n),.O (.L acc),.F (.int i)]=some (.int 0):=rfl;have e1:br intD (ao iw aB (fC (.str "down"))) [s0,.F (.int a),.F (.int b),.F (.str sDn),.F (.int n),.O (.L acc),.F (.int i)]=some (.int 1):=rfl;refine kY (d:=cel (a+i,b)) rfl (kQ (aj ((aD (y:=.int i) rfl ((aD rfl e1).trans m1)).trans (gP _ _)) (aj ((aD (y:=.int 0) rfl ((aD rfl e0).trans m0)).trans ?_) aN))) (by lia);rw[gP,Int.add_zero]
theorem l8(s:Sh)(hn:s.n<=1000):m__law_cells [s.d]=some (.lst (s.cs.map cel)):=by
 obtain⟨e2,h1,s6,h2⟩:=jf (t:=b9 6) (body:=dR) (λacc e=>∃s6,e=[.F s.d,.F (.int s.a),.F (.int s.b),.F (.str s.w),.F (.int s.n),.O (.L acc),s6]) (λd=>[Om s d]) 1 8000 (aG 0 s.n) [] [.F s.d,.F (.int s.a),.F (.int s.b),.F (.str s.w),.F (.int s.n),.O (.L []),.un] ⟨_,rfl⟩ (by rw[lR,TM];lia) λd hd=>⟨h_ _,λacc e ⟨s6,he⟩ hl=>by
  subst he;obtain⟨i,hi,rfl⟩:=ja.mp hd;exact⟨_,IT s (.F s.d) i (by lia) acc (by lia),_,rfl⟩⟩
 subst h2;rw[Hi,vR,Uw]at h1;exact bw ((aw (xW (ds:=[.int s.a,.int s.b,.str s.w,.int s.n]) rfl rfl)).trans ((aw (kB rfl)).trans ((aw ((bX (fO (n:=s.n) rfl (by lia))).trans h1)).trans rfl)))
theorem vL(s:Sh)(hn:s.n<=1000):m_cells_of [s.d]=some (.lst (s.cs.map cel)):=by
 have hl:(s.cs.map cel).length<=16000000:=by rw[c_];unfold Sh.cs;simp;lia
 have hit:gj aP [.F s.d,.F (.int s.a),.F (.int s.b),.F (.str s.w),.F (.int s.n)]=some (aG 0 s.n):=fO (n:=s.n) rfl (by lia);refine bw ((aw (xW (ds:=[.int s.a,.int s.b,.str s.w,.int s.n]) rfl rfl)).trans ?_);show aI _ _ [.F s.d,.F (.int s.a),.F (.int s.b),.F (.str s.w),.F (.int s.n)]=_;obtain⟨a,b,dn,n⟩:=s;cases dn
 .have e0:fB (ao iw aB (fC (.str "down"))) [.F (Sh.d ⟨a,b,false,n⟩),.F (.int a),.F (.int b),.F (.str rG),.F (.int n)]=some false:=rfl;refine(aw ((bO e0).trans rfl)).trans (eg (dA hit rfl ?_ hl));rw[<- vR];refine wB (Om ⟨a,b,false,n⟩) _ λd hd=>?_;obtain⟨i,hi,rfl⟩:=ja.mp hd;exact⟨_,rfl,rfl⟩
 .have e0:fB (ao iw aB (fC (.str "down"))) [.F (Sh.d ⟨a,b,true,n⟩),.F (.int a),.F (.int b),.F (.str sDn),.F (.int n)]=some true:=rfl;refine uG ((eC e0).trans (eg (dA hit rfl ?_ hl)));rw[<- vR];refine wB (Om ⟨a,b,true,n⟩) _ λd hd=>?_;obtain⟨i,hi,rfl⟩:=ja.mp hd;exact⟨_,rfl,rfl⟩
def dm(p:W9):List L2.Key:=[.inl p.1,.inl p.2]
theorem Ci(h:dm p=dm q):p=q:=by
 unfold dm at h;obtain⟨a,b⟩:=p;obtain⟨c,d⟩:=q;simp only[List.cons.injEq,Sum.inl.injEq,and_true]at h;rw[h.1,h.2]
theorem gv{L:WY}{p:W9}:dm p∈L.map dm↔p∈L:=⟨λh=>by obtain⟨q,hq,e⟩:=y_.mp h;exact Ci e▸hq,SW⟩
def qS(ks:WY):rM:=.M Th.h (ks.map dm) (ks.map λ_=>.bl true)
def du(ks:WY):D:=.mp Th.h (ks.map dm) (ks.map λ_=>.bl true)
def LC:List L2.Key->Option W9
 | [.inl a,.inl b]=>some (a,b)
 | _=>none
def IW:D->WY
 | .mp _ ks _=>ks.filterMap LC
 | _=>[]
theorem vQ:∀ks:WY,IW (du ks)=ks:=λks=>by
 show(ks.map dm).filterMap LC=ks;rw[List.filterMap_map];exact List.filterMap_some
theorem xN(q:List L2.Key)(x:D):∀ks:WY,cf (ks.map dm) (ks.map λ_=>x) q x=ks.map λ_=>x
 | []=>rfl
 | k::ks=>by
  show(if dm k=q then x else x)::cf (ks.map dm) (ks.map λ_=>x) q x=_;rw[xN q x ks,ite_self];rfl
theorem wJ(ks:WY)(p q:W9):q∈ie ks p↔q∈ks\/q=p:=by
 unfold ie
 split
 .rename_i h;exact⟨λz=>.inl z,λz=>z.elim id λe=>e▸h⟩
 .simp
theorem wY(ks:WY)(p:W9):(ie ks p).length<=ks.length+1:=by
 unfold ie;split<;>simp
open Classical in
theorem Hf{i:Nat}{fk:Fe}{env:En}{ks:WY}{a b:Int}(h:fk env=some (.tup [.int a,.int b]))(h1:env[i]?=some (.O (qS ks)))(hl:ks.length<16000000):Cz Th.h i (fC (.bl true)) fk env=some (.nx (env.set i (.O (qS (ie ks (a,b)))))):=by
 have e:rM.M Th.h (uw (ks.map dm) (dm (a,b))) (ux (ks.map dm) (ks.map λ_=>D.bl true) (dm (a,b)) (.bl true))=qS (ie ks (a,b)):=by
  unfold uw ux ie qS
  by_cases hm:(a,b)∈ks
  .rw[j_ (gv.mpr hm),j_ (gv.mpr hm),j_ hm,xN]
  .rw[k_ (λz=>hm (gv.mp z)),k_ (λz=>hm (gv.mp z)),k_ hm,O_,O_];rfl
 rw[<- e];unfold Cz;rw[show fC (.bl true) env=some (D.bl true)from rfl,H_,h,H_,show E7 (.tup [.int a,.int b])=some (dm (a,b))from rfl,H_,h1];show(if Th.h=Th.h/\(ks.map dm).length<16000000 then _ else _)=_;rw[j_ ⟨rfl,by rw[c_];exact hl⟩]
def plus(p q:W9):W9:=(p.1+q.1,p.2+q.2)
theorem MM(s0 s1 s6 s7:Slot)(st:WY)(hst:st.length<=9)(p:W9)(ks:WY)(hk:ks.length<=15000) :
  ∃gq KJ KL,cX [s0,s1,.O (qS ks),.F (.lst (st.map cel)),.F (.int p.1),.F (.int p.2),s6,s7]=some (.nx [s0,s1,.O (qS gq),.F (.lst (st.map cel)),.F (.int p.1),.F (.int p.2),KJ,KL])/\gq.length<=ks.length+9/\∀q,q∈gq↔q∈ks\/∃t∈st,q=plus p t:=by
 obtain⟨e2,h1,gq,KJ,KL,h2,h3,h4⟩:=bR (t:=oj [6,7]) (body:=il) (λj e=>∃gq KJ KL,e=[s0,s1,.O (qS gq),.F (.lst (st.map cel)),.F (.int p.1),.F (.int p.2),KJ,KL]/\gq.length<=ks.length+j/\∀q,q∈gq↔q∈ks\/∃t∈st.take j,q=plus p t) (st.map cel) 0 _ ⟨ks,s6,s7,rfl,by lia,λq=>by simp⟩ λi d e hd aC=>by
  obtain⟨gq,KJ,KL,he,h3,h4⟩:=aC;subst he;rw[m_]at hd;obtain⟨q,hq,rfl⟩:=D_.mp hd;have hi:=(i_.mp hq).1;have u3:=wY gq (p.1+q.1,p.2+q.2);refine⟨_,eQ (e0:=[s0,s1,.O (qS gq),.F (.lst (st.map cel)),.F (.int p.1),.F (.int p.2),.F (.int q.1),.F (.int q.2)]) rfl (Hf (ks:=gq) (a:=p.1+q.1) (b:=p.2+q.2) rfl rfl (by lia)),_,_,_,rfl,by lia,λx=>?_⟩;rw[wJ,h4,Ss,UA,hq];simp only[Wr,Su,s_];constructor
  .rintro((h | ⟨t,ht,e⟩) | e)
   .exact .inl h
   .exact .inr ⟨t,.inl ht,e⟩
   .exact .inr ⟨q,.inr rfl,e⟩
  .rintro(h | ⟨t,ht | rfl,e⟩)
   .exact .inl (.inl h)
   .exact .inl (.inr ⟨t,ht,e⟩)
   .exact .inr e
 subst h2;rw[c_,Ss]at h3 h4;rw[Td]at h4;exact⟨gq,KJ,KL,(bX (cQ rfl)).trans h1,by lia,h4⟩
theorem ki(s:Sh)(hn:s.n<=1000)(r:D)(st:WY)(hst:st.length<=9) :
  ∃ks,aI (dM (kA (λenv=>((aa ah fNil) env).bind m__law_cells)) (oj [4,5]) (cX )) (Cs 2) [.F r,.F s.d,.O (qS []),.F (.lst (st.map cel)),.un,.un,.un,.un]=some (.rt (du ks))/\∀q,q∈ks↔∃p∈s.cs,∃t∈st,q=plus p t:=by
 have hlen:=uU s;obtain⟨e2,h1,ks,s4,s5,s6,s7,h2,h3,h4⟩:=bR (t:=oj [4,5]) (body:=cX) (λj e=>∃ks s4 s5 s6 s7,e=[.F r,.F s.d,.O (qS ks),.F (.lst (st.map cel)),s4,s5,s6,s7]/\ks.length<=9*j/\∀q,q∈ks↔∃p∈s.cs.take j,∃t∈st,q=plus p t) (s.cs.map cel) 0 _ ⟨[],.un,.un,.un,.un,rfl,by simp,λq=>by simp⟩ λi d e hd aC=>by
  obtain⟨ks,s4,s5,s6,s7,he,h3,h4⟩:=aC;subst he;rw[m_]at hd;obtain⟨q,hq,rfl⟩:=D_.mp hd;have hi:=(i_.mp hq).1;obtain⟨gq,KJ,KL,u1,u2,u3⟩:=MM (.F r) (.F s.d) s6 s7 st hst q ks (by lia);refine⟨_,eQ (e0:=[.F r,.F s.d,.O (qS ks),.F (.lst (st.map cel)),.F (.int q.1),.F (.int q.2),s6,s7]) rfl u1,gq,_,_,_,_,rfl,by lia,λx=>?_⟩;rw[u3,h4,Ss,UA,hq];simp only[Wr,Su,s_];constructor
  .rintro(⟨p,hp,t,ht,e⟩ | ⟨t,ht,e⟩)
   .exact⟨p,.inl hp,t,ht,e⟩
   .exact⟨q,.inr rfl,t,ht,e⟩
  .rintro⟨p,hp | rfl,t,ht,e⟩
   .exact .inl ⟨p,hp,t,ht,e⟩
   .exact .inr ⟨t,ht,e⟩
 subst h2;rw[c_,Ss]at h4;rw[Td]at h4;exact⟨ks,(aw ((bX (cQ ((call_v (aj rfl aN)).trans (l8 s hn)))).trans h1)).trans rfl,h4⟩
def steps(r:Str):WY:=
 if r=K5 then [(0,0)]else if r=K0 then [(0,0),(0,1),(1,0),(0,-1),(-1,0)]else [(0,0),(0,1),(1,0),(0,-1),(-1,0),(1,1),(1,-1),(-1,1),(-1,-1)]
theorem nr:steps K5=[(0,0)]:=by unfold steps;rw[j_ rfl]
theorem l9:steps K0=[(0,0),(0,1),(1,0),(0,-1),(-1,0)]:=by unfold steps;rw[k_ (by decide),j_ rfl]
theorem mP:steps Oc=[(0,0),(0,1),(1,0),(0,-1),(-1,0),(1,1),(1,-1),(-1,1),(-1,-1)]:=by unfold steps;rw[k_ (by decide),k_ (by decide)]
theorem FM(s:Sh)(hn:s.n<=1000)(r:Str)(hr:dX r):∃ks,m__law_halo [.str r,s.d]=some (du ks)/\∀q,q∈ks↔∃p∈s.cs,∃t∈steps r,q=plus p t:=by
 rcases hr with rfl | rfl | rfl
 .obtain⟨ks,h1,h2⟩:=ki s hn (.str K5) [(0,0)] (by decide);exact⟨ks,bw ((aw rfl).trans ((aw rfl).trans ((aw ((bO rfl).trans rfl)).trans ((aw ((bO rfl).trans rfl)).trans h1)))),by rw[nr];exact h2⟩
 .obtain⟨ks,h1,h2⟩:=ki s hn (.str K0) [(0,0),(0,1),(1,0),(0,-1),(-1,0)] (by decide);exact⟨ks,bw ((aw rfl).trans ((aw rfl).trans ((aw ((eC rfl).trans rfl)).trans ((aw ((bO rfl).trans rfl)).trans h1)))),by rw[l9];exact h2⟩
 .obtain⟨ks,h1,h2⟩:=ki s hn (.str Oc) [(0,0),(0,1),(1,0),(0,-1),(-1,0),(1,1),(1,-1),(-1,1),(-1,-1)] (by decide);exact⟨ks,bw ((aw rfl).trans ((aw rfl).trans ((aw ((eC rfl).trans rfl)).trans ((aw ((eC rfl).trans rfl)).trans h1)))),by rw[mP];exact h2⟩
abbrev qk(a b:Int)(w:Str)(l:Int):D:=.tup [.int a,.int b,.str w,.int l]
def gS(r c l:Int):D->D->Xq
 | .int a,.int b=>(if b+l<=c then [qk a b rG l]else [])++(if a+l<=r/\1<l then [qk a b sDn l]else [])
 | _,_=>[]
theorem Bk(r c l:Int)(x y:D):(gS r c l x y).length<=2:=by
 unfold gS
 split
 .rw[r_];split<;>split<;>simp
 .simp
abbrev eS(r c l:Int)(acc:Xq)(s3 s4:Slot):En:=[.F (.tup [.int r,.int c]),.F (.int l),.O (.L acc),s3,s4]
theorem yV(r c l a b:Int)(acc:Xq)(h:acc.length+2<=16000):dY (eS r c l acc (.F (.int a)) (.F (.int b)))=some (.nx (eS r c l (acc++gS r c l (.int a) (.int b)) (.F (.int a)) (.F (.int b)))):=by
 have p1:∀cW:Xq,cW.length<16000->iJ 2 (bc (aa aB (aa aP (aa (fC (.str "along")) (aa ah fNil))))) (eS r c l cW (.F (.int a)) (.F (.int b)))=some (.nx (eS r c l (cW++[qk a b rG l]) (.F (.int a)) (.F (.int b)))):=λcW h'=>kY rfl rfl (by lia);have p2:∀cW:Xq,cW.length<16000->iJ 2 (bc (aa aB (aa aP (aa (fC (.str "down")) (aa ah fNil))))) (eS r c l cW (.F (.int a)) (.F (.int b)))=some (.nx (eS r c l (cW++[qk a b sDn l]) (.F (.int a)) (.F (.int b)))):=λcW h'=>kY rfl rfl (by lia);have t1:∀cW:Xq,fB (ao leI (ao addI aP ah) (ao aO aq Xu)) (eS r c l cW (.F (.int a)) (.F (.int b)))=some (decide (b+l<=c)):=λ_=>rfl;have t2:∀cW:Xq,jH (fB (ao leI (ao addI aB ah) (ao aO aq Xt))) (fB (ao gtI ah Xu)) (eS r c l cW (.F (.int a)) (.F (.int b)))=some (decide (a+l<=r)&&decide (1<l)):=λcW=>
  Ai (show _=some (decide (a+l<=r))from rfl) λ_=>(show _=some (decide (1<l))from rfl)
 have Hy:∀cW:Xq,cW.length<16000->(kX (jH (fB (ao leI (ao addI aB ah) (ao aO aq Xt))) (fB (ao gtI ah Xu))) (iJ 2 (bc (aa aB (aa aP (aa (fC (.str "down")) (aa ah fNil)))))) nxF) (eS r c l cW (.F (.int a)) (.F (.int b)))=some (.nx (eS r c l (cW++(if a+l<=r/\1<l then [qk a b sDn l]else [])) (.F (.int a)) (.F (.int b)))):=λcW h'=>by
  by_cases hh:a+l<=r/\1<l
  .rw[j_ hh];exact(eC ((t2 cW).trans (by rw[w_ hh.1,w_ hh.2];rfl))).trans (p2 cW h')
  .rw[k_ hh,SG];refine(bO ((t2 cW).trans ?_)).trans rfl;congr 1;rw[VC];intro e;simp only[F_,C_]at e;exact hh e
 show aI _ _ _=_;show _=some (Out.nx (eS r c l (acc++((if b+l<=c then [qk a b rG l]else [])++(if a+l<=r/\1<l then [qk a b sDn l]else []))) (.F (.int a)) (.F (.int b))));rw[<- T4]
 by_cases h1:b+l<=c
 .rw[j_ h1];exact(aw ((eC ((t1 acc).trans (by rw[w_ h1]))).trans (p1 acc (by lia)))).trans (Hy _ (by simp;lia))
 .rw[k_ h1,SG];exact(aw ((bO ((t1 acc).trans (by rw[E_ h1]))).trans rfl)).trans (Hy _ (by lia))
def Ie(r c l:Int)(R C:Nat):Xq:=(aG 0 R).flatMap λx=>(aG 0 C).flatMap λy=>gS r c l x y
theorem CH(R C:Nat)(hR:R<=60)(hC:C<=60)(l:Int):m__law_ships [.tup [.int R,.int C],.int l]=some (.lst (Ie R C l R C)):=by
 have inner:∀(a:Nat)(acc:Xq)(s4:Slot),acc.length+2*C<=8000->∃RL,cF (eS R C l acc (.F (.int a)) s4)=some (.nx (eS R C l (acc++(aG 0 C).flatMap λy=>gS R C l (.int a) y) (.F (.int a)) RL)):=λa acc s4 hl=>by
  obtain⟨e2,h1,s,h2⟩:=jf (t:=b9 4) (body:=dY) (λacc e=>∃s,e=eS R C l acc (.F (.int a)) s) (λy=>gS R C l (.int a) y) 2 8000 (aG 0 C) acc (eS R C l acc (.F (.int a)) s4) ⟨_,rfl⟩ (by rw[lR];lia) λd hd=>⟨Bk ..,λcW e ⟨s,he⟩ Dk=>by
   subst he;obtain⟨i,hi,rfl⟩:=ja.mp hd;exact⟨_,yV R C l a i cW (by lia),_,rfl⟩⟩
  subst h2;refine⟨s,?_⟩;unfold cF;have hi:ao aO aq Xu (eS R C l acc (.F (.int a)) s4)=some (.int (C:Int)):=rfl;rw[bX (fO hi (by lia))];exact h1
 have hbd:([]:Xq).length+2*C*(aG 0 R).length<=8000:=by
  have h1:=Ws (Ws (h_ 2) hC) hR;rw[lR,TM,Ss];exact B_ h1 (by decide)
 obtain⟨e2,h1,s3,s4,h2⟩:=jf (t:=b9 3) (body:=cF) (λacc e=>∃s3 s4,e=eS R C l acc s3 s4) (λx=>(aG 0 C).flatMap λy=>gS R C l x y) (2*C) 8000 (aG 0 R) [] (eS R C l [] .un .un) ⟨_,_,rfl⟩ hbd λd hd=>⟨by have:=rT (g:=λy=>gS R C l d y) (B:=2) (aG 0 C) (λy _=>Bk ..);rw[lR]at this;exact this,λcW e ⟨s3,s4,he⟩ Dk=>by
   subst he;obtain⟨i,hi,rfl⟩:=ja.mp hd;obtain⟨RL,h⟩:=inner i cW s4 Dk;exact⟨_,eQ (e0:=eS R C l cW (.F (.int i)) s4) rfl h,_,_,rfl⟩⟩
 subst h2;exact bw ((aw (kB rfl)).trans ((aw ((bX (fO (n:=R) rfl (by lia))).trans h1)).trans rfl))
def atS(R C l a b:Nat):List Sh:=(if(b:Int)+l<=C then [⟨a,b,false,l⟩]else [])++(if(a:Int)+l<=R/\1<l then [⟨a,b,true,l⟩]else [])
def dZ(R C l:Nat):List Sh:=(List.range R).flatMap λa=>(List.range C).flatMap λb=>atS R C l a b
theorem LX(R C l a b:Nat):gS R C l (.int a) (.int b)=(atS R C l a b).map Sh.d:=by
 show(if(b:Int)+l<=C then [qk a b rG l]else [])++(if(a:Int)+l<=R/\(1:Int)<l then [qk a b sDn l]else [])=_;unfold atS;rw[O_];congr 1
 .split<;>rfl
 .by_cases h:(a:Int)+l<=R/\1<l
  .rw[j_ h,j_ ⟨h.1,by lia⟩];rfl
  .rw[k_ h,k_ (λz=>h ⟨z.1,by lia⟩)];rfl
theorem EN(R C l:Nat):Ie R C l R C=(dZ R C l).map Sh.d:=by
 unfold Ie dZ;rw[sE,U_];congr 1;funext a;rw[sE,U_];congr 1;funext b;exact LX R C l a b
theorem ED(h:s∈atS R C l a b):s.a=a/\s.b=b/\s.n=l/\(s.dn=false->(b:Int)+l<=C)/\(s.dn=true->(a:Int)+l<=R/\1<l):=by
 unfold atS at h;rcases Su.mp h with h | h
 .split at h
  .rename_i hc;cases s_.mp h;exact⟨rfl,rfl,rfl,λ_=>hc,λz=>by cases z⟩
  .cases h
 .split at h
  .rename_i hc;cases s_.mp h;exact⟨rfl,rfl,rfl,λz=>(by cases z),λ_=>hc⟩
  .cases h
theorem ky:s∈dZ R C l↔(∃a b:Nat,s.a=a/\s.b=b/\a<R/\b<C)/\s.n=l/\(s.dn=false->s.b+l<=C)/\(s.dn=true->s.a+l<=R/\1<l):=by
 unfold dZ;simp only[Ug,SA];constructor
 .rintro⟨a,ha,b,hb,h⟩;obtain⟨h1,h2,h3,h4,h5⟩:=ED h;rw[h1,h2];exact⟨⟨a,b,rfl,rfl,ha,hb⟩,h3,h4,h5⟩
 .rintro⟨⟨a,b,h1,h2,ha,hb⟩,h3,h4,h5⟩;refine⟨a,ha,b,hb,?_⟩;obtain⟨sa,sb,dn,n⟩:=s;simp only at h1 h2 h3 h4 h5;subst h1 h2 h3;unfold atS;cases dn
  .rw[j_ (h4 rfl)];simp
  .rw[j_ (h5 rfl)];simp
theorem F0(R C l a b:Nat):(atS R C l a b).length<=2:=by
 unfold atS;rw[r_];split<;>split<;>simp
theorem lA{α β:Type}{g:α->List β}{B:Nat}:∀(ds:List α),(∀d∈ds,(g d).length<=B)->(ds.flatMap g).length<=B*ds.length
 | [],_=>by simp
 | d::ds,h=>by
  rw[Uz,r_,A_,WI];have:=h d o_;have:=lA ds λx hx=>h x (l_ _ hx)
  lia
theorem yk(R C l:Nat):(dZ R C l).length<=2*C*R:=by
 have h:=lA (g:=λa=>(List.range C).flatMap λb=>atS R C l a b) (B:=2*C) (List.range R) λa _=>by
  have:=lA (g:=λb=>atS R C l a b) (B:=2) (List.range C) (λb _=>F0 ..);rwa [T6]at this
 rwa [T6]at h
theorem yn(R C:Nat)(hR:R<=60)(hC:C<=60)(l:Nat):m__law_ships [.tup [.int R,.int C],.int l]=some (.lst ((dZ R C l).map Sh.d)):=by
 rw[CH R C hR hC l,EN]
def Sh.ks(s:Sh):List L2.Key:=[.inl s.a,.inl s.b,.inr s.w,.inl s.n]
def Dt(s t:Sh):Prop:=s.a<t.a\/(s.a=t.a/\(s.b<t.b\/(s.b=t.b/\((s.dn=false/\t.dn=true)\/(s.dn=t.dn/\s.n<t.n)))))
theorem Pc:Do (.inr rG) (.inr sDn)=some true:=by
 show some (decide (rG.cps.toList<sDn.cps.toList))=_;rw[show decide (rG.cps.toList<sDn.cps.toList)=true by decide +kernel]
theorem Po:Do (.inr sDn) (.inr rG)=some false:=by
 show some (decide (sDn.cps.toList<rG.cps.toList))=_;rw[show decide (sDn.cps.toList<rG.cps.toList)=false by decide +kernel]
theorem Q3:(Sum.inr rG:L2.Key)≠.inr sDn:=λh=>absurd (Sum.inr.inj h) (by decide)
theorem mW(x y:L2.Key)(xs ys:List L2.Key):dH (x::xs) (y::ys)=if x=y then dH xs ys else Do x y:=rfl
theorem sG(n n':Nat):dH [.inl (n:Int)] [.inl (n':Int)]=some (decide (n<n')):=by
 rw[mW]
 by_cases h3:n=n'
 .subst h3;rw[j_ rfl];simp[dH]
 .rw[k_ (λz=>h3 (by have:=Sum.inl.inj z;lia))];show some (decide ((n:Int)<n'))=_;simp
theorem FA(a b a' b':Int)(xs ys:List L2.Key)(q:Bool)(h:dH xs ys=some q):∃r,dH (.inl a::.inl b::xs) (.inl a'::.inl b'::ys)=some r/\(r=true↔a<a'\/(a=a'/\(b<b'\/(b=b'/\q=true)))):=by
 rw[mW]
 by_cases h1:a=a'
 .subst h1;rw[j_ rfl,mW]
  by_cases h2:b=b'
  .subst h2;rw[j_ rfl];exact⟨q,h,by simp⟩
  .rw[k_ (λz=>h2 (Sum.inl.inj z))];refine⟨decide (b<b'),rfl,?_⟩;rw[C_];constructor
   .intro h;exact .inr ⟨rfl,.inl h⟩
   .rintro(h | ⟨_,h | ⟨h,_⟩⟩)
    .lia
    .exact h
    .exact absurd h h2
 .rw[k_ (λz=>h1 (Sum.inl.inj z))];refine⟨decide (a<a'),rfl,?_⟩;rw[C_];constructor
  .intro h;exact .inl h
  .rintro(h | ⟨h,_⟩)
   .exact h
   .exact absurd h h1
theorem LH(x y:Bool)(n n':Nat):∃q,dH [.inr (if x=true then sDn else rG),.inl (n:Int)] [.inr (if y=true then sDn else rG),.inl (n':Int)]=some q/\(q=true↔(x=false/\y=true)\/(x=y/\n<n')):=by
 cases x<;>cases y
 .exact⟨decide (n<n'),(by rw[mW,j_ rfl,sG]),by simp⟩
 .exact⟨true,(by show dH [.inr rG,_] [.inr sDn,_]=_;rw[mW,k_ Q3];exact Pc),by simp⟩
 .exact⟨false,(by show dH [.inr sDn,_] [.inr rG,_]=_;rw[mW,k_ (Tj Q3)];exact Po),by simp⟩
 .exact⟨decide (n<n'),(by rw[mW,j_ rfl,sG]),by simp⟩
theorem Jq(s t:Sh):∃q,dH s.ks t.ks=some q/\(q=true↔Dt s t):=by
 obtain⟨q,h1,h2⟩:=LH s.dn t.dn s.n t.n;obtain⟨r,h3,h4⟩:=FA s.a s.b t.a t.b _ _ q h1;exact⟨r,h3,by rw[h4,h2];rfl⟩
theorem nK:∀(ps:WY),kE (ps.map cel)=some (ps.map dm)
 | []=>rfl
 | p::ps=>by
  show(lV [.int p.1,.int p.2]).bind (λks=>(kE (ps.map cel)).bind λkss=>some (ks::kss))=_;rw[nK ps];rfl
def Sh.rz(s:Sh):Int:=if s.dn=true then s.a+s.n-1 else s.a
def Sh.cz(s:Sh):Int:=if s.dn=true then s.b else s.b+s.n-1
theorem l5{s:Sh}(hn:1<=s.n)(p:W9):p∈s.cs↔s.a<=p.1/\p.1<=s.rz/\s.b<=p.2/\p.2<=s.cz:=by
 obtain⟨a,b,dn,n⟩:=s;obtain⟨x,y⟩:=p;unfold Sh.cs Sh.rz Sh.cz Sh.at;simp only[y_,SA];simp only at hn;cases dn
 .simp only[x_,SV,UB];constructor
  .rintro⟨i,hi,rfl,rfl⟩;lia
  .rintro⟨h1,h2,h3,h4⟩;exact⟨(y-b).toNat,by lia,by lia,by lia⟩
 .simp only[Up,UB];constructor
  .rintro⟨i,hi,rfl,rfl⟩;lia
  .rintro⟨h1,h2,h3,h4⟩;exact⟨(x-a).toNat,by lia,by lia,by lia⟩
def Fp(i j k:Int):Int:=if j>i then(if k>j then k else j)else(if k>i then k else i)
def yR(s t:Sh):Int:=Fp (t.a-s.rz) (s.a-t.rz) 0
def y9(s t:Sh):Int:=Fp (t.b-s.cz) (s.b-t.cz) 0
def sD(r:Str)(s t:Sh):Bool:=if r=K5 then decide (0<yR s t+y9 s t)else if r=K0 then decide (1<yR s t+y9 s t)else decide (1<(if y9 s t>yR s t then y9 s t else yR s t))
theorem Sh.rz_ge{s:Sh}(h:1<=s.n):s.a<=s.rz:=by unfold Sh.rz;split<;>lia
theorem Sh.cz_ge{s:Sh}(h:1<=s.n):s.b<=s.cz:=by unfold Sh.cz;split<;>lia
theorem LW(h1:a<=p)(h2:p<=z)(h3:b<=p+d)(h4:p+d<=y):b<=z+d/\a+d<=(y:Int):=by lia
theorem LA{a z b y d:Int}(h1:a<=z)(h2:b<=y)(h3:b<=z+d)(h4:a+d<=y):∃x,(b<=x/\x<=y)/\a<=x-d/\x-d<=z:=by
 by_cases h:a+d<=b
 .exact⟨b,by lia,by lia⟩
 .exact⟨a+d,by lia,by lia⟩
theorem oW{s t:Sh}(hs:1<=s.n)(ht:1<=t.n)(d:W9):(∃q∈t.cs,∃p∈s.cs,q=plus p d)↔t.a<=s.rz+d.1/\s.a+d.1<=t.rz/\t.b<=s.cz+d.2/\s.b+d.2<=t.cz:=by
 constructor
 .rintro⟨q,hq,p,hp,rfl⟩;rw[l5 ht]at hq;rw[l5 hs]at hp;have r:=LW hp.1 hp.2.1 hq.1 hq.2.1;have c:=LW hp.2.2.1 hp.2.2.2 hq.2.2.1 hq.2.2.2;exact⟨r.1,r.2,c⟩
 .rintro⟨h1,h2,h3,h4⟩;obtain⟨x,⟨x1,x2⟩,x3,x4⟩:=LA (Sh.rz_ge hs) (Sh.rz_ge ht) h1 h2;obtain⟨y,⟨y1,y2⟩,y3,y4⟩:=LA (Sh.cz_ge hs) (Sh.cz_ge ht) h3 h4;refine⟨(x,y),(l5 ht _).mpr ⟨x1,x2,y1,y2⟩,(x-d.1,y-d.2),(l5 hs _).mpr ⟨x3,x4,y3,y4⟩,?_⟩;unfold plus;simp only;rw[Int.sub_add_cancel,Int.sub_add_cancel]
theorem wj(h1:a<=z)(h2:b<=y)(hu:0<=u/\b-z<=u/\a-y<=u/\(u=0\/u=b-z\/u=a-y)) :
  ((b<=z+0/\a+0<=y)↔u=0)/\((b<=z+0/\a+0<=y)\/(b<=z+1/\a+1<=y)\/(b<=z+-1/\a+-1<=y)↔u<=1):=by
 refine⟨by lia,?_,λ_=>?_⟩
 .rintro(⟨_,_⟩ | ⟨_,_⟩ | ⟨_,_⟩)<;>lia
 .by_cases e:u=0
  .exact .inl (by lia)
  .by_cases e2:u=b-z
   .exact .inr (.inl (by lia))
   .exact .inr (.inr (by lia))
theorem Sl:((p/\a)\/(p/\b)\/(q/\a)\/(p/\c)\/(r/\a))↔(p/\(a\/b\/c))\/((p\/q\/r)/\a):=by
 constructor
 .rintro(⟨h,g⟩ | ⟨h,g⟩ | ⟨h,g⟩ | ⟨h,g⟩ | ⟨h,g⟩)<;>simp[h,g]
 .rintro(⟨h,g | g | g⟩ | ⟨h | h | h,g⟩)<;>simp[h,g]
theorem Se:((p/\a)\/(p/\b)\/(q/\a)\/(p/\c)\/(r/\a)\/(q/\b)\/(q/\c)\/(r/\b)\/(r/\c))↔(p\/q\/r)/\(a\/b\/c):=by
 constructor
 .rintro(⟨h,g⟩ | ⟨h,g⟩ | ⟨h,g⟩ | ⟨h,g⟩ | ⟨h,g⟩ | ⟨h,g⟩ | ⟨h,g⟩ | ⟨h,g⟩ | ⟨h,g⟩)<;>simp[h,g]
 .rintro⟨h | h | h,g | g | g⟩<;>simp[h,g]
theorem lJ(x y:Int):0<=Fp x y 0/\x<=Fp x y 0/\y<=Fp x y 0/\(Fp x y 0=0\/Fp x y 0=x\/Fp x y 0=y):=by
 unfold Fp;split<;>split<;>lia
theorem tm{r:Str}(hr:dX r){s t:Sh}(hs:1<=s.n)(ht:1<=t.n):sD r s t=true↔¬∃q∈t.cs,∃p∈s.cs,∃d∈steps r,q=plus p d:=by
 have sw:(∃q∈t.cs,∃p∈s.cs,∃d∈steps r,q=plus p d)↔∃d∈steps r,(t.a<=s.rz+d.1/\s.a+d.1<=t.rz)/\t.b<=s.cz+d.2/\s.b+d.2<=t.cz:=by
  constructor
  .rintro⟨q,hq,p,hp,d,hd,e⟩;exact⟨d,hd,and_assoc.mpr ((oW hs ht d).mp ⟨q,hq,p,hp,e⟩)⟩
  .rintro⟨d,hd,h⟩;obtain⟨q,hq,p,hp,e⟩:=(oW hs ht d).mpr (and_assoc.mp h);exact⟨q,hq,p,hp,d,hd,e⟩
 obtain⟨r0,r1⟩:=wj (u:=yR s t) (Sh.rz_ge hs) (Sh.rz_ge ht) (lJ (t.a-s.rz) (s.a-t.rz));obtain⟨c0,c1⟩:=wj (u:=y9 s t) (Sh.cz_ge hs) (Sh.cz_ge ht) (lJ (t.b-s.cz) (s.b-t.cz));have n1:0<=yR s t:=(lJ (t.a-s.rz) (s.a-t.rz)).1;have n2:0<=y9 s t:=(lJ (t.b-s.cz) (s.b-t.cz)).1;rw[sw];unfold sD;rcases hr with rfl | rfl | rfl
 .rw[j_ rfl,nr,C_];simp only[s_,WS];rw[r0,c0];clear r0 r1 c0 c1 sw
  lia
 .rw[k_ (by decide),j_ rfl,l9,C_];simp only[t_,S0,U3,exists_eq_or_imp,WS];rw[Sl,r1,c1,r0,c0];clear r0 r1 c0 c1 sw
  lia
 .rw[k_ (by decide),k_ (by decide),mP,C_];simp only[t_,S0,U3,exists_eq_or_imp,WS];rw[Se,r1,c1];clear r0 r1 c0 c1 sw
  split<;>lia
def IR:D->D->D
 | .int a,.int b=>cel (a,b)
 | _,_=>.non
theorem jX(I:En->Prop)(p:D->Bool)(x:D):∀(ds:Xq)(env:En),I env->(∀d∈ds,∀e,I e->(p d=true->∃e1,(t d e).bind body=some (.nx e1)/\I e1)/\(p d=false->(t d e).bind body=some (.rt x)))->
  (ds.all p=true->∃e2,dC t body ds env=some (.nx e2)/\I e2)/\(ds.all p=false->dC t body ds env=some (.rt x))
 | [],env,h,_=>⟨λ_=>⟨env,rfl,h⟩,λh=>by cases h⟩
 | d::ds,env,h,hb=>by
  obtain⟨h1,h2⟩:=hb d o_ env h;cases hp:p d with
  | true=>
   obtain⟨e1,h3,h4⟩:=h1 hp;obtain⟨e0,h5,h6⟩:=b_.mp h3;have hh:dC t body (d::ds) env=dC t body ds e1:=by
    show(t d env).bind (λe1=>(body e1).bind _)=_;rw[h5];show(body e0).bind _=_;rw[h6]
    rfl
   rw[hh,VT,hp,Bool.true_and];exact jX I p x ds e1 h4 λd' hd=>hb d' (l_ _ hd)
  | false=>
   obtain⟨e0,h5,h6⟩:=b_.mp (h2 hp);rw[VT,hp,WQ];refine⟨λh=>(by cases h),λ_=>?_⟩;show(t d env).bind (λe1=>(body e1).bind _)=_;rw[h5];show(body e0).bind _=_;rw[h6]
   rfl
noncomputable def iu(ru:Str)(s:Sh):WY:=match m__law_halo [.str ru,s.d]with | some d=>IW d | _=>[]
theorem vE(s:Sh)(hn:s.n<=1000)(ru:Str)(hr:dX ru):m__law_halo [.str ru,s.d]=some (du (iu ru s))/\∀q,q∈iu ru s↔∃p∈s.cs,∃t∈steps ru,q=plus p t:=by
 obtain⟨ks,h1,h2⟩:=FM s hn ru hr;have:iu ru s=ks:=by unfold iu;rw[h1];exact vQ ks
 rw[this];exact⟨h1,h2⟩
theorem BI(s0:Slot)(cs:WY)(ks:WY)(s3:Slot):(cs.all (λp=>!decide (p∈ks))=true->∃zR,cZ [s0,.F (.lst (cs.map cel)),.F (du ks),s3]=some (.nx [s0,.F (.lst (cs.map cel)),.F (du ks),zR]))/\(cs.all (λp=>!decide (p∈ks))=false->cZ [s0,.F (.lst (cs.map cel)),.F (du ks),s3]=some (.rt (.bl false))):=by
 have hh:=jX (t:=b9 3) (body:=ir) (λe=>∃s3,e=[s0,.F (.lst (cs.map cel)),.F (du ks),s3]) (λd=>match d with | .tup [.int a,.int b]=>!decide ((a,b)∈ks) | _=>true) (.bl false) (cs.map cel) _ ⟨s3,rfl⟩ λd hd e aC=>by
  obtain⟨s3,he⟩:=aC;subst he;obtain⟨q,hq,rfl⟩:=y_.mp hd;have ht:fB (ao (Oq Th.h false) aB aK) [s0,.F (.lst (cs.map cel)),.F (du ks),.F (cel q)]=some (decide (q∈ks)):=ez (by
   show(KQ Th.h (du ks)).bind _=_;unfold du;rw[Hg];show some (D.bl (decide (dm q∈ks.map dm)))=_;congr 2;rw[Ta,C_,C_];exact gv)
  constructor
  .intro h;have h:decide (q∈ks)=false:=by simpa [cel]using h
   exact⟨_,eQ (e0:=[s0,.F (.lst (cs.map cel)),.F (du ks),.F (cel q)]) rfl ((bO (ht.trans (by rw[h]))).trans rfl),_,rfl⟩
  .intro h;have h:decide (q∈ks)=true:=by simpa [cel]using h
   exact eQ (e0:=[s0,.F (.lst (cs.map cel)),.F (du ks),.F (cel q)]) rfl ((eC (ht.trans (by rw[h]))).trans rfl)
 rw[WK]at hh;refine⟨λh=>?_,λh=>(bX (cQ rfl)).trans (hh.2 h)⟩;obtain⟨e2,g1,zR,rfl⟩:=hh.1 h;exact⟨zR,(bX (cQ rfl)).trans g1⟩
theorem lE(hs:List WY)(cs:WY):m__law_free [.lst (hs.map du),.lst (cs.map cel)]=some (.bl (hs.all λks=>cs.all λp=>!decide (p∈ks))):=by
 have hh:=jX (t:=b9 2) (body:=cZ) (λe=>∃s2 s3,e=[.F (.lst (hs.map du)),.F (.lst (cs.map cel)),s2,s3]) (λd=>cs.all λp=>!decide (p∈IW d)) (.bl false) (hs.map du) [.F (.lst (hs.map du)),.F (.lst (cs.map cel)),.un,.un] ⟨.un,.un,rfl⟩ λd hd e aC=>by
  obtain⟨s2,s3,he⟩:=aC;subst he;obtain⟨ks,NJ,rfl⟩:=y_.mp hd;obtain⟨g1,g2⟩:=BI (.F (.lst (hs.map du))) cs ks s3;simp only[vQ];refine⟨λh=>?_,λh=>eQ (e0:=[.F (.lst (hs.map du)),.F (.lst (cs.map cel)),.F (du ks),s3]) rfl (g2 h)⟩;obtain⟨zR,g⟩:=g1 h;exact⟨_,eQ (e0:=[.F (.lst (hs.map du)),.F (.lst (cs.map cel)),.F (du ks),s3]) rfl g,_,_,rfl⟩
 rw[WK]at hh;simp only[Function.comp_def,vQ]at hh;cases hb:(hs.all λks=>cs.all λp=>!decide (p∈ks))with
 | true=>
  obtain⟨e2,g1,s2,s3,rfl⟩:=hh.1 hb;exact bw ((aw ((bX (cQ rfl)).trans g1)).trans rfl)
 | false=>exact bw (uG ((bX (cQ rfl)).trans (hh.2 hb)))
theorem zq(hr:dX ru)(h:List Sh)(hh:∀t∈h,1<=t.n/\t.n<=1000)(s:Sh)(hs:1<=s.n):m__law_free [.lst (h.map λt=>du (iu ru t)),.lst (s.cs.map cel)]=some (.bl (h.all λt=>sD ru t s)):=by
 have e:=lE (h.map (iu ru)) s.cs;rw[SO]at e;refine Eq.trans e ?_;congr 2;rw[WK,Ta,M_,M_];refine forall_congr' λt=>forall_congr' λht=>?_;obtain⟨h1,h2⟩:=hh t ht;rw[tm hr h1 hs];simp only[We,M_,Bool.not_eq_true',decide_eq_false_iff_not];constructor
 .rintro hq ⟨q,QH,p,hp,d,hd,e⟩;exact hq q QH (((vE t h2 ru hr).2 q).mpr ⟨p,hp,d,hd,e⟩)
 .intro hq q QH hq2;obtain⟨p,hp,d,hd,e⟩:=((vE t h2 ru hr).2 q).mp hq2;exact hq ⟨q,QH,p,hp,d,hd,e⟩
instance (s t:Sh):Decidable (Dt s t):=by unfold Dt;infer_instance
def jM(fl:W7):D:=.tup (fl.map λ(n:Nat)=>.int n)
def az(h:List Sh):D:=.tup (h.map Sh.d)
noncomputable def gh(ru:Str)(h:List Sh):D:=.tup [az h,.lst (h.map λs=>du (iu ru s))]
def rX(fl:W7)(j:Nat)(h:List Sh)(s:Sh):Bool:=decide (j=0)||(!decide (fl.getD (j-1) 0=fl.getD j 0)||(match h.getLast? with | some u=>decide (Dt u s) | none=>true))
def okN(ru:Str)(fl:W7)(j:Nat)(h:List Sh)(s:Sh):Bool:=rX fl j h s&&h.all λt=>sD ru t s
def iB(R C:Nat)(ru:Str)(fl:W7)(j:Nat)(rows:List (List Sh)):List (List Sh):=rows.flatMap λh=>((dZ R C (fl.getD j 0)).filter (okN ru fl j h)).map λs=>h++[s]
def eh(R C:Nat)(ru:Str)(fl:W7):Nat->List (List Sh)
 | 0=>[[]]
 | j+1=>iB R C ru fl j (eh R C ru fl j)
noncomputable abbrev eA(R C:Nat)(fl:W7)(ru:Str)(rows:D)(pl ln:Nat)(ss:List Sh)(acc:Xq)(gu eH yg oG:Slot):En:=
 [.F (.tup [.int R,.int C]),.F (jM fl),.F (.str ru),.F rows,.F (.int pl),.F (.int ln),.F (.lst (ss.map Sh.d)),.F (.lst (ss.map λs=>du (iu ru s))),.F (.lst (ss.map λs=>.lst (s.cs.map cel))),.O (.L acc),gu,eH,yg,oG]
theorem JV(h:f env=some (.tup xs))(h2:g env=some (.tup ys))(hl:xs.length+ys.length<=16000000):ao Ad f g env=some (.tup (xs++ys)):=by
 rw[aD h h2];show(if xs.length+ys.length<=16000000 then _ else _)=_;rw[j_ hl]
theorem LM(s t:Sh):MH s.d t.d=some (.bl (decide (Dt s t))):=by
 obtain⟨q,h1,h2⟩:=Jq s t;show(dH s.ks t.ks).bind _=_;rw[h1,show decide (Dt s t)=q by cases q<;>simp_all];rfl
theorem all1(R C:Nat)(fl:W7)(ru:Str)(hr:dX ru)(rows:D)(pl:Nat)(eR:pl<fl.length)(ss:List Sh)(acc:Xq)(ha:acc.length<1000000)(h:List Sh)(hl:h.length=pl)(hh:∀t∈h,1<=t.n/\t.n<=1000)(RM:pl<=3)(oG:Slot)(k:Nat)(s:Sh)(hk:ss[k]?=some s)(hn:1<=s.n) :
  ∃eU:Slot,dO (eA R C fl ru rows pl (fl.getD pl 0) ss acc (.F (az h)) (.F (.lst (h.map λs=>du (iu ru s)))) (.F (.int k)) oG)=some (.nx (eA R C fl ru rows pl (fl.getD pl 0) ss (acc++if okN ru fl pl h s=true then [gh ru (h++[s])]else []) (.F (az h)) (.F (.lst (h.map λs=>du (iu ru s)))) (.F (.int k)) eU)):=by
 have hb:=zq hr h hh s hn;have hq:(IC (ao iw aP Xt) (IC (ao oK (ao aO ah (ao subI aP Xu)) d6) (ao MH (ao aO dW (br iH Xu)) (ao aO cj dk)))) (eA R C fl ru rows pl (fl.getD pl 0) ss acc (.F (az h)) (.F (.lst (h.map λs=>du (iu ru s)))) (.F (.int k)) oG)=some (.bl (rX fl pl h s)):=by
  cases pl with
  | zero=>exact HL (p:=true) (q:=true) rfl (λh=>by cases h)
  | succ m=>
   have hx:fl[m]?=some (fl.getD m 0):=by rw[g_,f_ (by lia)];rfl
   have i1:ao aO ah (ao subI aP Xu) (eA R C fl ru rows (m+1) (fl.getD (m+1) 0) ss acc (.F (az h)) (.F (.lst (h.map λs=>du (iu ru s)))) (.F (.int k)) oG)=some (.int ((fl.getD m 0:Nat):Int)):=by
    refine jV (i:=(m:Int)) rfl ?_ (dP (by rw[m_,hx];rfl));show some (D.int (((m+1:Nat):Int)-1))=_;rw[show((m+1:Nat):Int)-1=(m:Int) by lia]
   obtain⟨h0,u,hu⟩:∃h0 u,h=h0++[u]:=by
    have hne:h≠[]:=λe=>by rw[e]at hl;cases hl
    exact⟨h.dropLast,h.getLast hne,(UW hne).symm⟩
   have i2:ao aO dW (br iH Xu) (eA R C fl ru rows (m+1) (fl.getD (m+1) 0) ss acc (.F (az h)) (.F (.lst (h.map λs=>du (iu ru s)))) (.F (.int k)) oG)=some u.d:=by
    refine jV (ds:=h.map Sh.d) (i:=-1) rfl rfl ?_;rw[hu,O_];exact L2.AS _ _
   have i3:ao aO cj dk (eA R C fl ru rows (m+1) (fl.getD (m+1) 0) ss acc (.F (az h)) (.F (.lst (h.map λs=>du (iu ru s)))) (.F (.int k)) oG)=some s.d:=eD (i:=(k:Int)) rfl rfl (dP (by rw[m_,hk];rfl));have:=HL (p:=((m+1:Nat):Int)==0) (f:=ao iw aP Xt) (env:=eA R C fl ru rows (m+1) (fl.getD (m+1) 0) ss acc (.F (az h)) (.F (.lst (h.map λs=>du (iu ru s)))) (.F (.int k)) oG) rfl λ_=>HL (p:=!(((fl.getD m 0:Nat):Int)==((fl.getD (m+1) 0:Nat):Int))) ((aD (g:=λenv=>bH env 5) i1 rfl).trans (LI _ _)) λ_=>(aD i2 i3).trans (LM u s);rw[this];congr 2;unfold rX;rw[hu,List.getLast?_append];have e1:(((m+1:Nat):Int)==0)=decide (m+1=0):=by rw[Ta];simp;lia
   have e2:(((fl.getD m 0:Nat):Int)==((fl.getD (m+1) 0:Nat):Int))=decide (fl.getD (m+1-1) 0=fl.getD (m+1) 0):=by rw[Ta,VP,C_,Nat.add_sub_cancel];lia
   rw[e1,e2];rfl
 unfold dO;have i6:∀eU:Slot,ao aO cj dk (eA R C fl ru rows pl (fl.getD pl 0) ss acc (.F (az h)) (.F (.lst (h.map λs=>du (iu ru s)))) (.F (.int k)) eU)=some s.d:=λ_=>eD (i:=(k:Int)) rfl rfl (dP (by rw[m_,hk];rfl));have i7:∀eU:Slot,ao aO pH dk (eA R C fl ru rows pl (fl.getD pl 0) ss acc (.F (az h)) (.F (.lst (h.map λs=>du (iu ru s)))) (.F (.int k)) eU)=some (du (iu ru s)):=λ_=>eD (i:=(k:Int)) rfl rfl (dP (by rw[m_,hk];rfl));have i8:∀eU:Slot,ao aO jG dk (eA R C fl ru rows pl (fl.getD pl 0) ss acc (.F (az h)) (.F (.lst (h.map λs=>du (iu ru s)))) (.F (.int k)) eU)=some (.lst (s.cs.map cel)):=λ_=>eD (i:=(k:Int)) rfl rfl (dP (by rw[m_,hk];rfl));have ht:jH (fB Bq) (fB (λenv=>((aa gJ (aa (ao aO jG dk) fNil)) env).bind m__law_free)) (eA R C fl ru rows pl (fl.getD pl 0) ss acc (.F (az h)) (.F (.lst (h.map λs=>du (iu ru s)))) (.F (.int k)) (.F (.bl (rX fl pl h s))))=some (okN ru fl pl h s):=Ai (ez rfl) λ_=>ez ((call_v (aj rfl (aj (i8 _) aN))).trans hb);refine⟨.F (.bl (rX fl pl h s)),(aw (a7 hq)).trans ?_⟩;cases hqb:okN ru fl pl h s with
 | true=>
  rw[hqb]at ht;rw[j_ rfl];refine(eC ht).trans ?_;refine kY (d:=gh ru (h++[s])) rfl (kQ (aj ?_ (aj ?_ aN))) (by lia)
  .have:=JV (f:=λenv=>bH env 10) (g:=bc (aa (ao aO cj dk) fNil)) (env:=eA R C fl ru rows pl (fl.getD pl 0) ss acc (.F (az h)) (.F (.lst (h.map λs=>du (iu ru s)))) (.F (.int k)) (.F (.bl (rX fl pl h s)))) (xs:=h.map Sh.d) (ys:=[s.d]) rfl (kQ (aj (i6 _) aN)) (by rw[c_,hl];simp;lia);exact this.trans (by unfold az;rw[O_];rfl)
  .have:=BJ (f:=λenv=>bH env 11) (g:=b8 (aa (ao aO pH dk) fNil)) (env:=eA R C fl ru rows pl (fl.getD pl 0) ss acc (.F (az h)) (.F (.lst (h.map λs=>du (iu ru s)))) (.F (.int k)) (.F (.bl (rX fl pl h s)))) (xs:=h.map λs=>du (iu ru s)) (ys:=[du (iu ru s)]) rfl (xy (aj (i7 _) aN)) (by rw[c_,hl];simp;lia);exact this.trans (by rw[O_];rfl)
 | false=>
  rw[hqb]at ht;rw[k_ (by simp),SG];exact(bO ht).trans rfl
theorem j7(f:α->D)(I:Xq->En->Prop)(g:α->Xq)(B M:Nat):∀(xs:List α)(acc:Xq)(env:En),I acc env->acc.length+B*xs.length<=M->(∀x∈xs,(g x).length<=B/\∀acc e,I acc e->acc.length+B<=M->∃e1,(t (f x) e).bind body=some (.nx e1)/\I (acc++g x) e1)->∃e2,dC t body (xs.map f) env=some (.nx e2)/\I (acc++xs.flatMap g) e2
 | [],acc,env,h,_,_=>⟨env,rfl,by rw[List.flatMap_nil,SG];exact h⟩
 | x::xs,acc,env,h,hl,hb=>by
  obtain⟨h1,h2⟩:=hb x o_;rw[A_,WI]at hl;obtain⟨e1,h3,h4⟩:=h2 acc env h (by lia);obtain⟨e0,h5,h6⟩:=b_.mp h3;have hh:dC t body ((x::xs).map f) env=dC t body (xs.map f) e1:=by
   show(t (f x) env).bind (λe1=>(body e1).bind _)=_;rw[h5];show(body e0).bind _=_;rw[h6]
   rfl
  obtain⟨e2,h7,h8⟩:=j7 f I g B M xs (acc++g x) e1 h4 (by rw[r_];lia) λy hy=>hb y (l_ _ hy);refine⟨e2,hh.trans h7,?_⟩;rw[Uz,<- T4];exact h8
theorem JL(n:Nat):aG 0 n=(List.range n).map λ(i:Nat)=>D.int i:=by
 have:=w8 (g:=id) n;rw[List.map_id]at this;exact this
theorem zF(l:List α)(G:Option α->List β):(List.range l.length).flatMap (λi=>G l[i]?)=l.flatMap λa=>G (some a):=by
 have:(List.range l.length).map (λi=>l[i]?)=l.map some:=by
  apply Uy;intro i;rw[m_,m_]
  by_cases h:i<l.length
  .rw[UG h,f_ h];simp
  .rw[K_ (by simpa using h),K_ (by simpa using h)];rfl
 have h2:=Tp (λx=>x.flatMap G) this;simp only[List.flatMap_map]at h2;exact h2
theorem wL(p:α->Bool)(G:α->β):∀(l:List α),(l.flatMap λa=>if p a=true then [G a]else [])=(l.filter p).map G
 | []=>rfl
 | a::l=>by
  rw[Uz,UH,wL p G l]
  split<;>rfl
theorem all2(R C:Nat)(fl:W7)(ru:Str)(hr:dX ru)(rows:D)(pl:Nat)(eR:pl<fl.length)(ss:List Sh)(acc:Xq)(ha:acc.length<900000)(h:List Sh)(hl:h.length=pl)(hh:∀t∈h,1<=t.n/\t.n<=1000)(RM:pl<=3)(yg oG:Slot)(QI:ss.length<=40)(hn:∀s∈ss,1<=s.n) :
  ∃nU eU:Slot,dJ (eA R C fl ru rows pl (fl.getD pl 0) ss acc (.F (az h)) (.F (.lst (h.map λs=>du (iu ru s)))) yg oG)=some (.nx (eA R C fl ru rows pl (fl.getD pl 0) ss (acc++((ss.filter (okN ru fl pl h)).map λs=>h++[s]).map (gh ru)) (.F (az h)) (.F (.lst (h.map λs=>du (iu ru s)))) nU eU)):=by
 obtain⟨e2,h1,nU,eU,rfl⟩:=j7 (t:=b9 12) (body:=dO) (λ(i:Nat)=>D.int i) (λacc e=>∃yg oG,e=eA R C fl ru rows pl (fl.getD pl 0) ss acc (.F (az h)) (.F (.lst (h.map λs=>du (iu ru s)))) yg oG) (λi=>match ss[i]? with | some s=>if okN ru fl pl h s=true then [gh ru (h++[s])]else [] | none=>[]) 1 950000 (List.range ss.length) acc _ ⟨yg,oG,rfl⟩ (by rw[T6];lia) λi hi=>by
  have hi':=SA.mp hi;have hk:ss[i]?=some ss[i]:=f_ hi';rw[hk];refine⟨by dsimp only;split<;>simp,λcW e ⟨nU,eU,he⟩ Dk=>?_⟩;subst he;obtain⟨s13'',u⟩:=all1 R C fl ru hr rows pl eR ss cW (by lia) h hl hh RM eU i ss[i] hk (hn _ (Tu hi'));exact⟨_,eQ (e0:=eA R C fl ru rows pl (fl.getD pl 0) ss cW (.F (az h)) (.F (.lst (h.map λs=>du (iu ru s)))) (.F (.int i)) eU) rfl u,_,_,rfl⟩
 rw[zF ss (λo=>match o with | some s=>if okN ru fl pl h s=true then [gh ru (h++[s])]else [] | none=>[])]at h1;dsimp only at h1;rw[wL (okN ru fl pl h) (λs=>gh ru (h++[s])),<- JL]at h1;refine⟨nU,eU,?_⟩;unfold dJ;rw[bX (fO (n:=ss.length) ((gf rfl).trans (by rw[c_])) (by lia)),h1,SO];rfl
theorem dN(f g:α->D):∀(xs:List α),(∀x∈xs,∃e1,t (f x) env=some e1/\k e1=some [g x])->jN t Xy k env (xs.map f)=some (xs.map g)
 | [],_=>rfl
 | x::xs,h=>by
  obtain⟨e1,h1,h3⟩:=h x o_;have i1:=dN f g xs λy hy=>h y (l_ _ hy);show jN _ _ _ _ (f x::xs.map f)=_;unfold jN;rw[h1];show(if true=true then k e1 else some []).bind _=_;rw[j_ rfl,h3];show(jN t Xy k env (xs.map f)).bind _=_;rw[i1];rfl
theorem si(R C:Nat)(hR:R<=4)(hC:C<=5)(l:Nat):(dZ R C l).length<=40:=by
 have h1:=yk R C l;have h2:=Ws (Ws (h_ 2) hC) hR
 lia
theorem rk(h:s∈dZ R C l):s.n=l:=(ky.mp h).2.1
theorem gD(R C:Nat)(hR:R<=4)(hC:C<=5)(ru:Str)(hru:dX ru)(fl:W7)(hfl:fl.length<=3)(pl:Nat)(eR:pl<fl.length)(hln:1<=fl.getD pl 0/\fl.getD pl 0<=10)(rows:List (List Sh))(hrows:∀h∈rows,h.length=pl/\∀t∈h,1<=t.n/\t.n<=1000)(hlen:rows.length<=1600)(s6 s7 s8 s9 gu eH yg oG:Slot) :
  ∃(t6 t7 t8 t9 zS Ld RN RO:Slot),fN [.F (.tup [.int R,.int C]),.F (jM fl),.F (.str ru),.F (.lst (rows.map (gh ru))),.F (.int pl),.F (.int (fl.getD pl 0:Nat)),s6,s7,s8,s9,gu,eH,yg,oG]
   = some (.nx [.F (.tup [.int R,.int C]),.F (jM fl),.F (.str ru),.F (.lst ((iB R C ru fl pl rows).map (gh ru))),.F (.int pl),.F (.int (fl.getD pl 0:Nat)),t6,t7,t8,t9,zS,Ld,RN,RO]):=by
 have a1:=yn R C (by lia) (by lia) (fl.getD pl 0);have ls:=si R C hR hC (fl.getD pl 0);have hn:∀s∈dZ R C (fl.getD pl 0),1<=s.n/\s.n<=10:=λs hs=>by rw[rk hs];exact hln
 obtain⟨ss,QI⟩:∃ss,ss=dZ R C (fl.getD pl 0):=⟨_,rfl⟩;rw[<- QI]at a1 ls hn;have b1:=dN (t:=b9 0) (k:=bj (λenv=>((aa ah (aa aq fNil)) env).bind m__law_halo)) (env:=[.un,.F (.str ru)]) Sh.d (λs=>du (iu ru s)) ss λs hs=>⟨[.F s.d,.F (.str ru)],rfl,mi ((call_v (aj rfl (aj rfl aN))).trans (vE s (by have:=hn s hs;lia) ru hru).1)⟩;have c1:=dN (t:=b9 0) (k:=bj (λenv=>((aa aq fNil) env).bind m__law_cells)) (env:=[.un]) Sh.d (λs=>.lst (s.cs.map cel)) ss λs hs=>⟨[.F s.d],rfl,mi ((call_v (aj rfl aN)).trans (l8 s (by have:=hn s hs;lia)))⟩;obtain⟨e2,h1,GF,GG,nU,eU,rfl⟩:=j7 (t:=oj [10,11]) (body:=dJ) (gh ru) (λacc e=>∃(GF GG nU eU:Slot),e=eA R C fl ru (.lst (rows.map (gh ru))) pl (fl.getD pl 0) ss acc GF GG nU eU) (λh=>((ss.filter (okN ru fl pl h)).map λs=>h++[s]).map (gh ru)) 40 800000 rows [] _ ⟨gu,eH,yg,oG,rfl⟩ (by rw[TM];lia) λh hh=>by
  refine⟨by rw[c_,c_];exact B_ (To _ _) ls,λacc e ⟨GF,GG,nU,eU,he⟩ Dk=>?_⟩;subst he;obtain⟨q1,q2⟩:=hrows h hh;obtain⟨s12'',s13'',u⟩:=all2 R C fl ru hru (.lst (rows.map (gh ru))) pl eR ss acc (by lia) h q1 q2 (by lia) nU eU ls (λs hs=>(hn s hs).1);exact⟨_,eQ (e0:=eA R C fl ru (.lst (rows.map (gh ru))) pl (fl.getD pl 0) ss acc (.F (az h)) (.F (.lst (h.map λs=>du (iu ru s)))) nU eU) rfl u,_,_,_,_,rfl⟩
 have hst:rows.flatMap (λh=>((ss.filter (okN ru fl pl h)).map λs=>h++[s]).map (gh ru))=(iB R C ru fl pl rows).map (gh ru):=by
  unfold iB;rw[U_,QI]
 rw[hst,Uw]at h1;have l1:(ss.map λs=>du (iu ru s)).length<=16000000:=by rw[c_];lia
 have l2:(ss.map λs=>D.lst (s.cs.map cel)).length<=16000000:=by rw[c_];lia
 exact⟨.F (.lst (ss.map Sh.d)),.F (.lst (ss.map λs=>du (iu ru s))),.F (.lst (ss.map λs=>.lst (s.cs.map cel))),.F (.lst ((iB R C ru fl pl rows).map (gh ru))),GF,GG,nU,eU,(aw (a7 ((call_v (aj rfl (aj rfl aN))).trans a1))).trans ((aw (a7 (dA (cQ rfl) rfl b1 l1))).trans ((aw (a7 (dA (cQ rfl) rfl c1 l2))).trans ((aw (kB rfl)).trans ((aw ((bX (cQ rfl)).trans h1)).trans ((aw rfl).trans (a7 rfl))))))⟩
theorem Gb(h:f env=some (.tup ds)):Du f env=some (jz 0 ds):=by unfold Du;rw[h];rfl
theorem yY(R C:Nat)(hR:R<=4)(hC:C<=5)(ru:Str)(fl:W7)(j:Nat)(rows:List (List Sh)):(iB R C ru fl j rows).length<=40*rows.length:=
 lA rows λh _=>by rw[c_];exact B_ (To _ _) (si R C hR hC _)
theorem jF(R C:Nat)(hR:R<=4)(hC:C<=5)(ru:Str)(fl:W7):∀j,(eh R C ru fl j).length<=40 ^ j
 | 0=>by simp[eh]
 | j+1=>by
  have h1:=yY R C hR hC ru fl j (eh R C ru fl j);have h2:=jF R C hR hC ru fl j;rw[TU];show(iB R C ru fl j (eh R C ru fl j)).length<=_
  lia
theorem pE:x∈iB R C ru fl j rows↔∃h∈rows,∃s∈dZ R C (fl.getD j 0),okN ru fl j h s=true/\x=h++[s]:=by
 unfold iB;simp only[Ug,y_,SH];constructor
 .rintro⟨h,hh,s,⟨h1,h2⟩,rfl⟩;exact⟨h,hh,s,h1,h2,rfl⟩
 .rintro⟨h,hh,s,h1,h2,rfl⟩;exact⟨h,hh,s,⟨h1,h2⟩,rfl⟩
theorem wm(R C:Nat)(ru:Str)(fl:W7)(hf:∀n∈fl,1<=n/\n<=10):∀j,j<=fl.length->∀h∈eh R C ru fl j,h.length=j/\∀t∈h,1<=t.n/\t.n<=1000
 | 0,_,h,hh=>by cases s_.mp hh;exact⟨rfl,λt ht=>by cases ht⟩
 | j+1,hj,x,hx=>by
  obtain⟨h,hh,s,h1,h2,rfl⟩:=pE.mp hx;obtain⟨i1,i2⟩:=wm R C ru fl hf j (by lia) h hh;refine⟨by simp[i1],λt ht=>?_⟩;rcases Su.mp ht with ht | ht
  .exact i2 t ht
  .cases s_.mp ht;rw[rk h1];have:=hf (fl.getD j 0) (by rw[g_,f_ (by lia)];exact Tu _)
   lia
theorem Hl(h:n<=3):40 ^ n<=64000:=B_ (T3 (by decide) h) (by decide)
theorem IE(R C:Nat)(hR:R<=4)(hC:C<=5)(ru:Str)(hru:dX ru)(fl:W7)(hfl:fl.length<=3)(hf:∀n∈fl,1<=n/\n<=10) :
  m__law_all [.tup [.int R,.int C],jM fl,.str ru]=some (.lst ((eh R C ru fl fl.length).map az)):=by
 obtain⟨e2,h1,s4,s5,s6,s7,s8,s9,gu,eH,yg,oG,rfl⟩:=bR (t:=oj [4,5]) (body:=fN) (λj e=>∃(s4 s5 s6 s7 s8 s9 gu eH yg oG:Slot),e=[.F (.tup [.int R,.int C]),.F (jM fl),.F (.str ru),.F (.lst ((eh R C ru fl j).map (gh ru))),s4,s5,s6,s7,s8,s9,gu,eH,yg,oG]) (jz 0 (fl.map λ(n:Nat)=>.int n)) 0 _ ⟨.un,.un,.un,.un,.un,.un,.un,.un,.un,.un,rfl⟩ λi d e hd aC=>by
  obtain⟨s4,s5,s6,s7,s8,s9,gu,eH,yg,oG,he⟩:=aC;subst he;have hi:=(i_.mp hd).1;rw[eX,c_]at hi;have hg:fl[i]?=some (fl.getD i 0):=by rw[g_,f_ hi];rfl
  have hx:(fl.map λ(n:Nat)=>D.int n)[i]?=some (.int ((fl.getD i 0:Nat):Int)):=by rw[m_,hg];rfl
  rw[iY hx]at hd;cases hd;simp only[Ss];have hp2:40 ^ i<=40 ^ 2:=T3 (by decide) (by lia);obtain⟨t6,t7,t8,t9,zS,Ld,RN,RO,u1⟩:=gD R C hR hC ru hru fl hfl i hi (hf _ (R_ hg)) (eh R C ru fl i) (wm R C ru fl hf i (by lia)) (by have:=jF R C hR hC ru fl i;lia) s6 s7 s8 s9 gu eH yg oG;exact⟨_,eQ rfl u1,_,_,_,_,_,_,_,_,_,_,rfl⟩
 rw[Ss,eX,c_]at h1;have h40:=Hl hfl;have hlen:=jF R C hR hC ru fl fl.length;refine bw ((aw (a7 rfl)).trans ((aw ((bX (Gb rfl)).trans h1)).trans (eg (dA (cQ rfl) rfl ?_ (by rw[c_];lia)))));exact dN (gh ru) az _ λh hh=>⟨_,rfl,rfl⟩
def KZ(ru:Str)(s t:Sh):Prop:=(t.n=s.n->Dt s t)/\sD ru s t=true
instance (ru:Str)(s t:Sh):Decidable (KZ ru s t):=by unfold KZ;infer_instance
theorem yC(h:Dt s t)(h2:Dt t u):Dt s u:=by
 rcases h with h | ⟨e,h⟩
 .rcases h2 with h2 | ⟨e2,_⟩
  .exact .inl (Int.lt_trans h h2)
  .exact .inl (e2▸h)
 .rcases h2 with h2 | ⟨e2,h2⟩
  .exact .inl (e▸h2)
  .refine .inr ⟨e.trans e2,?_⟩;rcases h with h | ⟨f,h⟩
   .rcases h2 with h2 | ⟨f2,_⟩
    .exact .inl (Int.lt_trans h h2)
    .exact .inl (f2▸h)
   .rcases h2 with h2 | ⟨f2,h2⟩
    .exact .inl (f▸h2)
    .refine .inr ⟨f.trans f2,?_⟩;rcases h with ⟨p,q⟩ | ⟨p,q⟩
     .rcases h2 with ⟨p2,_⟩ | ⟨p2,_⟩
      .rw[q]at p2;cases p2
      .exact .inl ⟨p,p2▸q⟩
     .rcases h2 with ⟨p2,q2⟩ | ⟨p2,q2⟩
      .exact .inl ⟨p.trans p2,q2⟩
      .exact .inr ⟨p.trans p2,Vu q q2⟩
theorem pG{fl:W7}{j:Nat}(h:j<fl.length):fl.take (j+1)=fl.take j++[fl.getD j 0]:=by
 rw[UA,g_,f_ h];rfl
theorem wG{ru:Str}{fl:W7}(hs:fl.Pairwise (·>=·)){j:Nat}(hj:j<fl.length){h:List Sh}(hm:h.map Sh.n=fl.take j)(hp:h.Pairwise (KZ ru)){s:Sh}(RP:s.n=fl.getD j 0):okN ru fl j h s=true↔∀t∈h,KZ ru t s:=by
 have hlen:h.length=j:=by have:=Tp List.length hm;rw[c_,S1]at this;lia
 have Hw:∀t∈h,s.n<=t.n:=λt ht=>by
  have h1:t.n∈fl.take j:=hm▸SW ht;have lT:(fl.take j++fl.drop j).Pairwise (·>=·):=by rw[Um];exact hs
  rw[RP];refine(S8.mp lT).2.2 _ h1 _ ?_;rw[g_,f_ hj,Us hj];exact o_
 unfold okN rX;rw[F_,M_]
 by_cases hz:j=0
 .have:h=[]:=List.eq_nil_of_length_eq_zero (by lia);subst this;simp[hz]
 obtain⟨h0,u,rfl⟩:∃h0 u,h=h0++[u]:=by
  have hne:h≠[]:=λe=>by rw[e]at hlen;exact hz hlen.symm
  exact⟨h.dropLast,h.getLast hne,(UW hne).symm⟩
 have hu:u.n=fl.getD (j-1) 0/\h0.map Sh.n=fl.take (j-1):=by
  have e:fl.take j=fl.take (j-1)++[fl.getD (j-1) 0]:=by
   have:=pG (fl:=fl) (j:=j-1) (by lia);rwa [show j-1+1=j by lia]at this
  rw[e,O_]at hm;have:=List.append_inj' hm rfl;exact⟨by simpa using this.2,this.1⟩
 have RQ:∀t∈h0,u.n<=t.n:=λt ht=>by
  have lT:(fl.take j).Pairwise (·>=·):=hs.sublist (Wx _ _);rw[<- hm,O_]at lT;exact(S8.mp lT).2.2 _ (SW ht) _ (by simp)
 rw[List.getLast?_append];simp only[List.getLast?_singleton,Option.some_or,hz,decide_false,Bool.false_or,WL,Bool.not_eq_true',decide_eq_false_iff_not,C_];rw[<- hu.1,<- RP];constructor
 .rintro⟨h1,h2⟩ t ht;refine⟨λe=>?_,h2 t ht⟩;rcases h1 with h1 | h1
  .have b1:=Hw u (by simp);rcases Su.mp ht with ht | ht
   .have:=RQ t ht;lia
   .cases s_.mp ht;lia
  .rcases Su.mp ht with ht | ht
   .have b1:=Hw u (by simp);have b2:=RQ t ht;exact yC (((S8.mp hp).2.2 t ht u (by simp)).1 (by lia)) h1
   .cases s_.mp ht;exact h1
 .intro hf;refine⟨?_,λt ht=>(hf t ht).2⟩
  by_cases e:u.n=s.n
  .exact .inr ((hf u (by simp)).1 e.symm)
  .exact .inl e
theorem lY(R C:Nat)(ru:Str){fl:W7}(hs:fl.Pairwise (·>=·)):∀(j:Nat),j<=fl.length->∀h,h∈eh R C ru fl j↔h.map Sh.n=fl.take j/\(∀s∈h,s∈dZ R C s.n)/\h.Pairwise (KZ ru)
 | 0,_,h=>by
  show h∈[[]]↔_;rw[s_,List.take_zero,Vd];constructor
  .rintro rfl;exact⟨rfl,λs h=>(by cases h),.nil⟩
  .exact λh=>h.1
 | j+1,hj,x=>by
  have ih:=lY R C ru hs j (by lia);show x∈iB R C ru fl j (eh R C ru fl j)↔_;rw[pE,pG (by lia)];constructor
  .rintro⟨h,hh,s,h1,h2,rfl⟩;obtain⟨g1,g2,g3⟩:=(ih h).mp hh;have hn:=rk h1;refine⟨by rw[O_,g1,<- hn];rfl,λt ht=>?_,S8.mpr ⟨g3,Vs _ _,λt ht u hu=>?_⟩⟩
   .rcases Su.mp ht with ht | ht
    .exact g2 t ht
    .cases s_.mp ht;rw[hn];exact h1
   .cases s_.mp hu;exact(wG hs (by lia) g1 g3 hn).mp h2 t ht
  .rintro⟨g1,g2,g3⟩;obtain⟨h,s,rfl⟩:∃h s,x=h++[s]:=by
    have hne:x≠[]:=λe=>by rw[e]at g1;simp at g1
    exact⟨x.dropLast,x.getLast hne,(UW hne).symm⟩
   rw[O_]at g1;obtain⟨q1,q2⟩:=List.append_inj' g1 rfl;have hn:s.n=fl.getD j 0:=by simpa using q2
   obtain⟨p1,p2,p3⟩:=S8.mp g3;refine⟨h,(ih h).mpr ⟨q1,λt ht=>g2 t (by simp[ht]),p1⟩,s,hn▸g2 s (by simp),(wG hs (by lia) q1 p1 hn).mpr λt ht=>p3 t ht s (by simp),rfl⟩
structure PL(R C:Nat)(fl:List Nat)(ru:Str):Prop where
 r0:0<R
 r4:R<=4
 c0:0<C
 c5:C<=5
 l0:0<fl.length
 l3:fl.length<=3
 sz:∀n∈fl,1<=n/\n<=4
 up:fl.Pairwise (·>=·)
 ru:dX ru
theorem LV{r:W8}(h:r.length=7):∃a b c d e f g,r=[a,b,c,d,e,f,g]:=by
 match r,h with
 | [a,b,c,d,e,f,g],_=>exact⟨a,b,c,d,e,f,g,rfl⟩
theorem wZ:∀(ns:W8),(∀x∈ns,1<=x/\x<=4)->ns.Pairwise (·>=·)->∃fl:W7,ns.map D.int=fl.map (λ(n:Nat)=>D.int n)/\fl.length=ns.length/\(∀n∈fl,1<=n/\n<=4)/\(∀n∈fl,(n:Int)∈ns)/\fl.Pairwise (·>=·)
 | [],_,_=>⟨[],rfl,rfl,λ_ h=>(by cases h),λ_ h=>(by cases h),.nil⟩
 | x::ns,h,hp=>by
  obtain⟨p1,p2⟩:=SL.mp hp;obtain⟨fl,h1,h2,h3,h6,h7⟩:=wZ ns (λy hy=>h y (l_ _ hy)) p2;obtain⟨h4,h5⟩:=h x o_;obtain⟨n,rfl⟩:=UI (show 0<=x by lia);refine⟨n::fl,by simp[h1],by simp[h2],λm hm=>?_,λm hm=>?_,SL.mpr ⟨λm hm=>?_,h7⟩⟩
  .rcases t_.mp hm with rfl | hm
   .lia
   .exact h3 m hm
  .rcases t_.mp hm with rfl | hm
   .exact o_
   .exact l_ _ (h6 m hm)
  .have:=p1 _ (h6 m hm);lia
theorem Br{env:En}(ns:W8)(hg:bH env 9=some (.tup (ns.map .int)))(h:∀x∈ns,1<=x/\x<=4)(hl:ns.length<=3):∃fl:W7,br gC (br Bb (br sortI eG)) env=some (jM fl)/\fl.length=ns.length/\(∀n∈fl,1<=n/\n<=4)/\fl.Pairwise (·>=·):=by
 obtain⟨fl,h1,h2,h3,_,h5⟩:=wZ (ko ns).reverse (λx hx=>h x ((hV ns).mem_iff.mp (List.mem_reverse.mp hx))) (List.pairwise_reverse.mpr (qt ns));refine⟨fl,?_,by rw[h2,List.length_reverse,uc],h3,h5⟩;have e1:br sortI eG env=some (.lst ((ko ns).map .int)):=by
  rw[mj hg];show(ju (ns.map .int)).bind _=_;rw[jT];show(if ns.length<64 then _ else _)=_;rw[j_ (by lia)]
 have e2:br Bb (br sortI eG) env=some (.lst ((ko ns).map .int).reverse):=by rw[mj e1];rfl
 rw[Be e2,<- List.map_reverse,h1];rfl
theorem PP{x:Int}(h:0<=x/\x<4):x=0\/x=1\/x=2\/x=3:=by lia
theorem OS{x:Int}(h:0<=x/\x<3):x=0\/x=1\/x=2:=by lia
theorem Ei(c:Int):∃(R C:Nat)(fl:W7)(ru:Str),m__law_game [.int c]=some (.tup [.tup [.int R,.int C],jM fl,.str ru])/\PL R C fl ru:=by
 obtain⟨r,h1,h2,h3⟩:=zU c [4,4,4,4,4,4,3] (by decide) (by decide);obtain⟨w,ro,co,f,s,t,ru,rfl⟩:=LV h2;have hw:=h3 0 w 4 rfl rfl;have hro:=h3 1 ro 4 rfl rfl;have hco:=h3 2 co 4 rfl rfl;have hf:=h3 3 f 4 rfl rfl;have hs:=h3 4 s 4 rfl rfl;have ht:=h3 5 t 4 rfl rfl;have hru:=h3 6 ru 3 rfl rfl;clear h2 h3;have rule:∃u:Str,dX u/\L2.atI [D.str K5,.str K0,.str Oc] ru=some (.str u):=by
  rcases OS hru with rfl | rfl | rfl
  .exact⟨_,.inl rfl,rfl⟩
  .exact⟨_,.inr (.inl rfl),rfl⟩
  .exact⟨_,.inr (.inr rfl),rfl⟩
 obtain⟨u,hu1,hu2⟩:=rule;have fin:∀(R C:Int)(ns:W8),0<R->R<=4->0<C->C<=5->(∀x∈ns,1<=x/\x<=4)->0<ns.length->ns.length<=3->∃(R' C':Nat)(fl:W7),
   aI (setF 9 (br gC (br Bb (br sortI eG)))) (bY (bc (aa jG (aa eG (aa (ao aO (b8 (aa (fC (.str "free")) (aa (fC (.str "sides")) (aa (fC (.str "corners")) fNil)))) pH) fNil))))) [.F (.int c),.F (.int w),.F (.int ro),.F (.int co),.F (.int f),.F (.int s),.F (.int t),.F (.int ru),.F (.tup [.int R,.int C]),.F (.tup (ns.map .int))]
    = some (.rt (.tup [.tup [.int R',.int C'],jM fl,.str u]))/\PL R' C' fl u:=λR C ns g1 g2 g3 g4 g5 g6 g7=>by
  obtain⟨R',rfl⟩:=UI (Wh g1);obtain⟨C',rfl⟩:=UI (Wh g3);obtain⟨fl,k1,k2,k3,k4⟩:=Br (env:=[.F (.int c),.F (.int w),.F (.int ro),.F (.int co),.F (.int f),.F (.int s),.F (.int t),.F (.int ru),.F (.tup [.int R',.int C']),.F (.tup (ns.map .int))]) ns rfl g5 g7;exact⟨R',C',fl,(aw (a7 k1)).trans (eg (kQ (aj rfl (aj rfl (aj (eD (i:=ru) rfl rfl hu2) aN))))),by lia,by lia,by lia,by lia,by lia,by lia,k3,k4,hu1⟩
 have start:Mp [1,2,3,4,5,6,7] (λenv=>((aa aq (aa (b8 (aa Xx (aa Xx (aa Xx (aa Xx (aa Xx (aa Xx (aa Xw fNil)))))))) fNil)) env).bind m__law_drawn) (aS 10 [.int c])=some (.nx [.F (.int c),.F (.int w),.F (.int ro),.F (.int co),.F (.int f),.F (.int s),.F (.int t),.F (.int ru),.un,.un]):=LK ((call_v (aj rfl (aj rfl aN))).trans h1) rfl;rcases PP hw with rfl | rfl | rfl | rfl
 .obtain⟨R',C',fl,k1,k2⟩:=fin (1+ro) (1+co) [1+f] (by lia) (by lia) (by lia) (by lia) (by intro x hx;cases s_.mp hx;lia) (by simp) (by simp);exact⟨R',C',fl,u,bw ((aw start).trans ((aw (a7 rfl)).trans ((aw ((bO rfl).trans rfl)).trans ((aw (a7 rfl)).trans ((aw ((bO rfl).trans rfl)).trans k1))))),k2⟩
 .obtain⟨R',C',fl,k1,k2⟩:=fin (2+ro%3) (2+co%3) [1+f%3,1+s%3] (by lia) (by lia) (by lia) (by lia) (by intro x hx;simp only[t_,S0,U3]at hx;lia) (by simp) (by simp);exact⟨R',C',fl,u,bw ((aw start).trans ((aw (a7 rfl)).trans ((aw ((bO rfl).trans rfl)).trans ((aw (a7 rfl)).trans ((aw ((bO rfl).trans rfl)).trans k1))))),k2⟩
 .obtain⟨R',C',fl,k1,k2⟩:=fin (1+ro%3) (3+co%2) [1+f%3,1+s%2,1+t%2] (by lia) (by lia) (by lia) (by lia) (by intro x hx;simp only[t_,S0,U3]at hx;lia) (by simp) (by simp);exact⟨R',C',fl,u,bw ((aw start).trans ((aw (a7 rfl)).trans ((aw ((bO rfl).trans rfl)).trans ((aw (a7 rfl)).trans ((aw ((bO rfl).trans rfl)).trans k1))))),k2⟩
 .obtain⟨R',C',fl,k1,k2⟩:=fin 2 (2+co) [1+f%3,1+s%3,1+t%2] (by lia) (by lia) (by lia) (by lia) (by intro x hx;simp only[t_,S0,U3]at hx;lia) (by simp) (by simp);exact⟨R',C',fl,u,bw ((aw start).trans ((aw (a7 rfl)).trans ((aw ((eC rfl).trans (a7 rfl))).trans ((aw (a7 rfl)).trans ((aw ((eC rfl).trans (a7 rfl))).trans k1))))),k2⟩
theorem PL.ten{R C:Nat}{fl:W7}{ru:Str}(h:PL R C fl ru):∀n∈fl,1<=n/\n<=10:=λn hn=>by have:=h.sz n hn;lia
theorem PL.all{R C:Nat}{fl:W7}{ru:Str}(h:PL R C fl ru):m__law_all [.tup [.int R,.int C],jM fl,.str ru]=some (.lst ((eh R C ru fl fl.length).map az)):=IE R C h.r4 h.c5 ru h.ru fl h.l3 h.ten
theorem PL.len{R C:Nat}{fl:W7}{ru:Str}(h:PL R C fl ru):(eh R C ru fl fl.length).length<=64000:=B_ (jF R C h.r4 h.c5 ru fl fl.length) (Hl h.l3)
theorem PL.one{R C:Nat}{fl:W7}{ru:Str}(h:PL R C fl ru):PL R C [1] ru:=⟨h.r0,h.r4,h.c0,h.c5,by decide,by decide,by decide,by simp,h.ru⟩
theorem PL.ne{R C:Nat}{fl:W7}{ru:Str}(h:PL R C fl ru):eh R C ru [1] 1≠[]:=by
 have:[(⟨0,0,false,1⟩:Sh)]∈eh R C ru [1] 1:=(lY R C ru (by simp) 1 (by decide) _).mpr ⟨rfl,λs hs=>by
  cases s_.mp hs;exact ky.mpr ⟨⟨0,0,rfl,rfl,h.r0,h.c0⟩,rfl,λ_=>(by have:=h.c0;simp only;lia),λz=>by cases z⟩,Vs _ _⟩
 intro e;rw[e]at this;cases this
theorem IB(h:List Sh):pl (az h)=true:=by unfold az pl;exact AH _ λx hx=>by obtain⟨s,_,rfl⟩:=y_.mp hx;rfl
theorem Cj(hs:List (List Sh)):iV (hs.map az)=true:=AH _ λx hx=>by obtain⟨s,_,rfl⟩:=y_.mp hx;exact IB s
theorem yI(c:Int):∃(R C:Nat)(fl:W7)(ru:Str),m__law_played [.int c]=some (.tup [.tup [.int R,.int C],jM fl,.str ru,.lst ((eh R C ru fl fl.length).map az)])/\PL R C fl ru/\eh R C ru fl fl.length≠[]:=by
 obtain⟨R,C,fl,ru,h1,hp⟩:=Ei c;have a1:=hp.all;have b1:=hp.one.all;obtain⟨rows,hr⟩:∃rows,rows=eh R C ru fl fl.length:=⟨_,rfl⟩;rw[<- hr]at a1;have heq:fB (ao iw aP (b8 fNil)) [.F (.int c),.F (.tup [.int R,.int C]),.F (jM fl),.F (.str ru),.F (.lst (rows.map az))]=some (rows.map az).isEmpty:=ez (Ef rfl (Cj rows));have start:GS [1,2,3] (λenv=>((aa aq fNil) env).bind m__law_game) (aS 5 [.int c])=some (.nx [.F (.int c),.F (.tup [.int R,.int C]),.F (jM fl),.F (.str ru),.un]):=xW ((call_v (aj rfl aN)).trans h1) rfl;cases rows with
 | nil=>
  exact⟨R,C,[1],ru,bw ((aw start).trans ((aw (a7 ((call_v (aj rfl (aj rfl (aj rfl aN)))).trans a1))).trans ((aw ((eC heq).trans ((aw (a7 rfl)).trans (a7 ((call_v (aj rfl (aj rfl (aj rfl aN)))).trans b1))))).trans (eg rfl)))),hp.one,hp.ne⟩
 | cons r rows=>
  refine⟨R,C,fl,ru,?_,hp,by rw[<- hr];simp⟩;rw[<- hr];exact bw ((aw start).trans ((aw (a7 ((call_v (aj rfl (aj rfl (aj rfl aN)))).trans a1))).trans ((aw ((bO heq).trans rfl)).trans (eg rfl))))
theorem jx(f g:α->D)(p:α->Bool):∀(xs:List α),(∀x∈xs,∃e1,t (f x) env=some e1/\c e1=some (p x)/\(p x=true->k e1=some [g x]))->jN t c k env (xs.map f)=some ((xs.filter p).map g)
 | [],_=>rfl
 | x::xs,h=>by
  obtain⟨e1,h1,h2,h3⟩:=h x o_;have ih:=jx f g p xs λy hy=>h y (l_ _ hy);show jN _ _ _ _ (f x::xs.map f)=_;unfold jN;rw[h1];show(c e1).bind _=_;rw[h2];cases hp:p x with
  | true=>
   show(if true=true then k e1 else some []).bind _=_;rw[j_ rfl,h3 hp];show(jN t c k env (xs.map f)).bind _=_;rw[ih,UH,j_ hp];rfl
  | false=>
   simp only[H_,x_,SV,ih,Uw,UH,hp]
abbrev Pt:=Int×Int
def Dp(R C:Nat):List Pt:=(List.range R).flatMap λi=>(List.range C).map λj=>(((i:Nat):Int),((j:Nat):Int))
theorem Jx:∀R:Fin 5,∀C:Fin 6,(Dp R C).Nodup/\(Dp R C).length<=20:=by decide
theorem xw(h:f env=some (.lst ds)):Du f env=some (jz 0 ds):=by unfold Du;rw[h];rfl
theorem vC(xs:List α)(k:Nat)(y:α):(insAt xs k y).Perm (y::xs):=by
 unfold insAt;have:=List.perm_middle (a:=y) (l₁:=xs.take k) (l₂:=xs.drop k);rwa [Um]at this
theorem Lv(h1:env[i]?=some (.O (.L ds)))(hk:fk env=some (.int j))(h:f env=some d)(h0:0<=j)(hj:j<=ds.length)(hl:ds.length<16000000):Ah i fk f env=some (.nx (env.set i (.O (.L (insAt ds j.toNat d))))):=by
 unfold Ah;rw[h1];show(fk env).bind _=_;rw[hk];show(f env).bind _=_;rw[h];show(if 0<=j/\j<=ds.length/\ds.length<16000000 then _ else _)=_;rw[j_ ⟨h0,hj,hl⟩]
theorem xh:∀(xs:List α),(∀x∈xs,pl (f x)=true)->iV (xs.map f)=true
 | [],_=>rfl
 | x::xs,h=>by
  show iV (f x::xs.map f)=true;unfold iV;rw[h x o_,xh xs λy hy=>h y (l_ _ hy)];rfl
theorem z8(p:W9):pl (cel p)=true:=rfl
theorem vz(q p:Pt):iP (cel q) (cel p)=decide (q=p):=by
 obtain⟨a,b⟩:=q;obtain⟨c,d⟩:=p;unfold cel;simp only[iP,jb,UB,Bool.and_true];rw[Ta];simp
theorem HV(p:Pt)(cs:List Pt):inD (cel p) (cs.map cel)=decide (p∈cs):=by
 unfold inD;rw[List.any_map,Ta,WG,C_];constructor
 .rintro⟨q,hq,he⟩;rw[We,vz,C_]at he;exact he▸hq
 .intro h;exact⟨p,h,by rw[We,vz,C_]⟩
theorem FF(p:Pt):dep (cel p)<=60:=B_ (xT (n:=0) λd hd=>by
 rcases t_.mp hd with rfl | hd
 .rw[lK];exact h_ _
 .cases s_.mp hd;rw[lK];exact h_ _) (by decide)
theorem w9(cs:List Pt):iV (cs.map cel)=true:=xh cs λp _=>z8 p
theorem MB{f g:Fe}{env:En}{p:Pt}{cs:List Pt}(h1:f env=some (cel p))(h2:g env=some (.lst (cs.map cel))):ao (Dl false) f g env=some (.bl (decide (p∈cs))):=PJ h1 h2 (FF p) (HV p cs) (by rw[z8,w9];rfl)
def Apart(h:List Sh):Prop:=h.Pairwise λs t=>∀p∈s.cs,p∉t.cs
def Gk(h:List Sh)(p:Pt):Bool:=h.any λs=>decide (p∈s.cs)
theorem Cm(s:Sh):s.cs.Nodup:=by
 unfold Sh.cs;refine Ti.mpr (List.Pairwise.imp (λ{i j} (h:i≠j) e=>?_) List.nodup_range);unfold Sh.at at e
 split at e
 .have:=(Prod.mk.inj e).1;lia
 .have:=(Prod.mk.inj e).2;lia
theorem zd(hr:dX ru)(hn:∀s∈h,1<=s.n)(pw:h.Pairwise (KZ ru)):Apart h:=by
 refine Ve (λ{s t} hs ht hf p hp hq=>?_) pw;refine(tm hr (hn s hs) (hn t ht)).mp hf.2 ⟨p,hq,p,hp,(0,0),?_,by unfold plus;simp⟩;rcases hr with rfl | rfl | rfl
 .rw[nr];simp
 .rw[l9];simp
 .rw[mP];simp
structure Hid(R C:Nat)(fl:List Nat)(h:List Sh):Prop where
 ap:Apart h
 len:h.length<=3
 sz:∀s∈h,1<=s.n/\s.n<=4
 on:∀s∈h,s∈dZ R C s.n
theorem PL.hid{R C:Nat}{fl:W7}{ru:Str}(p:PL R C fl ru){h:List Sh}(hh:h∈eh R C ru fl fl.length):Hid R C fl h:=by
 obtain⟨a,b,c⟩:=(lY R C ru p.up _ (h_ _) h).mp hh;rw[Td]at a;have sz:∀s∈h,1<=s.n/\s.n<=4:=λs hs=>p.sz s.n (a▸SW hs);exact⟨zd p.ru (λs hs=>(sz s hs).1) c,by have:=Tp List.length a;rw[c_]at this;have:=p.l3;lia,sz,b⟩
theorem Cp(xs:List Pt):dep (.lst (xs.map cel))<=60:=B_ (DU (n:=1) λd hd=>by
 obtain⟨p,_,rfl⟩:=y_.mp hd;exact xT (n:=0) λd hd=>by
  rcases t_.mp hd with rfl | hd
  .rw[lK];exact h_ _
  .cases s_.mp hd;rw[lK];exact h_ _) (by decide)
theorem Aj{ks:List Pt}(h:ks.Nodup)(p:Pt):(ie ks p).Nodup:=by
 unfold ie
 split
 .exact h
 .rename_i hp;exact S8.mpr ⟨h,Vs _ _,λa ha b hb e=>by rw[s_.mp hb]at e;exact hp (e▸ha)⟩
theorem DS(s0 s3:Slot)(s:Sh)(hn:s.n<=1000)(ks:List Pt)(hk:ks.length<=15000)(Qe:ks.Nodup) :
  ∃gq zR,dr [s0,.O (qS ks),.F s.d,s3]=some (.nx [s0,.O (qS gq),.F s.d,zR])/\gq.length<=ks.length+s.n/\gq.Nodup/\∀q,q∈gq↔q∈ks\/q∈s.cs:=by
 have hlen:=uU s;obtain⟨e2,h1,gq,zR,h2,h3,QJ,h4⟩:=bR (t:=b9 3) (body:=gg) (λj e=>∃gq zR,e=[s0,.O (qS gq),.F s.d,zR]/\gq.length<=ks.length+j/\gq.Nodup/\∀q,q∈gq↔q∈ks\/q∈s.cs.take j) (s.cs.map cel) 0 [s0,.O (qS ks),.F s.d,s3] ⟨ks,s3,rfl,by lia,Qe,λq=>by simp⟩ λi d e hd aC=>by
  obtain⟨gq,zR,he,h3,QJ,h4⟩:=aC;subst he;rw[m_]at hd;obtain⟨q,hq,rfl⟩:=D_.mp hd;have hi:=(i_.mp hq).1;have u3:=wY gq (q.1,q.2);refine⟨_,eQ (e0:=[s0,.O (qS gq),.F s.d,.F (cel q)]) rfl (Hf (ks:=gq) (a:=q.1) (b:=q.2) rfl rfl (by lia)),_,_,rfl,by lia,Aj QJ _,λx=>?_⟩;rw[wJ,h4,Ss,UA,hq];simp only[Wr,Su,s_,or_assoc]
 subst h2;rw[c_,Ss]at h3 h4;rw[Td]at h4;exact⟨gq,zR,(bX (cQ ((call_v (aj rfl aN)).trans (l8 s hn)))).trans h1,by lia,QJ,h4⟩
theorem yN(h:List Sh)(h3:h.length<=3)(hn:∀s∈h,s.n<=4):∃ks,m__law_ground [az h]=some (du ks)/\ks.Nodup/\∀q,q∈ks↔Gk h q=true:=by
 obtain⟨e2,g1,ks,s2,s3,g2,g3,g3n,g4⟩:=bR (t:=b9 2) (body:=dr) (λj e=>∃ks s2 s3,e=[.F (az h),.O (qS ks),s2,s3]/\ks.length<=4*j/\ks.Nodup/\∀q,q∈ks↔Gk (h.take j) q=true) (h.map Sh.d) 0 [.F (az h),.O (qS []),.un,.un] ⟨[],.un,.un,rfl,by simp,.nil,λq=>by simp[Gk]⟩ λi d e hd aC=>by
  obtain⟨ks,s2,s3,he,k3,k3n,k4⟩:=aC;subst he;rw[m_]at hd;obtain⟨s,hs,rfl⟩:=D_.mp hd;have hi:=(i_.mp hs).1;have hm:=hn s (R_ hs);obtain⟨gq,zR,u1,u2,u2n,u3⟩:=DS (.F (az h)) s3 s (by lia) ks (by lia) k3n;refine⟨_,eQ (e0:=[.F (az h),.O (qS ks),.F s.d,s3]) rfl u1,gq,_,_,rfl,by lia,u2n,λq=>?_⟩;rw[u3,k4,Ss,UA,hs];unfold Gk;simp
 subst g2;rw[c_,Ss,Td]at g4;exact⟨ks,bw ((aw rfl).trans ((aw ((bX (G5 rfl)).trans g1)).trans rfl)),g3n,g4⟩
omit [Th] in
theorem jv{α:Type}{t:Ft}{c:Fb}{k:Xo}{env:En}(f:α->D)(g:α->Xq):∀(xs:List α),(∀x∈xs,∃e1,t (f x) env=some e1/\c e1=some true/\k e1=some (g x))->jN t c k env (xs.map f)=some (xs.flatMap g)
 | [],_=>rfl
 | x::xs,h=>by
  obtain⟨e1,h1,h2,h3⟩:=h x (o_ ..);have ih:=jv f g xs λy hy=>h y (l_ _ hy);show(t (f x) env).bind _=_;rw[h1,H_,h2,H_,j_ rfl,h3,H_,ih];rfl
def xf(h:List Sh):List Pt:=h.flatMap Sh.cs
def lyP(h:List Sh):List Pt:=la (xf h)
omit [Th] in
theorem lI{h:List Sh}{p:Pt}:p∈xf h↔Gk h p=true:=by
 unfold xf Gk;rw[Ug,WG];exact⟨λ⟨s,h1,h2⟩=>⟨s,h1,w_ h2⟩,λ⟨s,h1,h2⟩=>⟨s,h1,Sy h2⟩⟩
theorem jw:∀{h:List Sh},Apart h->(xf h).Nodup
 | [],_=>U6
 | s::h,ap=>by
  obtain⟨a1,a2⟩:=SL.mp ap;show(s.cs++xf h).Nodup;refine U2.mpr ⟨Cm s,jw a2,λp hp q hq e=>?_⟩;subst e;obtain⟨t,h1,h2⟩:=Ug.mp hq;exact a1 t h1 p hp h2
structure HC(R C:Nat)(h:List Sh):Prop where
 ap:Apart h
 len:h.length<=3
 sz:∀s∈h,1<=s.n/\s.n<=4
 on:∀p,Gk h p=true->p∈Dp R C
omit [Th] in
theorem wF{R C:Nat}{p:Pt}:p∈Dp R C↔0<=p.1/\p.1<R/\0<=p.2/\p.2<C:=by
 unfold Dp;rw[Ug];constructor
 .rintro⟨i,hi,h⟩;obtain⟨j,hj,rfl⟩:=y_.mp h;have:=SA.mp hi;have:=SA.mp hj;dsimp only
  lia
 .rintro⟨h1,h2,h3,h4⟩;refine⟨p.1.toNat,SA.mpr (by lia),y_.mpr ⟨p.2.toNat,SA.mpr (by lia),?_⟩⟩;obtain⟨a,b⟩:=p;simp only at *;rw[UB]
  lia
omit [Th] in
theorem lP{R C:Nat}(hR:R<=4)(hC:C<=5){p:Pt}(h:p∈Dp R C):okP p:=by
 obtain⟨h1,h2,h3,h4⟩:=wF.mp h;exact⟨h1,by lia,h3,by lia⟩
theorem HC.okP{R C:Nat}(hR:R<=4)(hC:C<=5){h:List Sh}(H:HC R C h):∀p∈xf h,Mi.okP p:=λp hp=>lP hR hC (H.on p (lI.mp hp))
theorem HC.mem{R C:Nat}(hR:R<=4)(hC:C<=5){h:List Sh}(H:HC R C h){p:Pt}:p∈lyP h↔Gk h p=true:=by
 unfold lyP;rw[fG (H.okP hR hC),lI]
theorem vj{h:List Sh}(h3:h.length<=3)(hs:∀s∈h,s.n<=4):(xf h).length<=12:=by
 have:∀l:List Sh,(∀s∈l,s.n<=4)->(xf l).length<=4*l.length:=λl hl=>by
  induction l with
  | nil=>exact h_ _
  | cons s l ih=>
   show(s.cs++xf l).length<=_;rw[r_,uU,A_];have:=ih λt ht=>hl t (l_ _ ht);have:=hl s (o_ ..)
   lia
 have:=this h hs
 lia
theorem DM:dm=kk:=rfl
theorem iT(L:List Pt)(ok:∀p∈L,Mi.okP p)(nd:L.Nodup)(hl:L.length<64):kW (.lst (L.map cel))=some (.lst ((la L).map cel)):=by
 obtain⟨o1,o2⟩:=pM (la L) L (gH ok nd) (λp hp=>ok p ((fG ok).mp hp)) (vO _);show(kE (L.map cel)).bind _=_;rw[nK];show(if _ then _ else none)=_;rw[DM,j_ ⟨by rw[c_];exact hl,o2⟩];congr 2;rw[<- o1,SO];refine Wc λi hi=>?_;have hi':=hW i hi;rw[c_]at hi';show(L.map cel).getD i .non=cel (L.getD i (0,0));rw[g_,g_,m_,f_ hi'];rfl
theorem AJ{R C:Nat}(hR:R<=4)(hC:C<=5){h:List Sh}(H:HC R C h):m_lying_cells [az h]=some (.lst ((lyP h).map cel)):=by
 have hl:=vj H.len λs hs=>(H.sz s hs).2;have g:=jv (t:=b9 0) (c:=λ_=>some true) (k:=fy (kA (λenv=>((aa aq fNil) env).bind m_cells_of)) [1] (b9 1) Xy (bj ah)) (env:=[.un,.un]) Sh.d (λs=>s.cs.map cel) h λs hs=>by
  refine⟨[.F s.d,.un],rfl,rfl,vp (cQ ((call_v (aj rfl aN)).trans (vL s (by have:=(H.sz s hs).2;lia)))) rfl ?_⟩;exact dN (t:=b9 1) (k:=bj ah) (env:=[.F s.d,.un]) cel cel s.cs λp _=>⟨[.F s.d,.F (cel p)],rfl,rfl⟩
 have e:h.flatMap (λs=>s.cs.map cel)=(xf h).map cel:=by unfold xf;rw[U_]
 rw[e]at g;refine bw (eg ((mj (dA (G5 rfl) rfl g (by rw[c_];lia))).trans ?_));exact iT (xf h) (H.okP hR hC) (jw H.ap) (by lia)
theorem pW:∀(xs ys:List Pt),jb (xs.map cel) (ys.map cel)=decide (xs=ys)
 | [],[]=>rfl
 | [],y::ys=>rfl
 | x::xs,[]=>rfl
 | x::xs,y::ys=>by
  show jb (cel x::xs.map cel) (cel y::ys.map cel)=_;unfold jb;rw[pW xs ys,vz,Ta];simp
theorem xj(xs:List Pt):pl (.lst (xs.map cel))=true:=by unfold pl;exact w9 xs
theorem AD{f g:Fe}{env:En}{xs ys:List Pt}(h1:f env=some (.lst (xs.map cel)))(h2:g env=some (.lst (ys.map cel))):ao iw f g env=some (.bl (decide (xs=ys))):=
 M0 h1 h2 (LY (Cp xs) (by rw[xj,xj];rfl)) (by rw[iP];exact pW xs ys)
def iN(n:Nat):List (Nat×Nat):=(List.range n).flatMap λo=>(List.range o).map λi=>(i,o)
def pD(q:Nat×Nat):D:=.tup [.int (q.1:Nat),.int (q.2:Nat)]
omit [Th] in
theorem qh{n:Nat}{q:Nat×Nat}(h:q∈iN n):q.1<q.2/\q.2<n:=by
 unfold iN at h;obtain⟨o,h1,h2⟩:=Ug.mp h;obtain⟨i,h3,rfl⟩:=y_.mp h2;exact⟨SA.mp h3,SA.mp h1⟩
omit [Th] in
theorem su:∀n:Fin 11,(iN n).length<64:=by decide +kernel
def bD(L:List Pt):D:=.lst (L.map cel)
omit [Th] in
theorem FL:∀n:Fin 11,(iN n).Nodup:=by decide +kernel
omit [Th] in
theorem BL{n i o:Nat}(h1:i<o)(h2:o<n):(i,o)∈iN n:=Ug.mpr ⟨o,SA.mpr h2,y_.mpr ⟨i,SA.mpr h1,rfl⟩⟩
omit [Th] in
theorem Ng(n:Nat):aG 0 n=(List.range n).map λ(i:Nat)=>D.int (i:Int):=by unfold aG;simp
def Fq(q:Nat×Nat):Pt:=((q.1:Nat),(q.2:Nat))
theorem zW(n:Nat)(hn:n<=10){env:En}{f:Fe}(h:br ck f env=some (.int (n:Nat))):cq (gj (br ck f)) [0] (b9 0) Xy (fy (gj aq) [1] (b9 1) Xy (bj (bc (aa ah (aa aq fNil))))) 2 [] env=some (.lst ((iN n).map pD)):=by
 have g:=jv (t:=b9 0) (c:=λ_=>some true) (k:=fy (gj aq) [1] (b9 1) Xy (bj (bc (aa ah (aa aq fNil))))) (env:=[.un,.un]) (λ(i:Nat)=>D.int (i:Int)) (λo=>(List.range o).map λi=>pD (i,o)) (List.range n) λo ho=>by
  have ho':=SA.mp ho;refine⟨[.F (.int (o:Nat)),.un],rfl,rfl,vp (fO (n:=o) rfl (by lia)) rfl ?_⟩;rw[Ng];exact dN (t:=b9 1) (k:=bj (bc (aa ah (aa aq fNil)))) (env:=[.F (.int (o:Nat)),.un]) (λ(i:Nat)=>D.int (i:Int)) (λi=>pD (i,o)) (List.range o) λi _=>⟨[.F (.int (o:Nat)),.F (.int (i:Nat))],rfl,rfl⟩
 have e:((List.range n).flatMap λo=>(List.range o).map λi=>pD (i,o))=(iN n).map pD:=by
  unfold iN;rw[U_];congr 1;funext o;rw[SO];rfl
 rw[e]at g;have hl:=su ⟨n,by lia⟩;refine dA (fO h (by lia)) rfl ?_ (by rw[c_];exact TV (N_ hl (by decide)));rw[Ng];exact g
theorem pU{Bs:List (List Pt)}{i:Nat}(hi:i<Bs.length):L2.atI (Bs.map bD) (i:Int)=some (bD (Bs.getD i [])):=dP (by rw[m_,f_ hi,g_,f_ hi];rfl)
theorem B9(Bs:List (List Pt))(hb:Bs.length<=10):∃es:List Pt,m_alike_pairs [.lst (Bs.map bD)]=some (.lst (es.map cel))/\(es=[]↔Bs.Nodup):=by
 let p:Nat×Nat->Bool:=λq=>decide (Bs.getD q.1 []=Bs.getD q.2 [])
 have g:=jx (t:=oj [0,1]) (c:=fB (ao iw (ao aO aK aq) (ao aO aK ah))) (k:=bj (bc (aa aq (aa ah fNil)))) (env:=[.un,.un,.F (.lst (Bs.map bD))]) pD pD p (iN Bs.length) λq hq=>by
  obtain⟨h1,h2⟩:=qh hq;exact⟨[.F (.int (q.1:Nat)),.F (.int (q.2:Nat)),.F (.lst (Bs.map bD))],rfl,ez (AD (eD rfl rfl (pU (by lia))) (eD rfl rfl (pU h2))),λ_=>rfl⟩
 have hl:=su ⟨Bs.length,by lia⟩;have hnd:=FL ⟨Bs.length,by lia⟩;have hfl:=To p (iN Bs.length);have inj:∀a b:Nat×Nat,Fq a=Fq b->a=b:=λa b e=>by
  obtain⟨a1,a2⟩:=a;obtain⟨b1,b2⟩:=b;simp only[Fq,UB]at e ⊢
  lia
 have ok:∀x∈((iN Bs.length).filter p).map Fq,Mi.okP x:=λx hx=>by
  obtain⟨q,hq,rfl⟩:=y_.mp hx;obtain⟨h1,h2⟩:=qh (SH.mp hq).1;exact⟨by show(0:Int)<=(q.1:Nat);lia,by show((q.1:Nat):Int)<64;lia,by show(0:Int)<=(q.2:Nat);lia,by show((q.2:Nat):Int)<64;lia⟩
 have nd:(((iN Bs.length).filter p).map Fq).Nodup:=by
  rw[List.Nodup,Ti];exact(hnd.filter _).imp λh e=>h (inj _ _ e)
 have srt:=iT (((iN Bs.length).filter p).map Fq) ok nd (by rw[c_];exact UR hfl hl);rw[SO]at srt;refine⟨la (((iN Bs.length).filter p).map Fq),bw ((aw (a7 (zW Bs.length hb ((gf rfl).trans (by rw[c_]))))).trans (eg ((mj (dA (cQ rfl) rfl g (by rw[c_];exact B_ hfl (TV (N_ hl (by decide)))))).trans srt))),?_⟩;constructor
 .intro h;refine SU.mpr λi j hi hj yc e=>?_;have:Fq (i,j)∈la (((iN Bs.length).filter p).map Fq):=(fG ok).mpr (y_.mpr ⟨(i,j),SH.mpr ⟨BL yc hj,w_ (by rw[g_,g_,f_ hi,f_ hj];exact e)⟩,rfl⟩);rw[h]at this;cases this
 .intro h;refine List.eq_nil_iff_forall_not_mem.mpr λx hx=>?_;obtain⟨q,hq,rfl⟩:=y_.mp ((fG ok).mp hx);obtain⟨h1,h2⟩:=SH.mp hq;obtain⟨h3,h4⟩:=qh h1;have e:=Sy h2;rw[g_,g_,f_ h4,f_ (Vu h3 h4)]at e;exact SU.mp h q.1 q.2 _ h4 h3 e
def zr:List Bool->Nat
 | []=>0
 | b::r=>(if b=true then 1 else 0)+2*zr r
omit [Th] in
theorem yJ(b:Bool)(r:List Bool):zr (b::r)=(if b=true then 1 else 0)+2*zr r:=rfl
def jk(Bs:List (List Pt))(p:Pt):Nat:=zr (Bs.map λL=>decide (p∈L))
def nums:Nat->List (List Pt)->List (Nat×List Pt)
 | _,[]=>[]
 | k,L::r=>(k,L)::nums (k+1) r
def nD(x:Nat×List Pt):D:=.tup [.int (x.1:Nat),bD x.2]
omit [Th] in
theorem oH:∀(k:Nat)(Bs:List (List Pt)),jz k (Bs.map bD)=(nums k Bs).map nD
 | _,[]=>rfl
 | k,L::r=>by
  show D.tup [.int (k:Int),bD L]::jz (k+1) (r.map bD)=nD (k,L)::(nums (k+1) r).map nD;rw[oH (k+1) r];rfl
omit [Th] in
theorem xV:∀{k:Nat}{Bs:List (List Pt)}{x:Nat×List Pt},x∈nums k Bs->x.1<k+Bs.length
 | _,[],_,h=>by cases h
 | k,L::r,x,h=>by
  rcases t_.mp h with rfl | h
  .show k<_;simp
  .have:=xV h;rw[A_];lia
omit [Th] in
theorem tJ(p:Pt):∀(k:Nat)(Bs:List (List Pt)),((((nums k Bs).filter λx=>decide (p∈x.2)).map λx=>(2:Int) ^ x.1).sum)=((2 ^ k*jk Bs p:Nat):Int)
 | k,[]=>by show(0:Int)=_;unfold jk zr;simp
 | k,L::r=>by
  have ih:=tJ p (k+1) r;have e:jk (L::r) p=(if decide (p∈L)=true then 1 else 0)+2*jk r p:=rfl;show(((List.filter _ ((k,L)::nums (k+1) r)).map λx=>(2:Int) ^ x.1).sum)=_;rw[e,UH]
  by_cases h:p∈L
  .rw[j_ (w_ h),j_ (w_ h),L_,List.sum_cons,ih];rw[TU,VU,Nat.mul_one,Int.natCast_add,Int.natCast_pow];congr 2;rw[<- UX]
  .rw[k_ (by simpa using h),k_ (by simpa using h),ih,TU,Ss,<- UX]
theorem Ni(Bs:List (List Pt))(hb:Bs.length<=10)(p:Pt)(s1:Slot):br Ek (cq (Du aq) [0,1] (oj [0,1]) (fB (ao (Dl false) aK ah)) (bj (ao mO Xu aq)) 2 [2]) [.F (.lst (Bs.map bD)),s1,.F (cel p)]=some (.int (jk Bs p:Nat)):=by
 have g:=jx (t:=oj [0,1]) (c:=fB (ao (Dl false) aK ah)) (k:=bj (ao mO Xu aq)) (env:=[.un,.un,.F (cel p)]) nD (λx=>D.int ((2:Int) ^ x.1)) (λx=>decide (p∈x.2)) (nums 0 Bs) λx hx=>by
  have:=xV hx;refine⟨[.F (.int (x.1:Nat)),.F (bD x.2),.F (cel p)],rfl,ez (MB (p:=p) (cs:=x.2) rfl rfl),λ_=>mi ?_⟩;refine(aD rfl rfl).trans ?_;show(if decide (0<=((x.1:Nat):Int)/\((x.1:Nat):Int)<=1000000/\(1:Int).natAbs<2 ^ 64)=true then some (D.int (1*2 ^ ((x.1:Nat):Int).toNat))else none)=_;rw[j_ (w_ ⟨by lia,by lia,by decide⟩),Int.one_mul,SR]
 have hl:(nums 0 Bs).length=Bs.length:=by
  have:∀(k:Nat)(l:List (List Pt)),(nums k l).length=l.length:=λk l=>by
   induction l generalizing k with
   | nil=>rfl
   | cons L l ih=>show(nums (k+1) l).length+1=_;rw[ih];rfl
  exact this 0 Bs
 have hf:=To (λx:Nat×List Pt=>decide (p∈x.2)) (nums 0 Bs);have c1:=dA (fi:=Du aq) (env:=[.F (.lst (Bs.map bD)),s1,.F (cel p)]) (xw rfl) (n:=2) (caps:=[2]) (is:=[0,1]) rfl (by rw[oH];exact g) (by rw[c_];lia);rw[show ∀l:List (Nat×List Pt),(l.map λx=>D.int ((2:Int) ^ x.1))=(l.map λx=>(2:Int) ^ x.1).map D.int from λl=>by rw[SO];rfl]at c1;refine(mj c1).trans ?_;show(ju _).bind _=_;rw[jT];show some (D.int _)=_;rw[tJ p 0 Bs,Nat.pow_zero,Nat.one_mul]
def bx(ls:W7)(vs:List Pt):D:=.ix Th.h (ls.map λn=>Sum.inl ((n:Nat):Int)) (vs.map cel)
def Ds(ls:W7)(vs:List Pt):rM:=.I Th.h (ls.map λn=>Sum.inl ((n:Nat):Int)) (vs.map cel)
omit [Th] in
theorem wN{ls:W7}{n:Nat}:(Sum.inl ((n:Nat):Int):L2.Key)∈ls.map (λn=>Sum.inl ((n:Nat):Int))↔n∈ls:=by
 rw[y_];constructor
 .rintro⟨m,h,e⟩;have:(m:Int)=n:=Sum.inl.inj e;rw[show n=m by lia];exact h
 .exact λh=>⟨n,h,rfl⟩
open Classical in
theorem My{fk fx:Fe}{env:En}{i n:Nat}{p:Pt}{ls:W7}{vs:List Pt}(hk:fk env=some (.int (n:Nat)))(hx:fx env=some (cel p))(he:env[i]?=some (.O (Ds ls vs)))(hl:vs.length=ls.length)(hz:ls.length<1000) :
  HQ Th.h i fk fx env=some (.nx (env.set i (.O (if n∈ls then Ds ls vs else Ds (ls++[n]) (vs++[p]))))):=by
 show(fk env).bind _=_;rw[hk,H_,hx,H_];show(match env[i]? with | some (.O (.I zL ks ds))=>if zL=Th.h/\ks.length<16000000/\ds.length=ks.length then some (Out.nx (env.set i (.O (if(Sum.inl ((n:Nat):Int):L2.Key)∈ks then .I Th.h ks ds else .I Th.h (ks++[Sum.inl ((n:Nat):Int)]) (ds++[cel p])))))else none | _=>none)=_;rw[he];show(if Th.h=Th.h/\(ls.map λn=>(Sum.inl ((n:Nat):Int):L2.Key)).length<16000000/\(vs.map cel).length=(ls.map λn=>(Sum.inl ((n:Nat):Int):L2.Key)).length then _ else none)=_;rw[j_ ⟨rfl,by rw[c_];lia,by rw[c_,c_,hl]⟩];congr 4
 by_cases h:n∈ls
 .rw[j_ (wN.mpr h),j_ h];rfl
 .rw[k_ (λz=>h (wN.mp z)),k_ h];unfold Ds;rw[O_,O_];rfl
def vo(Bs:List (List Pt)):List Pt:=la (tD Bs.flatten)
structure DG(R C:Nat)(Bs:List (List Pt)):Prop where
 r:R<=4
 c:C<=5
 len:Bs.length<=10
 on:∀L∈Bs,∀p∈L,p∈Dp R C
 few:∀L∈Bs,L.length<=100
theorem DG.ok{R C:Nat}{Bs:List (List Pt)}(H:DG R C Bs):∀p∈tD Bs.flatten,Mi.okP p:=λp hp=>by
 obtain⟨L,h1,h2⟩:=WH.mp ((i9 _ _).mp hp);exact lP H.r H.c (H.on L h1 p h2)
theorem DG.mem{R C:Nat}{Bs:List (List Pt)}(H:DG R C Bs){p:Pt}:p∈vo Bs↔∃L∈Bs,p∈L:=by
 unfold vo;rw[fG H.ok,i9,WH]
theorem B5(l:List Pt):(tD l).Nodup:=by
 have:∀(l acc:List Pt),acc.Nodup->(l.foldl ie acc).Nodup:=λl=>by
  induction l with
  | nil=>exact λacc h=>h
  | cons x l ih=>exact λacc h=>ih _ (Aj h x)
 exact this l [] U6
theorem DG.len20{R C:Nat}{Bs:List (List Pt)}(H:DG R C Bs):(tD Bs.flatten).length<=20/\(vo Bs).length<=20:=by
 have s:=Jx ⟨R,by have:=H.r;lia⟩ ⟨C,by have:=H.c;lia⟩;have e1:(tD Bs.flatten).Perm ((Dp R C).filter λp=>decide (p∈tD Bs.flatten)):=(Ui (B5 _) (s.1.filter _)).mpr λp=>by
  rw[SH,C_];refine⟨λh=>⟨?_,h⟩,λh=>h.2⟩;obtain⟨L,h1,h2⟩:=WH.mp ((i9 _ _).mp h);exact H.on L h1 p h2
 have e2:=To (λp=>decide (p∈tD Bs.flatten)) (Dp R C);have e3:(tD Bs.flatten).length<=20:=by rw[e1.length_eq];exact B_ e2 s.2
 refine⟨e3,?_⟩;unfold vo;rw[<- (gH H.ok (B5 _)).length_eq];exact e3
theorem EW{R C:Nat}{Bs:List (List Pt)}(H:DG R C Bs)(s1 s2:Slot):vT (kA aq) [0] (b9 0) Xy (fy (kA aq) [1] (b9 1) Xy (oP ah)) 2 [] [.F (.lst (Bs.map bD)),s1,s2]=some (.lst ((vo Bs).map cel)):=by
 have g:=jv (t:=b9 0) (c:=λ_=>some true) (k:=fy (kA aq) [1] (b9 1) Xy (oP ah)) (env:=[.un,.un]) bD (λL=>L.map cel) Bs λL hL=>by
  refine⟨[.F (bD L),.un],rfl,rfl,vp (cQ rfl) rfl ?_⟩;refine dN (t:=b9 1) (k:=oP ah) (env:=[.F (bD L),.un]) cel cel L λp hp=>⟨[.F (bD L),.F (cel p)],rfl,?_⟩;obtain⟨h1,h2,h3,h4⟩:=lP H.r H.c (H.on L hL p hp);show(if 0<=p.1/\p.1<64/\0<=p.2/\p.2<64 then some [D.tup [.int p.1,.int p.2]]else none)=_;rw[j_ ⟨h1,h2,h3,h4⟩];rfl
 have e:Bs.flatMap (λL=>L.map cel)=Bs.flatten.map cel:=by rw[List.flatMap,List.map_flatten]
 rw[e]at g;have hl:Bs.flatten.length<=1000:=by
  have:∀l:List (List Pt),(∀L∈l,L.length<=100)->l.flatten.length<=100*l.length:=λl hl=>by
   induction l with
   | nil=>exact h_ _
   | cons L l ih=>
    rw[TF,r_,A_];have:=ih λt ht=>hl t (l_ _ ht);have:=hl L (o_ ..)
    lia
  have:=this Bs H.few;have:=H.len
  lia
 have l20:=H.len20.1;show(some (Bs.map bD)).bind _=_;rw[H_];show(jN _ _ _ _ _).bind _=_;rw[show cN 2 [] [Slot.F (.lst (Bs.map bD)),s1,s2]=[.un,.un]from rfl,g];show(if _ then _ else none)=_;rw[j_ (by rw[c_];lia),tE (f:=cel) (λ_=>rfl)];show(if _ then _ else none)=_;rw[j_ (by lia)];rfl
structure KM(Bs:List (List Pt))(cs:List Pt)(ls:List Nat)(vs:List Pt):Prop where
 len:vs.length=ls.length
 all:∀p∈cs,jk Bs p∈ls
 own:∀l∈ls,∃p,l=jk Bs p
theorem yW{R C:Nat}{Bs:List (List Pt)}(H:DG R C Bs):∃ls vs,m_cells_by_lot [.lst (Bs.map bD)]=some (bx ls vs)/\KM Bs (vo Bs) ls vs/\ls.length<=20:=by
 have l20:=H.len20.2;obtain⟨e2,h1,ls,vs,s2,rfl,h2,h3⟩:=bR (t:=b9 2) (body:=fm) (λj e=>∃ls vs s2,e=[.F (.lst (Bs.map bD)),.O (Ds ls vs),s2]/\KM Bs ((vo Bs).take j) ls vs/\ls.length<=j) ((vo Bs).map cel) 0 [.F (.lst (Bs.map bD)),.O (Ds [] []),.un] ⟨[],[],.un,rfl,⟨rfl,λp hp=>by simp at hp,λl hl=>by cases hl⟩,h_ _⟩ λi d e hd aC=>by
  obtain⟨ls,vs,s2,he,h2,h3⟩:=aC;subst he;rw[m_]at hd;obtain⟨p,hp,rfl⟩:=D_.mp hd;have hi:=(i_.mp hp).1;rw[Ss]at h2 h3 ⊢;have dv:=My (i:=1) (env:=[.F (.lst (Bs.map bD)),.O (Ds ls vs),.F (cel p)]) (fx:=λenv=>bH env 2) (Ni Bs H.len p (.O (Ds ls vs))) rfl rfl h2.len (by lia);have tk:(vo Bs).take (i+1)=(vo Bs).take i++[p]:=by rw[UA,hp];rfl
  by_cases hm:jk Bs p∈ls
  .rw[j_ hm]at dv;refine⟨_,eQ (e0:=[.F (.lst (Bs.map bD)),.O (Ds ls vs),.F (cel p)]) rfl dv,ls,vs,.F (cel p),rfl,⟨h2.len,λq hq=>?_,h2.own⟩,by lia⟩;rw[tk]at hq;rcases Su.mp hq with z | z
   .exact h2.all q z
   .rw[s_.mp z];exact hm
  .rw[k_ hm]at dv;refine⟨_,eQ (e0:=[.F (.lst (Bs.map bD)),.O (Ds ls vs),.F (cel p)]) rfl dv,ls++[jk Bs p],vs++[p],.F (cel p),rfl,⟨by rw[r_,r_,h2.len];rfl,λq hq=>?_,λl hl=>?_⟩,by rw[r_];simp;lia⟩
   .rw[tk]at hq;rcases Su.mp hq with z | z
    .exact U4 _ (h2.all q z)
    .rw[s_.mp z];exact J_ _ (s_.mpr rfl)
   .rcases Su.mp hl with z | z
    .exact h2.own l z
    .exact⟨p,s_.mp z⟩
 rw[c_,Ss,Td]at h2;rw[c_,Ss]at h3;refine⟨ls,vs,bw ((aw rfl).trans ((aw ((bX (cQ (EW H _ _))).trans h1)).trans rfl)),h2,by lia⟩
end K31
namespace K31
open PySem Mi
abbrev Bd:=List Pt
def o9(p:Pt):Bd->Bool:=λL=>decide (p∈L)
def et(p:Pt):Bd->Bool:=λL=>!decide (p∈L)
def n5:Nat->List Bd->Prop
 | 0,S=>S.length<=1
 | d+1,S=>S.length<=1\/∃p:Pt,n5 d (S.filter (o9 p))/\n5 d (S.filter (et p))
theorem F6{S:List Bd}(h:S.length<=1):∀d,n5 d S
 | 0=>h
 | _+1=>.inl h
theorem gM:∀{d:Nat}{S:List Bd},n5 d S->n5 (d+1) S
 | 0,_,h=>.inl h
 | _+1,_,.inl h=>.inl h
 | _+1,_,.inr ⟨p,a,b⟩=>.inr ⟨p,gM a,gM b⟩
theorem jh:∀{d:Nat}{S S':List Bd},S.Perm S'->n5 d S->n5 d S'
 | 0,_,_,e,h=>by show _<=1;rw[<- e.length_eq];exact h
 | _+1,_,_,e,.inl h=>.inl (by rw[<- e.length_eq];exact h)
 | _+1,_,_,e,.inr ⟨p,a,b⟩=>.inr ⟨p,jh (e.filter _) a,jh (e.filter _) b⟩
theorem rh:∀{d:Nat}{S S':List Bd},S'.Sublist S->n5 d S->n5 d S'
 | 0,_,_,e,h=>B_ e.length_le h
 | _+1,_,_,e,.inl h=>.inl (B_ e.length_le h)
 | _+1,_,_,e,.inr ⟨p,a,b⟩=>.inr ⟨p,rh (e.filter _) a,rh (e.filter _) b⟩
theorem ly(p:Pt):∀S:List Bd,(S.filter (o9 p)).length+(S.filter (et p)).length=S.length
 | []=>rfl
 | L::S=>by
  have ih:=ly p S
  by_cases h:p∈L
  .rw[UJ (by simp[o9,h]),UK (by simp[et,h]),A_,A_];lia
  .rw[UK (by simp[o9,h]),UJ (by simp[et,h]),A_,A_];lia
theorem qu:∀{d:Nat}{S:List Bd},n5 d S->S.length<=2 ^ d
 | 0,_,h=>h
 | d+1,_,.inl h=>B_ h (T3 (by decide) (Ub _))
 | d+1,S,.inr ⟨p,a,b⟩=>by
  have h1:=qu a;have h2:=qu b;have h3:=ly p S;rw[TU];lia
theorem DW{x y:Bd}(h:∃p,¬(p∈x↔p∈y)):n5 1 ([y]++[x]):=by
 obtain⟨p,hp⟩:=h;refine .inr ⟨p,?_,?_⟩
 .show(List.filter (o9 p) [y,x]).length<=1
  by_cases h1:p∈x<;>by_cases h2:p∈y<;>simp[h1,h2,o9]at hp ⊢
 .show(List.filter (et p) [y,x]).length<=1
  by_cases h1:p∈x<;>by_cases h2:p∈y<;>simp[h1,h2,et]at hp ⊢
theorem jt{S:List Bd}{d:Nat}(h:n5 d S):∀k,n5 (d+k) S
 | 0=>h
 | k+1=>gM (jt h k)
theorem wz{S:List Bd}{x:Bd}(hx:∀y∈S,∃p,¬(p∈x↔p∈y))(h:S.length<=1)(d:Nat):n5 (d+1) (S++[x]):=by
 cases S with
 | nil=>exact F6 (by simp) _
 | cons y S=>
  cases S with
  | nil=>rw[Wf];exact jt (DW (hx y (by simp))) d
  | cons _ _=>simp at h
theorem mU:∀{d:Nat}{S:List Bd}{x:Bd},(∀y∈S,∃p,¬(p∈x↔p∈y))->n5 d S->n5 (d+1) (S++[x])
 | 0,_,_,hx,h=>wz hx h 0
 | d+1,_,_,hx,.inl h=>wz hx h (d+1)
 | d+1,S,x,hx,.inr ⟨p,a,b⟩=>by
  refine .inr ⟨p,?_,?_⟩
  .rw[List.filter_append]
   by_cases h:p∈x
   .rw[show List.filter (o9 p) [x]=[x] by simp[o9,h]];exact mU (λy hy=>hx y (SH.mp hy).1) a
   .rw[show List.filter (o9 p) [x]=[] by simp[o9,h],SG];exact gM a
  .rw[List.filter_append]
   by_cases h:p∈x
   .rw[show List.filter (et p) [x]=[] by simp[et,h],SG];exact gM b
   .rw[show List.filter (et p) [x]=[x] by simp[et,h]];exact mU (λy hy=>hx y (SH.mp hy).1) b
def ou(S:List Bd)(d:Nat):Prop:=n5 d S/\∀e,n5 e S->d<=e
theorem ou.uniq{S:List Bd}{d e:Nat}(h:ou S d)(h':ou S e):d=e:=Nat.le_antisymm (h.2 _ h'.1) (h'.2 _ h.1)
theorem ou.perm{S S':List Bd}{d:Nat}(e:S.Perm S')(h:ou S d):ou S' d:=⟨jh e h.1,λk hk=>h.2 k (jh e.symm hk)⟩
theorem ou.one{S:List Bd}(h:S.length<=1):ou S 0:=⟨h,λ_ _=>Ub _⟩
theorem ou.zero{S:List Bd}{d:Nat}(h:ou S d):d=0↔S.length<=1:=⟨λe=>by subst e;exact h.1,λl=>Nat.le_zero.mp (h.2 0 l)⟩
theorem ou.grow{S:List Bd}{x:Bd}{d e:Nat}(hx:∀y∈S,∃p,¬(p∈x↔p∈y))(h:ou S d)(h':ou (S++[x]) e):d<=e/\e<=d+1:=⟨h.2 e (rh (List.sublist_append_left ..) h'.1),h'.2 _ (mU hx h.1)⟩
theorem rb{S:List Bd}(hS:¬S.length<=1){m:Nat}(h:∀p,S.filter (o9 p)≠[]->S.filter (et p)≠[]->∀e,n5 e (S.filter (o9 p))->n5 e (S.filter (et p))->m<=e):∀e,n5 e S->1+m<=e
 | 0,t=>absurd t hS
 | e+1,.inl t=>absurd t hS
 | e+1,.inr ⟨p,a,b⟩=>by
  have l:=ly p S
  by_cases h1:S.filter (o9 p)=[]
  .rw[h1]at l;have e1:S.filter (et p)=S:=Wb.mpr λL hL=>by
    have:=List.filter_eq_nil_iff.mp h1 L hL;simpa [o9,et]using this
   rw[e1]at b;exact Nat.le_succ_of_le (rb hS h e b)
  .by_cases h2:S.filter (et p)=[]
   .have e1:S.filter (o9 p)=S:=Wb.mpr λL hL=>by
     have:=List.filter_eq_nil_iff.mp h2 L hL;simpa [o9,et]using this
    rw[e1]at a;exact Nat.le_succ_of_le (rb hS h e a)
   .have:=h p h1 h2 e a b
    lia
def sel:List Bd->Nat->List Bd
 | [],_=>[]
 | B::Bs,l=>if l%2=1 then B::sel Bs (l/2)else sel Bs (l/2)
theorem jl:∀Bs,sel Bs 0=[]
 | []=>rfl
 | B::Bs=>by unfold sel;rw[k_ (by decide)];exact jl Bs
theorem jy(B:Bd)(Bs:List Bd)(p:Pt):jk (B::Bs) p=(if p∈B then 1 else 0)+2*jk Bs p:=by
 show zr (decide (p∈B)::Bs.map λL=>decide (p∈L))=_;rw[yJ];congr 1
 by_cases h:p∈B<;>simp[h]
theorem i0(p:Pt):∀(Bs:List Bd)(l:Nat),sel Bs (l &&& jk Bs p)=(sel Bs l).filter (o9 p)
 | [],_=>rfl
 | B::Bs,l=>by
  have e1:(l &&& jk (B::Bs) p)/2=l/2 &&& jk Bs p:=by
   rw[WM,jy];congr 1
   split<;>omega
  have e2:(l &&& jk (B::Bs) p)%2=1↔l%2=1/\p∈B:=by
   rw[VF,jy];refine and_congr Iff.rfl ?_
   by_cases h:p∈B
   .rw[j_ h];exact⟨λ_=>h,λ_=>by omega⟩
   .rw[k_ h];exact⟨λz=>by omega,λz=>absurd z h⟩
  unfold sel;rw[e1,i0 p Bs (l/2)]
  by_cases h1:l%2=1
  .rw[j_ h1]
   by_cases h2:p∈B
   .rw[j_ (e2.mpr ⟨h1,h2⟩),UJ (by simp[o9,h2])]
   .rw[k_ (λz=>h2 (e2.mp z).2),UK (by simp[o9,h2])]
  .rw[k_ h1,k_ (λz=>h1 (e2.mp z).1)]
theorem iZ(p:Pt):∀(Bs:List Bd)(l:Nat),sel Bs (l-(l &&& jk Bs p))=(sel Bs l).filter (et p)
 | [],_=>rfl
 | B::Bs,l=>by
  have e1:(l &&& jk (B::Bs) p)/2=l/2 &&& jk Bs p:=by
   rw[WM,jy];congr 1
   split<;>omega
  have e2:(l &&& jk (B::Bs) p)%2=1↔l%2=1/\p∈B:=by
   rw[VF,jy];refine and_congr Iff.rfl ?_
   by_cases h:p∈B
   .rw[j_ h];exact⟨λ_=>h,λ_=>by omega⟩
   .rw[k_ h];exact⟨λz=>by omega,λz=>absurd z h⟩
  have e3:l/2 &&& jk Bs p<=l/2:=WN;generalize hy:l &&& jk (B::Bs) p=y at e1 e2 ⊢;have e4:(l-y)/2=l/2-(l/2 &&& jk Bs p):=by
   rw[<- e1]at e3 ⊢
   by_cases h:y%2=1
   .have:=(e2.mp h).1;omega
   .omega
  unfold sel;rw[e4,iZ p Bs (l/2)]
  by_cases h1:l%2=1
  .rw[j_ h1]
   by_cases h2:p∈B
   .have:=e2.mpr ⟨h1,h2⟩;rw[k_ (by rw[<- e1]at e3;omega),UK (by simp[et,h2])]
   .have:¬y%2=1:=λz=>h2 (e2.mp z).2;rw[j_ (by rw[<- e1]at e3;omega),UJ (by simp[et,h2])]
  .have:¬y%2=1:=λz=>h1 (e2.mp z).1;rw[k_ h1,k_ (by rw[<- e1]at e3;omega)]
theorem lM:∀(Bs:List Bd)(l:Nat),l<2 ^ Bs.length->sel Bs l=[]->l=0
 | [],l,h,_=>by simpa using h
 | B::Bs,l,h,e=>by
  rw[A_,TU]at h;unfold sel at e
  by_cases h1:l%2=1
  .rw[j_ h1]at e;cases e
  .rw[k_ h1]at e;have:=lM Bs (l/2) (by omega) e;omega
theorem jB:∀(Bs:List Bd)(l:Nat),l<2 ^ Bs.length->(l &&& (l-1)=0↔(sel Bs l).length<=1)
 | [],l,h=>by
  have:l=0:=by simpa using h
  subst this;simp[sel]
 | B::Bs,l,h=>by
  rw[A_,TU]at h;have hd:(l &&& (l-1))/2=l/2 &&& (l-1)/2:=WM;have hm:(l &&& (l-1))%2=1↔l%2=1/\(l-1)%2=1:=VF;generalize l &&& (l-1)=y at hd hm ⊢;unfold sel
  by_cases h1:l%2=1
  .rw[j_ h1,show(l-1)/2=l/2 by omega,Nat.and_self]at *;have:¬y%2=1:=λz=>by have:=(hm.mp z).2;omega
   constructor
   .intro z;have:l/2=0:=by omega
    rw[this,jl];exact h_ _
   .intro z;have:sel Bs (l/2)=[]:=T7.mp (by rw[A_]at z;omega);have:=lM Bs (l/2) (by omega) this;omega
  .rw[k_ h1,<- jB Bs (l/2) (by omega)];have:¬y%2=1:=λz=>h1 (hm.mp z).1
   by_cases h0:l=0
   .subst h0;simp at hd ⊢;omega
   .rw[show(l-1)/2=l/2-1 by omega]at hd;generalize l/2 &&& (l/2-1)=z at hd ⊢;omega
theorem qN:∀Bs:List Bd,sel Bs (2 ^ Bs.length-1)=Bs
 | []=>rfl
 | B::Bs=>by
  unfold sel;have hp:0<2 ^ Bs.length:=Nat.pow_pos (by decide);rw[A_,TU,j_ (by omega),show(2 ^ Bs.length*2-1)/2=2 ^ Bs.length-1 by omega,qN Bs]
theorem mT:∀(Bs:List Bd)(l:Nat),(sel Bs l).Sublist Bs
 | [],_=>.slnil
 | B::Bs,l=>by
  unfold sel
  split
  .exact(mT Bs _).cons_cons B
  .exact(mT Bs _).cons B
end K31
namespace K31
open PySem Mi
variable [Th]
def uM(dv:W8)(l s:Nat):Int:=if dv.getD (l-(l &&& s)) 0>dv.getD (l &&& s) 0 then dv.getD (l-(l &&& s)) 0 else dv.getD (l &&& s) 0
def iD(dv:W8):D:=.lst (dv.map .int)
omit [Th] in
theorem AC{f g:Fe}{env:En}{dv:W8}{i:Nat}(h1:f env=some (iD dv))(h2:g env=some (.int (i:Nat)))(hi:i<dv.length):ao aO f g env=some (.int (dv.getD i 0)):=eD h1 h2 (dP (by rw[m_,f_ hi,g_,f_ hi];rfl))
theorem oZ(dv:W8)(l s:Nat)(hl:l<dv.length):m_depth_behind [.int (s:Nat),.int (l:Nat),iD dv]=some (.int (uM dv l s)):=by
 have hle:l &&& s<=l:=WN;have b1:ao cJ ah aq (aS 3 [.int (s:Nat),.int (l:Nat),iD dv])=some (.int ((l &&& s:Nat):Int)):=(aD rfl rfl).trans (jc l s);have b2:ao subI ah (ao cJ ah aq) (aS 3 [.int (s:Nat),.int (l:Nat),iD dv])=some (.int ((l-(l &&& s):Nat):Int)):=(aD rfl b1).trans (by show some (D.int _)=_;congr 2;lia);exact bw (eg ((aD (AC rfl b1 (by lia)) (AC rfl b2 (by lia))).trans rfl))
def rP(ls:W7)(l:Nat):W7:=ls.filter λs=>decide ((0:Int)<((l &&& s:Nat):Int))&&decide (((l &&& s:Nat):Int)<(l:Nat))
omit [Th] in
theorem lu{ls:W7}{l s:Nat}:s∈rP ls l↔s∈ls/\0<l &&& s/\l &&& s<l:=by
 unfold rP;rw[SH,F_,C_,C_];exact and_congr Iff.rfl (and_congr (by lia) (by lia))
def nI(n:Nat):D:=.int (n:Int)
theorem Nd{f:Fe}{env:En}{ls:W7}{vs:List Pt}(h:f env=some (bx ls vs)):Oa Th.h f env=some (ls.map nI):=by
 show(f env).bind _=_;rw[h,H_];unfold bx;rw[He,H_];have hk:AI (ls.map λn=>(Sum.inl ((n:Nat):Int):L2.Key))=true:=by
  unfold AI;rw[WK,M_];intro x _;rfl
 show(if AI (ls.map λn=>(Sum.inl ((n:Nat):Int):L2.Key))=true then some ((ls.map λn=>(Sum.inl ((n:Nat):Int):L2.Key)).map kD)else none)=_;rw[j_ hk,SO];rfl
omit [Th] in
theorem sy(g:D->Xr)(m:Nat->Int):∀L:W7,(∀p∈L,g (nI p)=some (.int (m p)))->pO g (L.map nI)=some (L.map m)
 | [],_=>rfl
 | x::L,h=>by
  show(g (nI x)).bind _=_;rw[h x (o_ ..),H_];show(pO g (L.map nI)).bind _=_;rw[sy g m L λp hp=>h p (l_ _ hp)];rfl
omit [Th] in
theorem pR(ns:W8)(h:ns≠[]):iS ns<ns.length:=by
 refine List.findIdx_lt_length.mpr ?_;have:∀ns:W8,ns≠[]->∃x∈ns,∀y∈ns,x<=y:=by
  intro ns
  induction ns with
  | nil=>intro h;exact absurd rfl h
  | cons n ns ih=>
   intro _
   by_cases hz:ns=[]
   .subst hz;exact⟨n,by simp,λy hy=>by rw[s_.mp hy];exact Vr _⟩
   .obtain⟨x,h1,h2⟩:=ih hz
    by_cases hx:n<=x
    .exact⟨n,by simp,λy hy=>by
      rcases t_.mp hy with rfl | hy
      .exact Vr _
      .exact Vz hx (h2 y hy)⟩
    .exact⟨x,l_ _ h1,λy hy=>by
      rcases t_.mp hy with rfl | hy
      .lia
      .exact h2 y hy⟩
 obtain⟨x,h1,h2⟩:=this ns h;exact⟨x,h1,M_.mpr λy hy=>w_ (h2 y hy)⟩
omit [Th] in
theorem least_le(ns:W8)(h:ns≠[]):∀y∈ns,ns.getD (iS ns) 0<=y:=by
 have hlt:=pR ns h;have:=List.findIdx_getElem (xs:=ns) (p:=λx=>ns.all λy=>decide (x<=y)) (w:=hlt);intro y hy;rw[g_,f_ hlt];exact Sy (M_.mp this y hy)
theorem tG(ls:W7)(vs:List Pt)(dv:W8)(l:Nat)(hl:l<dv.length)(KN:ls.length<=1000)(hp:rP ls l≠[]):∃s∈rP ls l,m_best_shown [.int (l:Nat),bx ls vs,iD dv]=some (.int (s:Nat))/\∀s'∈rP ls l,uM dv l s<=uM dv l s':=by
 have g:=jx (t:=b9 0) (c:=fB (FV ltI ltI Xt (ao cJ ah aq) ah)) (k:=bj aq) (env:=[.un,.F (.int (l:Nat))]) nI nI (λs=>decide ((0:Int)<((l &&& s:Nat):Int))&&decide (((l &&& s:Nat):Int)<(l:Nat))) ls λs _=>⟨[.F (nI s),.F (.int (l:Nat))],rfl,ez (EH rfl ((aD rfl rfl).trans (jc l s)) rfl rfl rfl),λ_=>rfl⟩;have eR:(rP ls l).length<=1000:=B_ (To _ _) KN;have c1:=dA (fi:=Oa Th.h ah) (env:=[.F (.int (l:Nat)),.F (bx ls vs),.F (iD dv),.un]) (Nd rfl) (n:=1) (caps:=[0]) (is:=[0]) rfl g (by rw[c_];exact B_ eR (by decide));have hk:=sy (λx=>((aa aq (aa ah (aa aK fNil))) ((cN 1 [0,2] [.F (.int (l:Nat)),.F (bx ls vs),.F (iD dv),.F (.lst ((rP ls l).map nI))]).set 0 (.F x))).bind m_depth_behind) (uM dv l) (rP ls l) λs _=>oZ dv l s hl;have hlt:=pR ((rP ls l).map (uM dv l)) (by intro z;exact hp (Vd.mp z));have hle:=least_le ((rP ls l).map (uM dv l)) (by intro z;exact hp (Vd.mp z));rw[c_]at hlt;refine⟨(rP ls l)[iS ((rP ls l).map (uM dv l))],Tu hlt,bw ((aw (a7 c1)).trans (eg ?_)),λs' hs'=>?_⟩
 .show Hk _ (.lst ((rP ls l).map nI))=_;refine(show _=_ from Tp (λo=>Option.bind o λns=>((rP ls l).map nI)[iS ns]?) hk).trans ?_;show((rP ls l).map nI)[iS ((rP ls l).map (uM dv l))]?=_;rw[m_,f_ hlt];rfl
 .have:=hle (uM dv l s') (SW hs');rw[g_,m_,f_ hlt]at this;exact this
def Sep(ls:W7)(N:Nat):Prop:=∀l,l<N->l &&& (l-1)≠0->rP ls l≠[]
omit [Th] in
theorem F1{ps qs:List Pt}(h:∀p,p∈la ps↔p∈la qs):la ps=la qs:=by
 unfold la at h ⊢;refine List.filter_congr λp hp=>?_;have:=h p;rw[SH,SH,C_,C_]at this;rw[Ta,C_,C_];exact⟨λz=>(this.mp ⟨hp,z⟩).2,λz=>(this.mpr ⟨hp,z⟩).2⟩
theorem Bo{R C:Nat}{Bs:List Bd}(H:DG R C Bs){ls:W7}{vs:List Pt}(ix:KM Bs (vo Bs) ls vs){l:Nat}{p:Pt}(h1:(sel Bs l).filter (o9 p)≠[])(h2:(sel Bs l).filter (et p)≠[]):jk Bs p∈rP ls l:=by
 refine lu.mpr ⟨ix.all p (H.mem.mpr ?_),Nat.pos_of_ne_zero λz=>h1 (by rw[<- i0,z,jl]),Nat.lt_of_le_of_ne WN λz=>h2 (by rw[<- iZ,z,Nat.sub_self,jl])⟩;obtain⟨L,hL⟩:=List.exists_mem_of_ne_nil _ h1;obtain⟨a,b⟩:=SH.mp hL;exact⟨L,(mT Bs l).subset a,Sy b⟩
omit [Th] in
theorem apart{Bs:List Bd}(hB:∀L∈Bs,∃x,L=la x){x y:Bd}(hx:x∈Bs)(hy:y∈Bs)(hne:x≠y):∃p,¬(p∈x↔p∈y):=Uu λz=>hne (by
 obtain⟨a,ex⟩:=hB _ hx;obtain⟨b,ey⟩:=hB _ hy;rw[ex,ey];refine F1 λp=>?_;rw[<- ex,<- ey];exact Uu λw=>z ⟨p,w⟩)
theorem Ip{R C:Nat}{Bs:List Bd}(H:DG R C Bs)(hB:∀L∈Bs,∃x,L=la x)(nd:Bs.Nodup){ls:W7}{vs:List Pt}(ix:KM Bs (vo Bs) ls vs):Sep ls (2 ^ Bs.length):=by
 intro l hl h2;have h3:¬(sel Bs l).length<=1:=λz=>h2 ((jB Bs l hl).mpr z);have OQ:(sel Bs l).Nodup:=nd.sublist (mT Bs l);have hin:∀L∈sel Bs l,L∈Bs:=λL hL=>(mT Bs l).subset hL;generalize hS:sel Bs l=S at h3 OQ hin
 match S,h3,OQ,hin,hS with
 | [],h3,_,_,_=>exact absurd (Ub _) h3
 | [_],h3,_,_,_=>exact absurd (h_ _) h3
 | x::y::S,_,OQ,hin,hS=>
  have hne:x≠y:=λe=>by subst e;exact(UT.mp OQ).1 (o_ ..)
  obtain⟨p,hp⟩:=apart hB (hin x (by simp)) (hin y (by simp)) hne;refine US (a:=jk Bs p) (Bo H ix ?_ ?_)
  .rw[hS]
   by_cases h1:p∈x
   .exact US (a:=x) (SH.mpr ⟨by simp,w_ h1⟩)
   .by_cases h2:p∈y
    .exact US (a:=y) (SH.mpr ⟨by simp,w_ h2⟩)
    .exact absurd ⟨λz=>absurd z h1,λz=>absurd z h2⟩ hp
  .rw[hS]
   by_cases h1:p∈x
   .by_cases h2:p∈y
    .exact absurd ⟨λ_=>h2,λ_=>h1⟩ hp
    .exact US (a:=y) (SH.mpr ⟨by simp,by simp[et,h2]⟩)
   .exact US (a:=x) (SH.mpr ⟨by simp,by simp[et,h1]⟩)
structure Dv(Bs:List Bd)(dv:List Int)(N j:Nat):Prop where
 len:dv.length=N
 ex:∀l,l<j->∃d:Nat,dv.getD l 0=(d:Int)/\ou (sel Bs l) d
 hi:∀l,j<=l->dv.getD l 0=0
omit [Th] in
theorem wx{dv:W8}{l s d1 d2:Nat}(h1:dv.getD (l &&& s) 0=(d1:Int))(h2:dv.getD (l-(l &&& s)) 0=(d2:Int)):uM dv l s=((max d1 d2:Nat):Int):=by
 unfold uM;rw[h1,h2]
 split<;>lia
theorem IM{f:Fe}{env:En}{l:Nat}(h:f env=some (.int (l:Nat))):Pi (ao cJ f (ao subI f Xu)) env=some (decide (l &&& (l-1)≠0)):=by
 have e:ao cJ f (ao subI f Xu) env=some (.int ((l &&& (l-1):Nat):Int)):=by
  cases l with
  | zero=>exact(aD h ((aD h rfl).trans rfl)).trans rfl
  | succ l=>exact(aD h ((aD h rfl).trans (by show some (D.int _)=some (.int ((l:Nat):Int));congr 2;lia))).trans (jc (l+1) l)
 show(ao cJ f (ao subI f Xu) env).bind Q7=_;rw[e];show some (((l &&& (l-1):Nat):Int) != 0)=_;congr 1;rw[Ta,bne_iff_ne,C_]
 lia
theorem Eg{R C:Nat}{Bs:List Bd}(H:DG R C Bs)(ls:W7)(vs:List Pt)(ix:KM Bs (vo Bs) ls vs)(KN:ls.length<=1000)(n N:Nat)(dv:W8)(l:Nat)(hl:l<N)(hN:N=2 ^ Bs.length)(sep:Sep ls N)(D0:Dv Bs dv N l) :
  ∃QK,cR [.F (bx ls vs),.F (.int (n:Nat)),.O (.L (dv.map .int)),.F (.int (l:Nat))]=some (.nx [.F (bx ls vs),.F (.int (n:Nat)),.O (.L (QK.map .int)),.F (.int (l:Nat))])/\Dv Bs QK N (l+1):=by
 have ht:=IM (f:=λenv=>bH env 3) (env:=[.F (bx ls vs),.F (.int (n:Nat)),.O (.L (dv.map .int)),.F (.int (l:Nat))]) (l:=l) rfl;have Le:l<dv.length:=by rw[D0.len];exact hl
 by_cases h2:l &&& (l-1)=0
 .rw[E_ (λz=>z h2)]at ht;refine⟨dv,(bO ht).trans rfl,D0.len,λk hk=>?_,λk hk=>D0.hi k (Nat.le_of_succ_le hk)⟩;rcases Nat.lt_succ_iff_lt_or_eq.mp hk with z | rfl
  .exact D0.ex k z
  .exact⟨0,D0.hi k (h_ _),ou.one ((jB Bs k (by rw[<- hN];exact hl)).mp h2)⟩
 .rw[w_ h2]at ht;obtain⟨s,hs,hb,hle⟩:=tG ls vs dv l Le KN (sep l hl h2);have v1:Ep 2 (ao addI Xu (λenv=>((aa (λenv=>((aa aB (aa aq (aa aK fNil))) env).bind m_best_shown) (aa aB (aa aK fNil))) env).bind m_depth_behind)) [.F (bx ls vs),.F (.int (n:Nat)),.O (.L (dv.map .int)),.F (.int (l:Nat))]=some (.int (1+uM dv l s)):=by
   have e1:(λenv=>((aa (λenv=>((aa aB (aa aq (aa aK fNil))) env).bind m_best_shown) (aa aB (aa aK fNil))) env).bind m_depth_behind) [.F (bx ls vs),.F (.int (n:Nat)),.F (iD dv),.F (.int (l:Nat))]=some (.int (uM dv l s)):=(call_v (m:=m_depth_behind) (aj ((call_v (m:=m_best_shown) (aj (f:=λenv=>bH env 3) rfl (aj (f:=λenv=>bH env 0) rfl (aj (f:=λenv=>bH env 2) rfl aN)))).trans hb) (aj (f:=λenv=>bH env 3) rfl (aj (f:=λenv=>bH env 2) rfl aN)))).trans (oZ dv l s Le);have e:=(aD (b:=addI) (f:=fC (.int 1)) (g:=(λenv=>((aa (λenv=>((aa aB (aa aq (aa aK fNil))) env).bind m_best_shown) (aa aB (aa aK fNil))) env).bind m_depth_behind)) (env:=[.F (bx ls vs),.F (.int (n:Nat)),.F (iD dv),.F (.int (l:Nat))]) rfl e1).trans (gP 1 (uM dv l s));show(ao addI Xu _ [.F (bx ls vs),.F (.int (n:Nat)),.F (iD dv),.F (.int (l:Nat))]).bind _=_;rw[e];rfl
  obtain⟨m1,m2,m3⟩:=lu.mp hs;obtain⟨p,rfl⟩:=ix.own s m1;obtain⟨d1,f1,g1⟩:=D0.ex (l &&& jk Bs p) m3;obtain⟨d2,f2,g2⟩:=D0.ex (l-(l &&& jk Bs p)) (by lia);have hm:=wx f1 f2;have hS:¬(sel Bs l).length<=1:=λz=>h2 ((jB Bs l (by rw[<- hN];exact hl)).mpr z);have dp:ou (sel Bs l) (1+max d1 d2):=by
   refine⟨?_,λe he=>rb hS (λq n1 n2 e t1 t2=>?_) e he⟩
   .rw[Wf];refine .inr ⟨p,?_,?_⟩
    .rw[<- i0];have:=jt g1.1 (max d1 d2-d1);rwa [show d1+(max d1 d2-d1)=max d1 d2 by lia]at this
    .rw[<- iZ];have:=jt g2.1 (max d1 d2-d2);rwa [show d2+(max d1 d2-d2)=max d1 d2 by lia]at this
   .have hq:=Bo H ix n1 n2;obtain⟨q1,q2,q3⟩:=lu.mp hq;obtain⟨c1,k1,r1⟩:=D0.ex (l &&& jk Bs q) q3;obtain⟨c2,k2,r2⟩:=D0.ex (l-(l &&& jk Bs q)) (by lia);have hle:=hle _ hq;rw[hm,wx k1 k2]at hle;rw[i0]at r1;rw[iZ]at r2;have:=r1.2 e t1;have:=r2.2 e t2
    lia
  refine⟨dv.set l (1+uM dv l (jk Bs p)),(eC ht).trans ((Fv v1 rfl (j:=(l:Nat)) rfl (Ib (by lia) (by rw[c_];lia))).trans ?_),by rw[V4];exact D0.len,λk hk=>?_,λk hk=>?_⟩
  .rw[SR,List.map_set];rfl
  .rcases Nat.lt_succ_iff_lt_or_eq.mp hk with z | rfl
   .rw[g_,p_ (T9 z),<- g_];exact D0.ex k z
   .refine⟨_,?_,dp⟩;rw[g_,v_ Le,hm];show(1:Int)+_=_
    lia
  .rw[g_,p_ (z_ hk),<- g_];exact D0.hi k (Nat.le_of_succ_le hk)
theorem Ab{g:Fe}{env:En}{n:Nat}(h:g env=some (.int (n:Nat)))(hn:n<=10):ao mO Xu g env=some (.int ((2 ^ n:Nat):Int)):=by
 refine(aD rfl h).trans ?_;show(if decide (0<=((n:Nat):Int)/\((n:Nat):Int)<=1000000/\(1:Int).natAbs<2 ^ 64)=true then some (D.int (1*2 ^ ((n:Nat):Int).toNat))else none)=_;rw[j_ (w_ ⟨by lia,by lia,by decide⟩),Int.one_mul,SR,Int.natCast_pow];rfl
theorem yZ{R C:Nat}{Bs:List Bd}(H:DG R C Bs)(ls:W7)(vs:List Pt)(ix:KM Bs (vo Bs) ls vs)(KN:ls.length<=1000)(n:Nat)(hn:n<=10)(hB:n=Bs.length)(sep:Sep ls (2 ^ n)):∃dv,m_least_depths [bx ls vs,.int (n:Nat)]=some (iD dv)/\Dv Bs dv (2 ^ n) (2 ^ n):=by
 have Hx:2 ^ n<=1024:=T3 (by decide:0<2) hn;have e0:ao Jk (b8 (aa Xt fNil)) (ao mO Xu ah) (aS 4 [bx ls vs,.int (n:Nat)])=some (.lst ((List.replicate (2 ^ n) (0:Int)).map .int)):=by
  refine(aD (xy (aj rfl aN)) (Ab rfl hn)).trans ?_;show(if 0<=((2 ^ n:Nat):Int)/\[D.int 0].length*((2 ^ n:Nat):Int).toNat<=16000000/\((2 ^ n:Nat):Int)<1000000000 then some (D.lst (List.replicate ((2 ^ n:Nat):Int).toNat [D.int 0]).flatten)else none)=_;rw[j_ ⟨by lia,by rw[SR];show 1*_<=_;lia,by lia⟩,SR];congr 2
  induction 2 ^ n with
  | zero=>rfl
  | succ k ih=>rw[S5,TF,ih,S5,L_];rfl
 obtain⟨e2,h1,dv,s3,rfl,h2⟩:=bR (t:=b9 3) (body:=cR) (λj e=>∃dv s3,e=[.F (bx ls vs),.F (.int (n:Nat)),.O (.L (dv.map .int)),s3]/\Dv Bs dv (2 ^ n) j) (aG 0 (2 ^ n)) 0 [.F (bx ls vs),.F (.int (n:Nat)),.O (.L ((List.replicate (2 ^ n) (0:Int)).map .int)),.un] ⟨_,.un,rfl,by simp,λl hl=>absurd hl (UV _),λl _=>by simp[g_,S2];split<;>simp⟩ λi d e hd aC=>by
  obtain⟨dv,s3,he,h2⟩:=aC;subst he;obtain⟨rfl,hi⟩:=wI hd;rw[Ss]at h2 ⊢;obtain⟨QK,h3,h4⟩:=Eg H ls vs ix KN n (2 ^ n) dv i hi (by rw[hB]) sep h2;exact⟨_,eQ (e0:=[.F (bx ls vs),.F (.int (n:Nat)),.O (.L (dv.map .int)),.F (.int (i:Nat))]) rfl h3,QK,_,rfl,h4⟩
 rw[show(aG 0 (2 ^ n)).length=2 ^ n by simp[aG],Ss]at h2;exact⟨dv,bw ((aw (kB e0)).trans ((aw ((bX (fO (Ab rfl hn) (by lia))).trans h1)).trans rfl)),h2⟩
theorem B0:∀(ls:W7)(vs:List Pt)(s:Nat),vs.length=ls.length->s∈ls->∃p,lookI (ls.map λn=>(Sum.inl ((n:Nat):Int):L2.Key)) (vs.map cel) (.inl ((s:Nat):Int))=some (cel p)
 | [],_,s,_,h=>by cases h
 | l::ls,[],s,h,_=>by simp at h
 | l::ls,v::vs,s,h,hs=>by
  show ∃p,(if(Sum.inl ((l:Nat):Int):L2.Key)=.inl ((s:Nat):Int)then some (cel v)else lookI (ls.map λn=>(Sum.inl ((n:Nat):Int):L2.Key)) (vs.map cel) (.inl ((s:Nat):Int)))=_
  by_cases e:l=s
  .subst e;exact⟨v,j_ rfl⟩
  .rw[k_ (λz=>e (by have:=Sum.inl.inj z;lia))];rcases t_.mp hs with z | z
   .exact absurd z.symm e
   .exact B0 ls vs s (by simpa using h) z
theorem JW{f g:Fe}{env:En}{ls:W7}{vs:List Pt}{s:Nat}(h1:f env=some (bx ls vs))(h2:g env=some (.int (s:Nat)))(hl:vs.length=ls.length)(hs:s∈ls):∃p,ao (Co Th.h) f g env=some (cel p):=by
 obtain⟨p,hp⟩:=B0 ls vs s hl hs;refine⟨p,(aD h1 h2).trans ?_⟩;unfold bx Co;rw[He];exact hp
theorem vK(ls:W7)(vs:List Pt)(hv:vs.length=ls.length)(KN:ls.length<=1000){Bs:List Bd}(ix:KM Bs (vo Bs) ls vs)(N:Nat)(hB:N=2 ^ Bs.length)(sep:Sep ls N)(dv:W8)(dd:Dv Bs dv N N):∀(n l:Nat),l<N->(sel Bs l).length<n->∃P:D,bu n [.int (l:Nat),bx ls vs,iD dv]=some P:=by
 intro n
 induction n with
 | zero=>exact λl _ h=>absurd h (UV _)
 | succ n ih=>
  intro l hN hn;have lo:dv.getD l 0=0↔l &&& (l-1)=0:=by
   obtain⟨d,e1,e2⟩:=dd.ex l hN;rw[e1,jB Bs l (by rw[<- hB];exact hN),<- e2.zero];lia
  have Le:l<dv.length:=by rw[dd.len];exact hN
  have ht:fB (ao iw (ao aO aK aq) Xt) (aS 5 [.int (l:Nat),bx ls vs,iD dv])=some (dv.getD l 0==0):=ez ((aD (AC rfl rfl Le) rfl).trans (MU _ _))
  by_cases h2:l &&& (l-1)=0
  .rw[lo.mpr h2]at ht;have bl:ao subI (br An aq) Xu (aS 5 [.int (l:Nat),bx ls vs,iD dv])=some (.int (((Builtin.Int.intBits ((l:Nat):Int):Nat):Int)-1)):=(aD (b:=subI) (x:=.int ((Builtin.Int.intBits ((l:Nat):Int):Nat):Int)) (y:=.int 1) rfl rfl).trans (CO _ _);exact⟨_,bw (f:=fJ (bu n)) (uG ((eC ht).trans (eg (kQ (aj (d:=.str "known") rfl (aj bl aN))))))⟩
  .have hz:(dv.getD l 0==0)=false:=by
    rw[VC];intro z;exact h2 (lo.mp (by simpa using z))
   rw[hz]at ht;obtain⟨s,hs,hb,_⟩:=tG ls vs dv l Le KN (sep l hN h2);obtain⟨m1,m2,m3⟩:=lu.mp hs;obtain⟨r,er⟩:=ix.own s m1;have ll:=ly r (sel Bs l);have q1:(sel Bs (l &&& s)).length≠0:=λz=>by
    have:=lM Bs (l &&& s) (by rw[<- hB];lia) (T7.mp z)
    lia
   have q2:(sel Bs (l-(l &&& s))).length≠0:=λz=>by
    have:=lM Bs (l-(l &&& s)) (by rw[<- hB];lia) (T7.mp z)
    lia
   rw[<- i0,<- iZ,<- er]at ll;obtain⟨A,a1⟩:=ih (l-(l &&& s)) (by lia) (by lia);obtain⟨B,b1⟩:=ih (l &&& s) (by lia) (by lia);obtain⟨p,gp⟩:=JW (f:=λenv=>bH env 1) (g:=λenv=>bH env 3) (env:=[.F (.int (l:Nat)),.F (bx ls vs),.F (iD dv),.F (.int (s:Nat)),.F A]) rfl rfl hv m1;have c1:∀x,ao cJ aq aB [.F (.int (l:Nat)),.F (bx ls vs),.F (iD dv),.F (.int (s:Nat)),x]=some (.int ((l &&& s:Nat):Int)):=λx=>(aD rfl rfl).trans (jc l s);have c2:ao subI aq (ao cJ aq aB) [.F (.int (l:Nat)),.F (bx ls vs),.F (iD dv),.F (.int (s:Nat)),.un]=some (.int ((l-(l &&& s):Nat):Int)):=(aD rfl (c1 .un)).trans (by show some (D.int _)=_;congr 2;lia);have w1:(λenv=>((aa (ao subI aq (ao cJ aq aB)) (aa ah (aa aK fNil))) env).bind (bu n)) [.F (.int (l:Nat)),.F (bx ls vs),.F (iD dv),.F (.int (s:Nat)),.un]=some A:=(call_v (aj c2 (aj (d:=bx ls vs) rfl (aj (d:=iD dv) rfl aN)))).trans a1;have w2:(λenv=>((aa (ao cJ aq aB) (aa ah (aa aK fNil))) env).bind (bu n)) [.F (.int (l:Nat)),.F (bx ls vs),.F (iD dv),.F (.int (s:Nat)),.F A]=some B:=(call_v (aj (c1 _) (aj (d:=bx ls vs) rfl (aj (d:=iD dv) rfl aN)))).trans b1;have w0:(λenv=>((aa aq (aa ah (aa aK fNil))) env).bind m_best_shown) (aS 5 [.int (l:Nat),bx ls vs,iD dv])=some (.int (s:Nat)):=(call_v (aj (d:=.int (l:Nat)) rfl (aj (d:=bx ls vs) rfl (aj (d:=iD dv) rfl aN)))).trans hb;exact⟨_,bw (f:=fJ (bu n)) ((aw (e:=aS 5 [.int (l:Nat),bx ls vs,iD dv]) ((bO ht).trans rfl)).trans ((aw (e:=[.F (.int (l:Nat)),.F (bx ls vs),.F (iD dv),.F (.int (s:Nat)),.un]) (a7 w0)).trans ((aw (e:=[.F (.int (l:Nat)),.F (bx ls vs),.F (iD dv),.F (.int (s:Nat)),.F A]) (a7 w1)).trans (eg (kQ (aj (d:=.str "look") rfl (aj gp (aj (d:=A) rfl (aj w2 aN)))))))))⟩
abbrev Ge:Str:="plan"
abbrev KR:Str:="TooMany"
theorem HC.up{h:List Sh}:∃x,lyP h=la x:=⟨_,rfl⟩
omit [Th] in
theorem nc{f:Fs}{g:FsX}{env e:En}(h:f env=some (.nx e)):gE (wA f) g env=g e:=by unfold gE wA;rw[h];rfl
omit [Th] in
theorem JO{f:FsX}{g:FsX}{env e:En}(h:f env=some (.nx e)):gE f g env=g e:=by unfold gE;rw[h];rfl
omit [Th] in
theorem Im{f:FsX}{g:FsX}{env e:En}{c:Str}{d:D}(h:f env=some (.ex c d e)):gE f g env=some (.ex c d e):=by unfold gE;rw[h];rfl
omit [Th] in
theorem FK{f:FsX}{n:Nat}{ds:Xq}{d:D}(h:f (aS n ds)=some (.rt d)):uY f n ds=some (.ok d):=by unfold uY;rw[h];rfl
omit [Th] in
theorem DH{f:FsX}{n:Nat}{ds:Xq}{d:D}{c:Str}{e:En}(h:f (aS n ds)=some (.ex c d e)):uY f n ds=some (.error (c,d)):=by unfold uY;rw[h];rfl
omit [Th] in
theorem Ja{t:Fb}{f g:FsX}{env:En}(h:t env=some true):KS t f g env=f env:=by unfold KS;rw[h];rfl
omit [Th] in
theorem JM{t:Fb}{f g:FsX}{env:En}(h:t env=some false):KS t f g env=g env:=by unfold KS;rw[h];rfl
theorem G'{a b:Int}(h:¬a<=b):leI (.int a) (.int b)=some (.bl false):=by
 show some (D.bl (decide (a<=b)))=_;rw[E_ h]
theorem Fw(ds:Xq)(h:ds.length=0\/10<ds.length):m_least_plan [.lst ds]=some (.error (KR,.non)):=by
 have t0:y6 (fB (FV leI leI Xu (br ck aq) (fC cI))) (aS 5 [.lst ds])=some true:=by
  rcases h with h | h
  .exact(Bz (ez (EH (p:=false) (q:=true) rfl (gf rfl) rfl (G' (by lia)) (xl (by lia))))).trans rfl
  .exact(Bz (ez (EH (p:=true) (q:=false) rfl (gf rfl) rfl (xl (by lia)) (G' (by lia))))).trans rfl
 exact DH (e:=aS 5 [.lst ds]) (Im ((Ja t0).trans rfl))
theorem AF{R C:Nat}(hR:R<=4)(hC:C<=5)(hs:List (List Sh))(h0:0<hs.length)(h6:hs.length<=10)(H:∀h∈hs,HC R C h)(nd:(hs.map lyP).Nodup) :
  ∃(d:Nat)(P:D),m_least_plan [.lst (hs.map az)]=some (.ok (.tup [.str Ge,.int (d:Nat),P]))/\ou (hs.map lyP) d:=by
 have hBl:(hs.map lyP).length=hs.length:=c_ ..;have t0:y6 (fB (FV leI leI Xu (br ck aq) (fC cI))) (aS 5 [.lst (hs.map az)])=some false:=by
  refine(Bz (ez (EH (p:=true) (q:=true) rfl (gf rfl) rfl (xl (by rw[c_];lia)) (xl (by rw[c_];lia))))).trans rfl
 have g:=dN (t:=b9 0) (k:=bj (λenv=>((aa aq fNil) env).bind m_lying_cells)) (env:=[.un]) az (λh=>bD (lyP h)) hs λh hh=>⟨[.F (az h)],rfl,mi ((call_v (aj (d:=az h) rfl aN)).trans (AJ hR hC (H h hh)))⟩;have eB:hs.map (λh=>bD (lyP h))=(hs.map lyP).map bD:=by rw[SO];rfl
 rw[eB]at g;have c1:=dA (fi:=kA aq) (env:=aS 5 [.lst (hs.map az)]) (cQ rfl) (n:=1) (caps:=[]) (is:=[0]) rfl g (by rw[c_,hBl];lia);obtain⟨es,a1,a2⟩:=B9 (hs.map lyP) (by lia);have w2:(λenv=>((aa ah fNil) env).bind m_alike_pairs) [.F (.lst (hs.map az)),.F (.lst ((hs.map lyP).map bD)),.un,.un,.un]=some (.lst (es.map cel)):=(call_v (aj (d:=.lst ((hs.map lyP).map bD)) rfl aN)).trans a1;have he:=a2.mpr nd;subst he;have S:DG R C (hs.map lyP):=⟨hR,hC,by lia,λL hL p hp=>by
  obtain⟨h,hh,rfl⟩:=y_.mp hL;exact(H h hh).on p (((H h hh).mem hR hC).mp hp),λL hL=>by
  obtain⟨h,hh,rfl⟩:=y_.mp hL;have:=vj (H h hh).len λs hs=>((H h hh).sz s hs).2;have e:=(gH ((H h hh).okP hR hC) (jw (H h hh).ap)).length_eq;show(la (xf h)).length<=100;rw[<- e];lia⟩
 obtain⟨ls,vs,k1,k2,k3⟩:=yW S;have sep:=Ip S (λL hL=>by obtain⟨h,_,rfl⟩:=y_.mp hL;exact HC.up) nd k2;obtain⟨dv,d1,d2⟩:=yZ S ls vs k2 (by lia) (hs.map lyP).length (by lia) rfl sep;have hN:2 ^ (hs.map lyP).length<=1024:=T3 (by decide:0<2) (by lia:(hs.map lyP).length<=10);have hN2:2<=2 ^ (hs.map lyP).length:=by
  have:=T3 (by decide:0<2) (show 1<=(hs.map lyP).length by lia);simpa using this
 obtain⟨P,p1⟩:=vK ls vs k2.len (by lia) k2 _ rfl sep dv d2 64 (2 ^ (hs.map lyP).length-1) (by lia) (by rw[qN];lia);obtain⟨dd,x1,x2⟩:=d2.ex (2 ^ (hs.map lyP).length-1) (by lia);rw[qN]at x2;have hx:L2.atI (dv.map D.int) (-1)=some (.int (dd:Nat)):=by
  unfold L2.atI L2.vS;rw[k_ (by decide),j_ (by rw[c_,d2.len];omega)];show(dv.map D.int)[(((dv.map D.int).length:Nat)+(-1:Int)).toNat]?=_;rw[c_,d2.len,show(((2 ^ (hs.map lyP).length:Nat):Int)+-1).toNat=2 ^ (hs.map lyP).length-1 by omega,m_,f_ (by rw[d2.len];omega),<- x1,g_,f_ (by rw[d2.len];omega)];rfl
 have w2':(λenv=>((aa ah fNil) env).bind m_alike_pairs) [.F (.lst (hs.map az)),.F (.lst ((hs.map lyP).map bD)),.un,.un,.un]=some (.lst []):=w2;have w3:(λenv=>((aa ah fNil) env).bind m_cells_by_lot) [.F (.lst (hs.map az)),.F (.lst ((hs.map lyP).map bD)),.F (.lst []),.un,.un]=some (bx ls vs):=(call_v (aj (d:=.lst ((hs.map lyP).map bD)) rfl aN)).trans k1;have w4:(λenv=>((aa aB (aa (br ck ah) fNil)) env).bind m_least_depths) [.F (.lst (hs.map az)),.F (.lst ((hs.map lyP).map bD)),.F (.lst []),.F (bx ls vs),.un]=some (iD dv):=(call_v (aj (d:=bx ls vs) rfl (aj (gf (ds:=(hs.map lyP).map bD) rfl) aN))).trans (by rw[c_];exact d1);have eN:(((2 ^ (hs.map lyP).length:Nat):Int)-1)=((2 ^ (hs.map lyP).length-1:Nat):Int):=by
  generalize 2 ^ (hs.map lyP).length=N at hN2 ⊢;omega
 have w5:ao subI (br ck aP) Xu [.F (.lst (hs.map az)),.F (.lst ((hs.map lyP).map bD)),.F (.lst []),.F (bx ls vs),.F (iD dv)]=some (.int ((2 ^ (hs.map lyP).length-1:Nat):Int)):=(aD (gf (ds:=dv.map D.int) rfl) rfl).trans (by rw[c_,d2.len];exact Tp (λz=>some (D.int z)) eN);have w6:(λenv=>((aa (ao subI (br ck aP) Xu) (aa aB (aa aP fNil))) env).bind iI) [.F (.lst (hs.map az)),.F (.lst ((hs.map lyP).map bD)),.F (.lst []),.F (bx ls vs),.F (iD dv)]=some P:=(call_v (aj w5 (aj (d:=bx ls vs) rfl (aj (d:=iD dv) rfl aN)))).trans p1;have w7:ao aO aP (br iH Xu) [.F (.lst (hs.map az)),.F (.lst ((hs.map lyP).map bD)),.F (.lst []),.F (bx ls vs),.F (iD dv)]=some (.int (dd:Nat)):=eD (ds:=dv.map D.int) (i:=-1) rfl rfl hx;exact⟨dd,P,FK ((JO (e:=aS 5 [.lst (hs.map az)]) ((JM t0).trans rfl)).trans ((nc (e:=[.F (.lst (hs.map az)),.F (.lst ((hs.map lyP).map bD)),.un,.un,.un]) (a7 c1)).trans ((nc (e:=[.F (.lst (hs.map az)),.F (.lst ((hs.map lyP).map bD)),.F (.lst []),.un,.un]) (a7 (i:=2) (f:=λenv=>((aa ah fNil) env).bind m_alike_pairs) (env:=[.F (.lst (hs.map az)),.F (.lst ((hs.map lyP).map bD)),.un,.un,.un]) w2')).trans ((nc (e:=[.F (.lst (hs.map az)),.F (.lst ((hs.map lyP).map bD)),.F (.lst []),.un,.un]) ((bO rfl).trans rfl)).trans ((nc (e:=[.F (.lst (hs.map az)),.F (.lst ((hs.map lyP).map bD)),.F (.lst []),.F (bx ls vs),.un]) (a7 w3)).trans ((nc (e:=[.F (.lst (hs.map az)),.F (.lst ((hs.map lyP).map bD)),.F (.lst []),.F (bx ls vs),.F (iD dv)]) (a7 w4)).trans (Tp (Option.map Out.up) (eg (kQ (aj (d:=.str Ge) rfl (aj w7 (aj w6 aN)))))))))))),x2⟩
def Sd:Rs->D
 | .ok d=>d
 | .error (c,_)=>gx c
theorem xD{x:D}{r:Rs}(h:m_least_plan [x]=some r)(hc:∀k d,r=.error (k,d)->k∈cs_):m__law_told [x]=some (Sd r):=by
 have b:BG (HI (aa aq fNil)) m_least_plan [.F x,.F .non,.un]=m_least_plan [x]:=rfl;show(((By cs_ 2 1 (DJ 1 _) [.F x,.F .non,.un]).bind _).bind _)=_;unfold By DJ;rw[b,h];cases r with
 | ok d=>rfl
 | error z=>
  obtain⟨k,d⟩:=z;show(((if k∈cs_ then _ else none:Option GB)).bind _).bind _=_;rw[j_ (hc k d rfl)]
  rfl
theorem BO{f g h:Fe}{env:En}{c k m:Int}(hf:f env=some (.int c))(hg:g env=some (.int k))(hh:h env=some (.int m))(h0:0<=k)(h1:k<=1000)(hm:0<m):∃z,ao modI (λenv=>((aa f (aa g fNil)) env).bind m__law_stir) h env=some (.int z)/\0<=z/\z<m:=by
 obtain⟨z,hz⟩:=qd c k h0 h1;exact⟨z%m,(aD ((call_v (aj hf (aj hg aN))).trans hz) hh).trans (iK hm),Uv _ (Int.ne_of_gt hm),TN _ hm⟩
omit [Th] in
theorem BF(a s:Int)(n:Nat)(h0:0<=a)(h1:a<n)(hs:1<=s):sliceBounds (some a) none (some s) n=(a,(n:Int),s):=by
 show((if s>0 then max 0 (min (if a<0 then a+n else a) (n:Int))else max (-1) (min (if a<0 then a+n else a) ((n:Int)-1))),(if s>0 then(n:Int)else -1),s)=_;rw[j_ (show s>0 by lia),j_ (show s>0 by lia),k_ (show ¬a<0 by lia)];congr 1
 lia
omit [Th] in
theorem FZ(a s:Int)(n:Nat)(h0:0<=a)(h1:a<n)(hs:1<=s):∃c:Nat,0<c/\c<=n/\gi n (some a) none (some s)=(List.range c).map λ(k:Nat)=>(a+s*(k:Int)).toNat:=by
 have e1:1<=((n:Int)-a+s-1)/s:=Int.le_ediv_of_mul_le (by lia) (by lia);have e2:((n:Int)-a+s-1)/s<=(n:Int)-a:=by
  refine Int.ediv_le_of_le_mul (by lia) ?_;have:=Int.mul_nonneg (show 0<=(n:Int)-a-1 by lia) (show 0<=s-1 by lia);rw[Int.sub_mul,Int.mul_sub,Int.mul_one,Int.one_mul]at this
  lia
 refine⟨(((n:Int)-a+s-1)/s).toNat,by lia,by lia,?_⟩;unfold gi;rw[BF a s n h0 h1 hs];unfold sliceRange;dsimp only;rw[j_ (show s>0 by lia),j_ h1]
omit [Th] in
theorem Bn{α β:Type}(f:α->β)(xs:List α)(is:W7):bG (xs.map f) is=(bG xs is).map f:=by
 unfold bG;rw[List.map_filterMap];congr 1;funext i;rw[m_]
omit [Th] in
theorem yD{α:Type}(xs:List α)(a s:Int)(h0:0<=a)(h1:a<(xs.length:Nat))(hs:1<=s):bG xs (gi xs.length (some a) none (some s))≠[]/\(bG xs (gi xs.length (some a) none (some s))).length<=xs.length/\∀x∈bG xs (gi xs.length (some a) none (some s)),x∈xs:=by
 obtain⟨c,c0,c1,e⟩:=FZ a s xs.length h0 h1 hs;refine⟨?_,?_,λx hx=>?_⟩
 .rw[e];obtain⟨c,rfl⟩:=Nat.exists_eq_succ_of_ne_zero (T9 c0);unfold bG;intro z;rw[List.filterMap_eq_nil_iff]at z;have:=z a.toNat (y_.mpr ⟨0,SA.mpr (by lia),by simp⟩);rw[f_ (by lia)]at this;cases this
 .refine B_ (List.length_filterMap_le _ _) ?_;rw[e,c_,T6];exact c1
 .unfold bG at hx;obtain⟨i,_,hi⟩:=Vn.mp hx;exact R_ hi
theorem CA(c:Int)(ps:List (List Sh))(hps:ps.length<=300):∃qs:List (List Sh),m__law_order [.int c,.lst (ps.map az)]=some (.lst (qs.map az))/\qs.Perm ps:=by
 obtain⟨e2,h1,qs,s3,s4,rfl,h3⟩:=bR (t:=oj [3,4]) (body:=gL) (λj e=>∃(qs:List (List Sh))(s3 s4:Slot),e=[.F (.int c),.F (.lst (ps.map az)),.O (.L (qs.map az)),s3,s4]/\qs.Perm (ps.take j)) (jz 0 (ps.map az)) 0 _ ⟨[],.un,.un,rfl,.nil⟩ λi d e hd aC=>by
  obtain⟨qs,s3,s4,he,h3⟩:=aC;subst he;have hi:=(i_.mp hd).1;rw[eX,c_]at hi;have hx:(ps.map az)[i]?=some (az ps[i]):=by rw[m_,f_ hi];rfl
  rw[iY hx]at hd;cases hd;simp only[Ss]at h3 ⊢;have hql:qs.length=i:=by rw[h3.length_eq,S1];lia
  obtain⟨z,hz⟩:=qd c (3*(i:Int)+1) (by lia) (by lia);have m3:ao addI (ao mulI Xw aB) Xu [.F (.int c),.F (.lst (ps.map az)),.O (.L (qs.map az)),.F (.int i),.F (az ps[i])]=some (.int (3*(i:Int)+1)):=(aD ((aD rfl rfl).trans (nL (by decide) (by decide) (by lia) (by lia))) rfl).trans (gP _ _);have hp:(0:Int)<(i:Int)+1:=by lia
  have hk:ao modI (λenv=>((aa aq (aa (ao addI (ao mulI Xw aB) Xu) fNil)) env).bind m__law_stir) (ao addI aB Xu) [.F (.int c),.F (.lst (ps.map az)),.O (.L (qs.map az)),.F (.int i),.F (az ps[i])]=some (.int (z%((i:Int)+1))):=(aD ((call_v (aj rfl (aj m3 aN))).trans hz) rfl).trans (iK hp);have b1:=Uv z (Int.ne_of_gt hp);have b2:=TN z hp;refine⟨_,eQ (e0:=[.F (.int c),.F (.lst (ps.map az)),.O (.L (qs.map az)),.F (.int i),.F (az ps[i])]) rfl (Lv rfl hk rfl b1 (by rw[c_];lia) (by rw[c_];lia)),insAt qs (z%((i:Int)+1)).toNat ps[i],.F (.int i),.F (az ps[i]),?_,?_⟩
  .unfold insAt;simp[VS,List.map_drop]
  .refine(vC _ _ _).trans ((h3.cons _).trans ?_);rw[WR,f_ hi];exact(List.perm_append_comm (l₁:=[ps[i]]) (l₂:=ps.take i))
 rw[Ss,eX,c_,Td]at h3;exact⟨qs,bw ((aw (kB rfl)).trans ((aw ((bX (xw rfl)).trans h1)).trans rfl)),h3⟩
theorem xn{f g:Fe}{env:En}{ds:Xq}{m:Nat}(h:g env=some (.lst ds))(hf:f env=some (.int (m:Int))):Dq fF g oNone (cP f) env=some (.lst (ds.take m)):=by
 unfold Dq cP;rw[h,H_];show((f env).bind _).bind _=_;rw[hf];show some (D.lst (cutD ds none (some (m:Int))))=_;rw[zG]
theorem EO(c:Int)(X:List (List Sh))(hX:X≠[])(hl:X.length<=64000):∃Y:List (List Sh),m__law_some_hidings [.int c,.lst (X.map az),.int 10]=some (.lst (Y.map az))/\0<Y.length/\Y.length<=10/\∀h∈Y,h∈X:=by
 have hx0:0<X.length:=List.length_pos_iff.mpr hX;have hlen:∀e:En,bH e 1=some (.lst (X.map az))->br ck ah e=some (.int (X.length:Nat)):=λe he=>(gf he).trans (by rw[c_]);obtain⟨z0,a0,b0,d0⟩:=BO (f:=λenv=>bH env 0) (g:=fC (.int 60)) (h:=λenv=>bH env 2) (env:=aS 5 [.int c,.lst (X.map az),.int 10]) (c:=c) (k:=60) (m:=10) rfl rfl rfl (by decide) (by decide) (by decide);obtain⟨m,hm⟩:=UI (show 0<=1+z0 by lia);have v3:ao addI Xu (ao modI (λenv=>((aa aq (aa (fC (.int 60)) fNil)) env).bind m__law_stir) aK) (aS 5 [.int c,.lst (X.map az),.int 10])=some (.int (m:Nat)):=(aD rfl a0).trans (by rw[gP,hm])
 let E3:En:=[.F (.int c),.F (.lst (X.map az)),.F (.int 10),.F (.int (m:Nat)),.un]
 have q3:ao maxI Xu (ao fdivI (br ck ah) aB) E3=some (.int (if((X.length:Nat):Int)/(m:Nat)>1 then((X.length:Nat):Int)/(m:Nat)else 1)):=(aD rfl ((aD (hlen E3 rfl) rfl).trans (lQ (by lia) (by lia)))).trans rfl;obtain⟨z1,a1,b1,d1⟩:=BO (f:=λenv=>bH env 0) (g:=fC (.int 61)) (env:=E3) (c:=c) (k:=61) rfl rfl q3 (by decide) (by decide) (by split<;>lia);have v4:ao addI Xu (ao modI (λenv=>((aa aq (aa (fC (.int 61)) fNil)) env).bind m__law_stir) (ao maxI Xu (ao fdivI (br ck ah) aB))) E3=some (.int (1+z1)):=(aD rfl a1).trans (gP _ _)
 let E4:En:=[.F (.int c),.F (.lst (X.map az)),.F (.int 10),.F (.int (m:Nat)),.F (.int (1+z1))]
 have q4:ao maxI Xu (ao fdivI (br ck ah) Xv) E4=some (.int (if((X.length:Nat):Int)/2>1 then((X.length:Nat):Int)/2 else 1)):=(aD rfl ((aD (hlen E4 rfl) rfl).trans (lQ (by decide) (by decide)))).trans rfl;obtain⟨z2,a2,b2,d2⟩:=BO (f:=λenv=>bH env 0) (g:=fC (.int 62)) (env:=E4) (c:=c) (k:=62) rfl rfl q4 (by decide) (by decide) (by split<;>lia);have hz2:z2<(X.length:Nat):=by
  have:=d2
  split at this<;>lia
 obtain⟨p1,p2,p3⟩:=yD X z2 (1+z1) b2 hz2 (by lia);have v5:Oe ah (cP (ao modI (λenv=>((aa aq (aa (fC (.int 62)) fNil)) env).bind m__law_stir) (ao maxI Xu (ao fdivI (br ck ah) Xv)))) oNone (cP aP) E4=some (.lst ((bG X (gi X.length (some z2) none (some (1+z1)))).map az)):=by
  show(some (D.lst (X.map az))).bind _=_;rw[H_];show(cP _ E4).bind _=_;unfold cP;rw[a2];show(if some (1+z1)≠some 0/\(bG (X.map az) (gi (X.map az).length (some z2) none (some (1+z1)))).length<=(X.map az).length then some (D.lst (bG (X.map az) (gi (X.map az).length (some z2) none (some (1+z1)))))else none)=_;rw[c_,Bn,j_ ⟨λz=>by have:=Option.some.inj z;lia,by rw[c_];exact p2⟩]
 have hY:((bG X (gi X.length (some z2) none (some (1+z1)))).take m).length<=10:=by rw[S1];lia
 obtain⟨Y,y1,y2⟩:=CA c ((bG X (gi X.length (some z2) none (some (1+z1)))).take m) (by lia);have v6:(λenv=>((aa aq (aa (Dq fF (Oe ah (cP (ao modI (λenv=>((aa aq (aa (fC (.int 62)) fNil)) env).bind m__law_stir) (ao maxI Xu (ao fdivI (br ck ah) Xv)))) oNone (cP aP)) oNone (cP aB)) fNil)) env).bind m__law_order) E4=some (.lst (Y.map az)):=(call_v (aj (d:=.int c) rfl (aj (xn (m:=m) v5 rfl) aN))).trans (by rw[<- VS];exact y1);refine⟨Y,bw (f:=dF) ((aw (e:=E3) (a7 v3)).trans ((aw (e:=E4) (a7 v4)).trans (eg v6))),?_,by rw[y2.length_eq];exact hY,λh hh=>p3 h (VV (y2.mem_iff.mp hh))⟩;rw[y2.length_eq,S1];have:=List.length_pos_iff.mpr p1
 lia
omit [Th] in
theorem sC{x y:List Pt}(h:fE x=fE y):x=y:=by rw[<- kR x,h,kR]
omit [Th] in
theorem AQ(L:List Pt):(L.map dm).all AI=true:=by
 rw[M_];intro k hk;obtain⟨p,_,rfl⟩:=y_.mp hk
 rfl
theorem JN{R C:Nat}(hR:R<=4)(hC:C<=5){h:List Sh}(H:HC R C h){f:Fe}{env:En}(hf:f env=some (az h)):br gC (br (pX Th.h) (λenv=>((aa f fNil) env).bind m__law_ground)) env=some (.tup ((lyP h).map cel)):=by
 obtain⟨ks,g1,g2,g3⟩:=yN h H.len λs hs=>(H.sz s hs).2;have okK:∀p∈ks,Mi.okP p:=λp hp=>lP hR hC (H.on p ((g3 p).mp hp));have e1:la ks=lyP h:=by
  unfold lyP la;refine List.filter_congr λp _=>?_;rw[Ta,C_,C_,g3 p,lI]
 have hlen:ks.length<64:=by
  have hp:ks.Perm (xf h):=(Ui g2 (jw H.ap)).mpr λp=>by rw[g3 p,lI]
  have:=vj H.len λs hs=>(H.sz s hs).2;rw[hp.length_eq];lia
 have g:=(call_v (m:=m__law_ground) (aj hf aN)).trans g1;have s1:br (pX Th.h) (λenv=>((aa f fNil) env).bind m__law_ground) env=some (.lst ((lyP h).map cel)):=by
  refine(mj g).trans ?_;unfold pX GY;rw[show du ks=.mp Th.h (ks.map dm) (ks.map λ_=>.bl true)from rfl,Hg];show((if(ks.map dm).all AI=true then some (D.lst ((ks.map dm).map λk=>.tup (k.map kD)))else none).bind kW)=_;rw[j_ (AQ ks),SO];show kW (.lst (ks.map cel))=_;rw[iT ks okK g2 hlen,e1]
 exact(mj s1).trans rfl
theorem IK{fk fx:Fe}{env:En}{i:Nat}{L:List Pt}{d:D}{ks:List (List L2.Key)}{ds:Xq}(hk:fk env=some (.tup (L.map cel)))(hx:fx env=some d)(he:env[i]?=some (.O (.N ks ds)))(hl:ds.length=ks.length)(hz:ks.length<1000) :
  HF i fk fx env=some (.nx (env.set i (.O (if fE L∈ks then .N ks ds else .N (ks++[fE L]) (ds++[d]))))):=by
 show(fk env).bind _=_;rw[hk,H_,hx,H_];show(zg (.tup (L.map prD))).bind _=_;rw[AE,H_];show(match env[i]? with | some (.O (.N ks ds))=>if ks.length<16000000/\ds.length=ks.length then some (Out.nx (env.set i (.O (if fE L∈ks then .N ks ds else .N (ks++[fE L]) (ds++[d])))))else none | _=>none)=_;rw[he];show(if ks.length<16000000/\ds.length=ks.length then _ else none)=_;rw[j_ ⟨by lia,hl⟩]
def kH(h:List Sh):List L2.Key:=fE (lyP h)
omit [Th] in
theorem Kf{Z:List (List Sh)}{h:List Sh}:kH h∈Z.map kH↔lyP h∈Z.map lyP:=by
 rw[y_,y_];exact⟨λ⟨g,a,b⟩=>⟨g,a,sC b⟩,λ⟨g,a,b⟩=>⟨g,a,Tp fE b⟩⟩
theorem xq:∀{Z:List (List Sh)}{h:List Sh},(Z.map lyP).Nodup->h∈Z->bE (Z.map kH) (Z.map az) (kH h)=some (az h)
 | [],_,_,h=>by cases h
 | g::Z,h,nd,hh=>by
  show(if kH g=kH h then some (az g)else bE (Z.map kH) (Z.map az) (kH h))=_;rw[L_,UT]at nd;rcases t_.mp hh with rfl | hz
  .rw[j_ rfl]
  .rw[k_ (λz=>nd.1 (by rw[show lyP g=lyP h from sC z];exact SW hz))];exact xq nd.2 hz
theorem y7{R C:Nat}(hR:R<=4)(hC:C<=5)(Y:List (List Sh))(hl:Y.length<=100)(H:∀h∈Y,HC R C h):∃Z:List (List Sh),m__law_unlike [.lst (Y.map az)]=some (.lst (Z.map az))/\(Z.map lyP).Nodup/\(∀h∈Z,h∈Y)/\Z.length<=Y.length/\(0<Y.length->0<Z.length):=by
 obtain⟨e2,h1,Z,s2,rfl,h2,h3,h4,h5⟩:=bR (t:=b9 2) (body:=f') (λj e=>∃(Z:List (List Sh))(s2:Slot),e=[.F (.lst (Y.map az)),.O (.N (Z.map kH) (Z.map az)),s2]/\(Z.map lyP).Nodup/\(∀h∈Z,h∈Y)/\Z.length<=j/\(0<j->0<Z.length)) (Y.map az) 0 [.F (.lst (Y.map az)),.O (.N [] []),.un] ⟨[],.un,rfl,U6,λh hh=>(by cases hh),h_ _,λh=>absurd h (Uc _)⟩ λi d e hd aC=>by
  obtain⟨Z,s2,he,h2,h3,h4,h5⟩:=aC;subst he;rw[m_]at hd;obtain⟨h,hh,rfl⟩:=D_.mp hd;have hin:=R_ hh;have hi:=(i_.mp hh).1;rw[Ss]at h4 h5 ⊢;have dv:=IK (i:=1) (env:=[.F (.lst (Y.map az)),.O (.N (Z.map kH) (Z.map az)),.F (az h)]) (fx:=λenv=>bH env 2) (JN hR hC (H h hin) (f:=λenv=>bH env 2) (env:=[.F (.lst (Y.map az)),.O (.N (Z.map kH) (Z.map az)),.F (az h)]) rfl) rfl rfl (by rw[c_,c_]) (by rw[c_];lia)
  by_cases hm:kH h∈Z.map kH
  .rw[j_ (show fE (lyP h)∈Z.map kH from hm)]at dv;refine⟨_,eQ (e0:=[.F (.lst (Y.map az)),.O (.N (Z.map kH) (Z.map az)),.F (az h)]) rfl dv,Z,.F (az h),rfl,h2,h3,by lia,λ_=>?_⟩;exact Nat.pos_of_ne_zero λz=>by rw[T7.mp z]at hm;cases hm
  .rw[k_ (show ¬fE (lyP h)∈Z.map kH from hm)]at dv;refine⟨_,eQ (e0:=[.F (.lst (Y.map az)),.O (.N (Z.map kH) (Z.map az)),.F (az h)]) rfl dv,Z++[h],.F (az h),by rw[O_,O_];rfl,?_,λg hg=>?_,by rw[r_];simp;lia,λ_=>by rw[r_];simp⟩
   .rw[O_,U2];refine⟨h2,by simp,λa ha b hb e=>hm (Kf.mpr ?_)⟩;rw[L_,Vv,s_]at hb;rw[<- hb,<- e];exact ha
   .rcases Su.mp hg with z | z
    .exact h3 g z
    .rw[s_.mp z];exact hin
 rw[c_,Ss]at h4 h5;have g:=dN (t:=b9 0) (k:=bj (ao yS ah aq)) (env:=[.un,.F (.nt (Z.map kH) (Z.map az))]) (λh=>M8 (kH h)) az Z λh hh=>⟨[.F (M8 (kH h)),.F (.nt (Z.map kH) (Z.map az))],rfl,mi ((aD rfl rfl).trans (by
  unfold yS;show(zg (.tup ((EF (fE (lyP h))).map prD))).bind _=_;rw[kR,AE];exact xq h2 hh))⟩
 have c1:cq (Oi ah) [0] (b9 0) Xy (bj (ao yS ah aq)) 1 [1] [.F (.lst (Y.map az)),.F (.nt (Z.map kH) (Z.map az)),s2]=some (.lst (Z.map az)):=dA (fi:=Oi ah) (ds:=Z.map λh=>M8 (kH h)) (by show some _=_;rw[SO];rfl) (n:=1) (caps:=[1]) (is:=[0]) rfl g (by rw[c_];lia);exact⟨Z,bw ((aw rfl).trans ((aw ((bX (cQ rfl)).trans h1)).trans ((aw (e:=[.F (.lst (Y.map az)),.F (.nt (Z.map kH) (Z.map az)),s2]) rfl).trans (eg c1)))),h2,h3,h4,h5⟩
theorem L6:m__law_only [.str "many"]=some (gx KR):=by rfl
theorem tu{f g:Fe}{env:En}{d:D}(h1:f env=some d)(h2:g env=some d)(hd:dep d<=60)(hp:pl d=true):ao oK f g env=some (.bl false):=O7 h1 h2 (LY hd (by rw[hp];rfl)) (tf d hp)
theorem BZ(h1:1<=s.n)(h:s∈dZ R C s.n):∀q∈s.cs,q∈Dp R C:=λq hq=>by
 obtain⟨⟨a,b,ea,eb,ha,hb⟩,_,h3,h4⟩:=ky.mp h;obtain⟨c1,c2,c3,c4⟩:=(l5 h1 q).mp hq;rw[wF];unfold Sh.rz at c2;unfold Sh.cz at c4;cases hd:s.dn with
 | true=>
  have:=(h4 hd).1;rw[j_ hd]at c2 c4
  lia
 | false=>
  have:=h3 hd;rw[k_ (by rw[hd];simp)]at c2 c4
  lia
theorem PL.hc{R C:Nat}{fl:W7}{ru:Str}(p:PL R C fl ru){h:List Sh}(hh:h∈eh R C ru fl fl.length):HC R C h:=by
 have H:=p.hid hh;refine⟨H.ap,H.len,H.sz,λq hq=>?_⟩;unfold Gk at hq;obtain⟨s,hs,hq⟩:=WG.mp hq;exact BZ (H.sz s hs).1 (H.on s hs) q (Sy hq)
theorem v9(ds:Xq)(h:ds.length=0\/10<ds.length):m__law_told [.lst ds]=some (gx KR):=xD (Fw ds h) λk d e=>by
 injection e with e
 injection e with e1 e2
 rw[<- e1];exact s_.mpr rfl
theorem sM{R C:Nat}(hR:R<=4)(hC:C<=5)(hs:List (List Sh))(h0:0<hs.length)(h6:hs.length<=10)(H:∀h∈hs,HC R C h)(nd:(hs.map lyP).Nodup) :
  ∃(d:Nat)(P:D),m__law_told [.lst (hs.map az)]=some (.tup [.str Ge,.int (d:Nat),P])/\ou (hs.map lyP) d:=by
 obtain⟨d,P,h1,h2⟩:=AF hR hC hs h0 h6 H nd;exact⟨d,P,xD h1 λk d e=>(by cases e),h2⟩
omit [Th] in
theorem AW{g:Fe}{env:En}{n:Nat}(h:g env=some (.int (n:Nat)))(hn:n<=1000):z7 Xu g env=some (aG 1 (n-1)):=by
 unfold z7 fC;rw[h,H_,H_];dsimp only;rw[j_ (by unfold pT;rw[F_];exact⟨by decide,w_ ⟨by lia,by lia⟩⟩),show(((n:Nat):Int)-1).toNat=n-1 by lia]
omit [Th] in
theorem sx{n i:Nat}{d:D}(h:(aG 1 n)[i]?=some d):d=.int ((i+1:Nat):Int)/\i<n:=by
 unfold aG at h;rw[m_]at h;obtain⟨k,h1,rfl⟩:=D_.mp h;obtain⟨h2,h3⟩:=i_.mp h1;rw[T6]at h2;rw[List.getElem_range]at h3;subst h3;exact⟨by congr 1;lia,h2⟩
omit [Th] in
theorem E6{xs:Xq}(h:0<xs.length):L2.atI xs (-1)=xs[xs.length-1]?:=by
 unfold L2.atI L2.vS;rw[k_ (by decide),j_ (by lia)];show xs[(((xs.length:Nat):Int)+-1).toNat]?=_;rw[show(((xs.length:Nat):Int)+-1).toNat=xs.length-1 by lia]
def J5(d:Nat):D:=.int (d:Nat)
abbrev eL(sc:Slot)(c:Int)(sh fl ru ro:D)(Z:List (List Sh))(ds:W7)(s8 s9 gu eH:Slot):En:=[sc,.F (.int c),.F sh,.F fl,.F ru,.F ro,.F (.lst (Z.map az)),.O (.L (ds.map J5)),s8,s9,gu,eH]
structure OR(Z:List (List Sh))(ds:List Nat)(j:Nat):Prop where
 len:ds.length=j
 dep:∀k,k<j->ou ((Z.take (k+1)).map lyP) (ds.getD k 0)
 few:∀k,k<j->ds.getD k 0<=k
 up:∀k,k+1<j->ds.getD k 0<=ds.getD (k+1) 0/\ds.getD (k+1) 0<=ds.getD k 0+1
omit [Th] in
theorem getD_snoc{ds:W7}{d j k:Nat}(hl:ds.length=j)(hk:k<j+1):(ds++[d]).getD k 0=if k<j then ds.getD k 0 else d:=by
 rw[g_,g_]
 by_cases h:k<j
 .rw[j_ h,I_ (by lia)]
 .rw[k_ h,G_ (by lia),show k-ds.length=0 by lia];rfl
theorem BH{R C:Nat}(hR:R<=4)(hC:C<=5)(Z:List (List Sh))(h6:Z.length<=10)(H:∀h∈Z,HC R C h)(nd:(Z.map lyP).Nodup)(sc:Slot)(c:Int)(sh fl ru ro:D)(ds:W7)(i:Nat)(hi:i<Z.length)(D0:OR Z ds i)(s9 gu eH:Slot) :
  ∃d t9,qi (eL sc c sh fl ru ro Z ds (.F (.int ((i+1:Nat):Int))) s9 gu eH)=some (.nx (eL sc c sh fl ru ro Z (ds++[d]) (.F (.int ((i+1:Nat):Int))) t9 gu eH))/\OR Z (ds++[d]) (i+1):=by
 have hsub:((Z.take (i+1)).map lyP).Sublist (Z.map lyP):=(Wx _ _).map _;obtain⟨d,P,t1,t2⟩:=sM hR hC (Z.take (i+1)) (by rw[S1];lia) (by rw[S1];lia) (λh hh=>H h (VV hh)) (nd.sublist hsub);have hB:∀L∈Z.map lyP,∃x,L=la x:=λL hL=>by obtain⟨h,_,rfl⟩:=y_.mp hL;exact HC.up
 have gr:∀k,k+1=i->ds.getD k 0<=d/\d<=ds.getD k 0+1:=λk hk=>by
  have d1:=D0.dep k (by lia);rw[hk]at d1;have e:(Z.take (i+1)).map lyP=(Z.take i).map lyP++[lyP Z[i]]:=by rw[WR,f_ hi,O_];rfl
  rw[e]at t2 hsub;have nd2:=nd.sublist hsub;refine ou.grow (λy hy=>apart hB (SW (Tu hi)) (hsub.subset (U4 _ hy)) λz=>?_) d1 t2;rw[U2]at nd2;exact nd2.2.2 y hy _ (s_.mpr rfl) z.symm
 have hd:d<=i:=by
  cases i with
  | zero=>exact Nat.le_of_eq (t2.zero.mpr (by rw[c_,S1];lia))
  | succ k=>have:=(gr k rfl).2;have:=D0.few k (by lia);lia
 have hp:i+1<=2 ^ d:=by
  have:=qu t2.1;rw[c_,S1]at this;lia
 let td:D:=.tup [.str Ge,.int (d:Nat),P]
 have w1:(λenv=>((aa (Dq fF cj oNone (cP jG)) fNil) env).bind m__law_told) (eL sc c sh fl ru ro Z ds (.F (.int ((i+1:Nat):Int))) s9 gu eH)=some td:=(call_v (aj (xn (m:=i+1) rfl rfl) aN)).trans (by rw[<- VS];exact t1)
 let E9:En:=eL sc c sh fl ru ro Z ds (.F (.int ((i+1:Nat):Int))) (.F td) gu eH
 have x1:ao aO eG Xu E9=some (.int (d:Nat)):=jV (i:=1) (ds:=[.str Ge,.int (d:Nat),P]) rfl rfl rfl;have x2:Dm (fB (ao oK (ao aO eG Xt) (fC (.str "plan")))) (fB (ao ltI (ao mO Xu (ao aO eG Xu)) jG)) E9=some false:=(xJ (ez ((aD (jV (i:=0) (ds:=[.str Ge,.int (d:Nat),P]) rfl rfl rfl) rfl).trans rfl))).trans (ez ((aD (Ab x1 (by lia)) rfl).trans ((MW _ _).trans (by rw[E_ (by lia)]))));refine⟨d,.F td,(aw (e:=E9) (a7 (i:=9) w1)).trans ((aw (e:=E9) ((bO x2).trans rfl)).trans ((kY (i:=7) (ds:=ds.map J5) rfl x1 (by rw[c_,D0.len];lia)).trans (by simp only[eL,O_];rfl))),by rw[r_,D0.len];rfl,λk hk=>?_,λk hk=>?_,λk hk=>?_⟩
 .rw[getD_snoc D0.len hk]
  split
  .exact D0.dep k ‹_›
  .rw[show k=i by lia];exact t2
 .rw[getD_snoc D0.len hk]
  split
  .exact D0.few k ‹_›
  .lia
 .rw[getD_snoc D0.len hk,getD_snoc D0.len (by lia),j_ (show k<i by lia)]
  split
  .exact D0.up k ‹_›
  .exact gr k (by lia)
theorem FT(sc:Slot)(c:Int)(sh fl ru ro:D)(Z:List (List Sh))(ds:W7)(n:Nat)(D0:OR Z ds n)(i:Nat)(hi:i+1<n)(s8 s9 eH:Slot) :
  q8 (eL sc c sh fl ru ro Z ds s8 s9 (.F (.int ((i+1:Nat):Int))) eH)=some (.nx (eL sc c sh fl ru ro Z ds s8 s9 (.F (.int ((i+1:Nat):Int))) eH)):=by
 have Dd:∀k,k<n->L2.atI (ds.map J5) (k:Int)=some (.int (ds.getD k 0:Nat)):=λk hk=>dP (by rw[m_,g_,f_ (by rw[D0.len];exact hk)];rfl)
 let E:En:=eL sc c sh fl ru ro Z ds s8 s9 (.F (.int ((i+1:Nat):Int))) eH
 have a1:ao aO (λenv=>kn env 7) dW E=some (.int (ds.getD (i+1) 0:Nat)):=eD (ds:=ds.map J5) rfl rfl (Dd (i+1) hi);have a2:ao subI dW Xu E=some (.int (i:Nat)):=(aD rfl rfl).trans ((CO _ _).trans (by congr 2;lia));have a3:ao aO (λenv=>kn env 7) (ao subI dW Xu) E=some (.int (ds.getD i 0:Nat)):=eD (ds:=ds.map J5) rfl a2 (Dd i (by lia));have a4:=(aD a1 a3).trans (CO _ _);have u:=D0.up i hi;have a5:ao (Dl true) (ao subI (ao aO (λenv=>kn env 7) dW) (ao aO (λenv=>kn env 7) (ao subI dW Xu))) (bc (aa Xt (aa Xu fNil))) E=some (.bl false):=by
  rcases(show((ds.getD (i+1) 0:Nat):Int)-(ds.getD i 0:Nat)=0\/((ds.getD (i+1) 0:Nat):Int)-(ds.getD i 0:Nat)=1 by lia)with z | z
  .rw[z]at a4;exact(aD a4 rfl).trans rfl
  .rw[z]at a4;exact(aD a4 rfl).trans rfl
 exact(bO (ez a5)).trans rfl
theorem HW(sc:Slot)(c:Int)(s2 s3 s4 s5 s6 s7 s8 s9 gu eH:Slot):∃t2 t3 t4 t5 t6 t7 t8 t9 zS Ld,qw [sc,.F (.int c),s2,s3,s4,s5,s6,s7,s8,s9,gu,eH]=some (.nx [sc,.F (.int c),t2,t3,t4,t5,t6,t7,t8,t9,zS,Ld]):=by
 obtain⟨R,C,fl,ru,p1,p2,p3⟩:=yI c;have hR:=p2.r4;have hC:=p2.c5;obtain⟨Y,y1,y2,y3,y4⟩:=EO c _ p3 p2.len;obtain⟨Z,z1,z2,z3,z4,z5⟩:=y7 hR hC Y (by lia) λh hh=>p2.hc (y4 h hh);have hZ:=z5 y2;have H:∀h∈Z,HC R C h:=λh hh=>p2.hc (y4 h (z3 h hh))
 let sh:D:=.tup [.int R,.int C]
 let ro:D:=.lst ((eh R C ru fl fl.length).map az)
 have w0:(λenv=>((aa ah fNil) env).bind m__law_played) [sc,.F (.int c),s2,s3,s4,s5,s6,s7,s8,s9,gu,eH]=some (.tup [sh,jM fl,.str ru,ro]):=(call_v (aj (d:=.int c) rfl aN)).trans p1
 let E5:En:=[sc,.F (.int c),.F sh,.F (jM fl),.F (.str ru),.F ro,s6,s7,s8,s9,gu,eH]
 have on:∀e:En,(λenv=>((aa (fC (.str "many")) fNil) env).bind m__law_only) e=some (gx KR):=λe=>(call_v (aj (d:=.str "many") rfl aN)).trans L6;have RS:dep (gx KR)<=60:=by decide +kernel
 have DB:pl (gx KR)=true:=by decide +kernel
 have w1:fB (ao oK (λenv=>((aa (b8 fNil) fNil) env).bind m__law_told) (λenv=>((aa (fC (.str "many")) fNil) env).bind m__law_only)) E5=some false:=ez (tu ((call_v (aj (xy aN) aN)).trans (v9 [] (.inl rfl))) (on _) RS DB);have RT:br ck d6 E5=some (.int ((eh R C ru fl fl.length).length:Nat)):=(gf rfl).trans (by rw[c_]);have w2:jH (fB (ao gtI (br ck d6) (fC (.int 10)))) (fB (ao oK (λenv=>((aa (Dq fF d6 oNone (cP (fC (.int 11)))) fNil) env).bind m__law_told) (λenv=>((aa (fC (.str "many")) fNil) env).bind m__law_only))) E5=some false:=by
  by_cases h:10<(eh R C ru fl fl.length).length
  .refine(H9 (ez ((aD RT rfl).trans ((LD _ _).trans (by rw[w_ (by lia)]))))).trans ?_;refine ez (tu ((call_v (aj (xn (m:=11) rfl rfl) aN)).trans (v9 _ (.inr ?_))) (on _) RS DB);rw[S1,c_];lia
  .exact JX (ez ((aD RT rfl).trans ((LD _ _).trans (by rw[E_ (by lia)]))))
 have w3:(λenv=>((aa (λenv=>((aa ah (aa d6 (aa (fC (.int 10)) fNil))) env).bind m__law_some_hidings) fNil) env).bind m__law_unlike) E5=some (.lst (Z.map az)):=(call_v (m:=m__law_unlike) (aj (f:=λenv=>((aa ah (aa d6 (aa (fC (.int 10)) fNil))) env).bind m__law_some_hidings) ((call_v (aj (d:=.int c) rfl (aj (d:=ro) rfl (aj (d:=.int 10) rfl aN)))).trans y1) aN)).trans z1;have lz:∀(ds:W7)(s8 s9 gu eH:Slot),ao addI (br ck cj) Xu (eL sc c sh (jM fl) (.str ru) ro Z ds s8 s9 gu eH)=some (.int ((Z.length+1:Nat):Int)):=λds s8 s9 gu eH=>(aD (gf rfl) rfl).trans ((gP _ _).trans (by rw[c_];congr 2));obtain⟨e2,g1,ds,t8,t9,rfl,D1⟩:=bR (t:=b9 8) (body:=qi) (λj e=>∃(ds:W7)(t8 t9:Slot),e=eL sc c sh (jM fl) (.str ru) ro Z ds t8 t9 gu eH/\OR Z ds j) (aG 1 (Z.length+1-1)) 0 (eL sc c sh (jM fl) (.str ru) ro Z [] s8 s9 gu eH) ⟨[],s8,s9,rfl,rfl,λk hk=>absurd hk (UV _),λk hk=>absurd hk (UV _),λk hk=>absurd hk (UV _)⟩ λi d e hd aC=>by
  obtain⟨ds,t8,t9,he,D0⟩:=aC;subst he;obtain⟨rfl,hi⟩:=sx hd;rw[Ss]at D0 ⊢;obtain⟨d,t9',h1,h2⟩:=BH hR hC Z (by lia) H z2 sc c sh (jM fl) (.str ru) ro ds i (by lia) D0 t9 gu eH;exact⟨_,eQ (e0:=eL sc c sh (jM fl) (.str ru) ro Z ds (.F (.int ((i+1:Nat):Int))) t9 gu eH) rfl h1,_,_,_,rfl,h2⟩
 rw[show(aG 1 (Z.length+1-1)).length=Z.length by simp[aG],Ss]at D1;have ld:br ck (λenv=>kn env 7) (eL sc c sh (jM fl) (.str ru) ro Z ds t8 t9 gu eH)=some (.int (Z.length:Nat)):=(gf (ds:=ds.map J5) rfl).trans (by rw[c_,D1.len]);obtain⟨e3,g2,zS,rfl⟩:=bR (t:=b9 10) (body:=q8) (λ_ e=>∃zS,e=eL sc c sh (jM fl) (.str ru) ro Z ds t8 t9 zS eH) (aG 1 (Z.length-1)) 0 (eL sc c sh (jM fl) (.str ru) ro Z ds t8 t9 gu eH) ⟨_,rfl⟩ λi d e hd aC=>by
  obtain⟨zS,he⟩:=aC;subst he;obtain⟨rfl,hi⟩:=sx hd;exact⟨_,eQ (e0:=eL sc c sh (jM fl) (.str ru) ro Z ds t8 t9 (.F (.int ((i+1:Nat):Int))) eH) rfl (FT sc c sh (jM fl) (.str ru) ro Z ds Z.length D1 i (by lia) t8 t9 eH),_,rfl⟩
 obtain⟨qs,o1,o2⟩:=CA (c+1) Z (by lia);obtain⟨d',P',o3,o4⟩:=sM hR hC qs (by rw[o2.length_eq];exact hZ) (by rw[o2.length_eq];lia) (λh hh=>H h (o2.mem_iff.mp hh)) ((o2.map lyP).nodup_iff.mpr z2);have dl:=D1.dep (Z.length-1) (by lia);rw[show Z.length-1+1=Z.length by lia,Td]at dl;have ed:=ou.uniq (o4.perm (o2.map lyP)) dl
 let td:D:=.tup [.str Ge,.int (d':Nat),P']
 have w4:(λenv=>((aa (λenv=>((aa (ao addI ah Xu) (aa cj fNil)) env).bind m__law_order) fNil) env).bind m__law_told) (eL sc c sh (jM fl) (.str ru) ro Z ds t8 t9 zS eH)=some td:=(call_v (m:=m__law_told) (aj (f:=λenv=>((aa (ao addI ah Xu) (aa cj fNil)) env).bind m__law_order) ((call_v (aj ((aD rfl rfl).trans (gP c 1)) (aj (d:=.lst (Z.map az)) rfl aN))).trans o1) aN)).trans o3
 let E11:En:=eL sc c sh (jM fl) (.str ru) ro Z ds t8 t9 zS (.F td)
 have x1:ao aO gJ Xu E11=some (.int (d':Nat)):=jV (i:=1) (ds:=[.str Ge,.int (d':Nat),P']) rfl rfl rfl;have x2:ao aO (λenv=>kn env 7) (br iH Xu) E11=some (.int (d':Nat)):=eD (ds:=ds.map J5) (i:=-1) rfl rfl (by rw[E6 (by rw[c_,D1.len];exact hZ),c_,D1.len,m_,ed,g_,f_ (by rw[D1.len];lia)];rfl);have x3:Dm (fB (ao oK (ao aO gJ Xt) (fC (.str "plan")))) (fB (ao oK (ao aO gJ Xu) (ao aO (λenv=>kn env 7) (br iH Xu)))) E11=some false:=(xJ (ez ((aD (jV (i:=0) (ds:=[.str Ge,.int (d':Nat),P']) rfl rfl rfl) rfl).trans rfl))).trans (ez ((aD x1 x2).trans ((LI _ _).trans (by simp))));refine⟨_,_,_,_,_,_,_,_,_,_,(aw (e:=E5) (xW (f:=λenv=>((aa ah fNil) env).bind m__law_played) w0 rfl)).trans ((aw (e:=E5) ((bO w1).trans rfl)).trans ((aw (e:=E5) ((bO w2).trans rfl)).trans ((aw (e:=[sc,.F (.int c),.F sh,.F (jM fl),.F (.str ru),.F ro,.F (.lst (Z.map az)),s7,s8,s9,gu,eH]) (a7 (i:=6) w3)).trans ((aw (e:=eL sc c sh (jM fl) (.str ru) ro Z [] s8 s9 gu eH) (kB (i:=7) (xy aN))).trans ((aw ((bX (AW (lz _ _ _ _ _) (by lia))).trans g1)).trans ((aw ((bX (AW ld (by lia))).trans g2)).trans ((aw (e:=E11) (a7 (i:=11) w4)).trans ((bO x3).trans rfl))))))))⟩
theorem law_true(ns:W8)(hl:ns.length<=63):m_law [.lst (ns.map .int)]=some (.bl true):=by
 obtain⟨e2,g1,t1,t2,t3,t4,t5,t6,t7,t8,t9,zS,Ld,rfl⟩:=tY (t:=b9 1) (body:=qw) (λe=>∃s1 s2 s3 s4 s5 s6 s7 s8 s9 gu eH,e=[.F (.lst (ns.map .int)),s1,s2,s3,s4,s5,s6,s7,s8,s9,gu,eH]) (((0:Int)::ns.take 6).map .int) (aS 12 [.lst (ns.map .int)]) ⟨_,_,_,_,_,_,_,_,_,_,_,rfl⟩ λd hd e aC=>by
  obtain⟨s1,s2,s3,s4,s5,s6,s7,s8,s9,gu,eH,he⟩:=aC;subst he;obtain⟨c,_,rfl⟩:=y_.mp hd;obtain⟨t2,t3,t4,t5,t6,t7,t8,t9,zS,Ld,u⟩:=HW (.F (.lst (ns.map .int))) c s2 s3 s4 s5 s6 s7 s8 s9 gu eH;exact⟨_,eQ (e0:=[.F (.lst (ns.map .int)),.F (.int c),s2,s3,s4,s5,s6,s7,s8,s9,gu,eH]) rfl u,_,_,_,_,_,_,_,_,_,_,_,rfl⟩
 refine bw ((aw ((bX (cQ ?_)).trans g1)).trans rfl);exact(BJ (xs:=[.int 0]) (ys:=(ns.map .int).take 6) rfl (xn (m:=6) rfl rfl) (by simp;lia)).trans (by rw[<- VS];rfl)
end K31
namespace K31
open PySem PySem.Spec PyProof.Rows L2 Mi Xc
abbrev pg:Xd:=PySem.Challenge.pw_fleethide_k31_whole_fewer_hidings_fewer
variable [Th]
def gt(n:Nat):Xl:=pg.main.body.getD n (.Pass ⟨0,0,0,0⟩)
def st__law_stir:=gt 25
def st__law_drawn:=gt 26
def st__law_game:=gt 34
def st__law_ships:=gt 30
def st__law_cells:=gt 29
def st__law_halo:=gt 31
def st__law_free:=gt 33
def st__law_all:=gt 32
def st__law_played:=gt 35
def st_cells_of:=gt 13
def st_lying_cells:=gt 14
def st_alike_pairs:=gt 18
def st_cells_by_lot:=gt 19
def st_depth_behind:=gt 22
def st_best_shown:=gt 21
def st_least_depths:=gt 20
def st_plan_for:=gt 23
def st_least_plan:=gt 17
def st__law_told:=gt 39
def st__law_only:=gt 28
def st__law_ground:=gt 37
def st__law_unlike:=gt 40
def st__law_order:=gt 36
def st__law_some_hidings:=gt 38
def st_law:=gt 41
structure Tx(W:Wd):Prop where
 z_ValueError:W.mg "ValueError"=none
 z_enumerate:W.mg "enumerate"=none
 z_int:W.mg "int"=none
 z_isinstance:W.mg "isinstance"=none
 z_len:W.mg "len"=none
 z_max:W.mg "max"=none
 z_min:W.mg "min"=none
 z_range:W.mg "range"=none
 z_sorted:W.mg "sorted"=none
 z_sum:W.mg "sum"=none
 z_tuple:W.mg "tuple"=none
 e_MOST_PLANNED:∃v u,W.mg "MOST_PLANNED"=some u/\RelV v u/\∀Z,Rep W.K Z cI v
 hw:Th.h=hashStr W.w
section
variable {W:Wd}
abbrev eF(W:Wd):Prop:=W.Q 1 "_law_stir" 2 .cl m__law_stir
abbrev jI(W:Wd):Prop:=W.Q 2 "_law_drawn" 2 .nw m__law_drawn
abbrev kS(W:Wd):Prop:=W.Q 3 "_law_game" 1 .cl m__law_game
abbrev jA(W:Wd):Prop:=W.Q 1 "_law_ships" 2 .nw m__law_ships
abbrev dG(W:Wd):Prop:=W.Q 1 "_law_cells" 1 .nw m__law_cells
abbrev kM(W:Wd):Prop:=W.Q 2 "_law_halo" 2 .nm m__law_halo
abbrev kO(W:Wd):Prop:=W.Q 1 "_law_free" 2 .cl m__law_free
abbrev mF(W:Wd):Prop:=W.Q 3 "_law_all" 3 .nw m__law_all
abbrev iE(W:Wd):Prop:=W.Q 4 "_law_played" 1 .cl m__law_played
abbrev mw(W:Wd):Prop:=W.Q 1 "cells_of" 1 .nw m_cells_of
abbrev iz(W:Wd):Prop:=W.Q 2 "lying_cells" 1 .cl m_lying_cells
abbrev iA(W:Wd):Prop:=W.Q 1 "alike_pairs" 1 .cl m_alike_pairs
abbrev gG(W:Wd):Prop:=W.Q 1 "cells_by_lot" 1 .cl m_cells_by_lot
abbrev ei(W:Wd):Prop:=W.Q 1 "depth_behind" 3 .cl m_depth_behind
abbrev fH(W:Wd):Prop:=W.Q 4 "best_shown" 3 .cl m_best_shown
abbrev gU(W:Wd):Prop:=W.Q 5 "least_depths" 2 .cl m_least_depths
abbrev nG(W:Wd):Prop:=W.Q 68 "plan_for" 3 .cl iI
abbrev jj(W:Wd):Prop:=W.QX 69 "least_plan" 1 m_least_plan
abbrev kJ(W:Wd):Prop:=W.Q 70 "_law_told" 1 .cl m__law_told
abbrev kN(W:Wd):Prop:=W.Q 1 "_law_only" 1 .nw m__law_only
abbrev iC(W:Wd):Prop:=W.Q 2 "_law_ground" 1 .nm m__law_ground
abbrev ip(W:Wd):Prop:=W.Q 3 "_law_unlike" 1 .nw m__law_unlike
abbrev fL(W:Wd):Prop:=W.Q 2 "_law_order" 2 .nw m__law_order
abbrev dE(W:Wd):Prop:=W.Q 3 "_law_some_hidings" 3 .cl m__law_some_hidings
theorem qA(h:W.At "_law_stir" st__law_stir)(T:Tx W):eF W:=nZ ["cell","k","number"] 2 h λ_ _ _ _ _ _ _ hr hN=>(ay (bf 2 (oY (a8 (a8 (bV (ae 0) (wC ag ag)) (oY ag (ae 1))) ag) ag) hN) (ay (bf 2 (bV (ae 2) ag) hN) (aF (bA (qI (bV (wC (a8 (wC (ae 2) ag) (oY ag (ae 1))) ag) ag) ag)))))
theorem oo(h:W.At "_law_drawn" st__law_drawn)(T:Tx W)(bQ:eF W):jI W:=nZ ["cell","sizes","found","rest","k"] 2 h λ_ _ _ _ _ _ _ hr hN=>(ay (iR 2 (bW au) hN) (ay (bf 3 (ae 0) hN) (ay (cB Sv rfl (cu T.z_range (gO T.z_len (ae 1))) (aR 4 hN) (aF (fQ (K6 (w_or (Lk (ae 0) (wC ag ag)) (AO (sS hr (ae 3) ag)))) (aF (nz 2 (bV (aX bQ hr (af (ae 0) (af (ae 4) au))) (bg (ae 1) (ae 4))))) (ay (nz 2 (bV (ae 3) (bg (ae 1) (ae 4)))) (aF (bf 3 (qI (ae 3) (bg (ae 1) (ae 4))) hN)))))) (aF (qY 2)))))
theorem rC(h:W.At "_law_game" st__law_game)(T:Tx W)(k__law_drawn:jI W):kS W:=nZ ["cell","way","rows","columns","first","second","third","rule","sheet","fleet"] 1 h λ_ _ _ _ _ _ _ hr hN=>(ay (Nk rfl (cS (aX k__law_drawn hr (af (ae 0) (af (cS (bW (af ag (af ag (af ag (af ag (af ag (af ag (af ag au))))))))) au)))) (aE 1 hN (aE 2 hN (aE 3 hN (aE 4 hN (aE 5 hN (aE 6 hN (aE 7 hN cT)))))))) (ay (bf 8 (bg (bW (af (aY (af (a8 ag (ae 2)) (af (a8 ag (ae 3)) au))) (af (aY (af (a8 ag (bV (ae 2) ag)) (af (a8 ag (bV (ae 3) ag)) au))) (af (aY (af (a8 ag (bV (ae 2) ag)) (af (a8 ag (bV (ae 3) ag)) au))) au)))) (ML T.z_min rfl (ae 1) ag)) hN) (ay (fQ (sS hr (ae 1) ag) (aF (bf 8 (aY (af ag (af (a8 ag (ae 3)) au))) hN)) cE) (ay (bf 9 (bg (bW (af (aY (af (a8 ag (ae 4)) au)) (af (aY (af (a8 ag (bV (ae 4) ag)) (af (a8 ag (bV (ae 5) ag)) au))) (af (aY (af (a8 ag (bV (ae 4) ag)) (af (a8 ag (bV (ae 5) ag)) (af (a8 ag (bV (ae 6) ag)) au)))) au)))) (bV (ae 1) ag)) hN) (ay (fQ (sS hr (ae 1) ag) (aF (bf 9 (aY (af (a8 ag (bV (ae 4) ag)) (af (a8 ag (bV (ae 5) ag)) (af (a8 ag (bV (ae 6) ag)) au)))) hN)) cE) (ay (bf 9 (wo T.z_tuple (Lq (BX T.z_sorted (ae 9)))) hN) (aF (bA (aY (af (ae 8) (af (ae 9) (af (bg (bW (af bt (af bt (af bt au)))) (ae 7)) au))))))))))))
theorem oq(h:W.At "_law_ships" st__law_ships)(T:Tx W):jA W:=nZ ["sheet","length","found","row","column"] 2 h λ_ _ _ _ _ _ _ hr hN=>(ay (iR 2 (bW au) hN) (ay (cB Sv rfl (cu T.z_range (bg (ae 0) ag)) (aR 3 hN) (aF (cB Sv rfl (cu T.z_range (bg (ae 0) ag)) (aR 4 hN) (ay (fQ (MQ (a8 (ae 4) (ae 1)) (bg (ae 0) ag)) (aF (nz 2 (aY (af (ae 3) (af (ae 4) (af bt (af (ae 1) au))))))) cE) (aF (fQ (K6 (w_and (MQ (a8 (ae 3) (ae 1)) (bg (ae 0) ag)) (u6 (Mu (ae 1) ag)))) (aF (nz 2 (aY (af (ae 3) (af (ae 4) (af bt (af (ae 1) au))))))) cE)))))) (aF (qY 2))))
theorem oC(h:W.At "_law_cells" st__law_cells)(T:Tx W):dG W:=nZ ["ship","row","column","way","length","found","k"] 1 h λ_ _ _ _ _ _ _ hr hN=>(ay (E2 rfl (ae 0) (aE 1 hN (aE 2 hN (aE 3 hN (aE 4 hN cT))))) (ay (iR 5 (bW au) hN) (ay (cB Sv rfl (cu T.z_range (ae 4)) (aR 6 hN) (aF (nz 5 (aY (af (a8 (ae 1) (oY (ae 6) (B2 T.z_int (FX hr (ae 3) bt)))) (af (a8 (ae 2) (oY (ae 6) (B2 T.z_int (FX hr (ae 3) bt)))) au)))))) (aF (qY 5)))))
theorem qe(h:W.At "_law_halo" st__law_halo)(T:Tx W)(cK:dG W):kM W:=nZ ["rule","ship","found","steps","row","column","down","right"] 2 h λ_ _ _ _ _ _ _ hr hN=>(ay (Bc 2 (CI T.hw) hN) (ay (bf 3 (cS (bW (af (aY (af ag (af ag au))) au))) hN) (ay (fQ (yX hr (ae 0) bt) (aF (bf 3 (cS (mS (ae 3) (bW (af (aY (af ag (af ag au))) (af (aY (af ag (af ag au))) (af (aY (af ag (af (ji ag) au))) (af (aY (af (ji ag) (af ag au))) au))))))) hN)) cE) (ay (fQ (sS hr (ae 0) bt) (aF (bf 3 (cS (mS (ae 3) (bW (af (aY (af ag (af ag au))) (af (aY (af ag (af (ji ag) au))) (af (aY (af (ji ag) (af ag au))) (af (aY (af (ji ag) (af (ji ag) au))) au))))))) hN)) cE) (ay (cB Sv rfl (bN (cS (aX cK hr (af (ae 1) au)))) (jD rfl (aE 4 hN (aE 5 hN cT))) (aF (cB Sv rfl (bN (ae 3)) (jD rfl (aE 6 hN (aE 7 hN cT))) (aF (AX 2 T.hw hr l4 (aY (af (a8 (ae 4) (ae 6)) (af (a8 (ae 5) (ae 7)) au)))))))) (aF (Ce 2)))))))
theorem qB(h:W.At "_law_free" st__law_free)(T:Tx W):kO W:=nZ ["halo","ground","one","cell"] 2 h λ_ _ _ _ _ _ _ hr hN=>(ay (cB Sv rfl (bN (ae 0)) (aR 2 hN) (aF (cB Sv rfl (bN (ae 1)) (aR 3 hN) (aF (fQ (Lw T.hw hr (ae 3) (ae 2)) (aF (bA l4)) cE))))) (aF (bA l4)))
theorem tU(h:W.At "_law_all" st__law_all)(T:Tx W)(k__law_ships:jA W)(k__law_halo:kM W)(cK:dG W)(k__law_free:kO W):mF W:=nZ ["sheet","fleet","rule","rows","place","length","ships","halos","grounds","longer","hiding","halo","k","later"] 3 h λ_ _ _ _ _ _ _ hr hN=>(ay (bf 3 (cS (bW (af (aY (af (aY au) (af (cS (bW au)) au))) au))) hN) (ay (cB Sv rfl (uN T.z_enumerate (ae 1)) (jD rfl (aE 4 hN (aE 5 hN cT))) (ay (bf 6 (cS (aX k__law_ships hr (af (ae 0) (af (ae 5) au)))) hN) (ay (nA 7 (nC (Nc:=["ship","rule"]) (own:=["ship"]) (caps:=[2]) (cD 0) rfl (bN (ae 6)) rfl rfl (λ_ _ _ _ _ _=>have hN:=(by decide +kernel:List.Nodup (["ship","rule"]:W3));(bF (λ_ _ z=>z) (aR 0 hN) cG (Na (aX k__law_halo hr (af (ae 1) (af (ae 0) au))))))) hN) (ay (nA 8 (nC (Nc:=["ship"]) (own:=["ship"]) (caps:=[]) (cD 0) rfl (bN (ae 6)) rfl rfl (λ_ _ _ _ _ _=>have hN:=(by decide +kernel:List.Nodup (["ship"]:W3));(bF (λ_ _ z=>z) (aR 0 hN) cG (cS (aX cK hr (af (ae 0) au)))))) hN) (ay (iR 9 (bW au) hN) (ay (cB Sv rfl (bN (ae 3)) (jD rfl (aE 10 hN (aE 11 hN cT))) (aF (cB Sv rfl (cu T.z_range (gO T.z_len (ae 6))) (aR 12 hN) (ay (bf 13 (Ll (FX hr (ae 4) ag) (Ll (O4 hr (bg (ae 1) (kU (ae 4) ag)) (ae 5)) (MN (Lf hr (bg (ae 10) (ji ag)) (bg (ae 6) (ae 12)))))) hN) (aF (fQ (K6 (w_and (GU (ae 13)) (u6 (GU (aX k__law_free hr (af (ae 11) (af (bg (ae 8) (ae 12)) au))))))) (aF (nz 9 (aY (af (Az (ae 10) (aY (af (bg (ae 6) (ae 12)) au))) (af (cS (mS (ae 11) (bW (af (bg (ae 7) (ae 12)) au)))) au))))) cE)))))) (xP 9 (aF (bf 3 (ae 9) hN))))))))) (aF (bA (gA (Nc:=["hiding","halo"]) (own:=["hiding","halo"]) (caps:=[]) (vn [0,1]) rfl (bN (ae 3)) rfl rfl (λ_ _ _ _ _ _=>have hN:=(by decide +kernel:List.Nodup (["hiding","halo"]:W3));(bF (λ_ _ z=>z) (jD rfl (aE 0 hN (aE 1 hN cT))) cG (ae 0))))))))
theorem lX(h:W.At "_law_played" st__law_played)(T:Tx W)(k__law_game:kS W)(nV:mF W):iE W:=nZ ["cell","sheet","fleet","rule","rows"] 1 h λ_ _ _ _ _ _ _ hr hN=>(ay (E2 rfl (aX k__law_game hr (af (ae 0) au)) (aE 1 hN (aE 2 hN (aE 3 hN cT)))) (ay (bf 4 (cS (aX nV hr (af (ae 1) (af (ae 2) (af (ae 3) au))))) hN) (ay (fQ (sS hr (ae 4) (bW au)) (ay (bf 2 (aY (af ag au)) hN) (aF (bf 4 (cS (aX nV hr (af (ae 1) (af (ae 2) (af (ae 3) au))))) hN))) cE) (aF (bA (aY (af (ae 1) (af (ae 2) (af (ae 3) (af (ae 4) au))))))))))
theorem tZ(h:W.At "cells_of" st_cells_of)(T:Tx W):mw W:=nZ ["ship","row","column","way","length"] 1 h λ_ _ _ _ _ _ _ hr hN=>(ay (E2 rfl (ae 0) (aE 1 hN (aE 2 hN (aE 3 hN (aE 4 hN cT))))) (ay (fQ (sS hr (ae 3) bt) (aF (bA (gA (Nc:=["step","row","column"]) (own:=["step"]) (caps:=[1,2]) (cD 0) rfl (cu T.z_range (ae 4)) rfl rfl (λ_ _ _ _ _ _=>have hN:=(by decide +kernel:List.Nodup (["step","row","column"]:W3));(bF (λ_ _ z=>z) (aR 0 hN) cG (aY (af (a8 (ae 1) (ae 0)) (af (ae 2) au)))))))) cE) (aF (bA (gA (Nc:=["step","row","column"]) (own:=["step"]) (caps:=[1,2]) (cD 0) rfl (cu T.z_range (ae 4)) rfl rfl (λ_ _ _ _ _ _=>have hN:=(by decide +kernel:List.Nodup (["step","row","column"]:W3));(bF (λ_ _ z=>z) (aR 0 hN) cG (aY (af (ae 1) (af (a8 (ae 2) (ae 0)) au))))))))))
theorem mV(h:W.At "lying_cells" st_lying_cells)(T:Tx W)(k_cells_of:mw W):iz W:=nZ ["hiding"] 1 h λ_ _ _ _ _ _ _ hr hN=>(aF (bA (cS (xg T.z_sorted (gA (Nc:=["ship","cell"]) (own:=["ship","cell"]) (caps:=[]) (cD 0) rfl (G6 (ae 0)) rfl rfl (λ_ _ _ _ _ _=>have hN:=(by decide +kernel:List.Nodup (["ship","cell"]:W3));(rS (λ_ _ z=>z) rfl (aR 0 hN) cG (bN (cS (aX k_cells_of hr (af (ae 0) au)))) (cD 1) (bF (λ_ _ z=>z) (aR 1 hN) cG (ae 1)))))))))
theorem lW(h:W.At "alike_pairs" st_alike_pairs)(T:Tx W):iA W:=nZ ["bodies","pairs"] 1 h λ_ _ _ _ _ _ _ hr hN=>(ay (nA 1 (nC (Nc:=["other","one"]) (own:=["other","one"]) (caps:=[]) (cD 0) rfl (cu T.z_range (gO T.z_len (ae 0))) rfl rfl (λ_ _ _ _ _ _=>have hN:=(by decide +kernel:List.Nodup (["other","one"]:W3));(rS (λ_ _ z=>z) rfl (aR 0 hN) cG (cu T.z_range (ae 0)) (cD 1) (bF (λ_ _ z=>z) (aR 1 hN) cG (aY (af (ae 1) (af (ae 0) au))))))) hN) (aF (bA (cS (xg T.z_sorted (gA (Nc:=["one","other","bodies"]) (own:=["one","other"]) (caps:=[0]) (vn [0,1]) rfl (bN (ae 1)) rfl rfl (λ_ _ _ _ _ _=>have hN:=(by decide +kernel:List.Nodup (["one","other","bodies"]:W3));(bF (λ_ _ z=>z) (jD rfl (aE 0 hN (aE 1 hN cT))) (vc (λ_ _ z=>z) (sS hr (bg (ae 2) (ae 0)) (bg (ae 2) (ae 1)))) (aY (af (ae 0) (af (ae 1) au)))))))))))
theorem k8(h:W.At "cells_by_lot" st_cells_by_lot)(T:Tx W):gG W:=nZ ["bodies","cells","cell"] 1 h λ_ _ _ _ _ _ _ hr hN=>(ay (JH 1 T.hw hN) (ay (cB Sv rfl (bN (cS (F4 (Nc:=["body","part"]) (own:=["body","part"]) (caps:=[]) T.z_sorted (cD 0) rfl (bN (ae 0)) rfl rfl (λ_ _ _ _ _ _=>have hN:=(by decide +kernel:List.Nodup (["body","part"]:W3));(yH (λ_ _ z=>z) rfl (aR 0 hN) cG (bN (ae 0)) (cD 1) (zi (AL hr) (λ_ _ z=>z) (aR 1 hN) cG (ae 1))))))) (aR 2 hN) (aF (HZ 1 T.hw (Nq T.z_sum rfl (gA (Nc:=["number","body","cell"]) (own:=["number","body"]) (caps:=[2]) (vn [0,1]) rfl (uN T.z_enumerate (ae 0)) rfl rfl (λ_ _ _ _ _ _=>have hN:=(by decide +kernel:List.Nodup (["number","body","cell"]:W3));(bF (λ_ _ z=>z) (jD rfl (aE 0 hN (aE 1 hN cT))) (vc (λ_ _ z=>z) (PC hr (ae 2) (ae 1))) (wg ag (ae 0)))))) (ae 2)))) (xP 1 (aF (bA (ae 1))))))
theorem lb(h:W.At "depth_behind" st_depth_behind)(T:Tx W):ei W:=nZ ["shown","lot","depths"] 3 h λ_ _ _ _ _ _ _ hr hN=>(aF (bA (B4 T.z_max rfl (bg (ae 2) (jS (ae 1) (ae 0))) (bg (ae 2) (kU (ae 1) (jS (ae 1) (ae 0)))))))
theorem om{c P:Xj}(h:W.AtC "best_shown" st_best_shown c)(lm:Lam W "best_shown" c P)(T:Tx W)(eo:ei W):fH W:=Pl ["lot","cells","depths","parting"] 3 h λ_ _ _ _ _ _ hr hN=>(ay (nA 3 (nC (Nc:=["shown","lot"]) (own:=["shown"]) (caps:=[0]) (cD 0) rfl (IA T.hw (ae 1)) rfl rfl (λ_ _ _ _ _ _=>have hN:=(by decide +kernel:List.Nodup (["shown","lot"]:W3));(bF (λ_ _ z=>z) (aR 0 hN) (vc (λ_ _ z=>z) (wa CJ CJ Kd Kd ag (jS (ae 1) (ae 0)) (ae 1))) (ae 0)))) hN) (aF (bA (IG (k:=1) (Nc:=["shown","lot","depths"]) (caps:=[0,2]) (hr.mono (by decide)) T.z_min rfl lm.t rfl lm.c (ae 3) rfl rfl rfl (λ_ _ _ _ _ hr=>(aX eo hr (af (ae 0) (af (ae 1) (af (ae 2) au)))))))))
theorem k9(h:W.At "least_depths" st_least_depths)(T:Tx W)(eo:ei W)(fY:fH W):gU W:=nZ ["cells","many","depths","lot"] 2 h λ_ _ _ _ _ _ _ hr hN=>(ay (iR 2 (Iq (bW (af ag au)) (wg ag (ae 1))) hN) (ay (cB Sv rfl (cu T.z_range (wg ag (ae 1))) (aR 3 hN) (aF (fQ (Jt (jS (ae 3) (kU (ae 3) ag))) (aF (Ey 2 (HD 2 (a8 ag (aX eo hr (af (aX fY hr (af (ae 3) (af (ae 0) (af (ae 2) au)))) (af (ae 3) (af (ae 2) au)))))) (ae 3))) cE))) (xP 2 (aF (bA (ae 2))))))
theorem tW(h:W.At "plan_for" st_plan_for)(T:Tx W)(fY:fH W):nG W:=Sj (k:=4) (m:=bu) (fb:=λi=>fJ (bu i)) ["lot","cells","depths","shown","without"] 3 64 h rfl (λ_=>rfl) λi K_plan_for _ _ _ _ _ _ _ hr hN=>(ay (fQ (sS hr (bg (ae 2) (ae 0)) ag) (aF (bA (aY (af bt (af (kU (Kc (ae 0)) ag) au))))) cE) (ay (bf 3 (aX fY hr (af (ae 0) (af (ae 1) (af (ae 2) au)))) hN) (ay (bf 4 (vm K_plan_for hr (af (kU (ae 0) (jS (ae 0) (ae 3))) (af (ae 1) (af (ae 2) au)))) hN) (aF (bA (aY (af bt (af (HA T.hw (ae 1) (ae 3)) (af (ae 4) (af (vm K_plan_for hr (af (jS (ae 0) (ae 3)) (af (ae 1) (af (ae 2) au)))) au))))))))))
theorem n4(h:W.At "least_plan" st_least_plan)(T:Tx W)(xc_TooMany:W.X "TooMany")(k_lying_cells:iz W)(k_alike_pairs:iA W)(k_cells_by_lot:gG W)(k_least_depths:gU W)(k_plan_for:nG W):jj W:=by
 obtain⟨v_MOST_PLANNED,u_MOST_PLANNED,g_MOST_PLANNED,rv_MOST_PLANNED,r_MOST_PLANNED⟩:=T.e_MOST_PLANNED;exact Sk ["hidings","bodies","alike","cells","depths"] 1 h λ_ _ _ _ _ _ _ hr hN=>(kc (Pz (L0 (wa BW BW IY IY ag (gO T.z_len (ae 0)) (Jd g_MOST_PLANNED rv_MOST_PLANNED r_MOST_PLANNED))) (Af (zZ xc_TooMany (hr.mono (by decide)) (af bt au))) (Mg cE)) (kc (sR (nA 1 (nC (Nc:=["hiding"]) (own:=["hiding"]) (caps:=[]) (cD 0) rfl (bN (ae 0)) rfl rfl (λ_ _ _ _ _ _=>have hN:=(by decide +kernel:List.Nodup (["hiding"]:W3));(bF (λ_ _ z=>z) (aR 0 hN) cG (aX k_lying_cells hr (af (ae 0) au))))) hN)) (kc (sR (bf 2 (aX k_alike_pairs hr (af (ae 1) au)) hN)) (kc (sR (fQ (Ma (ae 2)) (aF (bA (Az (aY (af bt au)) (bg (ae 2) ag)))) cE)) (kc (sR (bf 3 (aX k_cells_by_lot hr (af (ae 1) au)) hN)) (kc (sR (bf 4 (aX k_least_depths hr (af (ae 3) (af (gO T.z_len (ae 1)) au))) hN)) (Af (sR (bA (aY (af bt (af (bg (ae 4) (ji ag)) (af (aX k_plan_for hr (af (kU (gO T.z_len (ae 4)) ag) (af (ae 3) (af (ae 4) au)))) au)))))))))))))
theorem rn(h:W.At "_law_told" st__law_told)(T:Tx W)(tx:QE W.P W.w W.K W.mg W.base cs_)(k_least_plan:jj W):kJ W:=Pq ["picked","found","e"] 1 h λ_ _ _ _ _ _ _ hr hN=>(xR (Hh (sR (bf 1 MV hN))) (xR (DQ 2 1 tx hr (by decide) ⟨rfl,rfl,rfl⟩ hN (by decide) (λ_=>(Af (Ms 1 (DY (k_least_plan _ (h_ _)) hr (MZ (af (ae 0) au))) hN)))) (JS (Hh (sR (bA (ae 1)))))))
theorem rD(h:W.At "_law_only" st__law_only)(T:Tx W):kN W:=nZ ["word","words"] 1 h λ_ _ _ _ _ _ _ hr hN=>(ay (bf 1 (cS (bW (af bt (af bt (af bt (af bt (af bt (af bt (af bt (af bt (af bt (af bt au)))))))))))) hN) (aF (bA (mS (gA (Nc:=["one","word"]) (own:=["one"]) (caps:=[0]) (cD 0) rfl (bN (ae 1)) rfl rfl (λ_ _ _ _ _ _=>have hN:=(by decide +kernel:List.Nodup (["one","word"]:W3));(bF (λ_ _ z=>z) (aR 0 hN) cG (FX hr (ae 0) (ae 1))))) (bW (af l4 au))))))
theorem mK(h:W.At "_law_ground" st__law_ground)(T:Tx W)(cK:dG W):iC W:=nZ ["hiding","found","ship","cell"] 1 h λ_ _ _ _ _ _ _ hr hN=>(ay (Bc 1 (CI T.hw) hN) (ay (cB Sv rfl (G6 (ae 0)) (aR 2 hN) (aF (cB Sv rfl (bN (cS (aX cK hr (af (ae 2) au)))) (aR 3 hN) (aF (AX 1 T.hw hr l4 (ae 3)))))) (aF (Ce 1))))
theorem mD(h:W.At "_law_unlike" st__law_unlike)(T:Tx W)(k__law_ground:iC W):ip W:=nZ ["rows","found","hiding"] 1 h λ_ _ _ _ _ _ _ hr hN=>(ay (IQ 1 hN) (ay (cB Sv rfl (bN (ae 0)) (aR 2 hN) (aF (Je 1 hr (wo T.z_tuple (DT (th:=Th.h) T.z_sorted rfl (aX k__law_ground hr (af (ae 2) au)))) (ae 2)))) (xP 1 (aF (bA (gA (Nc:=["key","found"]) (own:=["key"]) (caps:=[1]) (cD 0) rfl (FD (ae 1)) rfl rfl (λ_ _ _ _ _ _=>have hN:=(by decide +kernel:List.Nodup (["key","found"]:W3));(bF (λ_ _ z=>z) (aR 0 hN) cG (JP hr (ae 1) (ae 0))))))))))
theorem oi(h:W.At "_law_order" st__law_order)(T:Tx W)(bQ:eF W):fL W:=nZ ["cell","things","found","k","thing"] 2 h λ_ _ _ _ _ _ _ hr hN=>(ay (iR 2 (bW au) hN) (ay (cB Sv rfl (uN T.z_enumerate (ae 1)) (jD rfl (aE 3 hN (aE 4 hN cT))) (aF (M6 2 (bV (aX bQ hr (af (ae 0) (af (a8 (oY ag (ae 3)) ag) au))) (a8 (ae 3) ag)) (ae 4)))) (aF (qY 2))))
theorem gw(h:W.At "_law_some_hidings" st__law_some_hidings)(T:Tx W)(bQ:eF W)(fZ:fL W):dE W:=nZ ["cell","rows","most","many","step"] 3 h λ_ _ _ _ _ _ _ hr hN=>(ay (bf 3 (a8 ag (bV (aX bQ hr (af (ae 0) (af ag au))) (ae 2))) hN) (ay (bf 4 (a8 ag (bV (aX bQ hr (af (ae 0) (af ag au))) (B4 T.z_max rfl ag (qI (gO T.z_len (ae 1)) (ae 3))))) hN) (aF (bA (cS (aX fZ hr (af (ae 0) (af (cS (wc (OU (ae 1) (jY (bV (aX bQ hr (af (ae 0) (af ag au))) (B4 T.z_max rfl ag (qI (gO T.z_len (ae 1)) ag)))) nB (jY (ae 4))) nB (jY (ae 3)))) au))))))))
theorem Iz{f:Xj}{fd:Xh}(F:yb W.K "law" "law" st_law f fd)(T:Tx W)(k__law_played:iE W)(eI:kJ W)(kZ:kN W)(k__law_unlike:ip W)(k__law_some_hidings:dE W)(fZ:fL W):dj W.P W.w W.K W.mg W.base jR 71 f fd ["script"] (Ao W.K 1 .cl m_law):=Sm ["script","cell","sheet","fleet","rule","rows","some","depths","many","found","k","other"] 1 F λ_ _ _ _ _ _ _ hr hN=>(ay (cB Sv rfl (bN (cS (mS (bW (af ag au)) (wc (ae 0) nB (jY ag))))) (aR 1 hN) (ay (E2 rfl (aX k__law_played hr (af (ae 1) au)) (aE 2 hN (aE 3 hN (aE 4 hN (aE 5 hN cT))))) (ay (fQ (yX hr (aX eI hr (af (cS (bW au)) au)) (aX kZ hr (af bt au))) (aF (bA l4)) cE) (ay (fQ (K6 (w_and (Mu (gO T.z_len (ae 5)) ag) (u6 (yX hr (aX eI hr (af (cS (wc (ae 5) nB (jY ag))) au)) (aX kZ hr (af bt au)))))) (aF (bA l4)) cE) (ay (bf 6 (cS (aX k__law_unlike hr (af (aX k__law_some_hidings hr (af (ae 1) (af (ae 5) (af ag au)))) au))) hN) (ay (iR 7 (bW au) hN) (ay (cB Sv rfl (sJ T.z_range ag (a8 (gO T.z_len (ae 6)) ag)) (aR 8 hN) (ay (bf 9 (aX eI hr (af (cS (wc (ae 6) nB (jY (ae 8)))) au)) hN) (ay (fQ (K6 (w_or (yX hr (bg (ae 9) ag) bt) (AO (Lk (wg ag (bg (ae 9) ag)) (ae 8))))) (aF (bA l4)) cE) (aF (nz 7 (bg (ae 9) ag)))))) (ay (cB Sv rfl (sJ T.z_range ag (gO T.z_len (Ee 7))) (aR 10 hN) (aF (fQ (M5 hr (kU (bg (Ee 7) (ae 10)) (bg (Ee 7) (kU (ae 10) ag))) (aY (af ag (af ag au)))) (aF (bA l4)) cE))) (ay (bf 11 (aX eI hr (af (cS (aX fZ hr (af (a8 (ae 1) ag) (af (ae 6) au)))) au)) hN) (aF (fQ (K6 (w_or (yX hr (bg (ae 11) ag) bt) (AO (yX hr (bg (ae 11) ag) (bg (Ee 7) (ji ag)))))) (aF (bA l4)) cE))))))))))) (aF (bA l4)))
end
section
variable {P:Xd}{w:Xg}{K:Fg}{mg:WW}{base:Xf}
def rH:Xl:=gt 1
def bB:Xl:=(PF rH).getD 0 (.Pass ⟨0,0,0,0⟩)
def eJ:Xl:=gt 27
theorem Fz:bC ["self","words","cell"] ["self","words","cell"] (ax bB):=⟨rfl,rfl,rfl,by decide +kernel,rfl,by decide +kernel,by decide +kernel⟩
theorem EJ{f HE:Xj}{oc kV dV doc pm bq ct:Xa}{od an:W2}{qb:WV}(lk:K.lookup f=some ⟨oc,od,.func (PySem.W.fnOf "__init__" "HideError.__init__" (bT bB) (aT bB) (ax bB) dV kV doc pm an bq ct),qb⟩)(dQ:PySem.W.codeIn K bq "HideError.__init__"=true)(hv:mg "ValueError"=none) :
  dj P w K mg base jR 1 f (PySem.W.fnOf "__init__" "HideError.__init__" (bT bB) (aT bB) (ax bB) dV kV doc pm an bq ct) ["self","words","cell"] (Mo K HE f):=by
 refine xI lk dQ Fz (λvs H Q E ⟨e,C,wd,cv,h,_⟩=>by rw[h];rfl) λA outer s H vs Q E hr ⟨e,C,wd,cv,h,ec,hx,q⟩=>?_;subst h;refine⟨_,gR (i5 (A8 hv (aJ (bI (i:=0) rfl (.inl rfl) (by decide) (by decide)) (aJ (bI (i:=1) rfl (.inl rfl) (by decide) (by decide)) bM rfl) rfl) rfl rfl rfl rfl) rfl) (jr (FR (bI (i:=0) rfl (.inl rfl) (by decide) (by decide)) (bI (i:=2) rfl (.inl rfl) (by decide) (by decide)) rfl)),?_⟩;exact⟨.ref e,rfl,wd,rfl,e,wd,C,HE,f,rfl,hx,ec,cv,rfl,.ref e,rfl,e,C,HE,f,rfl,hx,ec,λdx h1 h2=>q dx h1 h2⟩
theorem DP{dV kV doc pm bq ct:Xa}{an od:W2}{dT:Xj}{n:Nat}{t0:Tok}{sl:WV}(hd:dV=.ref dT)(ld:K.lookup dT=some ⟨.type "tuple",od,.seq #[.str "" t0,.none] n,sl⟩):Binds K (PySem.W.fnOf "__init__" "HideError.__init__" (bT bB) (aT bB) (ax bB) dV kV doc pm an bq ct) ["self","words","cell"] [.none]:=by
 subst hd;intro s us X hl;have Dk:us.length=2:=by simpa using hl
 match us,Dk with
 | [a,b],_=>exact BindsTo.of_defaults (T:=dT) (items:=#[.str "" t0,.none]) (n:=n) rfl (X _ _ ld) rfl rfl rfl
theorem FG{dV kV doc pm bq ct:Xa}{an od:W2}{dT:Xj}{n:Nat}{t0:Tok}{sl:WV}(hd:dV=.ref dT)(ld:K.lookup dT=some ⟨.type "tuple",od,.seq #[.str "" t0,.none] n,sl⟩):Binds K (PySem.W.fnOf "__init__" "HideError.__init__" (bT bB) (aT bB) (ax bB) dV kV doc pm an bq ct) ["self","words","cell"] []:=by
 subst hd;intro s us X hl;have Dk:us.length=3:=by simpa using hl
 match us,Dk with
 | [a,b,c],_=>first | exact BindsTo.of_eq rfl | exact BindsTo.of_defaults (T:=dT) (items:=#[.str "" t0,.none]) (n:=n) rfl (X _ _ ld) rfl rfl rfl
theorem rZ:bC ["e","flags"] ["e"] (ax eJ):=⟨rfl,rfl,rfl,by decide +kernel,rfl,by decide +kernel,by decide +kernel⟩
theorem Bj{f HE:Xj}{fd:Xh}(F:yb K "_law_flags" "_law_flags" eJ f fd)(hi:mg "isinstance"=none)(hv:mg "ValueError"=none){D1 D2 D3 D4 D5 D6 D7 D8 D9 D10:Xj}(m1:mg "NoHiding"=some (.ref D1))(m2:mg "NoNumber"=some (.ref D2))(m3:mg "TooMany"=some (.ref D3))(m4:mg "NoCell"=some (.ref D4))(m5:mg "NoShot"=some (.ref D5))(m6:mg "NothingLeft"=some (.ref D6))(m7:mg "NoCounts"=some (.ref D7))(m8:mg "Over"=some (.ref D8))(m9:mg "NoText"=some (.ref D9))(OF:mg "NoRow"=some (.ref D10)) :
  N1 P w K mg base 1 f fd ["e"] (Oj K mg HE):=by
 obtain⟨oc,od,kV,doc,pm,an,bq,ct,qb,rfl,lk,dQ⟩:=F.ex;refine HN lk dQ rZ (λvs H Q E ⟨v,C,c,h,_⟩=>by rw[h];rfl) λA outer s H vs Q lT=>?_;have hN:=rZ.nd;have cat:∀{X:Cx},gy X (binaryOp .Add) rCat:=JC;refine⟨_,gR (fW hN (i:=1) rfl (.inl rfl) (qT (aJ (eM (i:=0) hi m1) (aJ (eM (i:=0) hi m2) (aJ (eM (i:=0) hi m3) (aJ (eM (i:=0) hi m4) bM rfl) rfl) rfl) rfl)) rfl (.inr rfl)) (gR (fW hN (i:=1) rfl (.inl rfl) (xM cat (bI (i:=1) rfl (.inl rfl) (by decide) (by decide)) (qT (aJ (eM (i:=0) hi m5) (aJ (eM (i:=0) hi m6) (aJ (eM (i:=0) hi m7) (aJ (eM (i:=0) hi m8) bM rfl) rfl) rfl) rfl))) rfl (.inr rfl)) (jr (qR (xM cat (bI (i:=1) rfl (.inl rfl) (by decide) (by decide)) (qT (aJ (eM (i:=0) hi m9) (aJ (eM (i:=0) hi OF) (aJ (Hz (i:=0) hi hv) bM rfl) rfl) rfl)))))),?_⟩;exact uK m1 m2 m3 m4 m5 m6 m7 m8 m9 OF lT
end
end K31
namespace K31
open PySem PySem.Spec PyProof.Rows L2 Mi Xc
open PySem.W (nsIn findIn keepIn codeIn mg_of mg_none_of)
theorem all_mk{l:PySem.W.OpenLaw}{w:Xg}{K:W_}{h:Xf}{mg:WW}{fa:Xj}(X:K.In h)(G:h.Ns mainGlobals mg)(hfa:mg "law"=some (.ref fa))
  {f0 f1 f2 f3 f4 f5 f6 f7 f8 f9 f10 f11 f12 f13 f14 f15 f16 f17 f18 f19 f20 f21 f22 f23 f24 RU:Xj}
  (h0:ic K "_law_stir" st__law_stir f0)
  (h1:ic K "_law_drawn" st__law_drawn f1)
  (h2:ic K "_law_game" st__law_game f2)
  (h3:ic K "_law_ships" st__law_ships f3)
  (h4:ic K "_law_cells" st__law_cells f4)
  (h5:ic K "_law_halo" st__law_halo f5)
  (h6:ic K "_law_free" st__law_free f6)
  (h7:ic K "_law_all" st__law_all f7)
  (h8:ic K "_law_played" st__law_played f8)
  (h9:ic K "cells_of" st_cells_of f9)
  (OP:ic K "lying_cells" st_lying_cells f10)
  (QL:ic K "alike_pairs" st_alike_pairs f11)
  (QM:ic K "cells_by_lot" st_cells_by_lot f12)
  (QN:ic K "depth_behind" st_depth_behind f13)
  (RV:ic K "best_shown" st_best_shown f14)
  (QO:ic K "least_depths" st_least_depths f15)
  (QP:ic K "plan_for" st_plan_for f16)
  (QQ:ic K "least_plan" st_least_plan f17)
  (QR:ic K "_law_told" st__law_told f18)
  (QS:ic K "_law_only" st__law_only f19)
  (QU:ic K "_law_ground" st__law_ground f20)
  (QV:ic K "_law_unlike" st__law_unlike f21)
  (QW:ic K "_law_order" st__law_order f22)
  (QY:ic K "_law_some_hidings" st__law_some_hidings f23)
  (QZ:ic K "law" st_law f24)
  (RW:ic K "_law_flags" eJ RU)
  (z_ValueError:nsIn K mainGlobals "ValueError"=some none)
  (z_enumerate:nsIn K mainGlobals "enumerate"=some none)
  (z_int:nsIn K mainGlobals "int"=some none)
  (z_isinstance:nsIn K mainGlobals "isinstance"=some none)
  (z_len:nsIn K mainGlobals "len"=some none)
  (z_max:nsIn K mainGlobals "max"=some none)
  (z_min:nsIn K mainGlobals "min"=some none)
  (z_range:nsIn K mainGlobals "range"=some none)
  (z_sorted:nsIn K mainGlobals "sorted"=some none)
  (z_sum:nsIn K mainGlobals "sum"=some none)
  (z_tuple:nsIn K mainGlobals "tuple"=some none)
  {N9 N':Xj} (GI:PySem.W.tabIn K "best_shown"=some (N9,N')) (KO:PySem.W.codeHdIn K N9 N'=true)
  (KP:PySem.W.tabIn K "best_in"=none)
  {t_MOST_PLANNED:Tok} (a_MOST_PLANNED:nsIn K mainGlobals "MOST_PLANNED"=some (some (.int 10 t_MOST_PLANNED)))
  {fI dT:Xj} {cH c0 c1 c2 c3 c4 c5 c6 c7 c8 c9:Nat} (xH:AtC K "HideError" cH bmV)
  (x0:AtC K "NoHiding" c0 (.ref cH::bmV))
  (x1:AtC K "NoNumber" c1 (.ref cH::bmV))
  (x2:AtC K "TooMany" c2 (.ref cH::bmV))
  (x3:AtC K "NoCell" c3 (.ref cH::bmV))
  (x4:AtC K "NoShot" c4 (.ref cH::bmV))
  (x5:AtC K "NothingLeft" c5 (.ref cH::bmV))
  (x6:AtC K "NoCounts" c6 (.ref cH::bmV))
  (x7:AtC K "Over" c7 (.ref cH::bmV))
  (x8:AtC K "NoText" c8 (.ref cH::bmV))
  (x9:AtC K "NoRow" c9 (.ref cH::bmV))
  (r2:Q6 K c2 fI)
  {kV_i dc_i pm_i cd_i ct_i:Xa} {od_i an_i odT:W2} {sl_i slT:WV} {nT:Nat} {tT:Tok} (lU:K.lookup fI=some ⟨.type "function",od_i,.func (PySem.W.fnOf "__init__" "HideError.__init__" (bT bB) (aT bB) (ax bB) (.ref dT) kV_i dc_i pm_i an_i cd_i ct_i),sl_i⟩) (rO:codeIn K cd_i "HideError.__init__"=true) (yh:K.lookup dT=some ⟨.type "tuple",odT,.seq #[.str "" tT,.none] nT,slT⟩)
  (lt:[cH,c0,c1,c2,c3,c4,c5,c6,c7,c8,c9].Pairwise (@LT.lt Nat _))
  : ∃fd:Xh,(∀(s:Xb)(v:Xa),BindsTo s fd ⟨[v],[]⟩ [("script",v)])/\∀base:Xf,K.In base->base.Ns mainGlobals mg->dj l.prog w K mg base jR 71 fa fd ["script"] (Ao K 1 .cl (@m_law ⟨hashStr w⟩)):=by
 letI:Th:=⟨hashStr w⟩;obtain⟨oc,kV,dc,pm,cd,ct,od,an,sl,aL,lL,cL,kL⟩:=QZ;have e:=hfa.symm.trans (mg_of X G aL);cases e;refine⟨PySem.W.fnOf "law" "law" (bT st_law) (aT st_law) (ax st_law) .none kV dc pm an cd ct,λs v=>.of_eq rfl,λbase _ _=>?_⟩
 let W:Wd:=⟨l.prog,w,K,mg,base⟩
 have a {x st f} (A:ic K x st f):W.At x st:=A.at X G;have T:Tx W:=⟨TR X G z_ValueError,TR X G z_enumerate,TR X G z_int,TR X G z_isinstance,TR X G z_len,TR X G z_max,TR X G z_min,TR X G z_range,TR X G z_sorted,TR X G z_sum,TR X G z_tuple,⟨(.int 10),_,mg_of X G a_MOST_PLANNED,⟨_,rfl⟩,λ_=>rfl⟩,rfl⟩;have OI:dj l.prog w K mg base jR 1 fI _ _ (Mo K cH fI):=EJ lU rO (TR X G z_ValueError);have e2:=x2.ec r2 lU;have XC_TooMany:XC l.prog w K mg base 1 "TooMany":=⟨c2,cH,fI,_,x2.g X G,e2,OI,DP rfl yh,FG rfl yh⟩;have OT:=HR (L:=[("NoHiding",c0),("NoNumber",c1),("TooMany",c2),("NoCell",c3),("NoShot",c4),("NothingLeft",c5),("NoCounts",c6),("Over",c7),("NoText",c8),("NoRow",c9)]) X G (cY x0 (cY x1 (cY x2 (cY x3 (cY x4 (cY x5 (cY x6 (cY x7 (cY x8 (cY x9 Jv)))))))))) lt Mh;have CL2:GC K mg cH "TooMany" c2:=IF e2 r2.2.2.2.2.1 r2.2.2.2.2.2.1 r2.2.2.2.2.2.2 (OT ("TooMany",c2) (.tail _ (.tail _ (.head _))));obtain⟨_,F25,k25,g25⟩:=RW.fn X G;have b25:=F25.binds (ps:=["e"]) λ_ _ _ _ _ _=>K4 λ_=>rfl;have TX:QE l.prog w K mg base cs_:=by
  have GH:=xH.g X G;obtain⟨_,_,_,_,_,_,_,_,_,_,_,_,_,_,_,lH⟩:=xH;exact⟨cH,_,_,_,_,_,_,_,_,_,_,_,_,_,_,RU,_,GH,lH,(Gh (x2.g X G) CL2 HH),Bj F25 (TR X G z_isinstance) (TR X G z_ValueError) (x0.g X G) (x1.g X G) (x2.g X G) (x3.g X G) (x4.g X G) (x5.g X G) (x6.g X G) (x7.g X G) (x8.g X G) (x9.g X G),g25,k25,b25⟩
 have C0:=qA (a h0) T;have C1:=oo (a h1) T C0;have C2:=rC (a h2) T C1;have C3:=oq (a h3) T;have C4:=oC (a h4) T;have C5:=qe (a h5) T C4;have C6:=qB (a h6) T;have C7:=tU (a h7) T C3 C5 C4 C6;have C8:=lX (a h8) T C2 C7;have C9:=tZ (a h9) T;have C10:=mV (a OP) T C9;have C11:=lW (a QL) T;have C12:=k8 (a QM) T;have C13:=lb (a QN) T;have C14:=om (W:=W) (RV.atC X G GI) ⟨R7 KP GI,KO⟩ T C13;have C15:=k9 (a QO) T C13 C14;have C16:=tW (a QP) T C14;have C17:=n4 (a QQ) T XC_TooMany C10 C11 C12 C15 C16;have C18:=rn (a QR) T TX C17;have C19:=rD (a QS) T;have C20:=mK (a QU) T C4;have C21:=mD (a QV) T C20;have C22:=oi (a QW) T C0;have C23:=gw (a QY) T C0 C22;exact Iz (W:=W) (Ax (st:=st_law) lL cL kL) T C8 C18 C19 C21 C23 C22
theorem A2{l:PySem.W.OpenLaw}{q:Xd}{loose:W3}{XP:WW->Xf->Prop}{YP:Xg->Xf->Prop}{d:DefRec}{K:Params->W_}(hn:l.most=some 63)(NH:d.params.defaults=[])
  (hY:∀(w:Xg)(h:Xf),YP w h->(K w.params).In h) (hL:∀(w:Xg)(h:Xf),YP w h->∀P qq,tq (K w.params) P=some qq->(∃c,PySem.W.CodeHd h c P)/\h.get? P=some (PySem.W.tabObj #[])/\(K w.params).lookup P=none)
  (F:∀(w:Xg)(mg:WW)(fa:Xj)(h:Xf),(K w.params).In h->h.Ns mainGlobals mg->mg d.name=some (.ref fa)->
   ∃fd:Xh,(∀(s:Xb)(u:Xa),BindsTo s fd ⟨[u],[]⟩ [("script",u)])/\∀base:Xf,(K w.params).In base->base.Ns mainGlobals mg->dj l.prog w (K w.params) mg base jR 71 fa fd ["script"] (Ao (K w.params) 1 .cl (@m_law ⟨hashStr w⟩))) :
  PySem.W.WalkO q loose XP YP l.row.toRowW d [] (λf vs=>PySem.call f vs):=
 L2.BS (n:=63) (k:=71) (x:="script") (CX:=λ_=>jR) (sp:=λw=>Ao (K w.params) 1 .cl (@m_law ⟨hashStr w⟩)) hn (by decide) NH ⟨rfl,by decide,by decide⟩ hY hL F
  (λw H a ns hl _ hS=>⟨H,[.lst (ns.map .int)],.bl true,rfl,λ_ _ z=>z,⟨_,_,rfl,⟨a,_,rfl,hS,ak.ints ns⟩,rfl⟩,@law_true ⟨hashStr w⟩ ns hl,λv Z' H' _ g=>g⟩) λ_ _ _ _ _ z=>z
end K31
namespace PySem.W.Fast
theorem tw8061633621959413089:True:=⟨⟩
theorem tw18213463841878178139:True:=⟨⟩
theorem tw5670885109027729954:True:=⟨⟩
theorem tw16792983403167188369:True:=⟨⟩
theorem tw13557949963571626831:True:=⟨⟩
theorem tw4730488334276429643:True:=⟨⟩
theorem tw1053061356165476447:True:=⟨⟩
theorem tw15834858160414967659:True:=⟨⟩
theorem tw11698943867821385503:True:=⟨⟩
theorem tw10794172317639904908:True:=⟨⟩
theorem tw10537351238111495848:True:=⟨⟩
theorem tw9301290275302239465:True:=⟨⟩
theorem tw10643450768888729261:True:=⟨⟩
theorem tw18185490623684133664:True:=⟨⟩
theorem tw15257897472616637350:True:=⟨⟩
theorem tw17377408637309763743:True:=⟨⟩
theorem tw14426872854231893182:True:=⟨⟩
theorem tw729946334597650158:True:=⟨⟩
theorem tw3058284039634777162:True:=⟨⟩
theorem tw16469997827757853754:True:=⟨⟩
theorem tw5357006802954869451:True:=⟨⟩
theorem tw6424303409817484136:True:=⟨⟩
theorem tw7269381079693629494:True:=⟨⟩
theorem tw10109625295404710685:True:=⟨⟩
theorem tw17841617355523389260:True:=⟨⟩
theorem tw13372388439129319099:True:=⟨⟩
theorem tw16447644225940194219:True:=⟨⟩
theorem tw12961351088759268108:True:=⟨⟩
theorem tw4024776591195903217:True:=⟨⟩
theorem tw3727255924221973048:True:=⟨⟩
theorem tw581783566950844830:True:=⟨⟩
theorem tw5547274301596751947:True:=⟨⟩
theorem tw13956666259604503080:True:=⟨⟩
theorem tw702024183077659570:True:=⟨⟩
theorem tw5048966108588193175:True:=⟨⟩
theorem tw8700509136973557497:True:=⟨⟩
theorem tw17549544931080910658:True:=⟨⟩
theorem tw4682008559592152366:True:=⟨⟩
theorem tw6210166717402291433:True:=⟨⟩
theorem tw17585359076242990822:True:=⟨⟩
theorem tw6334527630503043570:True:=⟨⟩
theorem tw394781470882974407:True:=⟨⟩
theorem tw1504821285316113333:True:=⟨⟩
theorem tw1817403357256115106:True:=⟨⟩
theorem tw10743242056952634357:True:=⟨⟩
theorem tw15305621203055233916:True:=⟨⟩
theorem tw5119270544403153738:True:=⟨⟩
theorem tw4377375501662084206:True:=⟨⟩
theorem tw2900500705947718502:True:=⟨⟩
theorem tw5987996160707545346:True:=⟨⟩
theorem tw11098115026348576749:True:=⟨⟩
theorem tw1873408754946363806:True:=⟨⟩
theorem tw4592452550152409107:True:=⟨⟩
theorem tw9133266353687174902:True:=⟨⟩
theorem tw13954344943370694378:True:=⟨⟩
theorem tw4789831407799586958:True:=⟨⟩
theorem tw15036732596979790540:True:=⟨⟩
theorem tw4307406916067531975:True:=⟨⟩
theorem tw13533805497347378360:True:=⟨⟩
theorem tw17406998907511960167:True:=⟨⟩
theorem tw13736045275597873220:True:=⟨⟩
theorem tw8429028553296428753:True:=⟨⟩
theorem tw15171456769248882598:True:=⟨⟩
theorem tw13678939053967918131:True:=⟨⟩
theorem tw7634015839533750825:True:=⟨⟩
theorem tw9595861631008606632:True:=⟨⟩
theorem tw8956593248983671088:True:=⟨⟩
theorem tw14269229429504986684:True:=⟨⟩
theorem tw3835398883595268270:True:=⟨⟩
theorem tw16220163785584367746:True:=⟨⟩
theorem tw9320930602432403057:True:=⟨⟩
theorem tw15086303837896298451:True:=⟨⟩
theorem tw11114414855607116908:True:=⟨⟩
theorem tw3490844721194381080:True:=⟨⟩
theorem tw138530755872468565:True:=⟨⟩
theorem tw12079318675231189331:True:=⟨⟩
theorem tw4367676619514606565:True:=⟨⟩
theorem tw11456408145230019967:True:=⟨⟩
theorem tw9365725332511598578:True:=⟨⟩
theorem tw8542020303536326214:True:=⟨⟩
theorem tw8610182703979447960:True:=⟨⟩
theorem tw11587128464442448312:True:=⟨⟩
theorem tw17610900516759409178:True:=⟨⟩
theorem tw4982915592263091607:True:=⟨⟩
theorem tw915266806278434854:True:=⟨⟩
theorem tw3971584091127483893:True:=⟨⟩
theorem tw3011221200370959953:True:=⟨⟩
theorem tw14823253322691647895:True:=⟨⟩
theorem tw3589864890177554309:True:=⟨⟩
theorem tw3456361256046721711:True:=⟨⟩
theorem tw4515170925707788555:True:=⟨⟩
theorem tw3429787846379546399:True:=⟨⟩
theorem tw443761842362285619:True:=⟨⟩
theorem tw14241302905948038639:True:=⟨⟩
theorem tw18215199347658081135:True:=⟨⟩
theorem tw12256216871559430285:True:=⟨⟩
theorem tw1826488428974331399:True:=⟨⟩
theorem tw222380155724320621:True:=⟨⟩
theorem tw9599978981637877835:True:=⟨⟩
theorem tw3770232902843023825:True:=⟨⟩
theorem tw2366048641890478843:True:=⟨⟩
theorem tw11379285569610525124:True:=⟨⟩
theorem tw9693022085469680611:True:=⟨⟩
theorem tw4376833216300595299:True:=⟨⟩
theorem tw3448152840076868952:True:=⟨⟩
theorem tw2886429358686621070:True:=⟨⟩
theorem tw8024154963879696158:True:=⟨⟩
theorem tw12869054569072601043:True:=⟨⟩
theorem tw10654785102369979126:True:=⟨⟩
theorem tw8848593227557068182:True:=⟨⟩
theorem tw16488584418797406612:True:=⟨⟩
theorem tw10177122791498484331:True:=⟨⟩
theorem tw249325596703251692:True:=⟨⟩
theorem tw6576116449146890332:True:=⟨⟩
theorem tw14415675873611530446:True:=⟨⟩
theorem tw3728595295662527432:True:=⟨⟩
theorem tw10713048104211268677:True:=⟨⟩
theorem tw11604951966808691810:True:=⟨⟩
theorem tw17179356792815712343:True:=⟨⟩
theorem tw15659270363273466877:True:=⟨⟩
theorem tw9806873391941642040:True:=⟨⟩
theorem tw616501051609518114:True:=⟨⟩
theorem tw16286795814845248359:True:=⟨⟩
theorem tw13188941925024090101:True:=⟨⟩
theorem tw11548679185957675881:True:=⟨⟩
theorem tw14714664191641215454:True:=⟨⟩
theorem tw570438664357310470:True:=⟨⟩
theorem tw15646708366801662473:True:=⟨⟩
theorem tw7299182933277352418:True:=⟨⟩
theorem tw3976540970548626489:True:=⟨⟩
theorem tw16905881615303542326:True:=⟨⟩
theorem tw16889803730665344558:True:=⟨⟩
theorem tw14215461188995490020:True:=⟨⟩
theorem tw9501865959674329361:True:=⟨⟩
theorem tw1207988397986746043:True:=⟨⟩
theorem tw11571850358320619717:True:=⟨⟩
theorem tw6727225264273168486:True:=⟨⟩
theorem tw8847875934948521430:True:=⟨⟩
theorem tw11967384705622309557:True:=⟨⟩
theorem tw8572446239490610806:True:=⟨⟩
theorem tw6565418922108000416:True:=⟨⟩
theorem tw8443321427499177992:True:=⟨⟩
theorem tw3579673822383744452:True:=⟨⟩
theorem tw7906712709053901821:True:=⟨⟩
theorem tw3696956376603113387:True:=⟨⟩
theorem tw7669948546798932233:True:=⟨⟩
theorem tw1428777266223570869:True:=⟨⟩
theorem tw7011358196110440917:True:=⟨⟩
theorem tw13629320677586383386:True:=⟨⟩
theorem tw12336981867830486156:True:=⟨⟩
theorem tw3070544766116671136:True:=⟨⟩
theorem tw10249145455001045344:True:=⟨⟩
theorem tw722507014417238871:True:=⟨⟩
theorem tw11159233352012920804:True:=⟨⟩
theorem tw5419631674837264846:True:=⟨⟩
theorem tw8481877501623917558:True:=⟨⟩
theorem tw4231437743867523607:True:=⟨⟩
theorem tw253941345084737952:True:=⟨⟩
theorem tw4156504949466635385:True:=⟨⟩
theorem tw6331309893866076819:True:=⟨⟩
theorem tw2769052013809328360:True:=⟨⟩
theorem tw9709751320175816196:True:=⟨⟩
theorem tw14324999574860864117:True:=⟨⟩
theorem tw12498788434334234606:True:=⟨⟩
theorem tw16772529648094437826:True:=⟨⟩
theorem tw9894544323841685771:True:=⟨⟩
theorem tw13446509271083240875:True:=⟨⟩
theorem tw1879545691249983557:True:=⟨⟩
theorem tw5405399695020394537:True:=⟨⟩
theorem tw5169959201405874508:True:=⟨⟩
theorem tw2240420949975553619:True:=⟨⟩
theorem tw614001711311548440:True:=⟨⟩
theorem tw5591369239293779996:True:=⟨⟩
theorem tw3719865524203212:True:=⟨⟩
theorem tw5771580266068325319:True:=⟨⟩
theorem tw1211533143164076367:True:=⟨⟩
theorem tw9986344913474201254:True:=⟨⟩
theorem tw10942122248832898763:True:=⟨⟩
theorem tw437496859729073761:True:=⟨⟩
theorem tw16549061554419517042:True:=⟨⟩
theorem tw10966395206383140883:True:=⟨⟩
theorem tw8977445889893887873:True:=⟨⟩
theorem tw12387402677915033542:True:=⟨⟩
theorem tw10140467368583153550:True:=⟨⟩
theorem tw17998001336983117309:True:=⟨⟩
theorem tw18238212848791270859:True:=⟨⟩
theorem tw15103011086497815182:True:=⟨⟩
theorem tw18322725551907693643:True:=⟨⟩
theorem tw5720365493638308397:True:=⟨⟩
theorem tw4711899250579278180:True:=⟨⟩
theorem tw5814318131806111638:True:=⟨⟩
theorem tw14886184420624844798:True:=⟨⟩
theorem tw18119557960380297623:True:=⟨⟩
theorem tw2917677962293960641:True:=⟨⟩
theorem tw3515043994547282135:True:=⟨⟩
theorem tw1732541820152207447:True:=⟨⟩
theorem tw10780569340296153169:True:=⟨⟩
theorem tw626148134280970222:True:=⟨⟩
theorem tw12797258233190662968:True:=⟨⟩
theorem tw8977450021010239969:True:=⟨⟩
theorem tw29404870783429996:True:=⟨⟩
theorem tw18197677734430140606:True:=⟨⟩
theorem tw2676729945384399936:True:=⟨⟩
theorem tw10457239116455562069:True:=⟨⟩
theorem tw7884976170929201213:True:=⟨⟩
theorem tw11087280412395141122:True:=⟨⟩
theorem tw8297849781974588143:True:=⟨⟩
theorem tw6217309051247163788:True:=⟨⟩
theorem tw11378756320621939329:True:=⟨⟩
theorem tw1429370988992506904:True:=⟨⟩
theorem tw14283268006183154590:True:=⟨⟩
theorem tw17557772685018487514:True:=⟨⟩
theorem tw14576922942383919071:True:=⟨⟩
theorem tw415059987102575511:True:=⟨⟩
theorem tw3423126411199874929:True:=⟨⟩
theorem tw3448503322041315556:True:=⟨⟩
theorem tw13087758416726747290:True:=⟨⟩
theorem tw5671988468317073258:True:=⟨⟩
theorem tw10020905936553859591:True:=⟨⟩
theorem tw5294112638240483372:True:=⟨⟩
theorem tw9225068796595215280:True:=⟨⟩
theorem tw15155399798889506441:True:=⟨⟩
theorem tw1685957633172529494:True:=⟨⟩
theorem tw6889081364069586283:True:=⟨⟩
theorem tw15450602767540930511:True:=⟨⟩
theorem tw826230385673355278:True:=⟨⟩
theorem tw12665135288404701572:True:=⟨⟩
theorem tw9707555747231400064:True:=⟨⟩
theorem tw12708310557472118792:True:=⟨⟩
theorem tw83931568870756850:True:=⟨⟩
theorem tw10563480454003234466:True:=⟨⟩
theorem tw8847966993449613214:True:=⟨⟩
theorem tw743591394476017437:True:=⟨⟩
theorem tw1833348228332875602:True:=⟨⟩
theorem tw4418129019942538738:True:=⟨⟩
theorem tw5590381957032930535:True:=⟨⟩
theorem tw565148945301307919:True:=⟨⟩
theorem tw6701808146747443941:True:=⟨⟩
theorem tw3109344578845213475:True:=⟨⟩
theorem tw4021858550611740271:True:=⟨⟩
theorem tw4720871671276244046:True:=⟨⟩
theorem tw14706564519209727069:True:=⟨⟩
theorem tw17527181132083924993:True:=⟨⟩
theorem tw10063146448886658710:True:=⟨⟩
theorem tw13126220615214279216:True:=⟨⟩
theorem tw6829927311493228062:True:=⟨⟩
theorem tw12733776360572294174:True:=⟨⟩
theorem tw12271667754159163037:True:=⟨⟩
theorem tw15846233129718762535:True:=⟨⟩
theorem tw7954050619948223514:True:=⟨⟩
theorem tw10512280191270590372:True:=⟨⟩
theorem tw859312987994126173:True:=⟨⟩
theorem tw1309413389087238673:True:=⟨⟩
theorem tw18429738174974573178:True:=⟨⟩
theorem tw6661231620621256484:True:=⟨⟩
theorem tw4727359072472292012:True:=⟨⟩
theorem tw6533936807442871821:True:=⟨⟩
theorem tw7025363957246674281:True:=⟨⟩
theorem tw17164480225569004756:True:=⟨⟩
theorem tw2397098385734413953:True:=⟨⟩
theorem tw5805832268280463112:True:=⟨⟩
theorem tw17502593527722730966:True:=⟨⟩
theorem tw4894450738376005460:True:=⟨⟩
theorem tw12117916142640853279:True:=⟨⟩
theorem tw10254586935686086850:True:=⟨⟩
theorem tw17491639446404459901:True:=⟨⟩
theorem tw197489387132576612:True:=⟨⟩
theorem tw2697410389353839850:True:=⟨⟩
theorem tw9796541992042338026:True:=⟨⟩
theorem tw4810054926850711703:True:=⟨⟩
theorem tw15719006490539731860:True:=⟨⟩
theorem tw4962187408064163516:True:=⟨⟩
theorem tw1772662440362821074:True:=⟨⟩
theorem tw3825551811973238621:True:=⟨⟩
theorem tw4574254110780812727:True:=⟨⟩
theorem tw10223657771948959273:True:=⟨⟩
theorem tw9682076046245958492:True:=⟨⟩
theorem tw12857246680325465095:True:=⟨⟩
theorem tw9371796910734244287:True:=⟨⟩
theorem tw8436163043124959826:True:=⟨⟩
theorem tw497278644978540087:True:=⟨⟩
theorem tw10586041632960158738:True:=⟨⟩
theorem tw1100798670365469549:True:=⟨⟩
theorem tw5038448379930171214:True:=⟨⟩
theorem tw4080277839059792567:True:=⟨⟩
theorem tw10204438276066872033:True:=⟨⟩
theorem tw13909802973640222378:True:=⟨⟩
theorem tw2371685892778287831:True:=⟨⟩
theorem tw2941076416307111496:True:=⟨⟩
theorem tw2017726009261139667:True:=⟨⟩
theorem tw14175146691763026902:True:=⟨⟩
theorem tw9900563505414016268:True:=⟨⟩
theorem tw2661986479575931293:True:=⟨⟩
theorem tw5233651398262004908:True:=⟨⟩
theorem tw8719012882802187989:True:=⟨⟩
theorem tw4792046003671876182:True:=⟨⟩
theorem tw8482286705619859895:True:=⟨⟩
theorem tw14949003262038064145:True:=⟨⟩
theorem tw11504798509640453861:True:=⟨⟩
theorem tw7010059207509985338:True:=⟨⟩
theorem tw5926799101127497679:True:=⟨⟩
theorem tw9309183009144688806:True:=⟨⟩
theorem tw11696436227356441814:True:=⟨⟩
theorem tw10608381651190105032:True:=⟨⟩
theorem tw15892861561614313698:True:=⟨⟩
theorem tw4050362731709160165:True:=⟨⟩
theorem tw12020320405079026848:True:=⟨⟩
theorem tw12649326338024186031:True:=⟨⟩
theorem tw9417850077199929770:True:=⟨⟩
theorem tw17395153496876217184:True:=⟨⟩
theorem tw5954633292195738742:True:=⟨⟩
theorem tw10564489014345392715:True:=⟨⟩
theorem tw11574239418603123855:True:=⟨⟩
theorem tw10597005920784858229:True:=⟨⟩
theorem tw10300809081439430818:True:=⟨⟩
theorem tw1122518961626736411:True:=⟨⟩
theorem tw2325772811152294349:True:=⟨⟩
theorem tw6438474980521768433:True:=⟨⟩
theorem tw3367399747429807584:True:=⟨⟩
theorem tw3243630787795370759:True:=⟨⟩
theorem tw16781517392208714508:True:=⟨⟩
theorem tw17993984517851740603:True:=⟨⟩
theorem tw3397197355756613164:True:=⟨⟩
theorem tw4291069758775465215:True:=⟨⟩
theorem tw342935068977858798:True:=⟨⟩
theorem tw13272127608097053905:True:=⟨⟩
theorem tw10235948173966382907:True:=⟨⟩
end PySem.W.Fast
open PySem PySem.W PyProof.Rows
local macro_rules | `(tactic| walk_at "tb") => `(tactic| (refine' Mi.JI ?a ?b ?c ?d ?e; (case a => k_is); (case b => k_is); (case c => rfl); (case d => k_is); (case e => rfl)))
local macro_rules | `(tactic| walk_at "at") => `(tactic| (refine' Mi.Nm ?a ?l ?c ?k; (case a => k_is); (case l => k_is); (case c => k_is); (case k => k_is)))
local macro_rules | `(tactic| walk_at "cl") => `(tactic| (refine' Mi.Ka ?a ?l; (case a => k_is); (case l => k_is)))
local macro_rules | `(tactic| walk_at "rz") => `(tactic| (refine' ⟨?a, ?b, ?c, ?d, ?e, ?f, ?g⟩; (case a => k_is); (case b => k_is); (case c => k_is); (case d => k_is); (case e => k_is); (case f => k_is); (case g => k_is)))
set_option maxRecDepth 100000 in
set_option maxHeartbeats 0 in
theorem PySem.Challenge.cw_fleethide_k31_whole_fewer_hidings_fewer_holds : PySem.Challenge.rw_fleethide_k31_whole_fewer_hidings_fewer.Holds := by
  w_on
  o_law
  k_head
  (case hw=>w_witness2)
  k_fill
  refine K31.A2 (l:=PySem.Challenge.rw_fleethide_k31_whole_fewer_hidings_fewer) rfl rfl (fun w h Y=>PySem.W.km_in_of Y) ?L ?F
  case L=>
    intro w h Y
    refine' L2.MT (PySem.W.km_in_of Y) ?a ?b ?c ?d ?e
    (case a=>(exact Mi.Ap (by k_is)))
    (case b=>walk_at "tb")
    (case c=>kernel_rfl)
    (case d=>kernel_rfl)
    (case e=>exact PySem.W.km_tabs_of Y _ (.head _))
  case F=>
    intro w mg fa h KX G hmg
    refine' K31.all_mk KX G hmg ?h0 ?h1 ?h2 ?h3 ?h4 ?h5 ?h6 ?h7 ?h8 ?h9 ?OP ?QL ?QM ?QN ?RV ?QO ?QP ?QQ ?QR ?QS ?QU ?QV ?QW ?QY ?QZ ?RW ?z_ValueError ?z_enumerate ?z_int ?z_isinstance ?z_len ?z_max ?z_min ?z_range ?z_sorted ?z_sum ?z_tuple ?GI ?KO ?KP ?ga_MOST_PLANNED ?xH ?x0 ?x1 ?x2 ?x3 ?x4 ?x5 ?x6 ?x7 ?x8 ?x9 ?r2 ?lU ?rO ?yh ?lt
    (case h0=>walk_at "at")
    (case h1=>walk_at "at")
    (case h2=>walk_at "at")
    (case h3=>walk_at "at")
    (case h4=>walk_at "at")
    (case h5=>walk_at "at")
    (case h6=>walk_at "at")
    (case h7=>walk_at "at")
    (case h8=>walk_at "at")
    (case h9=>walk_at "at")
    (case OP=>walk_at "at")
    (case QL=>walk_at "at")
    (case QM=>walk_at "at")
    (case QN=>walk_at "at")
    (case RV=>walk_at "at")
    (case QO=>walk_at "at")
    (case QP=>walk_at "at")
    (case QQ=>walk_at "at")
    (case QR=>walk_at "at")
    (case QS=>walk_at "at")
    (case QU=>walk_at "at")
    (case QV=>walk_at "at")
    (case QW=>walk_at "at")
    (case QY=>walk_at "at")
    (case QZ=>walk_at "at")
    (case RW=>walk_at "at")
    (case z_ValueError=>k_is)
    (case z_enumerate=>k_is)
    (case z_int=>k_is)
    (case z_isinstance=>k_is)
    (case z_len=>k_is)
    (case z_max=>k_is)
    (case z_min=>k_is)
    (case z_range=>k_is)
    (case z_sorted=>k_is)
    (case z_sum=>k_is)
    (case z_tuple=>k_is)
    (case GI=>walk_at "tb")
    (case KO=>kernel_rfl)
    (case KP=>(exact Mi.Ap (by k_is)))
    (case ga_MOST_PLANNED=>k_is)
    (case xH=>walk_at "cl")
    (case x0=>walk_at "cl")
    (case x1=>walk_at "cl")
    (case x2=>walk_at "cl")
    (case x3=>walk_at "cl")
    (case x4=>walk_at "cl")
    (case x5=>walk_at "cl")
    (case x6=>walk_at "cl")
    (case x7=>walk_at "cl")
    (case x8=>walk_at "cl")
    (case x9=>walk_at "cl")
    (case r2=>walk_at "rz")
    (case lU=>k_is)
    (case rO=>k_is)
    (case yh=>k_is)
    (case lt=>decide)
