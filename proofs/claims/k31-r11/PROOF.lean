
import PyProof.Rows.All
import Wide.All
import OpenK.AllK
import Wide.FinOn
import Lean
import PyProof.EqAt
import PyProof.EqKinds
import PyProof.TupleCall
import PyProof.SetScanFacts
import PyProof.SetRoads
import PyProof.SetNew
import PyProof.TupleKey
import PyProof.DictFindH
import PyProof.Rows.SetFrom
import KE.KDictOf
import PyProof.AttrMissHeap
import PyProof.MeetsDictList
import PyProof.FString5
import KE.KUnpackStar
import PyProof.StationsW
import PyProof.RulesDel
import PyProof.RulesAs
import PyProof.InstStoreFacts
import PyProof.ExcInit
import PyProof.ExcClass3
import PyProof.ExcBaseAll.ValueError
import PyProof.ExcArgsOwn
import KE.KLam
import KE.KMinKey
import KE.KDictList
import KE.KDictLaws
import KE.KDictSum
import PySem.Challenge.RW_fleethide_k31_whole_fewer_hidings_fewer
set_option Elab.async false
set_option linter.all false
set_option maxRecDepth 100000
set_option maxHeartbeats 4000000
abbrev WR:=PySem.Value->PySem.Shared->Prop
abbrev WS:=List (PySem.Addr×PySem.Obj)
abbrev WT:=Array (Option PySem.Value)
abbrev WU:=PySem.Str->Option PySem.Value
abbrev WV:=List (PySem.Str×PySem.Addr)
abbrev WW:=List (Int×Int)
abbrev WX:=List PySem.Comprehension
abbrev WY:=List PySem.Value
abbrev WZ:=Option PySem.Value
abbrev W0:=Option PySem.Addr
abbrev W1:=List PySem.Str
abbrev W2:=List PySem.Addr
abbrev W3:=List PySem.Expr
abbrev W4:=List PySem.Stmt
abbrev W5:=List Nat
abbrev W6:=List Int
abbrev W7:=Int×Int
abbrev W8:=PySem.W.Frag
abbrev W9:=PySem.Value
abbrev W_:=PySem.Shared
abbrev Xa:=PySem.Program
abbrev Xb:=PySem.Around
abbrev Xd:=PySem.Heap
abbrev Xe:=PySem.World
abbrev Xf:=PySem.FuncData
abbrev Xg:=PySem.Scope
abbrev Xh:=PySem.Addr
abbrev Xi:=PySem.Expr
abbrev Xj:=PySem.Stmt
def a_:=@PySem.wpAny_bind
def b_:=@Option.bind_eq_some_iff
def c_:=@List.length_map
def d_:=@PySem.wpAny_pure
def e_:=@PySem.Heap.get?_push_of_some
def f_:=@List.getElem?_eq_getElem
def g_:=@List.getD_eq_getElem?_getD
def h_:=@Nat.le_refl
def i_:=@List.getElem?_eq_some_iff
def j_:=@if_pos
def k_:=@if_neg
def l_:=@List.mem_cons_of_mem
def m_:=@List.getElem?_map
def n_:=@PySem.Heap.get?_push_size
def o_:=@List.mem_cons_self
def p_:=@List.getElem?_set_ne
def q_:=@PySem.Heap.lt_size
def r_:=@List.length_append
def s_:=@List.mem_singleton
def t_:=@List.mem_cons
def u_:=@List.size_toArray
def v_:=@List.getElem?_set_self
def w_:=@decide_eq_true
def x_:=@Bool.false_eq_true
def y_:=@List.mem_map
def z_:=@Nat.ne_of_lt
def A_:=@List.length_cons
def B_:=@Nat.le_trans
def C_:=@decide_eq_true_eq
def D_:=@Option.map_eq_some_iff
def E_:=@decide_eq_false
def F_:=@Bool.and_eq_true
def G_:=@List.getElem?_append_right
def H_:=@Option.bind_some
def I_:=@List.getElem?_append_left
def J_:=@List.mem_append_right
def K_:=@List.getElem?_eq_none
def L_:=@List.map_cons
def M_:=@List.all_eq_true
def N_:=@Nat.lt_of_lt_of_le
def O_:=@List.map_append
def P_:=@Bool.false_ne_true
def Q_:=@PySem.wpAny_holding
def R_:=@List.mem_of_getElem?
def Sq:=@Nat.zero_add
def Sr:=@List.mem_append
def Ss:=@PySem.PassesOwn.never
def Su:=@List.contains_cons
def Sv:=@Array.length_toList
def Sw:=@of_decide_eq_true
def Sx:=@PySem.wpAny_loadPart_at
def Sy:=@List.mem_range
def Sz:=@PySem.sizeLine_eq
def SA:=@PySem.wpAny_call_entry
def SB:=@PySem.Heap.get?_update_other
def SC:=@List.append_nil
def SE:=@List.mem_filter
def SG:=@PySem.wpAny_mono
def SH:=@Array.getElem?_eq_getElem
def SI:=@List.pairwise_cons
def SJ:=@PySem.Heap.SameBut.update
def SL:=@PySem.mem_of_lookup
def SM:=@List.map_map
def SN:=@PySem.wpAny_setState_of
def SO:=@Int.toNat_natCast
def SQ:=@PySem.Heap.get?_update_self
def SR:=@List.pairwise_iff_getElem
def SS:=@if_false
def SU:=@List.mem_map_of_mem
def SV:=@List.filterMap_cons
def SW:=@PySem.Obj.data_mapFields
def SY:=@List.not_mem_nil
def SZ:=@List.length_take
def S0:=@List.getElem?_replicate
def S1:=@PySem.wpAny_callSpecial?_slot
def S2:=@PySem.Heap.get?_none_of_le
def S3:=@List.replicate_succ
def S4:=@PySem.wpAny_isSubtype_exc
def S5:=@PySem.wpAny_newObj_type
def S6:=@List.pairwise_append
def S7:=@Array.getElem?_eq_some_iff
def S8:=@PySem.wpAny_field
def S9:=@Bool.eq_iff_iff
def S_:=@Nat.le_of_not_lt
def Ta:=@List.lookup_cons
def Tb:=@List.take_length
def Tc:=@PySem.F.plain_min_loop
def Td:=@Array.getElem?_eq_none
def Te:=@List.getElem?_zip_eq_some
def Tf:=@List.pairwise_map
def Tg:=@Ne.symm
def Ti:=@PySem.Obj.isFreed_of_fields
def Tj:=@List.length_filter_le
def Tn:=@congrArg
def To:=@PySem.wpAny_standAt
def Tp:=@PySem.F.slot_dict_keyiterator_next
def Tq:=@PySem.wpAny_setField_rec
def Tr:=@PySem.wpAny_forIn_list
def Ts:=@List.getElem_mem
def Tt:=@PySem.wpAny_askSetting
def Tu:=@Bool.not_true
def Tv:=@PySem.wpAny_truthy_bool
def Tz:=@List.flatten_cons
def TC:=@PySem.wpAny_seqItems
def TF:=@Bool.or_true
def TH:=@PySem.wpAny_specialOf
def TJ:=@List.length_nil
def TK:=@Int.emod_lt_of_pos
def TM:=@PySem.wpAny_Call_Name_kw
def TN:=@PySem.W.mg_none_of
def TQ:=@Nat.pow_succ
def TR:=@Nat.le_of_lt
def TU:=@PySem.wpAny_setField
def TV:=@PySem.W.looks_findIn
def TY:=@PySem.wpAny_typeNameOfWhole_keyiter
def TZ:=@Nat.pow_le_pow_right
def T1:=@List.append_assoc
def T3:=@Nat.lt_succ_of_lt
def T4:=@List.length_range
def T5:=@List.length_eq_zero_iff
def T6:=@PySem.F.slot_dict_setdefault
def T7:=@Nat.ne_of_gt
def T8:=@PyProof.Rows.callWith_type1
def T9:=@Nat.add_assoc
def T_:=@Nat.zero_le
def Ua:=@Nat.lt_irrefl
def Ub:=@List.cons_append
def Uc:=@PySem.wpAny_isInstance
def Ud:=@List.mem_flatMap
def Ue:=@List.zip_cons_cons
def Ug:=@List.perm_ext_iff_of_nodup
def Uh:=@Array.forIn_toList
def Ui:=@PySem.F.slot_tuple_iterator_next
def Uj:=@PySem.F.excBase_ValueError
def Uk:=@List.take_append_drop
def Ul:=@List.length_singleton
def Um:=@if_true
def Uo:=@List.length_replicate
def Up:=@List.mem_take_iff_getElem
def Uq:=@List.drop_eq_getElem_cons
def Ur:=@PySem.Calls.call_function_entry
def Us:=@Classical.byContradiction
def Ut:=@Int.emod_nonneg
def Uu:=@List.nil_append
def Uv:=@PySem.F.slot_tuple_hash
def Uw:=@List.ext_getElem?
def Ux:=@List.flatMap_cons
def Uy:=@List.take_add_one
def Uz:=@Prod.mk.injEq
def UA:=@PyProof.Rows.kind_sorted
def UB:=@PyProof.Rows.boot_sorted
def UC:=@PySem.AutoSeq1.wpAny_loadPart'
def UD:=@PySem.wpAny_typeNameOf_keyiter
def UE:=@List.getElem?_range
def UF:=@List.filter_cons
def UG:=@Int.eq_ofNat_of_zero_le
def UH:=@List.filter_cons_of_pos
def UI:=@List.filter_cons_of_neg
def UJ:=@Nat.le_succ
def UK:=@PySem.wpAny_pyNext_list_item
def UL:=@PySem.Calls.spliced_cons
def UM:=@PySem.W.callWith_K
def UN:=@PySem.W.cellsFrom_some
def UO:=@PySem.Calls.callWith_builtin
def UP:=@Nat.lt_of_le_of_lt
def UQ:=@List.ne_nil_of_mem
def UR:=@List.nodup_cons
def US:=@List.of_mem_zip
def UT:=@Nat.not_lt_zero
def UU:=@List.dropLast_concat_getLast
def UV:=@Nat.mul_assoc
def UW:=@PySem.wpAny_newList
def UX:=@PySem.wpAny_attempt
def UY:=@PySem.F.slot_enumerate_next
def UZ:=@Array.getElem?_toList
def U0:=@List.nodup_append
def U1:=@or_false
def U2:=@List.mem_append_left
def U3:=@PySem.wpAny_newFunctionEnv_cells
def U4:=@List.nodup_nil
def U5:=@PySem.wpAny_tryCatch
def U6:=@Nat.mod_eq_of_lt
def U7:=@PySem.codeAny_mono
def U8:=@List.map_flatMap
def U9:=@List.mem_drop_iff_getElem
def U_:=@PySem.Heap.get?_update_ne
def Va:=@List.findSome?_cons
def Vb:=@List.map_eq_nil_iff
def Vc:=@List.Pairwise.imp_of_mem
def Vd:=@PySem.F.args_tuple_add_2
def Ve:=@PySem.wpAny_getItem_list_slice
def Vf:=@PySem.wpAny_comprehension_free
def Vg:=@List.foldl_cons
def Vh:=@PySem.wpAny_execs_nil
def Vi:=@PySem.wpAny_passesOwn
def Vj:=@PySem.codeAny_builtin
def Vk:=@PySem.W.kat_nil
def Vl:=@List.mem_filterMap
def Vm:=@PySem.wpAny_pyIter_tuple
def Vn:=@PySem.wpAny_rule
def Vo:=@PySem.F.entry_tuple_add
def Vp:=@Int.le_refl
def Vq:=@List.pairwise_singleton
def Vr:=@Nat.mul_comm
def Vs:=@Nat.lt_trans
def Vt:=@List.map_nil
def Vu:=@PySem.wpAny_pyIter_list
def Vv:=@PySem.F.slot_tuple_add
def Vw:=@PySem.slot_list_getitem
def Vx:=@Int.le_trans
def Vy:=@PySem.Heap.size_push
def Vz:=@List.take_of_length_le
def VA:=@Bool.eq_false_iff
def VB:=@PySem.F.entry_min_loop
def VC:=@PySem.wpAny_dictEntries
def VD:=@Nat.and_mod_two_eq_one
def VE:=@List.mem_iff_getElem?
def VF:=@PySem.wpAny_pyNext_list_end
def VG:=@PySem.codeAny_call_function
def VH:=@PySem.isSubtype_tuple_tuple
def VI:=@PySem.wpAny_execs_cons
def VJ:=@PySem.wpAny_call
def VL:=@PyProof.Rows.callWith_builtin1
def VM:=@beq_self_eq_true
def VN:=@beq_iff_eq
def VO:=@PySem.Heap.size_update
def VP:=@PySem.F.args_dict_setdefault_3
def VQ:=@List.map_take
def VR:=@List.all_cons
def VS:=@Nat.mul_add
def VT:=@List.mem_of_mem_take
def VU:=@PySem.Calls.evalArgs_plain
def VV:=@PySem.wpAny_of_eq
def VW:=@PySem.wpAny_newFunctionEnv
def VX:=@PySem.wpAny_letGo
def VY:=@PySem.codeAny_call_builtin
def VZ:=@PySem.Around.under_plainId
def V0:=@PySem.wpAny_pyIter_keyiter
def V1:=@PySem.F.entry_dict_setdefault
def V2:=@List.length_set
def V3:=@PyProof.Rows.get?_update_seq
def V4:=@PyProof.Rows.entry_list_sort
def V5:=@PyProof.Rows.boot_isinstance
def V6:=@PySem.F.type_dict_setdefault
def V7:=@List.length_zip
def V8:=@PySem.F.slot_tuple_eq
def V9:=@beq_eq_false_iff_ne
def V_:=@List.filter_eq_self
def Wa:=@List.map_congr_left
def Wb:=@Function.comp_apply
def Wc:=@Nat.add_comm
def We:=@Array.getD_eq_getD_getElem?
def Wf:=@Int.le_of_lt
def Wg:=@PySem.F.slot_int_bit_length
def Wh:=@Nat.mod_lt
def Wi:=@PySem.W.codeRec_of
def Wj:=@PySem.Code.quiet_builtin
def Wk:=@PyProof.Rows.size_push'
def Wl:=@PySem.tupleKind_room_in1
def Wm:=@PySem.wpAny_fieldsOf
def Wn:=@Array.perm_iff_toList_perm
def Wo:=@PySem.wpAny_tupleItemsOf
def Wp:=@Option.toList_some
def Wq:=@Nat.mul_le_mul
def Wr:=@PySem.F.slot_dict_getitem
def Ws:=@Nat.mul_left_comm
def Wt:=@Nat.lt_trichotomy
def Wu:=@PySem.Calls.spliced_nil
def Wv:=@List.take_sublist
def Ww:=@List.reverse_cons
def Wx:=@PySem.Obj.cls_mapFields
def Wy:=@PySem.wpAny_pyIter_enum
def Wz:=@bne_self_eq_false
def WA:=@PySem.wpAny_pyIter_slot
def WB:=@PySem.plainId_quiet
def WC:=@Nat.succ_ne_self
def WD:=@List.any_eq_true
def WE:=@List.mem_flatten
def WG:=@Nat.mul_succ
def WH:=@Nat.min_self
def WI:=@List.all_map
def WJ:=@Bool.or_eq_true
def WK:=@Nat.and_div_two
def WL:=@Nat.and_le_left
def WM:=@Nat.add_mul
def WN:=@Bool.false_and
def WO:=@List.take_succ
def WQ:=@exists_eq_left
theorem cN{G:Prop}(h:∀Q:Prop,(G->Q)->Q):G:=h G id
namespace St
open PySem
def s5:Nat->Nat
 | 0=>0
 | n+1=>5*s5 n+1
def g5:Nat->Nat->Nat
 | 0,x=>x
 | n+1,x=>5*g5 n x+1
theorem GF(x:Nat):∀n,g5 n x=x+s5 n*(4*x+1)
 | 0=>by simp[g5,s5]
 | n+1=>by
  unfold g5 s5;rw[GF x n,WM,VS,UV]
  lia
theorem BK(x m:Nat):∀n,g5 (m+n) x=g5 n (g5 m x)
 | 0=>rfl
 | n+1=>by rw[<- T9];show 5*g5 (m+n) x+1=_;rw[BK x m n];rfl
theorem Cp(m:Nat):∀n,s5 (m+n)=s5 m+s5 n+4*(s5 m*s5 n)
 | 0=>by simp[s5]
 | n+1=>by
  rw[<- T9];show 5*s5 (m+n)+1=s5 m+(5*s5 n+1)+4*(s5 m*(5*s5 n+1));rw[Cp m n,VS (s5 m),Ws (s5 m) 5]
  lia
theorem zT:∀k,∃a,s5 (2 ^ k)=2 ^ k*(2*a+1)
 | 0=>⟨0,rfl⟩
 | k+1=>by
  obtain⟨a,h⟩:=zT k;rw[TQ,Nat.mul_two,Cp];generalize s5 (2 ^ k)=s at h;generalize 2 ^ k=N at h;refine⟨a+s*(2*a+1),?_⟩;have e:(N+N)*(2*(a+s*(2*a+1))+1)=2*(N*(2*a+1))+4*(s*(N*(2*a+1))):=by
   rw[<- Nat.two_mul,UV 2 N];rw[show N*(2*(a+s*(2*a+1))+1)=N*(2*a+1)+N*(2*(s*(2*a+1))) by rw[<- VS];congr 1;lia];rw[VS,show N*(2*(s*(2*a+1)))=2*(s*(N*(2*a+1))) by
    rw[Ws N 2,Ws N s]]
   lia
  rw[e,<- h];lia
theorem F5(k x:Nat):g5 (2 ^ k) x%2 ^ (k+1)=(x+2 ^ k)%2 ^ (k+1):=by
 obtain⟨a,h⟩:=zT k;rw[GF,h,TQ];generalize 2 ^ k=N;have:x+N*(2*a+1)*(4*x+1)=(x+N)+(N*2)*(a*(4*x+1)+2*x):=by
  rw[UV N,show(2*a+1)*(4*x+1)=2*(a*(4*x+1)+2*x)+1 by rw[WM,UV];lia];rw[VS,UV N 2];lia
 rw[this,Nat.add_mul_mod_self_left]
theorem full:∀(k x y:Nat),∃n,n<2 ^ k/\g5 n x%2 ^ k=y%2 ^ k
 | 0,x,y=>⟨0,by decide,by simp[Nat.mod_one]⟩
 | k+1,x,y=>by
  obtain⟨n,h1,h2⟩:=full k x y;have hp:2 ^ (k+1)=2*2 ^ k:=by rw[TQ,Vr]
  by_cases h:g5 n x%2 ^ (k+1)=y%2 ^ (k+1)
  .exact⟨n,by lia,h⟩
  .refine⟨n+2 ^ k,by lia,?_⟩;rw[BK,F5,hp]at *;generalize g5 n x=z at h h2;have hN:0<2 ^ k:=Nat.two_pow_pos k;generalize 2 ^ k=N at *;have e1:=Nat.mod_mod_of_dvd z (⟨2,by rw[Vr]⟩:N ∣ 2*N);have e2:=Nat.mod_mod_of_dvd y (⟨2,by rw[Vr]⟩:N ∣ 2*N);have b1:=Wh z (show 0<2*N by lia);have b2:=Wh y (show 0<2*N by lia);rw[Nat.add_mod,U6 (show N<2*N by lia)];generalize z%(2*N)=u at *;generalize y%(2*N)=v at *;have d1:=Nat.div_add_mod u N;have d2:=Nat.div_add_mod v N;have q1:u/N<2:=Nat.div_lt_of_lt_mul (by lia);have q2:v/N<2:=Nat.div_lt_of_lt_mul (by lia);have r1:=Wh u hN;have hr:u%N=v%N:=by lia
   generalize u/N=c at *;generalize v/N=d at *;rw[hr]at d1 r1;generalize v%N=w at *;have cc:c=0\/c=1:=by clear d1 d2;lia
   have dd:d=0\/d=1:=by clear d1 d2;lia
   rcases cc with rfl | rfl<;>rcases dd with rfl | rfl
   .exact absurd (by lia) h
   .rw[U6 (by lia)];lia
   .rw[show u+N=2*N+v by lia,Nat.add_mod_left,U6 (by lia)]
   .exact absurd (by lia) h
theorem gap:∀(l:W5)(a:Nat),l.Pairwise (· < ·)->(∀x∈l,a<=x)->∃x,a<=x/\x<=a+l.length/\x∉l
 | [],a,_,_=>⟨a,h_ _,by simp,by simp⟩
 | b::r,a,h,hl=>by
  obtain⟨h1,h2⟩:=SI.mp h;have hb:=hl b o_
  by_cases e:b=a
  .subst e;obtain⟨x,x1,x2,x3⟩:=gap r (b+1) h2 λx hx=>h1 x hx;refine⟨x,by lia,by simp;lia,λhx=>?_⟩;rcases t_.mp hx with z | z
   .lia
   .exact x3 z
  .refine⟨a,h_ _,by simp,λhx=>?_⟩;rcases t_.mp hx with z | z
   .lia
   .have:=h1 a z;lia
theorem mQ(xs:Array Nat)(j:Nat)(up:xs.toList.Pairwise (· < ·)):∀(fuel lo hi:Nat),lo<=hi->hi<=xs.size->hi-lo<=fuel->(∀x∈xs.toList.take lo,x<j)->(∀x∈xs.toList.drop hi,j<=x)->
  ∃r,SetTable.below.go xs j fuel lo hi=r/\r<=xs.size/\(∀x∈xs.toList.take r,x<j)/\∀x∈xs.toList.drop r,j<=x
 | 0,lo,hi,h1,h2,h3,h4,h5=>⟨lo,rfl,by lia,h4,by rw[show lo=hi by lia];exact h5⟩
 | fuel+1,lo,hi,h1,h2,h3,h4,h5=>by
  unfold SetTable.below.go
  by_cases hl:lo<hi
  .rw[j_ hl];dsimp only;have hm:(lo+hi)/2<xs.size:=by lia
   have hg:xs.getD ((lo+hi)/2) j=xs.toList[(lo+hi)/2]'(by simpa using hm):=by simp[Array.getD,hm]
   rw[hg];generalize hmm:(lo+hi)/2=mid at *;have Rb:mid<xs.toList.length:=by simpa using hm
   by_cases hc:xs.toList[mid]<j
   .rw[j_ hc];refine mQ xs j up fuel (mid+1) hi (by lia) h2 (by lia) (λx hx=>?_) h5;obtain⟨i,hi1,rfl⟩:=Up.mp hx
    by_cases e:i=mid
    .subst e;exact hc
    .exact Vs (SR.mp up i mid (by lia) Rb (by lia)) hc
   .rw[k_ hc];refine mQ xs j up fuel lo mid (by lia) (by lia) (by lia) h4 (λx hx=>?_);obtain⟨i,hi1,rfl⟩:=U9.mp hx
    by_cases e:i=0
    .subst e;simpa using hc
    .have:=SR.mp up mid (mid+i) Rb (by lia) (by lia)
     lia
  .rw[k_ hl];exact⟨lo,rfl,by lia,h4,by rw[show lo=hi by lia];exact h5⟩
theorem nj(xs:Array Nat)(j:Nat)(up:xs.toList.Pairwise (· < ·)):SetTable.below xs j<=xs.size/\(∀x∈xs.toList.take (SetTable.below xs j),x<j)/\∀x∈xs.toList.drop (SetTable.below xs j),j<=x:=by
 obtain⟨r,h1,h2⟩:=mQ xs j up xs.size 0 xs.size (T_ _) (h_ _) (h_ _) (by simp) (λx hx=>by rw[<- Sv,List.drop_length]at hx;cases hx);unfold SetTable.below;rw[h1];exact h2
theorem below_at(up:xs.toList.Pairwise (· < ·))(h:xs[i]?=some j):SetTable.below xs j=i:=by
 obtain⟨h1,h2,h3⟩:=nj xs j up;generalize SetTable.below xs j=r at *;have h':xs.toList[i]?=some j:=by simpa using h
 obtain⟨hi,e⟩:=i_.mp h';rcases Wt r i with hlt | rfl | hgt
 .have hr:r<xs.toList.length:=by lia
  have a1:=h3 xs.toList[r] (U9.mpr ⟨0,by simpa using hr,by simp⟩);have a2:=SR.mp up r i hr hi hlt
  lia
 .rfl
 .have:=h2 xs.toList[i] (Up.mpr ⟨i,by lia,rfl⟩)
  lia
theorem wW(j:Nat):SetTable.has #[] j=false:=by
 unfold SetTable.has;simp
theorem kn{t:SetTable}{i j:Nat}(up:t.place.toList.Pairwise (· < ·))(h:t.place[i]?=some j):t.slot j=.live i:=by
 unfold SetTable.slot;rw[below_at up h];dsimp only;rw[h];simp
theorem uC{t:SetTable}{j:Nat}(hd:t.dummies=#[])(h:j∉t.place.toList):t.slot j=.empty:=by
 unfold SetTable.slot;dsimp only;rw[k_,hd,wW]
 .rfl
 .intro e;have e2:t.place[SetTable.below t.place j]?=some j:=by simpa using e
  exact h (by have:=Array.mem_of_getElem? e2;simpa using this)
def uo(mask:Nat)(p:SetTable.Probe):SetTable.Probe:=
 if p.more>0 then {p with j:=p.j+1,more:=p.more-1}else
 {p with j:=(SetTable.leap mask p.i p.perturb).1,more:=SetTable.runEnd mask (SetTable.leap mask p.i p.perturb).1-(SetTable.leap mask p.i p.perturb).1,i:=(SetTable.leap mask p.i p.perturb).1,perturb:=(SetTable.leap mask p.i p.perturb).2}
theorem Ja(t:SetTable)(p:SetTable.Probe):t.advance p=uo t.mask p:=rfl
def it(mask:Nat)(p:SetTable.Probe):Nat->SetTable.Probe
 | 0=>p
 | m+1=>uo mask (it mask p m)
theorem jl(mask:Nat)(p:SetTable.Probe):∀m,it mask p (m+1)=it mask (uo mask p) m
 | 0=>rfl
 | m+1=>by show uo mask (it mask p (m+1))=uo mask (it mask (uo mask p) m);rw[jl mask p m]
theorem iI(mask:Nat)(p:SetTable.Probe)(a:Nat):∀b,it mask p (a+b)=it mask (it mask p a) b
 | 0=>rfl
 | b+1=>by rw[<- T9];show uo mask (it mask p (a+b))=_;rw[iI mask p a b];rfl
def st(mask i aM:Nat):SetTable.Probe:={j:=i,more:=SetTable.runEnd mask i-i,i:=i,perturb:=aM,dummy:=none}
theorem sP(t:SetTable)(h:Int):t.probeStart h=st t.mask (SetTable.bits h%(t.mask+1)) (SetTable.bits h):=rfl
theorem qO(mask i:Nat)(h:i<=mask):SetTable.runEnd mask i-i<=9/\i<=SetTable.runEnd mask i/\SetTable.runEnd mask i<=mask:=by
 unfold SetTable.runEnd;split<;>lia
theorem mq(mask i aM:Nat):∀r,r<=SetTable.runEnd mask i-i->it mask (st mask i aM) r={j:=i+r,more:=SetTable.runEnd mask i-i-r,i:=i,perturb:=aM,dummy:=none}
 | 0,_=>rfl
 | r+1,h=>by
  show uo mask (it mask (st mask i aM) r)=_;rw[mq mask i aM r (by lia)];unfold uo;rw[j_ (by dsimp only;lia)];dsimp only;congr 1
def lp(mask:Nat):Nat->Nat×Nat->Nat×Nat
 | 0,q=>q
 | n+1,q=>lp mask n (SetTable.leap mask q.1 q.2)
theorem qD(mask i aM:Nat)(h:i<=mask):it mask (st mask i aM) (SetTable.runEnd mask i-i+1)=st mask (SetTable.leap mask i aM).1 (SetTable.leap mask i aM).2:=by
 show uo mask (it mask (st mask i aM) (SetTable.runEnd mask i-i))=_;rw[mq mask i aM _ (h_ _)];unfold uo;rw[k_ (by dsimp only;lia)]
 rfl
theorem lr(mask i aM:Nat):(SetTable.leap mask i aM).1<=mask:=by
 unfold SetTable.leap;have:=Wh (i*5+1+aM/32) (show 0<mask+1 by lia);dsimp only;lia
theorem G4(mask:Nat):∀(n i aM:Nat),i<=mask->∃m,m<=10*n/\it mask (st mask i aM) m=st mask (lp mask n (i,aM)).1 (lp mask n (i,aM)).2
 | 0,i,aM,_=>⟨0,h_ _,rfl⟩
 | n+1,i,aM,h=>by
  obtain⟨m,h1,h2⟩:=G4 mask n _ (SetTable.leap mask i aM).2 (lr mask i aM);have hr:=(qO mask i h).1;refine⟨SetTable.runEnd mask i-i+1+m,by lia,?_⟩;rw[iI,qD mask i aM h,h2]
  rfl
theorem xJ(mask:Nat):∀(n i aM:Nat),(lp mask n (i,aM)).2=aM/32 ^ n
 | 0,i,aM=>by simp[lp]
 | n+1,i,aM=>by
  show(lp mask n ((SetTable.leap mask i aM).1,aM/32)).2=_;rw[xJ mask n,Nat.div_div_eq_div_mul,TQ,Vr]
theorem vF(mask a:Nat):∀(b:Nat)(q:Nat×Nat),lp mask (b+a) q=lp mask a (lp mask b q)
 | 0,q=>by rw[Sq];rfl
 | b+1,q=>by rw[show b+1+a=(b+a)+1 by lia];show lp mask (b+a) _=lp mask a (lp mask b _);rw[vF mask a b]
theorem w8(mask:Nat):∀(n i:Nat),i<=mask->lp mask n (i,0)=(g5 n i%(mask+1),0)
 | 0,i,h=>by show(i,0)=(i%(mask+1),0);rw[U6 (by lia)]
 | n+1,i,h=>by
  have e:lp mask (n+1) (i,0)=SetTable.leap mask (lp mask n (i,0)).1 (lp mask n (i,0)).2:=by rw[vF mask 1 n];rfl
  rw[e,w8 mask n i h];show((g5 n i%(mask+1)*5+1+0/32)%(mask+1),0/32)=((5*g5 n i+1)%(mask+1),0);have:(g5 n i%(mask+1)*5+1+0/32)%(mask+1)=(5*g5 n i+1)%(mask+1):=by
   rw[Nat.zero_div,Nat.add_zero,Nat.add_mod,Nat.mod_mul_mod,<- Nat.add_mod,Vr]
  rw[this]
theorem G3(mask:Nat):∀(n i aM:Nat),i<=mask->(lp mask n (i,aM)).1<=mask
 | 0,i,aM,h=>h
 | n+1,i,aM,h=>G3 mask n _ _ (lr mask i aM)
theorem wD(h:Int):SetTable.bits h<2 ^ 64:=by
 unfold SetTable.bits;have a:=Ut h (show(2 ^ 64:Int)≠0 by decide);have b:=TK h (show(0:Int)<2 ^ 64 by decide);have c:((2:Int) ^ 64)=((2 ^ 64:Nat):Int):=by decide
 lia
theorem meets(k:Nat)(mask:Nat)(hk:mask+1=2 ^ k)(i aM x:Nat)(hi:i<=mask)(hp:aM<2 ^ 64)(hx:x<=mask):∃n,n<=13+mask/\(lp mask n (i,aM)).1=x:=by
 have z:lp mask 13 (i,aM)=((lp mask 13 (i,aM)).1,0):=by
  have:=xJ mask 13 i aM;rw[Nat.div_eq_of_lt (Vs hp (by decide))]at this;exact Prod.ext rfl this
 obtain⟨n,h1,h2⟩:=full k (lp mask 13 (i,aM)).1 x;refine⟨13+n,by lia,?_⟩;rw[vF mask n 13,z,w8 mask n _ (G3 mask 13 i aM hi)];show g5 n _%(mask+1)=x;rw[hk,h2,<- hk,U6 (by lia)]
theorem jD(mask:Nat)(p:SetTable.Probe)(h:p.dummy=none):∀m,(it mask p m).dummy=none
 | 0=>h
 | m+1=>by
  show(uo mask (it mask p m)).dummy=none;unfold uo
  split
  .exact jD mask p h m
  .exact jD mask p h m
theorem GO(mask i aM:Nat)(hi:i<=mask):∀m,(it mask (st mask i aM) m).i<=mask/\(it mask (st mask i aM) m).j+(it mask (st mask i aM) m).more<=mask
 | 0=>⟨hi,by have:=qO mask i hi;show i+(SetTable.runEnd mask i-i)<=mask;lia⟩
 | m+1=>by
  obtain⟨h1,h2⟩:=GO mask i aM hi m;have e:it mask (st mask i aM) (m+1)=uo mask (it mask (st mask i aM) m):=rfl;rw[e];generalize it mask (st mask i aM) m=p at *;unfold uo
  split
  .exact⟨h1,by dsimp only;lia⟩
  .have hl:=lr mask p.i p.perturb;have hr:=qO mask _ hl;exact⟨hl,by dsimp only;lia⟩
structure Ok(t:SetTable)(hs:List Int):Prop where
 dum:t.dummies=#[]
 pw:∃k,t.mask+1=2 ^ k
 up:t.place.toList.Pairwise (· < ·)
 le:∀x∈t.place.toList,x<=t.mask
 len:t.place.size=hs.length
 lt:t.place.size<=t.mask
 ch:∀q∈t.place.toList.zip hs,∃m,(it t.mask (t.probeStart q.2) m).j=q.1/\∀m'<m,(it t.mask (t.probeStart q.2) m').j∈t.place.toList
theorem nq(mask:Nat)(h:Int):SetTable.bits h%(mask+1)<=mask:=by
 have:=Wh (SetTable.bits h) (show 0<mask+1 by lia);lia
theorem pR{l:W5}{mask:Nat}(hk:∃k,mask+1=2 ^ k)(up:l.Pairwise (· < ·))(hl:l.length<=mask)(i aM:Nat)(hi:i<=mask)(hp:aM<2 ^ 64) :
  ∃n,n<=13+mask/\(lp mask n (i,aM)).1∉l:=by
 obtain⟨k,hk⟩:=hk;obtain⟨x,_,x2,x3⟩:=gap l 0 up λ_ _=>T_ _;obtain⟨n,h1,h2⟩:=meets k mask hk i aM x hi hp (by lia);exact⟨n,h1,by rw[h2];exact x3⟩
theorem Ok.soon{t:SetTable}{hs:W6}(o:Ok t hs)(h:Int):∃m,m<10*SetTable.turns t.mask/\(it t.mask (t.probeStart h) m).j∉t.place.toList:=by
 obtain⟨n,h1,h2⟩:=pR o.pw o.up (by simpa using o.lt) _ _ (nq t.mask h) (wD h);obtain⟨m,h3,h4⟩:=G4 t.mask n _ (SetTable.bits h) (nq t.mask h);refine⟨m,by unfold SetTable.turns;lia,?_⟩;rw[sP,h4];exact h2
theorem sQ(hd:t.dummies=#[])(up:t.place.toList.Pairwise (· < ·))(ha:Nat->Int)(h:Int):∀(fuel:Nat)(p:SetTable.Probe),p.dummy=none->(∃m,m<fuel/\(it t.mask p m).j∉t.place.toList)->
  ∃met m,SetTable.probe.go t ha h fuel p=some met/\(∀m'<m,∃i,t.place[i]?=some (it t.mask p m').j/\ha i≠h)/\
   ((met=.empty (it t.mask p m).j none/\(it t.mask p m).j∉t.place.toList)\/∃i,t.place[i]?=some (it t.mask p m).j/\ha i=h/\met=.candidate (it t.mask p m).j i (it t.mask p (m+1)))
 | 0,p,_,⟨m,h1,_⟩=>by lia
 | fuel+1,p,hp,⟨m,h1,h2⟩=>by
  unfold SetTable.probe.go
  by_cases hm:p.j∈t.place.toList
  .obtain⟨i,hi⟩:=VE.mp hm;have hi':t.place[i]?=some p.j:=by simpa using hi
   rw[kn up hi'];dsimp only
   by_cases hh:ha i=h
   .rw[j_ (by simpa using hh)];exact⟨_,0,rfl,λm' z=>by lia,.inr ⟨i,hi',hh,rfl⟩⟩
   .rw[k_ (by simpa using hh),Ja];have P2:m≠0:=λz=>h2 (by rw[z];exact hm);obtain⟨m1,rfl⟩:∃m1,m=m1+1:=⟨m-1,by lia⟩;obtain⟨met,m2,g1,g2,g3⟩:=sQ hd up ha h fuel (uo t.mask p) (by have:=jD t.mask p hp 1;exact this) ⟨m1,by lia,by rw[<- jl];exact h2⟩;refine⟨met,m2+1,g1,λm' hm'=>?_,?_⟩
    .cases m' with
     | zero=>exact⟨i,hi',hh⟩
     | succ m'=>rw[jl];exact g2 m' (by lia)
    .rw[jl,jl];exact g3
  .rw[uC hd hm];dsimp only;exact⟨_,0,rfl,λm' z=>by lia,.inl ⟨by rw[hp];rfl,hm⟩⟩
theorem xq:∀(p:Nat)(xs:List α)(ys:List β)(x:α)(y:β),xs.length=ys.length->p<=xs.length->(xs.take p++x::xs.drop p).zip (ys.take p++y::ys.drop p)=(xs.zip ys).take p++(x,y)::(xs.zip ys).drop p
 | 0,xs,ys,x,y,_,_=>rfl
 | p+1,[],_,_,_,_,h=>by simp at h
 | p+1,_::_,[],_,_,h,_=>by simp at h
 | p+1,a::xs,b::ys,x,y,h,hp=>by
  simp only[List.take_succ_cons,List.drop_succ_cons,Ub,Ue];rw[xq p xs ys x y (by simpa using h) (by simpa using hp)]
theorem qw(p:Nat)(l:List α)(x z:α):z∈l.take p++x::l.drop p↔z=x\/z∈l:=by
 rw[Sr,t_];constructor
 .rintro(h | h | h)
  .exact .inr (VT h)
  .exact .inl h
  .exact .inr (List.mem_of_mem_drop h)
 .rintro(h | h)
  .exact .inr (.inl h)
  .rw[<- Uk p l]at h;rcases Sr.mp h with h | h
   .exact .inl h
   .exact .inr (.inr h)
theorem qR(p:Nat)(l:List α)(x:α):(l.take p++x::l.drop p).length=l.length+1:=by
 rw[r_,A_,<- T9,<- r_,Uk]
theorem Ok.put(o:Ok t hs)(h:Int)(m:Nat)(hj:(it t.mask (t.probeStart h) m).j∉t.place.toList)(hb:∀m'<m,(it t.mask (t.probeStart h) m').j∈t.place.toList)(hlt:t.place.size+1<=t.mask)(pl:Bool) :
  ∃p,(t.put (it t.mask (t.probeStart h) m).j).2=p/\p<=hs.length/\Ok {(t.put (it t.mask (t.probeStart h) m).j).1 with plain:=pl} (hs.take p++h::hs.drop p):=by
 have hle:=(GO t.mask _ (SetTable.bits h) (nq t.mask h) m).2;rw[<- sP]at hle;generalize hjj:(it t.mask (t.probeStart h) m).j=j at *;obtain⟨b1,b2,b3⟩:=nj t.place j o.up;refine⟨_,rfl,by rw[<- o.len];exact b1,?_⟩;show Ok {t with place:=SetTable.insertAt t.place (SetTable.below t.place j) j,dummies:=if SetTable.has t.dummies j then SetTable.eraseAt t.dummies (SetTable.below t.dummies j)else t.dummies,plain:=pl} (hs.take (SetTable.below t.place j)++h::hs.drop (SetTable.below t.place j));have hd:(if SetTable.has t.dummies j then SetTable.eraseAt t.dummies (SetTable.below t.dummies j)else t.dummies)=#[]:=by
  rw[o.dum,wW];rfl
 rw[hd];have hl:t.place.toList.length=hs.length:=by rw[<- o.len];simp
 have e1:=SetTable.toList_insertAt t.place (SetTable.below t.place j) j;have hsz:(SetTable.insertAt t.place (SetTable.below t.place j) j).size=t.place.size+1:=by
  rw[<- Sv,e1,qR];simp
 refine⟨rfl,o.pw,?_,λx hx=>?_,?_,?_,λq hq=>?_⟩
 .show List.Pairwise _ (SetTable.insertAt t.place _ j).toList;rw[e1];have hup:=o.up;rw[<- Uk (SetTable.below t.place j) t.place.toList]at hup;obtain⟨u1,u2,u3⟩:=S6.mp hup;refine S6.mpr ⟨u1,SI.mpr ⟨λx hx=>?_,u2⟩,λx hx y hy=>?_⟩
  .have:=b3 x hx;have:x≠j:=λz=>hj (z▸List.mem_of_mem_drop hx)
   lia
  .rcases t_.mp hy with rfl | hy
   .exact b2 x hx
   .exact u3 x hx y hy
 .have jI:x∈(SetTable.insertAt t.place (SetTable.below t.place j) j).toList:=hx;rw[e1,qw]at jI;rcases jI with rfl | jI
  .show x<=t.mask;lia
  .exact o.le x jI
 .show(SetTable.insertAt t.place _ j).size=_;rw[hsz,qR,o.len]
 .show(SetTable.insertAt t.place _ j).size<=_;rw[hsz];exact hlt
 .have uq:q∈(SetTable.insertAt t.place (SetTable.below t.place j) j).toList.zip (hs.take (SetTable.below t.place j)++h::hs.drop (SetTable.below t.place j)):=hq;have sub:∀x,x∈t.place.toList->x∈(SetTable.insertAt t.place (SetTable.below t.place j) j).toList:=λx hx=>by rw[e1,qw];exact .inr hx
  rw[e1,xq _ _ _ _ _ hl (by simpa using b1),qw]at uq;rcases uq with rfl | uq
  .exact⟨m,hjj,λm' hm'=>sub _ (hb m' hm')⟩
  .obtain⟨m2,g1,g2⟩:=o.ch q uq;exact⟨m2,g1,λm' hm'=>sub _ (g2 m' hm')⟩
def taken(ow:Array (Option Nat))(j:Nat):Prop:=∃k,ow[j]?=some (some k)
theorem vk(n:Nat)(f:Nat->Bool):(∃k,k<n/\(List.range n).find? f=some k/\f k=true/\∀k'<k,f k'=false)\/((List.range n).find? f=none/\∀k<n,f k=false):=by
 cases e:(List.range n).find? f with
 | none=>
  right;refine⟨rfl,λk hk=>?_⟩;have:=List.find?_eq_none.mp e k (Sy.mpr hk);simpa using this
 | some k=>
  left;obtain⟨h1,h2⟩:=List.find?_eq_some_iff_append.mp e;obtain⟨as,bs,h3,h4⟩:=h2;have hk:k<n:=by
   have:k∈List.range n:=by rw[h3];simp
   exact Sy.mp this
  refine⟨k,hk,rfl,h1,λk' hk'=>?_⟩;have hlen:as.length=k:=by
   have e1:(List.range n)[as.length]?=some k:=by rw[h3];simp
   rw[UE (by have:=Tn List.length h3;simp at this;lia)]at e1;exact Option.some.inj e1
  have:k'∈as:=by
   have e1:(List.range n)[k']?=some k':=UE (by lia);rw[h3,I_ (by lia)]at e1;exact R_ e1
  simpa using h4 k' this
theorem lK(hsz:ow.size=mask+1):∀(fuel i aM:Nat),i<=mask->(∃n,n<fuel/\¬taken ow (lp mask n (i,aM)).1)->
  ∃m,SetTable.layClean.free mask ow fuel i aM=some (it mask (st mask i aM) m).j/\¬taken ow (it mask (st mask i aM) m).j/\(it mask (st mask i aM) m).j<=mask/\∀m'<m,taken ow (it mask (st mask i aM) m').j
 | 0,i,aM,_,⟨n,h,_⟩=>by lia
 | fuel+1,i,aM,hi,⟨n,hn,ht⟩=>by
  obtain⟨r1,r2,r3⟩:=qO mask i hi;unfold SetTable.layClean.free;have gd:∀j,j<=mask->((ow.getD j (some 0)).isNone=true↔¬taken ow j):=λj hj=>by
   have hl:j<ow.size:=by lia
   unfold taken;rw[SH hl];simp only[Array.getD,hl,dif_pos];cases h:ow[j]with
   | none=>simp[h]
   | some k=>simp[h]
  rcases vk (SetTable.runEnd mask i+1-i) (λk=>(ow.getD (i+k) (some 0)).isNone)with ⟨k,k1,k2,k3,k4⟩ | ⟨k2,k4⟩
  .rw[k2];dsimp only;have e:(it mask (st mask i aM) k).j=i+k:=by rw[mq mask i aM k (by lia)]
   refine⟨k,by rw[e],by rw[e];exact(gd _ (by lia)).mp k3,by rw[e];lia,λm' hm'=>?_⟩;rw[mq mask i aM m' (by lia)];have h1:=k4 m' hm';have h2:=gd (i+m') (by lia)
   by_cases hh:taken ow (i+m')
   .exact hh
   .rw[h2.mpr hh]at h1;cases h1
  .rw[k2];dsimp only;have n0:n≠0:=λz=>by
    subst z;have h1:=k4 0 (by lia);rw[Nat.add_zero,(gd i hi).mpr ht]at h1;cases h1
   obtain⟨n',rfl⟩:∃n',n=n'+1:=⟨n-1,by lia⟩;obtain⟨m,g1,g2,g3,g4⟩:=lK hsz fuel _ (SetTable.leap mask i aM).2 (lr mask i aM) ⟨n',by lia,ht⟩;rw[<- qD mask i aM hi,<- iI]at g1 g2 g3;refine⟨_,g1,g2,g3,λm' hm'=>?_⟩
   by_cases hh:m'<SetTable.runEnd mask i-i+1
   .rw[mq mask i aM m' (by lia)];have h1:=k4 m' (by lia);have h2:=gd (i+m') (by lia)
    by_cases hk:taken ow (i+m')
    .exact hk
    .rw[h2.mpr hk]at h1;cases h1
   .have:=g4 (m'-(SetTable.runEnd mask i-i+1)) (by lia);rw[<- qD mask i aM hi,<- iI]at this;rw[show SetTable.runEnd mask i-i+1+(m'-(SetTable.runEnd mask i-i+1))=m' by lia]at this;exact this
structure Lay(mask:Nat)(done:List Int)(ow:Array (Option Nat)):Prop where
 sz:ow.size=mask+1
 bd:∀(j k:Nat),ow[j]?=some (some k)->k<done.length
 on:∀k<done.length,∃j:Nat,ow[j]?=some (some k)
 inj:∀(j j' k:Nat),ow[j]?=some (some k)->ow[j']?=some (some k)->j=j'
 ch:∀(j k:Nat)(h:Int),ow[j]?=some (some k)->done[k]?=some h->∃m,(it mask (st mask (SetTable.bits h%(mask+1)) (SetTable.bits h)) m).j=j/\∀m'<m,taken ow (it mask (st mask (SetTable.bits h%(mask+1)) (SetTable.bits h)) m').j
def lv(mask:Nat)(ow:Array (Option Nat)):List (Nat×Nat):=(List.range (mask+1)).filterMap λj=>(ow.getD j none).map (j,·)
theorem getD_some{ow:Array (Option Nat)}{j k:Nat}:ow.getD j none=some k↔ow[j]?=some (some k):=by
 by_cases h:j<ow.size
 .simp[Array.getD,h]
 .simp[Array.getD,h]
theorem gL{mask:Nat}{ow:Array (Option Nat)}(hsz:ow.size=mask+1){q:Nat×Nat}:q∈lv mask ow↔ow[q.1]?=some (some q.2):=by
 unfold lv;rw[Vl];constructor
 .rintro⟨j,_,h⟩;obtain⟨k,h1,h2⟩:=D_.mp h;subst h2;exact getD_some.mp h1
 .intro h;refine⟨q.1,Sy.mpr ?_,D_.mpr ⟨q.2,getD_some.mpr h,rfl⟩⟩;have:=(S7.mp h).1
  lia
theorem zU(mask:Nat)(ow:Array (Option Nat)):(lv mask ow).Pairwise λa b=>a.1<b.1:=by
 unfold lv;rw[List.pairwise_filterMap];refine Vc (R:=λ(x y:Nat)=>x<y) (λ{x y} _ _ Oo a ha b hb=>?_) List.pairwise_lt_range;obtain⟨_,_,rfl⟩:=D_.mp ha;obtain⟨_,_,rfl⟩:=D_.mp hb;exact Oo
theorem Lay.nodup(L:Lay mask done ow):((lv mask ow).map (·.2)).Nodup:=by
 unfold List.Nodup;rw[Tf];refine Vc (λ{a b} ha hb Hi e=>?_) (zU mask ow);have h1:=(gL L.sz).mp ha;have h2:=(gL L.sz).mp hb;rw[e]at h1;have:=L.inj _ _ _ h1 h2
 lia
theorem Lay.perm(L:Lay mask done ow):((lv mask ow).map (·.2)).Perm (List.range done.length):=by
 refine(Ug L.nodup List.nodup_range).mpr λk=>?_;rw[y_,Sy];constructor
 .rintro⟨q,hq,rfl⟩;exact L.bd _ _ ((gL L.sz).mp hq)
 .intro hk;obtain⟨j,hj⟩:=L.on k hk;exact⟨(j,k),(gL L.sz).mpr hj,rfl⟩
theorem Lay.len(L:Lay mask done ow):(lv mask ow).length=done.length:=by
 have:=L.perm.length_eq;simpa using this
theorem oQ(hsz:ow.size=mask+1)(j:Nat):taken ow j↔j∈(lv mask ow).map (·.1):=by
 rw[y_];constructor
 .rintro⟨k,hk⟩;exact⟨(j,k),(gL hsz).mpr hk,rfl⟩
 .rintro⟨q,hq,rfl⟩;exact⟨q.2,(gL hsz).mp hq⟩
theorem Lay.step(hk:∃k,mask+1=2 ^ k)(L:Lay mask done ow)(hr:done.length<=mask)(h:Int) :
  ∃j,SetTable.layClean.free mask ow (SetTable.turns mask) (SetTable.bits h%(mask+1)) (SetTable.bits h)=some j/\Lay mask (done++[h]) (ow.setIfInBounds j (some done.length)):=by
 have hup:((lv mask ow).map (·.1)).Pairwise (· < ·):=Tf.mpr (zU mask ow);obtain⟨n,h1,h2⟩:=pR hk hup (by rw[c_,L.len];exact hr) _ _ (nq mask h) (wD h);rw[<- oQ L.sz]at h2;obtain⟨m,g1,g2,g3,g4⟩:=lK L.sz (SetTable.turns mask) _ (SetTable.bits h) (nq mask h) ⟨n,by unfold SetTable.turns;lia,h2⟩;refine⟨_,g1,?_⟩;generalize hj:(it mask (st mask (SetTable.bits h%(mask+1)) (SetTable.bits h)) m).j=j at *;have hjl:j<ow.size:=by rw[L.sz];lia
 have at_:∀x:Nat,(ow.setIfInBounds j (some done.length))[x]?=if x=j then some (some done.length)else ow[x]?:=λx=>by
  rw[Array.getElem?_setIfInBounds]
  by_cases e:j=x
  .subst e;simp[hjl]
  .rw[k_ e,k_ (Tg e)]
 have keep:∀x,taken ow x->taken (ow.setIfInBounds j (some done.length)) x:=λx aC=>by
  obtain⟨k,hx⟩:=aC;refine⟨k,?_⟩;rw[at_,k_ (λz=>g2 ⟨k,by rw[<- z];exact hx⟩)];exact hx
 refine⟨by rw[Array.size_setIfInBounds];exact L.sz,λx k hx=>?_,λk hk'=>?_,λx y k hx hy=>?_,λx k h' hx hh=>?_⟩
 .rw[at_]at hx;rw[r_,Ul]
  split at hx
  .cases hx;lia
  .have:=L.bd x k hx;lia
 .rw[r_,Ul]at hk'
  by_cases e:k=done.length
  .exact⟨j,by rw[at_,j_ rfl,e]⟩
  .obtain⟨x,hx⟩:=L.on k (by lia);exact⟨x,by rw[at_,k_ (λz=>g2 ⟨k,by rw[<- z];exact hx⟩)];exact hx⟩
 .rw[at_]at hx hy
  split at hx<;>split at hy
  .lia
  .cases hx;have:=L.bd y _ hy;lia
  .cases hy;have:=L.bd x _ hx;lia
  .exact L.inj x y k hx hy
 .rw[at_]at hx
  split at hx
  .rename_i e;cases hx;rw[G_ (h_ _),Nat.sub_self]at hh;cases hh;exact⟨m,by rw[hj,e],λm' hm'=>keep _ (g4 m' hm')⟩
  .have hk':=L.bd x k hx;rw[I_ hk']at hh;obtain⟨m2,a1,a2⟩:=L.ch x k h' hx hh;exact⟨m2,a1,λm' hm'=>keep _ (a2 m' hm')⟩
theorem sy(hk:∃k,mask+1=2 ^ k):∀(rest done:W6)(ow:Array (Option Nat)),Lay mask done ow->done.length+rest.length<=mask->
  ∃Oq,rest.foldl (λacc h=>do
   let (owner,k) <- acc
   let j <- SetTable.layClean.free mask owner (SetTable.turns mask) (SetTable.bits h%(mask+1)) (SetTable.bits h)
   pure (owner.setIfInBounds j (some k),k+1)) (some (ow,done.length))=some (Oq,done.length+rest.length)/\Lay mask (done++rest) Oq
 | [],done,ow,L,_=>⟨ow,rfl,by rw[SC];exact L⟩
 | h::rest,done,ow,L,hl=>by
  rw[A_]at hl;obtain⟨j,h1,L2⟩:=L.step hk (by lia) h;obtain⟨Oq,h3,L3⟩:=sy hk rest (done++[h]) _ L2 (by rw[r_,Ul];lia);refine⟨Oq,?_,by rw[T1]at L3;exact L3⟩;rw[Vg];have e:(do
   let (owner,k) <- some (ow,done.length)
   let j <- SetTable.layClean.free mask owner (SetTable.turns mask) (SetTable.bits h%(mask+1)) (SetTable.bits h)
   pure (owner.setIfInBounds j (some k),k+1):Option _)=some (ow.setIfInBounds j (some done.length),done.length+1):=by
   show(SetTable.layClean.free mask ow (SetTable.turns mask) (SetTable.bits h%(mask+1)) (SetTable.bits h)).bind _=_;rw[h1];rfl
  rw[e];rw[r_,Ul]at h3;rw[h3,A_,T9,Wc 1]
theorem yz(mask:Nat):Lay mask [] (Array.replicate (mask+1) none):=by
 have no:∀(j k:Nat),(Array.replicate (mask+1) (none:Option Nat))[j]?≠some (some k):=λj k h=>by
  rw[Array.getElem?_replicate]at h
  split at h<;>cases h
 exact⟨by simp,λj k h=>absurd h (no j k),λk h=>by simp at h,λj _ k h=>absurd h (no j k),λj k _ h=>absurd h (no j k)⟩
theorem sZ(hk:∃k,mask+1=2 ^ k)(hs:Array Int)(hl:hs.size<=mask):∃ow,SetTable.layClean mask hs=some ow/\Lay mask hs.toList ow:=by
 obtain⟨ow,h1,h2⟩:=sy hk hs.toList [] _ (yz mask) (by simpa using hl);refine⟨ow,?_,h2⟩;unfold SetTable.layClean;rw[<- Array.foldl_toList];have:(List.foldl (λacc h=>do
   let (owner,k) <- acc
   let j <- SetTable.layClean.free mask owner (SetTable.turns mask) (SetTable.bits h%(mask+1)) (SetTable.bits h)
   pure (owner.setIfInBounds j (some k),k+1)) (some (Array.replicate (mask+1) none,0)) hs.toList)=some (ow,0+hs.toList.length):=h1
 rw[this];rfl
theorem Fv{mask:Nat}(hk:∃k,mask+1=2 ^ k)(finger moves:Nat)(led plain:Bool){α:Type}(es:Array (Int×α))(hl:es.size<=mask) :
  ∃t' order es',SetTable.laid mask finger moves led plain (es.map (·.1))=some (t',order)/\order.filterMap (es[·]?)=es'/\es'.size=es.size/\es'.toList.Perm es.toList/\t'.mask=mask/\(t'.led=led/\t'.plain=plain)/\t'.place.size=es.size/\Ok t' (es'.toList.map (·.1)):=by
 obtain⟨ow,h1,L⟩:=sZ hk (es.map (·.1)) (by simpa using hl);have hpm:=L.perm;have hln:=L.len;have Gj:(es.map (·.1)).toList.length=es.size:=by simp
 rw[Gj]at hpm hln;have e0:((lv mask ow).map (·.2)).toArray.filterMap (es[·]?)=(((lv mask ow).map (·.2)).filterMap (es[·]?)).toArray:=by simp
 have hperm:(((lv mask ow).map (·.2)).filterMap (es[·]?)).Perm es.toList:=by
  have:=hpm.filterMap (es[·]?);rwa [filterMap_getElem?_range]at this
 have CK:∀q∈lv mask ow,q.2<es.size:=λq hq=>by
  have:=L.bd _ _ ((gL L.sz).mp hq);rwa [Gj]at this
 have Ki:(((lv mask ow).map (·.2)).filterMap (es[·]?)).map (·.1)=(lv mask ow).map λq=>((es.map (·.1)).toList.getD q.2 0):=by
  have:∀l:List (Nat×Nat),(∀q∈l,q.2<es.size)->((l.map (·.2)).filterMap (es[·]?)).map (·.1)=l.map λq=>((es.map (·.1)).toList.getD q.2 0):=by
   intro l
   induction l with
   | nil=>intro _;rfl
   | cons q l ih=>
    intro hq;have hh:=hq q o_;rw[L_,List.filterMap_cons_some (b:=es[q.2]) (SH hh),L_,ih λx hx=>hq x (l_ _ hx),L_];congr 1;simp[List.getD,hh]
  exact this _ CK
 refine⟨_,_,_,(by unfold SetTable.laid;rw[h1];rfl),rfl,?_,?_,rfl,⟨rfl,rfl⟩,?_,?_⟩
 .show(((lv mask ow).map (·.2)).toArray.filterMap (es[·]?)).size=_;rw[e0,u_,hperm.length_eq];simp
 .show(((lv mask ow).map (·.2)).toArray.filterMap (es[·]?)).toList.Perm _;rw[e0];exact hperm
 .show((lv mask ow).map (·.1)).toArray.size=_;simp[hln]
 .have P3:(((lv mask ow).map (·.2)).toArray.filterMap (es[·]?)).toList.map (·.1)=(lv mask ow).map λq=>((es.map (·.1)).toList.getD q.2 0):=by
   rw[e0];exact Ki
  have pm:∀x,x∈((lv mask ow).map (·.1))↔taken ow x:=λx=>(oQ L.sz x).symm;refine⟨rfl,hk,Tf.mpr (zU mask ow),λx hx=>?_,?_,?_,λq hq=>?_⟩
  .obtain⟨k,hx⟩:=(pm x).mp hx;have:=(S7.mp hx).1;show x<=mask;have:=L.sz
   lia
  .show((lv mask ow).map (·.1)).toArray.size=_;rw[u_,c_];exact(by rw[show(((lv mask ow).map (·.2)).toArray.filterMap (es[·]?)).toList.map (·.1)=(lv mask ow).map λq=>((es.map (·.1)).toList.getD q.2 0)from P3,c_]:(lv mask ow).length=((((lv mask ow).map (·.2)).toArray.filterMap (es[·]?)).toList.map (·.1)).length)
  .show((lv mask ow).map (·.1)).toArray.size<=mask;simp[hln];exact hl
  .have uq:q∈((lv mask ow).map (·.1)).zip ((((lv mask ow).map (·.2)).toArray.filterMap (es[·]?)).toList.map (·.1)):=hq;rw[P3,List.zip_map']at uq;obtain⟨r,hr,rfl⟩:=y_.mp uq;have hr1:=(gL L.sz).mp hr;have hr2:=CK r hr;have hr3:(es.map (·.1)).toList[r.2]?=some ((es.map (·.1)).toList.getD r.2 0):=by
    have:r.2<(es.map (·.1)).toList.length:=by simpa using hr2
    rw[g_,f_ this];rfl
   obtain⟨m,a1,a2⟩:=L.ch r.1 r.2 _ hr1 hr3;exact⟨m,a1,λm' hm'=>(pm _).mpr (a2 m' hm')⟩
structure SK{prog:Program}{w:World}{K:Type}[DecidableEq K](knd:HeapKind prog w K):Prop where
 cls:∀{A:Around}{E:Value->Shared->Prop}{s:Shared}{k:K}{a:Addr}{Q:Bool->Shared->Prop},knd.is s.heap k a->Q false s->wpAny (model prog w) A (ofAClassStatement 8 (.ref a)) Q E s
 hbv:∀{A:Around}{E:Value->Shared->Prop}{s:Shared}{k:K}{a:Addr}{Q:Bool->Shared->Prop},knd.is s.heap k a->(∀b,Q b s)->wpAny (model prog w) A (hashByValue 8 (.ref a)) Q E s
def d6:W5:=[7,31,127,511,2047,8191]
theorem qM(h:m∈d6):7<=m/\m<=8191/\m%2=1:=by
 unfold d6 at h;simp only[t_,SY,U1]at h;rcases h with rfl | rfl | rfl | rfl | rfl | rfl<;>decide
section
variable {prog:Xa}{w:Xe}{K:Type}[DecidableEq K]{knd:HeapKind prog w K}{A:Xb}{E:WR}{s:W_}
def ent(knd:HeapKind prog w K)(x:K×Xh):Int×W9:=(knd.hash x.1,.ref x.2)
structure Tab(knd:HeapKind prog w K)(es:Array (Int×Value))(t:SetTable)(xs:List (K×Addr)):Prop where
 perm:es.toList.Perm (xs.map (ent knd))
 ok:Ok t (es.toList.map (·.1))
 msk:t.mask∈d6
 nf:t.place.size*5<t.mask*3
theorem Tab.size(T:Tab knd es t xs):es.size=xs.length:=by
 have:=T.perm.length_eq;simpa using this
theorem Tab.psize(T:Tab knd es t xs):t.place.size=es.size:=by
 have:=T.ok.len;simpa using this
theorem fits_of(o:Ok t hs)(hn:t.place.size=n):t.fits n=true:=by
 unfold SetTable.fits SetTable.fill;rw[o.dum];have:=o.lt;simp[hn];lia
theorem Tab.fits(T:Tab knd es t xs):t.fits es.size=true:=fits_of T.ok T.psize
theorem Tab.mem{es:Array (Int×W9)}{t:SetTable}{xs:List (K×Xh)}(T:Tab knd es t xs){i:Nat}{e:Int×W9}(h:es[i]?=some e):∃x∈xs,e=ent knd x:=by
 have h1:e∈es.toList:=by have:=Array.mem_of_getElem? h;simpa using this
 obtain⟨x,hx,e2⟩:=y_.mp (T.perm.mem_iff.mp h1);exact⟨x,hx,e2.symm⟩
theorem Fm(S:SK knd){b:Xh}{k:K}(ei:knd.is s.heap k b){stored:WY}(hst:∀v∈stored,∃k' c,v=.ref c/\knd.is s.heap k' c){Q:Bool->W_->Prop}(h:Q false s) :
  wpAny (model prog w) A (searchCouldBeSeen (.ref b) stored) Q E s:=by
 unfold searchCouldBeSeen;refine a_ ?_;refine Tr _ (λrest r s'=>s'=s/\r=(none,())/\∀v∈rest,∃k' c,v=.ref c/\knd.is s.heap k' c) _ ?_ ?_ _ _ ⟨rfl,rfl,hst⟩
 .rintro x rest r s' ⟨rfl,rfl,hr⟩;obtain⟨k',c,rfl,hc⟩:=hr x o_;dsimp only;have rD:∀v∈rest,∃k' c,v=Value.ref c/\knd.is s'.heap k' c:=λv hv=>hr v (l_ _ hv)
  split
  .exact d_ ⟨rfl,rfl,rD⟩
  .refine a_ (knd.quiet ei ?_);simp only[Tu,x_,SS];refine a_ (knd.quiet hc ?_);simp only[Tu,x_,SS];refine a_ (S.cls ei ?_);simp only[x_,SS];refine a_ (S.cls hc ?_);simp only[x_,SS];exact d_ ⟨rfl,rfl,rD⟩
 .rintro r s' ⟨rfl,rfl,_⟩;exact d_ h
theorem sk(h:Q true s):wpAny (model prog w) A (isSame (.ref c) (.ref c)) Q E s:=by
 unfold isSame;dsimp only;rw[j_ (by simp)];exact d_ h
theorem oZ(S:SK knd)(hu:knd.room A){a b:Xh}{k:K}{o:Obj}{es:Array (Int×W9)}{ep:Nat}{t:SetTable}{xs:List (K×Xh)}(ho:s.heap.get? a=some o)(hd:o.data=.set es ep t)(T:Tab knd es t xs)
  (zA:∀x∈xs,knd.is s.heap x.1 x.2) (ei:knd.is s.heap k b) {kE:Bool} {Q:SetFound->W_->Prop}
  (hin:∀c,(k,c)∈xs->∀i,Q (.there (if kE=true then none else some i)) s)
  (hout:(∀c,(k,c)∉xs)->∀m,(it t.mask (t.probeStart (knd.hash k)) m).j∉t.place.toList->(∀m'<m,(it t.mask (t.probeStart (knd.hash k)) m').j∈t.place.toList)->Q (.free (it t.mask (t.probeStart (knd.hash k)) m).j false) s)
  (mf:Nat) (hmf:mf<10*SetTable.turns t.mask) (hfr:(it t.mask (t.probeStart (knd.hash k)) mf).j∉t.place.toList) :
  ∀(fuel m:Nat)(CL:Option SetTable.Probe),CL.getD (t.probeStart (knd.hash k))=it t.mask (t.probeStart (knd.hash k)) m->
   (∀m'<m,(it t.mask (t.probeStart (knd.hash k)) m').j∈t.place.toList/\∀i:Nat,t.place[i]?=some (it t.mask (t.probeStart (knd.hash k)) m').j->∀c,(k,c)∈xs->es[i]?≠some (ent knd (k,c)))->mf-m<fuel->
   wpAny (model prog w) A (setSearchFrom a (.ref b) (knd.hash k) kE fuel CL) Q E s
 | 0,m,CL,_,_,h=>by lia
 | fuel+1,m,CL,hst,K6,hfu=>by
  have hle:m<=mf:=by
   rcases Nat.lt_or_ge mf m with h | h
   .exact absurd (K6 mf h).1 hfr
   .exact h
  have f:=T.fits;unfold setSearchFrom;refine a_ (SN ho hd f ?_);dsimp only;rw[k_ (by unfold SetTable.gaveWay;have:=(qM T.msk).2.2;simp[this])];rw[hst];have hdum:(it t.mask (t.probeStart (knd.hash k)) m).dummy=none:=jD _ _ rfl m;obtain⟨met,m1,g1,g2,g3⟩:=sQ T.ok.dum T.ok.up (λi=>(es[i]?.map (·.1)).getD 0) (knd.hash k) (10*SetTable.turns t.mask) (it t.mask (t.probeStart (knd.hash k)) m) hdum ⟨mf-m,by lia,by rw[<- iI,show m+(mf-m)=mf by lia];exact hfr⟩;generalize hpr:t.probe _ (knd.hash k) (it t.mask (t.probeStart (knd.hash k)) m)=pr;have hpr2:pr=some met:=hpr.symm.trans g1;subst hpr2;dsimp only;simp only[<- iI]at g2 g3;have Gk:∀m'<m+m1,(it t.mask (t.probeStart (knd.hash k)) m').j∈t.place.toList/\∀i:Nat,t.place[i]?=some (it t.mask (t.probeStart (knd.hash k)) m').j->∀c,(k,c)∈xs->es[i]?≠some (ent knd (k,c)):=λm' hm'=>by
   by_cases h:m'<m
   .exact K6 m' h
   .obtain⟨i,e1,e2⟩:=g2 (m'-m) (by lia);rw[show m+(m'-m)=m' by lia]at e1;have e1':t.place.toList[i]?=some (it t.mask (t.probeStart (knd.hash k)) m').j:=by simpa using e1
    refine⟨R_ e1',λi' hi' c hc z=>?_⟩;have e3:=below_at T.ok.up e1;have e4:=below_at T.ok.up hi';rw[e3]at e4;subst e4;rw[z]at e2;exact e2 rfl
  rcases g3 with ⟨rfl,g4⟩ | ⟨i,p1,p2,rfl⟩
  .dsimp only;refine d_ (hout (λc hc=>?_) (m+m1) g4 λm' hm'=>(Gk m' hm').1);have h1:ent knd (k,c)∈es.toList:=T.perm.mem_iff.mpr (SU hc);obtain⟨i,hi⟩:=VE.mp h1;have hil:=(i_.mp hi).1;have eO:i<t.place.toList.length:=by have:=T.psize;simp at hil ⊢;lia
   have hz:(t.place.toList[i],knd.hash k)∈t.place.toList.zip (es.toList.map (·.1)):=by
    refine R_ (i:=i) ?_;rw[Te];exact⟨f_ eO,by rw[m_,hi];rfl⟩
   obtain⟨m0,a1,a2⟩:=T.ok.ch _ hz;simp only at a1 a2;rcases Wt m0 (m+m1)with hlt | heq | hgt
   .refine(Gk m0 hlt).2 i ?_ c hc (by simpa using hi);rw[a1];simpa using f_ eO
   .rw[<- heq,a1]at g4;exact g4 (Ts eO)
   .exact g4 (a2 _ hgt)
  .dsimp only;have hil:i<es.size:=by have:=(S7.mp p1).1;rw[T.psize]at this;exact this
   obtain⟨e,he⟩:∃e,es[i]?=some e:=⟨es[i],SH hil⟩;obtain⟨x,hx,rfl⟩:=T.mem he;have hxk:=zA x hx;have sj:∀m2,it t.mask (it t.mask (t.probeStart (knd.hash k)) m) m2=it t.mask (t.probeStart (knd.hash k)) (m+m2):=λm2=>(iI ..).symm;have cont:wpAny (model prog w) A (do
     let some (_,y):=es[i]? | unsupported "internal:set-entry"
     let equal <- holding [y] (eqBool y (.ref b))
     let (es',_,t') <- setState a
     if kE&&equal then return .there none
     let some same:=t'.sameMemory t.moves t.mask | unsupported "set.changed-during-lookup:is-the-new-block-at-the-old-address"
     let still <- match (if same then t'.slot (it t.mask (t.probeStart (knd.hash k)) (m+m1)).j else .empty)with
      | .live i'=>match es'[i']? with
       | some (_,y')=>do pure (if <- isSame y' y then some i' else none)
       | none=>pure none
      | _=>pure none
     match still with
     | none=>rule "set.search.anew";setSearchFrom a (.ref b) (knd.hash k) kE fuel none
     | some i'=>if equal then return .there (some i')else setSearchFrom a (.ref b) (knd.hash k) kE fuel (some (it t.mask (t.probeStart (knd.hash k)) (m+(m1+1))))) Q E s:=by
    rw[he];dsimp only[ent];refine a_ (Q_ (knd.eqBool hu hxk ei ?_));refine a_ (SN ho hd f ?_);dsimp only
    by_cases hkk:x.1=k
    .rw[w_ hkk];have hin':=hin x.2 (by rw[<- hkk];exact hx);cases hadd:kE with
     | true=>
      simp only[Bool.and_self,Um];have:=hin' 0;rw[hadd]at this;exact d_ this
     | false=>
      simp only[WN,x_,SS];have nU:t.sameMemory t.moves t.mask=some true:=by unfold SetTable.sameMemory;simp
      rw[nU];dsimp only;simp only[Um];rw[kn T.ok.up p1];dsimp only;rw[he];dsimp only[ent];refine a_ (sk (a_ (d_ ?_)));simp only[Um];have:=hin' i;rw[hadd]at this;exact d_ this
    .rw[E_ hkk];simp only[Bool.and_false,x_,SS];have nU:t.sameMemory t.moves t.mask=some true:=by unfold SetTable.sameMemory;simp
     rw[nU];dsimp only;simp only[Um];rw[kn T.ok.up p1];dsimp only;rw[he];dsimp only[ent];refine a_ (sk (a_ (d_ ?_)));simp only[Um];refine oZ S hu ho hd T zA ei hin hout mf hmf hfr fuel (m+(m1+1)) _ rfl (λm' hm'=>?_) (by
      have hne:m+m1≠mf:=λz=>hfr (by
       rw[<- z];have:t.place.toList[i]?=some (it t.mask (t.probeStart (knd.hash k)) (m+m1)).j:=by simpa using p1
       exact R_ this)
      have hle2:m+m1<=mf:=by
       rcases Nat.lt_or_ge mf (m+m1)with h | h
       .exact absurd (Gk mf h).1 hfr
       .exact h
      lia)
     by_cases h:m'<m+m1
     .exact Gk m' h
     .have:m'=m+m1:=by lia
      subst this;have p1':t.place.toList[i]?=some (it t.mask (t.probeStart (knd.hash k)) (m+m1)).j:=by simpa using p1
      refine⟨R_ p1',λi' hi' c hc z=>?_⟩;have e3:=below_at T.ok.up p1;have e4:=below_at T.ok.up hi';rw[e3]at e4;subst e4;rw[he]at z;have z2:x.2=c:=by
       have:=Option.some.inj z;simp only[ent,Uz,Value.ref.injEq]at this;exact this.2
      have hc':=zA _ hc;simp only at hc';rw[<- z2]at hc';exact hkk (knd.inj hxk hc')
   by_cases hled:t.led=true
   .rw[k_ (by simp[hled])]
    first | exact cont | exact a_ (d_ cont)
   .rw[j_ (by simpa using hled)];refine a_ (Fm S ei (λv hv=>?_) ?_)
    .obtain⟨e,ud,rfl⟩:=y_.mp hv;have vQ:e∈es.toList:=by
      have:=(Array.mem_filter.mp (Array.mem_toList_iff.mp ud)).1;exact Array.mem_toList_iff.mpr this
     obtain⟨y,hy,rfl⟩:=y_.mp (T.perm.mem_iff.mp vQ);exact⟨y.1,y.2,rfl,zA y hy⟩
    .simp only[x_,SS]
     first | exact cont | exact a_ (d_ cont)
end
section
variable {prog:Xa}{w:Xe}{K:Type}[DecidableEq K]{knd:HeapKind prog w K}{A:Xb}{E:WR}{s:W_}
def iA(knd:HeapKind prog w K)(a:Xh)(xs:List (K×Xh))(h:Xd):Prop:=
 ∃o es ep t,h.get? a=some o/\o.ExactSet/\o.data=.set es ep t/\Tab knd es t xs/\(xs.map (·.1)).Nodup
theorem iA.typeIs(h:iA knd a xs s.heap):s.TypeIs (.ref a) "set":=let ⟨o,_,_,_,ho,hc,_⟩:=h;⟨o,ho,hc.1⟩
theorem Cg(h:m∈d6):10*SetTable.turns m<100000:=by
 have:=(qM h).2.1;unfold SetTable.turns;lia
theorem mP{h:Xd}{a:Xh}{o:Obj}{es:Array (Int×W9)}{ep:Nat}{t:SetTable}(ho:h.get? a=some o)(hd:o.data=.set es ep t)(es':Array (Int×W9))(t':SetTable) :
  (h.update a (Obj.putSet es' t')).get? a=some {o with data:=.set es' (ep+1) t'}:=by
 have:=SQ (Obj.putSet es' t') ho (by rw[putSet_of es' t' hd];rfl);rw[putSet_of es' t' hd]at this;exact this
theorem ny(h:n<=5000):n<=sizeLine:=by rw[Sz];lia
theorem yb(hm:m∈d6)(h1:n*5<m*3)(h2:m*3<=(n+1)*5)(h3:n+1<=4914):∃m',m'∈d6/\SetTable.sizeAbove (SetTable.grown (n+1))-1=m'/\SetTable.sizeAbove (SetTable.grown (n+1))<=8192/\(n+1)*5<m'*3/\n+1<=m':=by
 have key:∀n0 m',n=n0->m'∈d6/\SetTable.sizeAbove (SetTable.grown (n0+1))-1=m'/\SetTable.sizeAbove (SetTable.grown (n0+1))<=8192/\(n0+1)*5<m'*3/\n0+1<=m'->∃m',m'∈d6/\SetTable.sizeAbove (SetTable.grown (n+1))-1=m'/\SetTable.sizeAbove (SetTable.grown (n+1))<=8192/\(n+1)*5<m'*3/\n+1<=m':=λn0 m' e h=>⟨m',by subst e;exact h⟩;unfold d6 at hm;simp only[t_,SY,U1]at hm;rcases hm with rfl | rfl | rfl | rfl | rfl | rfl
 .exact key 4 31 (by lia) (by decide)
 .exact key 18 127 (by lia) (by decide)
 .exact key 76 511 (by lia) (by decide)
 .exact key 306 2047 (by lia) (by decide)
 .exact key 1228 8191 (by lia) (by decide)
 .lia
theorem AL(h:m∈d6):∃k,m+1=2 ^ k:=by
 unfold d6 at h;simp only[t_,SY,U1]at h;rcases h with rfl | rfl | rfl | rfl | rfl | rfl
 .exact⟨3,rfl⟩
 .exact⟨5,rfl⟩
 .exact⟨7,rfl⟩
 .exact⟨9,rfl⟩
 .exact⟨11,rfl⟩
 .exact⟨13,rfl⟩
def Fl(a:Xh)(L:Bool)(h:Xd):Prop:=∃o es ep t,h.get? a=some o/\o.data=.set es ep t/\t.led=L/\t.plain=true
def KS(prog:Xa)(w:Xe)(b:Xh)(h:Xd):Prop:=∀(A:Xb)(E:WR)(s:W_)(Q:Bool->W_->Prop),s.heap=h->Q true s->wpAny (model prog w) A (hashByValue 8 (.ref b)) Q E s
theorem BY(ho:s.heap.get? a=some o)(hd:o.data=.set es ep t)(hp:es.toList.Perm l)(ok:Ok t (es.toList.map (·.1)))(hn:es.size=n+1)(hm:t.mask∈d6)(h1:n*5<t.mask*3)(h2:t.mask*3<=(n+1)*5)(h3:n+1<=4914)
  (h:∀es' t',es'.toList.Perm l->Ok t' (es'.toList.map (·.1))->t'.mask∈d6->t'.place.size*5<t'.mask*3->(t'.led=t.led/\t'.plain=t.plain)->Q () {s with heap:=s.heap.update a (Obj.putSet es' t')}) :
  wpAny (model prog w) A (setRelay a (SetTable.grown (n+1))) Q E s:=by
 obtain⟨m',k1,k2,k3,k4,k5⟩:=yb hm h1 h2 h3;have hsz:t.place.size=es.size:=by have:=ok.len;simpa using this
 obtain⟨t',order,es',g1,g2,g3,g4,g5,g6,g7,g8⟩:=Fv (AL k1) t.finger (t.movedTo (SetTable.sizeAbove (SetTable.grown (n+1))-1)) t.led t.plain es (by lia);have hr:t.relaid (es.map (·.1)) (SetTable.grown (n+1))=some (t',order):=by
  unfold SetTable.relaid;rw[<- g1,k2]
 unfold setRelay;refine a_ (SN ho hd (fits_of ok hsz) ?_);dsimp only;rw[k_ (by have:=Sz;lia)];refine a_ ?_;show wpAny _ _ (do
  let some (t,order):=t.relaid (es.map (·.1)) (SetTable.grown (n+1)) | unsupported "internal:set-table-without-room"
  let es':=order.filterMap (es[·]?)
  if es'.size != es.size then unsupported "internal:set-table-lost-an-element"
  pure (es',t)) _ _ _
 rw[hr];dsimp only;rw[g2,k_ (by simp[g3])];refine d_ ?_;dsimp only;exact wpAny_storeSet_of ho hd (h es' t' (g4.trans hp) g8 (by rw[g5];exact k1) (by rw[g5,g7,hn];exact k4) g6) (by rw[g3,hn];exact ny (by lia))
theorem E7(S:SK knd)(hu:knd.room A){a b:Xh}{k:K}{xs:List (K×Xh)}(hS:iA knd a xs s.heap)(zA:∀x∈xs,knd.is s.heap x.1 x.2)(ei:knd.is s.heap k b)(hl:xs.length+1<=4914){Q:Bool->W_->Prop}
  (hin:k∈xs.map (·.1)->Q false s) (hout:k∉xs.map (·.1)->∀h',Heap.SameBut a s.heap h'->iA knd a (xs++[(k,b)]) h'->(∀L,KS prog w b s.heap->Fl a L s.heap->Fl a L h')->Q true {s with heap:=h'}) :
  wpAny (model prog w) A (setAddHashed a (.ref b) (knd.hash k)) Q E s:=by
 obtain⟨o,es,ep,t,ho,hex,hd,T,hn⟩:=hS;unfold setAddHashed;refine Q_ ?_;unfold setAddHashedIn;refine a_ (SN ho hd T.fits ?_);dsimp only;rw[k_ (by simp[byScan,Value.scannable])];obtain⟨mf,m1,m2⟩:=T.ok.soon (knd.hash k);have ht:=Cg T.msk;unfold setSearch;refine a_ (oZ S hu ho hd T zA ei (λc hc i=>?_) (λhc m hm1 hm2=>?_) mf m1 m2 100000 0 none rfl (λm' hm'=>by lia) (by lia))
 .simp only[Um];exact d_ (hin (y_.mpr ⟨(k,c),hc,rfl⟩))
 .dsimp only;have hk:k∉xs.map (·.1):=λhm=>by
   obtain⟨x,hx,e⟩:=y_.mp hm;obtain⟨y,c⟩:=x;simp only at e;subst e;exact hc c hx
  refine a_ (SN ho hd T.fits ?_);dsimp only;have hmk:=qM T.msk;have hnf:=T.nf;have hps:=T.psize;have hes:=T.size;generalize hj:(it t.mask (t.probeStart (knd.hash k)) m).j=j at *;have rest:∀pl:Bool,(KS prog w b s.heap->t.plain=true->pl=true)->wpAny (model prog w) A (do
    storeSet a (SetTable.insertAt es (t.put j).2 (knd.hash k,.ref b)) {(t.put j).1 with plain:=pl}
    if({(t.put j).1 with plain:=pl}:SetTable).tooFull then setRelay a (SetTable.grown (es.size+1))
    return true) Q E s:=λpl hfl=>by
   have flt:∀L,Fl a L s.heap->t.led=L/\t.plain=true:=λL ⟨o',es',xR,t',c1,c2,c3,c4⟩=>by
    rw[ho]at c1;cases c1;rw[hd]at c2;cases c2;exact⟨c3,c4⟩
   obtain⟨p,q1,q2,q3⟩:=T.ok.put (knd.hash k) m (by rw[hj];exact hm1) hm2 (by lia) pl;rw[hj]at q1 q3;rw[q1];have i1:=SetTable.toList_insertAt es p (knd.hash k,Value.ref b);have i2:(SetTable.insertAt es p (knd.hash k,Value.ref b)).toList.map (·.1)=(es.toList.map (·.1)).take p++knd.hash k::(es.toList.map (·.1)).drop p:=by
    rw[i1,O_,L_,VQ,List.map_drop]
   have i3:(SetTable.insertAt es p (knd.hash k,Value.ref b)).toList.Perm ((xs++[(k,b)]).map (ent knd)):=by
    have e1:=SetTable.insertAt_perm es p (knd.hash k,Value.ref b);rw[Array.toList_push]at e1;refine e1.trans ?_;rw[O_];exact T.perm.append_right _
   have i4:(SetTable.insertAt es p (knd.hash k,Value.ref b)).size=es.size+1:=by
    rw[<- Sv,i1,qR];simp
   rw[<- i2]at q3;have hnd:((xs++[(k,b)]).map (·.1)).Nodup:=by
    rw[O_];refine U0.mpr ⟨hn,by simp,λx hx y hy=>?_⟩;rw[L_,Vt,s_]at hy;subst hy;rintro rfl;exact hk hx
   have hst:=mP ho hd (SetTable.insertAt es p (knd.hash k,Value.ref b)) {(t.put j).1 with plain:=pl};have hsb:=SJ s.heap a (Obj.putSet (SetTable.insertAt es p (knd.hash k,Value.ref b)) {(t.put j).1 with plain:=pl});have xS:({(t.put j).1 with plain:=pl}:SetTable).mask=t.mask:=rfl;have Nr:({(t.put j).1 with plain:=pl}:SetTable).place.size=es.size+1:=by
    have:=q3.len;rw[c_,Sv,i4]at this;exact this
   refine a_ (wpAny_storeSet_of ho hd ?_ (by rw[i4];exact ny (by lia)))
   by_cases hf:({(t.put j).1 with plain:=pl}:SetTable).tooFull=true
   .rw[j_ hf];have P4:t.mask*3<=(es.size+1)*5:=by
     unfold SetTable.tooFull SetTable.fill at hf;rw[q3.dum]at hf;rw[Nr,xS]at hf;simpa using hf
    refine a_ (BY hst rfl i3 q3 i4 T.msk (by rw[xS];lia) (by rw[xS];exact P4) (by lia) λes' t' r1 r2 r3 r4 r5=>?_);refine d_ (hout hk _ (hsb.trans (SJ _ a _)) ⟨_,es',_,t',mP hst rfl es' t',hex,rfl,⟨r1,r2,r3,r4⟩,hnd⟩ λL y z=>⟨_,es',_,t',mP hst rfl es' t',rfl,?_,?_⟩)
    .rw[r5.1];exact(flt L z).1
    .rw[r5.2];exact hfl y (flt L z).2
   .rw[k_ hf]
    first
     | refine d_ (hout hk _ hsb ?_ λL y z=>⟨_,_,_,_,hst,rfl,(flt L z).1,hfl y (flt L z).2⟩)
     | refine a_ (d_ (d_ (hout hk _ hsb ?_ λL y z=>⟨_,_,_,_,hst,rfl,(flt L z).1,hfl y (flt L z).2⟩)))
    refine⟨_,_,_,_,hst,hex,rfl,⟨i3,q3,T.msk,?_⟩,hnd⟩;unfold SetTable.tooFull SetTable.fill at hf;rw[q3.dum]at hf;rw[Nr,xS]at hf ⊢;simpa using hf
  have Rc:({(t.put j).1 with plain:=t.plain}:SetTable)=(t.put j).1:=rfl
  by_cases eO:t.plain=true
  .rw[j_ (show(t.put j).1.plain=true from eO)];have one:=rest t.plain λ_ h=>h;rw[Rc]at one
   by_cases hB:KS prog w b s.heap
   .exact a_ (hB _ _ _ _ rfl (by simpa using one))
   .refine a_ (S.hbv ei λbv=>?_);cases bv with
    | true=>simpa using one
    | false=>simpa using rest false λz=>absurd z hB
  .rw[k_ (show ¬(t.put j).1.plain=true from eO)];refine a_ (d_ ?_);have:=rest t.plain λ_ h=>h;rw[Rc]at this;simpa using this
end
end St
abbrev PySem.Shared.sz(s:PySem.Shared):Nat:=s.heap.objs.size
namespace L2
open PySem PySem.Spec PyProof.Rows
abbrev Key:=Sum Int Str
abbrev Xl:=List Key
abbrev Xk:=List Xl
def ip:Key->W9->Bool
 | .inl k,v=>Value.isInt k v
 | .inr x,v=>Value.isStrOf x v
def Ih(w:Xe):Key->Int
 | .inl k=>hashInt k
 | .inr x=>hashStr w x
theorem aW:∀{k:Key}{v:W9},ip k v=true->(∃i t,k=Sum.inl i/\v=Value.int i t)\/(∃x t,k=Sum.inr x/\v=Value.str x t)
 | .inl i,v,h=>by
  obtain⟨t,e⟩:=Value.isInt_shape (k:=i) (v:=v) h;exact .inl ⟨i,t,rfl,e⟩
 | .inr x,v,h=>by
  obtain⟨t,e⟩:=Value.isStrOf_shape (x:=x) (v:=v) h;exact .inr ⟨x,t,rfl,e⟩
theorem yc(i:Int)(t:Tok):ip (.inl i) (.int i t)=true:=by simp[ip,Value.isInt]
theorem yB(x:Str)(t:Tok):ip (.inr x) (.str x t)=true:=by simp[ip,Value.isStrOf]
theorem Ij(a b:Int):decide ((Sum.inl a:Key)=Sum.inl b)=(a==b):=by
 by_cases e:a=b
 .subst e;simp
 .have h:¬(Sum.inl a:Key)=Sum.inl b:=λq=>e (Sum.inl.inj q);rw[E_ h];exact(V9.mpr e).symm
theorem Jj(a b:Str):decide ((Sum.inr a:Key)=Sum.inr b)=decide (a=b):=by
 by_cases e:a=b
 .subst e;simp
 .have h:¬(Sum.inr a:Key)=Sum.inr b:=λq=>e (Sum.inr.inj q);rw[E_ h,E_ e]
theorem Ie(a:Int)(b:Str):decide ((Sum.inl a:Key)=Sum.inr b)=false:=E_ (λq=>nomatch q)
theorem IP(a:Str)(b:Int):decide ((Sum.inr a:Key)=Sum.inl b)=false:=E_ (λq=>nomatch q)
def aA(prog:Xa)(w:Xe):PySem.KeyKind prog w Key where
 is:=ip
 hash:=Ih w
 inj:=λv a b ha hb=>by
  rcases aW ha with ⟨i,t,rfl,rfl⟩ | ⟨x,t,rfl,rfl⟩
  .rcases aW hb with ⟨j,u,rfl,e⟩ | ⟨y,u,rfl,e⟩
   .injection e with e1 _;rw[e1]
   .exact nomatch e
  .rcases aW hb with ⟨j,u,rfl,e⟩ | ⟨y,u,rfl,e⟩
   .exact nomatch e
   .injection e with e1 _;rw[e1]
 byValue:=λk v h=>by
  rcases aW h with ⟨i,t,rfl,rfl⟩ | ⟨x,t,rfl,rfl⟩<;>rfl
 pyHash:=λhv h=>by
  rcases aW hv with ⟨i,t,rfl,rfl⟩ | ⟨x,t,rfl,rfl⟩
  .exact wpAny_pyHash_int h
  .exact wpAny_pyHash_str h
 eqBool:=λhu hv h=>by
  rcases aW hu with ⟨i,t,rfl,rfl⟩ | ⟨x,t,rfl,rfl⟩
  .rcases aW hv with ⟨j,u,rfl,rfl⟩ | ⟨y,u,rfl,rfl⟩
   .rw[Ij]at h;exact wpAny_eqBool_int h
   .rw[Ie]at h;exact SeqAt.EqAt.int_str i t y u _ _ _ _ h
  .rcases aW hv with ⟨j,u,rfl,rfl⟩ | ⟨y,u,rfl,rfl⟩
   .rw[IP]at h;exact SeqAt.EqAt.str_int x t j u _ _ _ _ h
   .rw[Jj]at h;exact wpAny_eqBool_str h
 «strs»:=λk x t v h=>by
  rcases aW h with ⟨i,u,rfl,e⟩ | ⟨y,u,rfl,e⟩
  .exact nomatch e
  .injection e with e1 _
   subst e1;cases v<;>rfl
theorem tu(prog:Xa)(w:Xe)(i:Int)(t:Tok):(aA prog w).is (.inl i) (.int i t)=true:=yc i t
theorem sT(prog:Xa)(w:Xe)(x:Str)(t:Tok):(aA prog w).is (.inr x) (.str x t)=true:=yB x t
inductive V where
 | non | bl (b:Bool) | int (i:Int) | str (x:Str) | byt (b:Array UInt8) | flt (b:UInt64) | ref (a:Addr) | ty (n:String)
 deriving DecidableEq
abbrev Xq:=List V
def RelV:V->W9->Prop
 | .non,u=>u=Value.none
 | .bl b,u=>u=Value.bool b
 | .int i,u=>∃t,u=Value.int i t
 | .str x,u=>∃t,u=Value.str x t
 | .byt b,u=>∃t,u=Value.bytes b t
 | .flt b,u=>∃t,u=Value.float b t
 | .ref a,u=>u=Value.ref a
 | .ty n,u=>u=Value.type n
abbrev av:Xq->WY->Prop:=Paired RelV
theorem av.length{xs:Xq}{us:WY}(r:av xs us):xs.length=us.length:=Paired.length r
theorem av.get:∀{xs:Xq}{us:WY}{i:Nat}{x:V},av xs us->xs[i]?=some x->∃u,us[i]?=some u/\RelV x u
 | _,_,_,_,.nil,e=>by simp at e
 | _,_,0,_,.cons r _,e=>by simp at e;subst e;exact⟨_,rfl,r⟩
 | _,_,i+1,x,.cons _ t,e=>by
  obtain⟨u,h1,h2⟩:=av.get (i:=i) (x:=x) t (by simpa using e);exact⟨u,by simpa using h1,h2⟩
theorem av.set{x:V}{u:W9}(r:RelV x u):∀{xs:Xq}{us:WY}(i:Nat),av xs us->av (xs.set i x) (us.set i u)
 | _,_,_,.nil=>.nil
 | _,_,0,.cons _ t=>.cons r t
 | _,_,i+1,.cons q t=>.cons q (av.set r i t)
theorem av.append:∀{xs ys:Xq}{us ws:WY},av xs us->av ys ws->av (xs++ys) (us++ws)
 | _,_,_,_,.nil,s=>s
 | _,_,_,_,.cons r t,s=>.cons r (av.append t s)
theorem av.take:∀{xs:Xq}{us:WY}(n:Nat),av xs us->av (xs.take n) (us.take n)
 | _,_,0,_=>.nil
 | _,_,_+1,.nil=>.nil
 | _,_,n+1,.cons r t=>.cons r (av.take n t)
theorem av.drop:∀{xs:Xq}{us:WY}(n:Nat),av xs us->av (xs.drop n) (us.drop n)
 | _,_,0,r=>r
 | _,_,_+1,.nil=>.nil
 | _,_,n+1,.cons _ t=>av.drop n t
def LY:Option V->WZ->Prop
 | some v,some u=>RelV v u
 | none,none=>True
 | _,_=>False
def KV{κ:Type}:List (κ×V)->List (κ×W9)->Prop:=Paired λ(p:κ×V) (q:κ×W9)=>p.1=q.1/\RelV p.2 q.2
def kV:Key->V
 | .inl i=>.int i
 | .inr x=>.str x
inductive HO where
  | lst (xs:List V)
  | tup (xs:List V)
  | dK (kvs:List (Key×V)) | dT (kvs:List (List Key×V))
  | set (S:Int->Bool) (n:Nat)
  | ins (C dx:Addr) (fs:List (Str×V))
  | own (x:Addr)
  | xd (fs:List (Str×V))
  | met (f x:Addr)
  | rng (lo hi:Int)
  | frz (o:Obj) (u:HO)
 | tab (q:Str) | cod (q:Str)
  | ext (φ:Heap->Prop)
abbrev Hp:=Xh->Option HO
def upd(H:Hp)(a:Xh)(o:HO):Hp:=λb=>if b=a then some o else H b
theorem ai{H:Hp}{a:Xh}{o:HO}:upd H a o a=some o:=by unfold upd;rw[j_ rfl]
theorem ar{H:Hp}{a b:Xh}{o:HO}(h:b≠a):upd H a o b=H b:=by unfold upd;rw[k_ h]
theorem aS{H:Hp}{a b:Xh}{o:HO}(h:H a=some o)(h':H b=none):a≠b:=by
 intro e;subst e;rw[h]at h';cases h'
section
variable (P:Xa)(w:Xe)
def aV(H:Hp)(h:Xd)(a:Xh):HO->Prop
 | .lst xs=>xs.length<=sizeLine/\∃(aQ:WY)(n:Nat),av xs aQ/\h.get? a=some {cls:=.type "list",data:=.seq aQ.toArray n}
 | .tup xs=>xs.length<=sizeLine/\∃aQ:WY,av xs aQ/\IsTup h a aQ.toArray
 | .dK kvs=>kvs.length<=sizeLine/\(a==sysModules)=false/\∃vs,KV kvs vs/\h.DictOf (aA P w) a vs
 | .dT kvs=>kvs.length<=sizeLine/\(a==sysModules)=false/\∃xs:List (Xl×Xh×W9),
   Paired (λ(p:Xl×V) (q:Xl×Xh×W9)=>p.1=q.1/\H q.2.1=some (.tup (p.1.map kV))/\RelV p.2 q.2.2) kvs xs/\
   ∃o es ep,h.get? a=some o/\o.ExactDict/\o.data=.dict es ep/\es.toList=xs.map (entryOfKey (tupleKind (aA P w)))/\(xs.map (·.1)).Nodup
 | .set S n=>h.SetOf (intKind P w) a S n
 | .ins C dx fs=>H dx=some (.own a)/\fs.length<=1000/\dx≠a/\h.get? a=some (PySem.W.instObj C dx)/\
   ∃mA,h.Ns1 dx mA/\(∀f,LY (fs.lookup f) (mA f))/\PySem.Within mA (fs.map (·.1))
 | .own _=>∃o,h.get? a=some o
 | .xd fs=>∃mA,h.Ns1 a mA/\∀f,LY (fs.lookup f) (mA f)
 | .rng lo hi=>∃t u v,h.get? a=some {cls:=.type "range",data:=.fields #[.int lo t,.int hi u,.int 1 v]}
 | .frz o u=>h.get? a=some o/\aV H h a u
 | .tab q=>∃ps:Array W9,h.get? a=some {cls:=.none,data:=.fields ps}/\PySem.TriplesOk ps.toList/\∀pos v,PySem.codeAmong pos ps.toList=some v->∃c,v=.ref c/\H c=some (.cod q)
 | .cod q=>∃o vs t,h.get? a=some o/\o.data=.fields vs/\vs[1]?=some (.str q t)
 | .met f x=>h.get? a=some (PySem.W.methodObj (.ref f) (.ref x))
 | .ext φ=>φ h/\(∃o,h.get? a=some o)/\∀h1 h2:Xd,φ h1->(∀o,h1.get? a=some o->h2.get? a=some o)->φ h2
def lb(H:Hp)(h:Xd):Prop:=∀a o,H a=some o->aV P w H h a o
end
section
variable {P:Xa}{w:Xe}{H H':Hp}{h h':Xd}{a:Xh}{o:HO}
theorem aV.lt(x:aV P w H h a o):a<h.objs.size:=by
 cases o with
 | lst xs=>obtain⟨_,_,_,_,e⟩:=x;exact q_ e
 | tup xs=>obtain⟨_,_,_,p⟩:=x;exact p.lt
 | dK kvs=>obtain⟨_,_,_,_,o,_,_,e,_⟩:=x;exact q_ e
 | dT kvs=>obtain⟨_,_,_,_,o,_,_,e,_⟩:=x;exact q_ e
 | set S n=>obtain⟨o,_,_,_,e,_⟩:=x;exact q_ e
 | ins C dx fs=>obtain⟨_,_,_,e,_⟩:=x;exact q_ e
 | own y=>obtain⟨_,e⟩:=x;exact q_ e
 | xd fs=>obtain⟨_,⟨_,_,_,e,_⟩,_⟩:=x;exact q_ e
 | rng lo hi=>obtain⟨_,_,_,e⟩:=x;exact q_ e
 | frz ob u=>obtain⟨e,_⟩:=x;exact q_ e
 | tab q=>obtain⟨_,e,_⟩:=x;exact q_ e
 | cod q=>obtain⟨_,_,_,e,_⟩:=x;exact q_ e
 | met f y=>exact q_ (show h.get? a=some _ from x)
 | ext φ=>obtain⟨_,⟨_,e⟩,_⟩:=x;exact q_ e
theorem Paired.mapP{α β:Type}{F G:α->β->Prop}:∀{l₁:List α}{l₂:List β},Paired F l₁ l₂->(∀a b,F a b->G a b)->Paired G l₁ l₂
 | _,_,.nil,_=>.nil
 | _,_,.cons r t,f=>.cons (f _ _ r) (Paired.mapP t f)
theorem aV.stay(x:aV P w H h a o)(k:∀b u,(b=a\/H b=some (.own a))->h.get? b=some u->h'.get? b=some u)
  (ho:∀b,H b=some (.own a)->H' b=some (.own a)) (ht:∀b xs,H b=some (.tup xs)->H' b=some (.tup xs)) (hc:∀b q,H b=some (.cod q)->H' b=some (.cod q)):aV P w H' h' a o:=by
 induction o with
 | lst xs=>obtain⟨z,aQ,n,r,e⟩:=x;exact⟨z,aQ,n,r,k _ _ (.inl rfl) e⟩
 | tup xs=>obtain⟨z,aQ,r,ob,e,c⟩:=x;exact⟨z,aQ,r,ob,k _ _ (.inl rfl) e,c⟩
 | dK kvs=>obtain⟨z,y,vs,r,ob,es,ep,e,c⟩:=x;exact⟨z,y,vs,r,ob,es,ep,k _ _ (.inl rfl) e,c⟩
 | dT kvs=>
  obtain⟨z,y,xs,r,ob,es,ep,e,c⟩:=x;exact⟨z,y,xs,Paired.mapP r λp q z=>⟨z.1,ht _ _ z.2.1,z.2.2⟩,ob,es,ep,k _ _ (.inl rfl) e,c⟩
 | set S n=>obtain⟨ob,es,ep,t,e,c⟩:=x;exact⟨ob,es,ep,t,k _ _ (.inl rfl) e,c⟩
 | ins C dx fs=>
  obtain⟨d,z,ne,e,mA,⟨od,es,ep,e2,c⟩,r⟩:=x;exact⟨ho _ d,z,ne,k _ _ (.inl rfl) e,mA,⟨od,es,ep,k _ _ (.inr d) e2,c⟩,r⟩
 | own y=>obtain⟨ob,e⟩:=x;exact⟨ob,k _ _ (.inl rfl) e⟩
 | xd fs=>obtain⟨mA,⟨od,es,ep,e,c⟩,r⟩:=x;exact⟨mA,⟨od,es,ep,k _ _ (.inl rfl) e,c⟩,r⟩
 | rng lo hi=>obtain⟨t,u,v,e⟩:=x;exact⟨t,u,v,k _ _ (.inl rfl) e⟩
 | frz ob u ih=>obtain⟨e,q⟩:=x;exact⟨k _ _ (.inl rfl) e,ih q⟩
 | tab q=>obtain⟨ps,e,t,c⟩:=x;exact⟨ps,k _ _ (.inl rfl) e,t,λpos v z=>let ⟨b,z1,z2⟩:=c pos v z;⟨b,z1,hc b q z2⟩⟩
 | cod q=>obtain⟨ob,vs,t,e,d⟩:=x;exact⟨ob,vs,t,k _ _ (.inl rfl) e,d⟩
 | met f y=>
  have e:h.get? a=some (PySem.W.methodObj (.ref f) (.ref y)):=x;show h'.get? a=some (PySem.W.methodObj (.ref f) (.ref y));exact k a _ (.inl rfl) e
 | ext φ=>obtain⟨p,⟨o,e⟩,st⟩:=x;exact⟨st _ _ p λo q=>k _ _ (.inl rfl) q,⟨o,k _ _ (.inl rfl) e⟩,st⟩
theorem lb.lt(x:lb P w H h)(e:H a=some o):a<h.objs.size:=(x a o e).lt
theorem lb.fresh(x:lb P w H h)(e:h.objs.size<=a):H a=none:=by
 cases q:H a with
 | none=>rfl
 | some u=>exact absurd (N_ (x.lt q) e) (Ua _)
theorem lb.kept(x:lb P w H h)(k:∀b u,h.get? b=some u->h'.get? b=some u):lb P w H h':=λa o e=>
 (x a o e).stay (λb u _ q=>k b u q) (λ_ q=>q) (λ_ _ q=>q) λ_ _ q=>q
theorem lb.laid(x:lb P w H h)(k:∀b u,h.get? b=some u->h'.get? b=some u)(hp:h.objs.size<=a)(new:aV P w (upd H a o) h' a o):lb P w (upd H a o) h':=λb u e=>by
 have hn:=x.fresh hp
 by_cases hb:b=a
 .subst hb;rw[ai]at e;cases e;exact new
 .rw[ar hb]at e;exact(x b u e).stay (λc v _ q=>k c v q) (λc q=>by rw[ar (aS q hn)];exact q) (λc xs q=>by rw[ar (aS q hn)];exact q) λc xs q=>by rw[ar (aS q hn)];exact q
end
def Rd(H:Hp)(a:Xh)(u:HO):Prop:=H a=some u\/∃o,H a=some (.frz o u)
theorem Rd.ok{P:Xa}{w:Xe}{H:Hp}{h:Xd}{a:Xh}{u:HO}(r:Rd H a u)(x:lb P w H h):aV P w H h a u:=by
 rcases r with r | ⟨o,r⟩
 .exact x a u r
 .obtain⟨_,q⟩:=x a _ r;exact q
def N9:Option HO->Prop
 | some (.lst _)=>True
 | some (.dK _)=>True
 | some (.dT _)=>True
 | some (.set _ _)=>True
 | some (.ins _ _ _)=>True
 | some (.ext _)=>True
 | _=>False
section
variable {P:Xa}{w:Xe}{H:Hp}{h h':Xd}{x e:Xh}{o':HO}
theorem lb.write(ok:lb P w H h)(mu:N9 (H x))(he:e=x\/H e=some (.own x))(k:∀b u,b≠e->h.get? b=some u->h'.get? b=some u)(K7:∃u,h'.get? e=some u)
  (new:aV P w (upd H x o') h' x o'):lb P w (upd H x o') h':=λb u q=>by
 have Nt:∀c y,H c=some (.own y)->c≠x:=λc y r z=>by subst z;rw[r]at mu;exact mu
 have ntup:∀c xs,H c=some (.tup xs)->c≠x:=λc xs r z=>by subst z;rw[r]at mu;exact mu
 have ncod:∀c q,H c=some (.cod q)->c≠x:=λc q r z=>by subst z;rw[r]at mu;exact mu
 by_cases hb:b=x
 .subst hb;rw[ai]at q;cases q;exact new
 .rw[ar hb]at q
  by_cases Dp:b=e
  .have q':H b=some (.own x):=by
    rcases he with z | z
    .exact absurd (Dp.trans z) hb
    .rw[Dp];exact z
   rw[q]at q';cases q';obtain⟨v,hv⟩:=K7;exact⟨v,by rw[Dp];exact hv⟩
  .refine(ok b u q).stay (λc v hc r=>k c v ?_ r) (λc r=>by rw[ar (Nt c b r)];exact r) (λc xs r=>by rw[ar (ntup c xs r)];exact r) λc xs r=>by rw[ar (ncod c xs r)];exact r
   rcases hc with rfl | hc
   .exact Dp
   .rintro rfl;rcases he with z | z
    .exact Nt c b hc z
    .rw[hc]at z;cases z;exact hb rfl
end
structure Un(fs ex:List Addr)(H H':Hp)(h h':Heap):Prop where
 keep:∀b o,h.get? b=some o->H b=none->b∉fs->b∉ex->h'.get? b=some o
 slot:∀b o,h.get? b=some o->H b=none->b∈fs->b∉ex->∃sl,h'.get? b=some {o with slots:=sl}
 free:∀b o,h.get? b=some o->H b=none->b∉ex->H' b=none
 there:∀b o,h.get? b=some o->b∉ex->∃o',h'.get? b=some o'
 tups:∀b xs,H b=some (.tup xs)->H' b=some (.tup xs)
 frzs:∀b o u,H b=some (.frz o u)->H' b=some (.frz o u)
 tbls:∀b q,H b=some (.tab q)->H' b=some (.tab q)
section
variable {fs Nu ex ex':W2}{H H1 H2:Hp}{h h1 h2 h':Xd}{a x e:Xh}{o:HO}
theorem Un.any(u:Un fs ex H H1 h h1){b:Xh}{ob:Obj}(q:h.get? b=some ob)(n:H b=none)(hx:b∉ex):∃sl,h1.get? b=some {ob with slots:=sl}:=by
 by_cases hb:b∈fs
 .exact u.slot b ob q n hb hx
 .exact⟨ob.slots,u.keep b ob q n hb hx⟩
theorem Un.trans(a:Un fs ex H H1 h h1)(b:Un fs ex H1 H2 h1 h2):Un fs ex H H2 h h2 where
 keep:=λc ob q n hc hx=>b.keep c ob (a.keep c ob q n hc hx) (a.free c ob q n hx) hc hx
 slot:=λc ob q n hc hx=>by
  obtain⟨sl,e1⟩:=a.slot c ob q n hc hx;obtain⟨Nv,e2⟩:=b.slot c _ e1 (a.free c ob q n hx) hc hx;exact⟨Nv,e2⟩
 free:=λc ob q n hx=>by
  obtain⟨o',e1⟩:=a.there c ob q hx;exact b.free c o' e1 (a.free c ob q n hx) hx
 there:=λc ob q hx=>by
  obtain⟨o',e1⟩:=a.there c ob q hx;exact b.there c o' e1 hx
 tups:=λc xs q=>b.tups c xs (a.tups c xs q)
 frzs:=λc ob xs q=>b.frzs c ob xs (a.frzs c ob xs q)
 tbls:=λc ps q=>b.tbls c ps (a.tbls c ps q)
theorem Un.kept(k:∀b u,h.get? b=some u->h'.get? b=some u):Un fs ex H H h h':=
 ⟨λb ob q _ _ _=>k b ob q,λb ob q _ _ _=>⟨ob.slots,k b ob q⟩,λ_ _ _ n _=>n,λb ob q _=>⟨ob,k b ob q⟩,λ_ _ q=>q,λ_ _ _ q=>q,λ_ _ q=>q⟩
theorem Un.refl:Un fs ex H H h h:=Un.kept λ_ _ q=>q
theorem Un.laid(k:∀b u,h.get? b=some u->h'.get? b=some u)(hp:h.objs.size<=a)(hn:H a=none):Un fs ex H (upd H a o) h h' where
 keep:=λb u q _ _ _=>k b u q
 slot:=λb u q _ _ _=>⟨u.slots,k b u q⟩
 free:=λb u q n _=>by rw[ar (z_ (N_ (q_ q) hp))];exact n
 there:=λb u q _=>⟨u,k b u q⟩
 tups:=λb xs q=>by rw[ar (aS q hn)];exact q
 frzs:=λb u xs q=>by rw[ar (aS q hn)];exact q
 tbls:=λb ps q=>by rw[ar (aS q hn)];exact q
theorem Un.write(mu:N9 (H x))(he:e=x\/H e=some (.own x))(k:∀b u,b≠e->h.get? b=some u->h'.get? b=some u)(K7:∃u,h'.get? e=some u):Un fs ex H (upd H x o) h h':=by
 have hx:∀b,H b=none->b≠x:=λb n z=>by subst z;rw[n]at mu;exact mu
 have hb:∀b,H b=none->b≠e:=λb n z=>by
  subst z;rcases he with r | r
  .exact hx b n r
  .rw[n]at r;cases r
 have hm:∀b u,H b=some u->¬N9 (some u)->b≠x:=λb u q nm z=>by subst z;rw[q]at mu;exact nm mu
 refine⟨λb u q n _ _=>k b u (hb b n) q,λb u q n _ _=>⟨u.slots,k b u (hb b n) q⟩,λb u q n _=>by rw[ar (hx b n)];exact n,λb u q _=>?_,
  λb xs q=>by rw[ar (hm b _ q λz=>z)];exact q,λb u xs q=>by rw[ar (hm b _ q λz=>z)];exact q,λb ps q=>by rw[ar (hm b _ q λz=>z)];exact q⟩
 by_cases Dp:b=e
 .subst Dp;exact K7
 .exact⟨u,k b u Dp q⟩
end
def On(h:Xd)(H:Hp):W2:=(List.range h.objs.size).filter λa=>(H a).isSome
def qU(h:Xd)(H:Hp):Xd:=PySem.W.hideAll h (On h H)
theorem yC(h:Xd)(H:Hp):(qU h H).objs.size=h.objs.size:=PySem.W.hideAll_size _ _
theorem Cr{h:Xd}{H:Hp}{b:Xh}{o:Obj}(e:h.get? b=some o)(n:H b=none):(qU h H).get? b=some o:=
 PySem.W.hideAll_get _ e λhm=>by
  have q:(H b).isSome=true:=(SE.mp hm).2;rw[n]at q;simp at q
theorem Gg{h:Xd}{H:Hp}{b:Xh}{o:Obj}(e:(qU h H).get? b=some o):h.get? b=some o/\H b=none:=by
 have e':h.get? b=some o:=PySem.W.of_hideAll (On h H) e;refine⟨e',?_⟩;cases q:H b with
 | none=>rfl
 | some x=>
  have hm:b∈On h H:=SE.mpr ⟨Sy.mpr (q_ e'),by simp[q]⟩;have z:(qU h H).get? b=none:=PySem.W.hideAll_none (On h H) hm;rw[z]at e;cases e
def Ei(g h:Xd)(L:Xh):WS:=(List.range h.objs.size).filterMap λa=>if a=L\/(g.get? a).isSome=true then none else(h.get? a).map λo=>(a,o)
def rest(g h:Xd)(L d:Xh):WS:=(Ei g h L).filter λp=>decide (p.1≠d)
def Jk:W1:=["best_in","best_shown"]
def tq(K:W8)(P:Xh):Option Str:=Jk.findSome? λx=>(PySem.W.tabIn K x).bind λp=>if p.2=P then some (x++".<locals>."++"<lambda>")else none
structure Mod(K:PySem.W.Frag)(mg:Str->Option Value)(base:Heap):Prop where
 kin:K.In base
 glob:base.Ns mainGlobals mg
 blt:∃mb,base.Ns builtinsNs mb/\∀x:Str,x≠"__name__"->mb x=bootBuiltins x
 nolimit:base.NoLimit
 bmod:∃bm o,mg "__builtins__"=some (.ref bm)/\bm≠builtinsNs/\bm≠mainGlobals/\base.get? bm=some o/\o.cls=.type "module"/\o.dict=some builtinsNs/\o.data=.plain
structure Cx where
 prog:Program
 w:World
 K:PySem.W.Frag
 mg:Str->Option Value
 base:Heap
 A:Around
 N:List Str
 s₀:Shared
 H₀:Hp
 env:Env
 outer:List Env
 stack:List Env
 ex:List Addr
 fn:Str->Bool
 calm:Bool
 pn:List (Addr×Obj)
 xe:Value->Shared->Prop
def k7(l:List Env):W2:=l.filterMap (·.frame)
abbrev Cx.fs(X:Cx):W2:=k7 X.outer
def xy(sc:Xg)(x:Str):Prop:=sc.names.lookup x=some .local\/sc.names.lookup x=some .cell\/sc.names.lookup x=some .free
def Loc(sc:Xg)(x:Str):Prop:=sc.names.lookup x=some .local\/sc.names.lookup x=some .cell
def Look(env:Env)(h:Xd)(m:WU)(x:Str)(u:W9):Prop:=
 (env.kindOf x=some .local/\m x=some u)\/((env.kindOf x=some .cell\/env.kindOf x=some .free)/\∃c,env.cells.lookup x=some c/\h.IsCell c (some u))
structure Cx.Ok(X:Cx):Prop where
 mod:Mod X.K X.mg X.base
 kind:X.env.scope.kind=.function
 glob:X.env.globals=mainGlobals
 blt:X.env.builtins=builtinsNs
 above:X.s₀.heap.objs.size<=X.env.locals
 inj:∀x y c,X.env.cells.lookup x=some c->X.env.cells.lookup y=some c->x=y
 has:∀x,(X.env.kindOf x=some .cell\/X.env.kindOf x=some .free)->∃c,X.env.cells.lookup x=some c
 cab:∀x c,X.fn x=true->X.env.cells.lookup x=some c->X.s₀.heap.objs.size<=c
 hd:X.calm=true->X.A.handled=none
 frames:X.A.frames=some X.stack
 stk:X.stack=X.outer\/(X.stack=X.env::X.outer/\X.env.frame=some X.env.locals)
 exf:∀b∈X.ex,b≠X.env.locals/\∀x c,X.env.cells.lookup x=some c->c≠b
 bs:∀b o,X.base.get? b=some o->X.s₀.heap.get? b=some o/\X.H₀ b=none
 bsz:X.base.objs.size<=X.s₀.heap.objs.size
 noex:∀b o,X.base.get? b=some o->b∉X.ex
 exfs:∀b∈X.ex,b∉X.fs
 funs:X.s₀.heap.FunFrames X.base X.outer
 frf:∀b∈X.fs,X.H₀ b=none
 tb:∀P q,tq X.K P=some q->X.H₀ P=some (.tab q)
structure Inv(X:Cx)(pins:List (Addr×Obj))(σ:List (Option V))(H:Hp)(s:Shared):Prop where
 ok:X.Ok
 os:s.os=X.s₀.os
 bare:AllBare s.gens
 base:Un X.fs X.ex X.H₀ H X.s₀.heap s.heap
 loc:∃m,s.heap.Ns X.env.locals m/\∀(i:Nat)(x:Str)(v:V),X.N[i]?=some x->σ[i]?=some (some v)->xy X.env.scope x->∃u,RelV v u/\Look X.env s.heap m x u
 cell:∀x c,X.env.cells.lookup x=some c->∃v,s.heap.IsCell c v
 free:H X.env.locals=none
 freeC:∀x c,X.env.cells.lookup x=some c->H c=none
 pin:∀p∈X.pn++pins,s.heap.get? p.1=some p.2/\H p.1=none/\p.1≠X.env.locals/\p.1∉X.fs/\∀v,p.2.data≠.cell v
 hok:lb X.prog X.w H s.heap
 len:σ.length=X.N.length
section
variable {X:Cx}{pins:WS}{σ:List (Option V)}{H H':Hp}{s:W_}{h':Xd}
theorem Cx.Ok.nofr(ok:X.Ok){b:Xh}{o:Obj}(e:X.base.get? b=some o):b∉X.fs:=λhb=>by
 have:=(ok.funs.mem hb).1;rw[e]at this;cases this
theorem Inv.bs(I:Inv X pins σ H s):∀b o,X.base.get? b=some o->s.heap.get? b=some o/\H b=none:=λb o e=>
 ⟨I.base.keep b o (I.ok.bs b o e).1 (I.ok.bs b o e).2 (I.ok.nofr e) (I.ok.noex b o e),I.base.free b o (I.ok.bs b o e).1 (I.ok.bs b o e).2 (I.ok.noex b o e)⟩
theorem Inv.bk(I:Inv X pins σ H s):∀b o,X.base.get? b=some o->s.heap.get? b=some o:=λb o e=>(I.bs b o e).1
theorem Inv.tb(I:Inv X pins σ H s):∀P q,tq X.K P=some q->H P=some (.tab q):=λP q e=>I.base.tbls P q (I.ok.tb P q e)
theorem Inv.mod(I:Inv X pins σ H s):Mod X.K X.mg X.base:=I.ok.mod
theorem Inv.kIn(I:Inv X pins σ H s):X.K.In s.heap:=I.ok.mod.kin.keeps I.bk
theorem Inv.nolimit(I:Inv X pins σ H s):s.heap.NoLimit:=I.ok.mod.nolimit.keeps I.bk
theorem Inv.fr(I:Inv X pins σ H s):∃m,Fr X.base X.env.locals s.heap m:=
 let ⟨m,hn,_⟩:=I.loc
 ⟨m,hn,I.bk,B_ I.ok.bsz I.ok.above⟩
theorem Inv.lt(I:Inv X pins σ H s):X.env.locals<s.heap.objs.size:=let ⟨_,hn,_⟩:=I.loc;hn.lt
theorem Inv.sz(I:Inv X pins σ H s):X.s₀.heap.objs.size<=s.heap.objs.size:=B_ I.ok.above (TR I.lt)
theorem Inv.nofs(I:Inv X pins σ H s){a:Xh}(h:s.heap.objs.size<=a):a∉X.fs:=λhb=>by
 obtain⟨_,o,ho,_⟩:=I.ok.funs.mem hb;exact absurd (N_ (q_ ho) (B_ I.sz h)) (Ua _)
theorem Inv.cne(I:Inv X pins σ H s):∀x c,X.env.cells.lookup x=some c->c≠X.env.locals:=λx c e z=>by
 obtain⟨v,o,ho,hd⟩:=I.cell x c e;obtain⟨m,⟨o',es,ep,ho',xT,_⟩,_⟩:=I.loc;rw[z,ho']at ho;cases ho;rw[xT]at hd;cases hd
theorem Inv.funs(I:Inv X pins σ H s):s.heap.FunFrames X.base X.outer:=by
 have all:∀(l:List Env),(∀b∈k7 l,b∈X.fs)->X.s₀.heap.FunFrames X.base l->s.heap.FunFrames X.base l:=by
  intro l
  induction l with
  | nil=>intro _ _;trivial
  | cons env r ih=>
   intro hs hl;obtain⟨hk,⟨L,o,hf,hn,ho,hd⟩,hr⟩:=hl;have hL:L∈X.fs:=hs L (by unfold k7;rw[SV,hf];exact o_);obtain⟨sl,e⟩:=I.base.slot L o ho (I.ok.frf L hL) hL λz=>I.ok.exfs L z hL;exact⟨hk,⟨L,_,hf,hn,e,hd⟩,ih (λb hb=>hs b (by unfold k7;rw[SV,hf];exact l_ _ hb)) hr⟩
 exact all X.outer (λ_ hb=>hb) I.ok.funs
theorem Inv.stack(I:Inv X pins σ H s):s.heap.FunFrames X.base X.stack:=by
 rcases I.ok.stk with e | ⟨e,hf⟩
 .rw[e];exact I.funs
 .rw[e];obtain⟨m,hn,_⟩:=I.loc;refine .cons (by rw[I.ok.kind];decide) hf hn ?_ I.funs;exact S2 (B_ I.ok.bsz I.ok.above)
theorem Inv.stkSub(I:Inv X pins σ H s):∀b∈k7 X.stack,b∈X.env.locals::X.fs:=λb hb=>by
 rcases I.ok.stk with e | ⟨e,hf⟩
 .rw[e]at hb;exact l_ _ hb
 .rw[e]at hb;unfold k7 at hb;rw[SV,hf]at hb;exact hb
theorem Inv.stkFree(I:Inv X pins σ H s):∀b∈k7 X.stack,H b=none:=λb hb=>by
 rcases t_.mp (I.stkSub b hb)with e | hb
 .rw[e];exact I.free
 .obtain⟨_,o,ho,_⟩:=I.ok.funs.mem hb;exact I.base.free b o ho (I.ok.frf b hb) λz=>I.ok.exfs b z hb
theorem Inv.step{g':Array GenState}{t':Nat}{d':Drawn}{ch:W2}(I:Inv X pins σ H s)
  (hch:∀b∈ch,(b∈X.ex\/X.s₀.heap.objs.size<=b)/\b≠X.env.locals/\(∀x c,X.env.cells.lookup x=some c->c≠b)/\∀p∈X.pn++pins,p.1≠b)
  (keep:∀b o,b≠X.env.locals->b∉X.fs->b∉ch->s.heap.get? b=some o->H b=none->h'.get? b=some o)
  (slot:∀b o,b≠X.env.locals->b∈X.fs->b∉ch->s.heap.get? b=some o->H b=none->∃sl,h'.get? b=some {o with slots:=sl}) (free:∀b o,b∉ch->s.heap.get? b=some o->H b=none->H' b=none)
  (there:∀b o,b∉ch->s.heap.get? b=some o->∃o',h'.get? b=some o')
  (tups:∀b xs,H b=some (.tup xs)->H' b=some (.tup xs)) (frzs:∀b o u,H b=some (.frz o u)->H' b=some (.frz o u)) (tbls:∀b q,H b=some (.tab q)->H' b=some (.tab q))
  (ns:∀m,s.heap.Ns X.env.locals m->h'.Ns X.env.locals m) (hok:lb X.prog X.w H' h') (hg:AllBare g') :
  Inv X pins σ H' {s with heap:=h',gens:=g',drawn:=d',toks:=t'}:=by
 have Re:∀b o,X.s₀.heap.get? b=some o->b≠X.env.locals:=λb o e=>z_ (N_ (q_ e) I.ok.above);have Os:∀b o,X.s₀.heap.get? b=some o->b∉X.ex->b∉ch:=λb o e hx hb=>by
  rcases(hch b hb).1 with z | z
  .exact hx z
  .exact absurd (N_ (q_ e) z) (Ua _)
 have cellK:∀x c,X.env.cells.lookup x=some c->∀v,s.heap.IsCell c v->h'.IsCell c v:=λx c e v ⟨o,ho,hd⟩=>by
  have Nw:c∉ch:=λz=>(hch c z).2.2.1 x c e rfl
  by_cases hc:c∈X.fs
  .obtain⟨sl,q⟩:=slot c o (I.cne x c e) hc Nw ho (I.freeC x c e);exact⟨_,q,hd⟩
  .exact⟨o,keep c o (I.cne x c e) hc Nw ho (I.freeC x c e),hd⟩
 refine⟨I.ok,I.os,hg,⟨λb o e n hb hx=>?_,λb o e n hb hx=>?_,λb o e n hx=>?_,λb o e hx=>?_,λb xs e=>tups b xs (I.base.tups b xs e),λb o xs e=>frzs b o xs (I.base.frzs b o xs e),λb ps e=>?_⟩,?_,λx c e=>?_,?_,λx c e=>?_,λp hp=>?_,hok,I.len⟩
 .exact keep b o (Re b o e) hb (Os b o e hx) (I.base.keep b o e n hb hx) (I.base.free b o e n hx)
 .obtain⟨sl,e1⟩:=I.base.slot b o e n hb hx;obtain⟨Nv,e2⟩:=slot b _ (Re b o e) hb (Os b o e hx) e1 (I.base.free b o e n hx);exact⟨Nv,e2⟩
 .obtain⟨o',e1⟩:=I.base.there b o e hx;exact free b o' (Os b o e hx) e1 (I.base.free b o e n hx)
 .obtain⟨o',e1⟩:=I.base.there b o e hx;exact there b o' (Os b o e hx) e1
 .exact tbls b _ (I.base.tbls b ps e)
 .obtain⟨m,hn,hl⟩:=I.loc;refine⟨m,ns m hn,λi x v e1 e2 e3=>?_⟩;obtain⟨u,r,l⟩:=hl i x v e1 e2 e3;refine⟨u,r,?_⟩;rcases l with l | ⟨k,c,e,z⟩
  .exact .inl l
  .exact .inr ⟨k,c,e,cellK x c e _ z⟩
 .obtain⟨v,z⟩:=I.cell x c e;exact⟨v,cellK x c e v z⟩
 .obtain⟨m,⟨o,_,_,ho,_⟩,_⟩:=I.loc;exact free _ o (λz=>(hch _ z).2.1 rfl) ho I.free
 .obtain⟨v,o,ho,hd⟩:=I.cell x c e;exact free c o (λz=>(hch c z).2.2.1 x c e rfl) ho (I.freeC x c e)
 .obtain⟨e,n,ne,nf,d⟩:=I.pin p hp;have Nw:p.1∉ch:=λz=>(hch p.1 z).2.2.2 p hp rfl;exact⟨keep p.1 p.2 ne nf Nw e n,free p.1 p.2 Nw e n,ne,nf,d⟩
theorem Inv.un{t':Nat}(I:Inv X pins σ H s)(u:Un X.fs [] H H' s.heap h')(hok:lb X.prog X.w H' h'):Inv X pins σ H' {s with heap:=h',toks:=t'}:=by
 obtain⟨m,⟨o,es,ep,ho,r⟩,_⟩:=id I.loc;obtain⟨sl,hL⟩:=u.any ho I.free (by simp);exact I.step (g':=s.gens) (d':=s.drawn) (ch:=[]) (λ_ z=>nomatch z) (λb o _ hb _ e n=>u.keep b o e n hb (by simp)) (λb o _ hb _ e n=>u.slot b o e n hb (by simp)) (λb o _ e n=>u.free b o e n (by simp)) (λb o _ e=>u.there b o e (by simp)) u.tups u.frzs u.tbls (λm' hm=>by
  obtain⟨o',es',xR,ho',r'⟩:=hm;rw[ho]at ho';cases ho';exact⟨_,es',xR,hL,r'⟩) hok I.bare
theorem Inv.call{g':Array GenState}{t':Nat}{d':Drawn}{ch:W2}(I:Inv X pins σ H s)(u:Un (k7 X.stack) ch H H' s.heap h')(hok:lb X.prog X.w H' h')(hg:AllBare g')
  (hch:∀b∈ch,(b∈X.ex\/X.s₀.heap.objs.size<=b)/\b≠X.env.locals/\(∀x c,X.env.cells.lookup x=some c->c≠b)/\∀p∈X.pn++pins,p.1≠b) :
  Inv X pins σ H' {s with heap:=h',gens:=g',drawn:=d',toks:=t'}:=by
 obtain⟨m,⟨o,es,ep,ho,r⟩,_⟩:=id I.loc;obtain⟨sl,hL⟩:=u.any ho I.free λz=>(hch _ z).2.1 rfl;exact I.step (ch:=ch) hch (λb o hL hb hc e n=>u.keep b o e n (λz=>(t_.mp (I.stkSub b z)).elim hL hb) hc) (λb o _ _ hc e n=>u.any e n hc) (λb o hc e n=>u.free b o e n hc) (λb o hc e=>u.there b o e hc) u.tups u.frzs u.tbls (λm' hm=>by
  obtain⟨o',es',xR,ho',r'⟩:=hm;rw[ho]at ho';cases ho';exact⟨_,es',xR,hL,r'⟩) hok hg
theorem Inv.turned{t':Nat}{it:Xh}(I:Inv X pins σ H s)(k:∀b o,b≠it->s.heap.get? b=some o->h'.get? b=some o)(hn:H it=none)(hL:it≠X.env.locals)
  (h1:it∈X.ex\/X.s₀.heap.objs.size<=it) (h2:∀x c,X.env.cells.lookup x=some c->c≠it) (h3:∀p∈X.pn++pins,p.1≠it):Inv X pins σ H {s with heap:=h',toks:=t'}:=by
 have Nx:∀b u,H b=some u->b≠it:=λb u e z=>by rw[z,hn]at e;cases e
 refine I.step (g':=s.gens) (d':=s.drawn) (ch:=[it]) (λb hb=>?_) (λb o _ _ hc e _=>k b o (λz=>hc (by simp[z])) e) (λb o _ _ hc e _=>⟨o.slots,k b o (λz=>hc (by simp[z])) e⟩) (λ_ _ _ _ n=>n)
  (λb o hc e=>⟨o,k b o (λz=>hc (by simp[z])) e⟩) (λ_ _ e=>e) (λ_ _ _ e=>e) (λ_ _ e=>e) (λm hm=>?_) (λb u e=>?_) I.bare
 .have e:b=it:=by simpa using hb
  subst e;exact⟨h1,hL,h2,h3⟩
 .obtain⟨o,es,ep,ho,r⟩:=hm;exact⟨o,es,ep,k _ o (Tg hL) ho,r⟩
 .refine(I.hok b u e).stay (λc v hc q=>k c v ?_ q) (λ_ q=>q) (λ_ _ q=>q) λ_ _ q=>q;rcases hc with z | z
  .rw[z];exact Nx b u e
  .exact Nx c _ z
theorem Inv.tok(I:Inv X pins σ H s)(t:Nat):Inv X pins σ H {s with toks:=t}:=I.un (h':=s.heap) (t':=t) Un.refl I.hok
theorem Inv.kept{t':Nat}(I:Inv X pins σ H s)(k:∀b u,s.heap.get? b=some u->h'.get? b=some u):Inv X pins σ H {s with heap:=h',toks:=t'}:=I.un (Un.kept k) (I.hok.kept k)
theorem Inv.laid{a:Xh}{o:HO}{t':Nat}(I:Inv X pins σ H s)(k:∀b u,s.heap.get? b=some u->h'.get? b=some u)(hp:s.heap.objs.size<=a)(new:aV X.prog X.w (upd H a o) h' a o) :
  Inv X pins σ (upd H a o) {s with heap:=h',toks:=t'}:=I.un (Un.laid k hp (I.hok.fresh hp)) (I.hok.laid k hp new)
theorem Inv.write{x e:Xh}{o:HO}{t':Nat}(I:Inv X pins σ H s)(mu:N9 (H x))(he:e=x\/H e=some (.own x))(k:∀b u,b≠e->s.heap.get? b=some u->h'.get? b=some u)(K7:∃u,h'.get? e=some u)
  (new:aV X.prog X.w (upd H x o) h' x o):Inv X pins σ (upd H x o) {s with heap:=h',toks:=t'}:=I.un (Un.write mu he k K7) (I.hok.write mu he k K7 new)
theorem Inv.pins_of{ue:WS}(I:Inv X pins σ H s)(h:∀p∈ue,s.heap.get? p.1=some p.2/\H p.1=none/\p.1≠X.env.locals/\p.1∉X.fs/\∀v,p.2.data≠.cell v):Inv X ue σ H s:=
 ⟨I.ok,I.os,I.bare,I.base,I.loc,I.cell,I.free,I.freeC,λp hp=>(Sr.mp hp).elim (λz=>I.pin p (U2 _ z)) (h p),I.hok,I.len⟩
theorem tQ{N:W1}(hN:N.Nodup){i j:Nat}{x:Str}(a:N[i]?=some x)(b:N[j]?=some x):i=j:=by
 obtain⟨h1,e1⟩:=i_.mp a;obtain⟨h2,e2⟩:=i_.mp b;exact(List.getElem_inj hN).mp (e1.trans e2.symm)
theorem oY{M:Model}{A:Xb}{E:WR}{i:Nat}{x:Str}{v:V}{u:W9}{Q:Unit->W_->Prop}(I:Inv X pins σ H s)(hN:X.N.Nodup)(hi:X.N[i]?=some x)(hx:Loc X.env.scope x)(r:RelV v u)
  (h:∀s',Inv X pins (σ.set i (some v)) H s'->(∃a,Heap.SameBut a s.heap s'.heap/\(a=X.env.locals\/X.env.cells.lookup x=some a))->Q () s') (hf:X.fn x=true\/X.env.scope.names.lookup x=some .local:=by first | exact .inl rfl | exact .inr rfl | assumption):wpAny M A (storeName X.env x u) Q E s:=by
 obtain⟨m,hn,hl⟩:=id I.loc;have vR:(X.env.scope.kind==.class||(X.env.scope.kind==.module&&X.env.locals != X.env.globals))=false:=by rw[I.ok.kind];rfl
 have Kj:i < σ.length:=by rw[I.len];exact(i_.mp hi).1
 have cne:=I.cne;have tracked:∀{a:Xh}{h':Xd},(∃o,s.heap.get? a=some o/\H a=none)->Heap.SameBut a s.heap h'->lb X.prog X.w H h':=λ{a h'} ha hs b ob e=>by
  obtain⟨_,_,Hj⟩:=ha;refine(I.hok b ob e).stay (λc w' hc q=>(hs.2 c ?_).trans q) (λ_ q=>q) (λ_ _ q=>q) λ_ _ q=>q;rintro rfl;rcases hc with rfl | hc
  .rw[Hj]at e;cases e
  .rw[Hj]at hc;cases hc
 rcases hx with hk | hk
 .refine wpAny_storeName_local hk hn (λh' Kk hs=>?_) vR;obtain⟨oL,_,_,hoL,_⟩:=id hn;refine h _ ⟨I.ok,I.os,I.bare,⟨λb o e n hb hx=>?_,λb o e n hb hx=>?_,I.base.free,λb o e hx=>?_,I.base.tups,I.base.frzs,I.base.tbls⟩,⟨_,Kk,λj y v' e1 e2 e3=>?_⟩,λy c e=>?_,I.free,I.freeC,λp hp=>?_,tracked ⟨oL,hoL,I.free⟩ hs,by simpa using I.len⟩ ⟨_,hs,.inl rfl⟩
  .exact(hs.2 b (z_ (N_ (q_ e) I.ok.above))).trans (I.base.keep b o e n hb hx)
  .obtain⟨sl,e1⟩:=I.base.slot b o e n hb hx;exact⟨sl,(hs.2 b (z_ (N_ (q_ e) I.ok.above))).trans e1⟩
  .obtain⟨o',e1⟩:=I.base.there b o e hx;exact⟨o',(hs.2 b (z_ (N_ (q_ e) I.ok.above))).trans e1⟩
  .by_cases hj:j=i
   .subst hj;rw[hi]at e1;cases e1;rw[v_ Kj]at e2;cases e2;exact⟨u,r,.inl ⟨hk,by simp⟩⟩
   .rw[p_ (Tg hj)]at e2;obtain⟨u',r',q⟩:=hl j y v' e1 e2 e3;refine⟨u',r',?_⟩;rcases q with ⟨k,e⟩ | ⟨k,c,e,z⟩
    .refine .inl ⟨k,?_⟩;have:y≠x:=λe=>hj (tQ hN e1 (e▸hi));simp[this,e]
    .exact .inr ⟨k,c,e,z.sameBut hs (cne y c e)⟩
  .obtain⟨w',z⟩:=I.cell y c e;exact⟨w',z.sameBut hs (cne y c e)⟩
  .obtain⟨e,n,ne,nf,d⟩:=I.pin p hp;exact⟨(hs.2 p.1 ne).trans e,n,ne,nf,d⟩
 .have Ot:X.fn x=true:=by
   rcases hf with z | z
   .exact z
   .rw[z]at hk;cases hk
  obtain⟨c,hc⟩:=I.ok.has x (.inl hk);obtain⟨w',z⟩:=I.cell x c hc;refine wpAny_storeName_cell I.ok.kind hk hc z (λh' hc' hs=>?_);obtain⟨oc,Gm,hocd⟩:=id z;refine h {s with heap:=h'} ⟨I.ok,I.os,I.bare,⟨λb o e n hb hx=>?_,λb o e n hb hx=>?_,I.base.free,λb o e hx=>?_,I.base.tups,I.base.frzs,I.base.tbls⟩,⟨m,hn.sameBut hs (Tg (cne x c hc)),λj y v' e1 e2 e3=>?_⟩,λy c' e=>?_,I.free,I.freeC,λp hp=>?_,tracked ⟨oc,Gm,I.freeC x c hc⟩ hs,by simpa using I.len⟩ ⟨c,hs,.inr hc⟩
  .exact(hs.2 b (z_ (N_ (q_ e) (I.ok.cab x c Ot hc)))).trans (I.base.keep b o e n hb hx)
  .obtain⟨sl,e1⟩:=I.base.slot b o e n hb hx;exact⟨sl,(hs.2 b (z_ (N_ (q_ e) (I.ok.cab x c Ot hc)))).trans e1⟩
  .obtain⟨o',e1⟩:=I.base.there b o e hx;exact⟨o',(hs.2 b (z_ (N_ (q_ e) (I.ok.cab x c Ot hc)))).trans e1⟩
  .by_cases hj:j=i
   .subst hj;rw[hi]at e1;cases e1;rw[v_ Kj]at e2;cases e2;exact⟨u,r,.inr ⟨.inl hk,c,hc,hc'⟩⟩
   .rw[p_ (Tg hj)]at e2;obtain⟨u',r',q⟩:=hl j y v' e1 e2 e3;refine⟨u',r',?_⟩;rcases q with q | ⟨k,c',e,z'⟩
    .exact .inl q
    .refine .inr ⟨k,c',e,z'.sameBut hs ?_⟩;rintro rfl;exact hj (tQ hN e1 (I.ok.inj _ _ _ e hc▸hi))
  .by_cases Dq:c'=c
   .subst Dq;exact⟨_,hc'⟩
   .obtain⟨w2,z2⟩:=I.cell y c' e;exact⟨w2,z2.sameBut hs Dq⟩
  .obtain⟨e,n,ne,nf,d⟩:=I.pin p hp;refine⟨(hs.2 p.1 ?_).trans e,n,ne,nf,d⟩;intro q;rw[q,Gm]at e;have q':oc=p.2:=Option.some.inj e;exact d w' (by rw[<- q'];exact hocd)
theorem jz{M:Model}{A:Xb}{E:WR}{i:Nat}{x:Str}{v:V}{u:W9}{Q:Unit->W_->Prop}(I:Inv X pins σ H s)(hN:X.N.Nodup)(hi:X.N[i]?=some x)(hx:Loc X.env.scope x)(r:RelV v u)
  (h:∀s',Inv X pins (σ.set i (some v)) H s'->Q () s') (hf:X.fn x=true\/X.env.scope.names.lookup x=some .local:=by first | exact .inl rfl | exact .inr rfl | assumption):wpAny M A (storeName X.env x u) Q E s:=
 oY I hN hi hx r (λs' I' _=>h s' I') hf
theorem Inv.call'{s':W_}{ch:W2}(I:Inv X pins σ H s)(ho:s'.os=s.os)(u:Un (k7 X.stack) ch H H' s.heap s'.heap)(hok:lb X.prog X.w H' s'.heap)(hg:AllBare s'.gens)
  (hch:∀b∈ch,(b∈X.ex\/X.s₀.heap.objs.size<=b)/\b≠X.env.locals/\(∀x c,X.env.cells.lookup x=some c->c≠b)/\∀p∈X.pn++pins,p.1≠b):Inv X pins σ H' s':=by
 obtain⟨h',g',d',t',o'⟩:=s';have e:o'=s.os:=ho;subst e;exact I.call (g':=g') (t':=t') (d':=d') u hok hg hch
end
abbrev XK:=W9->W0->Hp->Prop
abbrev St:=List (Option V)
abbrev VK:=V->Hp->Prop
abbrev TE:=St->Hp->VK->Prop
abbrev TT:=St->Hp->(Bool->Hp->Prop)->Prop
abbrev TA:=St->Hp->(Xq->Hp->Prop)->Prop
structure Ends where
 nx:St->Hp->Prop
 rt:VK
 bk:St->Hp->Prop:=λ_ _=>False
 ct:St->Hp->Prop:=λ_ _=>False
abbrev TS:=Ends->St->Hp->Prop
def EP(X:Cx)(pins:WS)(σ:St)(Q:VK)(u:W9)(s':W_):Prop:=∃v H',Inv X pins σ H' s'/\RelV v u/\Q v H'
def TP(X:Cx)(pins:WS)(σ:St)(Q:Bool->Hp->Prop)(b:Bool)(s':W_):Prop:=∃H',Inv X pins σ H' s'/\Q b H'
def AP(X:Cx)(pins:WS)(σ:St)(Q:Xq->Hp->Prop)(us:WY)(s':W_):Prop:=∃vs H',Inv X pins σ H' s'/\av vs us/\Q vs H'
def SP(X:Cx)(pins:WS)(D:Ends)(f:Flow)(s':W_):Prop:=
 match f with
 | .next=>∃σ' H',Inv X pins σ' H' s'/\D.nx σ' H'
 | .brk=>∃σ' H',Inv X pins σ' H' s'/\D.bk σ' H'
 | .cont=>∃σ' H',Inv X pins σ' H' s'/\D.ct σ' H'
 | .ret u=>∃v σ' H',Inv X pins σ' H' s'/\RelV v u/\D.rt v H'
def PE(X:Cx)(e:Xi)(t:TE):Prop:=
 ∀(pins:WS)(s:W_)(σ:St)(H:Hp)(Q:VK),Inv X pins σ H s->t σ H Q->wpAny (model X.prog X.w) X.A (eval e X.env) (EP X pins σ Q) X.xe s
def PT(X:Cx)(e:Xi)(t:TT):Prop:=
 ∀(pins:WS)(s:W_)(σ:St)(H:Hp)(Q:Bool->Hp->Prop),Inv X pins σ H s->t σ H Q->wpAny (model X.prog X.w) X.A (isTrue e X.env (eval e X.env)) (TP X pins σ Q) X.xe s
def PW(X:Cx)(e:Xi)(t:TT):Prop:=
 ∀(whole:Sem W9)(pins:WS)(s:W_)(σ:St)(H:Hp)(Q:Bool->Hp->Prop),Inv X pins σ H s->t σ H Q->wpAny (model X.prog X.w) X.A (isTrue e X.env whole) (TP X pins σ Q) X.xe s
theorem PW.pt{X:Cx}{e:Xi}{t:TT}(h:PW X e t):PT X e t:=h _
def PA(X:Cx)(es:W3)(t:TA):Prop:=
 ∀(pos:Pos)(pins:WS)(s:W_)(σ:St)(H:Hp)(Q:Xq->Hp->Prop),Inv X pins σ H s->t σ H Q->wpAny (model X.prog X.w) X.A (spliced (backTo pos (starEach es X.env))) (AP X pins σ Q) X.xe s
def PS(X:Cx)(st:Xj)(t:TS):Prop:=
 ∀(pins:WS)(s:W_)(σ:St)(H:Hp)(D:Ends),Inv X pins σ H s->t D σ H->wpAny (model X.prog X.w) X.A (exec st X.env) (SP X pins D) X.xe s
def PSs(X:Cx)(st:W4)(t:TS):Prop:=
 ∀(pins:WS)(s:W_)(σ:St)(H:Hp)(D:Ends),Inv X pins σ H s->t D σ H->wpAny (model X.prog X.w) X.A (execs st X.env) (SP X pins D) X.xe s
theorem aZ{α:Type}{t:Sem α}{Q Q':α->W_->Prop}{M:Model}{A:Xb}{E:WR}{s:W_}(h:wpAny M A t Q E s)(hQ:∀a s,Q a s->Q' a s):wpAny M A t Q' E s:=SG h hQ λ_ _ x=>x
section
variable {X:Cx}
def Jx(i:Nat):TE:=λσ H Q=>∃v,σ[i]?=some (some v)/\Q v H
def tC(v:V):TE:=λ_ H Q=>Q v H
theorem bH{i:Nat}{x:Str}{pos:Pos}(hN:X.N[i]?=some x)(hv:xy X.env.scope x)(hd:(x==("__debug__":Str))=false:=by decide)(dO:(x==("__classdict__":Str))=false:=by decide):PE X (.Name x pos) (Jx i):=by
 intro pins s σ H Q I h;obtain⟨v,e,h⟩:=h;obtain⟨m,hn,hl⟩:=I.loc;obtain⟨u,r,l⟩:=hl i x v hN e hv;have fin:EP X pins σ Q u s:=⟨v,H,I,r,h⟩;rcases l with ⟨hk,hm⟩ | ⟨hk,c,hc,uf⟩
 .exact wpAny_Name (wpAny_loadName_local I.ok.kind hk hn hm fin) hd
 .rcases hk with hk | hk
  .exact wpAny_Name (wpAny_loadName_cell I.ok.kind hk hc uf fin) hd
  .exact wpAny_Name (wpAny_loadName_free I.ok.kind hk hc uf fin dO) hd
theorem As{i j pos}:PE X (.Constant (.int i) j pos) (tC (.int i)):=λ_ _ _ H _ I h=>wpAny_Constant_int ⟨.int i,H,I.tok _,⟨_,rfl⟩,h⟩
theorem MA{b j pos}:PE X (.Constant (.bool b) j pos) (tC (.bl b)):=λ_ _ _ H _ I h=>Constant_bool ⟨.bl b,H,I,rfl,h⟩
theorem HB{j pos}:PE X (.Constant .none j pos) (tC .non):=λ_ _ _ H _ I h=>Constant_none ⟨.non,H,I,rfl,h⟩
theorem Jb{x j pos}:PE X (.Constant (.str x) j pos) (tC (.str x)):=λ_ _ _ H _ I h=>Calls.Constant_str ⟨.str x,H,I.tok _,⟨_,rfl⟩,h⟩
def Gl(X:Cx)(x:Str):Prop:=X.env.kindOf x=some .globalImplicit
theorem gY{E:WR}{pins:WS}{s:W_}{σ:St}{H:Hp}{x:Str}{u:W9}{pos:Pos}{Q:WR}(I:Inv X pins σ H s)(hg:Gl X x)(hm:X.mg x=some u)(h:Q u s)
  (hd:(x==("__debug__":Str))=false:=by decide):wpAny (model X.prog X.w) X.A (eval (.Name x pos) X.env) Q E s:=
 Calls.Name_function_global I.ok.kind hg (Calls.loadGlobal_global (by rw[I.ok.glob];exact I.mod.glob.keeps I.bk) hm h) hd
theorem gM{E:WR}{pins:WS}{s:W_}{σ:St}{H:Hp}{x:Str}{u:W9}{pos:Pos}{Q:WR}(I:Inv X pins σ H s)(hg:Gl X x)(hm:X.mg x=none)(hv:bootBuiltins x=some u)(h:Q u s)
  (hn:x≠"__name__":=by decide) (hd:(x==("__debug__":Str))=false:=by decide):wpAny (model X.prog X.w) X.A (eval (.Name x pos) X.env) Q E s:=by
 obtain⟨mb,h1,h2⟩:=I.mod.blt;exact Calls.Name_function_global I.ok.kind hg (Calls.loadGlobal_builtin (by rw[I.ok.glob];exact I.mod.glob.keeps I.bk) hm (by rw[I.ok.blt];exact h1.keeps I.bk) ((h2 x hn).trans hv) h) hd
theorem wa{x:Str}{v:V}{u:W9}{pos:Pos}(hg:Gl X x)(hm:X.mg x=some u)(r:RelV v u)(hd:(x==("__debug__":Str))=false:=by decide):PE X (.Name x pos) (tC v):=
 λ_ _ _ H _ I h=>gY I hg hm ⟨v,H,I,r,h⟩ hd
variable {a b:Xi}{ta tb:TE}{pos:Pos}
def tB(t:TE):TT:=λσ H Q=>t σ H λx H1=>∃c,x=.bl c/\Q c H1
theorem Hw{e:Xi}{t:TE}(h:PE X e t)(he:∀whole,isTrue e X.env whole=(do let v <- whole;standAt e.pos;holding [v] (truthy v)):=by intro _;rfl):PT X e (tB t):=by
 intro pins s σ H Q I hw;refine isTrue_plain (aZ (h pins s σ H _ I hw) λv s1 ⟨x,H1,I1,r1,q1⟩=>?_) (he _);obtain⟨d,rfl,q⟩:=q1;cases r1;exact Tv ⟨H1,I1,q⟩
variable {tA tB':TT}{rest:W3}
def PZ(t u:TT):TT:=λσ H Q=>t σ H λc H1=>if c=true then u σ H1 Q else Q false H1
def R9(t u:TT):TT:=λσ H Q=>t σ H λc H1=>if c=true then Q true H1 else u σ H1 Q
def PP(t:TT):TT:=λσ H Q=>t σ H λc H1=>Q (!c) H1
theorem EJ(ha:PT X a tA):PW X (.BoolOp .And [a] pos) tA:=by
 intro wh pins s σ H Q I h;refine isTrue_and (aZ (ha pins s σ H Q I h) λc s1 e=>?_);cases c with
 | true=>exact isTrue_and_nil e
 | false=>exact e
theorem Hz(ha:PT X a tA):PW X (.BoolOp .Or [a] pos) tA:=by
 intro wh pins s σ H Q I h;refine isTrue_or (aZ (ha pins s σ H Q I h) λc s1 e=>?_);cases c with
 | false=>exact isTrue_or_nil e
 | true=>exact e
theorem IY(ha:PT X a tA)(hb:PW X (.BoolOp .And (b::rest) pos) tB'):PW X (.BoolOp .And (a::b::rest) pos) (PZ tA tB'):=by
 intro wh pins s σ H Q I h;refine isTrue_and (aZ (ha pins s σ H _ I h) λc s1 ⟨H1,I1,q1⟩=>?_);cases c with
 | true=>exact hb wh pins s1 σ H1 Q I1 q1
 | false=>exact⟨H1,I1,q1⟩
theorem Nq(ha:PT X a tA)(hb:PW X (.BoolOp .Or (b::rest) pos) tB'):PW X (.BoolOp .Or (a::b::rest) pos) (R9 tA tB'):=by
 intro wh pins s σ H Q I h;refine isTrue_or (aZ (ha pins s σ H _ I h) λc s1 ⟨H1,I1,q1⟩=>?_);cases c with
 | true=>exact⟨H1,I1,q1⟩
 | false=>exact hb wh pins s1 σ H1 Q I1 q1
theorem JZ(ha:PT X a tA):PT X (.UnaryOp .Not a pos) (PP tA):=by
 intro pins s σ H Q I h;exact isTrue_not (ha pins s σ H (λc H1=>Q (!c) H1) I h)
def Pc(ta tb:TE):TE:=λσ H Q=>ta σ H λx H1=>∃c,x=.bl c/\if c=true then Q (.bl true) H1 else tb σ H1 Q
theorem IQ{op}{t:TE}(h:PE X a t):PE X (.BoolOp op [a] pos) t:=λpins s σ H Q I hw=>BoolOp_one (h pins s σ H Q I hw)
theorem MI(ha:PE X a ta)(hb:PE X (.BoolOp .Or (b::rest) pos) tb):PE X (.BoolOp .Or (a::b::rest) pos) (Pc ta tb):=by
 intro pins s σ H Q I h;refine BoolOp_or (aZ (ha pins s σ H _ I h) λv s1 ⟨x,H1,I1,r1,q1⟩=>?_);obtain⟨c,rfl,q1⟩:=q1;cases r1;refine Tv ?_;cases c with
 | false=>exact hb pins s1 σ H1 Q I1 q1
 | true=>exact⟨.bl true,H1,I1,rfl,q1⟩
end
def de(K:W8)(H:Hp)(a:Xh)(xs:Xq):Prop:=
 Rd H a (.lst xs)\/
  ∃(o:Obj)(aQ:Array W9)(n:Nat),K.lookup a=some o/\o.cls=.type "list"/\o.dict=none/\o.data=.seq aQ n/\aQ.size<=sizeLine/\av xs aQ.toList
def cw(K:W8)(H:Hp)(a:Xh)(xs:Xq):Prop:=
 Rd H a (.tup xs)\/
  ∃(o:Obj)(aQ:Array W9)(n:Nat),K.lookup a=some o/\o.cls=.type "tuple"/\o.data=.seq aQ n/\aQ.size<=sizeLine/\av xs aQ.toList
def PK:W9->Option V
 | .none=>some .non
 | .bool b=>some (.bl b)
 | .int i _=>some (.int i)
 | .str x _=>some (.str x)
 | .bytes b _=>some (.byt b)
 | .float b _=>some (.flt b)
 | .ref a=>some (.ref a)
 | .type n=>some (.ty n)
 | _=>none
theorem RelV.abs{x:V}{u:W9}(r:RelV x u):PK u=some x:=by
 cases x with
 | non=>cases r;rfl
 | bl _=>cases r;rfl
 | int _=>obtain⟨t,rfl⟩:=r;rfl
 | str _=>obtain⟨t,rfl⟩:=r;rfl
 | byt _=>obtain⟨t,rfl⟩:=r;rfl
 | flt _=>obtain⟨t,rfl⟩:=r;rfl
 | ref _=>cases r;rfl
 | ty _=>cases r;rfl
theorem RelV.inj{x y:V}{u:W9}(r:RelV x u)(q:RelV y u):x=y:=Option.some.inj (r.abs.symm.trans q.abs)
theorem av.inj:∀{xs ys:Xq}{us:WY},av xs us->av ys us->xs=ys
 | _,_,_,.nil,.nil=>rfl
 | _,_,_,.cons r t,.cons r' t'=>by rw[r.inj r',av.inj t t']
section
variable {X:Cx}{pins:WS}{σ:St}{H:Hp}{s:W_}{a:Xh}{xs ys:Xq}
theorem de.of{K:W8}(h:H a=some (.lst xs)):de K H a xs:=.inl (.inl h)
theorem cw.of{K:W8}(h:H a=some (.tup xs)):cw K H a xs:=.inl (.inl h)
theorem Inv.list(I:Inv X pins σ H s)(h:de X.K H a xs):∃aQ:WY,av xs aQ/\PlainL s.heap a aQ.toArray/\xs.length<=sizeLine:=by
 rcases h with h | ⟨o,aQ,n,hk,hc,hd,hs,hz,r⟩
 .obtain⟨z,aQ,n,r,e⟩:=h.ok I.hok;exact⟨aQ,r,⟨_,n,e,rfl,rfl,rfl⟩,z⟩
 .refine⟨aQ.toList,r,⟨o,n,I.kIn a o hk,hc,hd,by simpa using hs⟩,?_⟩;have e:=r.length;simp only[Sv]at e;omega
theorem Inv.tuple(I:Inv X pins σ H s)(h:cw X.K H a xs):∃aQ:WY,av xs aQ/\IsTup s.heap a aQ.toArray/\xs.length<=sizeLine:=by
 rcases h with h | ⟨o,aQ,n,hk,hc,hs,hz,r⟩
 .obtain⟨z,aQ,r,p⟩:=h.ok I.hok;exact⟨aQ,r,p,z⟩
 .refine⟨aQ.toList,r,⟨o,I.kIn a o hk,hc,n,by simpa using hs⟩,?_⟩;have e:=r.length;simp only[Sv]at e;omega
theorem Inv.list_inj(I:Inv X pins σ H s)(h:de X.K H a xs)(h':de X.K H a ys):xs=ys:=by
 obtain⟨aQ,r,⟨o,n,e,_,_,d⟩,_⟩:=I.list h;obtain⟨its',r',⟨o',n',e',_,_,d'⟩,_⟩:=I.list h';rw[e]at e';cases e';rw[d]at d'
 injection d' with d1 _
 have:aQ=its':=by simpa using Tn Array.toList d1
 subst this;exact r.inj r'
theorem Inv.tuple_inj(I:Inv X pins σ H s)(h:cw X.K H a xs)(h':cw X.K H a ys):xs=ys:=by
 obtain⟨aQ,r,⟨o,e,_,n,d⟩,_⟩:=I.tuple h;obtain⟨its',r',⟨o',e',_,n',d'⟩,_⟩:=I.tuple h';rw[e]at e';cases e';rw[d]at d'
 injection d' with d1 _
 have:aQ=its':=by simpa using Tn Array.toList d1
 subst this;exact r.inj r'
end
abbrev Cx.wish(X:Cx)(E:WR):Cx:={X with xe:=E}
abbrev Cx.nox(X:Cx):Cx:=X.wish λ_ _=>False
theorem Cx.Ok.wish{X:Cx}(ok:X.Ok)(E:WR):(X.wish E).Ok:=
 ⟨ok.mod,ok.kind,ok.glob,ok.blt,ok.above,ok.inj,ok.has,ok.cab,ok.hd,ok.frames,ok.stk,ok.exf,ok.bs,ok.bsz,ok.noex,ok.exfs,ok.funs,ok.frf,ok.tb⟩
theorem Cx.Ok.unwish{X:Cx}{E:WR}(ok:(X.wish E).Ok):X.Ok:=
 ⟨ok.mod,ok.kind,ok.glob,ok.blt,ok.above,ok.inj,ok.has,ok.cab,ok.hd,ok.frames,ok.stk,ok.exf,ok.bs,ok.bsz,ok.noex,ok.exfs,ok.funs,ok.frf,ok.tb⟩
section
variable {X:Cx}{pins:WS}{σ:St}{H:Hp}{s:W_}{E:WR}
theorem Inv.wish(I:Inv X pins σ H s)(E:WR):Inv (X.wish E) pins σ H s:=⟨I.ok.wish E,I.os,I.bare,I.base,I.loc,I.cell,I.free,I.freeC,I.pin,I.hok,I.len⟩
theorem Inv.unwish(I:Inv (X.wish E) pins σ H s):Inv X pins σ H s:=⟨I.ok.unwish,I.os,I.bare,I.base,I.loc,I.cell,I.free,I.freeC,I.pin,I.hok,I.len⟩
theorem SP.unwish{D:Ends}{f:Flow}{s':W_}(h:SP (X.wish E) pins D f s'):SP X pins D f s':=by
 cases f with
 | next=>obtain⟨σ',H',I,q⟩:=h;exact⟨σ',H',I.unwish,q⟩
 | brk=>obtain⟨σ',H',I,q⟩:=h;exact⟨σ',H',I.unwish,q⟩
 | cont=>obtain⟨σ',H',I,q⟩:=h;exact⟨σ',H',I.unwish,q⟩
 | ret u=>obtain⟨v,σ',H',I,r,q⟩:=h;exact⟨v,σ',H',I.unwish,r,q⟩
theorem PT.nox{e:Xi}{t:TT}(h:PT X.nox e t):PT X e t:=λpins s σ H Q I hw=>
 SG (h pins s σ H Q (I.wish _) hw) (λ_ _ ⟨H',I',q⟩=>⟨H',I'.unwish,q⟩) λ_ _ z=>False.elim z
theorem PSs.nox{st:W4}{t:TS}(h:PSs X.nox st t):PSs X st t:=λpins s σ H D I hw=>
 SG (h pins s σ H D (I.wish _) hw) (λ_ _ q=>q.unwish) λ_ _ z=>False.elim z
end
section
variable {X:Cx}{st:Xj}{rest:W4}{t u:TS}{e:Xi}{te:TE}{pos:Pos}
def tNext:TS:=λD σ H=>D.nx σ H
def JC(t u:TS):TS:=λD σ H=>t {D with nx:=u D} σ H
theorem Ge:PSs X [] tNext:=λ_ _ σ H _ I h=>Vh ⟨σ,H,I,h⟩
theorem gK(h1:PS X st t)(h2:PSs X rest u):PSs X (st::rest) (JC t u):=by
 intro pins s σ H D I h;refine VI (aZ (h1 pins s σ H {D with nx:=u D} I h) λf s1 q=>?_);cases f with
 | next=>
  obtain⟨σ',H',I',q⟩:=q;exact h2 pins s1 σ' H' D I' q
 | ret v=>exact q
 | brk=>exact q
 | cont=>exact q
theorem jo(h1:PS X st t):PSs X [st] t:=by
 intro pins s σ H D I h;refine VI (aZ (h1 pins s σ H D I h) λf s1 q=>?_);cases f with
 | next=>exact Vh q
 | ret v=>exact q
 | brk=>exact q
 | cont=>exact q
theorem Inv.quiet{pins:WS}{σ:St}{H:Hp}{s:W_}(I:Inv X pins σ H s):interactive X.env=false:=by simp[interactive,I.ok.kind]
def L7(te:TE):TS:=λD σ H=>te σ H λ_ H1=>D.nx σ H1
theorem jE(he:PE X e te)(hs:swapsWith e none pos.line X.env=pure false:=by rfl):PS X (.Expr e pos) (L7 te):=by
 intro pins s σ H D I h;exact wpAny_Expr_any (aZ (he pins s σ H _ I h) λv s1 ⟨x,H1,I1,r1,q1⟩=>⟨σ,H1,I1,q1⟩) I.quiet hs
def LW(te:TE):TS:=λD σ H=>te σ H D.rt
theorem q8(he:PE X e te):PS X (.Return (some e) pos) (LW te):=by
 intro pins s σ H D I h;exact wpAny_Return_some (aZ (he pins s σ H _ I h) λv s1 ⟨x,H1,I1,r1,q1⟩=>⟨x,σ,H1,I1,r1,q1⟩)
def Pi(c:TT)(t u:TS):TS:=λD σ H=>c σ H λb H1=>if b=true then t D σ H1 else u D σ H1
theorem Hc{c:Xi}{a b:W4}{tc:TT}(hc:PT X c tc)(ha:PSs X a t)(hb:PSs X b u):PS X (.If c a b pos) (Pi tc t u):=by
 intro pins s σ H D I h;refine wpAny_If (aZ (hc pins s σ H _ I h) λd s1 ⟨H1,I1,q1⟩=>?_);cases d with
 | true=>exact ha pins s1 σ H1 D I1 q1
 | false=>exact hb pins s1 σ H1 D I1 q1
end
abbrev TG:=V->St->Hp->(St->Hp->Prop)->Prop
abbrev TGs:=Xq->St->Hp->(St->Hp->Prop)->Prop
def PG(X:Cx)(target:Xi)(t:TG):Prop:=
 ∀(pins:WS)(s:W_)(σ:St)(H:Hp)(v:V)(u:W9)(Q:St->Hp->Prop),Inv X pins σ H s->RelV v u->t v σ H Q->
  wpAny (model X.prog X.w) X.A (assign target X.env u) (λ_ s'=>∃σ' H',Inv X pins σ' H' s'/\Q σ' H') X.xe s
def Cz(X:Cx)(ts:W3)(t:TGs):Prop:=
 ∀(pins:WS)(s:W_)(σ:St)(H:Hp)(vs:Xq)(us:WY)(Q:St->Hp->Prop),Inv X pins σ H s->av vs us->t vs σ H Q->
  wpAny (model X.prog X.w) X.A (assignInOrder ((assignEach ts X.env).map (·.2)) us) (λ_ s'=>∃σ' H',Inv X pins σ' H' s'/\Q σ' H') X.xe s
abbrev TSet:=V->V->V->Hp->(Hp->Prop)->Prop
def Mm(X:Cx)(t:TSet):Prop:=
 ∀(pins:WS)(s:W_)(σ:St)(H:Hp)(o i v:V)(ov iv u:W9)(Q:Hp->Prop),Inv X pins σ H s->RelV o ov->RelV i iv->RelV v u->t o i v H Q->
  wpAny (model X.prog X.w) X.A (setItem ov iv u) (λ_ s'=>∃H',Inv X pins σ H' s'/\Q H') X.xe s
section
variable {X:Cx}{pos:Pos}
def mr(i:Nat):TG:=λv σ H Q=>Q (σ.set i (some v)) H
theorem xK{i:Nat}{x:Str}(hN:X.N.Nodup)(hi:X.N[i]?=some x)(hx:Loc X.env.scope x)(hf:X.fn x=true\/X.env.scope.names.lookup x=some .local:=by first | exact .inl rfl | exact .inr rfl | assumption):PG X (.Name x pos) (mr i):=by
 intro pins s σ H v u Q I r h;exact wpAny_assign_Name (jz I hN hi hx r (λs' I'=>⟨_,H,I',h⟩) hf)
def gNil:TGs:=λvs σ H Q=>vs=[]/\Q σ H
def L6(t:TG)(u:TGs):TGs:=λvs σ H Q=>∃v r,vs=v::r/\t v σ H λσ' H'=>u r σ' H' Q
theorem F8:Cz X [] gNil:=by
 intro pins s σ H vs us Q I r h;obtain⟨e,h⟩:=h;subst e;cases r;exact assignInOrder_nil ⟨σ,H,I,h⟩
theorem Bq{e:Xi}{es:W3}{t:TG}{u:TGs}(h1:PG X e t)(h2:Cz X es u)
  (hs:(assignEach (e::es) X.env).map (·.2)=assign e X.env::(assignEach es X.env).map (·.2):=by rfl):Cz X (e::es) (L6 t u):=by
 intro pins s σ H vs us Q I r h;obtain⟨v,vr,e1,h⟩:=h;subst e1;cases r with
 | cons r rr=>
  rw[hs];refine assignInOrder_cons (aZ (h1 pins s σ H _ _ _ I r h) λ_ s1 ⟨σ1,H1,I1,q1⟩=>?_);exact h2 pins s1 σ1 H1 _ _ Q I1 rr q1
def OY(K:W8)(n:Nat)(t:TGs):TG:=λv σ H Q=>∃a xs,v=.ref a/\cw K H a xs/\xs.length=n/\t xs σ H Q
theorem Iu{es:W3}{k:Nat}{t:TGs}{n:Nat}(hc:X.calm=true)(h:Cz X es t)
  (hn:(assignEach es X.env).length=n:=by rfl) (hst:(assignEach es X.env).findIdx? (·.1)=none:=by rfl):PG X (.Tuple es k pos) (OY X.K n t):=by
 intro pins s σ H v u Q I r hw;obtain⟨a,xs,e1,hq,hl,hw⟩:=hw;subst e1;cases r;obtain⟨aQ,rv,ht,hz⟩:=I.tuple hq;refine assign_Tuple_tuple (I.ok.hd hc) ht (by simp[hn,<- hl,rv.length]) hst λh' hx=>?_;have I1:Inv X pins σ H {s with heap:=h'}:=I.kept (t':=s.toks) λb o e=>hx b o (z_ (q_ e)) e;exact h pins _ σ H xs _ Q I1 (by simpa using rv) hw
def OV(to ti:TE)(t:TSet):TG:=λv σ H Q=>to σ H λo H1=>ti σ H1 λi H2=>t o i v H2 λH3=>Q σ H3
theorem II{o i:Xi}{to ti:TE}{t:TSet}(ho:PE X o to)(hi:PE X i ti)(hs:Mm X t)
  (ha:∀v,assign (.Subscript o i pos) X.env v=(do
   let ov <- holding [v] (eval o X.env)
   let iv <- holding [v,ov] (eval i X.env)
   standAt pos
   holding [v,ov,iv] (setItem ov iv v)
   release [v,ov,iv] []):=by intro _;rfl):PG X (.Subscript o i pos) (OV to ti t):=by
 intro pins s σ H v u Q I r h;rw[ha];refine a_ (Q_ (aZ (ho pins s σ H _ I h) λov s1 ⟨x,H1,I1,r1,q1⟩=>?_));refine a_ (Q_ (aZ (hi pins s1 σ H1 _ I1 q1) λiv s2 ⟨y,H2,I2,r2,q2⟩=>?_));refine a_ (To (a_ (Q_ (aZ (hs pins s2 σ H2 x y v ov iv u _ I2 r1 r2 r q2) λ_ s3 ⟨H3,I3,q3⟩=>?_))));exact wpAny_release ⟨σ,H3,I3,q3⟩
def u4(te:TE)(g:TG):TS:=λD σ H=>te σ H λx H1=>g x σ H1 D.nx
theorem vC{tg e:Xi}{te:TE}{g:TG}(he:PE X e te)(hg:PG X tg g)(hs:swapsWithSole [tg] e pos.line X.env=pure false:=by rfl)(hw:swappedStores [tg] e X.env=pure none:=by rfl)
  (h1:(assignEach [tg] X.env).map (·.2)=[assign tg X.env]:=by rfl):PS X (.Assign [tg] e pos) (u4 te g):=by
 intro pins s σ H D I h;refine wpAny_Assign_stores (aZ (he pins s σ H _ I h) λv s1 ⟨x,H1,I1,r1,q1⟩=>?_) hs hw;rw[h1];exact aZ (hg pins s1 σ H1 x v _ I1 r1 q1) λ_ s2 q=>q
theorem fK{i:Nat}{x:Str}{e:Xi}{te:TE}{pos':Pos}(hN:X.N.Nodup)(hi:X.N[i]?=some x)(hx:Loc X.env.scope x)(he:PE X e te)(hs:swapsWith e (some (.Name x pos')) pos.line X.env=pure false:=by rfl)(hf:X.fn x=true\/X.env.scope.names.lookup x=some .local:=by first | exact .inl rfl | exact .inr rfl | assumption) :
  PS X (.Assign [.Name x pos'] e pos) (u4 te (mr i)):=by
 intro pins s σ H D I h;refine wpAny_Assign_Name (aZ (he pins s σ H _ I h) λv s1 ⟨y,H1,I1,r1,q1⟩=>?_) hs;exact jz I1 hN hi hx r1 (λs2 I2=>⟨_,H1,I2,q1⟩) hf
end
section
variable {X:Cx}{pos:Pos}
end
structure It where
 go:Nat->Hp->Prop
 yld:Nat->Hp->V->Hp->Prop
 stop:Nat->Hp->Prop
def bM(X:Cx)(pins:WS)(H:Hp)(b:Xh):Prop:=
 H b=none/\b≠X.env.locals/\b∉X.fs/\(b∈X.ex\/X.s₀.heap.objs.size<=b)/\(∀x c,X.env.cells.lookup x=some c->c≠b)/\∀p∈X.pn++pins,p.1≠b
theorem Inv.fpOk{X:Cx}{pins:WS}{σ:St}{H H':Hp}{s:W_}{b:Xh}(I:Inv X pins σ H s)(hb:s.heap.objs.size<=b)(hn:H' b=none):bM X pins H' b:=by
 refine⟨hn,T7 (N_ I.lt hb),I.nofs hb,.inr (B_ I.sz hb),λx c e z=>?_,λp hp z=>?_⟩
 .obtain⟨v,q⟩:=I.cell x c e;exact absurd (N_ q.lt (by rw[z];exact hb)) (Ua _)
 .exact absurd (N_ (q_ (I.pin p hp).1) (by rw[z];exact hb)) (Ua _)
structure Turn(P:Program)(w:World)(K:PySem.W.Frag)(tg:Expr)(J:It)(fp:List Addr)(it:Addr)(tn:Nat->Heap->Prop):Prop where
 mem:it∈fp
 obj:∀i h,tn i h->∀b∈fp,∃o,h.get? b=some o/\∀v,o.data≠.cell v
 keep:∀i h h',tn i h->(∀b∈fp,∀o,h.get? b=some o->h'.get? b=some o)->tn i h'
 item:∀(X:Cx),X.prog=P->X.w=w->X.K=K->X.calm=true->∀(i:Nat)(pins:List (Addr×Obj))(s:Shared)(σ:St)(H:Hp)(E:Value->Shared->Prop),Inv X pins σ H s->(∀b∈fp,bM X pins H b)->tn i s.heap->J.go i H->
  wpAny (model P w) X.A (pyNext (.ref it)) (λr s1=>∃u,r=some u/\
   wpAny (model P w) X.A (letOwnedTupleGo tg (.ref it) u) (λ_ s2=>∃x H',Inv X pins σ H' s2/\RelV x u/\J.yld i H x H'/\tn (i+1) s2.heap/\∀b∈fp,H' b=none) E s1) E s
 done:∀(X:Cx),X.prog=P->X.w=w->X.K=K->X.calm=true->∀(i:Nat)(pins:List (Addr×Obj))(s:Shared)(σ:St)(H:Hp)(E:Value->Shared->Prop),Inv X pins σ H s->(∀b∈fp,bM X pins H b)->tn i s.heap->J.stop i H->
  wpAny (model P w) X.A (pyNext (.ref it)) (λr s1=>r=none/\Inv X pins σ H s1) E s
 self:∀(A:Around)(i:Nat)(s:Shared)(Q:Value->Shared->Prop)(E:Value->Shared->Prop),tn i s.heap->Q (.ref it) s->wpAny (model P w) A (pyIter (.ref it)) Q E s
abbrev TI:=St->Hp->(It->Hp->Prop)->Prop
def Q5(X:Cx)(pins:WS)(σ:St)(tg:Xi)(R:It->Hp->Prop)(Ny:W9)(s2:W_):Prop:=
 ∃(it:Xh)(fp:W2)(tn:Nat->Xd->Prop)(J:It)(H':Hp),Ny=.ref it/\Inv X pins σ H' s2/\Turn X.prog X.w X.K tg J fp it tn/\tn 0 s2.heap/\(∀b∈fp,bM X pins H' b)/\R J H'
def PI(X:Cx)(tg iter:Xi)(wi:TI):Prop:=
 ∀(pins:WS)(s:W_)(σ:St)(H:Hp)(R:It->Hp->Prop),Inv X pins σ H s->wi σ H R->
  wpAny (model X.prog X.w) X.A (eval iter X.env) (λv s1=>wpAny (model X.prog X.w) X.A (pyIter v) (Q5 X pins σ tg R) X.xe s1) X.xe s
theorem tL{M:Model}{A:Xb}{E:WR}{s:W_}{tg:Xi}{it:Xh}{u:W9}{o:Obj}{n:String}{vs:Array W9}{Q:Unit->W_->Prop}(ho:s.heap.get? it=some o)(hc:o.cls=.type n)(hd:o.data=.fields vs)
    (hn:["enumerate","zip","dict_itemiterator","dict_reverseitemiterator","odict_iterator","itertools.zip_longest","itertools.pairwise"].contains n=false) (hQ:Q () s):wpAny M A (letOwnedTupleGo tg (.ref it) u) Q E s:=by
  unfold letOwnedTupleGo;cases tg<;>first
    | exact d_ hQ
    | (cases u<;>first
        | exact d_ hQ
        | (refine a_ (wpAny_load ho ?_)
           rw[hc,hd];show wpAny M A (if(["enumerate","zip","dict_itemiterator","dict_reverseitemiterator","odict_iterator","itertools.zip_longest","itertools.pairwise"].contains n&&vs[0]?==some (rawInt _))=true then _ else _) Q E s;rw[k_ (by intro h;rw[hn,WN]at h;cases h)];exact d_ hQ))
def Pe(K:W8)(a:Xh):It:=
 ⟨λi H=>∃xs x,de K H a xs/\xs[i]?=some x,λi H x H'=>H'=H/\∀xs,de K H a xs->xs[i]?=some x,λi H=>∃xs,de K H a xs/\xs.length<=i⟩
def O1(K:W8)(a:Xh):It:=
 ⟨λi H=>∃xs x,cw K H a xs/\xs[i]?=some x,λi H x H'=>H'=H/\∀xs,cw K H a xs->xs[i]?=some x,λi H=>∃xs,cw K H a xs/\xs.length<=i⟩
def Lk(lo:Int)(n:Nat):It:=⟨λi _=>i<n,λi H x H'=>H'=H/\x=.int (lo+i),λi _=>n<=i⟩
theorem yx{P:Xa}{w:Xe}{K:W8}{tg:Xi}(a it:Xh):Turn P w K tg (Pe K a) [it] it (λi h=>h.IsListIter it a i) where
 mem:=by simp
 obj:=λi h st b hb=>by
  have e:b=it:=by simpa using hb
  subst e;obtain⟨o,e,c,d⟩:=st;exact⟨o,e,λv z=>by rw[d]at z;cases z⟩
 keep:=λi h h' st k=>st.at λo e=>k it (by simp) o e
 item:=by
  intro X hP hw hK hc i pins s σ H E I hf st hg;subst hP hw hK;obtain⟨xs,x,hq,hx⟩:=hg;obtain⟨aQ,rv,p,hz⟩:=I.list hq;obtain⟨u,hu,ru⟩:=rv.get hx;obtain⟨f0,f1,f2,f3,f4,f5⟩:=hf it (by simp);refine UK st p.isList (x:=u) (by simpa using hu) λh' lS sb=>?_;have I1:Inv X pins σ H {s with heap:=h'}:=I.turned (t':=s.toks) (λb o hb e=>(sb.2 b hb).trans e) f0 f1 f3 f4 f5;obtain⟨o,e,c,d⟩:=id lS;exact⟨u,rfl,tL (s:={s with heap:=h'}) e c d (by decide) ⟨x,H,I1,ru,⟨rfl,λys hy=>by rw[I.list_inj hy hq];exact hx⟩,lS,λb hb=>(hf b hb).1⟩⟩
 done:=by
  intro X hP hw hK hc i pins s σ H E I hf st hg;subst hP hw hK;obtain⟨xs,hq,hx⟩:=hg;obtain⟨aQ,rv,p,hz⟩:=I.list hq;obtain⟨f0,f1,f2,f3,f4,f5⟩:=hf it (by simp);have hl:=rv.length;exact VF (I.ok.hd hc) st p.isList (by simp;omega) λh' eb=>⟨rfl,I.turned (t':=s.toks) (λb o hb e=>eb b o hb e) f0 f1 f3 f4 f5⟩
 self:=λ_ _ _ _ _ st h=>wpAny_pyIter_listiter st h
theorem uK{P:Xa}{w:Xe}{K:W8}{tg:Xi}(a it:Xh):Turn P w K tg (O1 K a) [it] it (λi h=>h.IsTupleIter it a i) where
 mem:=by simp
 obj:=λi h st b hb=>by
  have e:b=it:=by simpa using hb
  subst e;obtain⟨o,e,c,d⟩:=st;exact⟨o,e,λv z=>by rw[d]at z;cases z⟩
 keep:=λi h h' st k=>st.at λo e=>k it (by simp) o e
 item:=by
  intro X hP hw hK hc i pins s σ H E I hf st hg;subst hP hw hK;obtain⟨xs,x,hq,hx⟩:=hg;obtain⟨aQ,rv,p,hz⟩:=I.tuple hq;obtain⟨u,hu,ru⟩:=rv.get hx;obtain⟨f0,f1,f2,f3,f4,f5⟩:=hf it (by simp);refine wpAny_pyNext_tuple_item st (show s.heap.IsTuple a aQ.toArray from p) (x:=u) (by simpa using hu) λh' lS sb=>?_;have I1:Inv X pins σ H {s with heap:=h'}:=I.turned (t':=s.toks) (λb o hb e=>(sb.2 b hb).trans e) f0 f1 f3 f4 f5;obtain⟨o,e,c,d⟩:=id lS;exact⟨u,rfl,tL (s:={s with heap:=h'}) e c d (by decide) ⟨x,H,I1,ru,⟨rfl,λys hy=>by rw[I.tuple_inj hy hq];exact hx⟩,lS,λb hb=>(hf b hb).1⟩⟩
 done:=by
  intro X hP hw hK hc i pins s σ H E I hf st hg;subst hP hw hK;obtain⟨xs,hq,hx⟩:=hg;obtain⟨aQ,rv,p,hz⟩:=I.tuple hq;obtain⟨f0,f1,f2,f3,f4,f5⟩:=hf it (by simp);have hl:=rv.length;exact wpAny_pyNext_tuple_end (I.ok.hd hc) st (show s.heap.IsTuple a aQ.toArray from p) (by simp;omega) λh' eb=>⟨rfl,I.turned (t':=s.toks) (λb o hb e=>eb b o hb e) f0 f1 f3 f4 f5⟩
 self:=λ_ _ _ _ _ st h=>wpAny_pyIter_tupleiter st h
theorem uF{P:Xa}{w:Xe}{K:W8}{tg:Xi}(it:Xh)(lo:Int)(n:Nat):Turn P w K tg (Lk lo n) [it] it (λi h=>IsRangeIter h it (lo+(i:Nat)*1) ((n:Int)-(i:Nat)) 1) where
 mem:=by simp
 obj:=λi h st b hb=>by
  have e:b=it:=by simpa using hb
  subst e;exact⟨_,st,λv z=>by
   have z':Data.fields _=Data.cell v:=z;cases z'⟩
 keep:=λi h h' st k=>k it (by simp) _ st
 item:=by
  intro X hP hw hK hc i pins s σ H E I hf st hg;subst hP hw hK;obtain⟨f0,f1,f2,f3,f4,f5⟩:=hf it (by simp);have W:=Walks.range (prog:=X.prog) (w:=X.w) (I.ok.hd hc) it lo 1 n;refine W.item i s _ _ hg st λv h' tk hv lS kk=>?_;obtain⟨t,rfl⟩:=hv;have I1:Inv X pins σ H {s with heap:=h',toks:=tk}:=I.turned (λb o hb e=>kk b o (by simpa using hb) e) f0 f1 f3 f4 f5;refine⟨_,rfl,tL (s:={s with heap:=h',toks:=tk}) (n:="range_iterator") lS rfl rfl (by decide) ⟨.int (lo+i),H,I1,⟨t,?_⟩,⟨rfl,rfl⟩,lS,λb hb=>(hf b hb).1⟩⟩;rw[Int.mul_one]
 done:=by
  intro X hP hw hK hc i pins s σ H E I hf st hg;subst hP hw hK;obtain⟨f0,f1,f2,f3,f4,f5⟩:=hf it (by simp);exact wpAny_pyNext_range_end (I.ok.hd hc) st (by have:n<=i:=hg;omega) λh' eb=>⟨rfl,I.turned (t':=s.toks) (λb o hb e=>eb b o hb e) f0 f1 f3 f4 f5⟩
 self:=λ_ _ _ _ _ st h=>wpAny_pyIter_rangeiter st h
section
variable {X:Cx}{tg:Xi}
def Nm(K:W8)(tl:TE):TI:=λσ H R=>tl σ H λx H1=>∃a,x=.ref a/\(∃xs,de K H1 a xs)/\R (Pe K a) H1
def Pn(K:W8)(tl:TE):TI:=λσ H R=>tl σ H λx H1=>∃a,x=.ref a/\(∃xs,cw K H1 a xs)/\R (O1 K a) H1
theorem DE{l:Xi}{tl:TE}(hl:PE X l tl):PI X tg l (Nm X.K tl):=by
 intro pins s σ H R I h;refine aZ (hl pins s σ H _ I h) λv s1 ⟨x,H1,I1,r1,q1⟩=>?_;obtain⟨a,e,⟨xs,hq⟩,q⟩:=q1;subst e;cases r1;obtain⟨aQ,rv,p,hz⟩:=I1.list hq;refine Vu p.isList ?_;refine⟨s1.heap.objs.size,[s1.heap.objs.size],_,_,H1,rfl,I1.kept (t':=s1.toks) λb o e=>e_ _ e,yx a _,⟨_,n_ _ rfl,rfl,rfl⟩,λb hb=>?_,q⟩;have e:b=s1.heap.objs.size:=by simpa using hb
 subst e;exact I1.fpOk (h_ _) (I1.hok.fresh (h_ _))
theorem Js{l:Xi}{tl:TE}(hl:PE X l tl):PI X tg l (Pn X.K tl):=by
 intro pins s σ H R I h;refine aZ (hl pins s σ H _ I h) λv s1 ⟨x,H1,I1,r1,q1⟩=>?_;obtain⟨a,e,⟨xs,hq⟩,q⟩:=q1;subst e;cases r1;obtain⟨aQ,rv,p,hz⟩:=I1.tuple hq;refine Vm (show s1.heap.IsTuple a aQ.toArray from p) ?_;refine⟨s1.heap.objs.size,[s1.heap.objs.size],_,_,H1,rfl,I1.kept (t':=s1.toks) λb o e=>e_ _ e,uK a _,⟨_,n_ _ rfl,rfl,rfl⟩,λb hb=>?_,q⟩;have e:b=s1.heap.objs.size:=by simpa using hb
 subst e;exact I1.fpOk (h_ _) (I1.hok.fresh (h_ _))
theorem tm{pins:WS}{σ:St}{H:Hp}{s:W_}{R:It->Hp->Prop}{E:WR}{lo hi:Int}{t u v:Tok}{tk:Nat}(I:Inv X pins σ H s)(h1:-(2 ^ 62)<=lo)(h2:lo<2 ^ 62)(h3:-(2 ^ 62)<=hi)(h4:hi<2 ^ 62)
  (q:R (Lk lo (hi-lo).toNat) H):wpAny (model X.prog X.w) X.A (pyIter (.ref s.heap.objs.size)) (Q5 X pins σ tg R) E {s with heap:=s.heap.push {cls:=.type "range",data:=.fields #[.int lo t,.int hi u,.int 1 v]},toks:=tk}:=by
 refine wpAny_pyIter_range (IsRange.new ..) (small_one h1 h2 h3 h4) ?_;have I1:Inv X pins σ H {s with heap:=s.heap.push {cls:=.type "range",data:=.fields #[.int lo t,.int hi u,.int 1 v]},toks:=tk}:=I.kept λb o e=>e_ _ e;refine⟨(s.heap.push {cls:=.type "range",data:=.fields #[.int lo t,.int hi u,.int 1 v]}).objs.size,[(s.heap.push {cls:=.type "range",data:=.fields #[.int lo t,.int hi u,.int 1 v]}).objs.size],_,_,H,rfl,
  I1.kept (t':=tk) λb o e=>e_ _ e,uF _ lo (hi-lo).toNat,?_,λb hb=>?_,q⟩
 .have e1:lo+((0:Nat):Int)*1=lo:=by simp
  have e2:(((hi-lo).toNat:Nat):Int)-((0:Nat):Int)=Builtin.Range.rangeSize lo hi 1:=by rw[rangeSize_one];split<;>omega
  show IsRangeIter _ _ (lo+((0:Nat):Int)*1) ((((hi-lo).toNat:Nat):Int)-((0:Nat):Int)) 1;rw[e1,e2];exact n_ _ rfl
 .have e:b=(s.heap.push {cls:=.type "range",data:=.fields #[.int lo t,.int hi u,.int 1 v]}).objs.size:=by simpa using hb
  subst e;exact I1.fpOk (h_ _) (I1.hok.fresh (h_ _))
def Nk(ta:TA):TI:=λσ H R=>ta σ H λvs H1=>∃j:Int,vs=[.int j]/\-(2 ^ 62)<=j/\j<2 ^ 62/\R (Lk 0 j.toNat) H1
def Lw(ta:TA):TI:=λσ H R=>ta σ H λvs H1=>∃i j:Int,vs=[.int i,.int j]/\(-(2 ^ 62)<=i/\i<2 ^ 62/\-(2 ^ 62)<=j/\j<2 ^ 62)/\R (Lk i (j-i).toNat) H1
theorem yy{a:Xi}{ta:TA}{p pos:Pos}(hg:Gl X "range")(hm:X.mg "range"=none)(ha:PA X [a] ta)(hs:starEach [a] X.env=[(false,eval a X.env)]:=by rfl):PI X tg (.Call (.Name "range" p) [a] [] pos) (Nk ta):=by
 intro pins s σ H R I h;refine Call_ (gM I hg hm boot_range (T8 (aZ (ha pos pins s σ H _ I h) λus s1 ⟨vs,H1,I1,r1,q1⟩=>?_) hs rfl));obtain⟨j,e,q1,q2,q⟩:=q1;subst e;cases r1 with
 | cons r rr=>
  cases rr;obtain⟨t,rfl⟩:=r;exact call_range_1 (tm I1 (by omega) (by omega) q1 q2 (by simpa using q))
theorem yi{a b:Xi}{ta:TA}{p pos:Pos}(hg:Gl X "range")(hm:X.mg "range"=none)(ha:PA X [a,b] ta)(hs:starEach [a,b] X.env=[(false,eval a X.env),(false,eval b X.env)]:=by rfl)(Hk:starEach [b] X.env=[(false,eval b X.env)]:=by rfl) :
  PI X tg (.Call (.Name "range" p) [a,b] [] pos) (Lw ta):=by
 intro pins s σ H R I h;refine Call_ (gM I hg hm boot_range (T8 (aZ (ha pos pins s σ H _ I h) λus s1 ⟨vs,H1,I1,r1,q1⟩=>?_) (by rw[hs,Hk]) (by rw[Hk];rfl)));obtain⟨i,j,e,⟨q1,q2,q3,q4⟩,q⟩:=q1;subst e;cases r1 with
 | cons r rr=>
  cases rr with
  | cons r' rr=>
   cases rr;obtain⟨t,rfl⟩:=r;obtain⟨t',rfl⟩:=r';exact call_range_2 (tm I1 q1 q2 q3 q4 q)
def Pk(wi:TI)(g:TG)(tb:TS):TS:=λD σ H=>wi σ H λJ H1=>∃W:Nat->Nat->St->Hp->Prop,(∃m,W 0 m σ H1)/\∀i m σ H,W i m σ H->
 (J.stop i H/\D.nx σ H)\/(J.go i H/\∃N:St->Hp->Prop,(∀σ' H',N σ' H'->∃m',m'<m/\W (i+1) m' σ' H')/\∀x H',J.yld i H x H'->g x σ H' λσ2 H2=>tb {D with nx:=N,ct:=N,bk:=D.nx} σ2 H2)
def kj(fp:W2)(h:Xd):WS:=fp.filterMap λb=>(h.get? b).map λo=>(b,o)
theorem iU{fp:W2}{h:Xd}{b:Xh}{o:Obj}(hb:b∈fp)(e:h.get? b=some o):(b,o)∈kj fp h:=Vl.mpr ⟨b,hb,by rw[e];rfl⟩
theorem yE{fp:W2}{h:Xd}{p:Xh×Obj}(hp:p∈kj fp h):p.1∈fp/\h.get? p.1=some p.2:=by
 obtain⟨b,hb,e⟩:=Vl.mp hp;cases q:h.get? b with
 | none=>rw[q]at e;cases e
 | some o=>
  rw[q]at e;have e':(b,o)=p:=Option.some.inj e;subst e';exact⟨hb,q⟩
theorem Inv.pinned{pins:WS}{σ:St}{H:Hp}{s:W_}{fp:W2}(I:Inv X pins σ H s)(hf:∀b∈fp,bM X pins H b)(ho:∀b∈fp,∃o,s.heap.get? b=some o/\∀v,o.data≠.cell v):Inv X (pins++kj fp s.heap) σ H s:=
 I.pins_of λp hp=>(Sr.mp hp).elim (λz=>I.pin p (J_ _ z)) λz=>by
  obtain⟨hb,e⟩:=yE z;obtain⟨f0,f1,f2,_⟩:=hf p.1 hb;obtain⟨o,e',d⟩:=ho p.1 hb;rw[e]at e';cases e';exact⟨e,f0,f1,f2,d⟩
theorem Inv.unpinned{pins pl:WS}{σ:St}{H:Hp}{s:W_}(I:Inv X (pins++pl) σ H s):Inv X pins σ H s:=I.pins_of λp hp=>I.pin p (J_ _ (U2 _ hp))
theorem JJ{iter:Xi}{body:W4}{wi:TI}{g:TG}{tb:TS}{pos:Pos}(hp:PassesOwn (model X.prog X.w) X.A X.env X.xe)(hc:X.calm=true)(hi:PI X tg iter wi)(hg:PG X tg g)(hb:PSs X body tb)
  (hs:∀x,foldedSetIterable iter X.env x=pure x:=by intro _;rfl):PS X (.For tg iter body [] pos) (Pk wi g tb):=by
 intro pins s σ H D I h;refine wpAny_For (aZ (hi pins s σ H _ I h) λv s1 h1=>aZ h1 λNy s2 h2=>?_) hs;obtain⟨it,fp,tn,J,H2,e,I2,T,st2,f2,W,⟨m0,w0⟩,turn⟩:=h2;subst e;have vS:∀{H':Hp},(∀b∈fp,H' b=none)->∀b∈fp,bM X pins H' b:=λhn b hb=>⟨hn b hb,(f2 b hb).2⟩;refine codeAny_forLoop_any (λn s'=>∃i σ' H',Inv X pins σ' H' s'/\tn i s'.heap/\(∀b∈fp,H' b=none)/\W i n σ' H') ?_ m0 ⟨0,σ,H2,I2,st2,λb hb=>(f2 b hb).1,w0⟩;rintro n s3 ⟨i,σ3,H3,I3,Rf,Ou,w3⟩;rcases turn i n σ3 H3 w3 with ⟨stop,qn⟩ | ⟨go,N,hN,step⟩
 .refine Vi hp (aZ (T.done X rfl rfl rfl hc i pins s3 σ3 H3 X.xe I3 (vS Ou) Rf stop) λr s4 ⟨hr,I4⟩=>?_);subst hr;exact Vh ⟨σ3,H3,I4,qn⟩
 .refine Vi hp (aZ (T.item X rfl rfl rfl hc i pins s3 σ3 H3 X.xe I3 (vS Ou) Rf go) λr s4 ⟨u,hr,h4⟩=>?_);subst hr;refine Vi hp (aZ h4 λ_ s5 ⟨x,H5,I5,r5,y5,P5,fr5⟩=>?_);have I5':=I5.pinned (vS fr5) (T.obj _ _ P5);refine Vi hp (aZ (hg _ s5 σ3 H5 x u _ I5' r5 (step x H5 y5)) λ_ s6 ⟨σ6,H6,I6,q6⟩=>?_);refine Vi hp (aZ (hb _ s6 σ6 H6 _ I6 q6) λf s7 q7=>?_);have again:∀{σ7:St}{H7:Hp},Inv X (pins++kj fp s5.heap) σ7 H7 s7->N σ7 H7->∃m,m<n/\∃i σ' H',Inv X pins σ' H' s7/\tn i s7.heap/\(∀b∈fp,H' b=none)/\W i m σ' H':=λ{σ7 H7} I7 n7=>by
   obtain⟨m',hm,w7⟩:=hN σ7 H7 n7;refine⟨m',hm,i+1,σ7,H7,I7.unpinned,T.keep _ _ _ P5 λb hb o e=>(I7.pin (b,o) (J_ _ (J_ _ (iU hb e)))).1,λb hb=>?_,w7⟩;obtain⟨o,e,d⟩:=T.obj _ _ P5 b hb;exact(I7.pin (b,o) (J_ _ (J_ _ (iU hb e)))).2.1
  cases f with
  | next=>obtain⟨σ7,H7,I7,n7⟩:=q7;exact again I7 n7
  | cont=>obtain⟨σ7,H7,I7,n7⟩:=q7;exact again I7 n7
  | brk=>obtain⟨σ7,H7,I7,q7⟩:=q7;exact⟨σ7,H7,I7.unpinned,q7⟩
  | ret v=>obtain⟨x7,σ7,H7,I7,r7,q7⟩:=q7;exact⟨x7,σ7,H7,I7.unpinned,r7,q7⟩
end
abbrev R2:=V->V->Hp->VK->Prop
def gw(X:Cx)(f:W9->W9->Sem W9)(r:R2):Prop:=
 ∀(pins:WS)(s:W_)(σ:St)(H:Hp)(x y:V)(v u:W9)(Q:VK),Inv X pins σ H s->RelV x v->RelV y u->r x y H Q->
  wpAny (model X.prog X.w) X.A (f v u) (EP X pins σ Q) X.xe s
def Pj(X:Cx)(f:W9->Sem W9)(r:V->Hp->VK->Prop):Prop:=
 ∀(pins:WS)(s:W_)(σ:St)(H:Hp)(x:V)(v:W9)(Q:VK),Inv X pins σ H s->RelV x v->r x H Q->
  wpAny (model X.prog X.w) X.A (f v) (EP X pins σ Q) X.xe s
def dB(X:Cx)(f:W9)(r:Xq->Hp->VK->Prop):Prop:=
 ∀(pins:WS)(s:W_)(σ:St)(H:Hp)(xs:Xq)(us:WY)(Q:VK),Inv X pins σ H s->av xs us->r xs H Q->
  wpAny (model X.prog X.w) X.A (call f us) (EP X pins σ Q) X.xe s
def Pq(X:Cx)(r:V->Hp->(Bool->Hp->Prop)->Prop):Prop:=
 ∀(pins:WS)(s:W_)(σ:St)(H:Hp)(x:V)(v:W9)(Q:Bool->Hp->Prop),Inv X pins σ H s->RelV x v->r x H Q->
  wpAny (model X.prog X.w) X.A (truthy v) (TP X pins σ Q) X.xe s
def Ey(r:R2)(ta tb:TE):TE:=λσ H Q=>ta σ H λx H1=>tb σ H1 λy H2=>r x y H2 Q
def Sj(r:V->Hp->VK->Prop)(ta:TE):TE:=λσ H Q=>ta σ H λx H1=>r x H1 Q
def rI(C:Int->Int->Prop)(g:Int->Int->V):R2:=λx y H Q=>∃i j,x=.int i/\y=.int j/\C i j/\Q (g i j) H
def uG(g:Int->Int->V):R2:=λx y H Q=>∃i j,x=.int i/\y=.int j/\Q (g i j) H
def rU(g:Int->V):V->Hp->VK->Prop:=λx H Q=>∃i,x=.int i/\Q (g i) H
section
variable {X:Cx}{a b c:Xi}{ta tb tc:TE}{pos:Pos}
theorem IC(ha:PE X a ta)(hb:PE X b tb){pins:WS}{s:W_}{σ:St}{H:Hp}{R:V->V->Hp->Prop}(I:Inv X pins σ H s)
  (h:ta σ H λx H1=>tb σ H1 λy H2=>R x y H2) {Q:WR} {f:W9->W9->Sem W9}
  (hf:∀v u s2 x y H2,Inv X pins σ H2 s2->RelV x v->RelV y u->R x y H2->wpAny (model X.prog X.w) X.A (f v u) Q X.xe s2) :
  wpAny (model X.prog X.w) X.A (eval a X.env) (λv s₁=>wpAny (model X.prog X.w) X.A (eval b X.env) (λu s₂=>wpAny (model X.prog X.w) X.A (f v u) Q X.xe s₂) X.xe s₁) X.xe s:=by
 refine aZ (ha pins s σ H _ I h) λv s1 ⟨x,H1,I1,r1,q1⟩=>?_;refine aZ (hb pins s1 σ H1 _ I1 q1) λu s2 ⟨y,H2,I2,r2,q2⟩=>?_;exact hf v u s2 x y H2 I2 r1 r2 q2
theorem wO{op:Operator}{r:R2}(ho:gw X (binaryOp op) r)(ha:PE X a ta)(hb:PE X b tb):PE X (.BinOp a op b pos) (Ey r ta tb):=by
 intro pins s σ H Q I h;exact wpAny_BinOp (IC ha hb I h λv u s2 x y H2 I2 rx ry q=>ho pins s2 σ H2 x y v u Q I2 rx ry q)
theorem G0{op:UnaryOp}{r:V->Hp->VK->Prop}(ho:Pj X (unaryOp op) r)(ha:PE X a ta):PE X (.UnaryOp op a pos) (Sj r ta):=by
 intro pins s σ H Q I h;exact UnaryOp_ (aZ (ha pins s σ H _ I h) λv s1 ⟨x,H1,I1,r1,q1⟩=>ho pins s1 σ H1 x v Q I1 r1 q1)
theorem My{f:W9->W9->Sem W9}{C:Int->Int->Prop}{g:Int->Int->Int}
  (rule:∀(i j:Int)(t u:Tok)(s:W_)(Q:WR)(E:WR),C i j->Q (.int (g i j) s.toks) {s with toks:=s.toks+1}->wpAny (model X.prog X.w) X.A (f (.int i t) (.int j u)) Q E s) :
  gw X f (rI C λi j=>.int (g i j)):=by
 intro pins s σ H x y v u Q I rx ry h;obtain⟨i,j,rfl,rfl,hc,q⟩:=h;obtain⟨t,rfl⟩:=rx;obtain⟨t',rfl⟩:=ry;exact rule i j t t' s _ _ hc ⟨.int (g i j),H,I.tok _,⟨_,rfl⟩,q⟩
theorem JG{f:W9->W9->Sem W9}{g:Int->Int->Int}
  (rule:∀(i j:Int)(t u:Tok)(s:W_)(Q:WR)(E:WR),Q (.int (g i j) s.toks) {s with toks:=s.toks+1}->wpAny (model X.prog X.w) X.A (f (.int i t) (.int j u)) Q E s) :
  gw X f (uG λi j=>.int (g i j)):=by
 intro pins s σ H x y v u Q I rx ry h;obtain⟨i,j,rfl,rfl,q⟩:=h;obtain⟨t,rfl⟩:=rx;obtain⟨t',rfl⟩:=ry;exact rule i j t t' s _ _ ⟨.int (g i j),H,I.tok _,⟨_,rfl⟩,q⟩
theorem JQ{f:W9->W9->Sem W9}{g:Int->Int->Bool}
  (rule:∀(i j:Int)(t u:Tok)(s:W_)(Q:WR)(E:WR),Q (.bool (g i j)) s->wpAny (model X.prog X.w) X.A (f (.int i t) (.int j u)) Q E s) :
  gw X f (uG λi j=>.bl (g i j)):=by
 intro pins s σ H x y v u Q I rx ry h;obtain⟨i,j,rfl,rfl,q⟩:=h;obtain⟨t,rfl⟩:=rx;obtain⟨t',rfl⟩:=ry;exact rule i j t t' s _ _ ⟨.bl (g i j),H,I,rfl,q⟩
def M5(i j:Int):Prop:=0<j/\j<1073741824
def M9(i j:Int):Prop:=0<=j/\j<=1000000/\i.natAbs<2 ^ 64
theorem JT:gw X (binaryOp .Add) (uG λi j=>.int (i+j)):=JG λ_ _ _ _ _ _ _ q=>add_int q
theorem Jo:gw X (binaryOp .Sub) (uG λi j=>.int (i-j)):=JG λ_ _ _ _ _ _ _ q=>sub_int q
theorem Fz:gw X (binaryOp .FloorDiv) (rI M5 λi j=>.int (i/j)):=My λi j _ _ _ _ _ hc q=>by
 have h1:(0:Int)<j:=hc.1;have h2:j<1073741824:=hc.2;exact floordiv_int (by omega) (by rw[Int.fdiv_eq_ediv_of_nonneg i (by omega)];exact q) (.inl (PyProof.noPylong_small (by omega)))
theorem Ig:gw X (binaryOp .Mod) (rI (λ_ j=>0<j) λi j=>.int (i%j)):=My λi j _ _ _ _ _ hc q=>by
 have h1:(0:Int)<j:=hc;exact mod_int' (by omega) (by rw[Int.fmod_eq_emod_of_nonneg i (by omega)];exact q)
theorem IX:gw X (binaryOp .LShift) (rI M9 λi j=>.int (i*2 ^ j.toNat)):=My λ_ _ _ _ _ _ _ hc q=>lshift_int_small hc.1 hc.2.1 hc.2.2 q
theorem IL:gw X (binaryOp .BitAnd) (uG λi j=>.int (Builtin.bitAnd i j)):=JG λ_ _ _ _ _ _ _ q=>and_int q
theorem PM{f:W9->Sem W9}{g:Int->Int}
  (rule:∀(i:Int)(t:Tok)(s:W_)(Q:WR)(E:WR),Q (.int (g i) s.toks) {s with toks:=s.toks+1}->wpAny (model X.prog X.w) X.A (f (.int i t)) Q E s) :
  Pj X f (rU λi=>.int (g i)):=by
 intro pins s σ H x v Q I rx h;obtain⟨i,rfl,q⟩:=h;obtain⟨t,rfl⟩:=rx;exact rule i t s _ _ ⟨.int (g i),H,I.tok _,⟨_,rfl⟩,q⟩
theorem A8:Pj X (unaryOp .USub) (rU λi=>.int (-i)):=PM λ_ _ _ _ _ q=>neg_int q
end
section
variable {X:Cx}{a b c:Xi}{ta tb tc:TE}{pos:Pos}
theorem AW:gw X (compareOp .Lt) (uG λi j=>.bl (decide (i<j))):=JQ λ_ _ _ _ _ _ _ q=>lt_int q
theorem Bt:gw X (compareOp .LtE) (uG λi j=>.bl (decide (i<=j))):=JQ λ_ _ _ _ _ _ _ q=>le_int q
theorem LL:gw X (compareOp .Gt) (uG λi j=>.bl (decide (j<i))):=JQ λ_ _ _ _ _ _ _ q=>gt_int q
theorem gy(b:Xi){op:CmpOp}(h:op≠.In:=by decide)(h2:op≠.NotIn:=by decide):behindInMarks op b=false:=by
 have e1:(op==CmpOp.In)=false:=by cases op<;>first | rfl | exact absurd rfl h
 have e2:(op==CmpOp.NotIn)=false:=by cases op<;>first | rfl | exact absurd rfl h2
 cases b<;>simp[behindInMarks,e1,e2]
theorem El{op:CmpOp}{r:R2}(ho:gw X (compareOp op) r)(ha:PE X a ta)(hb:PE X b tb)(hm:behindInMarks op b=false):PE X (.Compare a [op] [b] pos) (Ey r ta tb):=by
 intro pins s σ H Q I h;exact wpAny_Compare1 (IC ha hb I h λv u s2 x y H2 I2 rx ry q=>ho pins s2 σ H2 x y v u Q I2 rx ry q) hm
def GV(t:TE):TT:=λσ H Q=>t σ H λx H'=>∃k,x=.bl k/\Q k H'
theorem F'{op:CmpOp}{r:R2}(ho:gw X (compareOp op) r)(ha:PE X a ta)(hb:PE X b tb)(hm:behindInMarks op b=false):PT X (.Compare a [op] [b] pos) (GV (Ey r ta tb)):=by
 intro pins s σ H Q I h;refine wpAny_isTrue_Compare1 (aZ (ha pins s σ H _ I h) λv s1 ⟨x,H1,I1,r1,q1⟩=>aZ (hb pins s1 σ H1 _ I1 q1) λu s2 ⟨y,H2,I2,r2,q2⟩=>
  aZ (ho pins s2 σ H2 x y v u _ I2 r1 r2 q2) λc s3 ⟨z,H3,I3,r3,k,e,q3⟩=>?_) hm
 subst e;cases r3;exact Tv ⟨H3,I3,q3⟩
def zY(r r':R2)(ta tb tc:TE):TE:=λσ H Q=>ta σ H λx H1=>tb σ H1 λy H2=>r x y H2 λz H3=>∃k,z=.bl k/\
 (if k=true then tc σ H3 λw' H4=>r' y w' H4 Q else Q (.bl false) H3)
theorem By{op op':CmpOp}{r r':R2}(ho:gw X (compareOp op) r)(ho':gw X (compareOp op') r')(ha:PE X a ta)(hb:PE X b tb)(hc:PE X c tc)
  (hm:lastMarks [op,op'] [b,c]=false:=by with_unfolding_all rfl):PT X (.Compare a [op,op'] [b,c] pos) (GV (zY r r' ta tb tc)):=by
 intro pins s σ H Q I h;refine isTrue_chain (aZ (ha pins s σ H _ I h) λv s1 ⟨x,H1,I1,r1,q1⟩=>test_link (aZ (hb pins s1 σ H1 _ I1 q1) λu s2 ⟨y,H2,I2,r2,q2⟩=>
  aZ (ho pins s2 σ H2 x y v u _ I2 r1 r2 q2) λd s3 ⟨z,H3,I3,r3,k,e,q3⟩=>?_)) hm
 subst e;cases r3;refine Tv ?_;cases k with
 | false=>
  obtain⟨k',e',q'⟩:=q3;cases e';exact ite_ff ⟨H3,I3,q'⟩
 | true=>
  refine ite_tt (test_last (aZ (hc pins s3 σ H3 _ I3 q3) λw' s4 ⟨z',H4,I4,r4,q4⟩=>aZ (ho' pins s4 σ H4 y z' u w' _ I4 r2 r4 q4) λd' s5 ⟨z2,H5,I5,r5,k2,e2,q5⟩=>?_));subst e2;cases r5;exact Tv ⟨H5,I5,q5⟩
def ME(K:W8)(x:V)(H:Hp)(k:Bool):Prop:=
 match x with
 | .non=>k=false
 | .bl b=>k=b
 | .int i=>k=(i != 0)
 | .str y=>y.length<=sizeLine/\k=((y.length:Int) != 0)
 | .byt y=>y.size<=sizeLine/\k=((y.size:Int) != 0)
 | .ref p=>(∃xs,de K H p xs/\k=!xs.isEmpty)\/(∃xs,cw K H p xs/\k=!xs.isEmpty)\/∃kvs,H p=some (.dK kvs)/\k=!kvs.isEmpty
 | _=>False
theorem uW{κ:Type}{kvs:List (κ×V)}{vs:List (κ×W9)}(r:KV kvs vs):(!vs.isEmpty)=!kvs.isEmpty:=by
 cases r<;>rfl
theorem mB{xs:Xq}{aQ:WY}(r:av xs aQ):(!aQ.toArray.isEmpty)=!xs.isEmpty:=by
 cases r<;>simp
theorem mh:(sizeLine:Nat)<2 ^ 63:=by rw[Sz];decide
theorem J7:Pq X (λx H Q=>∃k,ME X.K x H k/\Q k H):=by
 intro pins s σ H x v Q I rx h;obtain⟨k,e,q⟩:=h;have hl:=mh;have hs:sizeLine=16777216:=Sz;cases x with
 | non=>
  cases rx;have e':k=false:=e;subst e';exact truthy_none ⟨H,I,q⟩
 | bl b=>
  cases rx;have e':k=b:=e;subst e';exact Tv ⟨H,I,q⟩
 | int i=>
  obtain⟨t,rfl⟩:=rx;have e':k=(i != 0):=e;subst e';exact PySem.P.truthy_int ⟨H,I,q⟩
 | str y=>
  obtain⟨t,rfl⟩:=rx;obtain⟨hy,e'⟩:y.length<=sizeLine/\k=((y.length:Int) != 0):=e;subst e';exact PySem.P.truthy_str (by omega) ⟨H,I.tok _,q⟩
 | byt y=>
  obtain⟨t,rfl⟩:=rx;obtain⟨hy,e'⟩:y.size<=sizeLine/\k=((y.size:Int) != 0):=e;subst e';exact PySem.W.truthy_bytes (by omega) ⟨H,I.tok _,q⟩
 | ref p=>
  cases rx;have e':(∃xs,de X.K H p xs/\k=!xs.isEmpty)\/(∃xs,cw X.K H p xs/\k=!xs.isEmpty)\/∃kvs,H p=some (.dK kvs)/\k=!kvs.isEmpty:=e;rcases e' with ⟨xs,hx,e'⟩ | ⟨xs,hx,e'⟩ | ⟨kvs,hx,e'⟩
  .subst e';obtain⟨aQ,r,pl,hz⟩:=I.list hx;have hlen:=r.length;exact wpAny_truthy_list pl.isList (by simp only[u_];omega) ⟨H,I.tok _,by rw[mB r];exact q⟩
  .subst e';obtain⟨aQ,r,pl,hz⟩:=I.tuple hx;have hlen:=r.length;exact truthy_tuple pl (by simp only[u_];omega) ⟨H,I.tok _,by rw[mB r];exact q⟩
  .subst e';obtain⟨hz,hS,vs,r,m⟩:kvs.length<=sizeLine/\(p==sysModules)=false/\∃vs,KV kvs vs/\s.heap.DictOf (aA X.prog X.w) p vs:=I.hok p _ hx;have hlen:kvs.length=vs.length:=Paired.length r;exact wpAny_truthy_dict hS m (by omega) ⟨H,I.tok _,by rw[uW r];exact q⟩
 | _=>exact(show False from e).elim
theorem tS(ha:PE X a ta)(he:∀whole,isTrue a X.env whole=(do let v <- whole;standAt a.pos;holding [v] (truthy v))) :
  PT X a (λσ H Q=>ta σ H λx H'=>∃k,ME X.K x H' k/\Q k H'):=by
 intro pins s σ H Q I h;exact isTrue_plain (aZ (ha pins s σ H _ I h) λv s1 ⟨x,H1,I1,r1,q1⟩=>J7 pins s1 σ H1 x v Q I1 r1 q1) (he _)
theorem vals1{x:V}{us:WY}(r:av [x] us):∃u,us=[u]/\RelV x u:=by
 cases r with
 | cons r1 r2=>cases r2;exact⟨_,rfl,r1⟩
theorem vals2{x y:V}{us:WY}(r:av [x,y] us):∃u w',us=[u,w']/\RelV x u/\RelV y w':=by
 cases r with
 | cons r1 r2=>
  cases r2 with
  | cons r3 r4=>cases r4;exact⟨_,_,rfl,r1,r3⟩
theorem zu(hc:X.calm=true):dB X (.builtin "max") (λxs H Q=>∃i j,xs=[.int i,.int j]/\Q (.int (if j>i then j else i)) H):=by
 intro pins s σ H xs us Q I r h;obtain⟨i,j,rfl,q⟩:=h;obtain⟨u,w',rfl,⟨t,rfl⟩,⟨t',rfl⟩⟩:=vals2 r;refine max_two_ints (I.ok.hd hc) λh' tk k=>⟨_,H,I.kept k,?_,q⟩
 by_cases hj:j>i
 .rw[j_ hj,j_ hj];exact⟨_,rfl⟩
 .rw[k_ hj,k_ hj];exact⟨_,rfl⟩
theorem zc(hc:X.calm=true):dB X (.builtin "min") (λxs H Q=>∃i j,xs=[.int i,.int j]/\Q (.int (if j<i then j else i)) H):=by
 intro pins s σ H xs us Q I r h;obtain⟨i,j,rfl,q⟩:=h;obtain⟨u,w',rfl,⟨t,rfl⟩,⟨t',rfl⟩⟩:=vals2 r;refine min_two_ints (I.ok.hd hc) λh' tk k=>⟨_,H,I.kept k,?_,q⟩
 by_cases hj:j<i
 .rw[j_ hj,j_ hj];exact⟨_,rfl⟩
 .rw[k_ hj,k_ hj];exact⟨_,rfl⟩
theorem zw:dB X (.type "int") (λxs H Q=>(∃i,xs=[.int i]/\Q (.int i) H)\/∃k,xs=[.bl k]/\Q (.int (if k then 1 else 0)) H):=by
 intro pins s σ H xs us Q I r h;rcases h with ⟨i,rfl,q⟩ | ⟨k,rfl,q⟩
 .obtain⟨u,rfl,t,rfl⟩:=vals1 r;exact call_int_int ⟨.int i,H,I,⟨_,rfl⟩,q⟩
 .obtain⟨u,rfl,r1⟩:=vals1 r;cases r1;exact call_int_bool ⟨.int (if k then 1 else 0),H,I.tok _,⟨_,rfl⟩,q⟩
end
structure ObjM(h:Heap)(x dx C:Addr)(mA:Str->Option Value):Prop where
 obj:h.get? x=some (PySem.W.instObj C dx)
 ns:h.Ns1 dx mA
 ne:dx≠x
section
variable {prog:Xa}{w:Xe}{A:Xb}{E:WR}{s:W_}{K:W8}{x dx C f:Xh}{mA:WU}{name:Str}{v:W9}
end
section
variable {P:Xa}{w:Xe}{H H':Hp}{h h':Xd}{a C dx:Xh}{fs Nu:List (Str×V)}
end
structure Cls(K:PySem.W.Frag)(C:Addr):Prop where
 pg:PySem.W.plainGet K C Str.empty=true
 hd:PySem.W.hasDictIn K C=true
 po:PySem.W.plainOver K C=true
 sa:PySem.W.findIn K (.ref C) "__setattr__"=some (some (.builtin "object.__setattr__"))
structure Con(K:PySem.W.Frag)(C:Addr)(f:Str)(v:V)(u:Value):Prop where
 at_:PySem.W.findIn K (.ref C) f=some (some u)
 rel:RelV v u
 get:PySem.W.specialIn K u "__get__"=some none
 cp:PySem.W.copiedNames.contains f=false
structure Meth(K:PySem.W.Frag)(C:Addr)(m:Str)(f:Addr):Prop where
 at_:PySem.W.findIn K (.ref C) m=some (some (.ref f))
 fn:PySem.W.isFn K (.ref f)=true
 kp:PySem.W.keepIn K (.ref f)=true
section
variable {X:Cx}{pins:WS}{σ:St}{H:Hp}{s:W_}{a C dx:Xh}{fs:List (Str×V)}{f:Str}{v:V}{A:Xb}{E:WR}
end
section
variable {X:Cx}{o e value:Xi}{f:Str}{pos pos' tpos:Pos}{ta tv:TE}
end
section
variable {X:Cx}{pins:WS}{σ:St}{H:Hp}{s:W_}{A:Xb}{E:WR}{Q:WR}{c:W9}{b:Bool}
inductive nK(K:PySem.W.Frag)(H:Hp):V->Value->Prop where
 | non:nK K H .non (.type "NoneType")
 | bl (x:Bool):nK K H (.bl x) (.type "bool")
 | int (i:Int):nK K H (.int i) (.type "int")
 | str (x:Str):nK K H (.str x) (.type "str")
 | flt (x:UInt64):nK K H (.flt x) (.type "float")
 | lst {a:Addr} {xs:List V} (e:H a=some (.lst xs)):nK K H (.ref a) (.type "list")
 | frz {a:Addr} {o:Obj} {xs:List V} (e:H a=some (.frz o (.lst xs))):nK K H (.ref a) (.type "list")
 | tup {a:Addr} {xs:List V} (e:H a=some (.tup xs)):nK K H (.ref a) (.type "tuple")
 | dK {a:Addr} {kvs:List (Key×V)} (e:H a=some (.dK kvs)):nK K H (.ref a) (.type "dict")
 | dT {a:Addr} {kvs:List (List Key×V)} (e:H a=some (.dT kvs)):nK K H (.ref a) (.type "dict")
 | ins {a C dx:Addr} {fs:List (Str×V)} (e:H a=some (.ins C dx fs)) (cl:Cls K C) (ha:PySem.W.findIn K (.ref C) "__class__"=some (some (.builtin "object.__class__")))
   (hn:PySem.W.specialIn K (.builtin "object.__class__") "__get__"=some (some (.builtin "getset_descriptor.__get__"))) (htk:PySem.W.takesIn K (.builtin "object.__class__")=some true)
   (hm:PySem.W.mroIn K C (.type "object")=some true):nK K H (.ref a) (.ref C)
end
structure a9(k:Nat)(A:Around):Prop where
 hd:A.handled=none
 dp:A.depth+3*k+5<recursionLimit
 un:A.units+16*k+200<cLine
theorem a9.mono{j k:Nat}{A:Xb}(r:a9 k A)(h:j<=k):a9 j A:=⟨r.hd,by have:=r.dp;omega,by have:=r.un;omega⟩
theorem a9.deeper{k:Nat}{A:Xb}(r:a9 (k+1) A)(env:Env):a9 k (A.deeper env):=
 ⟨r.hd,by have:=r.dp;show A.depth+1+3*k+5<_;omega,by have:=r.un;show A.units+3+16*k+200<_;omega⟩
theorem a9.in1{k:Nat}{A:Xb}(r:a9 (k+1) A):a9 k A.in1:=
 ⟨r.hd,by have:=r.dp;show A.depth+3*k+5<_;omega,by have:=r.un;show A.units+1+16*k+200<_;omega⟩
theorem u7{A:Xb}{C:Xh}{us:WY}{kw:List (Str×W9)}:(A.under (.builtin "type.__call__" ⟨.ref C::us,kw⟩)).depth=A.depth+1:=by
 first | rfl | simp[Around.under,Code.weight,Code.isCreation,Code.isGuard,Code.isCaller,Code.frames,Code.isFrame,guardIds]
theorem vv{A:Xb}{C:Xh}{us:WY}{kw:List (Str×W9)}:(A.under (.builtin "type.__call__" ⟨.ref C::us,kw⟩)).units=A.units+1:=by
 first | rfl | simp[Around.under,Code.cUnits,Code.frames,Code.isFrame]
theorem a9.make{k:Nat}{A:Xb}(r:a9 (k+1) A)(C:Xh)(us:WY)(kw:List (Str×W9)):a9 k (A.under (.builtin "type.__call__" ⟨.ref C::us,kw⟩)):=
 ⟨r.hd,by have:=r.dp;rw[u7];omega,by have:=r.un;rw[vv];omega⟩
theorem a9.depth{k:Nat}{A:Xb}(r:a9 k A):A.depth<recursionLimit:=by have:=r.dp;omega
theorem a9.units{k:Nat}{A:Xb}(r:a9 k A):A.units+64<cLine:=by have:=r.un;omega
def tNil:TA:=λ_ H Q=>Q [] H
def d8(ta:TE)(tr:TA):TA:=λσ H Q=>ta σ H λx H1=>tr σ H1 λxs H2=>Q (x::xs) H2
section
variable {X:Cx}{e:Xi}{es:W3}{te:TE}{t:TA}{pos:Pos}
theorem bN:PA X [] tNil:=λ_ _ _ _ H Q I h=>Wu ⟨[],H,I,.nil,h⟩
theorem aJ(ha:PE X e te)(hr:PA X es t)(hs:starEach (e::es) X.env=(false,eval e X.env)::starEach es X.env:=by rfl):PA X (e::es) (d8 te t):=by
 intro pos pins s σ H Q I h;rw[hs];show wpAny _ _ (spliced ((false,eval e X.env)::backTo pos (starEach es X.env))) _ _ s;refine UL (aZ (ha pins s σ H _ I h) λu s1 ⟨x,H1,I1,r1,q1⟩=>?_);exact aZ (hr pos pins s1 σ H1 _ I1 q1) λus s2 ⟨xs,H2,I2,r2,q2⟩=>⟨x::xs,H2,I2,.cons r1 r2,q2⟩
def Pu(t:TA):TE:=λσ H Q=>t σ H λxs H1=>xs.length<=sizeLine/\∀p,H1 p=none->Q (.ref p) (upd H1 p (.tup xs))
def DB(t:TA):TE:=λσ H Q=>t σ H λxs H1=>xs.length<=sizeLine/\∀p,H1 p=none->Q (.ref p) (upd H1 p (.lst xs))
theorem Jf{x1}(h:PA X es t):PE X (.Tuple es x1 pos) (Pu t):=by
 intro pins s σ H Q I hq;refine wpAny_Tuple_spliced (aZ (h pos pins s σ H _ I hq) λus s1 ⟨xs,H1,I1,r,z,q⟩=>⟨by rw[<- r.length];exact z,?_⟩);have hf:H1 s1.heap.objs.size=none:=I1.hok.fresh (h_ _);refine⟨.ref s1.heap.objs.size,upd H1 s1.heap.objs.size (.tup xs),I1.laid (t':=s1.toks) (λb u e=>e_ _ e) (h_ _) ?_,rfl,q _ hf⟩;exact⟨z,us,r,⟨_,n_ _ rfl,rfl,_,rfl⟩⟩
theorem rh(h:PA X es t):PE X (.List es pos) (DB t):=by
 intro pins s σ H Q I hq;refine wpAny_List_spliced (aZ (h pos pins s σ H _ I hq) λus s1 ⟨xs,H1,I1,r,z,q⟩=>⟨by rw[<- r.length];exact z,?_⟩);have hf:H1 s1.heap.objs.size=none:=I1.hok.fresh (h_ _);refine⟨.ref s1.heap.objs.size,upd H1 s1.heap.objs.size (.lst xs),I1.laid (t':=s1.toks) (λb u e=>e_ _ e) (h_ _) ?_,rfl,q _ hf⟩;exact⟨z,us,0,r,n_ _ rfl⟩
end
abbrev Sp:=Xq->Hp->VK->XK->Prop
abbrev CXT:=List Env->Hp->W_->XK->WR
structure ug(P:Program)(w:World)(K:PySem.W.Frag)(mg:Str->Option Value)(base:Heap)(A:Around)(outer:List Env)(s:Shared)(H:Hp):Prop where
 frames:A.frames=some outer
 mod:Mod K mg base
 bs:∀b o,base.get? b=some o->s.heap.get? b=some o/\H b=none
 bsz:base.objs.size<=s.heap.objs.size
 funs:s.heap.FunFrames base outer
 frf:∀b∈k7 outer,H b=none
 hok:lb P w H s.heap
 bare:AllBare s.gens
 tb:∀P q,tq K P=some q->H P=some (.tab q)
def CE(outer:List Env)(P:Xa)(w:Xe)(H:Hp)(s:W_)(Q:VK)(u:W9)(s':W_):Prop:=
 ∃v H',s'.os=s.os/\AllBare s'.gens/\Un (k7 outer) [] H H' s.heap s'.heap/\lb P w H' s'.heap/\RelV v u/\Q v H'
def CR(CX:CXT)(outer:List Env)(P:Xa)(w:Xe)(H:Hp)(s:W_)(Q:VK)(E:XK)(r:Result)(s':W_):Prop:=
 match r with
 | .ok (.ret u)=>CE outer P w H s Q u s'
 | .ok _=>False
 | .error e=>CX outer H s E e s'
structure dh(P:Program)(w:World)(K:PySem.W.Frag)(mg:Str->Option Value)(base:Heap)(CX:CXT)(k:Nat)(f:Addr)(fd:FuncData)(ps:List Str)(sp:Sp):Prop where
 len:∀vs H Q E,sp vs H Q E->vs.length=ps.length
 run:∀(A:Around)(outer:List Env)(s:Shared)(H:Hp)(args:Args)(us:List Value)(vs:List V)(Q:VK)(E:XK),a9 k A->ug P w K mg base A outer s H->BindsTo s fd args (ps.zip us)->av vs us->sp vs H Q E->
  codeAny (model P w) A (.call (.ref f) args) (CR CX outer P w H s Q E) s
theorem dh.mono{P:Xa}{w:Xe}{K:W8}{mg:WU}{base:Xd}{CX:CXT}{j k:Nat}{f:Xh}{fd:Xf}{ps:W1}{sp:Sp}(F:dh P w K mg base CX j f fd ps sp)(h:j<=k) :
  dh P w K mg base CX k f fd ps sp:=⟨F.len,λA outer s H args us vs Q E hr=>F.run A outer s H args us vs Q E (hr.mono h)⟩
theorem ug.make{P:Xa}{w:Xe}{K:W8}{mg:WU}{base:Xd}{A:Xb}{outer:List Env}{s:W_}{H:Hp}(e:ug P w K mg base A outer s H)(C:Xh)(us:WY)(kw:List (Str×W9)) :
  ug P w K mg base (A.under (.builtin "type.__call__" ⟨.ref C::us,kw⟩)) outer s H:=⟨by first | exact e.frames | (simpa [Around.under,Code.envs,Code.isFrame,pushEnvs]using e.frames),e.mod,e.bs,e.bsz,e.funs,e.frf,e.hok,e.bare,e.tb⟩
section
variable {X:Cx}{pins:WS}{σ:St}{H:Hp}{s s':W_}
theorem Inv.env0(I:Inv X pins σ H s):ug X.prog X.w X.K X.mg X.base X.A X.stack s H:=
 ⟨I.ok.frames,I.ok.mod,I.bs,B_ I.ok.bsz I.sz,I.stack,I.stkFree,I.hok,I.bare,I.tb⟩
theorem Inv.after{Q:VK}{u:W9}(I:Inv X pins σ H s)(h:CE X.stack X.prog X.w H s Q u s'):EP X pins σ Q u s':=by
 obtain⟨v,H',os,bare,un,hok,r,q⟩:=h;obtain⟨hh,g,d,t,os'⟩:=s';obtain rfl:os'=s.os:=os;exact⟨v,H',I.call (h':=hh) (g':=g) (d':=d) (t':=t) (ch:=[]) un hok bare (λb z=>absurd z (by simp)),r,q⟩
end
def He(sp:Sp)(dvs:Xq)(E:XK)(t:TA):TE:=λσ H Q=>t σ H λvs H1=>sp (vs++dvs) H1 Q E
def Binds(K:W8)(fd:Xf)(ps:W1)(ds:WY):Prop:=
 ∀(s:W_)(us:WY),K.In s.heap->(us++ds).length=ps.length->BindsTo s fd ⟨us,[]⟩ (ps.zip (us++ds))
theorem Binds.all{K:W8}{fd:Xf}{ps:W1}(h:∀us:WY,us.length=ps.length->bindArgs fd ⟨us,[]⟩=pure (ps.zip us)):Binds K fd ps []:=λs us _ hl=>by
 rw[SC]at hl ⊢;exact .of_eq (h us hl)
def vo(CX:CXT)(X:Cx)(E:XK):Prop:=∀(pins:WS)(σ:St)(H:Hp)(s:W_)(e:W9)(s':W_),Inv X pins σ H s->CX X.stack H s E e s'->X.xe e s'
section
variable {X:Cx}{CX:CXT}{k:Nat}{f C:Xh}{fd:Xf}{ps:W1}{sp:Sp}{dvs:Xq}{ds:WY}{E:XK}{x m:Str}{p pos apos:Pos}{e o:Xi}{es:W3}{ta:TE}{t:TA}
theorem J6{pins:WS}{σ:St}{H:Hp}{s:W_}{Q:VK}{us:WY}{vs:Xq}(F:dh X.prog X.w X.K X.mg X.base CX k f fd ps sp)(hr:a9 k X.A)(hb:Binds X.K fd ps ds)(hd:av dvs ds)(hx:vo CX X E)
  (I:Inv X pins σ H s) (r:av vs us) (h:sp (vs++dvs) H Q E):wpAny (model X.prog X.w) X.A (call (.ref f) us) (EP X pins σ Q) X.xe s:=by
 have r2:av (vs++dvs) (us++ds):=r.append hd;have hl:(us++ds).length=ps.length:=by rw[<- r2.length];exact F.len _ _ _ _ h
 refine VJ (U7 (F.run X.A X.stack s H ⟨us,[]⟩ (us++ds) (vs++dvs) Q E hr I.env0 (hb s us I.kIn hl) r2 h) λr s' hq=>?_);cases r with
 | error e=>exact hx pins σ H s e s' I hq
 | ok fl=>
  cases fl with
  | ret u=>exact I.after hq
  | next=>exact False.elim hq
  | brk=>exact False.elim hq
  | cont=>exact False.elim hq
theorem F6(F:dh X.prog X.w X.K X.mg X.base CX k f fd ps sp)(hr:a9 k X.A)(hg:Gl X x)(hm:X.mg x=some (.ref f))(hk:PySem.W.keepIn X.K (.ref f)=true)(hb:Binds X.K fd ps ds)(hd:av dvs ds)(hx:vo CX X E)
  (ha:PA X (e::es) t) (kF:(x==("__debug__":Str))=false:=by decide) (he:starEach (e::es) X.env=(false,eval e X.env)::starEach es X.env:=by rfl) (eO:(backTo pos (starEach es X.env)).any (·.1)=false:=by rfl) :
  PE X (.Call (.Name x p) (e::es) [] pos) (He sp dvs E t):=by
 intro pins s σ H Q I h;refine TM (gY I hg hm ?_ kF);refine UM (h₀:=X.base) I.ok.mod.kin hk (aZ (ha pos pins s σ H _ I h) λus s1 ⟨vs,H1,I1,r,q⟩=>⟨I1.kIn,?_⟩) he eO;exact J6 F hr hb hd hx I1 r q
structure Mk(K:PySem.W.Frag)(C f:Addr):Prop where
 makes:PySem.W.makesIn K C=true
 init:PySem.W.findIn K (.ref C) "__init__"=some (some (.ref f))
 fn:PySem.W.isFn K (.ref f)=true
 kp:PySem.W.keepIn K (.ref C)=true
end
section
variable {X:Cx}{CX:CXT}{k:Nat}{f C:Xh}{fd:Xf}{ps ks:W1}{sp:Sp}{E:XK}{x m:Str}{p pos apos Nz:Pos}{e o:Xi}{es:W3}{kws:List Keyword}{te ta:TE}{t tk:TA}{nm:Option Str}
structure KBinds(K:PySem.W.Frag)(fd:FuncData)(ps ks:List Str)(g:List Value->List Value->List Value)(gV:List V->List V->List V):Prop where
 to:∀(s:Shared)(us ws:List Value),K.In s.heap->(g us ws).length=ps.length->BindsTo s fd ⟨us,ks.zip ws⟩ (ps.zip (g us ws))
 rel:∀{vs:List V}{us:List Value}{zs:List V}{ws:List Value},av vs us->av zs ws->av (gV vs zs) (g us ws)
variable {g:WY->WY->WY}{gV:Xq->Xq->Xq}
end
structure bC(N P:List Str)(sc:Scope):Prop where
 kind:sc.kind=.function
 co:sc.isCoroutine=false
 gen:sc.isGenerator=false
 nd:N.Nodup
 pre:N.take P.length=P
 par:∀x∈P,sc.names.lookup x=some .local\/sc.names.lookup x=some .cell
 nofree:∀y∈sc.names,y.2≠.free
theorem pJ{kindOf:Str->Option NameKind}{x:Str}:∀{binds:List (Str×W9)}{m:WU},(∀v,(x,v)∉binds)->bindL kindOf binds m x=m x
 | [],_,_=>rfl
 | (n,v)::r,m,h=>by
  unfold bindL;rw[pJ λw hw=>h w (l_ _ hw)]
  split
  .have:x≠n:=by rintro rfl;exact h v o_
   simp[this]
  .rfl
theorem oF{kindOf:Str->Option NameKind}{x:Str}:∀{binds:List (Str×W9)}{m:WU},(∀v,(x,v)∉binds)->bindC kindOf binds m x=m x
 | [],_,_=>rfl
 | (n,v)::r,m,h=>by
  unfold bindC;rw[oF λw hw=>h w (l_ _ hw)]
  split
  .rfl
  .have:x≠n:=by rintro rfl;exact h v o_
   simp[this]
theorem pI{kindOf:Str->Option NameKind}{x:Str}{v:W9}:∀{P:W1}{vs:WY}{i:Nat}{m:WU},P.Nodup->P[i]?=some x->vs[i]?=some v->kindOf x=some .local->
  bindL kindOf (P.zip vs) m x=some v
 | [],_,_,_,_,h,_,_=>by simp at h
 | _::_,[],_,_,_,_,h,_=>by simp at h
 | p::P,w::vs,0,m,nd,h1,h2,hk=>by
  simp at h1 h2;subst h1;subst h2;show bindL kindOf ((p,w)::P.zip vs) m p=_;unfold bindL;rw[pJ λv hv=>(UR.mp nd).1 (US hv).1,j_ hk];simp
 | p::P,w::vs,i+1,m,nd,h1,h2,hk=>by
  show bindL kindOf ((p,w)::P.zip vs) m x=_;unfold bindL;exact pI (i:=i) (UR.mp nd).2 (by simpa using h1) (by simpa using h2) hk
theorem pT{kindOf:Str->Option NameKind}{x:Str}{v:W9}:∀{P:W1}{vs:WY}{i:Nat}{m:WU},P.Nodup->P[i]?=some x->vs[i]?=some v->kindOf x≠some .local->
  bindC kindOf (P.zip vs) m x=some v
 | [],_,_,_,_,h,_,_=>by simp at h
 | _::_,[],_,_,_,_,h,_=>by simp at h
 | p::P,w::vs,0,m,nd,h1,h2,hk=>by
  simp at h1 h2;subst h1;subst h2;show bindC kindOf ((p,w)::P.zip vs) m p=_;unfold bindC;rw[oF λv hv=>(UR.mp nd).1 (US hv).1,k_ hk];simp
 | p::P,w::vs,i+1,m,nd,h1,h2,hk=>by
  show bindC kindOf ((p,w)::P.zip vs) m x=_;unfold bindC;exact pT (i:=i) (UR.mp nd).2 (by simpa using h1) (by simpa using h2) hk
def start(N:W1)(vs:Xq):St:=vs.map some++List.replicate (N.length-vs.length) none
def eM(CX:CXT)(P:Xa)(w:Xe)(K:W8)(mg:WU)(base:Xd)(N:W1)(qual:Str)(scope:Xg)(f:Xh)(cd:W9)(A:Xb)(outer:List Env)(s:W_)(H:Hp)(E:XK):Cx where
 prog:=P
 w:=w
 K:=K
 mg:=mg
 base:=base
 A:=A.deeper (envOfC qual scope s.heap.objs.size f cd)
 N:=N
 s₀:=s
 H₀:=H
 env:=envOfC qual scope s.heap.objs.size f cd
 outer:=outer
 stack:=envOfC qual scope s.heap.objs.size f cd::outer
 ex:=[]
 calm:=true
 fn:=λ_=>true
 pn:=[]
 xe:=λe s'=>wpAny (model P w) (A.deeper (envOfC qual scope s.heap.objs.size f cd)) (leaving (envOfC qual scope s.heap.objs.size f cd) e) (λ_ NA=>CX outer H s E e NA) (λe' NA=>CX outer H s E e' NA) s'
theorem tI{sc:Xg}{n:Nat}{x:Str}(h:sc.names.lookup x=some .cell):∃c,(cellsFrom n sc.names []).lookup x=some c:=by
 have q:=UN sc.names n [] (.inl h);exact Option.isSome_iff_exists.mp q
theorem ki{CX:CXT}{P:Xa}{w:Xe}{K:W8}{mg:WU}{base:Xd}{N ps:W1}{qual:Str}{scope:Xg}{f:Xh}{cd:W9}{A:Xb}{outer:List Env}{s s1:W_}{H:Hp}{E:XK}{us:WY}{vs:Xq}
  (S:bC N ps scope) (hd:A.handled=none) (e0:ug P w K mg base A outer s H) (hl:vs.length=ps.length) (r:av vs us)
  (x:InCallC s s.heap.objs.size (bindL (envOfC qual scope s.heap.objs.size f cd).kindOf (ps.zip us) λ_=>none) (cellsFrom (s.heap.objs.size+1) scope.names []) (bindC (envOfC qual scope s.heap.objs.size f cd).kindOf (ps.zip us) λ_=>none) s1) :
  Inv (eM CX P w K mg base N qual scope f cd A outer s H E) [] (start N vs) H s1:=by
 have eO:ps.length<=N.length:=by have:=Tn List.length S.pre;rw[SZ]at this;omega
 obtain⟨h1,tk,rfl,hk⟩:=x.done;have Dr:∀b:Xh,b∉(eM CX P w K mg base N qual scope f cd A outer s H E).ex:=λb z=>absurd (show b∈([]:W2)from z) (by simp);refine⟨⟨e0.mod,S.kind,rfl,rfl,h_ _,λy z c h1 h2=>?_,λy hy=>?_,λy c _ h=>?_,λ_=>hd,Around.frames_deeper e0.frames,.inr ⟨rfl,rfl⟩,λb z=>absurd z (Dr b),e0.bs,e0.bsz,λb _ _=>Dr b,λb z=>absurd z (Dr b),e0.funs,e0.frf,e0.tb⟩,
  rfl,e0.bare,Un.kept hk,⟨_,x.toInCall.ns,λi y v h1 h2 h3=>?_⟩,λy c h=>⟨_,x.cell y c h⟩,e0.hok.fresh (h_ _),λy c h=>?_,λp hp=>absurd (show p∈([]:WS)from hp) (by simp),e0.hok.kept hk,?_⟩
 .exact name_of_addr x.apart (SL h1) (SL h2)
 .have hy:scope.names.lookup y=some .cell\/scope.names.lookup y=some .free:=hy;rcases hy with hy | hy
  .exact tI hy
  .exact absurd rfl (S.nofree _ (SL hy))
 .exact TR (x.above y c (SL h))
 .have hi:i<vs.length:=by
   unfold start at h2
   by_cases hi:i<vs.length
   .exact hi
   .rw[G_ (by simpa using hi)]at h2;rw[S0]at h2
    split at h2<;>cases h2
  have ha:vs[i]?=some v:=by
   unfold start at h2;rw[I_ (by simpa using hi),m_]at h2;cases e:vs[i]? with
   | none=>rw[e]at h2;cases h2
   | some a=>rw[e]at h2;cases h2;rfl
  obtain⟨u,hu,rv⟩:=r.get ha;have hp:ps[i]?=some y:=by
   rw[<- S.pre,List.getElem?_take_of_lt (by omega)];exact h1
  have Rg:ps.Nodup:=by rw[<- S.pre];exact S.nd.sublist (Wv _ _)
  refine⟨u,rv,?_⟩;rcases S.par y (R_ hp)with k | k
  .exact .inl ⟨k,pI Rg hp hu k⟩
  .obtain⟨c,e⟩:=tI (n:=s.heap.objs.size+1) k;refine .inr ⟨.inl k,c,e,?_⟩;have q:=x.cell y c e;rw[pT Rg hp hu (by show scope.names.lookup y≠_;rw[k];decide)]at q;exact q
 .exact e0.hok.fresh (TR (x.above y c (SL h)))
 .unfold start;show _=N.length;rw[r_,c_,Uo];omega
theorem wF{CX:CXT}{P:Xa}{w:Xe}{K:W8}{mg:WU}{base:Xd}{k:Nat}{f:Xh}{name qual:Str}{params:Arguments}{body:W4}{scope:Xg}{dV kV doc pm bq ct oc:W9}{an od:W0}
  {pV:WT} {N ps:W1} {sp:Sp} (lk:K.lookup f=some ⟨oc,od,.func (PySem.W.fnOf name qual params body scope dV kV doc pm an bq ct),pV⟩) (dO:PySem.W.codeIn K bq qual=true) (S:bC N ps scope)
  (len:∀vs H Q E,sp vs H Q E->vs.length=ps.length)
  (hbody:∀(A:Xb)(outer:List Env)(s:W_)(H:Hp)(vs:Xq)(Q:VK)(E:XK),a9 k (A.deeper (envOfC qual scope s.heap.objs.size f bq))->sp vs H Q E->
   ∃t,PSs (eM CX P w K mg base N qual scope f bq A outer s H E) body t/\t {nx:=λ_ H'=>Q .non H',rt:=Q} (start N vs) H) :
  dh P w K mg base CX (k+1) f (PySem.W.fnOf name qual params body scope dV kV doc pm an bq ct) ps sp:=by
 refine⟨len,λA outer s H args us vs Q E hr e0 hb r lT=>?_⟩;have hl:=len _ _ _ _ lT;have KX:K.In s.heap:=e0.mod.kin.keeps λb o e=>(e0.bs b o e).1;have lim:s.heap.NoLimit:=e0.mod.nolimit.keeps λb o e=>(e0.bs b o e).1;have bo:∀y∈ps.zip us,scope.names.lookup y.1=some .local\/(scope.names.lookup y.1=some .cell/\((cellsFrom (s.heap.objs.size+1) scope.names []).lookup y.1).isSome=true):=λ⟨n,v⟩ hy=>by
  rcases S.par n (US hy).1 with q | q
  .exact .inl q
  .exact .inr ⟨q,UN _ _ _ (.inl q)⟩
 refine VG hr.depth (KX _ _ lk) rfl S.co S.gen rfl (Wi KX dO) (hb _ _ _ _ ?_);refine U3 S.kind bo λenv he s1 x=>?_;subst he;refine⟨lim.keeps x.toInCall.keep,codeAny_func ?_⟩;obtain⟨t,ht,hq⟩:=hbody A outer s H vs Q E (hr.deeper _) lT;have I:Inv (eM CX P w K mg base N qual scope f bq A outer s H E) [] (start N vs) H s1:=ki S hr.hd e0 hl r x;refine SG (ht [] s1 (start N vs) H _ I hq) (λfl s' hs=>?_) λe s' hs=>hs;have fin:∀{σ':St}{H':Hp}{v:V}{u:W9},Inv (eM CX P w K mg base N qual scope f bq A outer s H E) [] σ' H' s'->RelV v u->Q v H'->CE outer P w H s Q u s':=
  λ{σ' H' v u} J rv q=>⟨v,H',J.os,J.bare,J.base,J.hok,rv,q⟩
 cases fl with
 | ret u=>
  obtain⟨v,σ',H',J,rv,q⟩:=hs;exact fin J rv q
 | next=>
  obtain⟨σ',H',J,q⟩:=hs;exact fin (v:=V.non) (u:=Value.none) J rfl q
 | brk=>
  obtain⟨_,_,_,q⟩:=hs;exact False.elim q
 | cont=>
  obtain⟨_,_,_,q⟩:=hs;exact False.elim q
section
variable {X:Cx}{x:Str}{p pos:Pos}{e:Xi}{es:W3}{t:TA}{id T:String}{r:Xq->Hp->VK->Prop}
def Od(r:Xq->Hp->VK->Prop)(t:TA):TE:=λσ H Q=>t σ H λvs H1=>r vs H1 Q
theorem gq(hc:dB X (.builtin id) r)(hg:Gl X x)(hm:X.mg x=none)(hv:bootBuiltins x=some (.builtin id))(ha:PA X (e::es) t)(hn:x≠"__name__":=by decide)(kF:(x==("__debug__":Str))=false:=by decide)
  (he:starEach (e::es) X.env=(false,eval e X.env)::starEach es X.env:=by rfl) (eO:(backTo pos (starEach es X.env)).any (·.1)=false:=by rfl):PE X (.Call (.Name x p) (e::es) [] pos) (Od r t):=by
 intro pins s σ H Q I h;refine TM (gM I hg hm hv ?_ hn kF);exact VL (aZ (ha pos pins s σ H _ I h) λus s1 ⟨vs,H1,I1,r1,q1⟩=>hc pins s1 σ H1 vs us Q I1 r1 q1) he eO
theorem y7(hc:dB X (.type T) r)(hg:Gl X x)(hm:X.mg x=none)(hv:bootBuiltins x=some (.type T))(ha:PA X (e::es) t)(hn:x≠"__name__":=by decide)(kF:(x==("__debug__":Str))=false:=by decide)
  (he:starEach (e::es) X.env=(false,eval e X.env)::starEach es X.env:=by rfl) (eO:(backTo pos (starEach es X.env)).any (·.1)=false:=by rfl):PE X (.Call (.Name x p) (e::es) [] pos) (Od r t):=by
 intro pins s σ H Q I h;refine TM (gM I hg hm hv ?_ hn kF);exact T8 (aZ (ha pos pins s σ H _ I h) λus s1 ⟨vs,H1,I1,r1,q1⟩=>hc pins s1 σ H1 vs us Q I1 r1 q1) he eO
end
end L2
namespace HT
open PySem PyProof.Rows
theorem sx(A:Xb)(s:W_)(a:Int)(t:Tok)(c:Int)(u:Tok)(prog:Xa)(w:Xe)(E:WR)(Q:WR)(h:Q (.bool (decide (a<c))) s) :
  wpAny (model prog w) A (richCompare .Lt (.int a t) (.int c u)) Q E s:=
 (PyProof.Rows.lt_int h:wpAny (model prog w) A (compareOp .Lt (.int a t) (.int c u)) Q E s)
section
open PySem.SeqAt
open PySem.AutoSeq1 (wpAny_loadPart')
open PySem.MeetsSeq PySem.MeetsSeq2 PySem.MeetsSeq3
end
section
variable {prog:Xa}{w:Xe}{A:Xb}{E:WR}{s:W_}
theorem Eh{t b:Xh}{vs ws:WY}{Q:WR}(ht:IsTup s.heap t vs.toArray)(hb:IsTup s.heap b ws.toArray)(hv:vs≠[])
  (h1:ws=[]->Q (.ref t) s) (h2:ws≠[]->Q (.ref s.heap.objs.size) {s with heap:=s.heap.push {cls:=.type "tuple",data:=.seq (vs++ws).toArray}})
  (hsz:vs.length+ws.length<=sizeLine):wpAny (model prog w) A (binaryOp .Add (.ref t) (.ref b)) Q E s:=by
 obtain⟨⟨cls,dd,data,sl⟩,ho,hc,n,hd⟩:=id ht;obtain⟨⟨Kl,zB,data2,Ds⟩,Dt,rK,n2,hd2⟩:=id hb;simp only at hc hd rK hd2;subst hc hd rK hd2;have e:vs.toArray++ws.toArray=(vs++ws).toArray:=by simp
 by_cases hw:ws=[]
 .exact concat_meets ⟨_,ho,rfl⟩ ⟨_,Dt,rfl⟩ noFill_tuple_add seq_tuple_add Vv Vo (Vd _ _)
   (tuple_addW1 t b vs.toArray ws.toArray n n2 dd zB sl Ds (by simpa using hv) (by simp[hw])) ⟨ho,Dt,h1 hw⟩
 .refine concat_meets ⟨_,ho,rfl⟩ ⟨_,Dt,rfl⟩ noFill_tuple_add seq_tuple_add Vv Vo (Vd _ _)
   (tuple_addW2 t b vs.toArray ws.toArray n n2 dd zB sl Ds (by simpa using hv) (by simpa using hw) (by rw[u_,u_];exact hsz)) ⟨ho,Dt,?_⟩
  rw[e];exact h2 hw
def oM(n d:Nat):Option Int->Nat
 | none=>d
 | some v=>if v<0 then(v+(n:Int)).toNat else min v.toNat n
theorem Ct(n d:Nat):oM n d none=d:=rfl
theorem Gi(n d k:Nat):oM n d (some (k:Int))=min k n:=by
 show(if(k:Int)<0 then((k:Int)+(n:Int)).toNat else min (k:Int).toNat n)=min k n;rw[k_ (by omega),SO]
end
end HT
namespace L2
open PySem PySem.Spec PyProof.Rows
abbrev TO:=St->Hp->(Option Int->Hp->Prop)->Prop
def PO(X:Cx)(e:Option Xi)(t:TO):Prop:=
 ∀(pins:WS)(s:W_)(σ:St)(H:Hp)(Q:Option Int->Hp->Prop),Inv X pins σ H s->t σ H Q->
  wpAny (model X.prog X.w) X.A (evalPart e X.env) (λu s'=>∃o H',Inv X pins σ H' s'/\IsPart u o/\Q o H') X.xe s
def tNoPart:TO:=λ_ H Q=>Q none H
def L9(t:TE):TO:=λσ H Q=>t σ H λx H1=>∃i,x=.int i/\Q (some i) H1
section
variable {X:Cx}{e:Xi}{te:TE}{lo hi:Option Xi}{tl th:TO}{pos p2:Pos}
theorem DP:PO X none tNoPart:=by
 intro pins s σ H Q I h;rw[evalPart_none];exact d_ ⟨none,H,I,.none,h⟩
theorem v8(h:PE X e te):PO X (some e) (L9 te):=by
 intro pins s σ H Q I hw;rw[evalPart_some];refine aZ (h pins s σ H _ I hw) λu s1 ⟨x,H1,I1,r1,q1⟩=>?_;obtain⟨i,rfl,q⟩:=q1;obtain⟨t,rfl⟩:=r1;exact⟨some i,H1,I1,.int i t,q⟩
def Q7(X:Cx)(r:V->Option Int->Option Int->Hp->VK->Prop):Prop:=
 ∀(pins:WS)(s:W_)(σ:St)(H:Hp)(x:V)(v vl vu:W9)(lo hi:Option Int)(sl:Xh)(Q:VK),Inv X pins σ H s->RelV x v->s.heap.IsSliceOf sl vl vu .none->IsPart vl lo->IsPart vu hi->r x lo hi H Q->
  ∃T id,typeLookup (.type T) "__getitem__"=pure (some (.builtin id))/\s.TypeIs v T/\wpAny (model X.prog X.w) X.A (getItem v (.ref sl)) (EP X pins σ Q) X.xe s
def Si(r:V->Option Int->Option Int->Hp->VK->Prop)(te:TE)(tl th:TO):TE:=λσ H Q=>te σ H λx H1=>tl σ H1 λl H2=>th σ H2 λu H3=>r x l u H3 Q
theorem Ck{r:V->Option Int->Option Int->Hp->VK->Prop}(hr:Q7 X r)(he:PE X e te)(hl:PO X lo tl)(hu:PO X hi th):PE X (.Subscript e (.Slice lo hi none p2) pos) (Si r te tl th):=by
 intro pins s σ H Q I h;refine Subscript_ (aZ (he pins s σ H _ I h) λv s1 ⟨x,H1,I1,r1,q1⟩=>?_);refine wpAny_Slice (aZ (hl pins s1 σ H1 _ I1 q1) λvl s2 ⟨l,H2,I2,pl,q2⟩=>aZ (hu pins s2 σ H2 _ I2 q2) λvu s3 ⟨u,H3,I3,pu,q3⟩=>?_);rw[evalPart_none];refine d_ ?_;have I4:Inv X pins σ H3 {s3 with heap:=s3.heap.push {cls:=.type "slice",data:=.fields #[vl,vu,.none]}}:=I3.kept (t':=s3.toks) λb ob q=>e_ _ q;obtain⟨T,id,hT,ht,hg⟩:=hr pins {s3 with heap:=s3.heap.push {cls:=.type "slice",data:=.fields #[vl,vu,.none]}} σ H3 x v vl vu l u s3.heap.objs.size Q I4 r1 (Heap.IsSliceOf.new ..) pl pu q3;show wpAny (model X.prog X.w) X.A (subscriptTail e (.Slice lo hi none p2) v (.ref s3.heap.objs.size)) (EP X pins σ Q) X.xe {s3 with heap:=s3.heap.push {cls:=.type "slice",data:=.fields #[vl,vu,.none]}};exact tail_any (ops:=[.ref s3.heap.objs.size,v]) ht hT hg (by with_unfolding_all rfl)
def zj(xs:Xq)(lo hi:Option Int):Xq:=(xs.drop (HT.oM xs.length 0 lo)).take (HT.oM xs.length xs.length hi-HT.oM xs.length 0 lo)
theorem tP(xs:Xq)(lo hi:Option Int):(zj xs lo hi).length<=xs.length:=by
 unfold zj;rw[SZ,List.length_drop];omega
def LH(K:W8):R2:=λx y H Q=>∃a b xs ys,x=.ref a/\y=.ref b/\cw K H a xs/\cw K H b ys/\xs≠[]/\xs.length+ys.length<=sizeLine/\
 (ys=[]->Q (.ref a) H)/\(ys≠[]->∀p,H p=none->Q (.ref p) (upd H p (.tup (xs++ys))))
theorem av.nil_iff{xs:Xq}{us:WY}(r:av xs us):us=[]↔xs=[]:=by
 cases r with
 | nil=>simp
 | cons _ _=>simp
theorem Ed:gw X (binaryOp .Add) (LH X.K):=by
 intro pins s σ H x y v u Q I rx ry h;obtain⟨a,b,xs,ys,rfl,rfl,ha,hb,hx,hz,q1,q2⟩:=h;cases rx;cases ry;obtain⟨aQ,r1,p1,_⟩:=I.tuple ha;obtain⟨vT,r2,p2,_⟩:=I.tuple hb;refine HT.Eh p1 p2 (λz=>hx (r1.nil_iff.mp z)) (λz=>⟨.ref a,H,I,rfl,q1 (r2.nil_iff.mp z)⟩) (λz=>?_) (by rw[<- r1.length,<- r2.length];exact hz);refine⟨.ref s.heap.objs.size,_,I.laid (t':=s.toks) (o:=.tup (xs++ys)) (λb ob q=>e_ _ q) (h_ _) ?_,rfl,q2 (λw=>z (r2.nil_iff.mpr w)) _ (I.hok.fresh (h_ _))⟩;exact⟨by rw[r_];exact hz,_,r1.append r2,IsTup.new _ _⟩
end
def vp(n:Nat)(i:Int):Option Nat:=if 0<=i then(if i<n then some i.toNat else none)else if -(n:Int)<=i then some (i+n).toNat else none
def atI{α:Type}(xs:List α)(i:Int):Option α:=(vp xs.length i).bind λj=>xs[j]?
theorem wN{n:Nat}{i:Int}{j:Nat}(h:vp n i=some j):seqIndex? i n=some j/\j<n/\-(n:Int)<=i/\i<n:=by
 unfold vp at h
 by_cases h0:0<=i
 .rw[j_ h0]at h
  by_cases h1:i<n
  .rw[j_ h1]at h;have e:i.toNat=j:=Option.some.inj h;exact⟨by rw[seqIndex_of h0 h1,e],by omega,by omega,h1⟩
  .rw[k_ h1]at h;cases h
 .rw[k_ h0]at h
  by_cases h1:-(n:Int)<=i
  .rw[j_ h1]at h;have e:(i+n).toNat=j:=Option.some.inj h;exact⟨by rw[seqIndex_neg (by omega) h1,e],by omega,h1,by omega⟩
  .rw[k_ h1]at h;cases h
theorem wt{α:Type}{xs:List α}{i:Int}{v:α}(h:atI xs i=some v):∃j,seqIndex? i xs.length=some j/\xs[j]?=some v/\j<xs.length/\-(xs.length:Int)<=i/\i<xs.length:=by
 unfold atI at h;cases e:vp xs.length i with
 | none=>rw[e]at h;cases h
 | some j=>
  rw[e]at h;obtain⟨h1,h2,h3,h4⟩:=wN e;exact⟨j,h1,h,h2,h3,h4⟩
theorem Ao{α:Type}(xs:List α)(v:α):atI (xs++[v]) (-1)=some v:=by
 have hl:(xs++[v]).length=xs.length+1:=by simp
 have e:vp (xs++[v]).length (-1)=some xs.length:=by
  unfold vp;rw[hl,k_ (by decide),j_ (by omega)];congr 1;omega
 unfold atI;rw[e];show(xs++[v])[xs.length]?=some v;simp
def xN(b:Xi):Prop:=∀o i,subscripted b false o i=operate [o,i] (getItem o i)
def Je(X:Cx)(r:R2):Prop:=
 ∀(value slice:Xi)(pins:WS)(s:W_)(σ:St)(H:Hp)(x y:V)(v u:W9)(Q:VK),Inv X pins σ H s->RelV x v->RelV y u->r x y H Q->
  subscripted slice false v u=operate [v,u] (getItem v u)->wpAny (model X.prog X.w) X.A (subscriptTail value slice v u) (EP X pins σ Q) X.xe s
def PY(X:Cx)(id:String)(r:V->Xq->Hp->VK->Prop):Prop:=
 ∀(pins:WS)(s:W_)(σ:St)(H:Hp)(x:V)(xs:Xq)(v:W9)(us:WY)(Q:VK),Inv X pins σ H s->RelV x v->av xs us->r x xs H Q->
  wpAny (model X.prog X.w) X.A (call (.builtin id) (v::us)) (EP X pins σ Q) X.xe s
section
variable {X:Cx}{a b:Xi}{ta tb:TE}{pos:Pos}
theorem Je.or{r r':R2}(h:Je X r)(h':Je X r'):Je X (λx y H Q=>r x y H Q\/r' x y H Q):=by
 intro value slice pins s σ H x y v u Q I rx ry q hs;rcases q with q | q
 .exact h value slice pins s σ H x y v u Q I rx ry q hs
 .exact h' value slice pins s σ H x y v u Q I rx ry q hs
theorem Mh{r:R2}(hr:Je X r)(ha:PE X a ta)(hb:PE X b tb)(hs:xN b):PE X (.Subscript a b pos) (Ey r ta tb):=by
 intro pins s σ H Q I h;exact Subscript_ (IC ha hb I h λv u s2 x y H2 I2 rx ry q=>hr a b pins s2 σ H2 x y v u Q I2 rx ry q (hs _ _))
def Ma(K:W8):R2:=λx y H Q=>∃p xs i v,x=.ref p/\y=.int i/\de K H p xs/\atI xs i=some v/\Q v H
def Mn(K:W8):R2:=λx y H Q=>∃p xs i v,x=.ref p/\y=.int i/\cw K H p xs/\atI xs i=some v/\Q v H
theorem EZ:Je X (Ma X.K):=by
 intro value slice pins s σ H x y v u Q I rx ry h hs;obtain⟨p,xs,i,z,rfl,rfl,hq,he,q⟩:=h;cases rx;obtain⟨t,rfl⟩:=ry;obtain⟨aQ,r,pl,hz⟩:=I.list hq;obtain⟨j,h1,h2,h3,h4,h5⟩:=wt he;obtain⟨w,ew,NB⟩:=r.get h2;have hl:=r.length;have hn:=mh;have fin:EP X pins σ Q w s:=⟨z,H,I,NB,q⟩
 by_cases h0:0<=i
 .have hj:i.toNat=j:=by
   rw[seqIndex_of h0 h5]at h1;exact Option.some.inj h1
  exact item_listR pl.isList h0 (by omega) (by rw[hj];simpa using ew) fin hs
 .have hj:(i+(aQ.toArray.size:Int)).toNat=j:=by
   rw[seqIndex_neg (by omega) h4]at h1;rw[u_,<- hl];exact Option.some.inj h1
  exact subscriptTail_builtinR (x:=w) pl.isList.typeIs Vw.lookup
   (wpAny_getItem_list_neg (Q:=λr s'=>r=w/\EP X pins σ Q r s') pl.isList (by omega) (by rw[u_]<;>omega) (by omega) (by rw[hj];simpa using ew) ⟨rfl,fin⟩) hs
theorem JF:Je X (Mn X.K):=by
 intro value slice pins s σ H x y v u Q I rx ry h hs;obtain⟨p,xs,i,z,rfl,rfl,hq,he,q⟩:=h;cases rx;obtain⟨t,rfl⟩:=ry;obtain⟨aQ,r,pl,hz⟩:=I.tuple hq;obtain⟨j,h1,h2,h3,h4,h5⟩:=wt he;obtain⟨w,ew,NB⟩:=r.get h2;have hl:=r.length;have hn:=mh;have fin:EP X pins σ Q w s:=⟨z,H,I,NB,q⟩;exact subscriptTail_builtinR (x:=w) pl.typeIs slot_tuple_getitem.lookup
  (getItem_tuple (j:=j) (Q:=λr s'=>r=w/\EP X pins σ Q r s') pl (by omega) (by omega) (by rw[u_,<- hl];exact h1) (by simpa using ew) ⟨rfl,fin⟩) hs
theorem vw(aQ:WY)(n j:Nat)(u:W9):Obj.mapSeq (·.setIfInBounds j u) {cls:=.type "list",data:=.seq aQ.toArray n}={cls:=.type "list",data:=.seq (aQ.set j u).toArray n}:=by
 simp[Obj.mapSeq]
theorem Inv.lst{pins:WS}{σ:St}{H:Hp}{s:W_}{p:Xh}{xs:Xq}(I:Inv X pins σ H s)(h:H p=some (.lst xs)) :
  ∃(aQ:WY)(n:Nat),av xs aQ/\s.heap.get? p=some {cls:=.type "list",data:=.seq aQ.toArray n}/\xs.length<=sizeLine:=by
 obtain⟨z,aQ,n,r,e⟩:=I.hok p _ h;exact⟨aQ,n,r,e,z⟩
theorem Inv.lstUpd{pins:WS}{σ:St}{H:Hp}{s:W_}{p:Xh}{xs ys:Xq}{aQ its':WY}{n n':Nat}{f:Obj->Obj}(I:Inv X pins σ H s)(h:H p=some (.lst xs))
  (ho:s.heap.get? p=some {cls:=.type "list",data:=.seq aQ.toArray n}) (hf:f {cls:=.type "list",data:=.seq aQ.toArray n}={cls:=.type "list",data:=.seq its'.toArray n'}) (r:av ys its') (hz:ys.length<=sizeLine) (t:Nat) :
  Inv X pins σ (upd H p (.lst ys)) {s with heap:=s.heap.update p f,toks:=t}:=by
 have e:(s.heap.update p f).get? p=some {cls:=.type "list",data:=.seq its'.toArray n'}:=by
  rw[SQ f ho (by rw[hf]<;>rfl),hf]
 refine I.write (x:=p) (e:=p) (by rw[h];trivial) (.inl rfl) (λb u hb q=>(SB _ _ (Tg hb)).trans q) ⟨_,e⟩ ?_;exact⟨hz,its',n',r,e⟩
def rSetL:V->V->V->Hp->(Hp->Prop)->Prop:=λo i v H Q=>∃p xs k j,o=.ref p/\i=.int k/\H p=some (.lst xs)/\vp xs.length k=some j/\Q (upd H p (.lst (xs.set j v)))
theorem set_list:Mm X rSetL:=by
 intro pins s σ H o i v ov iv u Q I ro ri rv h;obtain⟨p,xs,k,j,rfl,rfl,hp,hj,q⟩:=h;cases ro;obtain⟨t,rfl⟩:=ri;obtain⟨aQ,n,r,ho,hz⟩:=I.lst hp;obtain⟨h1,h2,h3,h4⟩:=wN hj;have hl:=r.length;have hn:=mh;have I':Inv X pins σ (upd H p (.lst (xs.set j v))) {s with heap:=s.heap.update p (Obj.mapSeq (·.setIfInBounds j u))}:=
  I.lstUpd hp ho (vw aQ n j u) (r.set rv j) (by rw[V2];exact hz) s.toks
 by_cases h0:0<=k
 .have hk:k.toNat=j:=by
   rw[seqIndex_of h0 h4]at h1;exact Option.some.inj h1
  exact PySem.W.ki_setAt ho h0 (by omega) (by rw[u_,<- hl];exact h4) (by rw[hk];exact⟨_,I',q⟩)
 .have hk:(k+(aQ.toArray.size:Int)).toNat=j:=by
   rw[seqIndex_neg (by omega) h3]at h1;rw[u_,<- hl];exact Option.some.inj h1
  exact PySem.W.ki_setBack ho (by omega) (by rw[u_,<- hl];exact h3) (by omega) (by rw[hk];exact⟨_,I',q⟩)
theorem qt(lo hi:Option Int)(n:Nat):(sliceBounds lo hi none n).1=((HT.oM n 0 lo:Nat):Int)/\(sliceBounds lo hi none n).2.1=((HT.oM n n hi:Nat):Int)/\(sliceBounds lo hi none n).2.2=1:=by
 refine⟨?_,?_,rfl⟩
 .cases lo with
  | none=>simp[sliceBounds,HT.oM]
  | some i=>
   simp only[sliceBounds,HT.oM,Option.getD_none,show(1:Int)>0 by decide,Um]
   by_cases h:i<0
   .simp only[h,Um]<;>omega
   .simp only[h,SS]<;>omega
 .cases hi with
  | none=>simp[sliceBounds,HT.oM]
  | some i=>
   simp only[sliceBounds,HT.oM,Option.getD_none,show(1:Int)>0 by decide,Um]
   by_cases h:i<0
   .simp only[h,Um]<;>omega
   .simp only[h,SS]<;>omega
theorem nZ(aQ:WY)(lo hi:Option Int):slicePick aQ.toArray lo hi none=((aQ.drop (HT.oM aQ.length 0 lo)).take (HT.oM aQ.length aQ.length hi-HT.oM aQ.length 0 lo)).toArray:=by
 obtain⟨h1,h2,h3⟩:=qt lo hi aQ.toArray.size;unfold slicePick;rw[h1,h2,h3];simp only[sliceRange_one,pick_run,u_]<;>rfl
def O4(K:W8):V->Option Int->Option Int->Hp->VK->Prop:=λx lo hi H Q=>∃a xs,x=.ref a/\de K H a xs/\∀p,H p=none->Q (.ref p) (upd H p (.lst (zj xs lo hi)))
theorem DT:Q7 X (O4 X.K):=by
 intro pins s σ H x v vl vu lo hi sl Q I rx hs pl pu h;obtain⟨a,xs,rfl,hx,q⟩:=h;cases rx;obtain⟨aQ,r,ht,hz⟩:=I.list hx;have hlen:=r.length;refine⟨"list",_,Vw.lookup,ht.isList.typeIs,?_⟩;refine Ve ht.isList hs pl pu .none (by simp) ?_ (by rw[u_]<;>omega);rw[nZ,<- hlen];refine⟨.ref s.heap.objs.size,_,I.laid (t':=s.toks) (o:=.lst (zj xs lo hi)) (λb ob q=>e_ _ q) (h_ _) ?_,rfl,q _ (I.hok.fresh (h_ _))⟩;exact⟨B_ (tP xs lo hi) hz,_,0,(r.drop (HT.oM xs.length 0 lo)).take (HT.oM xs.length xs.length hi-HT.oM xs.length 0 lo),n_ _ rfl⟩
theorem ql:dB X (.builtin "len") (λxs H Q=>∃p ys,xs=[.ref p]/\(de X.K H p ys\/cw X.K H p ys)/\Q (.int ys.length) H):=by
 intro pins s σ H xs us Q I r h;obtain⟨p,ys,rfl,hq,q⟩:=h;obtain⟨u,rfl,rx⟩:=vals1 r;cases rx;have hn:=mh;rcases hq with hq | hq
 .obtain⟨aQ,r',pl,hz⟩:=I.list hq;have hlen:=r'.length;exact Calls.call_len_list pl.isList (by simp only[u_]<;>omega) ⟨.int ys.length,H,I.tok _,⟨s.toks+1,by rw[u_,hlen]⟩,q⟩
 .obtain⟨aQ,r',pl,hz⟩:=I.tuple hq;have hlen:=r'.length;exact len_tuple pl (by simp only[u_]<;>omega) ⟨.int ys.length,H,I.tok _,⟨s.toks+1,by rw[u_,hlen]⟩,q⟩
theorem om:dB X (.type "tuple") (λxs H Q=>∃p ys,xs=[.ref p]/\((de X.K H p ys/\∀l,H l=none->Q (.ref l) (upd H l (.tup ys)))\/(cw X.K H p ys/\Q (.ref p) H))):=by
 intro pins s σ H xs us Q I r h;obtain⟨p,ys,rfl,h⟩:=h;obtain⟨u,rfl,rx⟩:=vals1 r;cases rx;rcases h with ⟨hq,q⟩ | ⟨hq,q⟩
 .obtain⟨aQ,r',pl,hz⟩:=I.list hq;have hlen:=r'.length;refine call_tuple_list pl.isList (λh' kp=>?_) (by simp only[u_]<;>omega);have I1:Inv X pins σ H {s with heap:=h'}:=I.kept (t':=s.toks) kp;have I2:Inv X pins σ (upd H h'.objs.size (.tup ys)) {s with heap:=h'.push {cls:=.type "tuple",data:=.seq aQ.toArray}}:=
   I1.laid (t':=s.toks) (λb o e=>e_ _ e) (h_ _) (show aV X.prog X.w _ _ _ (.tup ys)from⟨hz,aQ,r',IsTup.new _ _⟩)
  exact⟨.ref h'.objs.size,_,I2,rfl,q _ (I1.hok.fresh (h_ _))⟩
 .obtain⟨aQ,r',pl,hz⟩:=I.tuple hq;exact call_tuple_same pl ⟨.ref p,H,I,rfl,q⟩
def O8(K:W8)(T:String)(x:V)(H:Hp):Prop:=match x with
 | .str _=>T="str"
 | .int _=>T="int"
 | .ref p=>(T="list"/\∃xs,de K H p xs)\/(T="tuple"/\∃o,K.lookup p=some o/\o.cls=.type "tuple"/\o.dict=none)\/
   (T="dict"/\((∃kvs,H p=some (.dK kvs))\/∃kvs,H p=some (.dT kvs)))\/(T="set"/\∃S n,H p=some (.set S n))
 | _=>False
theorem A0{pins:WS}{σ:St}{H:Hp}{s:W_}{T:String}{x:V}{v:W9}(I:Inv X pins σ H s)(r:RelV x v)(ty:O8 X.K T x H) :
  s.TypeIs v T/\∀a,v=.ref a->∃ob,s.heap.get? a=some ob/\ob.dict=none:=by
 cases x with
 | str z=>
  obtain⟨t,rfl⟩:=r;cases(show T="str" from ty);exact⟨typeIs_str s z t,λ_ e=>nomatch e⟩
 | int i=>
  obtain⟨t,rfl⟩:=r;cases(show T="int" from ty);exact⟨typeIs_int s i t,λ_ e=>nomatch e⟩
 | ref p=>
  cases r;rcases ty with ⟨rfl,xs,hq⟩ | ⟨rfl,o,hk,hc,hd⟩ | ⟨rfl,hk⟩ | ⟨rfl,S,n,hk⟩
  .obtain⟨aQ,_,pl,_⟩:=I.list hq;refine⟨pl.isList.typeIs,λa e=>?_⟩;cases e;obtain⟨o,n,e,c,hd,_⟩:=pl;exact⟨o,e,hd⟩
  .refine⟨⟨o,I.kIn p o hk,hc⟩,λa e=>?_⟩;cases e;exact⟨o,I.kIn _ o hk,hd⟩
  .have z:∃o,s.heap.get? p=some o/\o.ExactDict:=by
    rcases hk with ⟨kvs,hk⟩ | ⟨kvs,hk⟩
    .obtain⟨_,_,_,_,o,_,_,e,ex,_⟩:=I.hok p _ hk;exact⟨o,e,ex⟩
    .obtain⟨_,_,_,_,o,_,_,e,ex,_⟩:=I.hok p _ hk;exact⟨o,e,ex⟩
   obtain⟨o,e,ex⟩:=z;refine⟨⟨o,e,ex.1⟩,λa e2=>?_⟩;cases e2;exact⟨o,e,ex.2.1⟩
  .obtain⟨o,_,_,_,e,ex,_⟩:=I.hok p _ hk;refine⟨⟨o,e,ex.1⟩,λa e2=>?_⟩;cases e2;exact⟨o,e,ex.2.1⟩
 | _=>exact False.elim ty
def PV(K:W8)(T:String)(r:V->Xq->Hp->VK->Prop)(to:TE):TE:=λσ H Q=>to σ H λx H1=>O8 K T x H1/\r x [] H1 Q
def R6(K:W8)(T:String)(r:V->Xq->Hp->VK->Prop)(to:TE)(t:TA):TE:=λσ H Q=>to σ H λx H1=>O8 K T x H1/\t σ H1 λxs H2=>r x xs H2 Q
variable {o e:Xi}{es:W3}{to:TE}{t:TA}{name:Str}{apos be:Pos}{T id:String}{r:V->Xq->Hp->VK->Prop}
theorem Iy(pa:PlainAttrs T)(slot:Slot T name id)(P6:typeOf (.builtin id)=pure (.type "method_descriptor"))(hm:PY X id r)(ho:PE X o to)
  (jJ:attributeBase o name X.env (eval o X.env)=eval o X.env:=by rfl) (jK:(apos.endLine==be.line)=true:=by rfl):PE X (.Call (.Attribute o name apos) [] [] be) (PV X.K T r to):=by
 intro pins s σ H Q I h;refine wpAny_Call_method0_late jJ jK (aZ (ho pins s σ H _ I h) λv s1 ⟨x,H1,I1,r1,ty,q1⟩=>?_);obtain⟨h1,h2⟩:=A0 I1 r1 ty;exact⟨T,id,pa,slot,P6,h1,h2,UO rfl (PySem.evalArgs_none (hm pins s1 σ H1 x [] v [] Q I1 r1 .nil q1))⟩
theorem GL(pa:PlainAttrs T)(slot:Slot T name id)(P6:typeOf (.builtin id)=pure (.type "method_descriptor"))(hm:PY X id r)(ho:PE X o to)(ha:PA X (e::es) t)
  (jJ:attributeBase o name X.env (eval o X.env)=eval o X.env:=by rfl)
  (CM:((backTo be (starEach (e::es) X.env)).all (λx=>!x.1)&&(backToKw be (keywordEach [] X.env)).all (λx=>x.1.isSome)
   && decide ((e::es).length+([]:List Keyword).length+(if([]:List Keyword).isEmpty then 0 else 1)<30))=true:=by rfl)
  (jK:(apos.endLine==be.line)=true:=by rfl) (hs:starEach (e::es) X.env=(false,eval e X.env)::starEach es X.env:=by rfl) (hplain:(backTo be (starEach es X.env)).any (·.1)=false:=by rfl) :
  PE X (.Call (.Attribute o name apos) (e::es) [] be) (R6 X.K T r to t):=by
 intro pins s σ H Q I h;refine wpAny_Call_method_late jJ CM jK rfl (aZ (ho pins s σ H _ I h) λv s1 ⟨x,H1,I1,r1,ty,q1⟩=>?_);obtain⟨h1,h2⟩:=A0 I1 r1 ty;refine⟨T,id,pa,slot,P6,h1,h2,?_⟩;have hA:=ha be pins s1 σ H1 _ I1 q1;rw[hs]at hA ⊢;refine UO (by show(false||(backTo be (starEach es X.env)).any (·.1))=false;rw[hplain]<;>rfl) (VU ?_);exact aZ hA λus s2 ⟨vs,H2,I2,r2,q2⟩=>hm pins s2 σ H2 x vs v us Q I2 r1 r2 q2
end
def Q3(X:Cx)(id:String)(r:V->Xq->Hp->VK->Prop):Prop:=
 ∀(pins:WS)(s:W_)(σ:St)(H:Hp)(x:V)(xs:Xq)(v:W9)(us:WY)(Q:VK),Inv X pins σ H s->RelV x v->av xs us->r x xs H Q->
  wpAny (model X.prog X.w) X.A (call (.builtin id) (v::us)) (EP X pins σ Q) X.xe s
theorem av.one:∀{x:V}{us:WY},av [x] us->∃u,us=[u]/\RelV x u
 | _,_,.cons r .nil=>⟨_,rfl,r⟩
theorem av.two:∀{x y:V}{us:WY},av [x,y] us->∃u v,us=[u,v]/\RelV x u/\RelV y v
 | _,_,_,.cons r (.cons q .nil)=>⟨_,_,rfl,r,q⟩
theorem av.rep{xs:Xq}{us:WY}(h:av xs us):∀k:Nat,av (List.replicate k xs).flatten (List.replicate k us).flatten
 | 0=>.nil
 | k+1=>by
  rw[S3,S3,Tz,Tz];exact av.append h (av.rep h k)
theorem foldl_rep(aQ:WY):∀(k:Nat)(acc:WY),
  List.foldl (λx1 x2=>x1++x2) acc.toArray (List.replicate k aQ.toArray)=(acc++(List.replicate k aQ).flatten).toArray
 | 0,acc=>by simp
 | k+1,acc=>by
  have e:acc.toArray++aQ.toArray=(acc++aQ).toArray:=by simp
  have e2:(acc++aQ)++(List.replicate k aQ).flatten=acc++(List.replicate (k+1) aQ).flatten:=by
   rw[S3,Tz,T1]
  rw[<- e2,<- foldl_rep aQ k (acc++aQ),<- e,S3,Vg]
section
variable {X:Cx}{pins:WS}{σ:St}{H:Hp}{s:W_}{l b:Xh}{xs ys zs:Xq}
theorem Inv.lset{aQ its':WY}{n:Nat}{f:Array W9->Array W9}{t':Nat}(I:Inv X pins σ H s)(hH:H l=some (.lst xs))
  (e:s.heap.get? l=some {cls:=.type "list",data:=.seq aQ.toArray n}) (hf:f aQ.toArray=its'.toArray) (hv:av ys its') (hz:ys.length<=sizeLine) :
  Inv X pins σ (upd H l (.lst ys)) {s with heap:=s.heap.update l (Obj.mapSeq f),toks:=t'}:=by
 have q:=PySem.IsL.update e f;rw[hf]at q;refine I.write (x:=l) (e:=l) (by rw[hH];exact trivial) (.inl rfl) (λb' u hb hu=>(SB s.heap (Obj.mapSeq f) (Tg hb)).trans hu) ⟨_,q⟩ ?_;exact⟨hz,its',_,hv,q⟩
theorem Inv.lnew{aQ:WY}{t':Nat}(I:Inv X pins σ H s)(hv:av ys aQ)(hz:ys.length<=sizeLine) :
  Inv X pins σ (upd H s.heap.objs.size (.lst ys)) {s with heap:=s.heap.push {cls:=.type "list",data:=.seq aQ.toArray},toks:=t'}:=
 I.laid (λ_ _ q=>e_ _ q) (h_ _) ⟨hz,aQ,0,hv,n_ _ rfl⟩
theorem Inv.fresh(I:Inv X pins σ H s):H s.heap.objs.size=none:=I.hok.fresh (h_ _)
theorem Inv.lstM(I:Inv X pins σ H s)(hH:H l=some (.lst xs)):xs.length<=sizeLine/\∃(aQ:WY)(n:Nat),av xs aQ/\xs.length=aQ.length/\s.heap.get? l=some {cls:=.type "list",data:=.seq aQ.toArray n}:=by
 obtain⟨z,aQ,n,r,e⟩:=I.hok l _ hH;exact⟨z,aQ,n,r,r.length,e⟩
theorem Al{n:Nat}(h:n<=sizeLine):Builtin.List.listTooLong n=false:=by
 unfold Builtin.List.listTooLong;exact E_ (by omega)
end
section
variable {X:Cx}
def rAppend:V->Xq->Hp->VK->Prop:=λx vs H Q=>∃l xs y,x=.ref l/\vs=[y]/\H l=some (.lst xs)/\xs.length<sizeLine/\Q .non (upd H l (.lst (xs++[y])))
theorem pL:Q3 X "list.append" rAppend:=by
 intro pins s σ H x vs v us Q I rx rv h;obtain⟨l,xs,y,rfl,rfl,hH,hz,q⟩:=h;cases rx;obtain⟨u,rfl,ru⟩:=rv.one;obtain⟨z,aQ,n,r,hl,e⟩:=I.lstM hH;refine call_meets F.slot_list_append ⟨_,e,rfl⟩ F.entry_list_append (F.args_list_append_2 _ _) (PySem.list_append l aQ.toArray n u (by rw[u_];omega)) ⟨e,?_⟩;refine⟨.non,_,I.lset (its':=aQ++[u]) hH e (by simp) (r.append (.cons ru .nil)) ?_,rfl,q⟩;rw[r_,Ul];omega
def rCat:R2:=λx y H Q=>∃l b xs zs,x=.ref l/\y=.ref b/\H l=some (.lst xs)/\H b=some (.lst zs)/\xs.length+zs.length<=sizeLine/\∀p,H p=none->Q (.ref p) (upd H p (.lst (xs++zs)))
theorem HR:gw X (binaryOp .Add) rCat:=by
 intro pins s σ H x y v u Q I rx ry h;obtain⟨l,b,xs,zs,rfl,rfl,hH,hB,hz,q⟩:=h;cases rx;cases ry;obtain⟨z,aQ,n,r,hl,e⟩:=I.lstM hH;obtain⟨z2,vT,n2,r2,P3,e2⟩:=I.lstM hB;refine PySem.P.add_list e e2 ?_ (by rw[u_,u_];omega);have ea:aQ.toArray++vT.toArray=(aQ++vT).toArray:=by simp
 rw[ea];exact⟨.ref _,_,I.lnew (t':=s.toks) (r.append r2) (by rw[r_];omega),rfl,q _ I.fresh⟩
def rRep:R2:=λx y H Q=>∃l k xs,x=.ref l/\y=.int k/\H l=some (.lst xs)/\-(2 ^ 63)<=k/\k<2 ^ 63/\xs.length*k.toNat<=sizeLine/\
 ∀p,H p=none->Q (.ref p) (upd H p (.lst (List.replicate k.toNat xs).flatten))
theorem len_rep{α:Type}(xs:List α)(k:Nat):(List.replicate k xs).flatten.length=k*xs.length:=by
 induction k with
 | zero=>simp
 | succ k ih=>rw[S3,Tz,r_,ih,Nat.succ_mul,Wc]
theorem JY:gw X (binaryOp .Mult) rRep:=by
 intro pins s σ H x y v u Q I rx ry h;obtain⟨l,k,xs,rfl,rfl,hH,h1,h2,hz,q⟩:=h;cases rx;obtain⟨t,rfl⟩:=ry;obtain⟨z,aQ,n,r,hl,e⟩:=I.lstM hH;have hlen:aQ.toArray.size*k.toNat<=sizeLine:=by rw[u_,<- hl];exact hz
 have eQ:¬aQ.toArray.size*k.toNat>(2 ^ 63-1)/8:=by
  have:(sizeLine:Nat)<=(2 ^ 63-1)/8:=by decide
  omega
 have hfit:¬(!Builtin.List.listFitsIndex k)=true:=by
  rw[fitsIndex_both h1 h2];exact P_
 have hlong:¬Builtin.List.listTooLong (aQ.toArray.size*k.toNat)=true:=by
  rw[Al hlen];exact P_
 have hnew:List.foldl (λx1 x2=>x1++x2) #[] (List.replicate (if aQ.toArray.isEmpty=true then 0 else k.toNat) aQ.toArray)=(List.replicate k.toNat aQ).flatten.toArray:=by
  have f0:∀m:Nat,List.foldl (λx1 x2=>x1++x2) #[] (List.replicate m aQ.toArray)=(List.replicate m aQ).flatten.toArray:=λm=>by
   have:=foldl_rep aQ m [];rw[Uu]at this;exact this
  rw[f0];cases aQ with
  | nil=>simp
  | cons a r'=>rw[k_ (by simp)]
 refine wpAny_binaryOp_repeat_ref (T:="list") (U:="int") (by decide) ⟨_,e,rfl⟩ (λs'=>typeIs_int s' k t) noFill_list_mul F.fills_int_mul F.slot_int_rmul repeat_list F.slot_int_index.lookup
  (call_meets F.slot_int_rmul (typeIs_int s k t) F.entry_int_rmul (F.args_int_rmul_2 _ _) (int___rmul___int_list k t l aQ.toArray n)
   ⟨e,rfl,⟨_,e,rfl⟩,call_meets F.slot_list_mul ⟨_,e,rfl⟩ F.entry_list_mul (F.args_list_mul_2 _ _) (AutoListH.list___mul___list_int_3 l aQ.toArray n k t hfit eQ hlong) ⟨e,?_⟩⟩)
 rw[hnew];exact⟨.ref _,_,I.lnew (t':=s.toks) (r.rep k.toNat) (by rw[len_rep,Vr];exact hz),rfl,q _ I.fresh⟩
end
section
variable {prog:Xa}{w:Xe}{A:Xb}{E:WR}{s:W_}
end
section
variable {X:Cx}
end
end L2
namespace Att
open PySem PySem.W PySem.Calls PyProof.Rows
theorem k8{P:Params}{h:Xd}:∀(ns:W6)(vs:WY),WellAll P h vs (ns.map WData.int)->IntsAre vs ns:=by
 intro ns
 induction ns with
 | nil=>
  intro vs w;rw[Vt]at w;cases w;exact .nil
 | cons n ns ih=>
  intro vs w;rw[L_]at w;cases w with
  | cons a b=>
   cases a;exact .cons _ _ (ih _ b)
theorem yF{l:OpenLaw}{n:Nat}(hn:l.most=some n){P:Params}{h:Xd}{args:List WData}{vals:WY}
  (oB:l.row.toRowW.claim.pre args=true) (P7:WellAll P h vals args) :
  ∃a vs ns,vals=[Value.ref a]/\args=[WData.list (ns.map WData.int)]/\h.get? a=some {cls:=.type "list",data:=.seq vs.toArray}/\IntsAre vs ns/\ns.length<=n:=by
 have hsh:WShape.hasAll [] args [.list .int]=true:=(pre_splitW oB).1;have hc:l.pre.holds [] {args:=args}=true:=(pre_splitW oB).2;obtain⟨d,r,rfl,h1,h2⟩:=hasAllW_cons hsh;obtain rfl:=hasAllW_nil h2;obtain⟨xs,rfl,h3⟩:=hasW_list h1;obtain⟨ns,rfl⟩:=items_int h3;have hlen:ns.length<=n:=by
  unfold OpenLaw.pre at hc;have h4:(WTm.not (.lt (.lit (.int (n:Int))) (.len (.arg 0)))).holds [] {args:=[.list (ns.map .int)]}=true:=by
   have h4:=(holds_andW hc).1;rw[hn]at h4;exact h4
  have h5:=condW_of h4 (w_not (w_lt w_lit (w_len_list (w_arg rfl))));rw[c_]at h5;refine S_ λq=>?_;have q':(n:Int)<((ns.length:Nat):Int):=by omega
  first
   | (rw[w_ q']at h5;exact absurd h5 (by decide))
   | (simp at h5;omega)
 cases P7 with
 | cons w1 w2=>
  cases w2;cases w1 with
  | list ho gT=>exact⟨_,_,ns,rfl,rfl,ho,k8 ns _ gT,hlen⟩
theorem yO(l:OpenLaw)(args:List WData):l.row.toRowW.claim.post args (.bool true) args=true:=
 postW_of (r:=l.row.toRowW) (X:=(true==true))
  (show WShape.has [] (.bool true) .bool=true by first | rfl | decide | simp[WShape.has,WShape.arms,WShape.armsAll])
  (show(WTm.eq .res (.lit (.bool true))).value [] {args:=args,res:=some (.bool true),after:=args}=some (.bool (true==true))from w_eq_bool (w_res rfl) w_lit) rfl
theorem sr{l:OpenLaw}{n:Nat}{q:Xa}{loose:W1}{XP:WU->Xd->Prop}{YP:Xe->Xd->Prop}{d:DefRec}
  (hn:l.most=some n) (ND:d.params.defaults=[])
  (call:∀(w:Xe)(s₀ s₁:W_)(mg mb:WU)(fa:Xh)(o:Obj)(pm cd doc:W9)(a:Xh)(vs:WY)(ns:W6),
   Ground q loose [] XP w s₀ mg mb s₁.heap->YP w s₁.heap->
   s₁.heap.get? fa=some o->o.data=.func (docDef d.name d.params d.body d.scope pm cd doc)->s₁.heap.CodeRec cd d.name->mg d.name=some (.ref fa)->
   s₁.heap.get? a=some {cls:=.type "list",data:=.seq vs.toArray}->IntsAre vs ns->ns.length<=n->s₁.gens=#[]->
   codeAny (model l.prog w) callerA (.call (.ref fa) ⟨[.ref a],[]⟩) (λr s'=>r=.ok (.ret (.bool true))/\OldK s₁.heap s'.heap/\s'.os=s₁.os/\AllBare s'.gens) s₁) :
  WalkO q loose XP YP l.row.toRowW d [] (λf vs=>PySem.call f vs):=by
 intro w s₀ s₁ mg mb G Y fa o pm cd doc dV kV ho hd dO hD hmg hg args vals as oB hlay hrd P7 P8;obtain rfl:dV=.none:=Dflts.none hD ND;obtain rfl:kV=.none:=Dflts.noKw hD;obtain⟨a,vs,ns,rfl,rfl,Km,hints,hlen⟩:=yF hn oB P7;refine enter_call (U7 (call w s₀ s₁ mg mb fa o pm cd doc a vs ns G Y ho (fd_plain hd) dO hmg Km hints hlen hg) λr s' hq=>?_);obtain⟨rfl,h2,h3,h4⟩:=hq;exact⟨.inl ⟨.bool true,.bool true,[],rfl,λ_=>rfl,.bool true,yO l _,λ_=>⟨List.Pairwise.nil,λ_ hm=>(nomatch hm)⟩⟩,h2,h3,h4⟩
section
variable {prog:Xa}{w:Xe}{A:Xb}{E:WR}{s:W_}{K:Frag}
end
end Att
namespace L2
open PySem PySem.Spec PyProof.Rows
theorem fm:∀{vs:WY}{ns:W6},IntsAre vs ns->av (ns.map V.int) vs
 | _,_,.nil=>.nil
 | _,_,.cons n t h=>.cons ⟨t,rfl⟩ (fm h)
def JD(H:Hp):Prop:=∀b,H b=none\/(∃o xs,H b=some (.frz o (.lst xs)))\/∃q,H b=some (.tab q)
theorem B6{P:Xa}{w:Xe}{K:W8}{mg mb:WU}{CX:CXT}{k:Nat}{fa a:Xh}{fd:Xf}{x:Str}{sp:Sp}{s₁:W_}{vs:WY}{ns:W6}
  (KX:K.In s₁.heap) (zC:s₁.heap.Ns mainGlobals mg) (hb:s₁.heap.Ns builtinsNs mb) (P9:∀x:Str,x≠"__name__"->mb x=bootBuiltins x) (hlim:s₁.heap.NoLimit) (hg:s₁.gens=#[])
  (hbm:∃bm o,mg "__builtins__"=some (.ref bm)/\bm≠builtinsNs/\s₁.heap.get? bm=some o/\o.cls=.type "module"/\o.dict=some builtinsNs/\o.data=.plain)
  (hT:∀P q,tq K P=some q->(∃c,PySem.W.CodeHd s₁.heap c P)/\s₁.heap.get? P=some (PySem.W.tabObj #[])/\K.lookup P=none)
  (ha:s₁.heap.get? a=some {cls:=.type "list",data:=.seq vs.toArray}) (hi:IntsAre vs ns) (hl:ns.length<=sizeLine) (hr:a9 k callerA)
  (F:∀base:Xd,K.In base->base.Ns mainGlobals mg->dh P w K mg base CX k fa fd [x] sp) (hbind:∀(s:W_)(u:W9),BindsTo s fd ⟨[u],[]⟩ [(x,u)])
  (lT:∀H:Hp,JD H->de K H a (ns.map V.int)->sp [.ref a] H (λv _=>v=.bl true) λ_ _ _=>False)
  (hCX:∀H e s',CX [] H s₁ (λ_ _ _=>False) e s'->False) :
  codeAny (model P w) callerA (.call (.ref fa) ⟨[.ref a],[]⟩) (λr s'=>r=.ok (.ret (.bool true))/\OldK s₁.heap s'.heap/\s'.os=s₁.os/\AllBare s'.gens) s₁:=by
 have rv:=fm hi;have lenV:=hi.length;have tqa:∀b q,tq K b=some q->b≠a:=λb q e z=>by
  have h:=(hT b q e).2.1;rw[z,ha]at h;cases h
 have core:∀G:Option HO,(G=none\/∃o xs,G=some (.frz o (.lst xs)))->(∀H:Hp,H a=G->de K H a (ns.map V.int))->(∀H o,G=some o->aV P w H s₁.heap a o)->(G≠none->K.lookup a=none)->
   codeAny (model P w) callerA (.call (.ref fa) ⟨[.ref a],[]⟩) (λr s'=>r=.ok (.ret (.bool true))/\OldK s₁.heap s'.heap/\s'.os=s₁.os/\AllBare s'.gens) s₁:=by
  intro G hG hS hok0 hK;generalize hH:(λb=>if b=a then G else(tq K b).map HO.tab:Hp)=H;have Ha:H a=G:=by rw[<- hH];exact j_ rfl
  have Hb:∀b,b≠a->H b=(tq K b).map HO.tab:=λb h=>by rw[<- hH];exact k_ h
  have Ht:∀b q,tq K b=some q->H b=some (.tab q):=λb q e=>by rw[Hb b (tqa b q e),e];rfl
  have Hs:∀b o,H b=some o->(b=a/\G=some o)\/∃q,tq K b=some q/\o=.tab q:=λb o e=>by
   by_cases h:b=a
   .exact .inl ⟨h,by rw[<- Ha,<- h];exact e⟩
   .rw[Hb b h]at e;obtain⟨q,e1,e2⟩:=D_.mp e;exact .inr ⟨q,e1,e2.symm⟩
  have hO:JD H:=λb=>by
   cases e:H b with
   | none=>exact .inl rfl
   | some o=>
    rcases Hs b o e with ⟨_,z⟩ | ⟨q,_,z⟩
    .rcases hG with g | ⟨ob,xs,g⟩
     .rw[g]at z;cases z
     .rw[g]at z;cases z;exact .inr (.inl ⟨_,_,rfl⟩)
    .exact .inr (.inr ⟨q,by rw[z]⟩)
  have hok:lb P w H s₁.heap:=λb o e=>by
   rcases Hs b o e with ⟨z,g⟩ | ⟨q,z,g⟩
   .subst z;exact hok0 H o g
   .subst g;exact⟨#[],(hT b q z).2.1,trivial,λpos v z=>by cases z⟩
  have rE:∀{b:Xh}{o:Obj},s₁.heap.get? b=some o->H b=none->(qU s₁.heap H).get? b=some o:=λe n=>Cr e n;have Dr:∀{b:Xh}{o:Obj},s₁.heap.get? b=some o->(∀xs n,o.data≠.seq xs n)->(∀xs,o.data≠.fields xs)->H b=none:=λ{b o} e d1 d2=>by
   cases q:H b with
   | none=>rfl
   | some u=>
    rcases Hs b u q with ⟨z,_⟩ | ⟨q,z,_⟩
    .subst z;rw[ha]at e;cases e;exact absurd rfl (d1 _ _)
    .have h:=(hT b q z).2.1;rw[h]at e;cases e;exact absurd rfl (d2 _)
  have Ov:∀{b:Xh}{m:WU},s₁.heap.Ns b m->(qU s₁.heap H).Ns b m:=λ{b m} ⟨o,es,ep,e,d,r⟩=>⟨o,es,ep,rE e (Dr e (λ_ _ z=>by rw[d]at z;cases z) λ_ z=>by rw[d]at z;cases z),d,r⟩;have Rh:K.In (qU s₁.heap H):=λb o e=>rE (KX b o e) (by
   cases q:H b with
   | none=>rfl
   | some u=>
    rcases Hs b u q with ⟨z,g⟩ | ⟨q,z,_⟩
    .subst z;rw[hK (by rw[g];simp)]at e;cases e
    .rw[(hT b q z).2.2]at e;cases e)
  have hM:Mod K mg (qU s₁.heap H):=by
   obtain⟨bm,o,b1,b2,b4,b5,b6,b7⟩:=hbm;refine⟨Rh,Ov zC,⟨mb,Ov hb,P9⟩,let ⟨mc,h1,h2⟩:=hlim;⟨mc,Ov h1,h2⟩,bm,o,b1,b2,λz=>?_,rE b4 (Dr b4 (λ_ _ z=>by rw[b7]at z;cases z) λ_ z=>by rw[b7]at z;cases z),b5,b6,b7⟩;obtain⟨o',es,ep,e,hd,_⟩:=zC;rw[z,e]at b4;cases b4;rw[hd]at b7;cases b7
  have e0:ug P w K mg (qU s₁.heap H) callerA [] s₁ H:=⟨rfl,hM,λb o e=>Gg e,Nat.le_of_eq (yC _ _),trivial,λb hb=>absurd (show b∈([]:W2)from hb) (by simp),hok,.of_eq hg,Ht⟩;refine U7 ((F _ Rh (Ov zC)).run callerA [] s₁ H ⟨[.ref a],[]⟩ [.ref a] [.ref a] _ _ hr e0 (hbind s₁ (.ref a)) (.cons rfl .nil) (lT H hO (hS H Ha))) λr s' h=>?_;cases r with
  | error e=>exact(hCX H e s' h).elim
  | ok fl=>
   cases fl with
   | next=>exact False.elim h
   | brk=>exact False.elim h
   | cont=>exact False.elim h
   | ret u=>
    obtain⟨v,H',os,bare,un,NG,r',q⟩:=h;have q':v=.bl true:=q;subst q';obtain rfl:u=Value.bool true:=r';have old:∀b o,s₁.heap.get? b=some o->s'.heap.get? b=some o\/∃q ps,tq K b=some q/\s'.heap.get? b=some (PySem.W.tabObj ps):=λb o e=>by
     cases q:H b with
     | none=>exact .inl (un.keep b o e q (by intro z;exact absurd (show b∈([]:W2)from z) (by simp)) (by simp))
     | some u=>
      rcases Hs b u q with ⟨_,z⟩ | ⟨qq,z,g⟩
      .rcases hG with g | ⟨ob,xs,g⟩
       .rw[g]at z;cases z
       .rw[g]at z;cases z;have z2:=un.frzs b ob _ q;obtain⟨e1,_⟩:=hok b _ q;obtain⟨e2,_⟩:=NG b _ z2;rw[e]at e1;cases e1;exact .inl e2
      .subst g;obtain⟨ps,e2,_⟩:=NG b _ (un.tbls b qq q);exact .inr ⟨qq,ps,z,e2⟩
    refine⟨rfl,⟨λb o e=>?_,λb o e=>?_⟩,os,bare⟩
    .rcases old b o e with z | ⟨q,ps,z,e2⟩
     .exact .inl z
     .obtain⟨⟨c,hc⟩,h2,_⟩:=hT b q z;rw[h2]at e;cases e;exact .inr (.inl ⟨(hc.tab h2).isCodeTable,rfl,#[],ps,rfl,by rw[Array.empty_append];exact e2⟩)
    .rcases old b o e with z | ⟨q,ps,z,e2⟩
     .exact⟨o,z⟩
     .exact⟨_,e2⟩
 cases hk:K.lookup a with
 | some o=>
  have e:=KX a o hk;rw[ha]at e;cases e;exact core none (.inl rfl) (λH _=>.inr ⟨_,vs.toArray,_,hk,rfl,rfl,rfl,by rw[u_,lenV];exact hl,by simpa using rv⟩) (λH o z=>by cases z) λz=>absurd rfl z
 | none=>
  refine core (some (.frz {cls:=.type "list",data:=.seq vs.toArray} (.lst (ns.map V.int)))) (.inr ⟨_,_,rfl⟩) (λH e=>.inl (.inr ⟨_,e⟩)) (λH o z=>?_) λ_=>hk;cases z;exact⟨ha,by rw[c_];exact hl,vs,_,rv,ha⟩
def bS(s:Xj):Arguments:=match s with
 | .FunctionDef _ a _ _ _ _ _ _ _ _=>a
 | _=>{posonlyargs:=[],args:=[],vararg:=none,kwonlyargs:=[],kw_defaults:=[],kwarg:=none,defaults:=[]}
def aT(s:Xj):W4:=match s with
 | .FunctionDef _ _ b _ _ _ _ _ _ _=>b
 | _=>[]
def ax(s:Xj):Xg:=match s with
 | .FunctionDef _ _ _ _ _ _ sc _ _ _=>sc
 | _=>{kind:=.function,names:=[],isGenerator:=false,isCoroutine:=false}
abbrev ko:CXT:=λ_ _ _ _ _ _=>False
abbrev E0:XK:=λ_ _ _=>False
theorem Np{X:Cx}:vo ko X E0:=λ_ _ _ _ _ _ _ h=>h.elim
structure xU(K:PySem.W.Frag)(x qual:Str)(st:Stmt)(f:Addr)(fd:FuncData):Prop where
 ex:∃(oc:Value)(od:Option Addr)(kV doc pm:Value)(an:Option Addr)(bq ct:Value)(pV:Array (Option Value)),
  fd=PySem.W.fnOf x qual (bS st) (aT st) (ax st) .none kV doc pm an bq ct/\K.lookup f=some ⟨oc,od,.func fd,pV⟩/\PySem.W.codeIn K bq qual=true
 kp:PySem.W.keepIn K (.ref f)=true
section
variable {P:Xa}{w:Xe}{K:W8}{mg:WU}{base:Xd}
theorem xU.ok{x qual:Str}{st:Xj}{f:Xh}{fd:Xf}{N ps:W1}{k:Nat}{sp:Sp}(F:xU K x qual st f fd)(S:bC N ps (ax st))(len:∀vs H Q E,sp vs H Q E->vs.length=ps.length)
  (hbody:∀(bq:W9)(A:Xb)(outer:List Env)(s:W_)(H:Hp)(vs:Xq)(Q:VK)(E:XK),a9 k (A.deeper (envOfC qual (ax st) s.heap.objs.size f bq))->sp vs H Q E->
   ∃t,PSs (eM ko P w K mg base N qual (ax st) f bq A outer s H E).nox (aT st) t/\t {nx:=λ_ H'=>Q .non H',rt:=Q} (start N vs) H):dh P w K mg base ko (k+1) f fd ps sp:=by
 obtain⟨oc,od,kV,doc,pm,an,bq,ct,pV,rfl,lk,dO⟩:=F.ex;refine wF lk dO S len λA outer s H vs Q E hr lT=>?_;obtain⟨t,h,q⟩:=hbody bq A outer s H vs Q E hr lT;exact⟨t,h.nox,q⟩
theorem xU.binds{x qual:Str}{st:Xj}{f:Xh}{fd:Xf}{ps:W1}(F:xU K x qual st f fd)
  (h:∀(kV doc pm:W9)(an:W0)(bq ct:W9)(us:WY),us.length=ps.length->bindArgs (PySem.W.fnOf x qual (bS st) (aT st) (ax st) .none kV doc pm an bq ct) ⟨us,[]⟩=pure (ps.zip us)):Binds K fd ps []:=by
 obtain⟨oc,od,kV,doc,pm,an,bq,ct,pV,rfl,lk,dO⟩:=F.ex;exact .all (h kV doc pm an bq ct)
theorem Cy{x qual:Str}{st:Xj}{f:Xh}{oc:W9}{od an:W0}{pV:WT}{kV doc pm bq ct:W9}(l:K.lookup f=some ⟨oc,od,.func (PySem.W.fnOf x qual (bS st) (aT st) (ax st) .none kV doc pm an bq ct),pV⟩)
  (c:PySem.W.codeIn K bq qual=true) (k:PySem.W.keepIn K (.ref f)=true):xU K x qual st f (PySem.W.fnOf x qual (bS st) (aT st) (ax st) .none kV doc pm an bq ct):=⟨⟨oc,od,kV,doc,pm,an,bq,ct,pV,rfl,l,c⟩,k⟩
end
theorem Cn{A:Xb}{k:Nat}(hr:a9 k A):A.units+1<cLine:=UP (Nat.add_le_add_left (by decide:1<=64) _) hr.units
theorem oO{n:Nat}(h:n<=1000):n<sizeLine:=UP h (by decide)
section
variable {X:Cx}
end
theorem zt{A B:Prop}(h:B):if false=true then A else B:=by
 rw[k_ P_];exact h
theorem zr{A B:Prop}(h:A):if true=true then A else B:=by
 rw[j_ rfl];exact h
def aH(H H':Hp):Prop:=∀b o,H b=some o->H' b=some o
theorem aH.refl(H:Hp):aH H H:=λ_ _ h=>h
theorem aH.trans{H H1 H2:Hp}(a:aH H H1)(b:aH H1 H2):aH H H2:=λc o h=>b c o (a c o h)
theorem aH.free{H H':Hp}(e:aH H H'){l:Xh}(h:H' l=Option.none):H l=Option.none:=by
 cases q:H l with
 | none=>rfl
 | some o=>
  rw[e l o q]at h;cases h
theorem aH.seq{K:W8}{H H':Hp}{a:Xh}{xs:Xq}(e:aH H H')(h:de K H a xs):de K H' a xs:=by
 rcases h with (h | ⟨o,h⟩) | h
 .exact .inl (.inl (e _ _ h))
 .exact .inl (.inr ⟨o,e _ _ h⟩)
 .exact .inr h
section
variable {κ:Type}[DecidableEq κ]
end
theorem BA{P:Xa}{w:Xe}{k:Key}{u:W9}(r:RelV (kV k) u):(aA P w).is k u=true:=by
 cases k with
 | inl i=>obtain⟨t,e⟩:=(show ∃t,u=Value.int i t from r);subst e;exact tu P w i t
 | inr x=>obtain⟨t,e⟩:=(show ∃t,u=Value.str x t from r);subst e;exact sT P w x t
theorem jT{P:Xa}{w:Xe}:∀{ks:Xl}{us:WY},av (ks.map kV) us->ItemsAre (aA P w) ks us
 | [],_,r=>by rw[Vt]at r;cases r;exact .nil
 | k::ks,_,r=>by
  rw[L_]at r;cases r with
  | cons h t=>exact .cons (BA h) (jT t)
section
variable {P:Xa}{w:Xe}{H:Hp}{h:Xd}{a:Xh}
end
section
variable {X:Cx}{pins:WS}{σ:St}{H:Hp}{s:W_}{a:Xh}{y v:V}{u r:W9}{o:Option V}{A:Xb}{E:WR}
theorem Inv.big(I:Inv X pins σ H s):sysModules<s.heap.objs.size:=by
 have h:mainGlobals<s.heap.objs.size:=(I.mod.glob.keeps I.bk).lt;exact Vs (by decide) h
end
section
variable {X:Cx}{pins:WS}{σ:St}{H:Hp}{s:W_}{a:Xh}{kvs:List (Key×V)}{k:Key}{u:W9}{A:Xb}{E:WR}
end
def CA(i:Xi):Prop:=∀ov iv,subscripted i false ov iv=operate [ov,iv] (getItem ov iv)
theorem wy{prog:Xa}{w:Xe}{A:Xb}{E:WR}{s:W_}{env:Env}{value slice:Xi}{pos:Pos}{T id:String}{Q:WR}
  (hl:typeLookup (.type T) "__getitem__"=pure (some (.builtin id))) (hs:CA slice)
  (h:wpAny (model prog w) A (eval value env) (λo s₁=>wpAny (model prog w) A (eval slice env) (λi s₂=>s₂.TypeIs o T/\wpAny (model prog w) A (getItem o i) Q E s₂) E s₁) E s) :
  wpAny (model prog w) A (eval (.Subscript value slice pos) env) Q E s:=by
 refine Subscript_ (SG h (λo s₁ h₁=>SG h₁ (λi s₂ h₂=>?_) λ_ _ x=>x) λ_ _ x=>x);obtain⟨hT,h₂⟩:=h₂;unfold subscriptTail;refine a_ ?_;rw[getitemInPython_of_ne hT.not_modules];refine a_ (TH hT hl ?_);have fin:wpAny (model prog w) A (subscripted slice false o i) (λr s₃=>wpAny (model prog w) A (letTemporaryGo value o r >>= λ_=>pure r) Q E s₃) E s₂:=by
  rw[hs o i];exact wpAny_operating (SG h₂ (λr s₃ h₃=>a_ (wpAny_letTemporaryGo (d_ h₃))) λ_ _ x=>x)
 first
  | exact d_ (a_ fin)
  | exact a_ (d_ (a_ fin))
  | exact a_ fin
section
variable {X:Cx}{o i e value:Xi}{pos pos' tpos:Pos}{td ty tv:TE}
end
section
variable {X:Cx}{pos:Pos}
end
structure M1(X:Cx)(o:Expr)(m:Str)(apos:Pos)(e:Expr)(be:Pos):Prop where
 base:attributeBase o m X.env (eval o X.env)=eval o X.env
 few:((backTo be (starEach [e] X.env)).all (λx=>!x.1)&&(backToKw be (keywordEach [] X.env)).all (λx=>x.1.isSome)
  && decide (([e]:List Expr).length+([]:List Keyword).length+(if([]:List Keyword).isEmpty then 0 else 1)<30))=true
 line:(apos.endLine==be.line)=true
 trees:backTo be (starEach [e] X.env)=[(false,eval e X.env)]
structure M2(X:Cx)(o:Expr)(m:Str)(apos:Pos)(e f:Expr)(be:Pos):Prop where
 base:attributeBase o m X.env (eval o X.env)=eval o X.env
 few:((backTo be (starEach [e,f] X.env)).all (λx=>!x.1)&&(backToKw be (keywordEach [] X.env)).all (λx=>x.1.isSome)
  && decide (([e,f]:List Expr).length+([]:List Keyword).length+(if([]:List Keyword).isEmpty then 0 else 1)<30))=true
 line:(apos.endLine==be.line)=true
 trees:backTo be (starEach [e,f] X.env)=[(false,eval e X.env),(false,eval f X.env)]
def Pg(H:Hp)(a:Xh):Prop:=(∃kvs,Rd H a (.dK kvs))\/∃kvs,Rd H a (.dT kvs)
section
variable {X:Cx}{pins:WS}{σ:St}{H:Hp}{s:W_}{a:Xh}{y d:V}{u r:W9}{o:Option V}{A:Xb}{E:WR}
end
section
variable {X:Cx}{o e f:Xi}{apos be:Pos}{td ty tx:TE}
end
section
variable {X:Cx}{pins:WS}{σ:St}{H:Hp}{s:W_}{a:Xh}{kvs:List (Key×V)}{A:Xb}{E:WR}
end
section
variable {X:Cx}{pins:WS}{σ:St}{H:Hp}{s:W_}{a:Xh}{y:V}{u:W9}{A:Xb}{E:WR}
end
end L2
namespace St
open PySem L2
theorem EF(n:Nat)(h:carriedByValue v=true):ofAClassStatement n v=pure false:=by
 cases v with
 | ref a=>simp[carriedByValue]at h
 | _=>first | rfl | (unfold ofAClassStatement;rfl) | (cases n<;>rfl)
theorem Et(n:Nat)(h:ip k v=true):∃b,hashByValue n v=pure b:=by
 rcases aW h with ⟨i,t,rfl,rfl⟩ | ⟨x,t,rfl,rfl⟩
 .exact⟨true,by cases n<;>simp[hashByValue]⟩
 .exact⟨false,by cases n<;>simp[hashByValue]⟩
theorem Cf:SK (tupleKind (aA prog w)) where
 cls:=λ{A E s k a Q} hk h=>by
  have hT:s.TypeIs (.ref a) "tuple":=IsTupleKey.typeIs hk;obtain⟨o,items,n,ho,_,hd,hi⟩:=hk;unfold ofAClassStatement;refine a_ (wpAny_typeOf hT ?_);dsimp only;simp only[VM,Um];refine a_ (d_ ?_);simp only[Tu,x_,SS];refine a_ (TC ho hd ?_);dsimp only;refine a_ ?_;rw[<- Uh];refine Tr _ (λrest r s'=>r.1=none/\s'=s/\∀v∈rest,carriedByValue v=true) _ ?_ ?_ _ _ ⟨rfl,rfl,hi.byValue⟩
  .rintro v rest r s' ⟨hr,rfl,gT⟩;rw[EF _ (gT v o_)];refine a_ (d_ ?_);simp only[x_,SS];exact d_ ⟨rfl,rfl,λu Hl=>gT u (l_ _ Hl)⟩
  .rintro⟨r1,r2⟩ s' ⟨hr,rfl,_⟩;simp only at hr;subst hr;exact d_ h
 hbv:=λ{A E s k a Q} hk h=>by
  have hT:s.TypeIs (.ref a) "tuple":=IsTupleKey.typeIs hk;obtain⟨o,items,n,ho,_,hd,hi⟩:=hk;unfold hashByValue;refine a_ (TH hT Uv.lookup ?_);dsimp only;refine a_ (TC ho hd ?_);refine a_ ?_;show wpAny _ _ (forIn items _ _) _ _ s;rw[<- Uh];refine Tr _ (λrest r s'=>r.1=none/\s'=s/\∃ks,ItemsAre (aA prog w) ks rest) _ ?_ ?_ _ _ ⟨rfl,rfl,_,hi⟩
  .rintro v rest r s' ⟨hr,rfl,ks,NH⟩;cases NH with
   | cons h1 rD=>
    obtain⟨b,hb⟩:=Et 7 h1;rw[hb];refine a_ (d_ ?_);cases b with
    | true=>
     simp only[Tu,x_,SS];exact d_ ⟨rfl,rfl,_,rD⟩
    | false=>
     simp only[Bool.not_false,Um];exact d_ (d_ (h _))
  .rintro⟨r1,r2⟩ s' ⟨hr,rfl,_⟩;simp only at hr;subst hr;exact d_ (h _)
def tz[DecidableEq K](xs:List (K×Xh))(x:K×Xh):List (K×Xh):=if x.1∈xs.map (·.1)then xs else xs++[x]
section
variable {prog:Xa}{w:Xe}{A:Xb}{E:WR}{s:W_}{R:Result->W_->Prop}
theorem yX(hu:A.units<cLine)(hS:iA (tupleKind (aA prog w)) a xs s.heap)(zA:∀x∈xs,(tupleKind (aA prog w)).is s.heap x.1 x.2)(ei:(tupleKind (aA prog w)).is s.heap k b)(hl:xs.length+1<=4914)
  (h:∀r h' tk,Heap.SameBut a s.heap h'->iA (tupleKind (aA prog w)) a (tz xs (k,b)) h'->(∀L,KS prog w b s.heap->Fl a L s.heap->Fl a L h')->Q r {s with heap:=h',toks:=tk}):wpAny (model prog w) A (setAdd a (.ref b)) Q E s:=by
 unfold setAdd;refine Q_ ?_;refine a_ ((tupleKind (aA prog w)).pyHash (show(tupleKind (aA prog w)).room A from hu) ei ?_);refine E7 (s:={s with toks:=s.toks+(tupleKind (aA prog w)).draws k}) Cf (show(tupleKind (aA prog w)).room A from hu) hS zA ei hl (λhk=>?_) (λhk h' hsb hS' hF=>?_)
 .have e:tz xs (k,b)=xs:=by unfold tz;rw[j_ hk]
  exact h false s.heap _ ⟨rfl,λ_ _=>rfl⟩ (by rw[e];exact hS) λ_ _ z=>z
 .have e:tz xs (k,b)=xs++[(k,b)]:=by unfold tz;rw[k_ hk]
  exact h true h' _ hsb (by rw[e];exact hS') hF
theorem Aj{ps:W6}(hk:(tupleKind (aA prog w)).is h (ps.map Sum.inl) b):KS prog w b h:=by
 intro A E s Q e hQ;subst e;have hT:s.TypeIs (.ref b) "tuple":=IsTupleKey.typeIs hk;obtain⟨o,items,n,ho,_,hd,hi⟩:=hk;unfold hashByValue;refine a_ (TH hT Uv.lookup ?_);dsimp only;refine a_ (TC ho hd ?_);refine a_ ?_;show wpAny _ _ (forIn items _ _) _ _ s;rw[<- Uh];refine Tr _ (λrest r s'=>r.1=none/\s'=s/\∃ks:W6,ItemsAre (aA prog w) (ks.map Sum.inl) rest) _ ?_ ?_ _ _ ⟨rfl,rfl,_,hi⟩
 .rintro v rest r s' ⟨hr,rfl,ks,NH⟩;cases ks with
  | nil=>cases NH
  | cons i ks=>
   cases NH with
   | cons h1 rD=>
    rcases aW (show ip (.inl i) v=true from h1)with ⟨j,t,_,rfl⟩ | ⟨x,t,e,_⟩
    .show wpAny _ _ (pure true >>= _) _ _ _;refine a_ (d_ ?_);simp only[Tu,x_,SS];exact d_ ⟨rfl,rfl,_,rD⟩
    .cases e
 .rintro⟨r1,r2⟩ s' ⟨hr,rfl,_⟩;simp only at hr;subst hr;exact d_ hQ
theorem BW(led:Bool)(e:h.get? a=some {cls:=.type "set",dict:=none,data:=.set #[] 0 (.fresh 0 0 led)}):iA (tupleKind (aA prog w)) a [] h:=by
 refine⟨_,#[],0,_,e,⟨rfl,rfl,rfl⟩,rfl,⟨by simp,⟨rfl,⟨3,rfl⟩,by simp[SetTable.fresh],λx hx=>?_,rfl,by simp[SetTable.fresh],λq hq=>?_⟩,by simp[SetTable.fresh,d6],by simp[SetTable.fresh]⟩,U4⟩
 .simp[SetTable.fresh]at hx
 .simp[SetTable.fresh]at hq
end
section
variable {prog:Xa}{w:Xe}{A:Xb}{E:WR}{s:W_}{R:Result->W_->Prop}
section
variable {K:Type}[DecidableEq K]{knd:HeapKind prog w K}
end
end
end St
namespace Mi
open PySem PySem.Spec PyProof.Rows L2
inductive D where
 | non | bl (b:Bool) | int (i:Int) | str (x:Str) | tup (ds:List D) | lst (ds:List D) | dct (ks:List (Int×Int))
  | st (ps:List (Int×Int)) | ln (n:Nat)
  | mp (th:Str->Int) (ks:List (List Key)) (ds:List D)
  | ix (th:Str->Int) (ks:List Key) (ds:List D)
  | nt (ks:List (List Key)) (ds:List D)
 deriving Inhabited
abbrev Xp:=Option D
abbrev Xo:=List D
abbrev Xn:=Option Xo
def kk(p:W7):Xl:=[.inl p.1,.inl p.2]
abbrev Fg:=W8
def IA(x:W7×Xh):Int×W9:=(reduceHash (Builtin.Tuple.tupleHashOf [hashInt x.1.1,hashInt x.1.2]),.ref x.2)
def yQ(a:Xh)(ps:WW)(bs:W2)(h:Xd):Prop:=
 ∃o es ep t,h.get? a=some o/\o.ExactSet/\o.data=.set es ep t/\es.toList.Perm ((ps.zip bs).map IA)/\St.Ok t (es.toList.map (·.1))/\t.mask∈St.d6/\t.place.size*5<t.mask*3/\ps.Nodup
def O6(x:W7×Xh):DictEntry:=⟨reduceHash (Builtin.Tuple.tupleHashOf [hashInt x.1.1,hashInt x.1.2]),.ref x.2,.bool true⟩
def LN(a:Xh)(ps:WW)(bs:W2)(h:Xd):Prop:=
 ∃o es ep,h.get? a=some o/\o.ExactDict/\o.data=.dict es ep/\es.toList=(ps.zip bs).map O6/\ps.Nodup/\(a==sysModules)=false/\ps.length<=16000000
def km(K:Fg)(H:Hp)(ps:WW)(bs:W2):Prop:=bs.length=ps.length/\∀(i:Nat) p b,ps[i]?=some p->bs[i]?=some b->cw K H b [.int p.1,.int p.2]
def zb(K:Fg)(Z H:Hp)(a:Xh)(ks:WW):Prop:=∃bs,H a=some (.ext (LN a ks bs))/\km K Z ks bs
def O2(a:Xh)(n:Nat)(h:Xd):Prop:=∃o es ep,h.get? a=some o/\o.ExactDict/\o.data=.dict es ep/\es.size=n/\(a==sysModules)=false
def hK(th:Str->Int):Key->Int
 | .inl k=>hashInt k
 | .inr x=>th x
def Fd(th:Str->Int)(x:Xl×Xh×W9):DictEntry:=⟨reduceHash (Builtin.Tuple.tupleHashOf (x.1.map (hK th))),.ref x.2.1,x.2.2⟩
def ek(ks:Xk)(bs:W2)(us:WY):List (Xl×Xh×W9):=ks.zip (bs.zip us)
def fu(th:Str->Int)(a:Xh)(ks:Xk)(bs:W2)(vs:Xq)(h:Xd):Prop:=
 ∃o es ep us,h.get? a=some o/\o.ExactDict/\o.data=.dict es ep/\av vs us/\es.toList=(ek ks bs us).map (Fd th)/\ks.Nodup/\(a==sysModules)=false/\ks.length<=16000000/\bs.length=ks.length/\us.length=ks.length
def iM(K:Fg)(H:Hp)(ks:Xk)(bs:W2):Prop:=∀(i:Nat) k b,ks[i]?=some k->bs[i]?=some b->cw K H b (k.map kV)
def B3(th:Str->Int)(o:Obj)(a:Xh)(ks:Xl)(vs:Xq):Prop:=
 (a==sysModules)=false/\ks.length<=16000000/\vs.length=ks.length/\∃(P:Xa)(w:Xe)(us:WY),th=hashStr w/\av vs us/\o.IsDictOf (aA P w) (ks.zip us)
def oU(a:Xh)(o:Obj)(h:Xd):Prop:=h.get? a=some o
def DF:Xl->WW
 | .inl a::.inl b::r=>(a,b)::DF r
 | _=>[]
def fA:WW->Xl
 | []=>[]
 | p::ps=>.inl p.1::.inl p.2::fA ps
def KZ(p:W7):Int:=reduceHash (Builtin.Tuple.tupleHashOf [hashInt p.1,hashInt p.2])
def Oi(q:Xl):Int:=reduceHash (Builtin.Tuple.tupleHashOf ((DF q).map KZ))
def E8(x:Xl×Xh×W9):DictEntry:=⟨Oi x.1,.ref x.2.1,x.2.2⟩
def jC(a:Xh)(ep:Nat)(ks:Xk)(bs:W2)(vs:Xq)(h:Xd):Prop:=
 ∃o es us,h.get? a=some o/\o.ExactDict/\o.data=.dict es ep/\av vs us/\es.toList=(ek ks bs us).map E8/\ks.Nodup/\(a==sysModules)=false/\ks.length<=16000000/\bs.length=ks.length/\us.length=ks.length
def n4(K:Fg)(H:Hp)(ks:Xk)(bs:W2):Prop:=∀(i:Nat) k b,ks[i]?=some k->bs[i]?=some b->∃ps cs,k=fA ps/\cw K H b (cs.map .ref)/\km K H ps cs
mutual
def Rep(K:Fg)(H:Hp):D->V->Prop
 | .non,v=>v=.non
 | .bl b,v=>v=.bl b
 | .int i,v=>v=.int i
 | .str x,v=>v=.str x/\PyData.strOk x=true
 | .tup ds,v=>∃a vs,v=.ref a/\cw K H a vs/\ak K H ds vs
 | .lst ds,v=>∃a vs,v=.ref a/\de K H a vs/\ak K H ds vs
 | .dct ks,v=>∃a,v=.ref a/\zb K H H a ks
 | .st ps,v=>∃a bs,v=.ref a/\bs.length=ps.length/\H a=some (.ext (yQ a ps bs))/\∀(i:Nat) p b,ps[i]?=some p->bs[i]?=some b->cw K H b [.int p.1,.int p.2]
 | .ln n,v=>∃a,v=.ref a/\H a=some (.ext (O2 a n))
 | .mp th ks ds,v=>∃a bs vs,v=.ref a/\H a=some (.ext (fu th a ks bs vs))/\iM K H ks bs/\ak K H ds vs
 | .ix th ks ds,v=>∃a o vs,v=.ref a/\H a=some (.ext (oU a o))/\B3 th o a ks vs/\ak K H ds vs
 | .nt ks ds,v=>∃a ep bs vs,v=.ref a/\H a=some (.ext (jC a ep ks bs vs))/\n4 K H ks bs/\ak K H ds vs
def ak(K:Fg)(H:Hp):Xo->Xq->Prop
 | [],vs=>vs=[]
 | d::ds,vs=>∃v r,vs=v::r/\Rep K H d v/\ak K H ds r
end
theorem bJ{K:Fg}{H H':Hp}{a:Xh}{xs:Xq}(e:aH H H')(h:cw K H a xs):cw K H' a xs:=by
 rcases h with (h | ⟨o,h⟩) | h
 .exact .inl (.inl (e _ _ h))
 .exact .inl (.inr ⟨o,e _ _ h⟩)
 .exact .inr h
theorem iM.mono{K:Fg}{H H':Hp}(s:aH H H'){ks:Xk}{bs:W2}(h:iM K H ks bs):iM K H' ks bs:=λi k b h1 h2=>bJ s (h i k b h1 h2)
theorem km.mono{K:Fg}{H H':Hp}(s:aH H H'){ps:WW}{bs:W2}(h:km K H ps bs):km K H' ps bs:=⟨h.1,λi p b h1 h2=>bJ s (h.2 i p b h1 h2)⟩
theorem n4.mono{K:Fg}{H H':Hp}(s:aH H H'){ks:Xk}{bs:W2}(h:n4 K H ks bs):n4 K H' ks bs:=λi k b h1 h2=>let ⟨ps,cs,e,q,r⟩:=h i k b h1 h2;⟨ps,cs,e,bJ s q,r.mono s⟩
theorem zb.mono{K:Fg}{Z Z' H H':Hp}(z:aH Z Z')(s:aH H H'){a:Xh}{ks:WW}(h:zb K Z H a ks):zb K Z' H' a ks:=let ⟨bs,e,r⟩:=h;⟨bs,s _ _ e,r.mono z⟩
mutual
theorem Rep.mono{K:Fg}{H H':Hp}(s:aH H H'):∀(d:D){v:V},Rep K H d v->Rep K H' d v
 | .non,_,h=>h
 | .bl _,_,h=>h
 | .int _,_,h=>h
 | .str _,_,h=>h
 | .tup ds,_,⟨a,vs,e,q,r⟩=>⟨a,vs,e,bJ s q,ak.mono s ds r⟩
 | .lst ds,_,⟨a,vs,e,q,r⟩=>⟨a,vs,e,s.seq q,ak.mono s ds r⟩
 | .dct ks,_,⟨a,e,q⟩=>⟨a,e,q.mono s s⟩
 | .st ps,_,⟨a,bs,e,l,q,r⟩=>⟨a,bs,e,l,s _ _ q,λi p b h1 h2=>bJ s (r i p b h1 h2)⟩
 | .ln n,_,⟨a,e,q⟩=>⟨a,e,s _ _ q⟩
 | .mp th ks ds,_,⟨a,bs,vs,e,q,r,t⟩=>⟨a,bs,vs,e,s _ _ q,r.mono s,ak.mono s ds t⟩
 | .ix th ks ds,_,⟨a,o,vs,e,q,r,t⟩=>⟨a,o,vs,e,s _ _ q,r,ak.mono s ds t⟩
 | .nt ks ds,_,⟨a,ep,bs,vs,e,q,r,t⟩=>⟨a,ep,bs,vs,e,s _ _ q,r.mono s,ak.mono s ds t⟩
theorem ak.mono{K:Fg}{H H':Hp}(s:aH H H'):∀(ds:Xo){vs:Xq},ak K H ds vs->ak K H' ds vs
 | [],_,h=>h
 | d::ds,_,⟨v,r,e,h,q⟩=>⟨v,r,e,Rep.mono s d h,ak.mono s ds q⟩
end
theorem ak.len{K:Fg}{H:Hp}:∀{ds:Xo}{vs:Xq},ak K H ds vs->ds.length=vs.length
 | [],_,h=>by cases(show _=[]from h);rfl
 | d::ds,_,⟨v,r,e,_,q⟩=>by subst e;simp[ak.len q]
theorem ak.get{K:Fg}{H:Hp}:∀{ds:Xo}{vs:Xq}{i:Nat}{d:D},ak K H ds vs->ds[i]?=some d->∃v,vs[i]?=some v/\Rep K H d v
 | [],_,_,_,_,e=>by simp at e
 | d::ds,_,0,_,⟨v,r,e,h,q⟩,e2=>by subst e;simp at e2;subst e2;exact⟨v,rfl,h⟩
 | d::ds,_,i+1,_,⟨v,r,e,h,q⟩,e2=>by subst e;simpa using ak.get (i:=i) q (by simpa using e2)
theorem ak.getV{K:Fg}{H:Hp}{ds:Xo}{vs:Xq}{i:Nat}{v:V}(h:ak K H ds vs)(e:vs[i]?=some v):∃d,ds[i]?=some d/\Rep K H d v:=by
 have hl:=h.len;have hi:i<vs.length:=(i_.mp e).1;have hd:ds[i]?=some (ds[i]'(by lia)):=by simp[hl,hi]
 obtain⟨w,e2,r⟩:=h.get hd;rw[e]at e2;cases e2;exact⟨_,hd,r⟩
theorem ak.app{K:Fg}{H:Hp}:∀{ds es:Xo}{vs us:Xq},ak K H ds vs->ak K H es us->ak K H (ds++es) (vs++us)
 | [],_,_,_,h,q=>by cases(show _=[]from h);exact q
 | d::ds,_,_,_,⟨v,r,e,h,q⟩,q2=>by subst e;exact⟨v,_,rfl,h,ak.app q q2⟩
theorem ak.one{K:Fg}{H:Hp}{d:D}{v:V}(h:Rep K H d v):ak K H [d] [v]:=⟨v,[],rfl,h,rfl⟩
theorem ak.cons{K:Fg}{H:Hp}{d:D}{v:V}{ds:Xo}{vs:Xq}(h:Rep K H d v)(r:ak K H ds vs):ak K H (d::ds) (v::vs):=⟨v,vs,rfl,h,r⟩
theorem ak.set{K:Fg}{H:Hp}{d:D}{v:V}(h:Rep K H d v):∀{ds:Xo}{vs:Xq}(i:Nat),ak K H ds vs->ak K H (ds.set i d) (vs.set i v)
 | [],_,_,q=>by cases(show _=[]from q);rfl
 | d::ds,_,0,⟨w,r,e,_,q⟩=>by subst e;exact⟨v,r,rfl,h,q⟩
 | d::ds,_,i+1,⟨w,r,e,z,q⟩=>by subst e;exact⟨w,_,rfl,z,ak.set h i q⟩
theorem ak.drop{K:Fg}{H:Hp}:∀{ds:Xo}{vs:Xq}(n:Nat),ak K H ds vs->ak K H (ds.drop n) (vs.drop n)
 | _,_,0,q=>q
 | [],_,_+1,q=>by cases(show _=[]from q);rfl
 | _::_,_,n+1,⟨w,r,e,z,q⟩=>by subst e;exact ak.drop n q
theorem ak.take{K:Fg}{H:Hp}:∀{ds:Xo}{vs:Xq}(n:Nat),ak K H ds vs->ak K H (ds.take n) (vs.take n)
 | _,_,0,q=>rfl
 | [],_,_+1,q=>by cases(show _=[]from q);rfl
 | _::_,_,n+1,⟨w,r,e,z,q⟩=>by subst e;exact⟨w,_,rfl,z,ak.take n q⟩
theorem ak.rev{K:Fg}{H:Hp}:∀{ds:Xo}{vs:Xq},ak K H ds vs->ak K H ds.reverse vs.reverse
 | [],_,q=>by cases(show _=[]from q);rfl
 | _::_,_,⟨w,r,e,z,q⟩=>by subst e;simp only[Ww];exact(ak.rev q).app (ak.one z)
theorem ak.ints{K:Fg}{H:Hp}:∀(ns:W6),ak K H (ns.map D.int) (ns.map V.int)
 | []=>rfl
 | n::ns=>⟨_,_,rfl,rfl,ak.ints ns⟩
abbrev Nf(Z Z':Hp):Prop:=∀a ob u,Z' a=some (.frz ob u)->Z a=some (.frz ob u)
abbrev NF(o:HO):Prop:=∀ob u,o≠.frz ob u
theorem MY:NF (.lst xs):=λ_ _ z=>by cases z
theorem Sg:NF (.tup xs):=λ_ _ z=>by cases z
theorem KO:NF (.ext φ):=λ_ _ z=>by cases z
theorem pK(n:Nf Z Z')(hf:NF o):Nf Z (upd Z' p o):=λa ob u e=>by
 by_cases hb:a=p
 .subst hb;rw[ai]at e;cases e;exact absurd rfl (hf ob u)
 .rw[ar hb]at e;exact n a ob u e
structure Ex(Z H Z' H':Hp):Prop where
 h:aH H H'
 z:aH Z Z'
 zh:aH Z' H'
 fr:∀a,H a≠none->Z a=none->Z' a=none
 nf:Nf Z Z'
theorem Ex.refl(s:aH Z H):Ex Z H Z H:=⟨aH.refl _,aH.refl _,s,λ_ _ h=>h,λ_ _ _ h=>h⟩
theorem nJ(s:aH H H')(h:H a≠none):H' a≠none:=by
 cases e:H a with
 | none=>exact absurd e h
 | some o=>rw[s a o e];simp
theorem Ex.trans(x:Ex Z H Z1 H1)(y:Ex Z1 H1 Z2 H2):Ex Z H Z2 H2:=
 ⟨x.h.trans y.h,x.z.trans y.z,y.zh,λa h e=>y.fr a (nJ x.h h) (x.fr a h e),λa o u h=>x.nf a o u (y.nf a o u h)⟩
theorem Ex.transB(x:Ex Z B Z1 H1)(y:Ex Z1 B Z2 H2):Ex Z B Z2 H2:=
 ⟨y.h,x.z.trans y.z,y.zh,λa h e=>y.fr a h (x.fr a h e),λa o u h=>x.nf a o u (y.nf a o u h)⟩
theorem Ex.part(b:aH B H)(x:Ex Z H Z' H'):Ex Z B Z' H':=⟨b.trans x.h,x.z,x.zh,λa h e=>x.fr a (nJ b h) e,x.nf⟩
theorem b9(h:H p=none):aH H (upd H p o):=λb u e=>by rw[ar (aS e h)];exact e
theorem HV(s:aH Z H)(h:H p=none):aH (upd Z p o) (upd H p o):=λb u e=>by
 by_cases hb:b=p
 .subst hb;rw[ai]at e ⊢;exact e
 .rw[ar hb]at e ⊢;exact s b u e
theorem d7(s:aH Z H)(h:Z p=none):aH Z (upd H p o):=λb u e=>by
 rw[ar (aS e h)];exact s b u e
theorem nh(s:aH Z H)(h:H p=some o):aH (upd Z p o) H:=λb u e=>by
 by_cases hb:b=p
 .subst hb;rw[ai]at e;cases e;exact h
 .rw[ar hb]at e;exact s b u e
theorem Ex.new(s:aH Z H)(h:H p=none)(hf:NF o:=by first | exact Sg | exact MY | exact KO):Ex Z H (upd Z p o) (upd H p o):=
 ⟨b9 h,b9 (s.free h),HV s h,λa ha e=>by rw[ar (λz=>ha (by rw[z];exact h))];exact e,pK (λ_ _ _ h=>h) hf⟩
theorem Ex.newL(s:aH Z H)(h:H p=none):Ex Z H Z (upd H p o):=
 ⟨b9 h,aH.refl _,d7 s (s.free h),λ_ _ e=>e,λ_ _ _ h=>h⟩
def yS(K:Fg)(Z H:Hp)(a:Xh)(th:Str->Int)(ks:Xk)(ds:Xo):Prop:=∃bs vs,H a=some (.ext (fu th a ks bs vs))/\iM K Z ks bs/\ak K Z ds vs
theorem yS.mono{K:Fg}{Z Z' H H':Hp}(z:aH Z Z')(s:aH H H'){a:Xh}{th:Str->Int}{ks:Xk}{ds:Xo}(h:yS K Z H a th ks ds):yS K Z' H' a th ks ds:=let ⟨bs,vs,e,r,t⟩:=h;⟨bs,vs,s _ _ e,r.mono z,ak.mono z ds t⟩
inductive Gr where | pk | cl | nw | nd | nm
def Gd(K:Fg)(Z' H H':Hp):Gr->D->V->Prop
 | .pk,d,v=>Rep K Z' d v\/(∃a vs ds,v=.ref a/\d=.lst ds/\H' a=some (.lst vs)/\ak K Z' ds vs)\/(∃a ks,v=.ref a/\d=.dct ks/\zb K Z' H' a ks)\/∃a th ks ds,v=.ref a/\d=.mp th ks ds/\yS K Z' H' a th ks ds
 | .cl,d,v=>Rep K Z' d v
 | .nw,d,v=>∃a vs ds,v=.ref a/\d=.lst ds/\H a=none/\H' a=some (.lst vs)/\Z' a=none/\ak K Z' ds vs
 | .nd,d,v=>∃a ks,v=.ref a/\d=.dct ks/\H a=none/\zb K Z' H' a ks/\Z' a=none
 | .nm,d,v=>∃a th ks ds,v=.ref a/\d=.mp th ks ds/\H a=none/\yS K Z' H' a th ks ds/\Z' a=none
section
variable {K:Fg}{Z Z' H H':Hp}{g:Gr}{d:D}{v:V}
theorem Gd.pk(h:Gd K Z' H H' g d v):Gd K Z' H3 H' .pk d v:=by
 cases g with
 | pk=>exact h
 | cl=>exact .inl h
 | nw=>obtain⟨a,vs,ds,e1,e2,_,e3,_,r⟩:=h;exact .inr (.inl ⟨a,vs,ds,e1,e2,e3,r⟩)
 | nd=>obtain⟨a,ks,e1,e2,_,e3,_⟩:=h;exact .inr (.inr (.inl ⟨a,ks,e1,e2,e3⟩))
 | nm=>obtain⟨a,th,ks,ds,e1,e2,_,e3,_⟩:=h;exact .inr (.inr (.inr ⟨a,th,ks,ds,e1,e2,e3⟩))
theorem Gd.rep(s:aH Z' H')(h:Gd K Z' H H' g d v):Rep K H' d v:=by
 rcases(h.pk (H3:=H))with h | ⟨a,vs,ds,rfl,rfl,e,r⟩ | ⟨a,ks,rfl,rfl,e⟩ | ⟨a,th,ks,ds,rfl,rfl,bs,vs,e,r,t⟩
 .exact Rep.mono s d h
 .exact⟨a,vs,rfl,de.of e,ak.mono s ds r⟩
 .exact⟨a,rfl,e.mono s (aH.refl _)⟩
 .exact⟨a,bs,vs,rfl,e,r.mono s,ak.mono s ds t⟩
theorem Gd.lst{ds:Xo}(s:aH Z' H')(h:Gd K Z' H H' g (.lst ds) v):∃a vs,v=.ref a/\de K H' a vs/\ak K Z' ds vs:=by
 rcases(h.pk (H3:=H))with ⟨a,vs,e,q,r⟩ | ⟨a,vs,NI,rfl,e,e2,r⟩ | ⟨_,_,_,e,_⟩ | ⟨_,_,_,_,_,e,_⟩
 .exact⟨a,vs,e,s.seq q,r⟩
 .cases e;exact⟨a,vs,rfl,de.of e2,r⟩
 .cases e
 .cases e
theorem Gd.mp(s:aH Z' H')(h:Gd K Z' H H' g (.mp th ks ds) v):∃a,v=.ref a/\yS K Z' H' a th ks ds:=by
 rcases(h.pk (H3:=H))with ⟨a,bs,vs,e,q,r,t⟩ | ⟨_,_,_,_,e,_⟩ | ⟨_,_,_,e,_⟩ | ⟨a,zD,gj,NI,rfl,e,q⟩
 .exact⟨a,e,bs,vs,s _ _ q,r,t⟩
 .cases e
 .cases e
 .cases e;exact⟨a,rfl,q⟩
theorem Gd.tup{ds:Xo}(s:aH Z' H')(h:Gd K Z' H H' g (.tup ds) v):∃a vs,v=.ref a/\cw K H' a vs/\ak K Z' ds vs:=by
 rcases(h.pk (H3:=H))with ⟨a,vs,e,q,r⟩ | ⟨a,vs,NI,rfl,e,e2,r⟩ | ⟨_,_,_,e,_⟩ | ⟨_,_,_,_,_,e,_⟩
 .exact⟨a,vs,e,bJ s q,r⟩
 .cases e
 .cases e
 .cases e
theorem Gd.int{i:Int}(h:Gd K Z' H H' g (.int i) v):v=.int i:=by
 rcases(h.pk (H3:=H))with h | ⟨_,_,_,_,e,_⟩ | ⟨_,_,_,e,_⟩ | ⟨_,_,_,_,_,e,_⟩
 .exact h
 .cases e
 .cases e
 .cases e
theorem Gd.bl(h:Gd K Z' H H' g (.bl b) v):v=.bl b:=by
 rcases(h.pk (H3:=H))with h | ⟨_,_,_,_,e,_⟩ | ⟨_,_,_,e,_⟩ | ⟨_,_,_,_,_,e,_⟩
 .exact h
 .cases e
 .cases e
 .cases e
theorem Gd.str{x:Str}(h:Gd K Z' H H' g (.str x) v):v=.str x:=by
 rcases(h.pk (H3:=H))with h | ⟨_,_,_,_,e,_⟩ | ⟨_,_,_,e,_⟩ | ⟨_,_,_,_,_,e,_⟩
 .exact h.1
 .cases e
 .cases e
 .cases e
theorem Gd.later(x:Ex Z' H' Z2 H2)(h:Gd K Z' H H' g d v):Gd K Z2 H3 H2 .pk d v:=by
 rcases(h.pk (H3:=H))with h | ⟨a,vs,ds,e1,e2,e3,r⟩ | ⟨a,ks,e1,e2,e3⟩ | ⟨a,th,ks,ds,e1,e2,e3⟩
 .exact .inl (Rep.mono x.z d h)
 .exact .inr (.inl ⟨a,vs,ds,e1,e2,x.h _ _ e3,ak.mono x.z ds r⟩)
 .exact .inr (.inr (.inl ⟨a,ks,e1,e2,e3.mono x.z x.h⟩))
 .exact .inr (.inr (.inr ⟨a,th,ks,ds,e1,e2,e3.mono x.z x.h⟩))
end
inductive rF where
 | L (ds:List D) | T (ks:List (Int×Int)) | M (th:Str->Int) (ks:List (List Key)) (ds:List D) | I (th:Str->Int) (ks:List Key) (ds:List D) | N (ks:List (List Key)) (ds:List D)
def bU(K:Fg)(Z:Hp)(a:Xh):rF->HO->Prop
 | .L ds,o=>∃vs,o=.lst vs/\ak K Z ds vs
 | .T ks,o=>∃bs,o=.ext (LN a ks bs)/\km K Z ks bs
 | .M th ks ds,o=>∃bs vs,o=.ext (fu th a ks bs vs)/\iM K Z ks bs/\ak K Z ds vs
 | .I th ks ds,o=>∃ob vs,o=.ext (oU a ob)/\B3 th ob a ks vs/\ak K Z ds vs
 | .N ks ds,o=>∃ep bs vs,o=.ext (jC a ep ks bs vs)/\n4 K Z ks bs/\ak K Z ds vs
def rF.d:rF->D
 | .L ds=>.lst ds
 | .T ks=>.dct ks
 | .M th ks ds=>.mp th ks ds
 | .I th ks ds=>.ix th ks ds
 | .N ks ds=>.nt ks ds
def rF.pd:rF->Xp
 | .L ds=>some (.lst ds)
 | .T ks=>some (.dct ks)
 | .M th ks ds=>some (.mp th ks ds)
 | .I _ _ _=>none
 | .N _ _=>none
theorem bU.l{K:Fg}{Z:Hp}{a:Xh}{ds:Xo}{vs:Xq}(h:ak K Z ds vs):bU K Z a (.L ds) (.lst vs):=⟨vs,rfl,h⟩
theorem bU.mono{K:Fg}{Z Z':Hp}(s:aH Z Z'){a:Xh}{w:rF}{o:HO}(h:bU K Z a w o):bU K Z' a w o:=by
 cases w with
 | L ds=>obtain⟨vs,e,r⟩:=h;exact⟨vs,e,ak.mono s ds r⟩
 | T ks=>obtain⟨bs,e,r⟩:=h;exact⟨bs,e,r.mono s⟩
 | M th ks ds=>obtain⟨bs,vs,e,r,t⟩:=h;exact⟨bs,vs,e,r.mono s,ak.mono s ds t⟩
 | I th ks ds=>obtain⟨ob,vs,e,r,t⟩:=h;exact⟨ob,vs,e,r,ak.mono s ds t⟩
 | N ks ds=>obtain⟨ep,bs,vs,e,r,t⟩:=h;exact⟨ep,bs,vs,e,r.mono s,ak.mono s ds t⟩
theorem bU.rep{K:Fg}{Z:Hp}{w:rF}{o:HO}{a:Xh}(h:bU K Z a w o)(e:Z a=some o):Rep K Z w.d (.ref a):=by
 cases w with
 | L ds=>obtain⟨vs,rfl,r⟩:=h;exact⟨a,vs,rfl,de.of e,r⟩
 | T ks=>obtain⟨bs,rfl,r⟩:=h;exact⟨a,rfl,bs,e,r⟩
 | M th ks ds=>obtain⟨bs,vs,rfl,r,t⟩:=h;exact⟨a,bs,vs,rfl,e,r,t⟩
 | I th ks ds=>obtain⟨ob,vs,rfl,r,t⟩:=h;exact⟨a,ob,vs,rfl,e,r,t⟩
 | N ks ds=>obtain⟨ep,bs,vs,rfl,r,t⟩:=h;exact⟨a,ep,bs,vs,rfl,e,r,t⟩
theorem bU.nf{K:Fg}{Z:Hp}{w:rF}{o:HO}{a:Xh}(h:bU K Z a w o):NF o:=by
 cases w with
 | L ds=>obtain⟨vs,rfl,r⟩:=h;exact MY
 | T ks=>obtain⟨bs,rfl,r⟩:=h;exact KO
 | M th ks ds=>obtain⟨bs,vs,rfl,r,t⟩:=h;exact KO
 | I th ks ds=>obtain⟨ob,vs,rfl,r,t⟩:=h;exact KO
 | N ks ds=>obtain⟨ep,bs,vs,rfl,r,t⟩:=h;exact KO
inductive Slot where
 | un | F (d:D) | O (w:rF)
def pX(K:Fg)(Z H:Hp):Slot->Option V->Prop
 | .un,_=>True
 | .F d,x=>∃v,x=some v/\Rep K Z d v
 | .O w,x=>∃a o,x=some (.ref a)/\H a=some o/\Z a=none/\bU K Z a w o
abbrev En:=List Slot
abbrev Xm:=En->Xn
structure Rl(K:Fg)(B Z H:Hp)(env:En)(σ:L2.St):Prop where
 bh:aH B H
 zh:aH Z H
 len:env.length=σ.length
 sl:∀(i:Nat) s,env[i]?=some s->∃x,σ[i]?=some x/\pX K Z H s x
 ob:∀(i:Nat) ds a,env[i]?=some (.O ds)->σ[i]?=some (some (.ref a))->B a=none
 ap:∀(i j:Nat) ds es a,i≠j->env[i]?=some (.O ds)->env[j]?=some (.O es)->σ[i]?=some (some (.ref a))->σ[j]?≠some (some (.ref a))
section
variable {K:Fg}{B Z H Z' H':Hp}{env:En}{σ:L2.St}
theorem pX.ext(e:Ex Z H Z' H')(h:pX K Z H s x):pX K Z' H' s x:=by
 cases s with
 | un=>trivial
 | F d=>obtain⟨v,e1,r⟩:=h;exact⟨v,e1,Rep.mono e.z d r⟩
 | O w=>obtain⟨a,o,e1,e2,e3,r⟩:=h;exact⟨a,o,e1,e.h _ _ e2,e.fr a (by rw[e2];simp) e3,r.mono e.z⟩
theorem Rl.ext(R:Rl K B Z H env σ)(e:Ex Z H Z' H'):Rl K B Z' H' env σ:=
 ⟨R.bh.trans e.h,e.zh,R.len,λi s h=>let ⟨x,h1,h2⟩:=R.sl i s h;⟨x,h1,h2.ext e⟩,R.ob,R.ap⟩
theorem Rl.setF(R:Rl K B Z H env σ)(i:Nat)(r:Rep K Z d v):Rl K B Z H (env.set i (.F d)) (σ.set i (some v)):=by
 refine⟨R.bh,R.zh,by simp[R.len],λj s h=>?_,λj ds a h h2=>?_,λj k ds es a hne h1 h2 h3 h4=>?_⟩
 .by_cases hj:i=j
  .subst hj
   by_cases hl:i<env.length
   .rw[v_ hl]at h;cases h;exact⟨some v,v_ (by rw[<- R.len];exact hl),v,rfl,r⟩
   .rw[K_ (by simpa using S_ hl)]at h;cases h
  .rw[p_ hj]at h ⊢;exact R.sl j s h
 .by_cases hj:i=j
  .subst hj
   by_cases hl:i<env.length
   .rw[v_ hl]at h;cases h
   .rw[K_ (by simpa using S_ hl)]at h;cases h
  .rw[p_ hj]at h h2;exact R.ob j ds a h h2
 .have Gn:∀{j:Nat}{ds:rF},(env.set i (.F d))[j]?=some (.O ds)->i≠j:=λ{j ds} h z=>by
   subst z
   by_cases hl:i<env.length
   .rw[v_ hl]at h;cases h
   .rw[K_ (by simpa using S_ hl)]at h;cases h
  have n1:=Gn h1;have n2:=Gn h2;rw[p_ n1]at h1 h3;rw[p_ n2]at h2 h4;exact R.ap j k ds es a hne h1 h2 h3 h4
theorem Rl.setO(R:Rl K B Z H env σ)(i:Nat)(hb:B a=none)(hz:Z a=none)(hh:H a=some vs)(r:bU K Z a ds vs)
  (hn:∀(j:Nat) es,j≠i->env[j]?=some (.O es)->σ[j]?≠some (some (.ref a))):Rl K B Z H (env.set i (.O ds)) (σ.set i (some (.ref a))):=by
 have atI:∀{s:Slot},(env.set i (.O ds))[i]?=some s->s=.O ds/\(σ.set i (some (V.ref a)))[i]?=some (some (.ref a)):=λ{s} h=>by
  by_cases hl:i<env.length
  .rw[v_ hl]at h;cases h;exact⟨rfl,v_ (by rw[<- R.len];exact hl)⟩
  .rw[K_ (by simpa using S_ hl)]at h;cases h
 refine⟨R.bh,R.zh,by simp[R.len],λj s h=>?_,λj es b h h2=>?_,λj k es fs b hne h1 h2 h3 h4=>?_⟩
 .by_cases hj:i=j
  .subst hj;obtain⟨e1,e2⟩:=atI h;subst e1;exact⟨_,e2,a,vs,rfl,hh,hz,r⟩
  .rw[p_ hj]at h ⊢;exact R.sl j s h
 .by_cases hj:i=j
  .subst hj;obtain⟨_,e2⟩:=atI h;rw[e2]at h2;cases h2;exact hb
  .rw[p_ hj]at h h2;exact R.ob j es b h h2
 .by_cases hj:i=j
  .subst hj;obtain⟨_,e2⟩:=atI h1;rw[e2]at h3;cases h3;rw[p_ hne]at h2 h4;exact hn k fs (Tg hne) h2 h4
  .by_cases hk:i=k
   .subst hk;obtain⟨_,e2⟩:=atI h2;rw[e2]at h4;cases h4;rw[p_ hj]at h1 h3;exact hn j es (Tg hj) h1 h3
   .rw[p_ hj]at h1 h3;rw[p_ hk]at h2 h4;exact R.ap j k es fs b hne h1 h2 h3 h4
theorem Rl.wr(R:Rl K B Z H env σ)(hi:env[i]?=some (.O ds))(ha:σ[i]?=some (some (.ref a)))(r:bU K Z a es vs) :
  Rl K B Z (upd H a vs) (env.set i (.O es)) σ/\Ex Z B Z (upd H a vs):=by
 have hb:=R.ob i ds a hi ha;obtain⟨x,e1,b,us,e2,e3,hz,_⟩:=R.sl i _ hi;rw[ha]at e1;cases e1;cases e2;have hl:i<env.length:=(i_.mp hi).1;have sb:aH B (upd H a vs):=d7 R.bh hb;have sz:aH Z (upd H a vs):=d7 R.zh hz;refine⟨⟨sb,sz,by simp[R.len],λj s h=>?_,λj fs b h h2=>?_,λj k fs gs b hne h1 h2 h3 h4=>?_⟩,⟨sb,aH.refl _,sz,λ_ _ e=>e,λ_ _ _ h=>h⟩⟩
 .by_cases hj:i=j
  .subst hj;rw[v_ hl]at h;cases h;exact⟨_,ha,a,vs,rfl,ai,hz,r⟩
  .rw[p_ hj]at h;obtain⟨x,e1,q⟩:=R.sl j s h;refine⟨x,e1,?_⟩;cases s with
   | un=>trivial
   | F d=>exact q
   | O fs=>
    obtain⟨b,us',e4,e5,e6,q⟩:=q;refine⟨b,us',e4,?_,e6,q⟩;rw[ar (λz=>?_)]
    .exact e5
    .subst z;subst e4;exact R.ap i j ds fs b hj hi h ha e1
 .by_cases hj:i=j
  .subst hj;rw[ha]at h2;cases h2;exact hb
  .rw[p_ hj]at h;exact R.ob j fs b h h2
 .have old:∀{j:Nat}{fs:rF},(env.set i (.O es))[j]?=some (.O fs)->∃Nu,env[j]?=some (.O Nu):=λ{j fs} h=>by
   by_cases hj:i=j
   .subst hj;exact⟨ds,hi⟩
   .rw[p_ hj]at h;exact⟨fs,h⟩
  obtain⟨Nu,h1'⟩:=old h1;obtain⟨gs',h2'⟩:=old h2;exact R.ap j k Nu gs' b hne h1' h2' h3 h4
theorem Rl.frz{ds:rF}(R:Rl K B Z H env σ){i:Nat}(hi:env[i]?=some (.O ds)):∃Z',Rl K B Z' H (env.set i (.F ds.d)) σ/\Ex Z B Z' H:=by
 obtain⟨x,e1,a,vs,e2,e3,hz,r⟩:=R.sl i _ hi;subst e2;have hb:=R.ob i ds a hi e1;have hl:i<env.length:=(i_.mp hi).1;have s1:aH Z (upd Z a vs):=b9 hz;have s2:aH (upd Z a vs) H:=nh R.zh e3;refine⟨upd Z a vs,⟨R.bh,s2,by simp[R.len],λj s h=>?_,λj fs b h h2=>?_,λj k fs gs b hne h1 h2 h3 h4=>?_⟩,⟨R.bh,s1,s2,λb hbn e=>?_,pK (λ_ _ _ h=>h) r.nf⟩⟩
 .by_cases hj:i=j
  .subst hj;rw[v_ hl]at h;cases h;exact⟨_,e1,_,rfl,(r.mono s1).rep ai⟩
  .rw[p_ hj]at h;obtain⟨y,e4,q⟩:=R.sl j s h;refine⟨y,e4,?_⟩;cases s with
   | un=>trivial
   | F d=>obtain⟨v,e5,q⟩:=q;exact⟨v,e5,Rep.mono s1 d q⟩
   | O fs=>
    obtain⟨b,us',e5,e6,e7,q⟩:=q;refine⟨b,us',e5,e6,?_,q.mono s1⟩;rw[ar (λz=>?_)]
    .exact e7
    .subst z;subst e5;exact R.ap i j ds fs b hj hi h e1 e4
 .by_cases hj:i=j
  .subst hj;rw[v_ hl]at h;cases h
  .rw[p_ hj]at h;exact R.ob j fs b h h2
 .have Gn:∀{j:Nat}{es:rF},(env.set i (.F ds.d))[j]?=some (.O es)->i≠j:=λ{j es} h z=>by
   subst z;rw[v_ hl]at h;cases h
  have n1:=Gn h1;have n2:=Gn h2;rw[p_ n1]at h1;rw[p_ n2]at h2;exact R.ap j k fs gs b hne h1 h2 h3 h4
 .rw[ar (λz=>hbn (by rw[z];exact hb))];exact e
end
abbrev Fe:=En->Xp
abbrev Fb:=En->Option Bool
abbrev Xw:Fb:=λ_=>some true
abbrev Fes:=En->Xn
def T(K:Fg)(g:Gr)(f:Fe):TE:=λσ H Q=>∃env B Z d,Rl K B Z H env σ/\f env=some d/\∀v Z' H',Ex Z H Z' H'->Gd K Z' H H' g d v->Q v H'
def TB(K:Fg)(f:Fb):TT:=λσ H Q=>∃env B Z b,Rl K B Z H env σ/\f env=some b/\∀Z' H',Ex Z H Z' H'->Q b H'
def TL(K:Fg)(f:Fes):TA:=λσ H Q=>∃env B Z ds,Rl K B Z H env σ/\f env=some ds/\∀vs Z' H',Ex Z H Z' H'->ak K Z' ds vs->Q vs H'
def PD(X:Cx)(g:Gr)(e:Xi)(f:Fe):Prop:=PE X e (T X.K g f)
def PB(X:Cx)(e:Xi)(f:Fb):Prop:=PT X e (TB X.K f)
def Im(X:Cx)(e:Xi)(f:Fb):Prop:=PW X e (TB X.K f)
structure PL(X:Cx)(es:List Expr)(f:Fes):Prop where
 p:PA X es (TL X.K f)
 l:∀env ds,f env=some ds->ds.length=es.length
section
variable {X:Cx}
theorem PE.imp(h:PE X e t)(i:∀σ H Q,t' σ H Q->t σ H Q):PE X e t':=λpins s σ H Q I q=>h pins s σ H Q I (i σ H Q q)
theorem PT.imp(h:PT X e t)(i:∀σ H Q,t' σ H Q->t σ H Q):PT X e t':=λpins s σ H Q I q=>h pins s σ H Q I (i σ H Q q)
theorem PW.imp(h:PW X e t)(i:∀σ H Q,t' σ H Q->t σ H Q):PW X e t':=λwh pins s σ H Q I q=>h wh pins s σ H Q I (i σ H Q q)
theorem PA.imp(h:PA X e t)(i:∀σ H Q,t' σ H Q->t σ H Q):PA X e t':=λpos pins s σ H Q I q=>h pos pins s σ H Q I (i σ H Q q)
def fC(d:D):Fe:=λ_=>some d
abbrev Xv:Fe:=fC (.int 4)
abbrev Xu:Fe:=fC (.int 3)
abbrev Xt:Fe:=fC (.int 2)
abbrev Xs:Fe:=fC (.int 1)
abbrev Xr:Fe:=fC (.int 0)
theorem Cb{K:Fg}{g:D}{v:V}{σ:L2.St}{H:Hp}{Q:VK}(h:T K .cl (fC g) σ H Q)(r:∀Z,Rep K Z g v):Q v H:=by
 obtain⟨env,B,Z,d,R,e,k⟩:=h;cases e;exact k v Z H (Ex.refl R.zh) (r Z)
theorem ag{i j pos}:PD X .cl (.Constant (.int i) j pos) (fC (.int i)):=PE.imp As λ_ _ _ h=>Cb h λ_=>rfl
theorem lZ{b j pos}:PD X .cl (.Constant (.bool b) j pos) (fC (.bl b)):=PE.imp MA λ_ _ _ h=>Cb h λ_=>rfl
theorem Ng{j pos}:PD X .cl (.Constant .none j pos) (fC .non):=PE.imp HB λ_ _ _ h=>Cb h λ_=>rfl
theorem bt{x j pos}(hk:PyData.strOk x=true:=by decide +kernel):PD X .cl (.Constant (.str x) j pos) (fC (.str x)):=PE.imp Jb λ_ _ _ h=>Cb h λ_=>⟨rfl,hk⟩
theorem Jz(hm:X.mg x=some u)(rv:RelV v u)(r:∀Z,Rep X.K Z d v)(hg:Gl X x:=by rfl)(hd:(x==("__debug__":Str))=false:=by decide) :
  PD X .cl (.Name x pos) (fC d):=PE.imp (wa hg hm rv hd) λ_ _ _ h=>Cb h r
def bI(env:En)(i:Nat):Xp:=match env[i]? with | some (.F d)=>some d | _=>none
def jV(env:En)(i:Nat):Xp:=match env[i]? with | some (.F d)=>some d | some (.O w)=>w.pd | _=>none
theorem ae(i:Nat)(hN:X.N[i]?=some x:=by rfl)(hv:xy X.env.scope x:=by first | exact Or.inl rfl | exact Or.inr (Or.inl rfl) | exact Or.inr (Or.inr rfl))(hd:(x==("__debug__":Str))=false:=by decide)
  (dO:(x==("__classdict__":Str))=false:=by decide):PD X .cl (.Name x pos) (λenv=>bI env i):=PE.imp (bH hN hv hd dO) λσ H Q h=>by
 obtain⟨env,B,Z,d,R,e,k⟩:=h;dsimp only[bI]at e
 split at e
 .rename_i d' h1;cases e;obtain⟨x,h2,v,h3,r⟩:=R.sl i _ h1;subst h3;exact⟨v,h2,k v Z H (Ex.refl R.zh) r⟩
 .cases e
theorem E6(i:Nat)(hN:X.N[i]?=some x:=by rfl)(hv:xy X.env.scope x:=by first | exact Or.inl rfl | exact Or.inr (Or.inl rfl) | exact Or.inr (Or.inr rfl))(hd:(x==("__debug__":Str))=false:=by decide)
  (dO:(x==("__classdict__":Str))=false:=by decide):PD X .pk (.Name x pos) (λenv=>jV env i):=PE.imp (bH hN hv hd dO) λσ H Q h=>by
 obtain⟨env,B,Z,d,R,e,k⟩:=h;dsimp only[jV]at e
 split at e
 .rename_i d' h1;cases e;obtain⟨x,h2,v,h3,r⟩:=R.sl i _ h1;subst h3;exact⟨v,h2,k v Z H (Ex.refl R.zh) (.inl r)⟩
 .rename_i ds h1;obtain⟨x,h2,a,vs,h3,h4,h5,r⟩:=R.sl i _ h1;subst h3;refine⟨_,h2,k _ Z H (Ex.refl R.zh) ?_⟩;cases ds with
  | I th ks ds=>cases e
  | N ks ds=>cases e
  | L ds=>cases e;obtain⟨us,rfl,r⟩:=r;exact .inr (.inl ⟨a,us,ds,rfl,rfl,h4,r⟩)
  | T ks=>cases e;obtain⟨bs,rfl,r⟩:=r;exact .inr (.inr (.inl ⟨a,ks,rfl,rfl,bs,h4,r⟩))
  | M th ks ds=>cases e;obtain⟨bs,vs,rfl,r,t⟩:=r;exact .inr (.inr (.inr ⟨a,th,ks,ds,rfl,rfl,bs,vs,h4,r,t⟩))
 .cases e
theorem cT(h:PD X .nw e f):PD X .cl e f:=PE.imp h λσ H Q aC=>by
 obtain⟨env,B,Z,d,R,e,k⟩:=aC;refine⟨env,B,Z,d,R,e,λv Z' H' x g=>?_⟩;obtain⟨a,vs,ds,rfl,rfl,h1,h2,h3,r⟩:=g;have s1:aH Z' (upd Z' a (.lst vs)):=b9 h3;exact k _ (upd Z' a (.lst vs)) H' ⟨x.h,x.z.trans s1,nh x.zh h2,λb hb e=>by rw[ar (λz=>hb (by rw[z];exact h1))];exact x.fr b hb e,pK x.nf MY⟩ ⟨a,vs,rfl,de.of ai,ak.mono s1 ds r⟩
theorem LX(h:PD X .nm e f):PD X .cl e f:=PE.imp h λσ H Q aC=>by
 obtain⟨env,B,Z,d,R,e,k⟩:=aC;refine⟨env,B,Z,d,R,e,λv Z' H' x g=>?_⟩;obtain⟨a,th,ks,ds,rfl,rfl,h1,⟨bs,vs,h2,hp,r⟩,h3⟩:=g;have s1:aH Z' (upd Z' a (.ext (fu th a ks bs vs))):=b9 h3;exact k _ (upd Z' a (.ext (fu th a ks bs vs))) H' ⟨x.h,x.z.trans s1,nh x.zh h2,λb hb e=>by rw[ar (λz=>hb (by rw[z];exact h1))];exact x.fr b hb e,pK x.nf KO⟩ ⟨a,bs,vs,rfl,ai,hp.mono s1,ak.mono s1 ds r⟩
def fNil:Fes:=λ_=>some []
def aa(f:Fe)(fs:Fes):Fes:=λenv=>(f env).bind λd=>(fs env).bind λds=>some (d::ds)
theorem au:PL X [] fNil:=⟨PA.imp bN λσ H Q ⟨env,B,Z,ds,R,e,k⟩=>by cases e;exact k [] Z H (Ex.refl R.zh) rfl,λenv ds e=>by cases e;rfl⟩
theorem mZ(h:aa f fs env=some ds):∃d r,f env=some d/\fs env=some r/\ds=d::r:=by
 unfold aa at h;refine cN λ_ kq=>?_;obtain⟨d,h1,h2⟩:=b_.mp h;obtain⟨r,h3,h4⟩:=b_.mp h2;cases h4;exact kq (⟨d,r,h1,h3,rfl⟩)
theorem af(h:PD X .cl e f)(hs:PL X es fs)(hst:starEach (e::es) X.env=(false,eval e X.env)::starEach es X.env:=by rfl):PL X (e::es) (aa f fs):=by
 refine⟨PA.imp (aJ h hs.p hst) λσ H Q ⟨env,B,Z,ds,R,e,k⟩=>?_,λenv ds e=>?_⟩
 .obtain⟨d,r,h1,h2,rfl⟩:=mZ e;refine⟨env,B,Z,d,R,h1,λv Z1 H1 x1 g1=>⟨env,B,Z1,r,R.ext x1,h2,λvs Z2 H2 x2 g2=>?_⟩⟩;exact k (v::vs) Z2 H2 (x1.trans x2) ⟨v,vs,rfl,Rep.mono x2.z d g1,g2⟩
 .obtain⟨d,r,h1,h2,rfl⟩:=mZ e;simp[hs.l env r h2]
def bc(fs:Fes):Fe:=λenv=>(fs env).bind λds=>some (.tup ds)
def cf(fs:Fes):Fe:=λenv=>(fs env).bind λds=>some (.lst ds)
theorem aX{x1 pos}(h:PL X es fs)(hl:es.length<=1000:=by decide):PD X .cl (.Tuple es x1 pos) (bc fs):=PE.imp (Jf h.p) λσ H Q aC=>by
 refine cN λ_ kq=>?_;obtain⟨env,B,Z,d,R,e,k⟩:=aC;obtain⟨ds,h1,h2⟩:=b_.mp e;cases h2;refine kq (⟨env,B,Z,ds,R,h1,λvs Z1 H1 x1 r=>⟨?_,λp hp=>?_⟩⟩)
 all_goals clear kq
 .rw[<- r.len,h.l env ds h1];exact TR (oO hl)
 .have s1:aH Z1 (upd Z1 p (.tup vs)):=b9 (x1.zh.free hp);exact k _ (upd Z1 p (.tup vs)) _ (x1.trans (Ex.new x1.zh hp)) ⟨p,vs,rfl,cw.of ai,ak.mono s1 ds r⟩
theorem bX{pos}(h:PL X es fs)(hl:es.length<=1000:=by decide):PD X .nw (.List es pos) (cf fs):=PE.imp (rh h.p) λσ H Q aC=>by
 refine cN λ_ kq=>?_;obtain⟨env,B,Z,d,R,e,k⟩:=aC;obtain⟨ds,h1,h2⟩:=b_.mp e;cases h2;refine kq (⟨env,B,Z,ds,R,h1,λvs Z1 H1 x1 r=>⟨?_,λp hp=>?_⟩⟩)
 all_goals clear kq
 .rw[<- r.len,h.l env ds h1];exact TR (oO hl)
 .exact k _ Z1 _ (x1.trans (Ex.newL x1.zh hp)) ⟨p,vs,ds,rfl,rfl,x1.h.free hp,ai,x1.zh.free hp,r⟩
theorem kX[Decidable c](h:(if c then some a else none)=some d):c/\a=d:=by
 by_cases hc:c
 .rw[j_ hc]at h;exact⟨hc,Option.some.inj h⟩
 .rw[k_ hc]at h;cases h
def ao(b:D->D->Xp)(fa fb:Fe):Fe:=λenv=>(fa env).bind λx=>(fb env).bind λy=>b x y
theorem uc(h:ao b fa fb env=some d):∃x y,fa env=some x/\fb env=some y/\b x y=some d:=by
 unfold ao at h;refine cN λ_ kq=>?_;obtain⟨x,h1,h2⟩:=b_.mp h;obtain⟨y,h3,h4⟩:=b_.mp h2;exact kq (⟨x,y,h1,h3,h4⟩)
theorem Gd.frm{K:Fg}{Z' H0 H H':Hp}{g:Gr}{d:D}{v:V}(s:aH H0 H)(h:Gd K Z' H H' g d v):Gd K Z' H0 H' g d v:=by
 cases g with
 | pk=>exact h
 | cl=>exact h
 | nw=>obtain⟨a,vs,ds,e1,e2,e3,e4⟩:=h;exact⟨a,vs,ds,e1,e2,s.free e3,e4⟩
 | nd=>obtain⟨a,ks,e1,e2,e3,e4⟩:=h;exact⟨a,ks,e1,e2,s.free e3,e4⟩
 | nm=>obtain⟨a,th,ks,ds,e1,e2,e3,e4⟩:=h;exact⟨a,th,ks,ds,e1,e2,s.free e3,e4⟩
def ck(K:Fg)(g:Gr)(b:D->D->Xp)(r:R2):Prop:=
 ∀{Z H:Hp}{x y:V}{dx dy d:D}{Q:VK},aH Z H->Gd K Z H H .pk dx x->Gd K Z H H .pk dy y->b dx dy=some d->(∀v Z' H',Ex Z H Z' H'->Gd K Z' H H' g d v->Q v H')->r x y H Q
theorem fU{K:Fg}{g ga gb:Gr}{b:D->D->Xp}{r:R2}(hb:ck K g b r){fa fb:Fe}{σ:L2.St}{H:Hp}{Q:VK}(h:T K g (ao b fa fb) σ H Q):Ey r (T K ga fa) (T K gb fb) σ H Q:=by
 refine cN λ_ kq=>?_;obtain⟨env,B,Z,d,R,e,k⟩:=h;obtain⟨dx,dy,h1,h2,h3⟩:=uc e;refine kq (⟨env,B,Z,dx,R,h1,λv Z1 H1 x1 g1=>⟨env,B,Z1,dy,R.ext x1,h2,λu Z2 H2 x2 g2=>?_⟩⟩)
 all_goals clear kq
 refine hb x2.zh (g1.later x2) (show Gd K Z2 H2 H2 .pk dy u from g2.pk) h3 λw Z3 H3 x3 g3=>?_;exact k w Z3 H3 ((x1.trans x2).trans x3) (Gd.frm (x1.h.trans x2.h) g3)
theorem ou(ho:gw X (binaryOp op) r)(hd:ck X.K g b r)(ha:PD X ga l fa)(hb:PD X gb rr fb) :
  PD X g (.BinOp l op rr pos) (ao b fa fb):=PE.imp (wO ho ha hb) λ_ _ _ h=>fU hd h
theorem AE(ho:gw X (compareOp op) r)(hd:ck X.K g b r)(ha:PD X ga l fa)(hb:PD X gb rr fb)(hm:behindInMarks op rr=false:=by rfl) :
  PD X g (.Compare l [op] [rr] pos) (ao b fa fb):=PE.imp (El ho ha hb hm) λ_ _ _ h=>fU hd h
def Q2:D->Option Bool
 | .bl b=>some b
 | _=>none
def fB(f:Fe):Fb:=λenv=>(f env).bind Q2
theorem zR(h:Q2 d=some b):d=.bl b:=by
 cases d<;>cases h;rfl
theorem B1{K:Fg}{g:Gr}{f:Fe}{σ:L2.St}{H:Hp}{Q:Bool->Hp->Prop}(h:TB K (fB f) σ H Q):T K g f σ H (λx H'=>∃k,x=.bl k/\Q k H'):=by
 refine cN λ_ kq=>?_;obtain⟨env,B,Z,b,R,e,k⟩:=h;obtain⟨d,h1,h2⟩:=b_.mp e;cases zR h2;exact kq (⟨env,B,Z,_,R,h1,λv Z' H' x g=>⟨b,g.bl,k Z' H' x⟩⟩)
theorem kT(ho:gw X (compareOp op) r)(hd:ck X.K .cl b r)(ha:PD X ga l fa)(hb:PD X gb rr fb)(hm:behindInMarks op rr=false:=by rfl) :
  PB X (.Compare l [op] [rr] pos) (fB (ao b fa fb)):=PT.imp (F' ho ha hb hm) λ_ _ _ h=>fU hd (B1 h)
theorem GU(h:PD X g e f)(he:∀whole,isTrue e X.env whole=(do let v <- whole;standAt e.pos;holding [v] (truthy v)):=by intro _;rfl):PB X e (fB f):=
 PT.imp (Hw h he) λ_ _ _ h=>B1 h
def iF(g:Int->Int->D):D->D->Xp
 | .int i,.int j=>some (g i j)
 | _,_=>none
theorem gW{K:Fg}{g:Int->Int->V}{g':Int->Int->D}(hg:∀Z i j,Rep K Z (g' i j) (g i j)):ck K .cl (iF g') (uG g):=λ{Z H x y dx dy d Q} s h1 h2 e k=>by
 cases dx<;>try cases e
 all_goals (cases dy<;>cases e)
 exact⟨_,_,h1.int,h2.int,k _ Z H (Ex.refl s) (hg _ _ _)⟩
def Na(c:Int->Int->Bool)(g:Int->Int->D):D->D->Xp
 | .int i,.int j=>if c i j then some (g i j)else none
 | _,_=>none
theorem mU{K:Fg}{C:Int->Int->Prop}{c:Int->Int->Bool}{g:Int->Int->V}{g':Int->Int->D}(hc:∀i j,c i j=true->C i j)(hg:∀Z i j,Rep K Z (g' i j) (g i j)):ck K .cl (Na c g') (rI C g):=λ{Z H x y dx dy d Q} s h1 h2 e k=>by
 cases dx<;>try cases e
 all_goals (cases dy<;>try cases e)
 rename_i i j;have e':(if c i j=true then some (g' i j)else none)=some d:=e
 by_cases Dq:c i j=true
 .rw[j_ Dq]at e';cases e';exact⟨_,_,h1.int,h2.int,hc _ _ Dq,k _ Z H (Ex.refl s) (hg _ _ _)⟩
 .rw[k_ Dq]at e';cases e'
abbrev addI:=iF λi j=>.int (i+j)
abbrev subI:=iF λi j=>.int (i-j)
abbrev ltI:=iF λi j=>.bl (decide (i<j))
abbrev leI:=iF λi j=>.bl (decide (i<=j))
abbrev gtI:=iF λi j=>.bl (decide (j<i))
def big(i:Int):Bool:=decide (i.natAbs<2 ^ 4096)
abbrev mulI:=Na (λi j=>(big i&&big j)) λi j=>.int (i*j)
abbrev fdivI:=Na (λ_ j=>decide (0<j/\j<1073741824)) λi j=>.int (i/j)
abbrev modI:=Na (λ_ j=>decide (0<j)) λi j=>.int (i%j)
abbrev powI:=Na (λi j=>big i&&decide (0<=j/\j<=1000)) λi j=>.int (i ^ j.toNat)
theorem LQ{K:Fg}:ck K .cl addI (uG λi j=>.int (i+j)):=gW (by intro _ _ _;rfl)
theorem Mr{K:Fg}:ck K .cl subI (uG λi j=>.int (i-j)):=gW (by intro _ _ _;rfl)
theorem HF{K:Fg}:ck K .cl ltI (uG λi j=>.bl (decide (i<j))):=gW (by intro _ _ _;rfl)
theorem I9{K:Fg}:ck K .cl leI (uG λi j=>.bl (decide (i<=j))):=gW (by intro _ _ _;rfl)
theorem Py{K:Fg}:ck K .cl gtI (uG λi j=>.bl (decide (j<i))):=gW (by intro _ _ _;rfl)
theorem Jv{K:Fg}:ck K .cl fdivI (rI M5 λi j=>.int (i/j)):=mU (λi j h=>Sw h) (by intro _ _ _;rfl)
theorem Mu{K:Fg}:ck K .cl modI (rI (λ_ j=>0<j) λi j=>.int (i%j)):=mU (λi j h=>Sw h) (by intro _ _ _;rfl)
theorem lY(h:big i=true):Builtin.Int.intBits i<=4096:=by
 have h':i.natAbs<2 ^ 4096:=Sw h;unfold Builtin.Int.intBits
 split
 .lia
 .rename_i hz;have hn:i.natAbs≠0:=by simpa using hz
  have:=(Nat.log2_lt hn).mpr h'
  lia
def G7(i j:Int):Prop:=big i=true/\big j=true
theorem FS:gw X (binaryOp .Mult) (rI G7 λi j=>.int (i*j)):=My λ_ _ _ _ _ _ _ hc q=>mul_int q (.of_bits (B_ (lY hc.1) (by decide)) (B_ (lY hc.2) (by decide)))
theorem Mc{K:Fg}:ck K .cl mulI (rI G7 λi j=>.int (i*j)):=mU (λi j h=>by
 simp only[F_]at h;exact h) (by intro _ _ _;rfl)
def GY(i j:Int):Prop:=big i=true/\0<=j/\j<=1000
theorem ER:gw X (binaryOp .Pow) (rI GY λi j=>.int (i ^ j.toNat)):=My λi j _ _ _ _ _ hc q=>pow_int hc.2.1 (by
 have h1:(Builtin.Int.intBits i:Int)<=4096:=by have:=lY hc.1;lia
 have h2:(Builtin.Int.intBits i:Int)*j<=4096*1000:=Int.mul_le_mul h1 hc.2.2 hc.2.1 (by decide);exact Vx h2 (by decide)) q
theorem MW{K:Fg}:ck K .cl powI (rI GY λi j=>.int (i ^ j.toNat)):=mU (λi j h=>by
 simp only[F_,C_]at h;exact⟨h.1,h.2.1,h.2.2⟩) (by intro _ _ _;rfl)
variable {l r c:Xi}{fa fb fc:Fe}{ga gb gc:Gr}{pos:Pos}
theorem a8(ha:PD X ga l fa)(hb:PD X gb r fb):PD X .cl (.BinOp l .Add r pos) (ao addI fa fb):=ou JT LQ ha hb
theorem kO(ha:PD X ga l fa)(hb:PD X gb r fb):PD X .cl (.BinOp l .Sub r pos) (ao subI fa fb):=ou Jo Mr ha hb
theorem o8(ha:PD X ga l fa)(hb:PD X gb r fb):PD X .cl (.BinOp l .Mult r pos) (ao mulI fa fb):=ou FS Mc ha hb
theorem qf(ha:PD X ga l fa)(hb:PD X gb r fb):PD X .cl (.BinOp l .FloorDiv r pos) (ao fdivI fa fb):=ou Fz Jv ha hb
theorem bV(ha:PD X ga l fa)(hb:PD X gb r fb):PD X .cl (.BinOp l .Mod r pos) (ao modI fa fb):=ou Ig Mu ha hb
theorem xc(ha:PD X ga l fa)(hb:PD X gb r fb):PD X .cl (.BinOp l .Pow r pos) (ao powI fa fb):=ou ER MW ha hb
theorem MQ(ha:PD X ga l fa)(hb:PD X gb r fb):PB X (.Compare l [.Lt] [r] pos) (fB (ao ltI fa fb)):=kT AW HF ha hb (gy _)
theorem MF(ha:PD X ga l fa)(hb:PD X gb r fb):PB X (.Compare l [.LtE] [r] pos) (fB (ao leI fa fb)):=kT Bt I9 ha hb (gy _)
theorem Mv(ha:PD X ga l fa)(hb:PD X gb r fb):PB X (.Compare l [.Gt] [r] pos) (fB (ao gtI fa fb)):=kT LL Py ha hb (gy _)
def br(g:D->Xp)(f:Fe):Fe:=λenv=>(f env).bind g
def iK:D->Xp
 | .int i=>some (.int (-i))
 | _=>none
theorem jn(ha:PD X ga l fa):PD X .cl (.UnaryOp .USub l pos) (br iK fa):=PE.imp (G0 A8 ha) λσ H Q aC=>by
 refine cN λ_ kq=>?_;obtain⟨env,B,Z,d,R,e,k⟩:=aC;obtain⟨x,h1,h2⟩:=b_.mp e;refine kq (⟨env,B,Z,x,R,h1,λv Z1 H1 x1 g1=>?_⟩)
 all_goals clear kq
 cases x<;>cases h2;exact⟨_,g1.int,k _ Z1 H1 x1 rfl⟩
def Ii(f g:Fe):Fe:=λenv=>(f env).bind λx=>match x with | .bl true=>some (.bl true) | .bl false=>g env | _=>none
variable {rest:W3}{fr:Fe}{gr:Gr}
theorem LU{op}(ha:PD X ga l fa):PD X ga (.BoolOp op [l] pos) fa:=IQ ha
theorem LF(ha:PD X ga l fa)(hb:PD X .cl (.BoolOp .Or (r::rest) pos) fr):PD X .cl (.BoolOp .Or (l::r::rest) pos) (Ii fa fr):=PE.imp (MI ha hb) λσ H Q aC=>by
 refine cN λ_ kq=>?_;obtain⟨env,B,Z,d,R,e,k⟩:=aC;obtain⟨x,h1,h2⟩:=b_.mp e;refine kq (⟨env,B,Z,x,R,h1,λv Z1 H1 x1 g1=>?_⟩)
 all_goals clear kq
 cases x with
 | bl b=>
  refine⟨b,g1.bl,?_⟩;cases b with
  | false=>exact zt ⟨env,B,Z1,d,R.ext x1,h2,λu Z2 H2 x2 g2=>k u Z2 H2 (x1.trans x2) g2⟩
  | true=>cases h2;exact zr (k _ Z1 H1 x1 rfl)
 | _=>cases h2
def jm(f g:Fb):Fb:=λenv=>(f env).bind λx=>if x=true then g env else some false
def Dk(f g:Fb):Fb:=λenv=>(f env).bind λx=>if x=true then some true else g env
def yW(f:Fb):Fb:=λenv=>(f env).bind λx=>some !x
variable {ta tb:Fb}
theorem vP(ha:PB X l ta):Im X (.BoolOp .And [l] pos) ta:=EJ ha
theorem AA(ha:PB X l ta):Im X (.BoolOp .Or [l] pos) ta:=Hz ha
theorem w_and(ha:PB X l ta)(hb:Im X (.BoolOp .And (r::rest) pos) tb):Im X (.BoolOp .And (l::r::rest) pos) (jm ta tb):=PW.imp (IY ha hb) λσ H Q aC=>by
 refine cN λ_ kq=>?_;obtain⟨env,B,Z,d,R,e,k⟩:=aC;obtain⟨x,h1,h2⟩:=b_.mp e;refine kq (⟨env,B,Z,x,R,h1,λZ1 H1 x1=>?_⟩)
 all_goals clear kq
 cases x with
 | true=>rw[j_ rfl]at h2;exact zr ⟨env,B,Z1,d,R.ext x1,h2,λZ2 H2 x2=>k Z2 H2 (x1.trans x2)⟩
 | false=>rw[k_ (by simp)]at h2;cases h2;exact zt (k Z1 H1 x1)
theorem w_or(ha:PB X l ta)(hb:Im X (.BoolOp .Or (r::rest) pos) tb):Im X (.BoolOp .Or (l::r::rest) pos) (Dk ta tb):=PW.imp (Nq ha hb) λσ H Q aC=>by
 refine cN λ_ kq=>?_;obtain⟨env,B,Z,d,R,e,k⟩:=aC;obtain⟨x,h1,h2⟩:=b_.mp e;refine kq (⟨env,B,Z,x,R,h1,λZ1 H1 x1=>?_⟩)
 all_goals clear kq
 cases x with
 | false=>rw[k_ (by simp)]at h2;exact zt ⟨env,B,Z1,d,R.ext x1,h2,λZ2 H2 x2=>k Z2 H2 (x1.trans x2)⟩
 | true=>rw[j_ rfl]at h2;cases h2;exact zr (k Z1 H1 x1)
theorem K2(h:Im X l ta):PB X l ta:=PW.pt h
theorem Ly(ha:PB X l ta):PB X (.UnaryOp .Not l pos) (yW ta):=PT.imp (JZ ha) λσ H Q aC=>by
 refine cN λ_ kq=>?_;obtain⟨env,B,Z,d,R,e,k⟩:=aC;obtain⟨x,h1,h2⟩:=b_.mp e;cases h2;exact kq (⟨env,B,Z,x,R,h1,λZ1 H1 x1=>k Z1 H1 x1⟩)
def Eb(b b':D->D->Xp)(fa fb fc:Fe):Fe:=λenv=>(fa env).bind λx=>(fb env).bind λy=>(b x y).bind λz=>match z with
 | .bl true=>(fc env).bind λw=>b' y w
 | .bl false=>some (.bl false)
 | _=>none
theorem Em{K:Fg}{b b':D->D->Xp}{r r':R2}(hb:ck K .cl b r)(zE:ck K .cl b' r'){σ:L2.St}{H:Hp}{Q:VK}(h:T K .cl (Eb b b' fa fb fc) σ H Q):zY r r' (T K ga fa) (T K gb fb) (T K gc fc) σ H Q:=by
 refine cN λ_ kq=>?_;obtain⟨env,B,Z,d,R,e,k⟩:=h;obtain⟨dx,h1,e⟩:=b_.mp e;obtain⟨dy,h2,e⟩:=b_.mp e;obtain⟨dz,h3,e⟩:=b_.mp e;refine kq (⟨env,B,Z,dx,R,h1,λv Z1 H1 x1 g1=>⟨env,B,Z1,dy,R.ext x1,h2,λu Z2 H2 x2 g2=>?_⟩⟩)
 all_goals clear kq
 refine hb x2.zh (g1.later x2) (show Gd K Z2 H2 H2 .pk dy u from g2.pk) h3 λz Z3 H3 x3 g3=>?_;cases dz with
 | bl t=>
  refine⟨t,g3.bl,?_⟩;cases t with
  | false=>cases e;exact zt (k _ Z3 H3 ((x1.trans x2).trans x3) rfl)
  | true=>
   obtain⟨dw,h4,h5⟩:=b_.mp e;refine zr ⟨env,B,Z3,dw,((R.ext x1).ext x2).ext x3,h4,λw Z4 H4 x4 g4=>?_⟩;refine zE x4.zh (show Gd K Z4 H4 H4 .pk dy u from Gd.later x4 (Gd.later (H3:=H3) x3 g2)) (show Gd K Z4 H4 H4 .pk dw w from g4.pk) h5 λq Z5 H5 x5 g5=>?_;exact k q Z5 H5 (((x1.trans x2).trans x3).trans (x4.trans x5)) g5
 | _=>cases e
theorem wu(ho:gw X (compareOp op) r1)(ho':gw X (compareOp op') r2)(hd:ck X.K .cl b r1)(xT:ck X.K .cl b' r2)(ha:PD X ga l fa)(hb:PD X gb r fb)(hc:PD X gc c fc)
  (hm:lastMarks [op,op'] [r,c]=false:=by with_unfolding_all rfl):PB X (.Compare l [op,op'] [r,c] pos) (fB (Eb b b' fa fb fc)):=PT.imp (By ho ho' ha hb hc hm) λ_ _ _ h=>Em hd xT (B1 h)
end
section
variable {X:Cx}{l r c:Xi}{fa fb fc:Fe}{ga gb gc:Gr}{pos p:Pos}
def aO:D->D->Xp
 | .lst ds,.int i=>atI ds i
 | .tup ds,.int i=>atI ds i
 | _,_=>none
theorem ak.atI{K:Fg}{H:Hp}{ds:Xo}{vs:Xq}{i:Int}{d:D}(h:ak K H ds vs)(e:L2.atI ds i=some d):∃v,L2.atI vs i=some v/\Rep K H d v:=by
 unfold L2.atI at e ⊢;rw[<- h.len];refine cN λ_ kq=>?_;obtain⟨j,h1,h2⟩:=b_.mp e;obtain⟨v,h3,h4⟩:=h.get h2;exact kq (⟨v,by rw[h1];exact h3,h4⟩)
theorem L4{K:Fg}:ck K .cl aO (λx y H Q=>Ma K x y H Q\/Mn K x y H Q):=λ{Z H x y dx dy d Q} s h1 h2 e k=>by
 cases dx<;>try cases e
 all_goals (cases dy<;>try cases e)
 .rename_i ds i;refine cN λ_ kq=>?_;obtain⟨a,vs,rfl,hq,rr⟩:=h1.tup s;obtain⟨v,e1,e2⟩:=rr.atI e;exact kq (.inr ⟨a,vs,i,v,rfl,h2.int,hq,e1,k v Z H (Ex.refl s) e2⟩)
 .rename_i ds i;refine cN λ_ kq=>?_;obtain⟨a,vs,rfl,hq,rr⟩:=h1.lst s;obtain⟨v,e1,e2⟩:=rr.atI e;exact kq (.inl ⟨a,vs,i,v,rfl,h2.int,hq,e1,k v Z H (Ex.refl s) e2⟩)
theorem bf(ha:PD X ga l fa)(hb:PD X gb r fb)(hs:xN r:=by intro _ _;rfl):PD X .cl (.Subscript l r pos) (ao aO fa fb):=PE.imp (Mh (EZ.or JF) ha hb hs) λ_ _ _ h=>fU L4 h
abbrev Fo:=En->Option (Option Int)
def Sl(K:Fg)(f:Fo):TO:=λσ H Q=>∃env B Z o,Rl K B Z H env σ/\f env=some o/\∀Z' H',Ex Z H Z' H'->Q o H'
def HX(X:Cx)(e:Option Xi)(f:Fo):Prop:=PO X e (Sl X.K f)
theorem PO.imp(h:PO X e t)(i:∀σ H Q,t' σ H Q->t σ H Q):PO X e t':=λpins s σ H Q I q=>h pins s σ H Q I (i σ H Q q)
def oNone:Fo:=λ_=>some none
def cO(f:Fe):Fo:=λenv=>(f env).bind λd=>match d with | .int i=>some (some i) | _=>none
theorem ni:HX X none oNone:=PO.imp DP λσ H Q ⟨env,B,Z,o,R,e,k⟩=>by cases e;exact k Z H (Ex.refl R.zh)
theorem kB(h:PD X ga l fa):HX X (some l) (cO fa):=PO.imp (v8 h) λσ H Q aC=>by
 refine cN λ_ kq=>?_;obtain⟨env,B,Z,o,R,e,k⟩:=aC;obtain⟨d,h1,h2⟩:=b_.mp e;refine kq (⟨env,B,Z,d,R,h1,λv Z' H' x g=>?_⟩)
 all_goals clear kq
 cases d<;>cases h2;exact⟨_,g.int,k Z' H' x⟩
def cutD(ds:Xo)(lo hi:Option Int):Xo:=(ds.drop (HT.oM ds.length 0 lo)).take (HT.oM ds.length ds.length hi-HT.oM ds.length 0 lo)
theorem ak.cut{K:Fg}{H:Hp}{ds:Xo}{vs:Xq}(h:ak K H ds vs)(lo hi:Option Int):ak K H (cutD ds lo hi) (zj vs lo hi):=by
 unfold cutD zj;rw[<- h.len];exact(h.drop _).take _
def Dg(b:D->Option Int->Option Int->Xp)(f:Fe)(lo hi:Fo):Fe:=λenv=>(f env).bind λx=>(lo env).bind λi=>(hi env).bind λj=>b x i j
def fH:D->Option Int->Option Int->Xp
 | .lst ds,lo,hi=>some (.lst (cutD ds lo hi))
 | _,_,_=>none
variable {lo hi:Option Xi}{fl fh:Fo}{p2:Pos}
theorem xo(ha:PD X ga l fa)(hl:HX X lo fl)(hh:HX X hi fh):PD X .nw (.Subscript l (.Slice lo hi none p2) pos) (Dg fH fa fl fh):=PE.imp (Ck DT ha hl hh) λσ H Q aC=>by
 refine cN λ_ kq=>?_;obtain⟨env,B,Z,d,R,e,k⟩:=aC;obtain⟨x,h1,e⟩:=b_.mp e;obtain⟨i,h2,e⟩:=b_.mp e;obtain⟨j,h3,e⟩:=b_.mp e;cases x<;>cases e;rename_i ds;refine kq (⟨env,B,Z,_,R,h1,λv Z1 H1 x1 g1=>⟨env,B,Z1,i,R.ext x1,h2,λZ2 H2 x2=>⟨env,B,Z2,j,(R.ext x1).ext x2,h3,λZ3 H3 x3=>?_⟩⟩⟩)
 all_goals clear kq
 obtain⟨a,vs,rfl,hq,rr⟩:=Gd.lst x3.zh (Gd.later (H3:=H3) x3 (Gd.later (H3:=H3) x2 g1));refine⟨a,vs,rfl,hq,λq hp=>?_⟩;have x0:=(x1.trans x2).trans x3;exact k _ Z3 _ (x0.trans (Ex.newL x3.zh hp)) ⟨q,_,_,rfl,rfl,x0.h.free hp,ai,x3.zh.free hp,rr.cut i j⟩
def tf:D->D->Xp
 | .lst xs,.lst ys=>if xs.length+ys.length<=16000000 then some (.lst (xs++ys))else none
 | _,_=>none
theorem JS(h:n<=16000000):n<=sizeLine:=by rw[Sz];lia
theorem Jp{K:Fg}:ck K .nw tf (λx y H Q=>∃l b xs zs,x=.ref l/\y=.ref b/\de K H l xs/\de K H b zs/\xs.length+zs.length<=sizeLine/\∀p,H p=none->Q (.ref p) (upd H p (.lst (xs++zs)))):=λ{Z H x y dx dy d Q} s h1 h2 e k=>by
 cases dx<;>try cases e
 all_goals (cases dy<;>try cases e)
 rename_i xs ys;obtain⟨hl,rfl⟩:=kX e
 .obtain⟨a,vs,rfl,q1,r1⟩:=h1.lst s;obtain⟨b,us,rfl,q2,r2⟩:=h2.lst s;refine⟨a,b,vs,us,rfl,rfl,q1,q2,by rw[<- r1.len,<- r2.len];exact JS hl,λp hp=>?_⟩;exact k _ Z _ (Ex.newL s hp) ⟨p,_,_,rfl,rfl,hp,ai,s.free hp,r1.app r2⟩
def ik(K:Fg)(g:Gr)(b:D->Xp)(r:Xq->Hp->VK->Prop):Prop:=
 ∀{Z H:Hp}{x:V}{dx d:D}{Q:VK},aH Z H->Gd K Z H H .pk dx x->b dx=some d->(∀v Z' H',Ex Z H Z' H'->Gd K Z' H H' g d v->Q v H')->r [x] H Q
theorem me{K:Fg}{g:Gr}{b:D->Xp}{rr:Xq->Hp->VK->Prop}(hb:ik K g b rr){σ:L2.St}{H:Hp}{Q:VK}(h:T K g (br b fa) σ H Q):Od rr (d8 (T K ga fa) tNil) σ H Q:=by
 refine cN λ_ kq=>?_;obtain⟨env,B,Z,d,R,e,k⟩:=h;obtain⟨x,h1,h2⟩:=b_.mp e;refine kq (⟨env,B,Z,x,R,h1,λv Z1 H1 x1 g1=>?_⟩)
 all_goals clear kq
 exact hb x1.zh (show Gd K Z1 H1 H1 .pk x v from g1.pk) h2 λw Z2 H2 x2 g2=>k w Z2 H2 (x1.trans x2) (g2.frm x1.h)
variable {x:Str}{id TT:String}{g:Gr}{b:D->Xp}{rr:Xq->Hp->VK->Prop}
theorem tY(hc:dB X (.builtin id) rr)(hd:ik X.K g b rr)(hv:bootBuiltins x=some (.builtin id))(hm:X.mg x=none)(ha:PD X ga l fa)(hn:x≠"__name__":=by decide)(kF:(x==("__debug__":Str))=false:=by decide)(hg:Gl X x:=by rfl)
  (he:starEach [l] X.env=[(false,eval l X.env)]:=by rfl):PD X g (.Call (.Name x p) [l] [] pos) (br b fa):=PE.imp (gq hc hg hm hv (aJ ha bN he) hn kF he rfl) λ_ _ _ h=>me hd h
theorem GZ(hc:dB X (.type TT) rr)(hd:ik X.K g b rr)(hv:bootBuiltins x=some (.type TT))(hm:X.mg x=none)(ha:PD X ga l fa)(hn:x≠"__name__":=by decide)(kF:(x==("__debug__":Str))=false:=by decide)(hg:Gl X x:=by rfl)
  (he:starEach [l] X.env=[(false,eval l X.env)]:=by rfl):PD X g (.Call (.Name x p) [l] [] pos) (br b fa):=PE.imp (y7 hc hg hm hv (aJ ha bN he) hn kF he rfl) λ_ _ _ h=>me hd h
def cm:D->Xp
 | .lst ds=>some (.int ds.length)
 | .tup ds=>some (.int ds.length)
 | _=>none
theorem Lo{K:Fg}:ik K .cl cm (λxs H Q=>∃p ys,xs=[.ref p]/\(de K H p ys\/cw K H p ys)/\Q (.int ys.length) H):=λ{Z H x dx d Q} s h e k=>by
 cases dx<;>cases e
 .obtain⟨a,vs,rfl,q,r⟩:=h.tup s;exact⟨a,vs,rfl,.inr q,k _ Z H (Ex.refl s) (by rw[r.len];rfl)⟩
 .obtain⟨a,vs,rfl,q,r⟩:=h.lst s;exact⟨a,vs,rfl,.inl q,k _ Z H (Ex.refl s) (by rw[r.len];rfl)⟩
theorem gE(hm:X.mg "len"=none)(ha:PD X ga l fa)(hg:Gl X "len":=by rfl)(he:starEach [l] X.env=[(false,eval l X.env)]:=by rfl):PD X .cl (.Call (.Name "len" p) [l] [] pos) (br cm fa):=
 tY ql Lo PySem.boot_len hm ha (by decide) (by decide) hg he
def gv:D->Xp
 | .lst ds=>some (.tup ds)
 | .tup ds=>some (.tup ds)
 | _=>none
theorem DZ{K:Fg}:ik K .cl gv (λxs H Q=>∃p ys,xs=[.ref p]/\((de K H p ys/\∀l,H l=none->Q (.ref l) (upd H l (.tup ys)))\/(cw K H p ys/\Q (.ref p) H))):=λ{Z H x dx d Q} s h e k=>by
 cases dx<;>cases e
 .rename_i ds;rcases h with h | ⟨_,_,_,_,e,_⟩ | ⟨_,_,_,e,_⟩ | ⟨_,_,_,_,_,e,_⟩
  .obtain⟨a,vs,rfl,q,r⟩:=id h;exact⟨a,vs,rfl,.inr ⟨bJ s q,k _ Z H (Ex.refl s) h⟩⟩
  .cases e
  .cases e
  .cases e
 .obtain⟨a,vs,rfl,q,r⟩:=h.lst s;refine⟨a,vs,rfl,.inl ⟨q,λp hp=>?_⟩⟩;have s1:aH Z (upd Z p (.tup vs)):=b9 (s.free hp);exact k _ _ _ (Ex.new s hp) ⟨p,_,rfl,cw.of ai,ak.mono s1 _ r⟩
theorem wR(hm:X.mg "tuple"=none)(ha:PD X ga l fa)(hg:Gl X "tuple":=by rfl)(he:starEach [l] X.env=[(false,eval l X.env)]:=by rfl):PD X .cl (.Call (.Name "tuple" p) [l] [] pos) (br gv fa):=
 GZ om DZ PyProof.Rows.boot_tuple hm ha (by decide) (by decide) hg he
def intD:D->Xp
 | .int i=>some (.int i)
 | .bl b=>some (.int (if b then 1 else 0))
 | _=>none
theorem Lv{K:Fg}:ik K .cl intD (λxs H Q=>(∃i,xs=[.int i]/\Q (.int i) H)\/∃k,xs=[.bl k]/\Q (.int (if k then 1 else 0)) H):=λ{Z H x dx d Q} s h e k=>by
 cases dx<;>cases e
 .cases h.bl;exact .inr ⟨_,rfl,k _ Z H (Ex.refl s) rfl⟩
 .cases h.int;exact .inl ⟨_,rfl,k _ Z H (Ex.refl s) rfl⟩
theorem Cq(hm:X.mg "int"=none)(ha:PD X ga l fa)(hg:Gl X "int":=by rfl)(he:starEach [l] X.env=[(false,eval l X.env)]:=by rfl):PD X .cl (.Call (.Name "int" p) [l] [] pos) (br intD fa):=
 GZ zw Lv PyProof.Rows.boot_int hm ha (by decide) (by decide) hg he
def xm(K:Fg)(g:Gr)(b:D->D->Xp)(r:Xq->Hp->VK->Prop):Prop:=ck K g b (λx y H Q=>r [x,y] H Q)
theorem uV{K:Fg}{g:Gr}{b:D->D->Xp}{rr:Xq->Hp->VK->Prop}(hb:xm K g b rr){σ:L2.St}{H:Hp}{Q:VK}(h:T K g (ao b fa fb) σ H Q):Od rr (d8 (T K ga fa) (d8 (T K gb fb) tNil)) σ H Q:=fU hb h
variable {b2:D->D->Xp}
theorem GS(hc:dB X (.builtin id) rr)(hd:xm X.K g b2 rr)(hv:bootBuiltins x=some (.builtin id))(hm:X.mg x=none)(ha:PD X ga l fa)(hb:PD X gb r fb)(hn:x≠"__name__":=by decide)(kF:(x==("__debug__":Str))=false:=by decide)(hg:Gl X x:=by rfl)
  (he:starEach [l,r] X.env=(false,eval l X.env)::starEach [r] X.env:=by rfl) (vQ:starEach [r] X.env=[(false,eval r X.env)]:=by rfl) (eO:(backTo pos (starEach [r] X.env)).any (·.1)=false:=by rfl):PD X g (.Call (.Name x p) [l,r] [] pos) (ao b2 fa fb):=
 PE.imp (gq hc hg hm hv (aJ ha (aJ hb bN vQ) he) hn kF he eO) λ_ _ _ h=>uV hd h
abbrev maxI:=iF λi j=>.int (if j>i then j else i)
abbrev minI:=iF λi j=>.int (if j<i then j else i)
theorem Nd{K:Fg}:xm K .cl maxI (λxs H Q=>∃i j,xs=[.int i,.int j]/\Q (.int (if j>i then j else i)) H):=λ{Z H x y dx dy d Q} s h1 h2 e k=>by
 cases dx<;>try cases e
 all_goals (cases dy<;>cases e)
 cases h1.int;cases h2.int;exact⟨_,_,rfl,k _ Z H (Ex.refl s) rfl⟩
theorem MX{K:Fg}:xm K .cl minI (λxs H Q=>∃i j,xs=[.int i,.int j]/\Q (.int (if j<i then j else i)) H):=λ{Z H x y dx dy d Q} s h1 h2 e k=>by
 cases dx<;>try cases e
 all_goals (cases dy<;>cases e)
 cases h1.int;cases h2.int;exact⟨_,_,rfl,k _ Z H (Ex.refl s) rfl⟩
theorem AV(hm:X.mg "max"=none)(bp:X.calm=true)(ha:PD X ga l fa)(hb:PD X gb r fb)(hg:Gl X "max":=by rfl)(he:starEach [l,r] X.env=(false,eval l X.env)::starEach [r] X.env:=by rfl)(vQ:starEach [r] X.env=[(false,eval r X.env)]:=by rfl)(eO:(backTo pos (starEach [r] X.env)).any (·.1)=false:=by rfl) :
  PD X .cl (.Call (.Name "max" p) [l,r] [] pos) (ao maxI fa fb):=GS (zu bp) Nd PyProof.Rows.boot_max hm ha hb (by decide) (by decide) hg he vQ eO
theorem M7(hm:X.mg "min"=none)(bp:X.calm=true)(ha:PD X ga l fa)(hb:PD X gb r fb)(hg:Gl X "min":=by rfl)(he:starEach [l,r] X.env=(false,eval l X.env)::starEach [r] X.env:=by rfl)(vQ:starEach [r] X.env=[(false,eval r X.env)]:=by rfl)(eO:(backTo pos (starEach [r] X.env)).any (·.1)=false:=by rfl) :
  PD X .cl (.Call (.Name "min" p) [l,r] [] pos) (ao minI fa fb):=GS (zc bp) MX PyProof.Rows.boot_min hm ha hb (by decide) (by decide) hg he vQ eO
def CD(K:Fg)(n:Nat)(g:Gr)(m:Xo->Xp):Sp:=λvs H Q _=>∃Z ds d,ds.length=n/\aH Z H/\ak K Z ds vs/\m ds=some d/\∀v Z' H',Ex Z H Z' H'->Gd K Z' H H' g d v->Q v H'
structure NJ(P:Program)(w:World)(K:Fg)(mg:Str->Option Value)(base:Heap)(k:Nat)(x:Str)(n:Nat)(g:Gr)(m:List D->Option D):Prop where
 ex:∃f fd ps,ps.length=n/\dh P w K mg base ko k f fd ps (CD K n g m)/\mg x=some (.ref f)/\PySem.W.keepIn K (.ref f)=true/\Binds K fd ps []
variable {m:Xo->Xp}{k n:Nat}{es:W3}{fs:Fes}
theorem uN(C:NJ X.prog X.w X.K X.mg X.base k x n g m)(hr:a9 k X.A)(hl:PL X (l::es) fs)(hn:(l::es).length=n:=by rfl)(hg:Gl X x:=by rfl)(kF:(x==("__debug__":Str))=false:=by decide)
  (he:starEach (l::es) X.env=(false,eval l X.env)::starEach es X.env:=by rfl) (eO:(backTo pos (starEach es X.env)).any (·.1)=false:=by rfl):PD X g (.Call (.Name x p) (l::es) [] pos) (λenv=>(fs env).bind m):=by
 obtain⟨f,fd,ps,hps,F,hm,hk,hb⟩:=C.ex;refine PE.imp (F6 F hr hg hm hk hb .nil Np hl.p kF he eO) λσ H Q aC=>?_;refine cN λ_ kq=>?_;obtain⟨env,B,Z,d,R,e,kk⟩:=aC;obtain⟨ds,h1,h2⟩:=b_.mp e;refine kq (⟨env,B,Z,ds,R,h1,λvs Z1 H1 x1 r=>?_⟩)
 all_goals clear kq
 show CD X.K n g m (vs++[]) H1 Q E0;rw[SC];exact⟨Z1,ds,d,by rw[hl.l env ds h1];exact hn,x1.zh,r,h2,λv Z' H' x2 g2=>kk v Z' H' (x1.trans x2) (g2.frm x1.h)⟩
end
inductive Out where
 | nx (env:En) | rt (d:D) | bk (env:En) | ct (env:En)
abbrev Fs:=En->Option Out
def tD(K:Fg)(rg:Gr)(B Z:Hp)(E:Ends):Out->Prop
 | .nx env'=>∀σ' Z' H',Ex Z B Z' H'->Rl K B Z' H' env' σ'->E.nx σ' H'
 | .bk env'=>∀σ' Z' H',Ex Z B Z' H'->Rl K B Z' H' env' σ'->E.bk σ' H'
 | .ct env'=>∀σ' Z' H',Ex Z B Z' H'->Rl K B Z' H' env' σ'->E.ct σ' H'
 | .rt d=>∀v Z' H',Ex Z B Z' H'->Gd K Z' B H' rg d v->E.rt v H'
def KR(K:Fg)(rg:Gr)(f:Fs):TS:=λE σ H=>∃env B Z o,Rl K B Z H env σ/\f env=some o/\tD K rg B Z E o
def SD(X:Cx)(rg:Gr)(st:Xj)(f:Fs):Prop:=PS X st (KR X.K rg f)
def uy(X:Cx)(rg:Gr)(st:W4)(f:Fs):Prop:=PSs X st (KR X.K rg f)
section
variable {X:Cx}{rg:Gr}{st:Xj}{rL:W4}{f g:Fs}{pos:Pos}
theorem PS.imp(h:PS X st t)(i:∀E σ H,t' E σ H->t E σ H):PS X st t':=λpins s σ H E I q=>h pins s σ H E I (i E σ H q)
theorem PSs.imp(h:PSs X rL t)(i:∀E σ H,t' E σ H->t E σ H):PSs X rL t':=λpins s σ H E I q=>h pins s σ H E I (i E σ H q)
theorem tD.later{K:Fg}{B Z Z1 H1:Hp}{E:Ends}{o:Out}(x:Ex Z B Z1 H1)(h:tD K rg B Z E o):tD K rg B Z1 E o:=by
 cases o with
 | nx e=>exact λσ' Z' H' y=>h σ' Z' H' (x.transB y)
 | bk e=>exact λσ' Z' H' y=>h σ' Z' H' (x.transB y)
 | ct e=>exact λσ' Z' H' y=>h σ' Z' H' (x.transB y)
 | rt e=>exact λv Z' H' y=>h v Z' H' (x.transB y)
def nxF:Fs:=λenv=>some (.nx env)
def aI(f g:Fs):Fs:=λenv=>(f env).bind λo=>match o with | .nx e=>g e | o=>some o
theorem cG:uy X rg [] nxF:=PSs.imp Ge λE σ H ⟨env,B,Z,o,R,e,k⟩=>by cases e;exact k σ Z H ⟨R.bh,aH.refl _,R.zh,λ_ _ h=>h,λ_ _ _ h=>h⟩ R
theorem ay(h1:SD X rg st f)(h2:uy X rg rL g):uy X rg (st::rL) (aI f g):=PSs.imp (gK h1 h2) λE σ H aC=>by
 refine cN λ_ kq=>?_;obtain⟨env,B,Z,o,R,e,k⟩:=aC;obtain⟨o1,e1,e2⟩:=b_.mp e;refine kq (⟨env,B,Z,o1,R,e1,?_⟩)
 all_goals clear kq
 cases o1 with
 | nx Gp=>exact λσ' Z' H' x R'=>⟨Gp,B,Z',o,R',e2,k.later x⟩
 | rt d=>cases e2;exact k
 | bk d=>cases e2;exact k
 | ct d=>cases e2;exact k
theorem aF(h1:SD X rg st f):uy X rg [st] f:=jo h1
def zq(i:Nat):Fs:=λenv=>match env[i]? with
 | some (.O w)=>some (.nx (env.set i (.F w.d)))
 | some (.F d)=>some (.nx env)
 | _=>none
theorem xu(i:Nat)(h:uy X rg rL g):uy X rg rL (aI (zq i) g):=PSs.imp h λE σ H aC=>by
 obtain⟨env,B,Z,o,R,e,k⟩:=aC;obtain⟨o1,e1,e2⟩:=b_.mp e;unfold zq at e1
 split at e1
 .rename_i ds hi;cases e1;obtain⟨Z',R',x⟩:=R.frz hi;exact⟨_,B,Z',o,R',e2,k.later x⟩
 .cases e1;exact⟨env,B,Z,o,R,e2,k⟩
 .cases e1
def bY(f:Fe):Fs:=λenv=>(f env).bind λd=>some (.rt d)
theorem bA{e:Xi}{f:Fe}(h:PD X rg e f):SD X rg (.Return (some e) pos) (bY f):=PS.imp (q8 h) λE σ H aC=>by
 refine cN λ_ kq=>?_;obtain⟨env,B,Z,o,R,e,k⟩:=aC;obtain⟨d,e1,e2⟩:=b_.mp e;cases e2;exact kq (⟨env,B,Z,d,R,e1,λv Z' H' x g=>k v Z' H' (x.part R.bh) (g.frm R.bh)⟩)
def y0(i:Nat):Fs:=λenv=>match env[i]? with
 | some (.O (.L ds))=>some (.rt (.lst ds))
 | _=>none
theorem rC(i:Nat)(hN:X.N[i]?=some x:=by rfl)(hv:xy X.env.scope x:=by first | exact Or.inl rfl | exact Or.inr (Or.inl rfl) | exact Or.inr (Or.inr rfl))(hd:(x==("__debug__":Str))=false:=by decide)
  (dO:(x==("__classdict__":Str))=false:=by decide):SD X .nw (.Return (some (.Name x p)) pos) (y0 i):=PS.imp (q8 (bH hN hv hd dO)) λE σ H aC=>by
 obtain⟨env,B,Z,o,R,e,k⟩:=aC;unfold y0 at e
 split at e
 .rename_i ds hi;cases e;obtain⟨y,e1,a,o,e2,e3,e4,vs,rfl,r⟩:=R.sl i _ hi;subst e2;exact⟨_,e1,k _ Z H ⟨R.bh,aH.refl _,R.zh,λ_ _ h=>h,λ_ _ _ h=>h⟩ ⟨a,vs,ds,rfl,rfl,R.ob i _ a hi e1,e3,e4,r⟩⟩
 .cases e
def kN(t:Fb)(f g:Fs):Fs:=λenv=>(t env).bind λb=>if b=true then f env else g env
theorem fO(hc:PB X c t)(ha:uy X rg a f)(hb:uy X rg b g):SD X rg (.If c a b pos) (kN t f g):=PS.imp (Hc hc ha hb) λE σ H aC=>by
 refine cN λ_ kq=>?_;obtain⟨env,B,Z,o,R,e,k⟩:=aC;obtain⟨x,e1,e2⟩:=b_.mp e;refine kq (⟨env,B,Z,x,R,e1,λZ1 H1 x1=>?_⟩)
 all_goals clear kq
 cases x with
 | true=>rw[j_ rfl]at e2;exact zr ⟨env,B,Z1,o,R.ext x1,e2,k.later (x1.part R.bh)⟩
 | false=>rw[k_ (by simp)]at e2;exact zt ⟨env,B,Z1,o,R.ext x1,e2,k.later (x1.part R.bh)⟩
def setF(i:Nat)(f:Fe):Fs:=λenv=>(f env).bind λd=>some (.nx (env.set i (.F d)))
def setO(i:Nat)(f:Fe):Fs:=λenv=>(f env).bind λd=>match d with | .lst ds=>some (.nx (env.set i (.O (.L ds)))) | _=>none
theorem Bj{f:Fe}{i:Nat}{E:Ends}{σ:L2.St}{H:Hp}(h:KR X.K rg (setF i f) E σ H):u4 (T X.K .cl f) (mr i) E σ H:=by
 refine cN λ_ kq=>?_;obtain⟨env,B,Z,o,R,e,k⟩:=h;obtain⟨d,e1,e2⟩:=b_.mp e;cases e2;exact kq (⟨env,B,Z,d,R,e1,λv Z' H' x g=>k _ Z' H' (x.part R.bh) ((R.ext x).setF i g)⟩)
theorem yg{f:Fe}{i:Nat}{E:Ends}{σ:L2.St}{H:Hp}(h:KR X.K rg (setO i f) E σ H):u4 (T X.K .nw f) (mr i) E σ H:=by
 refine cN λ_ kq=>?_;obtain⟨env,B,Z,o,R,e,k⟩:=h;obtain⟨d,e1,e2⟩:=b_.mp e;cases d<;>cases e2;rename_i ds;refine kq (⟨env,B,Z,_,R,e1,λv Z' H' x g=>?_⟩)
 all_goals clear kq
 obtain⟨a,vs,NI,rfl,e3,h1,h2,h3,r⟩:=g;cases e3;refine k _ Z' H' (x.part R.bh) ((R.ext x).setO i (R.bh.free h1) h3 h2 ⟨vs,rfl,r⟩ λj es hj hje hja=>?_);obtain⟨y,e4,b,us,e5,e6,_⟩:=R.sl j _ hje;rw[hja]at e4;cases e4;cases e5;rw[h1]at e6;cases e6
section
variable {x:Str}{e:Xi}{fe:Fe}{pos':Pos}
theorem bg(i:Nat)(he:PD X .cl e fe)(hN:X.N.Nodup)(hi:X.N[i]?=some x:=by rfl)(hx:Loc X.env.scope x:=by first | exact Or.inl rfl | exact Or.inr rfl)(hs:swapsWith e (some (.Name x pos')) pos.line X.env=pure false:=by rfl)
  (hf:X.fn x=true\/X.env.scope.names.lookup x=some .local:=by first | exact .inl rfl | exact .inr rfl | assumption):SD X rg (.Assign [.Name x pos'] e pos) (setF i fe):=PS.imp (fK hN hi hx he hs hf) λE σ H h=>Bj h
theorem iG(i:Nat)(he:PD X .nw e fe)(hN:X.N.Nodup)(hi:X.N[i]?=some x:=by rfl)(hx:Loc X.env.scope x:=by first | exact Or.inl rfl | exact Or.inr rfl)(hs:swapsWith e (some (.Name x pos')) pos.line X.env=pure false:=by rfl)
  (hf:X.fn x=true\/X.env.scope.names.lookup x=some .local:=by first | exact .inl rfl | exact .inr rfl | assumption):SD X rg (.Assign [.Name x pos'] e pos) (setO i fe):=PS.imp (fK hN hi hx he hs hf) λE σ H h=>yg h
end
def iQ(i:Nat)(f:Fe):Fs:=λenv=>match env[i]? with
 | some (.O (.L ds))=>(f env).bind λd=>if ds.length<16000000 then some (.nx (env.set i (.O (.L (ds++[d])))))else none
 | _=>none
theorem mV(i:Nat)(he:PD X .cl e fe)(hN:X.N[i]?=some x:=by rfl)(hv:xy X.env.scope x:=by first | exact Or.inl rfl | exact Or.inr (Or.inl rfl) | exact Or.inr (Or.inr rfl))
  (hd:(x==("__debug__":Str))=false:=by decide) (dO:(x==("__classdict__":Str))=false:=by decide) (hst:starEach [e] X.env=[(false,eval e X.env)]:=by rfl)
  (jJ:attributeBase (.Name x px) "append" X.env (eval (.Name x px) X.env)=eval (.Name x px) X.env:=by rfl)
  (CM:((backTo be (starEach [e] X.env)).all (λx=>!x.1)&&(backToKw be (keywordEach [] X.env)).all (λx=>x.1.isSome)
   && decide (([e]:W3).length+([]:List Keyword).length+(if([]:List Keyword).isEmpty then 0 else 1)<30))=true:=by rfl)
  (jK:(apos.endLine==be.line)=true:=by rfl)
  (hs:swapsWith (.Call (.Attribute (.Name x px) "append" apos) [e] [] be) none pos.line X.env=pure false:=by rfl) :
  SD X rg (.Expr (.Call (.Attribute (.Name x px) "append" apos) [e] [] be) pos) (iQ i fe):=by
 refine PS.imp (jE (GL PySem.F.plainAttrs_list PySem.F.slot_list_append PySem.F.type_list_append pL (bH hN hv hd dO) (aJ he bN hst) jJ CM jK hst rfl) hs) λE σ H aC=>?_;obtain⟨env,B,Z,o,R,e,k⟩:=aC;unfold iQ at e
 split at e
 .rename_i ds hi;obtain⟨d,e1,e2⟩:=b_.mp e;obtain⟨hl,rfl⟩:=kX e2
  .obtain⟨y,e3,a,o,e4,e5,e6,vs,rfl,r⟩:=R.sl i _ hi;subst e4;refine⟨_,e3,.inl ⟨rfl,vs,de.of e5⟩,env,B,Z,d,R,e1,λv Z1 H1 x1 g1=>?_⟩;have R1:=R.ext x1;have r1:=ak.mono x1.z ds r;have ha:=x1.h _ _ e5;refine⟨a,vs,v,rfl,rfl,ha,by rw[<- r.len,Sz];lia,?_⟩;obtain⟨R2,x2⟩:=R1.wr hi e3 (bU.l (r1.app (ak.one g1)));exact k σ Z1 _ ((x1.part R.bh).transB x2) R2
 .cases e
def wc(i:Nat)(fk fe:Fe):Fs:=λenv=>(fe env).bind λd=>match env[i]? with
 | some (.O (.L ds))=>(fk env).bind λkd=>match kd with
  | .int j=>(vp ds.length j).bind λn=>some (.nx (env.set i (.O (.L (ds.set n d)))))
  | _=>none
 | _=>none
theorem Ec(i:Nat)(he:PD X .cl e fe)(hk:PD X gk ke fk)(hN:X.N[i]?=some x:=by rfl)(hv:xy X.env.scope x:=by first | exact Or.inl rfl | exact Or.inr (Or.inl rfl) | exact Or.inr (Or.inr rfl))
  (hd:(x==("__debug__":Str))=false:=by decide) (dO:(x==("__classdict__":Str))=false:=by decide)
  (ha:∀v,assign (.Subscript (.Name x px) ke p2) X.env v=(do
   let ov <- holding [v] (eval (.Name x px) X.env)
   let iv <- holding [v,ov] (eval ke X.env)
   standAt p2
   holding [v,ov,iv] (setItem ov iv v)
   release [v,ov,iv] []):=by intro _;rfl)
  (hs:swapsWithSole [.Subscript (.Name x px) ke p2] e pos.line X.env=pure false:=by rfl) (hw:swappedStores [.Subscript (.Name x px) ke p2] e X.env=pure none:=by rfl)
  (h1:(assignEach [.Subscript (.Name x px) ke p2] X.env).map (·.2)=[assign (.Subscript (.Name x px) ke p2) X.env]:=by rfl) :
  SD X rg (.Assign [.Subscript (.Name x px) ke p2] e pos) (wc i fk fe):=by
 refine PS.imp (vC he (II (bH hN hv hd dO) hk set_list ha) hs hw h1) λE σ H aC=>?_;refine cN λ_ kq=>?_;obtain⟨env,B,Z,o,R,e,k⟩:=aC;obtain⟨d,e1,e⟩:=b_.mp e;refine kq (⟨env,B,Z,d,R,e1,λv Z1 H1 x1 g1=>?_⟩)
 all_goals clear kq
 split at e
 .rename_i ds hi;refine cN λ_ kq=>?_;obtain⟨kd,e2,e⟩:=b_.mp e;cases kd<;>try cases e
  rename_i j;obtain⟨n,e3,e⟩:=b_.mp e;cases e;have R1:=R.ext x1;obtain⟨y,e4,a,o,e5,e6,e7,vs,rfl,r⟩:=R1.sl i _ hi;subst e5;refine kq (⟨_,e4,env,B,Z1,_,R1,e2,λkv Z2 H2 x2 g2=>?_⟩)
  all_goals clear kq
  have R2:=R1.ext x2;refine⟨a,vs,j,n,rfl,g2.int,x2.h _ _ e6,by rw[<- r.len];exact e3,?_⟩;obtain⟨R3,x3⟩:=R2.wr hi e4 (bU.l ((ak.mono x2.z ds r).set (Rep.mono x2.z d g1) n));exact k σ Z2 _ (((x1.trans x2).part R.bh).transB x3) R3
 .cases e
end
abbrev Ft:=D->En->Option En
def RX(K:Fg)(t:Ft):TG:=λv σ H Q=>∃env B Z d env',Rl K B Z H env σ/\Rep K Z d v/\t d env=some env'/\∀σ' Z' H',Ex Z H Z' H'->Rl K B Z' H' env' σ'->Q σ' H'
def GD(X:Cx)(tg:Xi)(t:Ft):Prop:=PG X tg (RX X.K t)
section
variable {X:Cx}{rg:Gr}
theorem PG.imp(h:PG X e t)(i:∀v σ H Q,t' v σ H Q->t v σ H Q):PG X e t':=λpins s σ H v u Q I r q=>h pins s σ H v u Q I r (i v σ H Q q)
def bZ(i:Nat):Ft:=λd env=>some (env.set i (.F d))
theorem aU(i:Nat)(hN:X.N.Nodup)(hi:X.N[i]?=some x:=by rfl)(hx:Loc X.env.scope x:=by first | exact Or.inl rfl | exact Or.inr rfl)
  (hf:X.fn x=true\/X.env.scope.names.lookup x=some .local:=by first | exact .inl rfl | exact .inr rfl | assumption):GD X (.Name x pos) (bZ i):=PG.imp (xK hN hi hx hf) λv σ H Q aC=>by
 obtain⟨env,B,Z,d,env',R,r,e,k⟩:=aC;cases e;exact k _ Z H (Ex.refl R.zh) (R.setF i r)
def dX:W5->Xo->En->Option En
 | [],[],env=>some env
 | i::is,d::ds,env=>dX is ds (env.set i (.F d))
 | _,_,_=>none
def OX(K:Fg)(is:W5):TGs:=λvs σ H Q=>∃env B Z ds env',Rl K B Z H env σ/\ak K Z ds vs/\dX is ds env=some env'/\∀σ',Rl K B Z H env' σ'->Q σ' H
def HW(X:Cx)(NK:W3)(is:W5):Prop:=Cz X NK (OX X.K is)
theorem Cz.imp(h:Cz X e t)(i:∀v σ H Q,t' v σ H Q->t v σ H Q):Cz X e t':=λpins s σ H v u Q I r q=>h pins s σ H v u Q I r (i v σ H Q q)
theorem cS:HW X [] []:=Cz.imp F8 λv σ H Q aC=>by
 obtain⟨env,B,Z,ds,env',R,r,e,k⟩:=aC;cases ds with
 | nil=>cases e;exact⟨r,k _ R⟩
 | cons d ds=>cases e
theorem aD(i:Nat)(hN:X.N.Nodup)(h:HW X NK is)(hi:X.N[i]?=some x:=by rfl)(hx:Loc X.env.scope x:=by first | exact Or.inl rfl | exact Or.inr rfl)
  (hf:X.fn x=true\/X.env.scope.names.lookup x=some .local:=by first | exact .inl rfl | exact .inr rfl | assumption)
  (hs:(assignEach (.Name x pos::NK) X.env).map (·.2)=assign (.Name x pos) X.env::(assignEach NK X.env).map (·.2):=by rfl):HW X (.Name x pos::NK) (i::is):=Cz.imp (Bq (xK hN hi hx hf) h hs) λv σ H Q aC=>by
 obtain⟨env,B,Z,ds,env',R,r,e,k⟩:=aC;cases ds with
 | nil=>cases e
 | cons d ds=>
  obtain⟨w,rr,e1,r1,r2⟩:=r;exact⟨w,rr,e1,env.set i (.F d),B,Z,ds,env',R.setF i r1,r2,e,k⟩
def oq(is:W5):Ft:=λd env=>match d with
 | .tup ds=>dX is ds env
 | _=>none
theorem iL:∀{is:W5}{ds:Xo}{env env':En},dX is ds env=some env'->ds.length=is.length
 | [],[],_,_,_=>rfl
 | i::is,d::ds,_,_,h=>by simp[iL (ds:=ds) h]
 | [],_::_,_,_,h=>by cases h
 | _::_,[],_,_,h=>by cases h
theorem jk(hc:X.calm=true)(h:HW X es is)(hn:(assignEach es X.env).length=is.length:=by rfl)(hst:(assignEach es X.env).findIdx? (·.1)=none:=by rfl):GD X (.Tuple es k pos) (oq is):=
 PG.imp (Iu hc h hn hst) λv σ H Q aC=>by
  refine cN λ_ kq=>?_;obtain⟨env,B,Z,d,env',R,r,e,k⟩:=aC;cases d<;>try cases e
  rename_i ds;obtain⟨a,vs,e1,hq,rr⟩:=r;exact kq (⟨a,vs,e1,bJ R.zh hq,by rw[<- rr.len];exact iL e,env,B,Z,ds,env',R,rr,e,λσ'=>k σ' Z H (Ex.refl R.zh)⟩)
def dA(t:Ft)(body:Fs):Xo->Fs
 | [],env=>some (.nx env)
 | d::ds,env=>(t d env).bind λe1=>(body e1).bind λo=>match o with
  | .nx e2=>dA t body ds e2
  | .ct e2=>dA t body ds e2
  | .bk e2=>some (.nx e2)
  | .rt d=>some (.rt d)
abbrev Fi:=En->Xn
def Walk(K:Fg)(Z1:Hp)(ds:Xo)(J:It):Prop:=∀(Z' H':Hp),aH Z1 Z'->aH Z' H'->∀i,
 (i<ds.length->J.go i H'/\∀x H'',J.yld i H' x H''->∃Z'' d,Ex Z' H' Z'' H''/\ds[i]?=some d/\Rep K Z'' d x)/\(ds.length<=i->J.stop i H')
def Sd(K:Fg)(f:Fi):TI:=λσ H R=>∃env B Z ds,Rl K B Z H env σ/\f env=some ds/\∀J Z1 H1,Ex Z H Z1 H1->Walk K Z1 ds J->R J H1
def ID(X:Cx)(tg iter:Xi)(f:Fi):Prop:=PI X tg iter (Sd X.K f)
theorem PI.imp(h:PI X tg e t)(i:∀σ H R,t' σ H R->t σ H R):PI X tg e t':=λpins s σ H R I q=>h pins s σ H R I (i σ H R q)
def j8(f:Fe):Fi:=λenv=>(f env).bind λd=>match d with | .lst ds=>some ds | _=>none
def MN(f:Fe):Fi:=λenv=>(f env).bind λd=>match d with | .tup ds=>some ds | _=>none
theorem yA{K:Fg}{Z1:Hp}{a:Xh}{vs:Xq}{ds:Xo}(q:de K Z1 a vs)(rr:ak K Z1 ds vs):Walk K Z1 ds (Pe K a):=λZ' H' s1 s2 i=>by
 have q':=(s1.trans s2).seq q;refine⟨λhi=>⟨⟨vs,vs[i]'(by rw[<- rr.len];exact hi),q',by simp[<- rr.len,hi]⟩,λx H'' y=>?_⟩,λhi=>⟨vs,q',by rw[<- rr.len];exact hi⟩⟩;refine cN λ_ kq=>?_;obtain⟨e,y⟩:=y;obtain⟨d,h1,h2⟩:=rr.getV (y vs q');subst e;exact kq (⟨Z',d,Ex.refl s2,h1,Rep.mono s1 d h2⟩)
theorem Bk{K:Fg}{Z1:Hp}{a:Xh}{vs:Xq}{ds:Xo}(q:cw K Z1 a vs)(rr:ak K Z1 ds vs):Walk K Z1 ds (O1 K a):=λZ' H' s1 s2 i=>by
 have q':=bJ (s1.trans s2) q;refine⟨λhi=>⟨⟨vs,vs[i]'(by rw[<- rr.len];exact hi),q',by simp[<- rr.len,hi]⟩,λx H'' y=>?_⟩,λhi=>⟨vs,q',by rw[<- rr.len];exact hi⟩⟩;refine cN λ_ kq=>?_;obtain⟨e,y⟩:=y;obtain⟨d,h1,h2⟩:=rr.getV (y vs q');subst e;exact kq (⟨Z',d,Ex.refl s2,h1,Rep.mono s1 d h2⟩)
theorem bL(h:PD X .cl l f):ID X tg l (j8 f):=PI.imp (DE h) λσ H R aC=>by
 refine cN λ_ kq=>?_;obtain⟨env,B,Z,ds,Rr,e,k⟩:=aC;obtain⟨d,e1,e2⟩:=b_.mp e;cases d<;>cases e2;refine kq (⟨env,B,Z,_,Rr,e1,λv Z1 H1 x1 g1=>?_⟩)
 all_goals clear kq
 obtain⟨a,vs,e,q,r⟩:=g1;exact⟨a,e,⟨vs,x1.zh.seq q⟩,k _ Z1 H1 x1 (yA q r)⟩
theorem G6(h:PD X .cl l f):ID X tg l (MN f):=PI.imp (Js h) λσ H R aC=>by
 refine cN λ_ kq=>?_;obtain⟨env,B,Z,ds,Rr,e,k⟩:=aC;obtain⟨d,e1,e2⟩:=b_.mp e;cases d<;>cases e2;refine kq (⟨env,B,Z,_,Rr,e1,λv Z1 H1 x1 g1=>?_⟩)
 all_goals clear kq
 obtain⟨a,vs,e,q,r⟩:=g1;exact⟨a,e,⟨vs,bJ x1.zh q⟩,k _ Z1 H1 x1 (Bk q r)⟩
def aG(lo:Int)(n:Nat):Xo:=(List.range n).map λi=>.int (lo+(i:Nat))
theorem sX{K:Fg}{Z1:Hp}(lo:Int)(n:Nat):Walk K Z1 (aG lo n) (Lk lo n):=λZ' H' s1 s2 i=>by
 have hl:(aG lo n).length=n:=by simp[aG]
 rw[hl];refine⟨λhi=>⟨hi,λx H'' y=>?_⟩,λh=>h⟩;obtain⟨e,y⟩:=y;subst e;subst y;exact⟨Z',.int (lo+i),Ex.refl s2,by simp[aG,hi],rfl⟩
def kK(j:Int):Bool:=decide (-4000000000000000000<j/\j<4000000000000000000)
def gi(f:Fe):Fi:=λenv=>(f env).bind λd=>match d with
 | .int j=>if kK j then some (aG 0 j.toNat)else none
 | _=>none
def EM(f g:Fe):Fi:=λenv=>(f env).bind λd=>(g env).bind λe=>match d,e with
 | .int i,.int j=>if kK i&&kK j then some (aG i (j-i).toNat)else none
 | _,_=>none
theorem cj(hm:X.mg "range"=none)(h:PD X ga l f)(hg:Gl X "range":=by rfl)(hs:starEach [l] X.env=[(false,eval l X.env)]:=by rfl):ID X tg (.Call (.Name "range" p) [l] [] pos) (gi f):=
 PI.imp (yy hg hm (aJ h bN hs) hs) λσ H R aC=>by
  obtain⟨env,B,Z,ds,Rr,e,k⟩:=aC;obtain⟨d,e1,e2⟩:=b_.mp e;cases d<;>try cases e2
  rename_i j;obtain⟨hj,rfl⟩:=kX e2
  .have hj':=Sw hj;refine⟨env,B,Z,_,Rr,e1,λv Z1 H1 x1 g1=>⟨j,by rw[g1.int],by omega,by omega,k _ Z1 H1 x1 (sX 0 j.toNat)⟩⟩
theorem sG(hm:X.mg "range"=none)(h:PD X ga l f)(h2:PD X gb r g)(hg:Gl X "range":=by rfl)(hs:starEach [l,r] X.env=[(false,eval l X.env),(false,eval r X.env)]:=by rfl)
  (Hk:starEach [r] X.env=[(false,eval r X.env)]:=by rfl):ID X tg (.Call (.Name "range" p) [l,r] [] pos) (EM f g):=
 PI.imp (yi hg hm (aJ h (aJ h2 bN Hk) (by rw[hs,Hk])) hs Hk) λσ H R aC=>by
  obtain⟨env,B,Z,ds,Rr,e,k⟩:=aC;obtain⟨d,e1,e⟩:=b_.mp e;obtain⟨d2,e3,e2⟩:=b_.mp e;cases d<;>try cases e2
  all_goals (cases d2<;>try cases e2)
  rename_i i j;obtain⟨hj,rfl⟩:=kX e2
  .simp only[F_]at hj;have h1':=Sw hj.1;have h2':=Sw hj.2;refine⟨env,B,Z,_,Rr,e1,λv Z1 H1 x1 g1=>⟨env,B,Z1,_,Rr.ext x1,e3,λu Z2 H2 x2 g2=>⟨i,j,by rw[g1.int,g2.int],⟨by omega,by omega,by omega,by omega⟩,k _ Z2 H2 (x1.trans x2) (sX i (j-i).toNat)⟩⟩⟩
def dJ(fi:Fi)(t:Ft)(body:Fs):Fs:=λenv=>(fi env).bind λds=>dA t body ds env
theorem cA(hp:PassesOwn (model X.prog X.w) X.A X.env X.xe)(hc:X.calm=true)(hi:ID X tg iter fi)(hg:GD X tg t)(hb:uy X rg body fb)
  (hs:∀x,foldedSetIterable iter X.env x=pure x:=by intro _;rfl):SD X rg (.For tg iter body [] pos) (dJ fi t fb):=PS.imp (JJ hp hc hi hg hb hs) λE σ H aC=>by
 refine cN λ_ kq=>?_;obtain⟨env,B,Z,o,R,e,k⟩:=aC;obtain⟨ds,e1,e2⟩:=b_.mp e;refine kq (⟨env,B,Z,ds,R,e1,λJ Z1 H1 x1 wk=>?_⟩)
 all_goals clear kq
 let In:Nat->L2.St->Hp->Prop:=λi σ H=>∃env' Z',Ex Z B Z' H/\aH Z1 Z'/\Rl X.K B Z' H env' σ/\dA t fb (ds.drop i) env'=some o
 refine⟨λi m σ H=>m=ds.length-i/\i<=ds.length/\In i σ H,⟨ds.length,by simp,T_ _,env,Z1,x1.part R.bh,aH.refl _,R.ext x1,by simpa using e2⟩,?_⟩;rintro i m σ2 H2 ⟨rfl,hi,env',Z',x2,s2,R2,e3⟩;obtain⟨w1,w2⟩:=wk Z' H2 s2 R2.zh i
 by_cases hlt:i<ds.length
 .obtain⟨go,yl⟩:=w1 hlt;refine .inr ⟨go,In (i+1),λσ' H' n=>⟨ds.length-(i+1),by omega,rfl,hlt,n⟩,λx H3 y=>?_⟩;refine cN λ_ kq=>?_;obtain⟨Z3,d,x3,hd,r3⟩:=yl x H3 y;have Qb:ds.drop i=d::ds.drop (i+1):=by
   obtain⟨h1,h2⟩:=i_.mp hd;rw[Uq h1,h2]
  rw[Qb]at e3;unfold dA at e3;obtain⟨Ri,e4,e5⟩:=b_.mp e3;obtain⟨o1,e6,e7⟩:=b_.mp e5;have R3:=R2.ext x3;refine kq (⟨env',B,Z3,d,Ri,R3,r3,e4,λσ4 Z4 H4 y4 R4=>⟨Ri,B,Z4,o1,R4,e6,?_⟩⟩)
  all_goals clear kq
  have x4:=x2.transB ((x3.trans y4).part R2.bh);have s4:=(s2.trans x3.z).trans y4.z;cases o1 with
  | nx Ow=>exact λσ5 Z5 H5 x5 R5=>⟨Ow,Z5,x4.transB x5,s4.trans x5.z,R5,e7⟩
  | ct Ow=>exact λσ5 Z5 H5 x5 R5=>⟨Ow,Z5,x4.transB x5,s4.trans x5.z,R5,e7⟩
  | bk Ow=>cases e7;exact λσ5 Z5 H5 x5 R5=>k σ5 Z5 H5 (x4.transB x5) R5
  | rt d=>cases e7;exact λv Z5 H5 x5 g5=>k v Z5 H5 (x4.transB x5) g5
 .refine .inl ⟨w2 (by omega),?_⟩;rw[List.drop_eq_nil_of_le (by omega)]at e3;cases e3;exact k σ2 Z' H2 x2 R2
def GQ(is:W5)(f:Fe):Fs:=λenv=>(f env).bind λd=>(oq is d env).bind λe=>some (.nx e)
theorem Gc(hc:X.calm=true)(he:PD X .cl e fe)(h:HW X es is)(hn:(assignEach es X.env).length=is.length:=by rfl)(hst:(assignEach es X.env).findIdx? (·.1)=none:=by rfl)
  (hs:swapsWithSole [.Tuple es k p2] e pos.line X.env=pure false:=by rfl) (hw:swappedStores [.Tuple es k p2] e X.env=pure none:=by rfl) (h1:(assignEach [.Tuple es k p2] X.env).map (·.2)=[assign (.Tuple es k p2) X.env]:=by rfl) :
  SD X rg (.Assign [.Tuple es k p2] e pos) (GQ is fe):=PS.imp (vC he (jk hc h hn hst) hs hw h1) λE σ H aC=>by
 refine cN λ_ kq=>?_;obtain⟨env,B,Z,o,R,e,k⟩:=aC;obtain⟨d,e1,e⟩:=b_.mp e;obtain⟨en,e2,e⟩:=b_.mp e;cases e;refine kq (⟨env,B,Z,d,R,e1,λv Z1 H1 x1 g1=>⟨env,B,Z1,d,en,R.ext x1,g1,e2,λσ' Z2 H2 x2 R'=>k σ' Z2 H2 ((x1.trans x2).part R.bh) R'⟩⟩)
def aR(n:Nat)(ds:Xo):En:=ds.map .F++List.replicate (n-ds.length) .un
def cx(f:Fs)(n:Nat)(ds:Xo):Xp:=(f (aR n ds)).bind λo=>match o with | .rt d=>some d | _=>none
theorem Rl.start{K:Fg}{Z H:Hp}{N:W1}{ds:Xo}{vs:Xq}(s:aH Z H)(r:ak K Z ds vs):Rl K H Z H (aR N.length ds) (start N vs):=by
 have hl:=r.len;have noO:∀(i:Nat)(es:rF),(aR N.length ds)[i]?≠some (.O es):=λi es h=>by
  unfold aR at h
  by_cases hi:i<ds.length
  .rw[I_ (by simpa using hi),m_]at h;cases q:ds[i]? with
   | none=>rw[q]at h;cases h
   | some d=>rw[q]at h;cases h
  .rw[G_ (by simpa using hi),S0]at h
   split at h<;>cases h
 refine⟨aH.refl _,s,by simp[aR,L2.start,hl],λi sl h=>?_,λi es a h=>absurd h (noO i es),λi j es _ a _ h=>absurd h (noO i es)⟩;unfold aR at h;unfold L2.start
 by_cases hi:i<ds.length
 .rw[I_ (by simpa using hi),m_]at h;cases q:ds[i]? with
  | none=>rw[q]at h;cases h
  | some d=>
   rw[q]at h;cases h;obtain⟨v,h1,h2⟩:=r.get q;exact⟨some v,by rw[I_ (by simpa [<- hl]using hi),m_,h1];rfl,v,rfl,h2⟩
 .rw[G_ (by simpa using hi),S0]at h
  split at h
  .rename_i hk;cases h;refine⟨none,?_,trivial⟩;rw[G_ (by simpa [<- hl]using hi),S0,j_ (by simpa [hl]using hk)]
  .cases h
end
section
variable {P:Xa}{w:Xe}{K:Fg}{mg:WU}{base:Xd}
theorem QY{x qual:Str}{st:Xj}{f:Xh}{fd:Xf}{N ps:W1}{k:Nat}{g:Gr}{m:Xo->Xp}{fb:Fs}(F:xU K x qual st f fd)(S:bC N ps (ax st))
  (hb:∀(bq:W9)(A:Xb)(outer:List Env)(s:W_)(H:Hp)(E:XK),a9 k (A.deeper (envOfC qual (ax st) s.sz f bq))->uy (eM ko P w K mg base N qual (ax st) f bq A outer s H E).nox g (aT st) fb)
  (hm:∀ds d,ds.length=ps.length->m ds=some d->cx fb N.length ds=some d):dh P w K mg base ko (k+1) f fd ps (CD K ps.length g m):=by
 refine F.ok S (λvs H Q E ⟨Z,ds,d,hl,_,r,_⟩=>by rw[<- r.len];exact hl) λbq A outer s H vs Q E hr aC=>?_;obtain⟨Z,ds,d,hl,s1,r,e,kk⟩:=aC;refine⟨_,hb bq A outer s H E hr,?_⟩;obtain⟨o,e1,e2⟩:=b_.mp (hm ds d hl e);refine⟨_,H,Z,o,Rl.start s1 r,e1,?_⟩;cases o with
 | rt d'=>cases e2;exact kk
 | nx _=>cases e2
 | bk _=>cases e2
 | ct _=>cases e2
end
mutual
def toPy:D->PyData
 | .non=>.none
 | .bl b=>.bool b
 | .int i=>.int i
 | .str x=>.str x
 | .tup ds=>.tuple (dg ds)
 | .lst ds=>.list (dg ds)
 | .dct _=>.none
 | .st _=>.none
 | .ln _=>.none
 | .mp _ _ _=>.none
 | .ix _ _ _=>.none
 | .nt _ _=>.none
def dg:Xo->List PyData
 | []=>[]
 | d::ds=>toPy d::dg ds
end
mutual
def pl:D->Bool
 | .tup ds=>iR ds
 | .lst ds=>iR ds
 | .dct _=>false
 | .st _=>false
 | .ln _=>false
 | .mp _ _ _=>false
 | .ix _ _ _=>false
 | .nt _ _=>false
 | _=>true
def iR:Xo->Bool
 | []=>true
 | d::ds=>pl d&&iR ds
end
mutual
def iJ:D->D->Bool
 | .non,.non=>true
 | .bl a,.bl b=>a==b
 | .bl a,.int j=>(if a then 1 else 0)==j
 | .int i,.bl b=>i==(if b then 1 else 0)
 | .int i,.int j=>i==j
 | .str x,.str y=>x==y
 | .tup xs,.tup ys=>jA xs ys
 | .lst xs,.lst ys=>jA xs ys
 | _,_=>false
def jA:Xo->Xo->Bool
 | [],[]=>true
 | x::xs,y::ys=>iJ x y&&jA xs ys
 | _,_=>false
end
mutual
theorem lN:∀(d e:D),pl d=true->pl e=true->PyData.eqv (toPy d) (toPy e)=iJ d e
 | .non,e,_,h=>by cases e<;>first | (simp[pl]at h;done) | simp[toPy,PyData.eqv,iJ]
 | .bl b,e,_,h=>by cases e<;>first | (simp[pl]at h;done) | simp[toPy,PyData.eqv,iJ]
 | .int i,e,_,h=>by cases e<;>first | (simp[pl]at h;done) | simp[toPy,PyData.eqv,iJ]
 | .str x,e,_,h=>by cases e<;>first | (simp[pl]at h;done) | simp[toPy,PyData.eqv,iJ]
 | .tup ds,e,h1,h=>by
  unfold pl at h1;cases e
  case tup es=>unfold pl at h;simp[toPy,PyData.eqv,iJ,gG ds es h1 h]
  case lst es=>unfold pl at h;simp[toPy,PyData.eqv,iJ,gG ds es h1 h]
  all_goals first | (simp[pl]at h;done) | simp[toPy,PyData.eqv,iJ]
 | .lst ds,e,h1,h=>by
  unfold pl at h1;cases e
  case tup es=>unfold pl at h;simp[toPy,PyData.eqv,iJ,gG ds es h1 h]
  case lst es=>unfold pl at h;simp[toPy,PyData.eqv,iJ,gG ds es h1 h]
  all_goals first | (simp[pl]at h;done) | simp[toPy,PyData.eqv,iJ]
theorem gG:∀(ds es:Xo),iR ds=true->iR es=true->PyData.eqvAll (dg ds) (dg es)=jA ds es
 | [],es,_,_=>by cases es<;>simp[dg,PyData.eqvAll,jA]
 | d::ds,es,h1,h2=>by
  unfold iR at h1;rw[F_]at h1;cases es with
  | nil=>simp[dg,PyData.eqvAll,jA]
  | cons e es=>
   unfold iR at h2;rw[F_]at h2;simp[dg,PyData.eqvAll,jA,lN d e h1.1 h2.1,gG ds es h1.2 h2.2]
end
mutual
def dep:D->Nat
 | .tup ds=>n8 ds+1
 | .lst ds=>n8 ds+1
 | _=>0
def n8:Xo->Nat
 | []=>0
 | d::ds=>max (dep d) (n8 ds)
end
mutual
theorem cQ:∀(d:D),(toPy d).depth=dep d
 | .non=>by simp[toPy,PyData.depth,dep]
 | .bl b=>by simp[toPy,PyData.depth,dep]
 | .int i=>by simp[toPy,PyData.depth,dep]
 | .str x=>by simp[toPy,PyData.depth,dep]
 | .tup ds=>by simp[toPy,PyData.depth,dep,iN ds]
 | .lst ds=>by simp[toPy,PyData.depth,dep,iN ds]
 | .dct ks=>by simp[toPy,PyData.depth,dep]
 | .st ks=>by simp[toPy,PyData.depth,dep]
 | .ln ks=>by simp[toPy,PyData.depth,dep]
 | .mp _ _ _=>by simp[toPy,PyData.depth,dep]
 | .ix _ _ _=>by simp[toPy,PyData.depth,dep]
 | .nt _ _=>by simp[toPy,PyData.depth,dep]
theorem iN:∀(ds:Xo),PyData.depthAll (dg ds)=n8 ds
 | []=>by simp[dg,PyData.depthAll,n8]
 | d::ds=>by simp[dg,PyData.depthAll,n8,cQ d,iN ds]
end
section
variable {X:Cx}{pins:WS}{σ:L2.St}{H:Hp}{s:W_}
mutual
theorem df(I:Inv X pins σ H s):∀(d:D){x:V}{v:W9},pl d=true->Rep X.K H d x->RelV x v->∃as,Reads s.heap v (toPy d) as
 | .non,_,_,_,h,r=>by cases(show _=V.non from h);cases r;exact⟨_,.none⟩
 | .bl b,_,_,_,h,r=>by cases(show _=V.bl b from h);cases r;exact⟨_,.bool b⟩
 | .int i,_,_,_,h,r=>by cases(show _=V.int i from h);obtain⟨t,rfl⟩:=r;exact⟨_,.int i t⟩
 | .str y,_,_,_,h,r=>by obtain⟨h,_⟩:=h;subst h;obtain⟨t,rfl⟩:=r;exact⟨_,.str y t⟩
 | .tup ds,_,_,hp,h,r=>by
  unfold pl at hp;refine cN λ_ kq=>?_;obtain⟨a,vs,e,q,rr⟩:=h;subst e;cases r;obtain⟨aQ,rv,⟨o,ho,hc,n,hd⟩,_⟩:=I.tuple q;obtain⟨as,ra⟩:=kr I ds hp rr rv;exact kq (⟨as,.tuple ho hc hd (by simpa [toPy]using ra)⟩)
 | .lst ds,_,_,hp,h,r=>by
  unfold pl at hp;refine cN λ_ kq=>?_;obtain⟨a,vs,e,q,rr⟩:=h;subst e;cases r;obtain⟨aQ,rv,pl,_⟩:=I.list q;obtain⟨o,ho,hc,n,hd⟩:=pl.isList;obtain⟨as,ra⟩:=kr I ds hp rr rv;exact kq (⟨_,.list ho hc hd (by simpa [toPy]using ra)⟩)
 | .dct ks,_,_,hp,_,_=>by unfold pl at hp;cases hp
 | .st ks,_,_,hp,_,_=>by unfold pl at hp;cases hp
 | .ln ks,_,_,hp,_,_=>by unfold pl at hp;cases hp
 | .mp _ _ _,_,_,hp,_,_=>by unfold pl at hp;cases hp
 | .ix _ _ _,_,_,hp,_,_=>by unfold pl at hp;cases hp
 | .nt _ _,_,_,hp,_,_=>by unfold pl at hp;cases hp
theorem kr(I:Inv X pins σ H s):∀(ds:Xo){vs:Xq}{us:WY},iR ds=true->ak X.K H ds vs->av vs us->∃as,ReadsAll s.heap us (dg ds) as
 | [],_,_,_,h,r=>by cases(show _=[]from h);cases r;exact⟨_,by simpa [dg]using ReadsAll.nil⟩
 | d::ds,_,_,hp,h,r=>by
  unfold iR at hp;rw[F_]at hp;obtain⟨v,vr,e,h1,h2⟩:=h;subst e;cases r with
  | cons r1 r2=>
   refine cN λ_ kq=>?_;obtain⟨as,q1⟩:=df I d hp.1 h1 r1;obtain⟨bs,q2⟩:=kr I ds hp.2 h2 r2;exact kq (⟨_,by simpa [dg]using ReadsAll.cons q1 q2⟩)
end
mutual
theorem fQ:∀(d:D){x:V},Rep X.K H d x->(toPy d).canLay0=true
 | .non,_,_=>by simp[toPy,PyData.canLay0]
 | .bl b,_,_=>by simp[toPy,PyData.canLay0]
 | .int i,_,_=>by simp[toPy,PyData.canLay0]
 | .str y,_,h=>by simp[toPy,PyData.canLay0,h.2]
 | .tup ds,_,⟨a,vs,e,q,rr⟩=>by simp[toPy,PyData.canLay0,qb ds rr]
 | .lst ds,_,⟨a,vs,e,q,rr⟩=>by simp[toPy,PyData.canLay0,qb ds rr]
 | .dct ks,_,_=>by simp[toPy,PyData.canLay0]
 | .st ks,_,_=>by simp[toPy,PyData.canLay0]
 | .ln ks,_,_=>by simp[toPy,PyData.canLay0]
 | .mp _ _ _,_,_=>by simp[toPy,PyData.canLay0]
 | .ix _ _ _,_,_=>by simp[toPy,PyData.canLay0]
 | .nt _ _,_,_=>by simp[toPy,PyData.canLay0]
theorem qb:∀(ds:Xo){vs:Xq},ak X.K H ds vs->PyData.canLayAll0 (dg ds)=true
 | [],_,_=>by simp[dg,PyData.canLayAll0]
 | d::ds,_,⟨v,vr,e,h1,h2⟩=>by simp[dg,PyData.canLayAll0,fQ d h1,qb ds h2]
end
def fg(d e:D):Bool:=(pl d&&pl e)&&(decide (dep d<=60)||decide (dep e<=60))
def FN(K:Fg)(neg:Bool):R2:=λx y H Q=>∃dx dy,Rep K H dx x/\Rep K H dy y/\fg dx dy=true/\Q (.bl (if neg then !iJ dx dy else iJ dx dy)) H
theorem vf(h:u+64<cLine)(h2:a<=60\/b<=60):u+min a b<cLine:=by lia
theorem rZ(h:fg d e=true):dep d<=60\/dep e<=60:=by unfold fg at h;rw[F_]at h;simpa using h.2
theorem sC(h:fg d e=true):pl d=true/\pl e=true:=by unfold fg at h;rw[F_,F_]at h;exact h.1
theorem zW(hu:X.A.units+64<cLine):gw X (compareOp .Eq) (FN X.K false):=by
 intro pins s σ H x y v u Q I rx ry h;refine cN λ_ kq=>?_;obtain⟨dx,dy,h1,h2,hd,q⟩:=h;obtain⟨p1,p2⟩:=sC hd;obtain⟨as,r1⟩:=df I dx p1 h1 rx;obtain⟨bs,r2⟩:=df I dy p2 h2 ry;refine kq (SeqAt.compareEq_reads r1 r2 (fQ dx h1) (fQ dy h2) (by rw[cQ,cQ];exact vf hu (rZ hd)) ?_)
 all_goals clear kq
 rw[lN _ _ p1 p2];exact⟨.bl _,H,I,rfl,q⟩
theorem Br(hu:X.A.units+64<cLine):gw X (compareOp .NotEq) (FN X.K true):=by
 intro pins s σ H x y v u Q I rx ry h;refine cN λ_ kq=>?_;obtain⟨dx,dy,h1,h2,hd,q⟩:=h;obtain⟨p1,p2⟩:=sC hd;obtain⟨as,r1⟩:=df I dx p1 h1 rx;obtain⟨bs,r2⟩:=df I dy p2 h2 ry;refine kq (SeqAt.compareNe_reads r1 r2 (fQ dx h1) (fQ dy h2) (by rw[cQ,cQ];exact vf hu (rZ hd)) ?_)
 all_goals clear kq
 rw[lN _ _ p1 p2];exact⟨.bl _,H,I,rfl,q⟩
def iq:D->D->Xp:=λa b=>if fg a b=true then some (.bl (iJ a b))else none
def pN:D->D->Xp:=λa b=>if fg a b=true then some (.bl !iJ a b)else none
theorem MT{K:Fg}:ck K .cl iq (FN K false):=λ{Z H x y dx dy d Q} s h1 h2 e k=>by
 obtain⟨hd,rfl⟩:=kX e;exact⟨dx,dy,h1.rep s,h2.rep s,hd,k _ Z H (Ex.refl s) rfl⟩
theorem Lg{K:Fg}:ck K .cl pN (FN K true):=λ{Z H x y dx dy d Q} s h1 h2 e k=>by
 obtain⟨hd,rfl⟩:=kX e;exact⟨dx,dy,h1.rep s,h2.rep s,hd,k _ Z H (Ex.refl s) rfl⟩
variable {l r c:Xi}{fa fb fc:Fe}{ga gb gc:Gr}{pos p p2:Pos}{k:Nat}
theorem Fu(hr:a9 k X.A)(ha:PD X ga l fa)(hb:PD X gb r fb):PD X .cl (.Compare l [.Eq] [r] pos) (ao iq fa fb):=AE (zW hr.units) MT ha hb (gy _)
theorem O7(hr:a9 k X.A)(ha:PD X ga l fa)(hb:PD X gb r fb):PD X .cl (.Compare l [.NotEq] [r] pos) (ao pN fa fb):=AE (Br hr.units) Lg ha hb (gy _)
theorem tU(hr:a9 k X.A)(ha:PD X ga l fa)(hb:PD X gb r fb):PB X (.Compare l [.Eq] [r] pos) (fB (ao iq fa fb)):=kT (zW hr.units) MT ha hb (gy _)
theorem zo(hr:a9 k X.A)(ha:PD X ga l fa)(hb:PD X gb r fb):PB X (.Compare l [.NotEq] [r] pos) (fB (ao pN fa fb)):=kT (Br hr.units) Lg ha hb (gy _)
def inD(d:D)(es:Xo):Bool:=es.any λe=>iJ e d
def Dl(neg:Bool):D->D->Xp
 | d,.lst es=>if dep d<=60/\(pl d&&iR es)=true then some (.bl (if neg then !inD d es else inD d es))else none
 | d,.tup es=>if dep d<=60/\(pl d&&iR es)=true then some (.bl (if neg then !inD d es else inD d es))else none
 | _,_=>none
def Nn(K:Fg)(neg:Bool):R2:=λx y H Q=>∃dx es p ys,Rep K H dx x/\y=.ref p/\(de K H p ys\/cw K H p ys)/\ak K H es ys/\(dep dx<=60/\(pl dx&&iR es)=true)/\Q (.bl (if neg then !inD dx es else inD dx es)) H
noncomputable def il(h:Xd)(d:PyData)(y:W9):Bool:=@decide (∃e as,Reads h y e as/\e.canLay0=true/\PyData.eqv e d=true) (Classical.propDecidable _)
theorem sq(r:Reads h y e as)(c:e.canLay0=true):il h d y=PyData.eqv e d:=by
 unfold il;cases q:PyData.eqv e d with
 | true=>exact @w_ _ (Classical.propDecidable _) ⟨e,as,r,c,q⟩
 | false=>
  refine @E_ _ (Classical.propDecidable _) λaC=>?_;obtain⟨e',as',r',c',q'⟩:=aC;rw[SeqAt.Reads.unique e' e y as' as c' r' r]at q';rw[q]at q';cases q'
theorem jN(I:Inv X pins σ H s)(dx:D)(hx:pl dx=true):∀{es:Xo}{ys:Xq}{us:WY},iR es=true->ak X.K H es ys->av ys us->us.any (il s.heap (toPy dx))=inD dx es
 | [],_,_,_,h,r=>by cases(show _=[]from h);cases r;rfl
 | e::es,_,_,hp,h,r=>by
  unfold iR at hp;rw[F_]at hp;obtain⟨v,vr,z,h1,h2⟩:=h;subst z;cases r with
  | cons r1 r2=>
   obtain⟨as,q⟩:=df I e hp.1 h1 r1;have ih:=jN I dx hx hp.2 h2 r2;unfold inD at ih ⊢;rw[List.any_cons,List.any_cons,ih,sq q (fQ e h1),lN _ _ hp.1 hx]
theorem l4(I:Inv X pins σ H s)(hx:Rep X.K H dx x)(rx:RelV x v)(hu:A.units+64<cLine)(hd:dep dx<=60)(Kn:pl dx=true):∀{es:Xo}{ys:Xq}{us:WY},iR es=true->ak X.K H es ys->av ys us->
  ∀u∈us,SeqAt.EqAt A s u v (il s.heap (toPy dx) u)
 | [],_,_,_,h,r,u,hm=>by cases(show _=[]from h);cases r;cases hm
 | e::es,_,_,hp,h,r,u,hm=>by
  unfold iR at hp;rw[F_]at hp;obtain⟨w,vr,z,h1,h2⟩:=h;subst z;cases r with
  | cons r1 r2=>
   rcases t_.mp hm with rfl | hm
   .obtain⟨as,q⟩:=df I e hp.1 h1 r1;obtain⟨bs,q2⟩:=df I dx Kn hx rx;rw[sq q (fQ e h1)];exact SeqAt.eqAt_reads _ _ A s _ _ as bs q q2 (fQ e h1) (fQ dx hx) (by rw[cQ,cQ];exact vf hu (.inr hd))
   .exact l4 I hx rx hu hd Kn hp.2 h2 r2 u hm
theorem AH(hu:X.A.units+66<cLine)(neg:Bool):gw X (compareOp (if neg then .NotIn else .In)) (Nn X.K neg):=by
 intro pins s σ H x y v u Q I rx ry h;obtain⟨dx,es,p,ys,h1,rfl,h2,rr,⟨hd,Rj⟩,q⟩:=h;rw[F_]at Rj;obtain⟨Kn,Ox⟩:=Rj;cases ry;have Hl:X.A.in1.units+64<cLine:=by show X.A.units+1+64<cLine;lia
 rcases h2 with h2 | h2
 .obtain⟨aQ,r',pl,hz⟩:=I.list h2;have ha:=jN I dx Kn Ox rr r';have gT:∀y,y∈aQ.toArray->SeqAt.EqAt X.A.in1 s y v (il s.heap (toPy dx) y):=λy hy=>l4 I h1 rx Hl hd Kn Ox rr r' y (by simpa using hy);have fin:EP X pins σ Q (.bool (if neg then !aQ.toArray.any (il s.heap (toPy dx))else aQ.toArray.any (il s.heap (toPy dx)))) s:=⟨_,H,I,(by rw[List.any_toArray,ha]<;>rfl),q⟩;cases neg with
  | false=>exact SeqAt.in_listAt _ pl.isList gT fin
  | true=>exact SeqAt.notIn_listAt _ pl.isList gT fin
 .obtain⟨aQ,r',pl,hz⟩:=I.tuple h2;have ha:=jN I dx Kn Ox rr r';have gT:∀y,y∈aQ.toArray->SeqAt.EqAt X.A.in1 s y v (il s.heap (toPy dx) y):=λy hy=>l4 I h1 rx Hl hd Kn Ox rr r' y (by simpa using hy);have fin:EP X pins σ Q (.bool (if neg then !aQ.toArray.any (il s.heap (toPy dx))else aQ.toArray.any (il s.heap (toPy dx)))) s:=⟨_,H,I,(by rw[List.any_toArray,ha]<;>rfl),q⟩;cases neg with
  | false=>exact SeqAt.in_tupleAt _ (show s.heap.IsTuple p aQ.toArray from pl) gT fin
  | true=>exact SeqAt.notIn_tupleAt _ (show s.heap.IsTuple p aQ.toArray from pl) gT fin
theorem Ms{K:Fg}{neg:Bool}:ck K .cl (Dl neg) (Nn K neg):=λ{Z H x y dx dy d Q} s h1 h2 e k=>by
 cases dy<;>try cases e
 .obtain⟨hd,rfl⟩:=kX e;obtain⟨a,vs,rfl,q,r⟩:=h2.tup s;exact⟨dx,_,a,vs,h1.rep s,rfl,.inr q,ak.mono s _ r,hd,k _ Z H (Ex.refl s) rfl⟩
 .obtain⟨hd,rfl⟩:=kX e;obtain⟨a,vs,rfl,q,r⟩:=h2.lst s;exact⟨dx,_,a,vs,h1.rep s,rfl,.inl q,ak.mono s _ r,hd,k _ Z H (Ex.refl s) rfl⟩
theorem wG(r:a9 k A):A.units+66<cLine:=by have:=r.un;lia
theorem OR(hr:a9 k X.A)(ha:PD X ga l fa)(hb:PD X gb r fb)(hm:behindInMarks .In r=false:=by rfl):PB X (.Compare l [.In] [r] pos) (fB (ao (Dl false) fa fb)):=kT (AH (wG hr) false) Ms ha hb hm
theorem Ln(hr:a9 k X.A)(ha:PD X ga l fa)(hb:PD X gb r fb)(hm:behindInMarks .NotIn r=false:=by rfl):PB X (.Compare l [.NotIn] [r] pos) (fB (ao (Dl true) fa fb)):=kT (AH (wG hr) true) Ms ha hb hm
inductive Ty where | int | bool | str | tuple | list
def Ty.nm:Ty->String
 | .int=>"int" | .bool=>"bool" | .str=>"str" | .tuple=>"tuple" | .list=>"list"
end
section
variable {elt:Xi}{gens:WX}{scope:Xg}{pos:Pos}{d:Nat}{tg iter:Xi}{ifs:W3}{it acc:W9}{env:Env}
def wB(ce tg iter:Xi)(ifs:W3)(d:Nat)(it acc:W9)(env:Env)(em:Sem Unit):Sem Fin:=do
  standAt iter.pos
  match <- pyNext it with
  | none=>pure (.done .next)
  | some v=>
   letOwnedTupleGo tg it v
   assign tg env v
   let ok <- forIn ifs true λc r=>if r=true then do let ok <- isTrue c env (eval c env);pure (ForInStep.yield ok)else pure (ForInStep.yield r)
   if ok then em
   again (.compLoop ce d it acc env)
def xn(ce tg iter bK:Xi)(ifs:W3)(d:Nat)(it acc:W9)(env:Env):Sem Fin:=do
  standAt iter.pos
  match <- pyNext it with
  | none=>pure (.done .next)
  | some v=>
   letOwnedTupleGo tg it v
   assign tg env v
   let ok <- forIn ifs true λc r=>if r=true then do let ok <- isTrue c env (eval c env);pure (ForInStep.yield ok)else pure (ForInStep.yield r)
   if ok=true then(do
    let x <- eval bK env
    standAt bK.pos
    let x <- foldedSetIterable bK env x
    let i' <- holding [x] (pyIter x)
    let _ <- runOwn (.compStart ce (d+1) i' acc env) env
    again (.compLoop ce d it acc env))
   else again (.compLoop ce d it acc env)
theorem zz(h:gens[d]?=some ⟨tg,iter,ifs,0⟩)(h2:gens[d+1]?=none):compTurn (.ListComp elt gens scope pos) d it acc env=wB (.ListComp elt gens scope pos) tg iter ifs d it acc env (do let _ <- call (.builtin "list.append") [acc,<- eval elt env]):=by
 unfold compTurn;simp only[h,h2]
 rfl
theorem zx(h:gens[d]?=some ⟨tg,iter,ifs,0⟩)(h2:gens[d+1]?=some ⟨ur,bK,kG,0⟩):compTurn (.ListComp elt gens scope pos) d it acc env=xn (.ListComp elt gens scope pos) tg iter bK ifs d it acc env:=by
 unfold compTurn;simp only[h,h2]
 rfl
end
def fM(lk:Str->W0):List (Str×NameKind)->WV->Option WV
 | [],acc=>some acc
 | (n,k)::r,acc=>if(k==.free)=true then(lk n).bind λc=>fM lk r ((n,c)::acc)else fM lk r acc
theorem ky:∀(names:List (Str×NameKind))(acc cl:WV),fM (λx=>env.cells.lookup x) names acc=some cl->
  (forIn names acc λ(x:Str×NameKind) (r:WV)=>(do if x.2==.free then(do let c <- cellOf env x.1;pure (ForInStep.yield ((x.1,c)::r)))else pure (ForInStep.yield r)):Sem WV)=pure cl
 | [],acc,cl,h=>by cases h;rfl
 | (n,k)::r,acc,cl,h=>by
  rw[List.forIn_cons];unfold fM at h
  by_cases hk:(k==NameKind.free)=true
  .rw[j_ hk]at h;obtain⟨c,h1,h2⟩:=b_.mp h;have h1':cellOf env n=pure c:=by unfold cellOf;rw[show env.cells.lookup n=some c from h1]
   simp only[hk,Um,h1',pure_bind];exact ky r _ cl h2
  .rw[k_ hk]at h;simp only[hk,SS,pure_bind];exact ky r _ cl h
theorem fN(h:fM (λx=>env.cells.lookup x) scope.names []=some cl):closureFor scope env=pure cl:=by
 have:=ky scope.names [] cl h;unfold closureFor;simp only;rw[this]
 rfl
theorem fw:∀{names:List (Str×NameKind)}{acc cl:WV},fM lk names acc=some cl->(∀p∈acc,lk p.1=some p.2)->∀p∈cl,lk p.1=some p.2
 | [],acc,cl,h,ha=>by cases h;exact ha
 | (n,k)::r,acc,cl,h,ha=>by
  unfold fM at h
  split at h
  .obtain⟨c,h1,h2⟩:=b_.mp h;exact fw h2 λp hp=>by
    rcases t_.mp hp with rfl | hp
    .exact h1
    .exact ha p hp
  .exact fw h ha
theorem eT:∀{names:List (Str×NameKind)}{acc cl:WV},fM lk names acc=some cl->∀x,((x,NameKind.free)∈names\/∃c,(x,c)∈acc)->∃c,(x,c)∈cl
 | [],acc,cl,h,x,hx=>by
  cases h;rcases hx with hx | hx
  .cases hx
  .exact hx
 | (n,k)::r,acc,cl,h,x,hx=>by
  unfold fM at h
  split at h
  .rename_i hk;obtain⟨c,h1,h2⟩:=b_.mp h;refine eT h2 x ?_;rcases hx with hx | ⟨c',hx⟩
   .rcases t_.mp hx with e | hx
    .cases e;exact .inr ⟨c,o_⟩
    .exact .inl hx
   .exact .inr ⟨c',l_ _ hx⟩
  .rename_i hk;refine eT h x ?_;rcases hx with hx | hx
   .rcases t_.mp hx with e | hx
    .cases e;exact absurd rfl hk
    .exact .inl hx
   .exact .inr hx
theorem b8:∀{cl:WV},(x,c)∈cl->∃c',cl.lookup x=some c'
 | [],h=>by cases h
 | (y,b)::r,h=>by
  by_cases e:(x==y)=true
  .exact⟨b,by simp[Ta,e]⟩
  .rcases t_.mp h with z | z
   .cases z;exact absurd (VM x) e
   .obtain⟨c',h'⟩:=b8 z;exact⟨c',by simp[Ta,e,h']⟩
theorem cX{scope:Xg}{env:Env}:∀{names:List (Str×NameKind)}{x:Str}{k:NameKind},
  (names.map λ(n,k)=>if(k==NameKind.free&&env.scope.kind==.function&&env.kindOf n==some .cell)then(n,NameKind.cell)else(n,k)).lookup x=some k->k=.cell\/k=.free->(x,NameKind.free)∈names\/(x,NameKind.cell)∈names
 | [],x,k,h,_=>by simp at h
 | (n,q)::r,x,k,h,hk=>by
  simp only[L_]at h
  by_cases hc:(q==NameKind.free&&env.scope.kind==.function&&env.kindOf n==some .cell)=true
  .rw[j_ hc]at h;simp only[Ta]at h;cases e:x==n with
   | true=>
    have e':=eq_of_beq e;subst e';simp only[F_,VN]at hc;exact .inl (by rw[hc.1.1];exact o_)
   | false=>
    rw[e]at h;rcases cX (scope:=scope) h hk with z | z
    .exact .inl (l_ _ z)
    .exact .inr (l_ _ z)
  .rw[k_ hc]at h;simp only[Ta]at h;cases e:x==n with
   | true=>
    rw[e]at h;have e':=eq_of_beq e;subst e';cases h;rcases hk with rfl | rfl
    .exact .inr o_
    .exact .inl o_
   | false=>
    rw[e]at h;rcases cX (scope:=scope) h hk with z | z
    .exact .inl (l_ _ z)
    .exact .inr (l_ _ z)
def di(X:Cx)(scope:Xg)(cl:WV)(Nc:W1)(C:Xh)(s:W_)(H:Hp)(ex:W2)(pn:WS):Cx:=
 {X with N:=Nc,s₀:=s,H₀:=H,env:=compEnvC scope cl C X.env,outer:=X.stack,stack:=X.stack,ex:=ex,fn:=λ_=>false,pn:=pn,xe:=λ_ _=>False}
def la(n:Nat)(caps:W5)(σ:L2.St):L2.St:=List.replicate n none++caps.map λj=>(σ[j]?).getD none
def cK(n:Nat)(caps:W5)(env:En):En:=List.replicate n .un++caps.map λj=>match env[j]? with | some (.F d)=>.F d | _=>.un
def ie(X:Cx)(scope:Xg)(caps:W5):Bool:=caps.all λj=>match X.N[j]? with
 | some x=>(X.env.scope.names.lookup x==some .cell||X.env.scope.names.lookup x==some .free)&&scope.names.lookup x==some .free
 | none=>false
theorem fP{env:Env}:∀{names:List (Str×NameKind)}{x:Str},names.lookup x=some .free->
  (names.map λ(n,k)=>if(k==NameKind.free&&env.scope.kind==.function&&env.kindOf n==some .cell)then(n,NameKind.cell)else(n,k)).lookup x=some .free\/
  (names.map λ(n,k)=>if(k==NameKind.free&&env.scope.kind==.function&&env.kindOf n==some .cell)then(n,NameKind.cell)else(n,k)).lookup x=some .cell
 | [],x,h=>by simp at h
 | (n,q)::r,x,h=>by
  simp only[L_];simp only[Ta]at h;cases e:x==n with
  | true=>
   rw[e]at h;cases h
   by_cases hc:(NameKind.free==NameKind.free&&env.scope.kind==.function&&env.kindOf n==some .cell)=true
   .rw[j_ hc];simp[Ta,e]
   .rw[k_ hc];simp[Ta,e]
  | false=>
   rw[e]at h
   by_cases hc:(q==NameKind.free&&env.scope.kind==.function&&env.kindOf n==some .cell)=true
   .rw[j_ hc];simp only[Ta,e];exact fP h
   .rw[k_ hc];simp only[Ta,e];exact fP h
section
variable {X:Cx}{pins:WS}{σ:L2.St}{H:Hp}{s:W_}{scope:Xg}{cl:WV}{Nc own:W1}{caps:W5}{fp:W2}
theorem eU(I:Inv X pins σ H s)(h1:b≠X.env.locals)(h2:b∉X.fs):b∉k7 X.stack:=λhb=>(t_.mp (I.stkSub b hb)).elim h1 h2
theorem r9{h1:Xd}{tk:Nat}{m:WU}(I:Inv X pins σ H s)(gU:fM (λx=>X.env.cells.lookup x) scope.names []=some cl)(bo:scope.kind=.function)(hnc:∀y∈scope.names,y.2≠.cell)
  (Du:∀b∈fp,bM X pins H b) (hfl:∀b∈fp,b<s.sz) (hN:Nc.map some=own.map some++caps.map (λj=>X.N[j]?)) (eQ:ie X scope caps=true)
  (zC:h1.Ns s.sz m) (hk:∀b o,s.heap.get? b=some o->h1.get? b=some o) :
  Inv (di X scope cl Nc s.sz s H fp (X.pn++pins)) [] (la own.length caps σ) H {s with heap:=h1,toks:=tk}:=by
 have mem:=fw gU (λp hp=>by cases hp);have low:∀x c,cl.lookup x=some c->X.env.cells.lookup x=some c:=λx c h=>mem (x,c) (SL h);have cellAt:∀x c,cl.lookup x=some c->c<s.sz:=λx c h=>by
  obtain⟨v,q⟩:=I.cell x c (low x c h);exact q.lt
 refine⟨⟨I.ok.mod,bo,I.ok.glob,I.ok.blt,h_ _,λx y c h1 h2=>I.ok.inj x y c (low x c h1) (low y c h2),λx hx=>?_,λx c hf _=>absurd (show false=true from hf) P_,I.ok.hd,I.ok.frames,.inl rfl,λb hb=>⟨z_ (hfl b hb),λx c h=>(Du b hb).2.2.2.2.1 x c (low x c h)⟩,
   I.bs,B_ I.ok.bsz I.sz,λb o e hb=>?_,λb hb hf=>eU I (Du b hb).2.1 (Du b hb).2.2.1 hf,I.stack,I.stkFree,I.tb⟩,
  rfl,I.bare,Un.kept hk,⟨m,zC,λi x v e1 e2 e3=>?_⟩,λx c h=>?_,I.hok.fresh (h_ _),λx c h=>I.freeC x c (low x c h),λp hp=>?_,I.hok.kept hk,?_⟩
 .have jI:(relabel scope X.env).names.lookup x=some .cell\/(relabel scope X.env).names.lookup x=some .free:=hx;have hmem:(x,NameKind.free)∈scope.names:=by
   rcases jI with h | h
   .rcases cX (scope:=scope) h (.inl rfl)with z | z
    .exact z
    .exact absurd rfl (hnc _ z)
   .rcases cX (scope:=scope) h (.inr rfl)with z | z
    .exact z
    .exact absurd rfl (hnc _ z)
  obtain⟨c,hc⟩:=eT gU x (.inl hmem);exact b8 hc
 .rcases(Du b hb).2.2.2.1 with z | z
  .exact I.ok.noex b o e z
  .exact absurd (N_ (q_ e) (B_ I.ok.bsz z)) (Ua _)
 .have NL:own.length<=i:=by
   by_cases hi:i<own.length
   .unfold la at e2;rw[I_ (by simpa using hi),S0,j_ hi]at e2;cases e2
   .lia
  unfold la at e2;rw[G_ (by simpa using NL),m_]at e2;simp only[Uo]at e2;cases hj:caps[i-own.length]? with
  | none=>rw[hj]at e2;cases e2
  | some j=>
   rw[hj]at e2;have uh:(σ[j]?).getD none=some v:=Option.some.inj e2;have hσ:σ[j]?=some (some v):=by
    cases q:σ[j]? with
    | none=>rw[q]at uh;cases uh
    | some o=>rw[q]at uh;exact Tn some uh
   have hx:X.N[j]?=some x:=by
    have h1:(Nc.map some)[i]?=some (some x):=by rw[m_,show Nc[i]?=some x from e1];rfl
    rw[hN,G_ (by simpa using NL),m_]at h1;simp only[c_]at h1;rw[hj]at h1;exact Option.some.inj h1
   have hc1:=M_.mp eQ j (R_ hj);rw[hx]at hc1;simp only[F_,WJ,VN]at hc1;obtain⟨hc1,rK⟩:=hc1;obtain⟨m0,Qc,Oy⟩:=I.loc;obtain⟨u,ru,lk⟩:=Oy j x v hx hσ (.inr hc1);refine⟨u,ru,.inr ?_⟩;have Qd:∃c,X.env.cells.lookup x=some c/\s.heap.IsCell c (some u):=by
    rcases lk with ⟨h1,_⟩ | ⟨_,c,h1,h2⟩
    .have h1':X.env.scope.names.lookup x=some .local:=h1;rcases hc1 with z | z<;>· rw[h1']at z;cases z
    .exact⟨c,h1,h2⟩
   obtain⟨c,Qe,Qf⟩:=Qd;obtain⟨c',hc'⟩:=eT gU x (.inl (SL rK));obtain⟨Qg,CN⟩:=b8 hc';have e4:=low x Qg CN;rw[Qe]at e4;cases e4;refine⟨?_,c,CN,?_⟩
   .rcases fP (env:=X.env) rK with z | z
    .exact .inr z
    .exact .inl z
   .obtain⟨o,ho,hd⟩:=Qf;exact⟨o,hk c o ho,hd⟩
 .obtain⟨v,o,ho,hd⟩:=I.cell x c (low x c h);exact⟨v,o,hk c o ho,hd⟩
 .have NM:p∈X.pn++pins:=by simpa [di]using hp
  obtain⟨h1,h2,h3,h4,h5⟩:=I.pin p NM;exact⟨hk _ _ h1,h2,z_ (q_ h1),eU I h3 h4,h5⟩
 .have:=Tn List.length hN;simp only[c_,r_]at this;simp only[la,r_,Uo,c_];exact this.symm
end
def dC(is:W5)(env:En):Bool:=is.all λi=>match env[i]? with | some .un=>true | _=>false
def jL(t:Ft)(c:Fb)(k:Xm)(env:En):Xo->Xn
 | []=>some []
 | d::ds=>(t d env).bind λe1=>(c e1).bind λb=>(if b=true then k e1 else some []).bind λxs=>(jL t c k env ds).bind λys=>some (xs++ys)
structure lq(is:List Nat)(t:Ft):Prop where
 len:∀{d:D}{env env':En},t d env=some env'->env'.length=env.length
 oth:∀{d:D}{env env':En},t d env=some env'->∀(j:Nat),j∉is->env'[j]?=env[j]?
 noO:∀{d:D}{env env':En},t d env=some env'->∀(j:Nat)(ds:rF),env'[j]?=some (.O ds)->env[j]?=some (.O ds)
theorem wq{env:En}{i:Nat}{d:D}{j:Nat}{ds:rF}(h:(env.set i (.F d))[j]?=some (.O ds)):env[j]?=some (.O ds):=by
 by_cases e:i=j
 .subst e
  by_cases hl:i<env.length
  .rw[v_ hl]at h;cases h
  .rw[K_ (by simpa using S_ hl)]at h;cases h
 .rw[p_ e]at h;exact h
theorem cE(i:Nat):lq [i] (bZ i):=⟨λh=>by cases h;simp,λh j hj=>by cases h;exact p_ (λz=>hj (by simp[z])),λh j ds hj=>by cases h;exact wq hj⟩
theorem gZ:∀{is:W5}{ds:Xo}{env env':En},dX is ds env=some env'->env'.length=env.length/\(∀(j:Nat),j∉is->env'[j]?=env[j]?)/\∀(j:Nat)(es:rF),env'[j]?=some (.O es)->env[j]?=some (.O es)
 | [],[],env,env',h=>by cases h;exact⟨rfl,λ_ _=>rfl,λ_ _ h=>h⟩
 | i::is,d::ds,env,env',h=>by
  obtain⟨h1,h2,h3⟩:=gZ (ds:=ds) h;refine⟨by simpa using h1,λj hj=>?_,λj es hj=>wq (h3 j es hj)⟩;rw[h2 j λz=>hj (l_ _ z)];exact p_ λz=>hj (by simp[z])
 | [],_::_,_,_,h=>by cases h
 | _::_,[],_,_,h=>by cases h
theorem qY(h:oq is d env=some env'):∃ds,dX is ds env=some env':=by
 cases d with
 | tup ds=>exact⟨ds,h⟩
 | _=>cases h
theorem vg(is:W5):lq is (oq is):=
 ⟨λh=>let ⟨_,q⟩:=qY h;(gZ q).1,λh=>let ⟨_,q⟩:=qY h;(gZ q).2.1,λh=>let ⟨_,q⟩:=qY h;(gZ q).2.2⟩
theorem Rl.forget{K:Fg}{B Z H:Hp}{e1 env:En}{σ:L2.St}{is:W5}(R:Rl K B Z H e1 σ)(hl:e1.length=env.length)(ho:∀(j:Nat),j∉is->e1[j]?=env[j]?)(hu:dC is env=true):Rl K B Z H env σ:=by
 have key:∀(j:Nat) s,env[j]?=some s->s=.un\/e1[j]?=some s:=λj s h=>by
  by_cases hj:j∈is
  .have:=M_.mp hu j hj;rw[h]at this;cases s with
   | un=>exact .inl rfl
   | F d=>cases this
   | O ds=>cases this
  .exact .inr ((ho j hj).trans h)
 have Ko:∀(j:Nat) ds,env[j]?=some (.O ds)->e1[j]?=some (.O ds):=λj ds h=>by
  rcases key j _ h with z | z
  .cases z
  .exact z
 refine⟨R.bh,R.zh,hl.symm.trans R.len,λj s h=>?_,λj ds a h=>R.ob j ds a (Ko j ds h),λi j ds es a hne h1 h2=>R.ap i j ds es a hne (Ko i ds h1) (Ko j es h2)⟩;rcases key j s h with rfl | z
 .have hj:j < σ.length:=by rw[<- R.len,hl];exact(i_.mp h).1
  exact⟨σ[j],by simp[hj],trivial⟩
 .exact R.sl j s z
theorem Rl.other{K:Fg}{B Z H:Hp}{env:En}{σ:L2.St}{a:Xh}{o:HO}(R:Rl K B Z H env σ)(hb:B a=none)(hz:Z a=none)(nO:∀(i:Nat) ds,env[i]?≠some (.O ds)):Rl K B Z (upd H a o) env σ:=
 ⟨d7 R.bh hb,d7 R.zh hz,R.len,λj s h=>by
  obtain⟨x,e,q⟩:=R.sl j s h;refine⟨x,e,?_⟩;cases s with
  | un=>trivial
  | F d=>exact q
  | O ds=>exact absurd h (nO j ds),R.ob,R.ap⟩
abbrev Qv:=Xh->Hp->Hp->Xo->Xq->Prop
def QT:Qv:=λ_ _ _ _ _=>True
structure Oz(qv:Qv):Prop where
 nil:∀{a B H},qv a B H [] []
 mon:∀{a B H H' pre vs},(∀b o,b≠a->H b=some o->H' b=some o)->qv a B H pre vs->qv a B H' pre vs
 base:∀{a B B' H pre vs},aH B B'->qv a B' H pre vs->qv a B H pre vs
theorem Ir:Oz QT:=⟨trivial,λ_ _=>trivial,λ_ _=>trivial⟩
abbrev Qa:=Hp->Hp->Hp->Xo->Prop
structure Gq(a:Addr)(qa:Qa):Prop where
 ne:∀{B Z H pre},qa B Z H pre->H a≠none
 mon:∀{B Z H Z' H' pre},Ex Z H Z' H'->qa B Z H pre->qa B Z' H' pre
structure Ac(X:Cx)(qa:Qa)(pins:List (Addr×Obj))(a:Addr)(B Z H:Hp)(env:En)(σ:L2.St)(pre:List D)(s:Shared):Prop where
 I:Inv X pins σ H s
 R:Rl X.K B Z H env σ
 nO:∀(i:Nat) ds,env[i]?≠some (.O ds)
 hb:B a=none
 hz:Z a=none
 ac:qa B Z H pre
abbrev qL(K:Fg)(qv:Qv)(a:Xh):Qa:=λB Z H pre=>∃vs,H a=some (.lst vs)/\ak K Z pre vs/\qv a B H pre vs
theorem GE{K:Fg}{qv:Qv}{a:Xh}(qo:Oz qv):Gq a (qL K qv a):=⟨λ⟨vs,h,_⟩ z=>(by rw[z]at h;cases h),λx ⟨vs,h,r,q⟩=>⟨vs,x.h _ _ h,ak.mono x.z _ r,qo.mon (λb o _ h=>x.h b o h) q⟩⟩
abbrev O'(X:Cx)(qv:Qv)(pins:WS)(a:Xh)(B Z H:Hp)(env:En)(σ:L2.St)(pre:Xo)(s:W_):Prop:=Ac X (qL X.K qv a) pins a B Z H env σ pre s
abbrev BdT:=(W_->Prop)->WR->W_->Prop
def yZ(X:Cx)(qa:Qa)(a:Xh)(Bd:BdT)(k:Xm):Prop:=∀(pins:WS)(s:W_)(σ:L2.St)(H B Z:Hp)(env:En)(pre xs:Xo)(P:W_->Prop)(E:WR),
 Ac X qa pins a B Z H env σ pre s->k env=some xs->pre.length+xs.length<=16000000->(∀s' σ' H' Z',Ac X qa pins a B Z' H' env σ' (pre++xs) s'->Ex Z B Z' H'->P s')->Bd P E s
abbrev Act(X:Cx)(qv:Qv)(a:Xh)(Bd:BdT)(k:Xm):Prop:=yZ X (qL X.K qv a) a Bd k
def OQ(X:Cx)(em:Sem Unit):BdT:=λP E s=>wpAny (model X.prog X.w) X.A em (λ_ s'=>P s') E s
structure CO(P:Program)(w:World)(ce:Expr):Prop where
 lp:∀{A:Around}{d:Nat}{it acc:Value}{env:Env}{Q:Fin->Shared->Prop}{E:Value->Shared->Prop}{s:Shared},wpAny (model P w) A ((compTurn ce d it acc env).onRaise (λx=>do noteFrame x env;theTreesLotGoes x)) Q E s->wpAny (model P w) (A.under (.compLoop ce d it acc env)) ((model P w).den (.compLoop ce d it acc env)) Q E s
 st:∀{A:Around}{d:Nat}{it acc:Value}{env:Env}{Q:Fin->Shared->Prop}{E:Value->Shared->Prop}{s:Shared},wpAny (model P w) A ((compStart ce d it acc env).onRaise (λx=>do noteFrame x env;standAt theWindowsPlace)) Q E s->wpAny (model P w) (A.under (.compStart ce d it acc env)) ((model P w).den (.compStart ce d it acc env)) Q E s
theorem O3{P:Xa}{w:Xe}{elt:Xi}{gens:WX}{scope:Xg}{pos:Pos}:CO P w (.ListComp elt gens scope pos):=⟨λh=>h,λh=>h⟩
def Tw(X:Cx)(ce:Xi)(d:Nat)(it:Xh)(acc:W9)(tg:Xi)(ifs:W3)(Bd:BdT):Prop:=∀(s:W_)(Q:Fin->W_->Prop)(E:WR),
   wpAny (model X.prog X.w) X.A (pyNext (.ref it)) (λr s1=>match r with
    | none=>Q (.done .next) s1
    | some v=>wpAny (model X.prog X.w) X.A (letOwnedTupleGo tg (.ref it) v) (λ_ s2=>wpAny (model X.prog X.w) X.A (assign tg X.env v) (λ_ s3=>
      wpAny (model X.prog X.w) X.A (forIn ifs true λc r=>if r=true then do let ok <- isTrue c X.env (eval c X.env);pure (ForInStep.yield ok)else pure (ForInStep.yield r)) (λok s4=>
       if ok=true then Bd (λs5=>Q (.again (.compLoop ce d (.ref it) acc X.env)) s5) E s4 else Q (.again (.compLoop ce d (.ref it) acc X.env)) s4) E s3) E s2) E s1) E s->
   wpAny (model X.prog X.w) X.A (compTurn ce d (.ref it) acc X.env) Q E s
section
variable {X:Cx}{a:Xh}{elt:Xi}{fe:Fe}
def bj(f:Fe):Xm:=λenv=>(f env).bind λd=>some [d]
abbrev HM(X:Cx)(a:Xh)(elt:Xi):BdT:=OQ X (do let _ <- call (.builtin "list.append") [.ref a,<- eval elt X.env])
theorem AF(hx:∀e s,¬X.xe e s)(h:PD X .cl elt fe):Act X QT a (HM X a elt) (bj fe):=by
 intro pins s σ H B Z env pre xs P E A e hl hP;refine cN λ_ kq=>?_;obtain⟨d,e1,e2⟩:=b_.mp e;cases e2;obtain⟨vs,hv,rr,_⟩:=A.ac;refine kq (a_ (SG (h pins s σ H _ A.I ⟨env,B,Z,d,A.R,e1,λv Z1 H1 x1 g1=>(show ∃Z1,Ex Z H Z1 H1/\Rep X.K Z1 d v from⟨Z1,x1,g1⟩)⟩) (λu s1 aC=>?_) λe s z=>(hx e s z).elim))
 all_goals clear kq
 obtain⟨v,H1,I1,r1,Z1,x1,g1⟩:=aC;have hne:H a≠none:=by rw[hv];simp
 refine a_ (SG (pL pins s1 σ H1 (.ref a) [v] (.ref a) [u] (λy H2=>H2=upd H1 a (.lst (vs++[v]))) I1 rfl (.cons r1 .nil) ⟨a,vs,v,rfl,rfl,x1.h _ _ hv,by rw[<- rr.len,Sz];simp at hl;lia,rfl⟩) (λw s2 aC=>?_) λe s z=>(hx e s z).elim);obtain⟨y,H2,I2,r2,q⟩:=aC;subst q;have hz1:=x1.fr a hne A.hz;have R1:=A.R.ext x1;refine d_ (hP s2 σ _ Z1 ⟨I2,R1.other A.hb hz1 A.nO,A.nO,A.hb,hz1,vs++[v],ai,(ak.mono x1.z pre rr).app (ak.one g1),trivial⟩ ?_);exact⟨d7 R1.bh A.hb,x1.z,d7 R1.zh hz1,λb hb e=>x1.fr b (nJ A.R.bh hb) e,x1.nf⟩
def Df(X:Cx)(ifs:W3)(c:Fb):Prop:=∀(pins:WS)(s:W_)(σ:L2.St)(H:Hp)(Q:Bool->Hp->Prop)(E:WR),Inv X pins σ H s->TB X.K c σ H Q->
 wpAny (model X.prog X.w) X.A (forIn ifs true λc r=>if r=true then do let ok <- isTrue c X.env (eval c X.env);pure (ForInStep.yield ok)else pure (ForInStep.yield r)) (TP X pins σ Q) E s
theorem cF:Df X [] Xw:=λpins s σ H Q E I aC=>by
 obtain⟨env,B,Z,b,R,e,k⟩:=aC;cases e;exact wpAny_tests_nil ⟨H,I,k Z H (Ex.refl R.zh)⟩
theorem uz(hx:∀e s,¬X.xe e s)(h:PB X c f):Df X [c] f:=λpins s σ H Q E I q=>
 wpAny_tests_one (SG (h pins s σ H Q I q) (λ_ _ z=>z) λe s z=>(hx e s z).elim)
theorem jQ{ce:Xi}{qa:Qa}(co:CO X.prog X.w ce)(qo:Gq a qa)
  (hx:∀e s,¬X.xe e s) (bp:X.calm=true) (T:Turn X.prog X.w X.K tg J fp it tn) (hg:GD X tg t) (ht:lq is t) (zF:Df X ifs c) (nL:yZ X qa a Bd k)
  (CP:Tw X ce dd it acc tg ifs Bd) (A:Ac X qa pins a B Z H env σ pre s) (Du:∀b∈fp,bM X pins H b) (htn:tn 0 s.heap) (hw:Walk X.K Z ds J) (hu:dC is env=true)
  (CQ:jL t c k env ds=some xs) (hl:pre.length+xs.length<=16000000) (hR:∀s' σ' H' Z',Ac X qa pins a B Z' H' env σ' (pre++xs) s'->Ex Z B Z' H'->(∀b∈fp,H' b=none)->R (.ok .next) s') :
  codeAny (model X.prog X.w) X.A (.compLoop ce dd (.ref it) acc X.env) R s:=by
 have vS:∀{H':Hp},(∀b∈fp,H' b=none)->∀b∈fp,bM X pins H' b:=λhn b hb=>⟨hn b hb,(Du b hb).2⟩;refine codeAny_loop rfl (λn s'=>∃i σ' H' Z' pre' rest,Ac X qa pins a B Z' H' env σ' pre' s'/\tn i s'.heap/\(∀b∈fp,H' b=none)/\n=ds.length-i/\i<=ds.length/\Ex Z B Z' H'/\jL t c k env (ds.drop i)=some rest/\pre'++rest=pre++xs)
  (λn s1 hI=>?_) ds.length ⟨0,σ,H,Z,pre,xs,A,htn,λb hb=>(Du b hb).1,by simp,T_ _,⟨A.R.bh,aH.refl _,A.R.zh,λ_ _ h=>h,λ_ _ _ h=>h⟩,by simpa using CQ,rfl⟩
 obtain⟨i,σ1,H1,Z1,Gs,rest,A1,Rk,Qh,rfl,hi,x1,zG,oB⟩:=hI;refine co.lp (wpAny_noted (CP s1 _ _ ?_));obtain⟨w1,w2⟩:=hw Z1 H1 x1.z A1.R.zh i
 by_cases hlt:i<ds.length
 .obtain⟨go,yl⟩:=w1 hlt;refine aZ (T.item X rfl rfl rfl bp i pins s1 σ1 H1 _ A1.I (vS Qh) Rk go) λr s2 aC=>?_;obtain⟨u,hr,h2⟩:=aC;subst hr;refine aZ h2 λ_ s3 aC=>?_;refine cN λ_ kq=>?_;obtain⟨x,H3,I3,r3,y3,Qi,Ou⟩:=aC;obtain⟨Z3,d,x3,hd,rep3⟩:=yl x H3 y3;have Qb:ds.drop i=d::ds.drop (i+1):=by
   obtain⟨h1,h2⟩:=i_.mp hd;rw[Uq h1,h2]
  rw[Qb]at zG;unfold jL at zG;obtain⟨e1,g1,zG⟩:=b_.mp zG;obtain⟨b,g2,zG⟩:=b_.mp zG;obtain⟨ys,g3,zG⟩:=b_.mp zG;obtain⟨zs,g4,zG⟩:=b_.mp zG;cases zG;have I3':=I3.pinned (vS Ou) (T.obj _ _ Qi);have hne:=qo.ne A1.ac;have R3:=A1.R.ext x3;refine kq (SG (hg _ s3 σ1 H3 x u (λσ4 H4=>∃Z4,Ex Z3 H3 Z4 H4/\Rl X.K B Z4 H4 e1 σ4) I3' r3 ⟨env,B,Z3,d,e1,R3,rep3,g1,λσ4 Z4 H4 x4 R4=>⟨Z4,x4,R4⟩⟩) (λ_ s4 aC=>?_) λe s z=>(hx e s z).elim)
  all_goals clear kq
  obtain⟨σ4,H4,I4,Z4,x4,R4⟩:=aC;have x34:=x3.trans x4;have Hm:∀(s7:W_)(σ7:L2.St)(H7 Z7:Hp)(Gu:Xo),Ac X qa (pins++kj fp s3.heap) a B Z7 H7 e1 σ7 Gu s7->Ex Z B Z7 H7->Gu++zs=pre++xs->
    ∃m,m<ds.length-i/\∃i σ' H' Z' pre' rest,Ac X qa pins a B Z' H' env σ' pre' s7/\tn i s7.heap/\(∀b∈fp,H' b=none)/\m=ds.length-i/\i<=ds.length/\Ex Z B Z' H'/\jL t c k env (ds.drop i)=some rest/\pre'++rest=pre++xs:=by
   intro s7 σ7 H7 Z7 Gu A7 x7 h7;have NN:∀b∈fp,∀o,s3.heap.get? b=some o->s7.heap.get? b=some o/\H7 b=none:=λb hb o e=>
    let q:=A7.I.pin (b,o) (J_ _ (J_ _ (iU hb e)))
    ⟨q.1,q.2.1⟩
   refine⟨ds.length-(i+1),by lia,i+1,σ7,H7,Z7,Gu,zs,⟨A7.I.unpinned,A7.R.forget (ht.len g1) (ht.oth g1) hu,A1.nO,A7.hb,A7.hz,A7.ac⟩,T.keep _ _ _ Qi λb hb o e=>(NN b hb o e).1,λb hb=>?_,rfl,hlt,x7,g4,h7⟩;obtain⟨o,e,_⟩:=T.obj _ _ Qi b hb;exact(NN b hb o e).2
  refine aZ (zF _ s4 σ4 H4 (λb' H5=>b'=b/\∃Z5,Ex Z4 H4 Z5 H5) _ I4 ⟨e1,B,Z4,b,R4,g2,λZ5 H5 x5=>⟨rfl,Z5,x5⟩⟩) λok s5 aC=>?_;obtain⟨H5,I5,hok,Z5,x5⟩:=aC;subst hok;have hne4:H4 a≠none:=nJ x34.h hne;have hz5:=x5.fr a hne4 (x34.fr a hne A1.hz);have x35:=x34.trans x5;have A5:Ac X qa (pins++kj fp s3.heap) a B Z5 H5 e1 σ4 Gs s5:=⟨I5,R4.ext x5,λj es h=>A1.nO j es (ht.noO g1 j es h),A1.hb,hz5,qo.mon x35 A1.ac⟩;have xB:Ex Z B Z5 H5:=x1.transB (x35.part A1.R.bh);cases ok with
  | false=>
   rw[k_ (by simp)]at g3;cases g3;rw[k_ (by simp)];exact⟨rfl,Hm s5 σ4 H5 Z5 Gs A5 xB (by simpa using oB)⟩
  | true=>
   rw[j_ rfl]at g3;rw[j_ rfl];have hlen:=Tn List.length oB;simp only[r_]at hlen;exact nL _ s5 σ4 H5 B Z5 e1 Gs ys _ _ A5 g3 (by lia) λs7 σ7 H7 Z7 A7 x7=>⟨rfl,Hm s7 σ7 H7 Z7 (Gs++ys) A7 (xB.transB x7) (by rw[T1];exact oB)⟩
 .have hii:i=ds.length:=by lia
  subst hii;rw[List.drop_eq_nil_of_le (by lia)]at zG;cases zG;rw[SC]at oB;refine aZ (T.done X rfl rfl rfl bp _ pins s1 σ1 H1 _ A1.I (vS Qh) Rk (w2 (h_ _))) λr s2 aC=>?_;obtain⟨hr,I2⟩:=aC;subst hr;exact hR s2 σ1 H1 Z1 ⟨I2,A1.R,A1.nO,A1.hb,A1.hz,by rw[<- oB];exact A1.ac⟩ x1 Qh
end
section
variable {P:Xa}{w:Xe}{A:Xb}{elt:Xi}{gens:WX}{scope:Xg}{pos:Pos}{d:Nat}{tg iter:Xi}{ifs:W3}{it acc:W9}{env:Env}{R:Result->W_->Prop}{s:W_}
theorem q9{ce:Xi}(co:CO P w ce)(hc:(clausesOf ce)[d]?=some ⟨tg,iter,ifs,0⟩)(h0:codeAny (model P w) A (.compLoop ce d it acc env) R s)
    (h1:wpAny (model P w) A (pyIter it) (λQj s'=>codeAny (model P w) A (.compLoop ce d Qj acc env) R s') (notedBy (model P w) A env λx s'=>R (.error x) s') s) :
    codeAny (model P w) A (.compStart ce d it acc env) R s:=by
  refine codeAny_of_tree (co.st (wpAny_notedAt ?_));unfold compStart;rw[hc];show wpAny (model P w) A (ask >>= _) _ _ s;refine a_ (Tt (wpAny_ite ?_))<;>skip
  split
  . first
      | exact a_ (d_ (d_ ⟨rfl,h0⟩))
      | exact d_ ⟨rfl,h0⟩
  . refine a_ (Vn ?_)
    first
      | exact a_ (To (a_ (SG h1 (λQj s' q=>d_ ⟨rfl,q⟩) λ_ _ x=>x)))
      | (show wpAny (model P w) A (standAt iter.pos >>= _) _ _ s
         exact a_ (To (a_ (SG h1 (λQj s' q=>d_ ⟨rfl,q⟩) λ_ _ x=>x))))
end
section
variable {X:Cx}{a:Xh}{elt:Xi}{gens:WX}{scope:Xg}{pos:Pos}{d:Nat}{tg iter ur bK:Xi}{ifs kG:W3}{it:Xh}
theorem xF{ce:Xi}{em:Sem Unit}(ht:compTurn ce d (.ref it) (.ref a) X.env=wB ce tg iter ifs d (.ref it) (.ref a) X.env em):Tw X ce d it (.ref a) tg ifs (OQ X em):=by
 intro s Q E hw;rw[ht];unfold wB;refine a_ (To (a_ (aZ hw λr s1 q1=>?_)));cases r with
 | none=>exact d_ q1
 | some v=>
  refine a_ (aZ q1 λ_ s2 q2=>a_ (aZ q2 λ_ s3 q3=>a_ (aZ q3 λok s4 q4=>?_)));cases ok with
  | false=>exact d_ (show Q (.again (.compLoop ce d (.ref it) (.ref a) X.env)) s4 from by rw[k_ (by simp)]at q4;exact q4)
  | true=>
   rw[j_ rfl]at q4;exact a_ (aZ q4 λ_ s5 q5=>d_ q5)
def BG(X:Cx)(a:Xh)(ce:Xi)(d:Nat)(bK:Xi):BdT:=λP E s=>
 wpAny (model X.prog X.w) X.A (eval bK X.env) (λx s5=>wpAny (model X.prog X.w) X.A (pyIter x) (λi' s6=>
  codeAny (model X.prog X.w) X.A (.compStart ce (d+1) i' (.ref a) X.env) (λr s7=>match r with | .ok _=>P s7 | .error e=>cameBackBy (model X.prog X.w) X.A X.env E e s7) s6) E s5) E s
theorem xw{ce:Xi}(ht:compTurn ce d (.ref it) (.ref a) X.env=xn ce tg iter bK ifs d (.ref it) (.ref a) X.env)(hs:∀x,foldedSetIterable bK X.env x=pure x):Tw X ce d it (.ref a) tg ifs (BG X a ce d bK):=by
 intro s Q E hw;rw[ht];unfold xn;refine a_ (To (a_ (aZ hw λr s1 q1=>?_)));cases r with
 | none=>exact d_ q1
 | some v=>
  refine a_ (aZ q1 λ_ s2 q2=>a_ (aZ q2 λ_ s3 q3=>a_ (aZ q3 λok s4 q4=>?_)));cases ok with
  | false=>exact d_ (show Q (.again (.compLoop ce d (.ref it) (.ref a) X.env)) s4 from by rw[k_ (by simp)]at q4;exact q4)
  | true=>
   rw[j_ rfl]at q4;refine a_ (aZ q4 λx s5 q5=>a_ (To (a_ (VV (hs x) (a_ (Q_ (aZ q5 λi' s6 q6=>?_)))))));refine a_ (wpAny_runOwn (U7 q6 λr s7 q7=>?_));cases r with
   | ok f=>exact d_ q7
   | error e=>exact q7
def fq(fi:Fi)(is:W5)(t:Ft)(c:Fb)(k:Xm):Xm:=λenv=>(fi env).bind λds=>if dC is env=true then jL t c k env ds else none
theorem tR{ce:Xi}{qa:Qa}(co:CO X.prog X.w ce)(qo:Gq a qa)(hx:∀e s,¬X.xe e s)(bp:X.calm=true)(h2:(clausesOf ce)[d+1]?=some ⟨ur,bK,kG,0⟩)
  (hi:ID X ur bK fi) (hg:GD X ur t) (ht:lq is t) (zF:Df X kG c) (nL:yZ X qa a Bd k)
  (CP:∀it,Tw X ce (d+1) it (.ref a) ur kG Bd) :
  yZ X qa a (BG X a ce d bK) (fq fi is t c k):=by
 intro pins s σ H B Z env pre xs P E Aq e hl hP;obtain⟨ds,e1,e2⟩:=b_.mp e;have hu:dC is env=true:=by
  by_cases hu:dC is env=true
  .exact hu
  .rw[k_ hu]at e2;cases e2
 rw[j_ hu]at e2;refine SG (hi pins s σ H (λJ H1=>∃Z1,Ex Z H Z1 H1/\Walk X.K Z1 ds J) Aq.I ⟨env,B,Z,ds,Aq.R,e1,λJ Z1 H1 x1 wk=>⟨Z1,x1,wk⟩⟩) (λx s5 q5=>?_) λe s z=>(hx e s z).elim;refine SG q5 (λi' s6 aC=>?_) λe s z=>(hx e s z).elim;obtain⟨it,fp,tn,J,H6,hit,I6,T,Rm,fp6,Z6,x6,wk⟩:=aC;subst hit;have A6:Ac X qa pins a B Z6 H6 env σ pre s6:=⟨I6,Aq.R.ext x6,Aq.nO,Aq.hb,x6.fr a (qo.ne Aq.ac) Aq.hz,qo.mon x6 Aq.ac⟩;have go:=jQ co qo (a:=a) hx bp T hg ht zF nL (CP it) A6 fp6 Rm wk hu e2 hl
  (R:=λr s7=>match r with | .ok _=>P s7 | .error e=>cameBackBy (model X.prog X.w) X.A X.env E e s7)
  λs' σ' H' Z' A' x' _=>hP s' σ' H' Z' A' ((x6.part Aq.R.bh).transB x')
 exact q9 co h2 go (T.self _ 0 _ _ _ Rm go)
end
structure NO(X:Cx)(qa:Qa)(a:Addr)(ce:Expr)(d:Nat)(tg:Expr)(ifs:List Expr)(t:Ft)(c:Fb)(k:En->Option (List D)):Prop where
 g:GD X tg t
 ts:Df X ifs c
 ex:∃Bd,yZ X qa a Bd k/\∀it,Tw X ce d it (.ref a) tg ifs Bd
abbrev IB(X:Cx)(qv:Qv)(a:Xh)(elt:Xi)(gens:WX)(scope:Xg)(pos:Pos)(d:Nat)(tg:Xi)(ifs:W3)(t:Ft)(c:Fb)(k:Xm):Prop:=NO X (qL X.K qv a) a (.ListComp elt gens scope pos) d tg ifs t c k
section
variable {X:Cx}{a:Xh}{elt:Xi}{gens:WX}{scope:Xg}{pos:Pos}{d:Nat}{tg iter ur bK:Xi}{ifs kG:W3}{t t':Ft}{c c':Fb}{k:Xm}{fe:Fe}{fi:Fi}{is:W5}{qv:Qv}
theorem bF(hx:∀e s,¬X.xe e s)(hg:GD X tg t)(zF:Df X ifs c)(he:PD X .cl elt fe)(h:gens[d]?=some ⟨tg,iter,ifs,0⟩:=by rfl)(h2:gens[d+1]?=none:=by rfl):IB X QT a elt gens scope pos d tg ifs t c (bj fe):=
 ⟨hg,zF,_,AF hx he,λ_=>xF (zz h h2)⟩
theorem sN(hx:∀e s,¬X.xe e s)(bp:X.calm=true)(hg:GD X tg t)(zF:Df X ifs c)(hi:ID X ur bK fi)(ht:lq is t')(b:IB X QT a elt gens scope pos (d+1) ur kG t' c' k)
  (h:gens[d]?=some ⟨tg,iter,ifs,0⟩:=by rfl) (h2:gens[d+1]?=some ⟨ur,bK,kG,0⟩:=by rfl) (hs:∀x,foldedSetIterable bK X.env x=pure x:=by intro _;rfl):IB X QT a elt gens scope pos d tg ifs t c (fq fi is t' c' k):=by
 obtain⟨Bd,nL,CP⟩:=b.ex;exact⟨hg,zF,_,tR O3 (GE Ir) hx bp h2 hi b.g ht b.ts nL CP,λ_=>xw (zx h h2) hs⟩
end
def cq(fi:Fi)(is:W5)(t:Ft)(c:Fb)(k:Xm)(n:Nat)(caps:W5):Fe:=λenv=>(fi env).bind λds=>if dC is (cK n caps env)=true then(jL t c k (cK n caps env) ds).bind λxs=>if xs.length<=16000000 then some (.lst xs)else none else none
theorem l9(h:cq fi is t c k n caps env=some d) :
  ∃ds xs,fi env=some ds/\dC is (cK n caps env)=true/\jL t c k (cK n caps env) ds=some xs/\xs.length<=16000000/\d=.lst xs:=by
 obtain⟨ds,e1,e2⟩:=b_.mp h
 by_cases hu:dC is (cK n caps env)=true
 .rw[j_ hu]at e2;refine cN λ_ kq=>?_;obtain⟨xs,e3,e4⟩:=b_.mp e2;obtain⟨e5,e6⟩:=kX e4;exact kq (⟨ds,xs,e1,hu,e3,e5,e6.symm⟩)
 .rw[k_ hu]at e2;cases e2
theorem jh(n:Nat)(caps:W5)(env:En):∀(i:Nat) ds,(cK n caps env)[i]?≠some (.O ds):=λi ds h=>by
 unfold cK at h
 by_cases hi:i<n
 .rw[I_ (by simpa using hi),S0,j_ hi]at h;cases h
 .rw[G_ (by simpa using hi),m_]at h;cases q:caps[i-(List.replicate n Slot.un).length]? with
  | none=>rw[q]at h;cases h
  | some j=>
   rw[q]at h;simp only[Option.map_some,Option.some.injEq]at h
   split at h<;>cases h
theorem Rl.cap{K:Fg}{B Z H H':Hp}{env:En}{σ:L2.St}(R:Rl K B Z H env σ)(n:Nat)(caps:W5)(s1:aH H H')(s2:aH Z H'):Rl K H Z H' (cK n caps env) (la n caps σ):=by
 refine⟨s1,s2,by simp[cK,la],λi s h=>?_,λi ds a h=>absurd h (jh n caps env i ds),λi j ds es a _ h=>absurd h (jh n caps env i ds)⟩;unfold cK at h;unfold la
 by_cases hi:i<n
 .rw[I_ (by simpa using hi),S0,j_ hi]at h ⊢;cases h;exact⟨none,rfl,trivial⟩
 .rw[G_ (by simpa using hi),m_]at h ⊢;simp only[Uo]at h ⊢;cases q:caps[i-n]? with
  | none=>rw[q]at h;cases h
  | some j=>
   rw[q]at h;simp only[Option.map_some,Option.some.injEq]at h ⊢;refine⟨_,rfl,?_⟩
   split at h
   .rename_i dd hj;subst h;obtain⟨x,h1,v,h2,r⟩:=R.sl j _ hj;rw[h1,h2];exact⟨v,rfl,r⟩
   .subst h;trivial
section
variable {X:Cx}{elt:Xi}{rest:WX}{scope:Xg}{pos:Pos}{tg iter:Xi}{ifs:W3}{t:Ft}{c:Fb}{k:Xm}{fi:Fi}{is caps:W5}{cl:WV}{Nc own:W1}
theorem oV{qv:Qv}(qo:Oz qv)(ht:lq is t)(bp:X.calm=true)(gU:fM (λx=>X.env.cells.lookup x) scope.names []=some cl)(bo:scope.kind=.function)(hnc:∀y∈scope.names,y.2≠.cell)
  (hN:Nc.map some=own.map some++caps.map (λj=>X.N[j]?)) (eQ:ie X scope caps=true)
  (hb:∀C s H ex pn a,IB (di X scope cl Nc C s H ex pn) qv a elt (⟨tg,iter,ifs,0⟩::rest) scope pos 0 tg ifs t c k)
  {pins:WS} {σ:L2.St} {s2:W_} {H2 B Z2:Hp} {env:En} {ds xs:Xo} {E:WR} {RR:W9->Xh->Result->W_->Prop} {it:Xh} {fp:W2} {tn:Nat->Xd->Prop} {J:It}
  (I2:Inv X pins σ H2 s2) (R2:Rl X.K B Z2 H2 env σ) (T:Turn X.prog X.w X.K tg J fp it tn) (CS:tn 0 s2.heap) (rG:∀b∈fp,bM X pins H2 b) (wk:Walk X.K Z2 ds J) (hu:dC is (cK own.length caps env)=true)
  (CQ:jL t c k (cK own.length caps env) ds=some xs) (hl:xs.length<=16000000)
  (Qk:∀a C H' Z' s' vs m,Inv X pins σ H' s'->s'.heap.Ns C m->bM X pins H' C->Ex Z2 H2 Z' H'->H2 a=none->H' a=some (.lst vs)->Z' a=none->ak X.K Z' xs vs->qv a H2 H' xs vs->RR (.ref a) C (.ok .next) s') :
  wpAny (model X.prog X.w) X.A (newList []) (λacc s₃=>wpAny (model X.prog X.w) X.A (newFunctionEnv scope X.env.globals cl [] X.env.qual none .none (some X.env)) (λKp s₄=>
   codeAny (model X.prog X.w) X.A (.compStart (.ListComp elt (⟨tg,iter,ifs,0⟩::rest) scope pos) 0 (.ref it) acc {Kp with scope:=relabel scope X.env}) (RR acc Kp.locals) s₄) E s₃) E s2:=by
 refine S5 ?_ (by size_fits);have hf:H2 s2.sz=none:=I2.hok.fresh (h_ _);have I3:Inv X pins σ (upd H2 s2.sz (.lst [])) {s2 with heap:=s2.heap.push {cls:=.type "list",dict:=none,data:=.seq ([]:WY).toArray}}:=
  I2.laid (λb u e=>e_ _ e) (h_ _) (show aV X.prog X.w _ _ _ (.lst [])from⟨by simp,[],0,.nil,n_ _ rfl⟩)
 generalize hs3:({s2 with heap:=s2.heap.push {cls:=.type "list",dict:=none,data:=.seq ([]:WY).toArray}}:W_)=s3 at I3 ⊢;have NP:∀b o,s2.heap.get? b=some o->s3.heap.get? b=some o:=λb o e=>by rw[<- hs3];exact e_ _ e
 have NQ:s3.sz=s2.sz+1:=by rw[<- hs3];exact Vy _ _
 have hfl:∀b∈fp,b<s2.sz:=λb hb=>let ⟨o,e,_⟩:=T.obj _ _ CS b hb;q_ e;have NR:∀b∈fp,bM X pins (upd H2 s2.sz (.lst [])) b:=λb hb=>⟨by rw[ar (z_ (hfl b hb))];exact(rG b hb).1,(rG b hb).2⟩;refine VW hnc (by intro y hy;simp at hy) (λh1 zC hsb=>?_) bo;have NS:∀b o,s3.heap.get? b=some o->h1.get? b=some o:=λb o e=>hsb.extBut b o (z_ (q_ e)) (e_ _ e);have I4:=r9 (tk:=s3.toks+([]:List (Str×W9)).length) I3 gU bo hnc NR (λb hb=>by rw[NQ];exact T3 (hfl b hb)) hN eQ zC NS;generalize hXc:di X scope cl Nc s3.sz s3 (upd H2 s2.sz (.lst [])) fp (X.pn++pins)=Xc at I4;have bb:IB Xc qv s2.sz elt (⟨tg,iter,ifs,0⟩::rest) scope pos 0 tg ifs t c k:=by rw[<- hXc];exact hb _ _ _ _ _ _
 obtain⟨Bd,nL,CP⟩:=bb.ex;have eP:Xc.prog=X.prog:=by rw[<- hXc];rfl
 have eW:Xc.w=X.w:=by rw[<- hXc];rfl
 have eK:Xc.K=X.K:=by rw[<- hXc];rfl
 have eA:Xc.A=X.A:=by rw[<- hXc];rfl
 have eE:Xc.env=compEnvC scope cl s3.sz X.env:=by rw[<- hXc];rfl
 have hx:∀e s,¬Xc.xe e s:=λe s z=>by rw[<- hXc]at z;exact z
 have Dq:Xc.calm=true:=by rw[<- hXc];exact bp
 have T':Turn Xc.prog Xc.w Xc.K tg J fp it tn:=by rw[eP,eW,eK];exact T
 have A4:O' Xc qv [] s2.sz H2 Z2 (upd H2 s2.sz (.lst [])) (cK own.length caps env) (la own.length caps σ) [] {s3 with heap:=h1,toks:=s3.toks+([]:List (Str×W9)).length}:=
  ⟨I4,by rw[eK];exact R2.cap _ _ (b9 hf) (d7 R2.zh (R2.zh.free hf)),jh _ _ _,hf,R2.zh.free hf,[],ai,rfl,qo.nil⟩
 have Ql:∀b∈fp,bM Xc [] (upd H2 s2.sz (.lst [])) b:=λb hb=>by
  obtain⟨f1,f2,f3,f4,f5,f6⟩:=NR b hb;have mem:=fw gU (λp hp=>by cases hp);rw[<- hXc];refine⟨f1,?_,eU I3 f2 f3,.inl hb,λx c h=>f5 x c (mem (x,c) (SL h)),λp hp=>f6 p (by simpa [di]using hp)⟩;show b≠s3.sz;rw[NQ];exact z_ (T3 (hfl b hb))
 have NT:tn 0 ({s3 with heap:=h1,toks:=s3.toks+([]:List (Str×W9)).length}:W_).heap:=T.keep _ _ _ CS λb _ o e=>NS b o (NP b o e);have go:=jQ O3 (GE qo) hx Dq T' bb.g ht bb.ts nL (CP it) A4 Ql NT (by rw[eK];exact wk) hu CQ (by simpa using hl) λs' σ' H' Z' A' x' fr'=>by
  obtain⟨vs,hv,rr,qq⟩:=A'.ac;have base:=A'.I.base;obtain⟨mC,NU,_⟩:=A'.I.loc;have hok:=A'.I.hok;have hos:=A'.I.os;have free:=A'.I.free;rw[eE]at NU free;rw[eP,eW]at hok;rw[eK]at rr;have u1:Un (k7 X.stack) fp H2 (upd H2 s2.sz (.lst [])) s2.heap s3.heap:=Un.laid NP (h_ _) hf;have u2:Un (k7 X.stack) fp (upd H2 s2.sz (.lst [])) H' s3.heap s'.heap:=by rw[<- hXc]at base;exact base
  have Kq:s'.os=s2.os:=by rw[<- hXc]at hos;exact hos.trans (by rw[<- hs3];rfl)
  have I':Inv X pins σ H' s':=I2.call' Kq (u1.trans u2) hok A'.I.bare λb hb=>⟨(rG b hb).2.2.2.1,(rG b hb).2.1,(rG b hb).2.2.2.2.1,(rG b hb).2.2.2.2.2⟩;exact Qk s2.sz s3.sz H' Z' s' vs mC I' NU (I3.fpOk (h_ _) free) x' hf hv A'.hz (by simpa using rr) (by simpa using qq)
 rw[eP,eW,eA,eE]at go;exact q9 O3 rfl go (T.self _ 0 _ _ _ NT go)
theorem gx(ht:lq is t)(bp:X.calm=true)(hi:ID X tg iter fi)(gU:fM (λx=>X.env.cells.lookup x) scope.names []=some cl)(hN:Nc.map some=own.map some++caps.map (λj=>X.N[j]?))
  (hb:∀C s H ex pn a,IB (di X scope cl Nc C s H ex pn) QT a elt (⟨tg,iter,ifs,0⟩::rest) scope pos 0 tg ifs t c k)
  (eQ:ie X scope caps=true:=by rfl) (bo:scope.kind=.function:=by rfl) (hnc:∀y∈scope.names,y.2≠.cell:=by decide +kernel) (Kr:∀x∈scope.names,x.2=.local->scope.names.lookup x.1=some .local:=by decide +kernel)
  (hs:∀x,foldedSetIterable iter X.env x=pure x:=by intro _;rfl) :
  PD X .nw (.ListComp elt (⟨tg,iter,ifs,0⟩::rest) scope pos) (cq fi is t c k own.length caps):=by
 intro pins s σ H Q I hT;obtain⟨env,B,Z,d,R,e,kk⟩:=hT;obtain⟨ds,xs,e1,hu,CQ,hl,rfl⟩:=l9 e;rw[eval_ListComp];refine Vf rfl hs (fN gU) bo Kr ?_;refine aZ (hi pins s σ H (λJ H1=>∃Z1,Ex Z H Z1 H1/\Walk X.K Z1 ds J) I ⟨env,B,Z,ds,R,e1,λJ Z1 H1 x1 wk=>⟨Z1,x1,wk⟩⟩) λx s1 q1=>aZ q1 λNy s2 aC=>?_;obtain⟨it,fp,tn,J,H2,hit,I2,T,CS,rG,Z2,x2,wk⟩:=aC;subst hit;refine oV Ir ht bp gU bo hnc hN eQ hb I2 (R.ext x2) T CS rG wk hu CQ hl λa C H' Z' s' vs m I' ns fpC x' hf hv hz rr _=>?_;refine⟨m,ns,λh' hs'=>?_⟩;obtain⟨f1,f2,f3,f4,f5,f6⟩:=fpC;refine⟨.ref a,H',I'.turned (λb o hb e=>hs'.extBut b o hb e) f1 f2.symm.symm f4 f5 f6,rfl,kk _ Z' H' (x2.trans x') ⟨a,vs,xs,rfl,rfl,x2.h.free hf,hv,hz,rr⟩⟩
end
section
variable {P:Xa}{w:Xe}{A:Xb}{E:WR}
theorem Me(hne:l≠it):∀(n i:Nat)(s:W_)(Q:WY->W_->Prop),s.heap.IsListIter it l i->s.heap.IsList l items->i+n<=items.size->
  (∀h',h'.IsListIter it l (i+n)->Heap.SameBut it s.heap h'->Q ((items.toList.drop i).take n) {s with heap:=h'})->wpAny (model P w) A (draw (.ref it) n) Q E s:=by
 intro n
 induction n with
 | zero=>intro i s Q hit hl hle hQ;exact d_ (show Q [] s from by simpa using hQ s.heap (by simpa using hit) (Heap.SameBut.refl ..))
 | succ n ih=>
  intro i s Q hit hl hle hQ;have hlt:i<items.size:=by lia
  refine(show wpAny (model P w) A (pyNext (.ref it) >>= _) Q E s from a_ (UK hit hl (x:=items[i]) (by simp[hlt]) λh1 Ks hs1=>?_));refine a_ (Q_ (ih (i+1) _ _ Ks (hl.extBut hs1.extBut hne) (by lia) λh2 Kt Hk=>d_ ?_));have q:=hQ h2 (by rw[show i+(n+1)=i+1+n by lia];exact Kt) (hs1.trans Hk);have hd:items.toList.drop i=items[i]::items.toList.drop (i+1):=by simp[Uq,hlt]
  rw[hd,List.take_succ_cons]at q;exact q
theorem DS(hh:A.handled=none)(hl:s.heap.IsList l items)(hQ:∀h',Heap.ExtBut s.sz s.heap h'->Q items.toList {s with heap:=h'}) :
  wpAny (model P w) A (unpackItems (.ref l) items.size none) Q E s:=by
 have hlt:l≠s.sz:=by obtain⟨o,ho,_⟩:=hl;exact z_ (q_ ho)
 unfold unpackItems;refine a_ ?_
 .unfold notIterableAtAll;refine a_ (TH hl.typeIs PySem.slot_list_iter.lookup (d_ ?_));simp only[x_,SS];have hl1:(s.heap.push {cls:=.type "list_iterator",data:=.fields #[.ref l,rawInt 0]}).IsList l items:=by obtain⟨o,ho,r⟩:=hl;exact⟨o,e_ _ ho,r⟩
  refine a_ (Q_ (Vu hl (a_ (Q_ (Me hlt items.size 0 _ _ ⟨_,n_ _ rfl,rfl,rfl⟩ hl1 (by lia) λh1 Ks hs1=>?_)))));have gT:((items.toList.drop 0).take items.size)=items.toList:=by rw[List.drop_zero];exact Vz (by simp)
  rw[gT,k_ (by simp)];refine a_ (Q_ (VF hh Ks (hl1.extBut hs1.extBut hlt) (by simp) λh2 vQ=>?_));simp only[Option.isSome_none,x_,SS];exact d_ (hQ h2 λb o hb e=>vQ b o hb (hs1.extBut b o hb (e_ _ e)))
end
section
variable {X:Cx}{rg:Gr}
def P1(K:W8)(n:Nat)(t:TGs):TG:=λv σ H Q=>∃a xs,v=.ref a/\de K H a xs/\xs.length=n/\t xs σ H Q
theorem Jw(hc:X.calm=true)(h:Cz X es t)(hn:(assignEach es X.env).length=n:=by rfl)(hst:(assignEach es X.env).findIdx? (·.1)=none:=by rfl):PG X (.Tuple es k pos) (P1 X.K n t):=by
 intro pins s σ H v u Q I r hw;obtain⟨a,xs,e1,hq,hl,hw⟩:=hw;subst e1;cases r;obtain⟨aQ,rv,pl,hz⟩:=I.list hq;have hlen:=rv.length;rw[PyProof.Rows.assign_Tuple];refine a_ (To ?_);unfold unpack;rw[hst,hn,show n=aQ.toArray.size by rw[u_];lia];refine a_ (Q_ (DS (I.ok.hd hc) pl.isList λh' hx=>?_));have I1:Inv X pins σ H {s with heap:=h'}:=I.kept λb o e=>hx b o (z_ (q_ e)) e;exact h pins _ σ H xs _ Q I1 (by simpa using rv) hw
def Q9(is:W5):Ft:=λd env=>match d with
 | .lst ds=>dX is ds env
 | _=>none
theorem Mg(hc:X.calm=true)(h:HW X es is)(hn:(assignEach es X.env).length=is.length:=by rfl)(hst:(assignEach es X.env).findIdx? (·.1)=none:=by rfl):GD X (.Tuple es k pos) (Q9 is):=
 PG.imp (Jw hc h hn hst) λv σ H Q aC=>by
  refine cN λ_ kq=>?_;obtain⟨env,B,Z,d,env',R,r,e,k⟩:=aC;cases d<;>try cases e
  rename_i ds;obtain⟨a,vs,e1,hq,rr⟩:=r;exact kq (⟨a,vs,e1,R.zh.seq hq,by rw[<- rr.len];exact iL e,env,B,Z,ds,env',R,rr,e,λσ'=>k σ' Z H (Ex.refl R.zh)⟩)
def LO(is:W5)(f:Fe):Fs:=λenv=>(f env).bind λd=>(Q9 is d env).bind λe=>some (.nx e)
theorem Ml(hc:X.calm=true)(he:PD X .cl e fe)(h:HW X es is)(hn:(assignEach es X.env).length=is.length:=by rfl)(hst:(assignEach es X.env).findIdx? (·.1)=none:=by rfl)
  (hs:swapsWithSole [.Tuple es k p2] e pos.line X.env=pure false:=by rfl) (hw:swappedStores [.Tuple es k p2] e X.env=pure none:=by rfl) (h1:(assignEach [.Tuple es k p2] X.env).map (·.2)=[assign (.Tuple es k p2) X.env]:=by rfl) :
  SD X rg (.Assign [.Tuple es k p2] e pos) (LO is fe):=PS.imp (vC he (Mg hc h hn hst) hs hw h1) λE σ H aC=>by
 refine cN λ_ kq=>?_;obtain⟨env,B,Z,o,R,e,k⟩:=aC;obtain⟨d,e1,e⟩:=b_.mp e;obtain⟨en,e2,e⟩:=b_.mp e;cases e;refine kq (⟨env,B,Z,d,R,e1,λv Z1 H1 x1 g1=>⟨env,B,Z1,d,en,R.ext x1,g1,e2,λσ' Z2 H2 x2 R'=>k σ' Z2 H2 ((x1.trans x2).part R.bh) R'⟩⟩)
variable {l r:Xi}{fa fb:Fe}{ga gb:Gr}{pos p:Pos}
theorem Fk:gw X (binaryOp .Add) (λx y H Q=>∃l b xs zs,x=.ref l/\y=.ref b/\de X.K H l xs/\de X.K H b zs/\xs.length+zs.length<=sizeLine/\∀p,H p=none->Q (.ref p) (upd H p (.lst (xs++zs)))):=by
 intro pins s σ H x y v u Q I rx ry h;refine cN λ_ kq=>?_;obtain⟨l,b,xs,zs,rfl,rfl,hH,hB,hz,q⟩:=h;cases rx;cases ry;obtain⟨aQ,r,⟨o,n,e,c1,c2,c3⟩,_⟩:=I.list hH;obtain⟨vT,r2,⟨o2,n2,e2,d1,d2,d3⟩,_⟩:=I.list hB;obtain⟨cls,dd,dt,sl⟩:=o;obtain⟨Kl,zB,dt2,Ds⟩:=o2;simp only at c1 c2 c3 d1 d2 d3;subst c1 c2 c3 d1 d2 d3;have h1:=r.length;have h2:=r2.length;have hsz:aQ.toArray.size+vT.toArray.size<=sizeLine:=by simp only[u_];lia
 refine kq (concat_meets ⟨_,e,rfl⟩ ⟨_,e2,rfl⟩ noFill_list_add seq_list_add PySem.F.slot_list_add PySem.F.entry_list_add (PySem.F.args_list_add_2 _ _) (list_addW l b aQ.toArray vT.toArray n n2 none none sl Ds hsz) ⟨e,e2,?_⟩)
 all_goals clear kq
 rw[show aQ.toArray++vT.toArray=(aQ++vT).toArray by simp];exact⟨.ref _,_,I.lnew (r.append r2) (by rw[r_];lia),rfl,q _ I.fresh⟩
theorem nA(ha:PD X ga l fa)(hb:PD X gb r fb):PD X .nw (.BinOp l .Add r pos) (ao tf fa fb):=ou Fk Jp ha hb
end
section
variable {X:Cx}{rg:Gr}{elt:Xi}{rest:WX}{scope:Xg}{pos spos py:Pos}{tg iter:Xi}{ifs:W3}{t:Ft}{c:Fb}{k:Xm}{fi:Fi}{is caps:W5}{cl:WV}{Nc own:W1}{y:Str}
structure Hn(X:Cx)(qv:Qv)(e:Expr)(f:Fe):Prop where
 ex:∀(y:Str)(py spos:Pos)(i:Nat),swapsWith e (some (.Name y py)) spos.line X.env=pure true->X.N.Nodup->X.N[i]?=some y->Loc X.env.scope y->(X.fn y=true\/X.env.scope.names.lookup y=some .local)->
  ∀(pins:List (Addr×Obj))(s:Shared)(σ:L2.St)(H:Hp)(E:Ends),Inv X pins σ H s->(∃env B Z d,Rl X.K B Z H env σ/\f env=some d/\∀v Z' H',Ex Z H Z' H'->Gd X.K Z' H H' .nw d v->(∃a xs vs,v=.ref a/\d=.lst xs/\H' a=some (.lst vs)/\qv a H H' xs vs)->E.nx (σ.set i (some v)) H')->
   wpAny (model X.prog X.w) X.A (exec (.Assign [.Name y py] e spos) X.env) (SP X pins E) X.xe s
abbrev MH(X:Cx)(e:Xi)(f:Fe):Prop:=Hn X QT e f
theorem mG(ht:lq is t)(bp:X.calm=true)(hi:ID X tg iter fi)(gU:fM (λx=>X.env.cells.lookup x) scope.names []=some cl)(hN:Nc.map some=own.map some++caps.map (λj=>X.N[j]?))
  (hb:∀C s H ex pn a,IB (di X scope cl Nc C s H ex pn) qv a elt (⟨tg,iter,ifs,0⟩::rest) scope pos 0 tg ifs t c k)
  (eQ:ie X scope caps=true:=by rfl) (bo:scope.kind=.function:=by rfl) (hnc:∀y∈scope.names,y.2≠.cell:=by decide +kernel) (Kr:∀x∈scope.names,x.2=.local->scope.names.lookup x.1=some .local:=by decide +kernel)
  (hs:∀x,foldedSetIterable iter X.env x=pure x:=by intro _;rfl) (qo:Oz qv:=by exact Ir) :
  Hn X qv (.ListComp elt (⟨tg,iter,ifs,0⟩::rest) scope pos) (cq fi is t c k own.length caps):=by
 refine⟨λy py spos j Ku hNd hj hy hf pins s σ H E I hT=>?_⟩;obtain⟨env,B,Z,d,R,e,kk⟩:=hT;obtain⟨ds,xs,e1,hu,CQ,hl,rfl⟩:=l9 e;rw[exec_Assign_Name_used _ _ _ _ Ku];refine a_ (To (a_ ?_));refine(show wpAny (model X.prog X.w) X.A (comprehension (.ListComp elt (⟨tg,iter,ifs,0⟩::rest) scope pos) scope X.env (firstIterPos (⟨tg,iter,ifs,0⟩::rest) pos) (newList []) false (eval iter X.env) (some (assign (.Name y py) X.env)) >>= λ_=>pure ()) _ _ s from ?_);refine a_ (aZ (Vf rfl hs (fN gU) bo Kr ?_) λ_ s' hq=>d_ (d_ hq));refine aZ (hi pins s σ H (λJ H1=>∃Z1,Ex Z H Z1 H1/\Walk X.K Z1 ds J) I ⟨env,B,Z,ds,R,e1,λJ Z1 H1 x1 wk=>⟨Z1,x1,wk⟩⟩) λx s1 q1=>aZ q1 λNy s2 aC=>?_;obtain⟨it,fp,tn,J,H2,hit,I2,T,CS,rG,Z2,x2,wk⟩:=aC;subst hit;refine oV qo ht bp gU bo hnc hN eQ hb I2 (R.ext x2) T CS rG wk hu CQ hl λa C H' Z' s' vs m I' ns fpC x' P4 hv hz rr qq=>?_;refine(show wpAny (model X.prog X.w) X.A (assign (.Name y py) X.env (.ref a)) _ _ s' from wpAny_assign_Name (oY I' hNd hj hy (show RelV (.ref a) (.ref a)from rfl) (λs2' I2' aC=>?_) hf));refine cN λ_ kq=>?_;obtain⟨b,hsb,P9⟩:=aC;obtain⟨f1,f2,f3,f4,f5,f6⟩:=fpC;have hCb:C≠b:=λz=>by
  rcases P9 with z2 | z2
  .exact f2 (z.trans z2)
  .exact f5 y b z2 z.symm
 refine kq (⟨m,ns.sameBut hsb hCb,λh' hs'=>?_⟩)
 all_goals clear kq
 exact⟨_,H',I2'.turned (λb o hb e=>hs'.extBut b o hb e) f1 f2 f4 f5 f6,kk _ Z' H' (x2.trans x') ⟨a,vs,xs,rfl,rfl,x2.h.free P4,hv,hz,rr⟩ ⟨a,xs,vs,rfl,rfl,hv,qo.base x2.h qq⟩⟩
variable {e:Xi}{fe:Fe}
theorem mN(i:Nat)(h:MH X e fe)(hN:X.N.Nodup)(hi:X.N[i]?=some y:=by rfl)(hx:Loc X.env.scope y:=by first | exact Or.inl rfl | exact Or.inr rfl)(Ku:swapsWith e (some (.Name y py)) spos.line X.env=pure true:=by rfl)
  (hf:X.fn y=true\/X.env.scope.names.lookup y=some .local:=by first | exact .inl rfl | exact .inr rfl | assumption):SD X rg (.Assign [.Name y py] e spos) (setF i fe):=λpins s σ H E I hw=>by
 refine cN λ_ kq=>?_;obtain⟨env,B,Z,o,R,e0,kk⟩:=hw;obtain⟨d,e1,e2⟩:=b_.mp e0;cases e2;refine kq (h.ex y py spos i Ku hN hi hx hf pins s σ H E I ⟨env,B,Z,d,R,e1,λv Z' H' x g _=>?_⟩)
 all_goals clear kq
 obtain⟨a,vs,ds,rfl,rfl,h1,h2,h3,r⟩:=g;have s1:aH Z' (upd Z' a (.lst vs)):=b9 h3;have x2:Ex Z H (upd Z' a (.lst vs)) H':=⟨x.h,x.z.trans s1,nh x.zh h2,λb hb e=>by rw[ar (λz=>hb (by rw[z];exact h1))];exact x.fr b hb e,pK x.nf MY⟩;exact kk _ _ H' (x2.part R.bh) ((R.ext x2).setF i ⟨a,vs,rfl,de.of ai,ak.mono s1 ds r⟩)
end
section
variable {X:Cx}{rg:Gr}
end
end Mi
namespace Mi
open PySem L2
theorem nC(n:Nat)(h:i.natAbs<=n)(hn:n<2 ^ 4096:=by decide +kernel):big i=true:=w_ (UP h hn)
theorem rb(h1:-1000000000<=i)(h2:i<=1000000000):big i=true:=nC 1000000000 (by omega)
theorem lW(h1:-1000000000<=i)(h2:i<=1000000000)(h3:-1000000000<=j)(h4:j<=1000000000):mulI (.int i) (.int j)=some (.int (i*j)):=by
 show(if(big i&&big j)=true then _ else _)=_;rw[rb h1 h2,rb h3 h4];rfl
theorem iO(h:0<j):modI (.int i) (.int j)=some (.int (i%j)):=by
 show(if decide (0<j)=true then _ else _)=_;rw[w_ h];rfl
theorem lJ(h:0<j)(h2:j<1073741824):fdivI (.int i) (.int j)=some (.int (i/j)):=by
 show(if decide (0<j/\j<1073741824)=true then _ else _)=_;rw[w_ (And.intro h h2)];rfl
theorem qh(h:big i=true)(h2:0<=j)(h3:j<=1000):powI (.int i) (.int j)=some (.int (i ^ j.toNat)):=by
 show(if(big i&&decide (0<=j/\j<=1000))=true then _ else _)=_;rw[h,w_ (And.intro h2 h3)];rfl
theorem Fj(h:big i=true)(h2:big j=true):mulI (.int i) (.int j)=some (.int (i*j)):=by
 show(if(big i&&big j)=true then _ else _)=_;rw[h,h2];rfl
theorem gJ(i j:Int):addI (.int i) (.int j)=some (.int (i+j)):=rfl
theorem A3(i j:Int):subI (.int i) (.int j)=some (.int (i-j)):=rfl
theorem Lj(i j:Int):ltI (.int i) (.int j)=some (.bl (decide (i<j))):=rfl
theorem OW(i j:Int):leI (.int i) (.int j)=some (.bl (decide (i<=j))):=rfl
theorem Md(i j:Int):gtI (.int i) (.int j)=some (.bl (decide (j<i))):=rfl
theorem LP(i j:Int):iq (.int i) (.int j)=some (.bl (i==j)):=rfl
theorem MJ(i j:Int):pN (.int i) (.int j)=some (.bl !(i==j)):=rfl
theorem aE(h1:f env=some x)(h2:g env=some y):ao b f g env=b x y:=by
 unfold ao;rw[h1,h2];rfl
theorem mI(h1:f env=some x):br b f env=b x:=by
 unfold br;rw[h1];rfl
theorem F7{x:Int}(n k:Nat)(h1:x.natAbs<=n):(x ^ k).natAbs<=n ^ k:=by
 rw[Int.natAbs_pow];exact Nat.pow_le_pow_left h1 k
theorem Ef{x y:Int}(n m:Nat)(h1:x.natAbs<=n)(h2:y.natAbs<=m):(x+y).natAbs<=n+m:=by omega
theorem rX(I:En->Prop):∀(ds:Xo)(env:En),I env->(∀d∈ds,∀e,I e->∃e1,(t d e).bind body=some (.nx e1)/\I e1)->∃e2,dA t body ds env=some (.nx e2)/\I e2
 | [],env,h,_=>⟨env,rfl,h⟩
 | d::ds,env,h,hb=>by
  obtain⟨e1,h1,h2⟩:=hb d o_ env h;obtain⟨e2,h3,h4⟩:=rX I ds e1 h2 λd' hd=>hb d' (l_ _ hd);refine⟨e2,?_,h4⟩;obtain⟨e0,h5,h6⟩:=b_.mp h1;show(t d env).bind (λe1=>(body e1).bind _)=_;rw[h5];show(body e0).bind _=_;rw[h6];exact h3
theorem bR(I:Nat->En->Prop):∀(ds:Xo)(n:Nat)(env:En),I n env->(∀i d e,ds[i]?=some d->I (n+i) e->∃e1,(t d e).bind body=some (.nx e1)/\I (n+i+1) e1)->∃e2,dA t body ds env=some (.nx e2)/\I (n+ds.length) e2
 | [],n,env,h,_=>⟨env,rfl,h⟩
 | d::ds,n,env,h,hb=>by
  obtain⟨e1,h1,h2⟩:=hb 0 d env rfl h;obtain⟨e2,h3,h4⟩:=bR I ds (n+1) e1 h2 λi d' e hd he=>by
   have:=hb (i+1) d' e (by simpa using hd) (by rw[show n+(i+1)=n+1+i by omega];exact he);rw[show n+1+i+1=n+(i+1)+1 by omega];exact this
  refine⟨e2,?_,by rw[show n+(d::ds).length=n+1+ds.length by simp;omega];exact h4⟩;obtain⟨e0,h5,h6⟩:=b_.mp h1;show(t d env).bind (λe1=>(body e1).bind _)=_;rw[h5];show(body e0).bind _=_;rw[h6];exact h3
theorem dM{α:Type}{xs:List α}{k:Nat}{x:α}(h:xs[k]?=some x):L2.atI xs (k:Int)=some x:=by
 have hk:=(i_.mp h).1;unfold L2.atI L2.vp;rw[j_ (by omega),j_ (by omega)];simpa using h
theorem wU(h:(aG 0 n)[i]?=some d):d=.int i/\i<n:=by
 unfold aG at h;rw[m_]at h;cases e:(List.range n)[i]? with
 | none=>rw[e]at h;cases h
 | some j=>
  rw[e]at h;have hi:=(i_.mp e).1;rw[T4]at hi;rw[UE hi]at e;cases e;cases h;exact⟨by simp,hi⟩
end Mi
namespace Mi
theorem Ib(d:D)(env:En):bI (.F d::env) 0=some d:=rfl
theorem J8(s:Slot)(env:En)(i:Nat):bI (s::env) (i+1)=bI env i:=rfl
theorem kS(h:env[i]?=some (.O (.L ds)))(hf:f env=some d)(hl:ds.length<16000000):iQ i f env=some (.nx (env.set i (.O (.L (ds++[d]))))):=by
 unfold iQ;rw[h];show(f env).bind _=_;rw[hf];show(if ds.length<16000000 then _ else _)=_;rw[j_ hl]
theorem aw(h:f env=some (.nx e)):aI f g env=g e:=by unfold aI;rw[h];rfl
theorem a7(h:f env=some d):setF i f env=some (.nx (env.set i (.F d))):=by unfold setF;rw[h];rfl
theorem dP(h:f env=some d):bY f env=some (.rt d):=by unfold bY;rw[h];rfl
theorem eC(h:t env=some true):kN t f g env=f env:=by unfold kN;rw[h];rfl
theorem bO(h:t env=some false):kN t f g env=g env:=by unfold kN;rw[h];rfl
theorem bW(h:fi env=some ds):dJ fi t b env=dA t b ds env:=by unfold dJ;rw[h];rfl
theorem et(h:f env=some (.bl b)):fB f env=some b:=by unfold fB;rw[h];rfl
theorem Ls(h:f env=some true):Dk f g env=some true:=by unfold Dk;rw[h];rfl
theorem xi(h:f env=some false):Dk f g env=g env:=by unfold Dk;rw[h];rfl
theorem HN(h:f env=some true):jm f g env=g env:=by unfold jm;rw[h];rfl
theorem Il(h:f env=some false):jm f g env=some false:=by unfold jm;rw[h];rfl
theorem CJ(h:f env=some b):yW f env=some !b:=by unfold yW;rw[h];rfl
theorem call_v{fs:Fes}{m:Xo->Xp}{env:En}{ds:Xo}(h:fs env=some ds):(fs env).bind m=m ds:=by rw[h];rfl
theorem aj(h:f env=some d)(h2:fs env=some ds):aa f fs env=some (d::ds):=by unfold aa;rw[h,h2];rfl
theorem aN:fNil env=some []:=rfl
theorem dt[Decidable p](h:p):some (D.bl (decide p))=some (.bl true):=by rw[w_ h]
theorem bw(h:f (aR n ds)=some (.rt d)):cx f n ds=some d:=by unfold cx;rw[h];rfl
theorem fF(h:f env=some (.int (n:Int)))(h2:n<=1000000000):gi f env=some (aG 0 n):=by
 have hr:kK (n:Int)=true:=by
  simp only[kK,C_];omega
 unfold gi;rw[h,H_];dsimp only;rw[j_ hr,SO]
theorem fZ(h:f env=some (.lst ds)):br cm f env=some (.int (ds.length:Int)):=by unfold br;rw[h];rfl
theorem eu(h:f env=some (.lst ds))(h2:g env=some (.int i))(h3:L2.atI ds i=some d):ao aO f g env=some d:=(aE h h2).trans h3
theorem ku(h:f env=some (.tup ds))(h2:g env=some (.int i))(h3:L2.atI ds i=some d):ao aO f g env=some d:=(aE h h2).trans h3
theorem L0(h:f env=some (.lst ds))(h2:dX is ds env=some e):LO is f env=some (.nx e):=by
 unfold LO;rw[h];show(dX is ds env).bind _=_;rw[h2];rfl
theorem wz(h:f env=some (.tup ds))(h2:dX is ds env=some e):GQ is f env=some (.nx e):=by
 unfold GQ;rw[h];show(dX is ds env).bind _=_;rw[h2];rfl
theorem cP(h:f env=some (.lst ds)):j8 f env=some ds:=by unfold j8;rw[h];rfl
theorem GX(h:f env=some (.tup ds)):MN f env=some ds:=by unfold MN;rw[h];rfl
theorem uX(h:f env=some (.rt d)):aI f g env=some (.rt d):=by unfold aI;rw[h];rfl
theorem wm(h:i<=j):leI (.int i) (.int j)=some (.bl true):=(OW i j).trans (dt h)
theorem yY(ns:Xo)(k:Nat):cutD ns none (some (k:Int))=ns.take k:=by
 unfold cutD;rw[HT.Ct,HT.Gi,List.drop_zero,Nat.sub_zero]
 by_cases h:ns.length<=k
 .rw[Nat.min_eq_right h,Tb,Vz h]
 .rw[Nat.min_eq_left (by omega)]
end Mi
namespace Mi
open PySem PySem.Spec PyProof.Rows L2
section
variable {X:Cx}{l r:Xi}{fa fb:Fe}{ga gb:Gr}{pos p p2 p3 p4:Pos}
theorem xj:∀(l:List α),(∀x∈l,f x=some (g x))->l.filterMap f=l.map g
 | [],_=>rfl
 | a::l,h=>by
  rw[SV,h a o_,L_];exact Tn _ (xj l λx hx=>h x (l_ _ hx))
theorem Ax(aQ:WY):slicePick aQ.toArray none none (some (-1))=aQ.reverse.toArray:=by
 unfold slicePick sliceBounds sliceRange;simp only[Option.getD_some,u_,show ¬((-1:Int)>0) by decide,SS];congr 1;have hc:(if(aQ.length:Int)-1 > -1 then((aQ.length:Int)-1 - -1 - -1-1)/(- -1)else 0).toNat=aQ.length:=by
  split
  .rw[show(- -1:Int)=1 by decide,Int.ediv_one];lia
  .lia
 rw[hc];apply Uw;intro i;rw[List.filterMap_map];have key:(List.range aQ.length).filterMap ((λx=>aQ.toArray[x]?) ∘ λ(k:Nat)=>((aQ.length:Int)-1+-1*(k:Int)).toNat)=(List.range aQ.length).map λk=>aQ.getD (aQ.length-1-k) .none:=by
  refine xj _ λk hk=>?_;have hk':k<aQ.length:=by simpa using hk
  simp only[Function.comp];rw[show((aQ.length:Int)-1+-1*(k:Int)).toNat=aQ.length-1-k by lia];simp[List.getD,show aQ.length-1-k<aQ.length by lia]
 rw[key,m_]
 by_cases hi:i<aQ.length
 .rw[UE hi,List.getElem?_reverse hi];simp[List.getD,show aQ.length-1-i<aQ.length by lia]
 .rw[K_ (by simpa using hi),K_ (by simpa using hi)];rfl
def B2:D->Xp
 | .lst ds=>some (.lst ds.reverse)
 | _=>none
theorem av.rev:∀{xs:Xq}{us:WY},av xs us->av xs.reverse us.reverse
 | [],us,h=>by cases h;exact .nil
 | x::xs,us,h=>by
  cases h with
  | cons p q=>rw[Ww,Ww];exact(av.rev q).append (.cons p .nil)
def PR(K:Fg)(te:TE):TE:=λσ H Q=>te σ H λx H1=>∃a xs,x=.ref a/\de K H1 a xs/\∀q,H1 q=none->Q (.ref q) (upd H1 q (.lst xs.reverse))
theorem HL{e:Xi}{te:TE}{i j:Int}{k:Nat}(he:PE X e te):PE X (.Subscript e (.Slice none none (some (.UnaryOp .USub (.Constant (.int 1) k p3) p4)) p2) pos) (PR X.K te):=by
 intro pins s σ H Q I h;refine Subscript_ (aZ (he pins s σ H _ I h) λv s1 aC=>?_);obtain⟨x,H1,I1,r1,q1⟩:=aC;obtain⟨a,xs,e1,hx,q⟩:=q1;subst e1;cases r1;refine wpAny_Slice ?_;rw[evalPart_none];refine d_ (d_ ?_);refine aZ (v8 (G0 A8 As) pins s1 σ H1 (λo H2=>o=some (-1)/\H2=H1) I1 ⟨_,rfl,_,rfl,rfl,rfl⟩) λNV s2 aC=>?_;obtain⟨o,H2,I2,ps,e2,e3⟩:=aC;subst e2;subst e3;have I4:Inv X pins σ H2 {s2 with heap:=s2.heap.push {cls:=.type "slice",data:=.fields #[.none,.none,NV]}}:=I2.kept λb ob z=>e_ _ z;obtain⟨aQ,rv,ht,hz⟩:=I4.list hx;have hlen:=rv.length;show wpAny (model X.prog X.w) X.A (subscriptTail e (.Slice none none (some (.UnaryOp .USub (.Constant (.int 1) k p3) p4)) p2) (.ref a) (.ref s2.sz)) (EP X pins σ Q) X.xe {s2 with heap:=s2.heap.push {cls:=.type "slice",data:=.fields #[.none,.none,NV]}};refine tail_any ht.isList.typeIs Vw.lookup ?_ (by with_unfolding_all rfl);refine Ve ht.isList (Heap.IsSliceOf.new ..) .none .none ps (by simp) ?_ (by rw[u_]<;>lia);rw[Ax];exact⟨.ref _,_,I4.laid (o:=.lst xs.reverse) (λb ob z=>e_ _ z) (h_ _) ⟨by rw[List.length_reverse];exact hz,_,0,av.rev rv,n_ _ rfl⟩,rfl,q _ (I4.hok.fresh (h_ _))⟩
theorem Lu{k:Nat}(ha:PD X ga l fa):PD X .nw (.Subscript l (.Slice none none (some (.UnaryOp .USub (.Constant (.int 1) k p3) p4)) p2) pos) (br B2 fa):=PE.imp (HL (i:=0) (j:=0) ha) λσ H Q aC=>by
 obtain⟨env,B,Z,d,R,e,kk⟩:=aC;obtain⟨x,h1,h2⟩:=b_.mp e;cases x<;>try cases h2
 rename_i ds;refine⟨env,B,Z,_,R,h1,λv Z1 H1 x1 g1=>?_⟩;obtain⟨a,vs,rfl,q,rr⟩:=(show Gd X.K Z1 H1 H1 .pk (.lst ds) v from g1.pk).lst x1.zh;exact⟨a,vs,rfl,q,λp hp=>kk _ Z1 _ (x1.trans (Ex.newL x1.zh hp)) ⟨p,_,_,rfl,rfl,x1.h.free hp,ai,x1.zh.free hp,ak.rev rr⟩⟩
end
def insI(x:Int):W6->W6
 | []=>[x]
 | y::r=>if x<=y then x::y::r else y::insI x r
def jO:W6->W6
 | []=>[]
 | x::r=>insI x (jO r)
theorem insI_perm(x:Int):∀l,(insI x l).Perm (x::l)
 | []=>.refl _
 | y::r=>by
  unfold insI
  split
  .exact .refl _
  .exact((insI_perm x r).cons y).trans (List.Perm.swap x y r)
theorem gX:∀l,(jO l).Perm l
 | []=>.refl _
 | x::r=>(insI_perm x _).trans ((gX r).cons x)
theorem wZ(x:Int):∀{l:W6},l.Pairwise (·<=·)->(insI x l).Pairwise (·<=·)
 | [],_=>by simp[insI]
 | y::r,h=>by
  obtain⟨h1,h2⟩:=SI.mp h;unfold insI
  split
  .rename_i hx;exact SI.mpr ⟨λz hz=>by
    rcases t_.mp hz with rfl | hz
    .exact hx
    .exact Vx hx (h1 z hz),h⟩
  .rename_i hx;refine SI.mpr ⟨λz hz=>?_,wZ x h2⟩;rcases t_.mp ((insI_perm x r).mem_iff.mp hz)with rfl | hz
   .lia
   .exact h1 z hz
theorem rp:∀l,(jO l).Pairwise (·<=·)
 | []=>.nil
 | x::r=>wZ x (rp r)
theorem pq:∀{l m:W6},l.Perm m->l.Pairwise (·<=·)->m.Pairwise (·<=·)->l=m
 | [],m,p,_,_=>(List.Perm.nil_eq p)
 | x::l,[],p,_,_=>absurd p.symm (by intro h;exact absurd (List.Perm.nil_eq h) (by simp))
 | x::l,y::m,p,h1,h2=>by
  obtain⟨a1,a2⟩:=SI.mp h1;obtain⟨b1,b2⟩:=SI.mp h2;have e:x=y:=by
   have hx:x∈y::m:=p.mem_iff.mp o_;have hy:y∈x::l:=p.mem_iff.mpr o_;rcases t_.mp hx with e | hx
   .exact e
   .rcases t_.mp hy with e | hy
    .exact e.symm
    .have:=b1 x hx;have:=a1 y hy;lia
  subst e;rw[pq ((List.perm_cons x).mp p) a2 b2]
theorem Gh(p:m.Perm l)(h:m.Pairwise (·<=·)):m=jO l:=pq (p.trans (gX l).symm) h (rp l)
theorem sU(l:W6):(jO l).length=l.length:=(gX l).length_eq
section
variable {prog:Xa}{w:Xe}{A:Xb}{E:WR}{s:W_}
theorem tw(ho:s.heap.get? a=some o)(hc:o.cls=.type "list"\/o.cls=.type "tuple")(hd:o.data=.seq vs.toArray n)
    (q:Q vs {s with heap:=(s.heap.push (seqObj "list" #[] 0)).update s.sz (Obj.mapSeq (·++vs.toArray))}) (hz:vs.length<=sizeLine):wpAny (model prog w) A (collect (.ref a)) Q E s:=by
  unfold collect;refine a_ (wpAny_runValue (Vj PyProof.Rows.entry_proto_collect' (show wpAny _ _ (newList [] >>= λz=>again (.builtin "list.__iadd__" ⟨[z,.ref a],[]⟩)) _ _ s from
    a_ (UW (d_ ⟨Wj _ (by decide +kernel),Vj PyProof.Rows.entry_list_iadd' ?_⟩)))))
  have e1:(s.heap.push (seqObj "list" #[] 0)).get? a=some o:=e_ _ ho;have e2:(s.heap.push (seqObj "list" #[] 0)).get? s.sz=some (seqObj "list" #[] 0):=n_ _ rfl;obtain⟨T,hT,ht⟩:∃T:String,o.cls=.type T/\(Value.type T==Value.type "list"||Value.type T==Value.type "tuple")=true:=by
    rcases hc with h | h
    . exact⟨"list",h,rfl⟩
    . exact⟨"tuple",h,rfl⟩
  show wpAny _ _ (Builtin.List.listExtendWith (.ref s.sz) (.ref a) (.ref s.sz)) _ _ {s with heap:=s.heap.push (seqObj "list" #[] 0)};unfold Builtin.List.listExtendWith;refine a_ (wpAny_typeOf ⟨o,e1,hT⟩ ?_);rw[j_ (by rw[Bool.or_assoc,ht,TF])];refine a_ (listItems_at e1 hd (a_ (listItems_at e2 rfl ?_)));rw[k_ (by simp)];refine a_ (listUpdate_at e2 rfl (d_ ?_) (T_ _) (by simp only[Array.size_append,u_,TJ];lia));show wpAny (model prog w) A (load s.sz >>= λo=>match o.data with | .seq xs _=>pure xs.toList | _=>unsupported "internal:collect") Q E {s with heap:=(s.heap.push (seqObj "list" #[] 0)).update s.sz (Obj.mapSeq (·++vs.toArray))};refine a_ (wpAny_load (V3 e2 _) ?_);show wpAny _ _ (pure ((#[]:Array W9)++vs.toArray).toList) Q E _;rw[show((#[]:Array W9)++vs.toArray).toList=vs by simp];exact d_ q
theorem sortedS(ho:s.heap.get? a=some o)(hc:o.cls=.type "list"\/o.cls=.type "tuple")(hd:o.data=.seq vs.toArray n)(hI:IntsAre vs ns)(hz:vs.length<64)
  (q:∀(out:Array W9)(uu:W6),IntsAre out.toList uu->uu.Perm ns->uu.Pairwise (·<=·)->Q (.ref (s.sz+1)) {s with heap:=sortedAll s.heap vs out}):wpAny (model prog w) A (call (.builtin "sorted") [.ref a]) Q E s:=by
 refine Ur UA plain_sorted entry_sorted (args_sorted1 _) ?_;unfold Builtin.«sorted»;refine a_ (d_ (a_ (tw ho hc hd (a_ (UW ?_)) (by have:=Sz;lia))));have z1:((s.heap.push (seqObj "list" #[] 0)).update s.sz (Obj.mapSeq (·++vs.toArray))).objs.size=s.sz+1:=by rw[VO,Wk]
 have z2:(((s.heap.push (seqObj "list" #[] 0)).update s.sz (Obj.mapSeq (·++vs.toArray))).push (seqObj "list" vs.toArray 0)).get? (s.sz+1)=some (seqObj "list" vs.toArray 0):=by
  rw[<- z1];exact n_ _ rfl
 show wpAny _ _ _ _ _ {s with heap:=((s.heap.push (seqObj "list" #[] 0)).update s.sz (Obj.mapSeq (·++vs.toArray))).push (seqObj "list" vs.toArray 0)};rw[z1];exact a_ (Q_ (SA slot_list_sort ⟨_,z2,rfl⟩ V4 (list_sort_tree z2 hI hz λout uu a1 a2 a3=>⟨_,rfl,d_ ⟨_,rfl,q out uu a1 a2 a3⟩⟩) (args_list_sort _)))
end
def jv:Xo->Option W6
 | []=>some []
 | .int i::r=>(jv r).bind λbs=>some (i::bs)
 | _=>none
theorem jq:∀{ds:Xo}{bs:W6},jv ds=some bs->ds=bs.map .int
 | [],bs,h=>by cases h;rfl
 | d::r,bs,h=>by
  cases d<;>try cases h
  obtain⟨cs,h1,h2⟩:=b_.mp h;cases h2;rw[jq h1];rfl
theorem j7:∀(ns:W6),jv (ns.map .int)=some ns
 | []=>rfl
 | n::ns=>by show(jv (ns.map .int)).bind _=_;rw[j7 ns];rfl
theorem ak.intsV{K:Fg}{H:Hp}:∀{bs:W6}{vs:Xq},ak K H (bs.map .int) vs->vs=bs.map .int
 | [],vs,h=>h
 | b::bs,vs,⟨v,r,e,h1,h2⟩=>by subst e;cases(show v=V.int b from h1);rw[ak.intsV h2];rfl
theorem av.ints:∀{bs:W6}{us:WY},av (bs.map V.int) us->IntsAre us bs
 | [],us,h=>by cases h;exact .nil
 | b::bs,us,h=>by
  cases h with
  | cons p q=>obtain⟨t,rfl⟩:=(show ∃t,_=Value.int b t from p);exact .cons b t (av.ints q)
theorem av.ofInts:∀{bs:W6}{us:WY},IntsAre us bs->av (bs.map V.int) us
 | [],us,h=>by cases h;exact .nil
 | b::bs,us,h=>by
  cases h with
  | cons n t q=>exact .cons ⟨t,rfl⟩ (av.ofInts q)
def sortI:D->Xp
 | .lst ds=>(jv ds).bind λns=>if ns.length<64 then some (.lst ((jO ns).map .int))else none
 | .tup ds=>(jv ds).bind λns=>if ns.length<64 then some (.lst ((jO ns).map .int))else none
 | _=>none
section
variable {X:Cx}{l r:Xi}{fa fb:Fe}{ga gb:Gr}{pos p:Pos}
theorem qZ:dB X (.builtin "sorted") (λxs H Q=>∃(a:Xh)(ns:W6),xs=[.ref a]/\(de X.K H a (ns.map V.int)\/cw X.K H a (ns.map V.int))/\ns.length<64/\∀q,H q=none->Q (.ref q) (upd H q (.lst ((jO ns).map V.int)))):=by
 intro pins s σ H xs us Q I rs h;obtain⟨a,ns,rfl,hq,hl,q⟩:=h;obtain⟨u,rfl,rx⟩:=vals1 rs;cases rx;have fin:∀(aQ:WY)(out:Array W9)(uu:W6),IntsAre out.toList uu->uu.Perm ns->uu.Pairwise (·<=·)->EP X pins σ Q (.ref (s.sz+1)) {s with heap:=sortedAll s.heap aQ out}:=λaQ out uu a1 a2 a3=>by
  cases Gh a2 a3;obtain⟨e,he⟩:=sortedAll_at s.heap aQ out;refine⟨.ref _,_,I.laid (o:=.lst ((jO ns).map V.int)) (λb o z=>sortedAll_old z) (UJ _) ⟨?_,out.toList,e,av.ofInts a1,by simpa using he⟩,rfl,q _ (I.hok.fresh (UJ _))⟩;have:=Sz;rw[c_,sU];lia
 rcases hq with hq | hq
 .obtain⟨aQ,rv,pl,hz⟩:=I.list hq;have hlen:=rv.length;obtain⟨o,ho,hc,n,hd⟩:=pl.isList;exact sortedS ho (.inl hc) hd (av.ints rv) (by rw[<- hlen,c_];exact hl) (fin aQ)
 .obtain⟨aQ,rv,pl,hz⟩:=I.tuple hq;have hlen:=rv.length;obtain⟨o,ho,hc,n,hd⟩:=pl;exact sortedS ho (.inr hc) hd (av.ints rv) (by rw[<- hlen,c_];exact hl) (fin aQ)
theorem AI{K:Fg}:ik K .nw sortI (λxs H Q=>∃(a:Xh)(ns:W6),xs=[.ref a]/\(de K H a (ns.map V.int)\/cw K H a (ns.map V.int))/\ns.length<64/\∀q,H q=none->Q (.ref q) (upd H q (.lst ((jO ns).map V.int)))):=λ{Z H x dx d Q} s h e k=>by
 cases dx<;>try cases e
 .obtain⟨ns,h1,h2⟩:=b_.mp e;obtain⟨hl,rfl⟩:=kX h2;cases jq h1;obtain⟨a,vs,rfl,q,rr⟩:=h.tup s;cases ak.intsV rr;exact⟨a,ns,rfl,.inr q,hl,λp hp=>k _ Z _ (Ex.newL s hp) ⟨p,_,_,rfl,rfl,hp,ai,s.free hp,ak.ints _⟩⟩
 .obtain⟨ns,h1,h2⟩:=b_.mp e;obtain⟨hl,rfl⟩:=kX h2;cases jq h1;obtain⟨a,vs,rfl,q,rr⟩:=h.lst s;cases ak.intsV rr;exact⟨a,ns,rfl,.inl q,hl,λp hp=>k _ Z _ (Ex.newL s hp) ⟨p,_,_,rfl,rfl,hp,ai,s.free hp,ak.ints _⟩⟩
theorem Ag(hm:X.mg "sorted"=none)(ha:PD X ga l fa)(hg:Gl X "sorted":=by rfl)(he:starEach [l] X.env=[(false,eval l X.env)]:=by rfl):PD X .nw (.Call (.Name "sorted" p) [l] [] pos) (br sortI fa):=
 tY qZ AI UB hm ha (by decide) (by decide) hg he
end
structure Src(prog:Program)(w:World)(i l:Addr)(it:Nat->Heap->Prop)(at_:List Value->Heap->Prop):Prop where
 nxt:∀{A:Around}{E:Value->Shared->Prop}{s:Shared}{k:Nat}{xs:List Value}{x:Value}{Q:Value->Shared->Prop},it k s.heap->at_ xs s.heap->xs[k]?=some x->(∀h',it (k+1) h'->Heap.SameBut i s.heap h'->Q x {s with heap:=h'})->
  wpAny (model prog w) A (Builtin.SmallTypes.nextOf (.ref i)) Q E s
 fin:∀{A:Around}{E:Value->Shared->Prop}{s:Shared}{k:Nat}{xs:List Value}{Q:Value->Shared->Prop},A.handled=none->it k s.heap->at_ xs s.heap->xs[k]?=none->
  (∀h' e,Heap.ExtBut i s.heap h'->(∃o,h'.get? e=some o/\o.cls=.type "StopIteration")->E (.ref e) {s with heap:=h'})->wpAny (model prog w) A (Builtin.SmallTypes.nextOf (.ref i)) Q E s
 itx:∀{k:Nat}{h h':Heap},it k h->(∀o,h.get? i=some o->h'.get? i=some o)->it k h'
 atx:∀{xs:List Value}{h h':Heap},at_ xs h->(∀o,h.get? l=some o->h'.get? l=some o)->at_ xs h'
 obj:∀{k:Nat}{h:Heap},it k h->∃o,h.get? i=some o/\∀v,o.data≠.cell v
 lt:∀{xs:List Value}{h:Heap},at_ xs h->∃o,h.get? l=some o
section
variable {prog:Xa}{w:Xe}
theorem vB(hit:s.heap.IsTupleIter i t k)(ht:s.heap.IsTuple t items)(hx:items[k]?=some x)
  (hQ:∀h',h'.IsTupleIter i t (k+1)->Heap.SameBut i s.heap h'->Q x {s with heap:=h'}):wpAny (model prog w) A (Builtin.SmallTypes.nextOf (.ref i)) Q E s:=by
 obtain⟨o,ho,hc,hd⟩:=id hit;obtain⟨ol,CU,_,nl,Gj⟩:=ht;unfold Builtin.SmallTypes.nextOf;refine a_ (S1 hit.typeIs Ui (SA Ui hit.typeIs F.entry_tuple_iterator_next ?_ (F.args_tuple_iterator_next_1 _)));show wpAny _ _ (field (.ref i) 0 >>= _) _ _ s;refine a_ (S8 ho hd rfl (show wpAny _ _ (if(Value.ref t==Value.none)=true then _ else _) _ _ s from ?_));rw[k_ (show ¬((Value.ref t==Value.none)=true)from P_)];refine(show wpAny _ _ (field (.ref i) 1 >>= _) _ _ s from a_ (S8 ho hd rfl (show wpAny _ _ (seqItems? (.ref t) >>= _) _ _ s from a_ (TC CU Gj ?_))));simp only[SO,hx];refine a_ (TU ho hd (by simp) (d_ ⟨x,rfl,d_ (hQ _ ?_ (SJ ..))⟩));exact⟨_,SQ _ ho (Ti (SW hd _)),(Wx ..).trans hc,by rw[SW hd];simp[rawInt]⟩
theorem yh(hh:A.handled=none)(hit:s.heap.IsTupleIter i t k)(ht:s.heap.IsTuple t items)(hx:items[k]?=none)
  (hE:∀h' e,Heap.ExtBut i s.heap h'->(∃o,h'.get? e=some o/\o.cls=.type "StopIteration")->E (.ref e) {s with heap:=h'}):wpAny (model prog w) A (Builtin.SmallTypes.nextOf (.ref i)) Q E s:=by
 obtain⟨o,ho,hc,hd⟩:=id hit;obtain⟨ol,CU,_,nl,Gj⟩:=ht;unfold Builtin.SmallTypes.nextOf;refine a_ (S1 hit.typeIs Ui (SA Ui hit.typeIs F.entry_tuple_iterator_next ?_ (F.args_tuple_iterator_next_1 _)));show wpAny _ _ (field (.ref i) 0 >>= _) _ _ s;refine a_ (S8 ho hd rfl (show wpAny _ _ (if(Value.ref t==Value.none)=true then _ else _) _ _ s from ?_));rw[k_ (show ¬((Value.ref t==Value.none)=true)from P_)];refine(show wpAny _ _ (field (.ref i) 1 >>= _) _ _ s from a_ (S8 ho hd rfl (show wpAny _ _ (seqItems? (.ref t) >>= _) _ _ s from a_ (TC CU Gj ?_))));simp only[SO,hx];refine a_ (Vn (a_ (TU ho hd (by simp) ?_)));refine(show wpAny _ _ (newExc (.type "StopIteration") [] >>= _) _ _ _ from a_ ?_);simp only[newExc,newTuple];refine a_ (S5 (a_ (VV (by first | rfl | (simp only[firstArgMember];rfl)) ?_)) (by size_fits));refine S5 ?_ (by size_fits);simp only[raiseNew];refine a_ (wpAny_handled ?_)
 first | rw[show A.in1.handled=none from hh] | rw[hh]
 exact a_ (d_ (wpAny_throw (hE _ _ (((SJ ..).extBut.push _).push _) ⟨_,n_ _ rfl,rfl⟩)))
theorem Pp(i l:Xh):Src prog w i l (λk h=>h.IsTupleIter i l k) (λxs h=>h.IsTuple l xs.toArray) where
 nxt:=λh1 h2 h3 h4=>vB h1 h2 (by simpa using h3) h4
 fin:=λhh h1 h2 h3 h4=>yh hh h1 h2 (by simpa using h3) h4
 itx:=λh1 h2=>h1.at h2
 atx:=λ⟨o,h1,h2⟩ h3=>⟨o,h3 o h1,h2⟩
 obj:=λ⟨o,e,c,d⟩=>⟨o,e,λv z=>by rw[d]at z;cases z⟩
 lt:=λ⟨o,h1,_⟩=>⟨o,h1⟩
theorem Pz(i l:Xh):Src prog w i l (λk h=>h.IsListIter i l k) (λxs h=>h.IsList l xs.toArray) where
 nxt:=λh1 h2 h3 h4=>wpAny_nextOf_list_item h1 h2 (by simpa using h3) h4
 fin:=λhh h1 h2 h3 h4=>wpAny_nextOf_list_end hh h1 h2 (by simpa using h3) h4
 itx:=λh1 h2=>h1.at h2
 atx:=λh1 h2=>h1.at h2
 obj:=λ⟨o,e,c,d⟩=>⟨o,e,λv z=>by rw[d]at z;cases z⟩
 lt:=λ⟨o,h1,_⟩=>⟨o,h1⟩
variable {A:Xb}{E:WR}{s:W_}{z TI TO i1 i2 l1 l2:Xh}{k1 k2:Nat}{xs ys:WY}{x y a b:W9}{Rn it2:Nat->Xd->Prop}{at1 at2:WY->Xd->Prop}
theorem KP(hs:Heap.ExtBut e h h')(n:c≠e):∀o,h.get? c=some o->h'.get? c=some o:=λo q=>hs c o n q
end
section
variable {X:Cx}{pins:WS}{σ:L2.St}{H:Hp}{s:W_}{h':Xd}
theorem lR{t':Nat}{ch:W2}(I:L2.Inv X pins σ H s)(hf:∀b∈ch,bM X pins H b)(k:∀b o,b∉ch->s.heap.get? b=some o->h'.get? b=some o):L2.Inv X pins σ H {s with heap:=h',toks:=t'}:=by
 have Nx:∀b u,H b=some u->b∉ch:=λb u e z=>by rw[(hf b z).1]at e;cases e
 refine I.step (λb hb=>?_) (λb o _ _ hc e _=>k b o hc e) (λb o _ _ hc e _=>⟨o.slots,k b o hc e⟩) (λ_ _ _ _ n=>n)
  (λb o hc e=>⟨o,k b o hc e⟩) (λ_ _ e=>e) (λ_ _ _ e=>e) (λ_ _ e=>e) (λm hm=>?_) (λb u e=>?_) I.bare
 .obtain⟨f0,f1,f2,f3,f4,f5⟩:=hf b hb;exact⟨f3,f1,f4,f5⟩
 .obtain⟨o,es,ep,ho,r⟩:=hm;exact⟨o,es,ep,k _ o (λz=>(hf _ z).2.1 rfl) ho,r⟩
 .refine(I.hok b u e).stay (λc v hc q=>k c v ?_ q) (λ_ q=>q) (λ_ _ q=>q) λ_ _ q=>q;rcases hc with z | z
  .rw[z];exact Nx b u e
  .exact Nx c _ z
end
structure Qm(K:Fg)(l:Addr)(S:Hp->List V->Prop)(at_:List Value->Heap->Prop):Prop where
 get:∀{X:Cx}{pins:List (Addr×Obj)}{σ:L2.St}{H:Hp}{s:Shared}{xs:List V},X.K=K->L2.Inv X pins σ H s->S H xs->∃aQ,av xs aQ/\at_ aQ s.heap
 inj:∀{X:Cx}{pins:List (Addr×Obj)}{σ:L2.St}{H:Hp}{s:Shared}{xs ys:List V},X.K=K->L2.Inv X pins σ H s->S H xs->S H ys->xs=ys
theorem PJ{K:Fg}(l:Xh):Qm K l (λH xs=>cw K H l xs) (λxs h=>h.IsTuple l xs.toArray):=
 ⟨λe I h=>by subst e;obtain⟨aQ,rv,p,hz⟩:=I.tuple h;exact⟨aQ,rv,p⟩,λe I h1 h2=>by subst e;exact I.tuple_inj h1 h2⟩
theorem O0{K:Fg}(l:Xh):Qm K l (λH xs=>de K H l xs) (λxs h=>h.IsList l xs.toArray):=
 ⟨λe I h=>by subst e;obtain⟨aQ,rv,p,hz⟩:=I.list h;exact⟨aQ,rv,p.isList⟩,λe I h1 h2=>by subst e;exact I.list_inj h1 h2⟩
abbrev Ol(c:String)(h:Xd)(l:Xh):Xd:=h.push {cls:=.type c,data:=.fields #[.ref l,.int 0 0]}
section
variable {X:Cx}{es:W3}{kk:Nat}{tp:Pos}
def pairs:Xo->Xo->Xo
 | x::xs,y::ys=>.tup [x,y]::pairs xs ys
 | _,_=>[]
end
end Mi
namespace Mi
open PySem L2
theorem IG(h1:f env=some (.bl p))(h2:p=false->g env=some (.bl q)):Ii f g env=some (.bl (p||q)):=by
 unfold Ii;rw[h1];cases p with
 | false=>exact h2 rfl
 | true=>rfl
theorem A2(h1:f env=some p)(h2:p=true->g env=some q):jm f g env=some (p&&q):=by
 unfold jm;rw[h1];cases p with
 | true=>exact h2 rfl
 | false=>rfl
theorem DL(hx:fa env=some x)(hy:fb env=some y)(hw:fc env=some w)(h1:b x y=some (.bl p))(h2:b' y w=some (.bl q)):Eb b b' fa fb fc env=some (.bl (p&&q)):=by
 unfold Eb;rw[hx];show(fb env).bind _=_;rw[hy];show(b x y).bind _=_;rw[h1];cases p with
 | true=>show(fc env).bind _=_;rw[hw];exact h2
 | false=>rfl
theorem dk(h1:fi env=some ds)(h2:dC is (cK n caps env)=true)(h3:jL t c k (cK n caps env) ds=some xs)(hl:xs.length<=16000000):cq fi is t c k n caps env=some (.lst xs):=by
 unfold cq;rw[h1];show(if dC is (cK n caps env)=true then _ else _)=_;rw[j_ h2,h3];show(if xs.length<=16000000 then _ else _)=_;rw[j_ hl]
theorem Cj(p:D->Bool)(g:D->D):∀(ds:Xo),(∀d∈ds,∃e1,t d env=some e1/\c e1=some (p d)/\(p d=true->k e1=some [g d]))->jL t c k env ds=some ((ds.filter p).map g)
 | [],_=>rfl
 | d::ds,h=>by
  obtain⟨e1,h1,h2,h3⟩:=h d o_;have ih:=Cj p g ds λx hx=>h x (l_ _ hx);unfold jL;rw[h1];show(c e1).bind _=_;rw[h2];cases hp:p d with
  | true=>
   show(if true=true then k e1 else some []).bind _=_;rw[j_ rfl,h3 hp];show(jL t c k env ds).bind _=_;rw[ih,UF,j_ hp];rfl
  | false=>
   simp only[H_,x_,SS,ih,Uu,UF,hp]
theorem nk(h:f env=some d):bj f env=some [d]:=by unfold bj;rw[h];rfl
theorem jb(I:Xo->En->Prop)(g:D->Xo)(B M:Nat):∀(ds:Xo)(acc:Xo)(env:En),I acc env->acc.length+B*ds.length<=M->(∀d∈ds,(g d).length<=B/\∀acc e,I acc e->acc.length+B<=M->∃e1,(t d e).bind body=some (.nx e1)/\I (acc++g d) e1)->
  ∃e2,dA t body ds env=some (.nx e2)/\I (acc++ds.flatMap g) e2
 | [],acc,env,h,_,_=>⟨env,rfl,by simpa using h⟩
 | d::ds,acc,env,h,hl,hb=>by
  obtain⟨b1,b2⟩:=hb d o_;rw[A_,WG]at hl;obtain⟨e1,h1,h2⟩:=b2 acc env h (by lia);obtain⟨e2,h3,h4⟩:=jb I g B M ds (acc++g d) e1 h2 (by rw[r_];lia) λd' hd=>hb d' (l_ _ hd);refine⟨e2,?_,by rw[Ux,<- T1];exact h4⟩;obtain⟨e0,h5,h6⟩:=b_.mp h1;show(t d env).bind (λe1=>(body e1).bind _)=_;rw[h5];show(body e0).bind _=_;rw[h6];exact h3
theorem tO{g:D->Xo}{B:Nat}:∀(ds:Xo),(∀d∈ds,(g d).length<=B)->(ds.flatMap g).length<=B*ds.length
 | [],_=>by simp
 | d::ds,h=>by
  rw[Ux,r_,A_,WG];have:=h d o_;have:=tO ds λx hx=>h x (l_ _ hx)
  lia
theorem iX:d∈aG 0 n↔∃i:Nat,i<n/\d=.int i:=by
 unfold aG;simp only[y_,Sy];constructor
 .rintro⟨i,h,rfl⟩;exact⟨i,h,by simp⟩
 .rintro⟨i,h,rfl⟩;exact⟨i,h,by simp⟩
theorem ly(n:Nat):(aG 0 n).length=n:=by simp[aG]
theorem qI:∀{ds:Xo},(∀d∈ds,dep d<=n)->n8 ds<=n
 | [],_=>by unfold n8;lia
 | d::ds,h=>by
  unfold n8;have:=h d o_;have:=qI λx hx=>h x (l_ _ hx)
  lia
theorem wb(h:∀d∈ds,dep d<=n):dep (.tup ds)<=n+1:=by unfold dep;have:=qI h;lia
theorem Ga(h:∀d∈ds,dep d<=n):dep (.lst ds)<=n+1:=by unfold dep;have:=qI h;lia
theorem lu(i:Int):dep (.int i)=0:=by unfold dep;rfl
theorem Pr(h1:f env=some d)(h2:g env=some (.lst es))(h3:dep d<=60)(hb:inD d es=b)(h4:(pl d&&iR es)=true:=by rfl):ao (Dl false) f g env=some (.bl b):=by
 rw[aE h1 h2];show(if dep d<=60/\(pl d&&iR es)=true then _ else _)=_;rw[j_ ⟨h3,h4⟩,<- hb];rfl
theorem M'(h1:f env=some d)(h2:g env=some e)(h3:fg d e=true)(hb:iJ d e=b):ao iq f g env=some (.bl b):=by
 rw[aE h1 h2];unfold iq;rw[j_ h3,hb]
theorem PN(h1:f env=some d)(h2:g env=some e)(h3:fg d e=true)(hb:iJ d e=b):ao pN f g env=some (.bl !b):=by
 rw[aE h1 h2];unfold pN;rw[j_ h3,hb]
theorem Ni(h:dep d<=60)(h2:(pl d&&pl e)=true):fg d e=true:=by unfold fg;rw[h2,w_ h];rfl
theorem Po(h:dep e<=60)(h2:(pl d&&pl e)=true):fg d e=true:=by unfold fg;rw[h2,w_ h,TF];rfl
theorem FU(xs:Xo):iJ (.lst xs) (.lst [])=xs.isEmpty:=by
 cases xs<;>(unfold iJ;rfl)
theorem kW(h:fs env=some ds):bc fs env=some (.tup ds):=by unfold bc;rw[h];rfl
theorem xk(h:fs env=some ds):cf fs env=some (.lst ds):=by unfold cf;rw[h];rfl
theorem z7(h:f env=some (.lst ds)):br gv f env=some (.tup ds):=by unfold br;rw[h];rfl
theorem Cw(h:f env=some (.lst xs))(h2:g env=some (.lst ys))(hl:xs.length+ys.length<=16000000):ao tf f g env=some (.lst (xs++ys)):=by
 rw[aE h h2];show(if xs.length+ys.length<=16000000 then _ else _)=_;rw[j_ hl]
theorem jX(h:f env=some (.lst ds)):setO i f env=some (.nx (env.set i (.O (.L ds)))):=by unfold setO;rw[h];rfl
end Mi
namespace Mi
theorem eJ{t:Ft}{d:D}{e e0:En}{b:Fs}{o:Out}(h:t d e=some e0)(h2:b e0=some o):(t d e).bind b=some o:=by rw[h];exact h2
theorem wM(g:D->D)(ds:Xo)(h:∀d∈ds,∃e1,t d env=some e1/\k e1=some [g d]):jL t Xw k env ds=some (ds.map g):=by
 have:=Cj (t:=t) (c:=λ_=>some true) (k:=k) (env:=env) (λ_=>true) g ds λd hd=>by
  obtain⟨e1,h1,h2⟩:=h d hd;exact⟨e1,h1,rfl,λ_=>h2⟩
 rwa [V_.mpr (λ_ _=>rfl)]at this
theorem F0(h:fe env=some d)(h1:env[i]?=some (.O (.L ds)))(h2:fk env=some (.int j))(h3:L2.vp ds.length j=some n):wc i fk fe env=some (.nx (env.set i (.O (.L (ds.set n d))))):=by
 unfold wc;rw[h,H_,h1];show(fk env).bind _=_;rw[h2];show(L2.vp ds.length j).bind _=_;rw[h3];rfl
theorem Jm{n:Nat}{j:Int}(h0:0<=j)(h1:j<n):L2.vp n j=some j.toNat:=by unfold L2.vp;rw[j_ h0,j_ h1]
end Mi
namespace Mi
open PySem PySem.Spec PyProof.Rows L2
def ib(ks:WW)(p:W7):WW:=if p∈ks then ks else ks++[p]
theorem Ca(h:kk p=kk q):p=q:=by
 obtain⟨a,b⟩:=p;obtain⟨c,d⟩:=q;unfold kk at h;simp at h;exact Prod.ext h.1 h.2
theorem xG:∀{xs:List α}{ys:List β},xs.length=ys.length->(xs.zip ys).map (·.1)=xs
 | [],[],_=>rfl
 | [],_::_,h=>by simp at h
 | _::_,[],h=>by simp at h
 | x::xs,y::ys,h=>by rw[Ue,L_,xG (by simpa using h)]
theorem zy{α β:Type}{f:α->β}(hf:∀x y,f x=f y->x=y){l:List α}:(l.map f).Nodup↔l.Nodup:=by
 unfold List.Nodup;rw[Tf];exact⟨λh=>h.imp λhne e=>hne (by rw[e]),λh=>h.imp λhne e=>hne (hf _ _ e)⟩
def kd(x:W7×Xh):Xl×Xh×W9:=(kk x.1,x.2,.bool true)
section
variable {P:Xa}{w:Xe}{a:Xh}{ps:WW}{bs:W2}{h:Xd}
end
section
variable {X:Cx}{rg:Gr}{l r:Xi}{fa fb:Fe}{ga gb:Gr}{pos p:Pos}{k:Nat}
theorem Bg{pins σ H s}(I:Inv X pins σ H s)(hq:cw X.K H b [.int m,.int n]):(tupleKind (aA X.prog X.w)).is s.heap (kk (m,n)) b:=by
 obtain⟨aQ,rv,⟨o,h1,h2,n',h3⟩,_⟩:=I.tuple hq;exact⟨o,aQ.toArray,n',h1,h2,h3,by simpa using jT (ks:=kk (m,n)) rv⟩
end
section
variable {X:Cx}{rg:Gr}{pos:Pos}
def insAt(xs:List α)(k:Nat)(y:α):List α:=xs.take k++y::xs.drop k
theorem av.insAt(r:av xs us)(ru:RelV y u)(k:Nat):av (Mi.insAt xs k y) (Mi.insAt us k u):=(r.take k).append (.cons ru (r.drop k))
theorem ak.insAt{K:Fg}{H:Hp}{ds:Xo}{vs:Xq}{d:D}{v:V}(r:ak K H ds vs)(rd:Rep K H d v)(k:Nat):ak K H (Mi.insAt ds k d) (Mi.insAt vs k v):=(r.take k).app (ak.cons rd (r.drop k))
theorem yG(xs:List α)(k:Nat)(y:α):(insAt xs k y).length=xs.length+1:=by
 unfold insAt;rw[r_,A_,SZ,List.length_drop];omega
def rInsert:V->Xq->Hp->VK->Prop:=λx vs H Q=>∃(l:Xh)(xs:Xq)(k:Nat)(y:V),x=.ref l/\vs=[.int (k:Int),y]/\H l=some (.lst xs)/\k<=xs.length/\xs.length<sizeLine/\Q .non (upd H l (.lst (insAt xs k y)))
theorem yu:Q3 X "list.insert" rInsert:=by
 intro pins s σ H x vs v us Q I rx rv h;obtain⟨l,xs,k,y,rfl,rfl,hH,hk,hz,q⟩:=h;cases rx;obtain⟨u,w,rfl,ru,NB⟩:=rv.two;obtain⟨t,rfl⟩:=ru;obtain⟨z,aQ,n,r,hl,e⟩:=I.lstM hH;have hb:=Sz;have hf:¬(!Builtin.List.listFitsIndex (k:Int))=true:=by
  rw[fitsIndex_both (by omega) (by omega)];exact P_
 have hsz:aQ.toArray.size<=sizeLine:=by rw[u_];omega
 generalize hkk:(k:Int)=kz at hf ⊢;have M:=AutoListH.list_insert_list_int_val_1 l aQ.toArray n kz t w hf hsz;refine call_meets F.slot_list_insert ⟨_,e,rfl⟩ F.entry_list_insert (F.args_list_insert_3 _ _ _) M ⟨e,?_⟩;subst hkk;refine⟨.non,_,I.lset hH e ?_ (av.insAt r NB k) (by rw[yG];omega),rfl,q⟩;simp only[u_];rw[k_ (by omega),SO,Nat.min_eq_left (by omega)];simp[insAt,List.push_toArray,List.extract_toArray,Vz]
def Bo(i:Nat)(fk f:Fe):Fs:=λenv=>match env[i]? with
 | some (.O (.L ds))=>(fk env).bind λkd=>(f env).bind λd=>match kd with
  | .int j=>if 0<=j/\j<=ds.length/\ds.length<16000000 then some (.nx (env.set i (.O (.L (insAt ds j.toNat d)))))else none
  | _=>none
 | _=>none
theorem Nl(i:Nat)(hk:PD X .cl ke fk)(he:PD X .cl e fe)(hN:X.N[i]?=some x:=by rfl)(hv:xy X.env.scope x:=by first | exact Or.inl rfl | exact Or.inr (Or.inl rfl) | exact Or.inr (Or.inr rfl))
  (hd:(x==("__debug__":Str))=false:=by decide) (dO:(x==("__classdict__":Str))=false:=by decide) (hst:starEach [ke,e] X.env=(false,eval ke X.env)::starEach [e] X.env:=by rfl) (hst2:starEach [e] X.env=[(false,eval e X.env)]:=by rfl)
  (jJ:attributeBase (.Name x px) "insert" X.env (eval (.Name x px) X.env)=eval (.Name x px) X.env:=by rfl)
  (CM:((backTo be (starEach [ke,e] X.env)).all (λx=>!x.1)&&(backToKw be (keywordEach [] X.env)).all (λx=>x.1.isSome)
   && decide (([ke,e]:W3).length+([]:List Keyword).length+(if([]:List Keyword).isEmpty then 0 else 1)<30))=true:=by rfl)
  (jK:(apos.endLine==be.line)=true:=by rfl) (eO:(backTo be (starEach [e] X.env)).any (·.1)=false:=by rfl)
  (hs:swapsWith (.Call (.Attribute (.Name x px) "insert" apos) [ke,e] [] be) none pos.line X.env=pure false:=by rfl) :
  SD X rg (.Expr (.Call (.Attribute (.Name x px) "insert" apos) [ke,e] [] be) pos) (Bo i fk fe):=by
 refine PS.imp (jE (GL PySem.F.plainAttrs_list PySem.F.slot_list_insert PySem.F.type_list_insert yu (bH hN hv hd dO) (aJ hk (aJ he bN hst2) hst) jJ CM jK hst eO) hs) λE σ H aC=>?_;obtain⟨env,B,Z,o,R,e,kq⟩:=aC;unfold Bo at e
 split at e
 .rename_i ds hi;obtain⟨kd,e1,e⟩:=b_.mp e;obtain⟨d,e2,e⟩:=b_.mp e;cases kd<;>try cases e
  rename_i j _;obtain⟨⟨h0,h1,h2⟩,rfl⟩:=kX e;obtain⟨y,e3,a,o,e4,e5,e6,vs,rfl,r⟩:=R.sl i _ hi;subst e4;refine⟨_,e3,.inl ⟨rfl,vs,de.of e5⟩,env,B,Z,_,R,e1,λv Z1 H1 x1 g1=>⟨env,B,Z1,_,R.ext x1,e2,λu Z2 H2 x2 g2=>?_⟩⟩;have x12:=x1.trans x2;have R2:=R.ext x12;have hl:=r.len;refine⟨a,vs,j.toNat,u,rfl,by rw[g1.int,Int.toNat_of_nonneg h0],x12.h _ _ e5,by omega,by rw[Sz];omega,?_⟩;obtain⟨R3,x3⟩:=R2.wr hi e3 (bU.l (ak.insAt (ak.mono x12.z ds r) g2 j.toNat));exact kq σ Z2 _ ((x12.part R.bh).transB x3) R3
 .cases e
end
section
variable {X:Cx}{rg:Gr}{l r:Xi}{fa fb:Fe}{ga gb:Gr}{pos p p3:Pos}
end
section
variable {X:Cx}{tg:Xi}
end
section
variable {prog:Xa}{w:Xe}{A:Xb}{E:WR}{s:W_}{e i l:Xh}{k:Nat}{xs:WY}{x old:W9}{it:Nat->Xd->Prop}{at_:WY->Xd->Prop}
theorem Ay{Q:WR}(S:Src prog w i l it at_)(he:IsEnum s.heap e i k old)(hit:it k s.heap)(CV:at_ xs s.heap)(hx:xs[k]?=some x)(hne:e≠i)
  (hQ:∀(g h':Xd),IsEnumOut h' e i ((k:Int)+1) x s.sz->it (k+1) h'->g.objs.size=s.sz->(∀b o,b≠e->b≠i->s.heap.get? b=some o->g.get? b=some o)->
   (∀b o,b≠e->(g.push {cls:=.type "tuple",data:=.seq #[.int k s.toks,x]}).get? b=some o->h'.get? b=some o)->Q (.ref s.sz) {s with heap:=h',toks:=s.toks+1}) :
  wpAny (model prog w) A (Builtin.«enumerate.__next__» ⟨[.ref e],[]⟩) (λf s'=>∃v,f=.done (.ret v)/\Q v s') E s:=by
 obtain⟨hp,gn,d,tk,os⟩:=s;refine(show wpAny _ _ (field (.ref e) 2 >>= _) _ _ _ from a_ (S8 he rfl rfl (a_ (S.nxt hit CV hx λg1 Rn s1=>?_))))
 replace s1:Heap.SameBut i hp g1:=s1
 have Qn:IsEnum g1 e i k old:=(s1.2 e hne).trans he;refine(show wpAny _ _ (field (.ref e) 3 >>= _) _ _ ⟨g1,gn,d,tk,os⟩from a_ (S8 Qn rfl rfl ?_));refine(show wpAny _ _ (field (.ref e) 4 >>= _) _ _ ⟨g1,gn,d,tk,os⟩from a_ (S8 Qn rfl rfl ?_));refine(show wpAny _ _ (mkInt k >>= _) _ _ ⟨g1,gn,d,tk,os⟩from a_ (wpAny_mkInt ?_));refine(show wpAny _ _ (setField (.ref e) 3 (rawInt ((k:Int)+1)) >>= _) _ _ ⟨g1,gn,d,tk+1,os⟩from a_ (Tq Qn (by simp) λg2 vQ s2=>?_))
 replace s2:Heap.SameBut e g1 g2:=s2
 replace vQ:IsEnum g2 e i ((k:Int)+1) old:=vQ
 refine(show wpAny _ _ (setField (.ref e) 4 .none >>= _) _ _ ⟨g2,gn,d,tk+1,os⟩from a_ (Tq vQ (by simp) λg3 he3 s3=>?_))
 replace s3:Heap.SameBut e g2 g3:=s3
 replace he3:IsEnum g3 e i ((k:Int)+1) old:=he3
 refine(show wpAny _ _ (newTuple [.int k tk,x] >>= _) _ _ ⟨g3,gn,d,tk+1,os⟩from a_ (wpAny_newTuple ?_));have OA:IsEnum (g3.push {cls:=.type "tuple",data:=.seq #[.int k tk,x]}) e i ((k:Int)+1) old:=e_ _ he3;have hit3:it (k+1) g3:=S.itx (S.itx Rn (KP s2.extBut (Tg hne))) (KP s3.extBut (Tg hne));have NW:it (k+1) (g3.push {cls:=.type "tuple",data:=.seq #[.int k tk,x]}):=S.itx hit3 λo q=>e_ _ q;have hsz:g3.objs.size=hp.objs.size:=by rw[s3.1,s2.1,s1.1]
 have hk3:∀b o,b≠e->b≠i->hp.get? b=some o->g3.get? b=some o:=λb o b1 b2 q=>s3.extBut b o b1 (s2.extBut b o b1 (s1.extBut b o b2 q));generalize hh:g3.push {cls:=.type "tuple",data:=.seq #[.int k tk,x]}=g4 at OA NW;refine(show wpAny _ _ (Builtin.SmallTypes.ownedTupleIsFree (.ref e) >>= _) _ _ ⟨g4,gn,d,tk+1,os⟩from ?_);rw[hsz];refine a_ ?_;unfold Builtin.SmallTypes.ownedTupleIsFree;refine a_ (S8 OA rfl rfl (d_ ?_));simp only[Um];refine a_ (Vn (a_ (S8 OA rfl rfl (a_ (Tq OA (by simp) λg5 he5 s5=>?_)))))
 replace s5:Heap.SameBut e g4 g5:=s5
 replace he5:IsEnum g5 e i ((k:Int)+1) x:=he5
 refine(show wpAny _ _ (Builtin.SmallTypes.ownedTupleHandOut (.ref e) (.ref hp.objs.size) >>= _) _ _ ⟨g5,gn,d,tk+1,os⟩from a_ ?_);unfold Builtin.SmallTypes.ownedTupleHandOut;refine a_ (Tq he5 (by simp) λg6 he6 s6=>?_)
 replace s6:Heap.SameBut e g5 g6:=s6
 replace he6:IsEnumOut g6 e i ((k:Int)+1) x hp.objs.size:=he6
 refine Tq he6 (by simp) λg7 he7 s7=>?_
 replace s7:Heap.SameBut e g6 g7:=s7
 replace he7:IsEnumOut g7 e i ((k:Int)+1) x hp.objs.size:=he7
 refine a_ (VX (d_ ⟨_,rfl,hQ g3 g7 he7 (S.itx (S.itx (S.itx NW (KP s5.extBut (Tg hne))) (KP s6.extBut (Tg hne))) (KP s7.extBut (Tg hne))) hsz hk3 λb o b1 q=>?_⟩));rw[hh]at q;exact s7.extBut b o b1 (s6.extBut b o b1 (s5.extBut b o b1 q))
theorem Ad(S:Src prog w i l it at_)(he:IsEnum s.heap e i k old)(hit:it k s.heap)(CV:at_ xs s.heap)(hx:xs[k]?=some x)(hne:e≠i)
  (hQ:∀(g h':Xd),IsEnumOut h' e i ((k:Int)+1) x s.sz->it (k+1) h'->g.objs.size=s.sz->(∀b o,b≠e->b≠i->s.heap.get? b=some o->g.get? b=some o)->
   (∀b o,b≠e->(g.push {cls:=.type "tuple",data:=.seq #[.int k s.toks,x]}).get? b=some o->h'.get? b=some o)->Q (some (.ref s.sz)) {s with heap:=h',toks:=s.toks+1}):wpAny (model prog w) A (pyNext (.ref e)) Q E s:=by
 have hT:s.TypeIs (.ref e) "enumerate":=⟨_,he,rfl⟩;unfold pyNext;exact a_ (UX (S1 hT UY (SA UY hT F.entry_enumerate_next (Ay S he hit CV hx hne λg h' b1 b2 b3 b4 b5=>d_ (hQ g h' b1 b2 b3 b4 b5)) (F.args_enumerate_next_1 _))))
theorem Aa(hh:A.handled=none)(S:Src prog w i l it at_)(he:IsEnum s.heap e i k old)(hit:it k s.heap)(CV:at_ xs s.heap)(hx:xs[k]?=none)
  (hQ:∀h',Heap.ExtBut i s.heap h'->Q none {s with heap:=h'}):wpAny (model prog w) A (pyNext (.ref e)) Q E s:=by
 have hT:s.TypeIs (.ref e) "enumerate":=⟨_,he,rfl⟩;unfold pyNext;refine a_ (UX (S1 hT UY (SA UY hT F.entry_enumerate_next ?_ (F.args_enumerate_next_1 _))));refine(show wpAny _ _ (field (.ref e) 2 >>= _) _ _ _ from a_ (S8 he rfl rfl (a_ (S.fin hh hit CV hx λh' y ud hy=>?_))));obtain⟨o,ho,hc⟩:=hy;exact a_ (Uc ⟨o,ho,hc⟩ isSubtype_stop (d_ (hQ _ ud)))
theorem JI{es:W3}{x1:Nat}{pos:Pos}{n:Int}{T:Xh}{Q:Unit->W_->Prop}(he:IsEnumOut s.heap e i n x T)(hQ:∀h',IsEnum h' e i n x->Heap.SameBut e s.heap h'->Q () {s with heap:=h'}) :
  wpAny (model prog w) A (letOwnedTupleGo (.Tuple es x1 pos) (.ref e) (.ref T)) Q E s:=by
 unfold letOwnedTupleGo;refine a_ (wpAny_load he ?_);show wpAny _ _ (if(["enumerate","zip","dict_itemiterator","dict_reverseitemiterator","odict_iterator","itertools.zip_longest","itertools.pairwise"].contains "enumerate"&&(#[rawInt T,.bool false,.ref i,rawInt n,.none,x]:Array W9)[0]?==some (rawInt T))=true then _ else _) Q E s;rw[j_ (by simp)];exact a_ (Vn (show wpAny _ _ (setField (.ref e) 0 .none) Q E s from Tq he (by simp) λh' ud hs'=>hQ h' ud hs'))
end
def Oj(S:Hp->Xq->Prop):It:=
 ⟨λi H=>∃xs x,S H xs/\xs[i]?=some x,
  λi H v H'=>∃(q:Xh),H q=none/\v=.ref q/\∀xs x,S H xs->xs[i]?=some x->H'=upd H q (.tup [.int (i:Nat),x]),
  λi H=>∃xs,S H xs/\xs.length<=i⟩
theorem pv{P:Xa}{w:Xe}{K:Fg}{es:W3}{k:Nat}{pos:Pos}{e i l:Xh}{it:Nat->Xd->Prop}{at_:WY->Xd->Prop}{S:Hp->Xq->Prop}(W:Src P w i l it at_)(K1:Qm K l S at_)(hne:e≠i) :
  Turn P w K (.Tuple es k pos) (Oj S) [e,i] e (λn h=>(∃old,IsEnum h e i (n:Nat) old)/\it n h) where
 mem:=by simp
 obj:=λn h ⟨⟨old,he⟩,h1⟩ c hc=>by
  simp only[t_,SY,U1]at hc;rcases hc with rfl | rfl
  .exact⟨_,he,λv q=>by cases q⟩
  .exact W.obj h1
 keep:=λn h h' ⟨⟨old,he⟩,h1⟩ kk=>⟨⟨old,kk e (by simp) _ he⟩,W.itx h1 λo q=>kk i (by simp) o q⟩
 item:=by
  intro X hP hw hK hc n pins s σ H E I hf st hg;subst hP hw;obtain⟨⟨old,he⟩,h1⟩:=st;obtain⟨xs,x,q1,hx⟩:=hg;obtain⟨us,r1,m1⟩:=K1.get hK I q1;obtain⟨u,hu,ru⟩:=r1.get hx;refine Ad W he h1 m1 hu hne λg g' b1 b2 b3 b4 b5=>?_;have hT:H s.sz=none:=I.hok.fresh (h_ _);have ne:∀c∈[e,i],c<s.sz:=λc hc=>by
   simp only[t_,SY,U1]at hc;rcases hc with rfl | rfl
   .exact q_ he
   .obtain⟨o,ho,_⟩:=W.obj h1;exact q_ ho
  have I1:L2.Inv X pins σ H {s with heap:=g,toks:=s.toks+1}:=lR I hf λc o hc q=>b4 c o (λz=>hc (by simp[z])) (λz=>hc (by simp[z])) q;have I2:L2.Inv X pins σ (upd H g.objs.size (.tup [.int n,x])) {s with heap:=g.push {cls:=.type "tuple",data:=.seq #[.int n s.toks,u]},toks:=s.toks+1}:=
   I1.laid (λc o q=>e_ _ q) (h_ _) (show aV X.prog X.w _ _ _ (.tup [.int n,x])from⟨by have:=Sz;simp;lia,[.int n s.toks,u],.cons ⟨_,rfl⟩ (.cons ru .nil),IsTup.new _ _⟩)
  rw[b3]at I2;have fz:∀c∈[e,i],bM X pins (upd H s.sz (.tup [.int n,x])) c:=λc hc=>⟨by rw[ar (z_ (ne c hc))];exact(hf c hc).1,(hf c hc).2⟩;have I3:L2.Inv X pins σ (upd H s.sz (.tup [.int n,x])) {s with heap:=g',toks:=s.toks+1}:=lR (s:={s with heap:=g.push {cls:=.type "tuple",data:=.seq #[.int n s.toks,u]},toks:=s.toks+1}) (ch:=[e]) I2 (λc hc=>fz c (by simp at hc;simp[hc])) λc o hc q=>b5 c o (λz=>hc (by simp[z])) q;refine⟨_,rfl,JI b1 λg2 vQ s2=>?_⟩;have I4:L2.Inv X pins σ (upd H s.sz (.tup [.int n,x])) {s with heap:=g2,toks:=s.toks+1}:=lR (s:={s with heap:=g',toks:=s.toks+1}) (ch:=[e]) I3 (λc hc=>fz c (by simp at hc;simp[hc])) λc o hc q=>s2.extBut c o (λz=>hc (by simp[z])) q;refine⟨.ref s.sz,_,I4,rfl,⟨s.sz,hT,rfl,λK8 x' p1 jI=>?_⟩,⟨⟨u,vQ⟩,W.itx b2 (KP s2.extBut (Tg hne))⟩,λc hc=>(fz c hc).1⟩;cases K1.inj hK I q1 p1;rw[hx]at jI;cases jI
  rfl
 done:=by
  intro X hP hw hK hc n pins s σ H E I hf st hg;subst hP hw;obtain⟨⟨old,he⟩,h1⟩:=st;obtain⟨xs,q1,hl⟩:=hg;obtain⟨us,r1,m1⟩:=K1.get hK I q1;have e1:=r1.length;refine Aa (I.ok.hd hc) W he h1 m1 (K_ (by lia)) λg' kk=>⟨rfl,?_⟩;exact lR (ch:=[i]) I (λc hc=>hf c (by simp at hc;simp[hc])) λc o hc q=>kk c o (λz=>hc (by simp[z])) q
 self:=λ_ n _ _ _ ⟨⟨_,he⟩,_⟩ h=>Wy he h
abbrev Q4(c:String)(h:Xd)(l:Xh):Xd:=(Ol c h l).push {cls:=.type "enumerate",data:=.fields #[.none,.bool false,.ref h.objs.size,rawInt 0,.none,.none]}
theorem zp(l:Xh)(items:Array W9)(n:Nat)(dct:W0)(sl:WT):Meets (Builtin.«enumerate.__new__» ⟨[.type "enumerate",.ref l],[]⟩) (λ_ R s=>s.heap.get? l=some {cls:=.type "tuple",dict:=dct,data:=.seq items n,slots:=sl}/\
   R (.ok (.ret (.ref (Ol "tuple_iterator" s.heap l).objs.size))) {s with heap:=Q4 "tuple_iterator" s.heap l}):=
 .of_wp λprog w A R s h=>by
  obtain⟨hp,g,d,tk,os⟩:=s;obtain⟨hl,h⟩:=h;have hsub:=sub_enumerate;have hL:Heap.IsTuple (Shared.heap ⟨hp,g,d,tk,os⟩) l items:=⟨_,hl,rfl,n,rfl⟩
  wp_walk using UC hl
  refine wpAny_stack_any λst=>d_ ?_
  split
  .rename_i c _ _ _ _ _;cases(c==Value.type "enumerate")
   .wp_walk using UC hl,Vm hL
    exact⟨_,rfl,h⟩
   .wp_walk using UC hl,Vm hL
    exact⟨_,rfl,h⟩
  .wp_walk using UC hl,Vm hL
   exact⟨_,rfl,h⟩
theorem vL(hL:s.heap.IsTuple l items)
  (h:∀h',IsEnum h' (s.sz+1) s.sz 0 .none->h'.IsTupleIter s.sz l 0->(∀b o,s.heap.get? b=some o->h'.get? b=some o)->Q (.ref (s.sz+1)) {s with heap:=h'}) :
  wpAny (model prog w) A (call (.type "enumerate") [.ref l]) Q E s:=by
 obtain⟨⟨c,dct,dt,sl⟩,hl,hc,n,hd⟩:=hL
 replace hc:c=.type "tuple":=hc
 replace hd:dt=.seq items n:=hd
 subst hc hd;refine callType_new F.called_enumerate (by decide) (F.typeCall_enumerate_1 _) (F.newCall_enumerate_1 _) (λobj=>F.args_object_init_2 obj _) F.entry_enumerate_new (zp l items n dct sl) ⟨hl,?_⟩;have hz:(Ol "tuple_iterator" s.heap l).objs.size=s.sz+1:=Vy ..;show _/\_;rw[hz];have he:IsEnum (Q4 "tuple_iterator" s.heap l) (s.sz+1) s.sz 0 .none:=by
  have:=n_ (Ol "tuple_iterator" s.heap l) (o:={cls:=.type "enumerate",data:=.fields #[.none,.bool false,.ref s.sz,rawInt 0,.none,.none]}) rfl;rw[hz]at this;exact this
 exact⟨⟨_,he,rfl⟩,h _ he ⟨_,e_ _ (n_ _ rfl),rfl,rfl⟩ λb o x=>e_ _ (e_ _ x)⟩
section
variable {X:Cx}{es:W3}{kk:Nat}{tp:Pos}
theorem uD:bootBuiltins "enumerate"=some (.type "enumerate"):=by decide +kernel
def MS(K:Fg)(ta:TA):TI:=λσ H R=>ta σ H λvs H1=>∃(l:Xh)(xs:Xq),vs=[.ref l]/\((cw K H1 l xs/\R (Oj (λH xs=>cw K H l xs)) H1)\/(de K H1 l xs/\R (Oj (λH xs=>de K H l xs)) H1))
theorem Ej(hg:Gl X "enumerate")(hm:X.mg "enumerate"=none)(ha:PA X [a] ta)(hs:starEach [a] X.env=[(false,eval a X.env)]:=by rfl):PI X (.Tuple es kk tp) (.Call (.Name "enumerate" p) [a] [] pos) (MS X.K ta):=by
 intro pins s σ H R I h;refine Call_ (gM I hg hm uD (T8 (aZ (ha pos pins s σ H _ I h) λus s1 aC=>?_) hs rfl));obtain⟨vs,H1,I1,r1,q1⟩:=aC;obtain⟨l,xs,e,q⟩:=q1;subst e;obtain⟨u,rfl,ru⟩:=vals1 r1;cases ru;have fp:∀b∈[s1.sz+1,s1.sz],bM X pins H1 b:=λb hb=>by
  have zE:s1.sz<=b:=by
   simp only[t_,SY,U1]at hb;rcases hb with rfl | rfl
   .exact UJ _
   .exact h_ _
  exact I1.fpOk zE (I1.hok.fresh zE)
 rcases q with ⟨m,q⟩ | ⟨m,q⟩
 .obtain⟨us,_,p1,_⟩:=I1.tuple m;refine vL (show s1.heap.IsTuple l us.toArray from p1) λh' he hi old=>Wy he ?_;exact⟨s1.sz+1,_,_,_,H1,rfl,I1.kept old,pv (Pp _ _) (PJ l) (WC _),⟨⟨_,he⟩,hi⟩,fp,q⟩
 .obtain⟨us,_,p1,_⟩:=I1.list m;refine call_enumerate_list p1.isList λh' he hi _ old=>Wy he ?_;exact⟨s1.sz+1,_,_,_,H1,rfl,I1.kept old,pv (Pz _ _) (O0 l) (WC _),⟨⟨_,he⟩,hi⟩,fp,q⟩
def je:Nat->Xo->Xo
 | _,[]=>[]
 | n,d::ds=>.tup [.int (n:Int),d]::je (n+1) ds
theorem ft:∀(n:Nat)(ds:Xo),(je n ds).length=ds.length
 | _,[]=>rfl
 | n,d::ds=>by simp[je,ft (n+1) ds]
theorem jG:∀{n:Nat}{ds:Xo}{i:Nat}{d:D},ds[i]?=some d->(je n ds)[i]?=some (.tup [.int ((n+i:Nat):Int),d])
 | n,[],i,d,h=>by simp at h
 | n,x::ds,0,d,h=>by cases h;rfl
 | n,x::ds,i+1,d,h=>by
  show(je (n+1) ds)[i]?=_;rw[jG (by simpa using h),show n+1+i=n+(i+1) by lia]
theorem pH{K:Fg}{Z1:Hp}{S:Hp->Xq->Prop}{vs:Xq}{xs:Xo}(m1:∀{H H'},aH H H'->S H vs->S H' vs)(q1:S Z1 vs)(r1:ak K Z1 xs vs):Walk K Z1 (je 0 xs) (Oj S):=λZ' H' s1 s2 i=>by
 have l1:=r1.len;have w1:=m1 (s1.trans s2) q1;rw[ft];refine⟨λhi=>?_,λhi=>⟨vs,w1,by lia⟩⟩;have h1:i<vs.length:=by lia
 refine⟨⟨vs,vs[i],w1,f_ h1⟩,λx H'' ⟨q,hq,e,hy⟩=>?_⟩;subst e;have e2:=hy vs _ w1 (f_ h1);subst e2;obtain⟨d1,e1,p1⟩:=r1.getV (f_ h1);have s3:aH Z' (upd Z' q (.tup [.int (i:Nat),vs[i]])):=b9 (s2.free hq);exact⟨_,_,Ex.new s2 hq,jG e1,q,_,rfl,cw.of ai,ak.mono s3 _ ⟨_,_,rfl,by rw[Sq];rfl,_,_,rfl,Rep.mono s1 _ p1,rfl⟩⟩
def Dj(f:Fe):Fi:=λenv=>(f env).bind λd=>match d with
 | .tup xs=>some (je 0 xs)
 | .lst xs=>some (je 0 xs)
 | _=>none
theorem uM(hm:X.mg "enumerate"=none)(h:PD X .cl l f)(hg:Gl X "enumerate":=by rfl)(hs:starEach [l] X.env=[(false,eval l X.env)]:=by rfl):ID X (.Tuple es kk tp) (.Call (.Name "enumerate" p) [l] [] pos) (Dj f):=
 PI.imp (Ej hg hm (aJ h bN hs) hs) λσ H R aC=>by
  obtain⟨env,B,Z,ds,Rr,e,k⟩:=aC;obtain⟨d,e1,e2⟩:=b_.mp e;cases d<;>cases e2
  .refine⟨env,B,Z,_,Rr,e1,λv Z1 H1 x1 g1=>?_⟩;obtain⟨l1,vs,rfl,w1,r1⟩:=g1;exact⟨l1,vs,rfl,.inl ⟨bJ x1.zh w1,k _ Z1 H1 x1 (pH (λs q=>bJ s q) w1 r1)⟩⟩
  .refine⟨env,B,Z,_,Rr,e1,λv Z1 H1 x1 g1=>?_⟩;obtain⟨l1,vs,rfl,w1,r1⟩:=g1;exact⟨l1,vs,rfl,.inr ⟨x1.zh.seq w1,k _ Z1 H1 x1 (pH (λs q=>s.seq q) w1 r1)⟩⟩
end
end Mi
namespace Mi
open PySem PySem.Spec PyProof.Rows L2
section
variable {X:Cx}{l r:Xi}{fa fb:Fe}{ga gb:Gr}{pos p:Pos}{k:Nat}
def GJ(K:Fg):R2:=λx y H Q=>∃a b xs ys,x=.ref a/\y=.ref b/\cw K H a xs/\cw K H b ys/\xs.length+ys.length<=sizeLine/\(xs=[]->Q (.ref b) H)/\(xs≠[]->ys=[]->Q (.ref a) H)/\(xs≠[]->ys≠[]->∀p,H p=none->Q (.ref p) (upd H p (.tup (xs++ys))))
theorem FH:gw X (binaryOp .Add) (GJ X.K):=by
 intro pins s σ H x y v u Q I rx ry h;obtain⟨a,b,xs,ys,rfl,rfl,ha,hb,hz,q0,q1,q2⟩:=h
 by_cases hx:xs=[]
 .cases rx;cases ry;obtain⟨aQ,r1,p1,_⟩:=I.tuple ha;obtain⟨vT,r2,p2,_⟩:=I.tuple hb;obtain⟨⟨cls,dd,data,sl⟩,ho,hc,n,hd⟩:=id p1;obtain⟨⟨Kl,zB,data2,Ds⟩,Dt,rK,n2,hd2⟩:=id p2;simp only at hc hd rK hd2;subst hc hd rK hd2;have hi:aQ=[]:=r1.nil_iff.mpr hx;exact concat_meets ⟨_,ho,rfl⟩ ⟨_,Dt,rfl⟩ noFill_tuple_add seq_tuple_add Vv Vo (Vd _ _) (tuple_addW0 a b aQ.toArray vT.toArray n n2 dd zB sl Ds (by simp[hi])) ⟨ho,Dt,⟨.ref b,H,I,rfl,q0 hx⟩⟩
 .exact Ed pins s σ H _ _ v u Q I rx ry ⟨a,b,xs,ys,rfl,rfl,ha,hb,hx,hz,q1 hx,q2 hx⟩
def BL:D->D->Xp
 | .tup xs,.tup ys=>if xs.length+ys.length<=16000000 then some (.tup (xs++ys))else none
 | _,_=>none
theorem ak.nil_iff{K:Fg}{H:Hp}{ds:Xo}{vs:Xq}(h:ak K H ds vs):vs=[]↔ds=[]:=by
 have:=h.len;cases ds<;>cases vs<;>simp at this ⊢
theorem JR{K:Fg}:ck K .cl BL (GJ K):=λ{Z H x y dx dy d Q} s h1 h2 e kq=>by
 cases dx<;>try cases e
 all_goals (cases dy<;>try cases e)
 rename_i xs ys;obtain⟨hl,rfl⟩:=kX e;rcases h1 with h1 | ⟨_,_,_,_,e1,_⟩ | ⟨_,_,_,e1,_⟩ | ⟨_,_,_,_,_,e1,_⟩
 .rcases h2 with h2 | ⟨_,_,_,_,e1,_⟩ | ⟨_,_,_,e1,_⟩ | ⟨_,_,_,_,_,e1,_⟩
  .obtain⟨a,vs,rfl,q1,r1⟩:=id h1;obtain⟨b,us,rfl,q2,r2⟩:=id h2;refine⟨a,b,vs,us,rfl,rfl,bJ s q1,bJ s q2,by rw[<- r1.len,<- r2.len,Sz];lia,λz=>?_,λz1 z=>?_,λz1 z2 p hp=>?_⟩
   .have hx:=r1.nil_iff.mp z;subst hx;exact kq _ Z H (Ex.refl s) h2
   .have hy:=r2.nil_iff.mp z;subst hy;rw[SC]at kq;exact kq _ Z H (Ex.refl s) h1
   .have s1:aH Z (upd Z p (.tup (vs++us))):=b9 (s.free hp);exact kq _ _ _ (Ex.new s hp) ⟨p,_,rfl,cw.of ai,ak.mono s1 _ (r1.app r2)⟩
  .cases e1
  .cases e1
  .cases e1
 .cases e1
 .cases e1
 .cases e1
theorem Af(ha:PD X ga l fa)(hb:PD X gb r fb):PD X .cl (.BinOp l .Add r pos) (ao BL fa fb):=ou FH JR ha hb
end
def Dm:Key->Key->Option Bool
 | .inl a,.inl b=>some (decide (a<b))
 | .inr a,.inr b=>some (decide (a.cps.toList<b.cps.toList))
 | _,_=>none
def dN:Xl->Xl->Option Bool
 | [],[]=>some false
 | [],_::_=>some true
 | _::_,[]=>some false
 | x::xs,y::ys=>if x=y then dN xs ys else Dm x y
inductive cB:List Value->List Key->Prop
 | nil:cB [] []
 | int (n:Int) (t:Tok) {vs ks}:cB vs ks->cB (.int n t::vs) (.inl n::ks)
 | str (x:Str) (t:Tok) {vs ks}:cB vs ks->cB (.str x t::vs) (.inr x::ks)
theorem cB.length:∀{vs:WY}{ks:Xl},cB vs ks->vs.length=ks.length
 | _,_,.nil=>rfl
 | _,_,.int _ _ h=>by simp[cB.length h]
 | _,_,.str _ _ h=>by simp[cB.length h]
theorem cB.of:∀{ks:Xl}{us:WY},av (ks.map kV) us->cB us ks
 | [],_,r=>by rw[Vt]at r;cases r;exact .nil
 | .inl n::ks,_,r=>by
  rw[L_]at r;cases r with
  | cons h t=>obtain⟨tk,rfl⟩:=(show ∃t,_=Value.int n t from h);exact .int n tk (cB.of t)
 | .inr x::ks,_,r=>by
  rw[L_]at r;cases r with
  | cons h t=>obtain⟨tk,rfl⟩:=(show ∃t,_=Value.str x t from h);exact .str x tk (cB.of t)
theorem sS(A:Xb)(s:W_)(a:Str)(t:Tok)(c:Str)(u:Tok)(prog:Xa)(w:Xe)(E:WR)(Q:WR)(h:Q (.bool (decide (a.cps.toList<c.cps.toList))) s) :
  wpAny (model prog w) A (richCompare .Lt (.str a t) (.str c u)) Q E s:=
 (PyProof.Rows.lt_str h:wpAny (model prog w) A (compareOp .Lt (.str a t) (.str c u)) Q E s)
section
open PySem.SeqAt
open PySem.AutoSeq1 (wpAny_loadPart')
open PySem.MeetsSeq PySem.MeetsSeq2 PySem.MeetsSeq3
theorem FG(hv:cB (y::vs) ns)(hw:cB (x::ws) ms):∃a c uu Dw,ns=a::uu/\ms=c::Dw/\cB vs uu/\cB ws Dw/\
  ∀(A:Xb)(s:W_)(q:Bool),(if a=c then dN uu Dw else Dm a c)=some q->∃e,SeqAt.EqAt A s y x e/\(e=true↔a=c)/\(e=false->∀(prog:Xa)(w:Xe)(E:WR)(Q:WR),Q (.bool q) s->wpAny (model prog w) A (richCompare .Lt y x) Q E s):=by
 cases hv with
 | int n t Dx=>
  cases hw with
  | int m u Kv=>
   refine⟨_,_,_,_,rfl,rfl,Dx,Kv,λA s q hq=>⟨(n==m),SeqAt.EqAt.int_int n t m u,by simp,λhe=>?_⟩⟩;have hne:n≠m:=by simpa using he
   rw[k_ (λz=>hne (Sum.inl.inj z))]at hq;cases hq;exact λprog w E Q h=>HT.sx A s n t m u prog w E Q h
  | str y u Kv=>
   refine⟨_,_,_,_,rfl,rfl,Dx,Kv,λA s q hq=>?_⟩;rw[k_ (λz=>nomatch z)]at hq;cases hq
 | str a t Dx=>
  cases hw with
  | int m u Kv=>
   refine⟨_,_,_,_,rfl,rfl,Dx,Kv,λA s q hq=>?_⟩;rw[k_ (λz=>nomatch z)]at hq;cases hq
  | str b u Kv=>
   refine⟨_,_,_,_,rfl,rfl,Dx,Kv,λA s q hq=>⟨(a==b),SeqAt.EqAt.str_str a t b u,by simp,λhe=>?_⟩⟩;have hne:a≠b:=by simpa using he
   rw[k_ (λz=>hne (Sum.inr.inj z))]at hq;cases hq;exact λprog w E Q h=>sS A s a t b u prog w E Q h
theorem og(l b:Xh)(items items2:Array W9)(n n2:Nat)(dd zB:W0)(sl Ds:WT)(ns ms:Xl)(q:Bool)(hi:cB items.toList ns)(hj:cB items2.toList ms)(hq:dN ns ms=some q) :
  Meets (Builtin.«tuple.__lt__» ⟨[.ref l,.ref b],[]⟩)
   (λ_ R s=>s.heap.get? l=some {cls:=.type "tuple",dict:=dd,data:=.seq items n,slots:=sl}/\s.heap.get? b=some {cls:=.type "tuple",dict:=zB,data:=.seq items2 n2,slots:=Ds}/\R (.ok (.ret (.bool q))) s):=
 .of_wp λprog w A R s h=>by
  obtain⟨hp,g,d,tk,os⟩:=s;obtain⟨hl,hb,h⟩:=h;have f2:=AutoSeq1.sub_tuple_tuple;have z1:items.size=ns.length:=by rw[<- hi.length];simp
  have z2:items2.size=ms.length:=by rw[<- hj.length];simp
  wp_walk using wpAny_loadPart' hl,wpAny_loadPart' hb,Tr _ (λrest b s'=>b.1=none/\s'=⟨hp,g,d,tk,os⟩/\∃(vs ws:WY)(uu Dw:Xl),rest=vs.zip ws/\
   cB vs uu/\cB ws Dw/\uu.length+items2.size=Dw.length+items.size/\dN uu Dw=some q) _
  case turn=>
   rintro⟨y,x⟩ rest b s' ⟨zE,rfl,vs,ws,uu,Dw,hz,Ho,Ro,hlen,hR⟩;cases vs with
   | nil=>rw[List.zip_nil_left]at hz;cases hz
   | cons v vs=>
    cases ws with
    | nil=>rw[List.zip_nil_right]at hz;cases hz
    | cons w' ws=>
     rw[Ue]at hz
     injection hz with hyx hrest
     injection hyx with hy hx
     subst hy hx;obtain⟨a,c,Rp,Qo,rfl,rfl,hv1,hw1,ask⟩:=FG Ho Ro;have Qp:(if a=c then dN Rp Qo else Dm a c)=some q:=hR;obtain⟨e,he,hiff,hlt⟩:=ask A.in1 ⟨hp,g,d,tk,os⟩ q Qp;simp only[A_]at hlen;refine a_ (he prog w _ _ ?_);cases e with
     | true=>
      rw[j_ (hiff.mp rfl)]at Qp
      wp_walk
      exact⟨rfl,rfl,_,_,_,_,hrest,hv1,hw1,by lia,Qp⟩
     | false=>
      have hri:=hlt rfl prog w
      wp_walk using hri
      exact⟨_,rfl,by simpa using h⟩
  case fin=>
   rintro⟨b1,b2⟩ s' ⟨zE,rfl,vs,ws,uu,Dw,hz,Ho,Ro,hlen,hR⟩;simp only at zE;subst zE;have l1:=Ho.length;have l2:=Ro.length;have hv:q=decide (items.size<items2.size):=by
    cases uu with
    | nil=>
     cases Dw with
     | nil=>
      simp only[TJ]at hlen;cases hR;exact(E_ (by lia)).symm
     | cons c Qo=>
      simp only[TJ,A_]at hlen;cases hR;exact(w_ (by lia)).symm
    | cons a Rp=>
     cases Dw with
     | nil=>
      simp only[TJ,A_]at hlen;cases hR;exact(E_ (by lia)).symm
     | cons c Qo=>
      cases vs with
      | nil=>simp at l1
      | cons v vs=>
       cases ws with
       | nil=>simp at l2
       | cons w' ws=>rw[Ue]at hz;cases hz
   rw[hv]at h
   wp_walk
   exact⟨_,rfl,by simpa [Builtin.Tuple.tupleCompareSizes]using h⟩
  case h=>
   exact⟨rfl,rfl,items.toList,items2.toList,ns,ms,rfl,hi,hj,by lia,hq⟩
end
section
variable {X:Cx}{l r:Xi}{fa fb:Fe}{ga gb:Gr}{pos p:Pos}{k:Nat}
def Li(K:Fg):R2:=λx y H Q=>∃a b ns ms q,x=.ref a/\y=.ref b/\cw K H a (ns.map kV)/\cw K H b (ms.map kV)/\dN ns ms=some q/\Q (.bl q) H
theorem Jc(hu:X.A.units<cLine):gw X (compareOp .Lt) (Li X.K):=by
 intro pins s σ H x y v u Q I rx ry h;obtain⟨a,b,ns,ms,c,rfl,rfl,ha,hb,hc,q⟩:=h;cases rx;cases ry;obtain⟨aQ,r1,p1,_⟩:=I.tuple ha;obtain⟨vT,r2,p2,_⟩:=I.tuple hb;obtain⟨⟨cls,dd,data,sl⟩,ho,gU,n,hd⟩:=id p1;obtain⟨⟨Kl,zB,data2,Ds⟩,Dt,rK,n2,hd2⟩:=id p2;simp only at gU hd rK hd2;subst gU hd rK hd2;exact richCompare_meets_room (op:=.Lt) ⟨_,ho,rfl⟩ ⟨_,Dt,rfl⟩ PySem.F.slot_tuple_lt PySem.F.entry_tuple_lt (PySem.F.args_tuple_lt_2 _ _) (og a b aQ.toArray vT.toArray n n2 dd zB sl Ds ns ms c (by simpa using cB.of r1) (by simpa using cB.of r2) hc)
  ⟨ho,Dt,show Value.bool c≠Value.notImplemented/\EP X pins σ Q (.bool c) s from⟨(λz=>nomatch z),⟨.bl c,H,I,rfl,q⟩⟩⟩ hu
def nF:Xo->Option Xl
 | []=>some []
 | .int i::r=>(nF r).bind λks=>some (.inl i::ks)
 | .str x::r=>(nF r).bind λks=>some (.inr x::ks)
 | _=>none
theorem e9{K:Fg}{H:Hp}:∀{ds:Xo}{ks:Xl}{vs:Xq},nF ds=some ks->ak K H ds vs->vs=ks.map kV
 | [],ks,vs,h,r=>by cases h;exact r
 | d::ds,ks,vs,h,r=>by
  obtain⟨v,rr,e,h1,h2⟩:=r;subst e;cases d<;>try cases h
  .obtain⟨gj,e1,e2⟩:=b_.mp h;cases e2;cases(show v=_ from h1);rw[e9 e1 h2];rfl
  .obtain⟨gj,e1,e2⟩:=b_.mp h;cases e2;cases(show v=_ from h1.1);rw[e9 e1 h2];rfl
def Mf:D->D->Xp
 | .tup xs,.tup ys=>(nF xs).bind λns=>(nF ys).bind λms=>(dN ns ms).bind λq=>some (.bl q)
 | _,_=>none
theorem MZ{K:Fg}:ck K .cl Mf (Li K):=λ{Z H x y dx dy d Q} s h1 h2 e kq=>by
 cases dx<;>try cases e
 all_goals (cases dy<;>try cases e)
 obtain⟨ns,e1,e⟩:=b_.mp e;obtain⟨ms,e2,e⟩:=b_.mp e;obtain⟨q,e3,e⟩:=b_.mp e;cases e;obtain⟨a,vs,rfl,q1,r1⟩:=h1.tup s;obtain⟨b,us,rfl,q2,r2⟩:=h2.tup s;cases e9 e1 r1;cases e9 e2 r2;exact⟨a,b,ns,ms,q,rfl,rfl,q1,q2,e3,kq _ Z H (Ex.refl s) rfl⟩
theorem LS(hr:a9 k X.A)(ha:PD X ga l fa)(hb:PD X gb r fb):PD X .cl (.Compare l [.Lt] [r] pos) (ao Mf fa fb):=AE (Jc (by have:=hr.un;lia)) MZ ha hb (gy _)
end
end Mi
namespace Mi
open PySem PySem.Spec PyProof.Rows L2
section
variable {prog:Xa}{w:Xe}{A:Xb}{E:WR}{s:W_}{z TI TO i1 i2 l1 l2 T:Xh}{k1 k2:Nat}{xs ys:WY}{x y:W9}{oT:Obj}{bz:Bool}
end
section
variable {prog:Xa}{w:Xe}{A:Xb}{E:WR}{s:W_}{z TI TO i1 i2 l1 l2:Xh}{xs ys:WY}
end
section
variable {X:Cx}{l r:Xi}{fa fb:Fe}{pos pos2 p p2:Pos}
end
section
variable {X:Cx}
variable {l r q:Xi}{fa fb fc:Fe}{ga gb gc:Gr}{pos p:Pos}
end
def wo:Xl->Bool
 | .inl _::_=>true
 | _=>false
section
variable {prog:Xa}{w:Xe}{A:Xb}{E:WR}{s:W_}
theorem HS:∀{xs ys:WY}{ks js:Xl}{q:Bool}{i:Nat},cB xs ks->cB ys js->dN ks js=some q->(i=0->wo ks=true/\wo js=true)->Q q s->
  PySem.W.KatLex prog w A true (decide (xs.length<ys.length)) Q (xs.zip ys) i s
 | _,_,_,_,q,i,.nil,.nil,h,_,hq=>by
  cases h;exact Vk (by simpa using hq)
 | _,_,_,_,q,i,.nil,.int _ _ r,h,_,hq=>by cases h;exact Vk (by simpa using hq)
 | _,_,_,_,q,i,.nil,.str _ _ r,h,_,hq=>by cases h;exact Vk (by simpa using hq)
 | _,_,_,_,q,i,.int _ _ r,.nil,h,_,hq=>by cases h;exact Vk (by simpa using hq)
 | _,_,_,_,q,i,.str _ _ r,.nil,h,_,hq=>by cases h;exact Vk (by simpa using hq)
 | _,_,_,_,q,i,.int n t r1,.str y u r2,h,_,hq=>by
  have h':(if(Sum.inl n:Key)=.inr y then _ else Dm (.inl n) (.inr y))=some q:=h;rw[k_ (λz=>nomatch z)]at h';cases h'
 | _,_,_,_,q,i,.str x t r1,.int m u r2,h,_,hq=>by
  have h':(if(Sum.inr x:Key)=.inl m then _ else Dm (.inr x) (.inl m))=some q:=h;rw[k_ (λz=>nomatch z)]at h';cases h'
 | _,_,_,_,q,i,@cB.int n t xs ks r1,@cB.int m u ys js r2,h,h0,hq=>by
  have h':(if(Sum.inl n:Key)=.inl m then dN ks js else Dm (.inl n) (.inl m))=some q:=h;refine PySem.W.kat_cons (SeqAt.EqAt.int_int n t m u prog w _ _ ?_)
  by_cases e:n=m
  .subst e;rw[j_ rfl]at h';rw[show(n==n)=true by simp];refine PySem.W.kat_yes ?_;have:=HS (i:=i+1) r1 r2 h' (λz=>by lia) hq;rw[show ∀(a b:W9),decide ((a::xs).length<(b::ys).length)=decide (xs.length<ys.length)from λa b=>by simp];exact this
  .rw[k_ (λz=>e (Sum.inl.inj z))]at h';cases h';rw[show(n==m)=false by simpa using e];refine PySem.W.kat_no ?_
   by_cases hi:i=0
   .subst hi;exact oneLt_int hq
   .rw[show(true&&i==0)=false by simp[hi]];exact PySem.W.kat_one _ _ (HT.sx A s n t m u prog w _ _ hq)
 | _,_,_,_,q,i,@cB.str x t xs ks r1,@cB.str y u ys js r2,h,h0,hq=>by
  have h':(if(Sum.inr x:Key)=.inr y then dN ks js else Dm (.inr x) (.inr y))=some q:=h;have hi:i≠0:=λz=>by have:=(h0 z).1;cases this
  refine PySem.W.kat_cons (SeqAt.EqAt.str_str x t y u prog w _ _ ?_)
  by_cases e:x=y
  .subst e;rw[j_ rfl]at h';rw[show(x==x)=true by simp];refine PySem.W.kat_yes ?_;have:=HS (i:=i+1) r1 r2 h' (λz=>by lia) hq;rw[show ∀(a b:W9),decide ((a::xs).length<(b::ys).length)=decide (xs.length<ys.length)from λa b=>by simp];exact this
  .rw[k_ (λz=>e (Sum.inr.inj z))]at h';cases h';rw[show(x==y)=false by simpa using e];refine PySem.W.kat_no ?_;rw[show(true&&i==0)=false by simp[hi]];exact PySem.W.kat_one _ _ (sS A s x t y u prog w _ _ hq)
end
def bP(h:Xd):WY->Xk->Prop
 | [],[]=>True
 | v::vs,ks::kss=>(∃a o xs n,v=.ref a/\h.get? a=some o/\o.cls=.type "tuple"/\o.data=.seq xs n/\cB xs.toList ks)/\bP h vs kss
 | _,_=>False
theorem bP.keeps(k:∀a o,h.get? a=some o->o.cls=.type "tuple"->h'.get? a=some o):∀{vs:WY}{kss:Xk},bP h vs kss->bP h' vs kss
 | [],[],t=>t
 | [],_::_,t=>t.elim
 | _::_,[],t=>t.elim
 | _::_,_::_,⟨⟨a,o,xs,n,e,ho,hc,hd,r⟩,t⟩=>⟨⟨a,o,xs,n,e,k a o ho hc,hc,hd,r⟩,bP.keeps k t⟩
theorem bP.at:∀{vs:WY}{kss:Xk}{i:Nat}{v:W9},bP h vs kss->vs[i]?=some v->∃a o xs n ks,v=.ref a/\h.get? a=some o/\o.cls=.type "tuple"/\o.data=.seq xs n/\kss[i]?=some ks/\cB xs.toList ks
 | [],[],i,v,_,e=>by simp at e
 | [],_::_,_,_,t,_=>t.elim
 | _::_,[],_,_,t,_=>t.elim
 | w::vs,ks::kss,0,v,⟨⟨a,o,xs,n,e,ho,hc,hd,r⟩,t⟩,e2=>by simp at e2;subst e2;exact⟨a,o,xs,n,ks,e,ho,hc,hd,rfl,r⟩
 | w::vs,ks::kss,i+1,v,⟨_,t⟩,e2=>by
  obtain⟨a,o,xs,n,gj,g⟩:=bP.at (i:=i) t (by simpa using e2);exact⟨a,o,xs,n,gj,by simpa using g⟩
theorem bP.firsts:∀{vs:WY}{kss:Xk},bP h vs kss->kss.all wo=true->∃fs,PySem.W.KatTups h vs fs/\fs.length=vs.length/\∀f∈fs,∃n t,f=Value.int n t
 | [],[],_,_=>⟨[],trivial,rfl,λ_ h=>by cases h⟩
 | [],_::_,t,_=>t.elim
 | _::_,[],t,_=>t.elim
 | w::vs,ks::kss,⟨⟨a,o,xs,n,e,ho,hc,hd,r⟩,t⟩,hh=>by
  rw[VR,F_]at hh;obtain⟨fs,h1,h2,h3⟩:=bP.firsts t hh.2;subst e;obtain⟨xs⟩:=xs;cases r with
  | nil=>cases hh.1
  | str x t r=>cases hh.1
  | int m tk r=>
   refine⟨.int m tk::fs,PySem.W.KatTups.cons ho hc hd (by simp) h1,by simp[h2],λf hf=>?_⟩;rcases t_.mp hf with rfl | hf
   .exact⟨_,_,rfl⟩
   .exact h3 f hf
section
variable {prog:Xa}{w:Xe}{A:Xb}{E:WR}{s:W_}
end
def jS:Xo->Option Xk
 | []=>some []
 | .tup xs::r=>(nF xs).bind λks=>(jS r).bind λkss=>some (ks::kss)
 | _=>none
section
variable {X:Cx}{l r:Xi}{fa fb:Fe}{ga gb:Gr}{pos p:Pos}
def oH(K:Fg)(H:Hp):Xq->Xk->Prop
 | [],[]=>True
 | v::vs,ks::kss=>(∃a,v=.ref a/\cw K H a (ks.map kV))/\oH K H vs kss
 | _,_=>False
theorem oH.of{K:Fg}{Z:Hp}:∀{ds:Xo}{vs:Xq}{kss:Xk},jS ds=some kss->ak K Z ds vs->oH K Z vs kss
 | [],vs,kss,h,r=>by cases h;cases(show vs=[]from r);trivial
 | d::ds,vs,kss,h,r=>by
  obtain⟨v,rr,e,h1,h2⟩:=r;subst e;cases d<;>try cases h
  obtain⟨ks,e1,h⟩:=b_.mp h;obtain⟨kss',e2,h⟩:=b_.mp h;cases h;obtain⟨a,us,rfl,q,r1⟩:=h1;cases e9 e1 r1;exact⟨⟨a,rfl,q⟩,oH.of e2 h2⟩
theorem oH.mono{K:Fg}{H H':Hp}(s:aH H H'):∀{vs:Xq}{kss:Xk},oH K H vs kss->oH K H' vs kss
 | [],[],t=>t
 | [],_::_,t=>t.elim
 | _::_,[],t=>t.elim
 | _::_,_::_,⟨⟨a,e,q⟩,t⟩=>⟨⟨a,e,bJ s q⟩,oH.mono s t⟩
theorem oH.heap{pins σ H s}(I:Inv X pins σ H s):∀{vs:Xq}{us:WY}{kss:Xk},oH X.K H vs kss->av vs us->bP s.heap us kss
 | [],_,[],t,r=>by cases r;trivial
 | [],_,_::_,t,_=>t.elim
 | _::_,_,[],t,_=>t.elim
 | _::_,_,_::_,⟨⟨a,e,q⟩,t⟩,r=>by
  subst e;cases r with
  | cons h r=>
   cases(show _=Value.ref a from h);obtain⟨aQ,rv,⟨o,h1,h2,n',h3⟩,_⟩:=I.tuple q;exact⟨⟨a,o,aQ.toArray,n',rfl,h1,h2,h3,by simpa using cB.of rv⟩,oH.heap I t r⟩
end
end Mi
namespace Mi
open PySem L2
mutual
theorem rM:∀(d:D),pl d=true->iJ d d=true
 | .non,_=>by simp[iJ]
 | .bl b,_=>by simp[iJ]
 | .int i,_=>by simp[iJ]
 | .str x,_=>by simp[iJ]
 | .tup ds,h=>by unfold iJ;exact kA ds (by unfold pl at h;exact h)
 | .lst ds,h=>by unfold iJ;exact kA ds (by unfold pl at h;exact h)
 | .dct _,h=>by unfold pl at h;cases h
 | .st _,h=>by unfold pl at h;cases h
 | .ln _,h=>by unfold pl at h;cases h
 | .mp _ _ _,h=>by unfold pl at h;cases h
 | .ix _ _ _,h=>by unfold pl at h;cases h
 | .nt _ _,h=>by unfold pl at h;cases h
theorem kA:∀(ds:Xo),iR ds=true->jA ds ds=true
 | [],_=>by simp[jA]
 | d::ds,h=>by
  unfold iR at h;rw[F_]at h;unfold jA;rw[rM d h.1,kA ds h.2];rfl
end
theorem Ak:∀(xs:Xo),(∀x∈xs,pl x=true)->iR xs=true
 | [],_=>by simp[iR]
 | x::xs,h=>by
  unfold iR;rw[h x o_,Ak xs λy hy=>h y (l_ _ hy)];rfl
theorem EO(h:f env=some (.lst xs))(hp:iR xs=true):ao iq f (cf fNil) env=some (.bl xs.isEmpty):=
 M' h rfl (Po (by unfold dep n8;lia) (by unfold pl;rw[hp];rfl)) (FU xs)
end Mi
namespace Mi
open PySem PySem.Spec PyProof.Rows L2
theorem qx:∀(l:List (α×β)),(l.map (·.1)).zip (l.map (·.2))=l
 | []=>rfl
 | (a,b)::l=>by rw[L_,L_,Ue,qx l]
def kx(x:W7×Xh):Xl×Xh:=(kk x.1,x.2)
theorem nH(hl:bs.length=ps.length):yQ a ps bs h↔St.iA (tupleKind (aA P w)) a ((ps.zip bs).map kx) h:=by
 have e1:(ps.zip bs).map IA=((ps.zip bs).map kx).map (St.ent (tupleKind (aA P w))):=by rw[SM];rfl
 have e2:(((ps.zip bs).map kx).map (·.1)).Nodup↔ps.Nodup:=by
  rw[SM,show((λx:Xl×Xh=>x.1) ∘ kx)=kk ∘ (λx:W7×Xh=>x.1)from rfl,<- SM,xG hl.symm];exact zy λx y=>Ca
 constructor
 .rintro⟨o,es,ep,t,h1,h2,h3,h4,h5,h6,h7,h8⟩;exact⟨o,es,ep,t,h1,h2,h3,⟨by rw[<- e1];exact h4,h5,h6,h7⟩,e2.mpr h8⟩
 .rintro⟨o,es,ep,t,h1,h2,h3,⟨h4,h5,h6,h7⟩,h8⟩;exact⟨o,es,ep,t,h1,h2,h3,by rw[e1];exact h4,h5,h6,h7,e2.mp h8⟩
theorem vA(a:Xh)(ps:WW)(bs:W2):∀h1 h2:Xd,yQ a ps bs h1->(∀o,h1.get? a=some o->h2.get? a=some o)->yQ a ps bs h2:=λh1 h2 ⟨o,es,ep,t,e,r⟩ k=>⟨o,es,ep,t,k o e,r⟩
def tM(ps:WW):WW:=ps.foldl ib []
def oo(xs:List (W7×Xh))(x:W7×Xh):List (W7×Xh):=if x.1∈xs.map (·.1)then xs else xs++[x]
theorem DM(xs:List (W7×Xh))(x:W7×Xh):(oo xs x).map kx=St.tz (xs.map kx) (kx x):=by
 unfold oo St.tz;have e:(kx x).1∈(xs.map kx).map (·.1)↔x.1∈xs.map (·.1):=by
  rw[SM,y_,y_];constructor
  .rintro⟨y,hy,e⟩;exact⟨y,hy,Ca e⟩
  .rintro⟨y,hy,e⟩;exact⟨y,hy,by show kk y.1=kk x.1;rw[e]⟩
 by_cases h:x.1∈xs.map (·.1)
 .rw[j_ h,j_ (e.mpr h)]
 .rw[k_ h,k_ (λz=>h (e.mp z)),O_];rfl
theorem tZ:∀(l xs:List (W7×Xh)),(l.foldl oo xs).map (·.1)=(l.map (·.1)).foldl ib (xs.map (·.1))
 | [],xs=>rfl
 | x::l,xs=>by
  rw[Vg,tZ l,L_,Vg];congr 1;unfold oo ib
  by_cases h:x.1∈xs.map (·.1)
  .rw[j_ h,j_ h]
  .rw[k_ h,k_ h,O_];rfl
theorem r8:∀{l xs:List (W7×Xh)}{y:W7×Xh},y∈l.foldl oo xs->y∈xs\/y∈l
 | [],xs,y,h=>.inl h
 | x::l,xs,y,h=>by
  rcases r8 (l:=l) h with h | h
  .unfold oo at h
   split at h
   .exact .inl h
   .rcases Sr.mp h with h | h
    .exact .inl h
    .exact .inr (by rw[s_.mp h];exact o_)
  .exact .inr (l_ _ h)
section
variable {X:Cx}{l r:Xi}{fa fb:Fe}{ga gb:Gr}{pos p:Pos}{k:Nat}
def lg:Xo->Option WW
 | []=>some []
 | .tup [.int a,.int b]::r=>(lg r).bind λps=>some ((a,b)::ps)
 | _=>none
end
section
variable {prog:Xa}{w:Xe}{A:Xb}{E:WR}{s:W_}
end
section
variable {X:Cx}{l r:Xi}{fa fb:Fe}{ga gb:Gr}{pos p:Pos}{k:Nat}
end
theorem AX(ks:WW)(p q:W7):q∈ib ks p↔q∈ks\/q=p:=by
 unfold ib
 split
 .rename_i h;exact⟨λz=>.inl z,λz=>z.elim id λe=>e▸h⟩
 .simp
theorem mM:∀(l xs:WW)(q:W7),q∈l.foldl ib xs↔q∈xs\/q∈l
 | [],xs,q=>by simp
 | x::l,xs,q=>by rw[Vg,mM l,AX,t_,or_assoc]
theorem jc(l:WW)(q:W7):q∈tM l↔q∈l:=by unfold tM;rw[mM];simp
theorem tK(hf:∀p,f p=.tup [.int p.1,.int p.2]):∀(ps:WW),lg (ps.map f)=some ps
 | []=>rfl
 | p::ps=>by rw[L_,hf];show(lg (ps.map f)).bind _=_;rw[tK hf ps];rfl
end Mi
namespace St
open PySem L2
section
variable {prog:Xa}{w:Xe}{A:Xb}{E:WR}{s:W_}
theorem qe(hu:A.in1.units<cLine)(hS:iA (tupleKind (aA prog w)) a xs s.heap)(zA:∀x∈xs,(tupleKind (aA prog w)).is s.heap x.1 x.2)(ei:(tupleKind (aA prog w)).is s.heap k b)(hl:xs.length+1<=4914)
  (h:∀h' tk,Heap.SameBut a s.heap h'->iA (tupleKind (aA prog w)) a (tz xs (k,b)) h'->(∀L,KS prog w b s.heap->Fl a L s.heap->Fl a L h')->Q .none {s with heap:=h',toks:=tk}):wpAny (model prog w) A (call (.builtin "set.add") [.ref a,.ref b]) Q E s:=by
 refine SA F.slot_set_add hS.typeIs F.entry_set_add ?_ (F.args_set_add_2 _ _);unfold Builtin.«set.add» Builtin.Frozenset.oneOther;simp only[List.isEmpty_nil,bind_assoc];unfold Builtin.Frozenset.addrOf;refine a_ (d_ ?_)
 try dsimp only
 refine a_ (d_ ?_)
 try dsimp only
 refine a_ ?_;refine yX hu hS zA ei hl λr h' tk hsb hS' hF=>?_;show wpAny _ _ (ret Value.none) _ _ _;exact d_ ⟨_,rfl,h h' tk hsb hS' hF⟩
end
end St
namespace Mi
open PySem PySem.Spec PyProof.Rows L2
theorem tE:∀{ds:Xo}{ps:WW}(a b:Int),lg ds=some ps->lg (ds++[.tup [.int a,.int b]])=some (ps++[(a,b)])
 | [],ps,a,b,h=>by cases h;rfl
 | d::ds,ps,a,b,h=>by
  unfold lg at h
  split at h
  .rename_i heq;exact absurd heq (by simp)
  .rename_i a' b' r' e;cases e;obtain⟨qs,h1,h2⟩:=b_.mp h;cases h2;show(lg (ds++[.tup [.int a,.int b]])).bind _=_;rw[tE a b h1];rfl
  .cases h
section
variable {elt:Xi}{gens:WX}{scope:Xg}{pos:Pos}{d:Nat}{tg iter:Xi}{ifs:W3}{it acc:W9}{env:Env}
end
structure Rq(X:Cx)(pins:List (Addr×Obj))(a:Addr)(B Z H:Hp)(env:En)(σ:L2.St)(pre:List D)(s:Shared):Prop where
 I:Inv X pins σ H s
 R:Rl X.K B Z H env σ
 nO:∀(i:Nat) ds,env[i]?≠some (.O ds)
 hb:B a=none
 hz:Z a=none
 ac:∃(ps:List (Int×Int))(xs:List ((Int×Int)×Addr)),lg pre=some ps/\xs.map (·.1)=tM ps/\H a=some (.ext (yQ a (xs.map (·.1)) (xs.map (·.2))))/\∀x∈xs,cw X.K Z x.2 [.int x.1.1,.int x.1.2]
def PQ(X:Cx)(a:Xh)(Bd:BdT)(k:Xm):Prop:=∀(pins:WS)(s:W_)(σ:L2.St)(H B Z:Hp)(env:En)(pre xs:Xo)(P:W_->Prop)(E:WR),
 Rq X pins a B Z H env σ pre s->k env=some xs->pre.length+xs.length<=4900->(∀s' σ' H' Z',Rq X pins a B Z' H' env σ' (pre++xs) s'->Ex Z B Z' H'->P s')->Bd P E s
section
variable {X:Cx}{a:Xh}{elt:Xi}{fe:Fe}
end
section
variable {P:Xa}{w:Xe}{A:Xb}{elt:Xi}{gens:WX}{scope:Xg}{pos:Pos}{d:Nat}{tg iter:Xi}{ifs:W3}{it acc:W9}{env:Env}{R:Result->W_->Prop}{s:W_}
end
section
variable {X:Cx}{a:Xh}{elt:Xi}{gens:WX}{scope:Xg}{pos:Pos}{d:Nat}{tg iter ur bK:Xi}{ifs kG:W3}{it:Xh}
end
structure BlkS(X:Cx)(a:Addr)(elt:Expr)(gens:List Comprehension)(scope:Scope)(pos:Pos)(d:Nat)(tg:Expr)(ifs:List Expr)(t:Ft)(c:Fb)(k:En->Option (List D)):Prop where
 g:GD X tg t
 ts:Df X ifs c
 ex:∃Bd,PQ X a Bd k/\∀(it:Addr)(s:Shared)(Q:Fin->Shared->Prop)(E:Value->Shared->Prop),
   wpAny (model X.prog X.w) X.A (pyNext (.ref it)) (λr s1=>match r with
    | none=>Q (.done .next) s1
    | some v=>wpAny (model X.prog X.w) X.A (letOwnedTupleGo tg (.ref it) v) (λ_ s2=>wpAny (model X.prog X.w) X.A (assign tg X.env v) (λ_ s3=>
      wpAny (model X.prog X.w) X.A (forIn ifs true λc r=>if r=true then do let ok <- isTrue c X.env (eval c X.env);pure (ForInStep.yield ok)else pure (ForInStep.yield r)) (λok s4=>
       if ok=true then Bd (λs5=>Q (.again (.compLoop (.SetComp elt gens scope pos) d (.ref it) (.ref a) X.env)) s5) E s4 else Q (.again (.compLoop (.SetComp elt gens scope pos) d (.ref it) (.ref a) X.env)) s4) E s3) E s2) E s1) E s->
   wpAny (model X.prog X.w) X.A (compTurn (.SetComp elt gens scope pos) d (.ref it) (.ref a) X.env) Q E s
section
variable {X:Cx}{a:Xh}{elt:Xi}{gens:WX}{scope:Xg}{pos:Pos}{d:Nat}{tg iter:Xi}{ifs:W3}{t:Ft}{c:Fb}{fe:Fe}
end
section
variable {X:Cx}{elt:Xi}{rest:WX}{scope:Xg}{pos:Pos}{tg iter:Xi}{ifs:W3}{t:Ft}{c:Fb}{k:Xm}{fi:Fi}{is caps:W5}{cl:WV}{Nc own:W1}
end
end Mi
namespace St
open PySem L2
section
variable {prog:Xa}{w:Xe}{K:Type}[DecidableEq K](knd:KeyKind prog w K)
inductive Kw(h:Heap):List (List K)->List Value->Prop
 | nil:Kw h [] []
 | cons {k:List K} {b:Addr} {ks:List (List K)} {vs:List Value}:(tupleKind knd).is h k b->Kw h ks vs->Kw h (k::ks) (.ref b::vs)
variable {knd}
variable {A:Xb}{E:WR}{s:W_}
end
section
variable {prog:Xa}{w:Xe}{K:Type}[DecidableEq K]{knd:KeyKind prog w K}{A:Xb}{E:WR}{s:W_}
end
end St
namespace Mi
open PySem PySem.Spec PyProof.Rows L2
section
variable {K:Type}[DecidableEq K]
end
section
variable {X:Cx}{rg:Gr}{l r:Xi}{fa fb:Fe}{ga gb:Gr}{pos p:Pos}{k:Nat}
end
section
variable {X:Cx}{rg:Gr}{l r:Xi}{fa fb:Fe}{ga gb:Gr}{pos p:Pos}{k:Nat}
end
section
variable {X:Cx}{rg:Gr}{pos:Pos}
end
section
variable {X:Cx}{i:Xi}{fi:Fe}{pos p0 p1 p2 p3 p4:Pos}{k j1 j2 j3 j4:Nat}
end
end Mi
namespace Mi
open PySem PySem.Spec PyProof.Rows L2
section
open PySem.SeqAt
open PySem.AutoSeq1 (wpAny_loadPart')
open PySem.MeetsSeq PySem.MeetsSeq2 PySem.MeetsSeq3
end
section
variable {X:Cx}{l r:Xi}{fa fb:Fe}{ga gb:Gr}{pos p:Pos}{k:Nat}
end
end Mi
namespace Mi
open PySem PySem.Spec PyProof.Rows L2
section
variable {X:Cx}{rg:Gr}{pos:Pos}
end
end Mi
namespace Mi
open PySem
end Mi
namespace Xc
open PySem PySem.Spec PyProof.Rows L2
def Rec(s0h h:Xd)(H:Hp)(e C dx:Xh):Prop:=∃oe vs,h.get? e=some oe/\oe.cls=.ref C/\oe.dict=some dx/\oe.data=.fields vs/\1<vs.size/\
 (vs[1]?=some .none\/∃T oT ts,vs[1]?=some (.ref T)/\T≠e/\s0h.objs.size<=T/\H T=none/\h.get? T=some oT/\oT.data=.fields ts/\ts[3]?=some .none)
section
variable {M:Model}{A:Xb}{E:WR}{s:W_}
theorem pM
  (hfr:A.frames=some (env::outer)) (hl:s.heap.FunFrames base (env::outer)) (hf:env.frame=some L)
  (he:s.heap.get? e=some oe) (hd:oe.data=.fields vs) (hsz:1<vs.size)
  (h:∀h',(∀b o,b∉k7 (env::outer)->b≠e->s.heap.get? b=some o->h'.get? b=some o)->(∀b o,b∈k7 (env::outer)->s.heap.get? b=some o->∃sl,h'.get? b=some {o with slots:=sl})->
   (∃T oT ts,s.heap.objs.size<=T/\T≠e/\h'.get? e=some (oe.mapFields (·.setIfInBounds 1 (.ref T)))/\h'.get? T=some oT/\oT.data=.fields ts/\ts[3]?=some .none)->Q () {s with heap:=h'}) :
  wpAny M A (do let a <- frameOf env;let pl <- entryPlaceOf L hadNext;let b <- EntryCells.newEntry head a .none (rawInt L) .none pl;setField (.ref e) 1 b) (λ_ s'=>wpAny M A (setFlight (.ref e) none) Q E s') E s:=by
 have NX:e∉(env::outer).filterMap (·.frame):=λhm=>by
  obtain⟨_,o,ho,hnf⟩:=hl.mem hm;rw[he]at ho;injection ho with ho;subst ho;exact hnf vs hd
 refine a_ (wpAny_frameOf_fun hfr hl hf λh₁ hs₁=>?_);refine a_ (wpAny_entryPlaceOf λpl eO=>?_);unfold EntryCells.newEntry newFields;refine a_ (S5 ?_ (eO.sizeOk5 _ _ _ _ _));have he₁:h₁.get? e=some oe:=(hs₁.2.1 e NX).trans he;have he₂:=e_ {cls:=.type "traceback",dict:=none,data:=.fields ([head,.ref L,.none,rawInt L,.none]++(if pl.isEmpty then List.replicate 6 Value.none else pl)).toArray} he₁;refine TU he₂ hd hsz ?_;have Gv:h₁.objs.size≠e:=T7 (q_ he₁);have hd₃:=SW hd (·.setIfInBounds 1 (Value.ref h₁.objs.size));have he₃:=SQ (Obj.mapFields (·.setIfInBounds 1 (Value.ref h₁.objs.size))) he₂ (Ti hd₃);have hT₃:=(SB (h₁.push {cls:=.type "traceback",dict:=none,data:=.fields ([head,.ref L,.none,rawInt L,.none]++(if pl.isEmpty then List.replicate 6 Value.none else pl)).toArray})
  (Obj.mapFields (·.setIfInBounds 1 (Value.ref h₁.objs.size))) (Tg Gv)).trans (n_ h₁ rfl)
 unfold setFlight;refine a_ (S8 he₃ hd₃ (x:=.ref h₁.objs.size) (by simp[hsz]) ?_);rw[j_ (show(Value.ref h₁.objs.size != Value.none)=true from by simp)];refine TU hT₃ rfl (by simp only[u_,r_,A_,TJ]<;>lia) (h _ ?_ ?_ ?_)
 .intro b o K6 Dp hb;have Rt:h₁.get? b=some o:=(hs₁.2.1 b K6).trans hb;have Qq:h₁.objs.size≠b:=T7 (q_ Rt);rw[SB _ _ Qq,SB _ _ (Tg Dp)];exact e_ _ Rt
 .intro b o K6 hb;obtain⟨sl,hs⟩:=hs₁.2.2 b o hb;have Dp:b≠e:=λq=>NX (q▸K6);have Qq:h₁.objs.size≠b:=T7 (q_ hs);refine⟨sl,?_⟩;rw[SB _ _ Qq,SB _ _ (Tg Dp)];exact e_ _ hs
 .refine⟨h₁.objs.size,_,_,(by rw[hs₁.1];exact h_ _),Gv,?_,SQ _ hT₃ (Ti (SW rfl _)),SW rfl _,?_⟩
  .rw[SB _ _ Gv];exact he₃
  .first | (simp;done) | (rcases eO with rfl | ⟨_,_,_,_,_,_,_,rfl⟩<;>simp)
theorem GP
  (hfr:A.frames=some (env::outer)) (hl:s.heap.FunFrames base (env::outer)) (hf:env.frame=some L) (hx:Rec s0h s.heap H e C dx) (h0:s0h.objs.size<=s.heap.objs.size) (hH:∀b,s.heap.objs.size<=b->H b=none)
  (h:∀h' (T':W0),(∀T,T'=some T->s0h.objs.size<=T/\H T=none/\∃oT ts,s.heap.get? T=some oT/\oT.data=.fields ts)->(∀b o,b∉k7 (env::outer)->b≠e->T'≠some b->s.heap.get? b=some o->h'.get? b=some o)->(∀b o,b∈k7 (env::outer)->s.heap.get? b=some o->∃sl,h'.get? b=some {o with slots:=sl})->
   Rec s0h h' H e C dx->(∀T,T'=some T->∃o,h'.get? T=some o)->Q () {s with heap:=h'}):wpAny M A (noteFrame (.ref e) env) (λ_ s'=>wpAny M A (setFlight (.ref e) none) Q E s') E s:=by
 obtain⟨oe,vs,he,hc,NY,hd,hsz,hv⟩:=hx;have fin:∀h',(∃T oT ts,s.heap.objs.size<=T/\T≠e/\h'.get? e=some (oe.mapFields (·.setIfInBounds 1 (.ref T)))/\h'.get? T=some oT/\oT.data=.fields ts/\ts[3]?=some .none)->Rec s0h h' H e C dx:=λh' aC=>by
  obtain⟨T,oT,ts,t1,t2,t3,t4,t5,t6⟩:=aC;refine⟨_,_,t3,(Wx _ _).trans hc,?_,SW hd _,by simpa using hsz,.inr ⟨T,oT,ts,by simp[hsz],t2,B_ h0 t1,hH T t1,t4,t5,t6⟩⟩;obtain⟨c,d,dt,sl⟩:=oe;have xT:dt=.fields vs:=hd;subst xT;exact NY
 unfold noteFrame;simp only[hf];rcases hv with h1 | ⟨T,oT,ts,h1,Gv,OB,OC,hT,Dy,h3⟩
 .refine a_ (S8 he hd h1 ?_);rw[k_ (by decide)];exact pM hfr hl hf he hd hsz λh' k1 k2 k3=>h h' none (λT z=>by cases z) (λb o b1 b2 _ b4=>k1 b o b1 b2 b4) k2 (fin h' k3) (λT z=>by cases z)
 .refine a_ (S8 he hd h1 ?_);rw[j_ (show(Value.ref T != Value.none)=true from by simp)];refine a_ (S8 hT Dy h3 ?_);rw[k_ (show ¬((Value.none==rawInt L)=true)from by simp[rawInt])];refine a_ (TU hT Dy (S7.mp h3).1 ?_);have other:∀b,b≠T->(s.heap.update T (Obj.mapFields (·.setIfInBounds 3 Value.none))).get? b=s.heap.get? b:=λb hb=>SB _ _ (Tg hb);have nM:∀b o,s.heap.get? b=some o->(∀vs,o.data≠.fields vs)->b≠T:=λb o hb hnf q=>by
   rw[q,hT]at hb;injection hb with hb;subst hb;exact hnf ts Dy
  have hTn:T∉k7 (env::outer):=λhm=>by
   obtain⟨_,o,ho,hnf⟩:=hl.mem (show T∈(env::outer).filterMap (·.frame)from hm);exact nM T o ho hnf rfl
  refine pM hfr (hl.of_keeps λb o hb hnf=>⟨o,(other b (nM b o hb hnf)).trans hb,rfl⟩) hf ((other e (Tg Gv)).trans he) hd hsz λh' k1 k2 k3=>h h' (some T) (λT' z=>by cases z;exact⟨OB,OC,_,_,hT,Dy⟩) (λb o b1 b2 b3 b4=>k1 b o b1 b2 ((other b (λz=>b3 (by rw[z]))).trans b4)) (λb o b1 b2=>?_) (fin h' (by
    obtain⟨T2,oT2,ts2,a1,a2⟩:=k3;exact⟨T2,oT2,ts2,by rw[Heap.size_after_update]at a1;exact a1,a2⟩)) (λT' z=>?_)
  .obtain⟨_,o',ho',hnf⟩:=hl.mem (show b∈(env::outer).filterMap (·.frame)from b1);rw[b2]at ho';injection ho' with ho';subst ho';exact k2 b o b1 ((other b (nM b o b2 hnf)).trans b2)
  .cases z;exact⟨_,k1 T _ hTn Gv (SQ _ hT (Ti (SW Dy _)))⟩
theorem zS
  (hfr:A.frames=some (env::outer)) (hl:s.heap.FunFrames base (env::outer)) (hf:env.frame=some L) (hx:Rec s0h s.heap H e C dx) (h0:s0h.objs.size<=s.heap.objs.size) (hH:∀b,s.heap.objs.size<=b->H b=none)
  (h:∀h' (T':W0),(∀T,T'=some T->s0h.objs.size<=T/\H T=none)->(∀b o,b∉k7 (env::outer)->b≠e->T'≠some b->s.heap.get? b=some o->h'.get? b=some o)->(∀b o,b∈k7 (env::outer)->s.heap.get? b=some o->∃sl,h'.get? b=some {o with slots:=sl})->
   Rec s0h h' H e C dx->Q () {s with heap:=h'}):wpAny M A (leaving env (.ref e)) Q E s:=by
 unfold leaving;exact a_ (GP hfr hl hf hx h0 hH λh' T' a b c d _=>h h' T' (λT z=>⟨(a T z).1,(a T z).2.1⟩) b c d)
end
end Xc
namespace Xc
open PySem
open Sem (wp)
open PySem.W (Looks)
abbrev bmV:WY:=[.type "ValueError",.type "Exception",.type "BaseException",.type "object"]
abbrev cM(nm q:Str)(C N:Xh)(bs bm:WY)(sn:W1)(sub:WY)(ab:Bool)(col:Option Bool)(dd:W0)(k0 k1 k2 k3 k5:WZ):Obj:=excClassObj nm q C N bs bm true sn sub ab col dd k0 k1 k2 k3 k5 "ValueError.__new__"
structure Tl(bm:List Value):Prop where
 v:bm.contains (.type "ValueError")=true
 b:bm.contains (.type "BaseException")=true
 o:bm.contains (.type "object")=true
 a:bm.contains (.type "AttributeError")=false
 n:bm.contains (.type "NameError")=false
section
variable {M:Model}{A:Xb}{E:WR}{h:Xd}{g:Array GenState}{d:Drawn}{t:Nat}{os:OsState}
variable {nm q:Str}{C N:Xh}{bs bm:WY}{sn:W1}{sub:WY}{ab:Bool}{col:Option Bool}{dd:W0}{k0 k1 k2 k3 k5:WZ}
theorem yP(Z:Tl bm)(hC:h.get? C=some (cM nm q C N bs bm sn sub ab col dd k0 k1 k2 k3 k5))(hq:Q () ⟨h,g,d,t,os⟩) :
  wpAny M A (checkBuiltinCall "ValueError.__new__" ⟨.ref C::rest,[]⟩) Q E ⟨h,g,d,t,os⟩:=by
 have Fn:=Uj;have hcont:(Value.ref C::bm).contains (.type "ValueError")=true:=by rw[Su,Z.v,TF]
 have hstar:=Fn.noStar;simp only[checkBuiltinCall,Fn.newKind,Fn.newSplit,Fn.newRow]
 repeat (first | refine Sx hC ?_ | (refine S4 hC ?_;rw[hcont]) | refine wpAny_staticBase_exc hC ?_ | refine wpAny_madeBy_exc hC ?_ | simp only[Wz,x_,SS] | wp_step)
 exact hq
end
section
variable {prog:Xa}{w:Xe}{A:Xb}{R:Result->W_->Prop}{E:WR}{h:Xd}{g:Array GenState}{d:Drawn}{t:Nat}{os:OsState}
variable {nm q:Str}{C N:Xh}{bs bm:WY}{sn:W1}{sub:WY}{ab:Bool}{col:Option Bool}{dd:W0}{k0 k1 k2 k3 k5:WZ}
theorem FC(Z:Tl bm)(hC:h.get? C=some (cM nm q C N bs bm sn sub ab col dd k0 k1 k2 k3 k5))
  (hq:R (.ok (.ret (.ref (h.objs.size+1)))) ⟨(h.push {cls:=.type "tuple",data:=.seq rest.toArray}).push
   {cls:=.ref C,data:=.fields #[.ref h.objs.size,.none,.none,.none,.bool false,.none]},g,d,t,os⟩) (hrest:rest.length<=sizeLine) :
  codeAny (model prog w) A (.builtin "ValueError.__new__" ⟨.ref C::rest,[]⟩) R ⟨h,g,d,t,os⟩:=by
 have Fn:=Uj;have hends:=Fn.ends;have CW:(Value.ref C::bm).contains (.type "ValueError")=true:=by rw[Su,Z.v,TF]
 have hcA:(Value.ref C::bm).contains (.type "AttributeError")=false:=by rw[Su,Z.a];rfl
 have hcN:(Value.ref C::bm).contains (.type "NameError")=false:=by rw[Su,Z.n];rfl
 refine codeAny_builtinAt Fn.entry ?_;unfold Builtin.«BaseException.__new__»;refine wpAt_bind ?_;show wpAt _ _ _ (stack >>= _) _ _ _;refine wpAt_bind (wpAt_stack λp below=>wpAt_of_wpAny ?_)
 wp_walk
 refine wpAt_of_wpAny ?_;rw[Fn.owner]
 repeat (first | with_reducible refine wpAny_madeHere_exc Fn.canon hC ?_ | with_reducible refine Sx hC ?_ | (with_reducible refine S4 hC ?_;first | rw[CW] | rw[hcA] | rw[hcN]) | wp_step)
 show R _ _;rw[Vy];exact hq
theorem l5(Z:Tl bm)
  (hC:h.get? C=some (cM nm q C N bs bm sn sub ab col dd k0 k1 k2 k3 k5)) (hi:Looks (model prog w) h (typeLookup (.ref C) "__init__") (some (.ref fI)))
  (Qr:h.get? fI=some oI) (Qs:oI.cls=.type "function")
  (hq:∀h' e,Heap.MadeExcOf h h' e (.ref C) rest->h.objs.size<=e->
   wpAny (model prog w) A (call (.ref fI) (.ref e::rest)) (λr s'=>r=.none/\Q (.done (.ret (.ref e))) s') E ⟨h',g,d,t,os⟩) (hrest:rest.length<=sizeLine) :
  wpAny (model prog w) A (Builtin.«type.__call__» ⟨.ref C::rest,[]⟩) Q E ⟨h,g,d,t,os⟩:=by
 have F:=Uj
 repeat (first | with_reducible refine Sx hC ?_ | with_reducible refine wpAny_madeBy_exc hC ?_ | wp_step)
 refine codeAny_call_builtin_code (Wj _ F.quiet) (yP Z hC ?_);refine FC Z hC ?_ hrest;show wpAny _ _ _ _ _ _;have kp:∀b o,h.get? b=some o->((h.push {cls:=.type "tuple",data:=.seq rest.toArray}).push {cls:=.ref C,data:=.fields #[.ref h.objs.size,.none,.none,.none,.bool false,.none]}).get? b=some o:=
  λb o e=>e_ _ (e_ _ e)
 have hC₁:=kp _ _ hC;have hfI₁:=kp _ _ Qr;have CK:((h.push {cls:=.type "tuple",data:=.seq rest.toArray}).push
   {cls:=.ref C,data:=.fields #[.ref h.objs.size,.none,.none,.none,.bool false,.none]}).get? (h.objs.size+1)=some
   {cls:=.ref C,data:=.fields #[.ref h.objs.size,.none,.none,.none,.bool false,.none]}:=by heap_get
 have hcC:(Value.ref C::bm).contains (.ref C)=true:=by simp
 have hi₁:=hi.keeps kp;unfold isInstance
 repeat (first | with_reducible refine Sx CK ?_ | (with_reducible refine S4 hC₁ ?_;rw[hcC]) | wp_step)
 show wpAny _ _ (typeLookup (.ref C) _) _ _ _;refine hi₁.at ?_;refine Q_ (a_ ?_);unfold bindSpecial;refine a_ (wpAny_typeOf ⟨_,hfI₁,Qs⟩ ?_);rw[j_ (by decide)];refine d_ (a_ (SG (hq _ (h.objs.size+1) ⟨kp,S2 (UJ _),h.objs.size,CK,S2 (h_ _),?_⟩ (UJ _)) (λr s' hr=>?_) λ_ _ x=>x))
 .exact e_ _ (Heap.get?_push_at rfl rfl)
 .obtain⟨rfl,hQ⟩:=hr
  wp_walk
  exact hQ
theorem Cu(Z:Tl bm)
  (hC:h.get? C=some (cM nm q C N bs bm sn sub ab col dd k0 k1 k2 k3 k5)) (hi:Looks (model prog w) h (typeLookup (.ref C) "__init__") (some (.ref fI)))
  (Qr:h.get? fI=some oI) (Qs:oI.cls=.type "function")
  (hq:∀h' e,Heap.MadeExcOf h h' e (.ref C) rest->h.objs.size<=e->
   wpAny (model prog w) (A.under (.builtin "type.__call__" ⟨.ref C::rest,[]⟩)) (call (.ref fI) (.ref e::rest)) (λr s'=>r=.none/\Q (.ref e) s') E ⟨h',g,d,t,os⟩) (hrest:rest.length<=sizeLine) :
  wpAny (model prog w) A (call (.ref C) rest) Q E ⟨h,g,d,t,os⟩:=by
 have f1:=tc_lookup;have f2:=tc_bind (.ref C);have hT:(⟨h,g,d,t,os⟩:W_).TypeIs (.ref C) "type":=⟨_,hC,rfl⟩;refine VJ (codeAny_of_tree ?_);show wpAny _ _ (callAny (.ref C) _) _ _ _
 repeat (any_goals (first | assumption | with_reducible refine Sx hC ?_ | wp_step))
 refine⟨rfl,?_⟩;refine codeAny_call_builtin_at (Wj _ (by decide +kernel)) entry_typeCall (wpAny_check_type_call_sub hC (l5 Z (hrest:=hrest) hC hi Qr Qs λh' e hm hz=>?_));exact hq h' e hm hz
theorem Bu(Z:Tl bm)(hC:h.get? C=some (cM nm q C N bs bm sn sub ab col dd k0 k1 k2 k3 k5))(he:h.get? e=some oe)(vR:oe.cls=.ref C)(hd:oe.data=.fields vs)(hz:vs[0]?=some (.ref t0))(hrest:rest.length<=sizeLine)
  (hq:∀h' tp,(∀b o,b≠e->h.get? b=some o->h'.get? b=some o)->h'.get? e=some (oe.mapFields (·.setIfInBounds 0 (.ref tp)))->Q .none ⟨h',g,d,t,os⟩) :
  wpAny (model prog w) A (call (.builtin "ValueError.__init__") (.ref e::rest)) Q E ⟨h,g,d,t,os⟩:=by
 have F:=Uj;have CW:(Value.ref C::bm).contains (.type "ValueError")=true:=by rw[Su,Z.v,TF]
 have hshort:=F.noStar;refine VJ (VY F.init.plain F.initEntry ?_);simp only[checkBuiltinCall,F.initKind,F.initSplit,F.initRow]
 repeat (first | (with_reducible refine Sx he ?_;rw[vR]) | with_reducible refine Sx hC ?_ | (with_reducible refine S4 hC ?_;rw[CW]) | wp_step)
 refine wpAny_onRaise ?_;rw[show ∀(a b:String)(n:Nat),Bind.check ⟨.positional,"*","ValueError",.self,[⟨"args",.varPos,false⟩]⟩ a b n (List.map (λx=>x.fst) ({pos:=Value.ref e::rest}:Args).kw)=pure ()from
  λa b n=>check_star_args _ _ _ _ _ _]
 refine d_ ?_
 wp_walk
 rw[hd];refine d_ ?_;rw[hz];refine d_ ?_;have he₁:=e_ {cls:=.type "tuple",data:=.seq rest.toArray} he;refine a_ (TU he₁ hd (S7.mp hz).1 ?_);refine VX ?_;refine d_ (hq _ h.objs.size (λb o hb ho=>?_) ?_)
 .rw[SB _ _ (Tg hb)];exact e_ _ ho
 .exact SQ _ he₁ (Ti (SW hd _))
end
end Xc
namespace Xc
open PySem
open Sem (wp)
open Builtin Builtin.ObjectAttr
open PySem.W (Looks)
section
variable {prog:Xa}{w:Xe}{A:Xb}{E:WR}{h:Xd}{g:Array GenState}{d:Drawn}{t:Nat}{os:OsState}
variable {nm q:Str}{C N x:Xh}{bs bm:WY}{sn:W1}{sub:WY}{ab:Bool}{col:Option Bool}{dd:W0}{k0 k1 k2 k3 k5:WZ}{name:Str}{v:W9}
theorem AY(Z:Tl bm)
  (hC:h.get? C=some (cM nm q C N bs bm sn sub ab col dd k0 k1 k2 k3 k5)) (hx:h.get? x=some o) (hc:o.cls=.ref C) (hq:Q () ⟨h,g,d,t,os⟩) :
  wpAny M A (checkBuiltinCall "object.__setattr__" ⟨[.ref x,CY,v],[]⟩) Q E ⟨h,g,d,t,os⟩:=by
 have SF:=PySem.F.store_object;have CW:(Value.ref C::bm).contains (.type "object")=true:=by rw[Su,Z.o,TF]
 have ha:=SF.args (.ref x) CY v;simp only[checkBuiltinCall,SF.kind,SF.split];refine a_ ?_
 .unfold isInstance
  repeat (first | (with_reducible refine Sx hx ?_;rw[hc]) | (with_reducible refine S4 hC ?_;rw[CW]) | wp_step)
  exact hq
theorem store_entry
  (hC:h.get? C=some (cM nm q C N bs bm sn sub ab col dd k0 k1 k2 k3 k5)) (CZ:refuseLoop (.ref x) "__setattr__" bm=pure ()) (uf:Looks (model prog w) h (typeLookup (.ref C) name) none)
  (hx:h.get? x=some o) (hc:o.cls=.ref C) (hnc:∀c,o.data≠.cls c) (Qt:o.dict=none)
  (hq:∀h' Kx,(∀b ob,b≠x->h.get? b=some ob->h'.get? b=some ob)->h'.get? x=some {o with dict:=some h.objs.size}->h'.Ns1 h.objs.size (λy=>if y=name then some v else none)->Q (.done (.ret .none)) ⟨h',g,d,Kx,os⟩) :
  wpAny (model prog w) A (Builtin.«object.__setattr__» ⟨[.ref x,.str name tk,v],[]⟩) Q E ⟨h,g,d,t,os⟩:=by
 unfold Builtin.«object.__setattr__»
 repeat (first | rw[refuse_eq] | (rw[refuseLoop_ref,CZ]) | (with_reducible refine Sx hx ?_;rw[hc]) | with_reducible refine wpAny_mroOf_exc hC ?_ | with_reducible refine uf.at ?_ | wp_step)
 rw[Qt,k_ (by simp[typeHasDict])]
 split
 .rename_i dO;cases dO
 split
 .rename_i c dO;exact absurd dO (hnc c)
 .have Ru:(h.push {cls:=.type "dict",data:=.dict #[]}).get? x=some o:=e_ _ hx;have hxs:x≠h.objs.size:=z_ (q_ hx);refine a_ (wpAny_alloc' ?_);refine a_ (wpAny_update' Ru ?_);refine d_ ?_;have hgd:((h.push {cls:=.type "dict",data:=.dict #[]}).update x λo=>{cls:=o.cls,dict:=some h.objs.size,data:=o.data,slots:=o.slots}).get? h.objs.size
    = some {cls:=.type "dict",data:=.dict #[]}:=
   (U_ _ _ _ _ hxs.symm).trans (Heap.get?_push_at rfl rfl)
  have hnd:((h.push {cls:=.type "dict",data:=.dict #[]}).update x λo=>{cls:=o.cls,dict:=some h.objs.size,data:=o.data,slots:=o.slots}).Ns h.objs.size (λ_=>none):=
   ⟨_,#[],_,hgd,rfl,λe he=>absurd he (by simp),λ_=>rfl⟩
  show wpAny _ _ (storeInDict h.objs.size (.str name tk) name v) _ _ _;unfold storeInDict newKeyGuard;refine a_ (d_ (a_ (wpAny_nsSet1 (Heap.Ns1.of_empty hnd) λh' Kk hs=>?_)));obtain⟨oD,esD,epD,hoD,hdD,hcD⟩:=Kk.count (Within.cons name v Within.nil);refine a_ (wpAny_lookBehind hoD (by rw[hdD];exact pastItsLine_dict (B_ hcD (by rw[A_,TJ,Sz];lia))) ?_)
  wp_walk
  refine hq h' _ (λb ob hbx hb=>?_) ?_ Kk
  .exact(hs.2 b (z_ (q_ hb))).trans ((U_ _ _ _ _ hbx).trans (e_ _ hb))
  .refine(hs.2 x hxs).trans (SQ _ Ru ?_);have hfr:=(Heap.get?_some_iff.mp hx).2;obtain⟨oc,od,odt,pV⟩:=o;cases odt<;>first | rfl | exact hfr
theorem store_attr(Z:Tl bm)
  (hC:h.get? C=some (cM nm q C N bs bm sn sub ab col dd k0 k1 k2 k3 k5)) (CZ:refuseLoop (.ref x) "__setattr__" bm=pure ()) (hset:Looks (model prog w) h (typeLookup (.ref C) "__setattr__") (some (.builtin "object.__setattr__"))) (uf:Looks (model prog w) h (typeLookup (.ref C) name) none)
  (hx:h.get? x=some o) (hc:o.cls=.ref C) (hnc:∀c,o.data≠.cls c) (Qt:o.dict=none)
  (hq:∀h' Kx,(∀b ob,b≠x->h.get? b=some ob->h'.get? b=some ob)->h'.get? x=some {o with dict:=some h.objs.size}->h'.Ns1 h.objs.size (λy=>if y=name then some v else none)->Q () ⟨h',g,d,Kx,os⟩) :
  wpAny (model prog w) A (setAttr (.ref x) name v) Q E ⟨h,g,d,t,os⟩:=by
 have SF:=PySem.F.store_object;have f3:=SF.slot.bind (.ref x);unfold setAttr callSpecial? specialOf
 repeat (any_goals (first | assumption | (with_reducible refine Sx hx ?_;rw[hc]) | with_reducible refine hset.at ?_ | wp_step))
 refine VY SF.slot.plain SF.entry (AY Z hC hx hc (store_entry hC CZ uf hx hc hnc Qt λh' Kx k1 k2 k3=>?_))
 repeat (any_goals (first | assumption | wp_step))
 exact hq h' Kx k1 k2 k3
end
end Xc
namespace Xc
open PySem PySem.Spec PyProof.Rows L2
def Raw(e C:Xh):Xd->Prop:=λh=>∃vs t0,h.get? e=some {cls:=.ref C,data:=.fields vs}/\vs.size=6/\vs[0]?=some (.ref t0)/\vs[1]?=some .none
def Full(e C dx:Xh):Xd->Prop:=λh=>∃vs,h.get? e=some {cls:=.ref C,dict:=some dx,data:=.fields vs}/\vs.size=6/\vs[1]?=some .none
theorem pA:∀h1 h2:Xd,Raw e C h1->(∀o,h1.get? e=some o->h2.get? e=some o)->Raw e C h2:=λh1 h2 ⟨vs,t0,a,b⟩ k=>⟨vs,t0,k _ a,b⟩
theorem vc:∀h1 h2:Xd,Full e C dx h1->(∀o,h1.get? e=some o->h2.get? e=some o)->Full e C dx h2:=λh1 h2 ⟨vs,a,b⟩ k=>⟨vs,k _ a,b⟩
structure EC(K:PySem.W.Frag)(C HE fI:Addr):Prop where
 lk:∃nm q N bs sn sub ab col dd k0 k1 k2 k3 k5,K.lookup C=some (cM nm q C N bs (.ref HE::bmV) sn sub ab col dd k0 k1 k2 k3 k5)
 ini:PySem.W.findIn K (.ref C) "__init__"=some (some (.ref fI))
 fn:∃o,K.lookup fI=some o/\o.cls=.type "function"
 sa:PySem.W.findIn K (.ref C) "__setattr__"=some (some (.builtin "object.__setattr__"))
 ce:PySem.W.findIn K (.ref C) "cell"=some none
 kp:PySem.W.keepIn K (.ref C)=true
theorem BU(x:String):(Value.ref HE::bmV).contains (.type x)=bmV.contains (.type x):=by rw[Su];rfl
theorem uw:Tl (.ref HE::bmV):=⟨(BU _).trans (by decide),(BU _).trans (by decide),(BU _).trans (by decide),(BU _).trans (by decide),(BU _).trans (by decide)⟩
theorem IW(h:H a=some o):upd H a o=H:=by
 funext b;unfold upd;split
 .rename_i e;rw[e,h]
 .rfl
section
variable {X:Cx}{pos apos p:Pos}{e:Xi}{es:W3}{ta:TA}
def Iw(K:W8)(ta:TA):TE:=λσ H Q=>ta σ H λvs H1=>∃e wd C HE fI,vs=[.ref e,wd]/\H1 e=some (.ext (Raw e C))/\EC K C HE fI/\Q .non H1
theorem vt:typeOf (.type "ValueError")=pure (.type "type"):=by kernel_rfl
theorem R0:Manifest.isStub "ValueError"=false:=by decide +kernel
theorem M0(K:W8):PySem.W.findCls K (.type "ValueError") (.type "type") "__init__"=some (.val (.builtin "ValueError.__init__")):=by
 kernel_rfl
theorem AB(hm:X.mg "ValueError"=none)(ha:PA X (e::es) ta)(hg:Gl X "ValueError":=by rfl)
  (he:starEach (e::es) X.env=(false,eval e X.env)::starEach es X.env:=by rfl) (eO:(backTo pos (starEach es X.env)).any (·.1)=false:=by rfl)
  (ht:eval (.Call (.Attribute (.Name "ValueError" p) "__init__" apos) (e::es) [] pos) X.env=(do
   let ov <- eval (.Name "ValueError" p) X.env
   standAt apos.atName
   let (f,first) <- holding [ov] (getMethod ov "__init__" pl)
   callWith pos f first (backTo pos (starEach (e::es) X.env)) (backToKw pos (keywordEach [] X.env))):=by rfl) :
  PE X (.Call (.Attribute (.Name "ValueError" p) "__init__" apos) (e::es) [] pos) (Iw X.K ta):=by
 intro pins s σ H Q I h;refine PySem.W.methodCall_KW (pl:=pl) (gM I hg hm (u:=.type "ValueError") (by decide +kernel) ?_) ht;obtain⟨m,F⟩:=I.fr;refine PySem.W.method_type F I.ok.mod.kin vt R0 (M0 X.K) (by decide +kernel) ?_;refine VL (aZ (ha pos pins _ σ H _ (I.tok _) h) λus s1 aC=>?_) he eO;obtain⟨vs,H1,I1,r1,ex,wd,C,HE,fI,ev,hx,ec,q1⟩:=aC;subst ev;obtain⟨u0,us',rfl,r0,r1⟩:∃u0 us',us=u0::us'/\RelV (.ref ex) u0/\av [wd] us':=by cases r1 with | cons a b=>exact⟨_,_,rfl,a,b⟩
 obtain rfl:u0=Value.ref ex:=r0;obtain⟨Rv,t0,g1,g2,g3,g4⟩:=(show aV X.prog X.w H1 s1.heap ex (.ext (Raw ex C))from I1.hok ex _ hx).1;obtain⟨nm,q,N,bs,sn,sub,ab,col,dd,k0,k1,k2,k3,k5,lk⟩:=ec.lk;obtain⟨hh,g,d,tk,os⟩:=s1;refine Bu (uw (HE:=HE)) (I1.kIn _ _ lk) g1 rfl rfl g3 (by have:=r1.length;simp at this;rw[this,Sz];lia) λh' tp hk ud=>?_;refine⟨.non,H1,?_,rfl,q1⟩;have nw:Raw ex C h':=⟨_,tp,ud,by simpa using g2,by simp[g2],by simp[g4]⟩;have:=I1.write (x:=ex) (e:=ex) (o:=.ext (Raw ex C)) (h':=h') (t':=tk) (by rw[hx];exact True.intro) (.inl rfl) (λb u hb z=>hk b u hb z) ⟨_,ud⟩ ⟨nw,⟨_,ud⟩,pA⟩;rwa [IW hx]at this
end
section
variable {X:Cx}{pos pos' apos p:Pos}{e o value:Xi}{es:W3}{ta tv:TE}
def Nj(K:W8)(ta tv:TE):TS:=λD σ H=>tv σ H λy H1=>ta σ H1 λx H2=>∃e C HE fI,x=.ref e/\H2 e=some (.ext (Raw e C))/\EC K C HE fI/\
 ∀dx,H2 dx=none->dx≠e->D.nx σ (upd (upd H2 e (.ext (Full e C dx))) dx (.xd [("cell",y)]))
theorem Fh{H:Hp}{fs:W2}{h h':Xd}{e C dx:Xh}{y:V}(hx:H e=some (.ext (Raw e C)))(hd:h.get? dx=none)(hH:H dx=none)(hk:∀b u,b≠e->h.get? b=some u->h'.get? b=some u)(he:∃u,h'.get? e=some u) :
  Un fs [] H (upd (upd H e (.ext (Full e C dx))) dx (.xd [("cell",y)])) h h' where
 keep:=λb o q n _ _=>hk b o (λz=>by rw[z,hx]at n;cases n) q
 slot:=λb o q n _ _=>⟨o.slots,hk b o (λz=>by rw[z,hx]at n;cases n) q⟩
 free:=λb o q n _=>by
  rw[ar (λz=>by rw[z,hd]at q;cases q),ar (λz=>by rw[z,hx]at n;cases n)];exact n
 there:=λb o q _=>by
  by_cases z:b=e
  .rw[z];exact he
  .exact⟨o,hk b o z q⟩
 tups:=λb xs q=>by rw[ar (λz=>by rw[z,hH]at q;cases q),ar (λz=>by rw[z,hx]at q;cases q)];exact q
 frzs:=λb o u q=>by rw[ar (λz=>by rw[z,hH]at q;cases q),ar (λz=>by rw[z,hx]at q;cases q)];exact q
 tbls:=λb ps q=>by rw[ar (λz=>by rw[z,hH]at q;cases q),ar (λz=>by rw[z,hx]at q;cases q)];exact q
theorem FW(ha:PE X o ta)(hv:PE X value tv)(hs:swapsWith value (some (.Attribute o "cell" pos')) pos.line X.env=pure false):PS X (.Assign [.Attribute o "cell" pos'] value pos) (Nj X.K ta tv):=by
 intro pins s σ H D I h;refine plainObj_wpAny_Assign_Attribute (aZ (hv pins s σ H _ I h) λu s1 ⟨y,H1,I1,ry,q⟩=>aZ (ha pins s1 σ H1 _ I1 q) λov s2 aC=>?_) hs;obtain⟨x,H2,I2,rx,ex,C,HE,fI,ee,hx,ec,q2⟩:=aC;subst ee;obtain rfl:ov=Value.ref ex:=rx;obtain⟨Rv,t0,g1,g2,g3,g4⟩:=(show aV X.prog X.w H2 s2.heap ex (.ext (Raw ex C))from I2.hok ex _ hx).1;obtain⟨nm,q',N,bs,sn,sub,ab,col,dd,k0,k1,k2,k3,k5,lk⟩:=ec.lk;have kin:=I2.kIn;obtain⟨hh,g,d,tk,os⟩:=s2;have ui:H2 hh.objs.size=none:=I2.hok.fresh (h_ _);have hne:hh.objs.size≠ex:=λz=>by have:=q_ g1;rw[<- z]at this;exact absurd this (Ua _)
 refine store_attr (uw (HE:=HE)) (kin _ _ lk) (by rw[refuseLoop_ref];exact PySem.F.store_ValueError.passes _) (TV kin ec.sa) (TV kin ec.ce) g1 rfl (λc z=>by cases z) rfl λh' Kx hk he hn=>?_;refine⟨σ,_,I2.un (h':=h') (t':=Kx) (Fh (C:=C) (y:=y) hx (S2 (h_ _)) ui hk ⟨_,he⟩) ?_,q2 _ ui hne⟩;intro a oa Gw
 by_cases z1:a=hh.objs.size
 .subst z1;rw[ai]at Gw;cases Gw;refine⟨_,hn,λf=>?_⟩
  by_cases zf:f="cell"
  .subst zf;rw[j_ rfl];exact ry
  .rw[k_ zf];have:List.lookup f [("cell",y)]=none:=by
    rw[Ta];have:(f=="cell")=false:=by simpa using zf
    rw[this];rfl
   rw[this];exact True.intro
 .rw[ar z1]at Gw
  by_cases z2:a=ex
  .subst z2;rw[ai]at Gw;cases Gw;exact⟨⟨Rv,he,g2,g4⟩,⟨_,he⟩,vc⟩
  .rw[ar z2]at Gw;refine(I2.hok a oa Gw).stay (λb u hb hu=>hk b u (λz=>?_) hu) (λb hb=>?_) (λb xs hb=>?_) λb xs hb=>?_
   .rcases hb with hb | hb
    .exact z2 (hb▸z)
    .rw[z,hx]at hb;cases hb
   .rw[ar (λz=>by rw[z,ui]at hb;cases hb),ar (λz=>by rw[z,hx]at hb;cases hb)];exact hb
   .rw[ar (λz=>by rw[z,ui]at hb;cases hb),ar (λz=>by rw[z,hx]at hb;cases hb)];exact hb
   .rw[ar (λz=>by rw[z,ui]at hb;cases hb),ar (λz=>by rw[z,hx]at hb;cases hb)];exact hb
theorem forget{pins:WS}{σ:L2.St}{H:Hp}{s:W_}{e:Xh}{φ:Xd->Prop}(I:Inv X pins σ H s)(hx:H e=some (.ext φ))(hn:X.s₀.heap.get? e=none):Inv X pins σ (λb=>if b=e then none else H b) s:=by
 have ne:∀{b:Xh}{o:HO},H b=some o->o≠.ext φ->b≠e:=λ{b o} h1 h2 z=>by rw[z,hx]at h1;exact h2 (Option.some.inj h1).symm
 have kp:∀{b:Xh},b≠e->(λb=>if b=e then none else H b) b=H b:=λ{b} z=>k_ z;have nn:∀{b:Xh},H b=none->(λb=>if b=e then none else H b) b=none:=λ{b} z=>by
  show(if b=e then none else H b)=none
  split
  .rfl
  .exact z
 refine⟨I.ok,I.os,I.bare,⟨I.base.keep,I.base.slot,λb o q n hxx=>nn (I.base.free b o q n hxx),I.base.there,λb xs q=>?_,λb o u q=>?_,λb ps q=>?_⟩,I.loc,I.cell,nn I.free,λx c hc=>nn (I.freeC x c hc),λp hp=>?_,λa oa ha=>?_,I.len⟩
 .have:=I.base.tups b xs q;exact(kp (ne this (by intro z;cases z))).trans this
 .have:=I.base.frzs b o u q;exact(kp (ne this (by intro z;cases z))).trans this
 .have h2:=I.base.tbls b ps q;exact(kp (ne h2 (by intro z;cases z))).trans h2
 .obtain⟨a1,a2,a3⟩:=I.pin p hp;exact⟨a1,nn a2,a3⟩
 .have hae:a≠e:=λz=>by
   have:(if a=e then none else H a)=some oa:=ha;rw[j_ z]at this;cases this
  have ha':H a=some oa:=(kp hae).symm.trans ha;exact(I.hok a oa ha').stay (λb u _ hu=>hu) (λb hb=>(kp (ne hb (by intro z;cases z))).trans hb) (λb xs hb=>(kp (ne hb (by intro z;cases z))).trans hb) λb xs hb=>(kp (ne hb (by intro z;cases z))).trans hb
end
end Xc
namespace Xc
open PySem PySem.Spec
section
variable {M:Model}{A:Xb}{E:WR}{env:Env}
variable {nm q:Str}{C N:Xh}{bs bm:WY}{sn:W1}{sub:WY}{ab:Bool}{col:Option Bool}{dd:W0}{k0 k1 k2 k3 k5:WZ}
theorem u5(Z:Tl bm)(hh:A.handled=none)
  (h:wpAny M A x (λv s₁=>∃e dx vs,v=.ref e/\s₁.heap.get? C=some (cM nm q C N bs bm sn sub ab col dd k0 k1 k2 k3 k5)/\
   s₁.heap.get? e=some {cls:=.ref C,dict:=dx,data:=.fields vs}/\vs[1]?=some .none/\E (.ref e) s₁) E s) :
  wpAny M A (raiseStmt env (some x) none) Q E s:=by
 have CW:(Value.ref C::bm).contains (.type "BaseException")=true:=by rw[Su,Z.b,TF]
 unfold raiseStmt;refine a_ (SG h (λv s₁ h₁=>?_) λ_ _ x=>x);obtain⟨e,dx,vs,rfl,hC,he,hv,hE⟩:=h₁;obtain⟨hp,g,d,tk,os⟩:=s₁
 repeat (first | with_reducible refine Sx he ?_ | with_reducible refine Sx hC ?_ | (with_reducible refine S4 hC ?_;rw[CW]) | (with_reducible refine S8 he rfl hv ?_) | wp_step)
 exact wpAny_raiseNew_none hh hE
end
end Xc
namespace Xc
open PySem PySem.Spec PyProof.Rows L2
def M6(K:W8)(HE fI:Xh):Sp:=λvs H Q _=>∃e C wd cv,vs=[.ref e,wd,cv]/\EC K C HE fI/\H e=some (.ext (Raw e C))/\∀dx,H dx=none->dx≠e->Q .non (upd (upd H e (.ext (Full e C dx))) dx (.xd [("cell",cv)]))
def Pf:Xj->W4
 | .ClassDef _ _ _ b _ _ _ _ _ _ _=>b
 | _=>[]
section
variable {X:Cx}{k:Nat}{pos be p:Pos}{c:Str}{a:Xi}{es:W3}{ta:TA}{dvs:Xq}{ds:WY}{fd:Xf}{HE C fI:Xh}
def vZ(X:Cx)(σ:L2.St)(C:Xh)(R:Xh->Hp->Prop):Prop:=∀(pins:WS)(H:Hp)(s:W_)(e dx:Xh),Inv X pins σ H s->X.s₀.sz<=e->H e=none->Rec X.s₀.heap s.heap H e C dx->R dx H->X.xe (.ref e) s
def JM(X:Cx)(C:Xh)(dvs:Xq)(ta:TA):TS:=λ_ σ H=>ta σ H λvs H1=>∃wd cv,vs++dvs=[wd,cv]/\vZ X σ C λdx H2=>H1 dx=none/\H2=upd H1 dx (.xd [("cell",cv)])
theorem LZ(I:Inv X pins σ H s)(h:s.sz<=e):X.s₀.heap.get? e=none:=S2 (B_ I.sz h)
theorem A9(ec:EC X.K C HE fI)(F:dh X.prog X.w X.K X.mg X.base ko k fI fd ["self","words","cell"] (M6 X.K HE fI))(hr:a9 (k+1) X.A)(hg:Gl X c)(hm:X.mg c=some (.ref C))(hb:Binds X.K fd ["self","words","cell"] ds)(hd:av dvs ds)
  (ha:PA X (a::es) ta) (kF:(c==("__debug__":Str))=false:=by decide) (he:starEach (a::es) X.env=(false,eval a X.env)::starEach es X.env:=by rfl) (eO:(backTo be (starEach es X.env)).any (·.1)=false:=by rfl) :
  PS X (.Raise (some (.Call (.Name c p) (a::es) [] be)) none pos) (JM X C dvs ta):=by
 intro pins s σ H D I h;obtain⟨nm,q,N,bs,sn,sub,ab,col,dd,k0,k1,k2,k3,k5,lk⟩:=ec.lk;obtain⟨oI,lkI,fc⟩:=ec.fn;rw[arm_exec_Raise];refine a_ (To (u5 (C:=C) (nm:=nm) (q:=q) (N:=N) (bs:=bs) (bm:=.ref HE::bmV) (sn:=sn) (sub:=sub) (ab:=ab) (col:=col) (dd:=dd) (k0:=k0) (k1:=k1) (k2:=k2) (k3:=k3) (k5:=k5) uw hr.hd ?_));refine a_ (SG ?_ (λv s₁ hv=>a_ (To (d_ hv))) λ_ _ x=>x);refine TM (gY I hg hm ?_ kF);refine UM I.ok.mod.kin ec.kp (aZ (ha be pins s σ H _ I h) λus s1 ⟨vs,H1,I1,r,wd,cv,ev,W⟩=>⟨I1.kIn,?_⟩) he eO;have kin:=I1.kIn;have e0:=I1.env0;have Oy:vs.length<=2:=by have:=Tn List.length ev;simp at this;lia
 have hus:us.length<=sizeLine:=by rw[<- r.length,Sz];lia
 obtain⟨hh,g,d,tk,os⟩:=s1;refine Cu (uw) (kin _ _ lk) (TV kin ec.ini) (kin _ _ lkI) fc (λh' e hm' hz=>?_) hus;obtain⟨t0,Rw,_,_⟩:=hm'.there;have Rx:H1 e=none:=I1.hok.fresh hz;have hne:=LZ I1 hz;have I2:Inv X pins σ (upd H1 e (.ext (Raw e C))) ⟨h',g,d,tk,os⟩:=I1.laid hm'.keeps hz ⟨⟨_,t0,Rw,rfl,rfl,rfl⟩,⟨_,Rw⟩,pA⟩;have r2:av (V.ref e::(vs++dvs)) (Value.ref e::(us++ds)):=.cons rfl (r.append hd);have lT:M6 X.K HE fI (.ref e::(vs++dvs)) (upd H1 e (.ext (Raw e C))) (λv H2=>v=.non/\∃dx,H1 dx=none/\dx≠e/\H2=upd (upd (upd H1 e (.ext (Raw e C))) e (.ext (Full e C dx))) dx (.xd [("cell",cv)])) E0:=by
  refine⟨e,C,wd,cv,by rw[ev],ec,ai,λdx h1 h2=>⟨rfl,dx,?_,h2,rfl⟩⟩;rwa [ar h2]at h1
 have hl:(Value.ref e::us++ds).length=["self","words","cell"].length:=by
  have e1:=r2.length;rw[F.len _ _ _ _ lT]at e1;exact e1.symm
 refine VJ (U7 (F.run _ X.stack _ _ ⟨Value.ref e::us,[]⟩ (Value.ref e::(us++ds)) _ _ E0 (hr.make C us []) (I2.env0.make C us []) (hb _ (Value.ref e::us) I2.kIn hl) r2 lT) λr s' uq=>?_);cases r with
 | error x=>exact False.elim uq
 | ok fl=>
  cases fl with
  | ret u=>
   refine cN λ_ kq=>?_;obtain⟨v,H',I3,rv,ev',dx,d1,d2,rfl⟩:=I2.after uq;subst ev';have hF:Full e C dx s'.heap:=(show aV X.prog X.w _ s'.heap e (.ext (Full e C dx))from I3.hok e _ (by rw[ar d2.symm,ai])).1;obtain⟨Qu,f1,f2,f3⟩:=hF;have I4:=forget I3 (φ:=Full e C dx) (by rw[ar d2.symm,ai]) hne;have hH:(λb=>if b=e then none else upd (upd (upd H1 e (.ext (Raw e C))) e (.ext (Full e C dx))) dx (.xd [("cell",cv)]) b)=upd H1 dx (.xd [("cell",cv)]):=by
    funext b
    by_cases z:b=e
    .subst z;rw[j_ rfl,ar d2.symm,Rx]
    .rw[k_ z]
     by_cases z2:b=dx
     .subst z2;rw[ai,ai]
     .rw[ar z2,ar z2,ar z,ar z]
   rw[hH]at I4;refine kq (⟨rv,e,some dx,Qu,rfl,I3.kIn _ _ lk,f1,f3,W pins _ s' e dx I4 (B_ I1.sz hz) (by rw[ar d2.symm,Rx]) ⟨_,Qu,f1,rfl,rfl,rfl,by lia,.inl f3⟩ ⟨d1,rfl⟩⟩)
  | next=>exact False.elim uq
  | brk=>exact False.elim uq
  | cont=>exact False.elim uq
end
def Hd(P:Xa)(w:Xe):CXT:=λouter H s E ev s'=>∃e C dx,ev=.ref e/\s.sz<=e/\CE outer P w H s (λ_ H'=>H' e=none/\Rec s.heap s'.heap H' e C dx/\E (.ref C) (some dx) H') .none s'
theorem Rec.mono(r:Rec s0 h H e C dx)(k:s1.objs.size<=s0.objs.size):Rec s1 h H e C dx:=by
 obtain⟨oe,vs,a,b,c,d,e',f⟩:=r;refine⟨oe,vs,a,b,c,d,e',f.imp id ?_⟩;rintro⟨T,oT,ts,t1,t2,t3,t4⟩;exact⟨T,oT,ts,t1,t2,B_ k t3,t4⟩
section
variable {X:Cx}{pins:WS}{σ:L2.St}{H:Hp}{s:W_}
theorem xI(F:dh X.prog X.w X.K X.mg X.base (Hd X.prog X.w) k f fd ps sp)(hr:a9 k X.A)(hb:Binds X.K fd ps ds)(hd:av dvs ds)
  (I:Inv X pins σ H s) (r:av vs us) (h:sp (vs++dvs) H Q E) (hx:∀C,vZ X σ C λdx H'=>E (.ref C) (some dx) H'):wpAny (model X.prog X.w) X.A (call (.ref f) us) (EP X pins σ Q) X.xe s:=by
 have r2:av (vs++dvs) (us++ds):=r.append hd;have hl:(us++ds).length=ps.length:=by rw[<- r2.length];exact F.len _ _ _ _ h
 refine VJ (U7 (F.run X.A X.stack s H ⟨us,[]⟩ (us++ds) (vs++dvs) Q E hr I.env0 (hb s us I.kIn hl) r2 h) λr s' hq=>?_);cases r with
 | error e=>
  obtain⟨e,C,dx,rfl,hn,hc⟩:=(show Hd X.prog X.w X.stack H s E _ s' from hq);obtain⟨v,H',I',_,h1,h2,h3⟩:=I.after hc;exact hx C pins H' s' e dx I' (B_ I.sz hn) h1 (h2.mono I.sz) h3
 | ok fl=>
  cases fl with
  | ret u=>exact I.after hq
  | next=>exact False.elim hq
  | brk=>exact False.elim hq
  | cont=>exact False.elim hq
end
theorem B5(u:Un fs [] H0 H h0 h)(ud:h0.objs.size<=e)(hL':h0.objs.size<=L)(hT':∀T,T'=some T->h0.objs.size<=T)
  (k1:∀b o,b∉L::fs->b≠e->T'≠some b->h.get? b=some o->h'.get? b=some o) (k2:∀b o,b∈L::fs->h.get? b=some o->∃sl,h'.get? b=some {o with slots:=sl}):Un fs [] H0 H h0 h':=by
 have he:=S2 ud;have hL:=S2 hL';have hT:∀T,T'=some T->h0.get? T=none:=λT z=>S2 (hT' T z);have ne:∀{b:Xh}{o:Obj},h0.get? b=some o->b≠L/\b≠e/\T'≠some b:=λ{b o} q=>⟨λz=>(by rw[z,hL]at q;cases q),λz=>(by rw[z,he]at q;cases q),λz=>(by rw[hT b z]at q;cases q)⟩;refine⟨λb o q n hf hx=>?_,λb o q n hf hx=>?_,u.free,λb o q hx=>?_,u.tups,u.frzs,u.tbls⟩
 .obtain⟨a1,a2,a3⟩:=ne q;exact k1 b o (λz=>by rcases t_.mp z with z | z;(· exact a1 z);exact hf z) a2 a3 (u.keep b o q n hf hx)
 .obtain⟨sl,e1⟩:=u.slot b o q n hf hx;obtain⟨Nv,e2⟩:=k2 b _ (l_ _ hf) e1;exact⟨Nv,e2⟩
 .obtain⟨o',e1⟩:=u.there b o q hx;obtain⟨a1,a2,a3⟩:=ne q
  by_cases z:b∈L::fs
  .obtain⟨sl,e2⟩:=k2 b o' z e1;exact⟨_,e2⟩
  .exact⟨o',k1 b o' z a2 a3 e1⟩
theorem j9(hok:lb P w H h)(k:∀b o,(∃u,H b=some u)->h.get? b=some o->h'.get? b=some o):lb P w H h':=λa oa ha=>
 (hok a oa ha).stay (λb u hb hu=>k b u (by rcases hb with hb | hb;(· exact⟨_,hb▸ha⟩);exact⟨_,hb⟩) hu) (λ_ z=>z) (λ_ _ z=>z) λ_ _ z=>z
theorem sV{P:Xa}{w:Xe}{K:W8}{mg:WU}{base:Xd}{N:W1}{qual:Str}{scope:Xg}{f:Xh}{cd:W9}{A:Xb}{outer:List Env}{s:W_}{H:Hp}{E:XK}(σ:L2.St)(C:Xh) :
  vZ (eM (Hd P w) P w K mg base N qual scope f cd A outer s H E) σ C λdx H'=>E (.ref C) (some dx) H':=by
 intro pins H1 s1 e dx I hn h1 hr hE;have hstk:s1.heap.FunFrames base (envOfC qual scope s.sz f cd::outer):=I.stack;have hfr:(A.deeper (envOfC qual scope s.sz f cd)).frames=some (envOfC qual scope s.sz f cd::outer):=I.ok.frames;show wpAny (model P w) (A.deeper (envOfC qual scope s.sz f cd)) (leaving (envOfC qual scope s.sz f cd) (.ref e)) _ _ s1;refine zS (s0h:=s.heap) (H:=H1) hfr hstk (L:=s.sz) rfl hr I.sz (λb hb=>I.hok.fresh hb) λh' T' hT k1 k2 rD=>?_;have hstf:∀b∈k7 (envOfC qual scope s.sz f cd::outer),H1 b=none:=I.stkFree;refine⟨e,C,dx,rfl,hn,.non,H1,I.os,I.bare,B5 (L:=s.sz) (T':=T') (e:=e) I.base hn (h_ _) (λT z=>(hT T z).1) k1 k2,j9 I.hok λb o ⟨u,hu⟩ hb=>k1 b o (λz=>by rw[hstf b z]at hu;cases hu) (λz=>by rw[z,h1]at hu;cases hu) (λz=>by rw[(hT b z).2]at hu;cases hu) hb,rfl,h1,rD,hE⟩
end Xc
namespace Xc
open PySem
open Sem (wp)
open PySem.W (Looks Frag InstAt)
section
variable {prog:Xa}{w:Xe}{A:Xb}{E:WR}{h:Xd}{g:Array GenState}{d:Drawn}{t:Nat}{os:OsState}{a:Xh}{o:Obj}
 {nm q:Str} {C N:Xh} {bs bm:WY} {sn:W1} {sub:WY} {ab:Bool} {col:Option Bool} {dd:W0} {k0 k1 k2 k3 k5:WZ} {K:Frag} {od:Obj}
structure EA(K:Frag)(C:Addr):Prop where
 ga:PySem.W.findIn K (.ref C) "__getattribute__"=some (some (.builtin "BaseException.__getattribute__"))
 gt:PySem.W.findIn K (.ref C) "__getattr__"=some none
 cl:PySem.W.findIn K (.ref C) "__class__"=some (some (.builtin "object.__class__"))
 mo:PySem.W.mroIn K C (.type "object")=some true
theorem Bf(Z:Tl bm)(hC:h.get? C=some (cM nm q C N bs bm sn sub ab col dd k0 k1 k2 k3 k5))
  (hx:h.get? a=some o) (hc:o.cls=.ref C) (hq:Q () ⟨h,g,d,t,os⟩):wpAny M A (checkBuiltinCall "BaseException.__getattribute__" ⟨[.ref a,CY],[]⟩) Q E ⟨h,g,d,t,os⟩:=by
 have hk:builtinKind "BaseException.__getattribute__"=some .slot:=by decide +kernel
 have hsplit:splitId "BaseException.__getattribute__"=some ("BaseException","__getattribute__"):=by decide +kernel
 have CW:(Value.ref C::bm).contains (.type "BaseException")=true:=by rw[Su,Z.b,TF]
 have ha:=F.args_bexc_ga (.ref a) CY;simp only[checkBuiltinCall,hk,hsplit];refine a_ ?_
 .unfold isInstance
  repeat (first | (with_reducible refine Sx hx ?_;rw[hc]) | (with_reducible refine S4 hC ?_;rw[CW]) | wp_step)
  exact hq
theorem sg(X:K.In h)(ea:EA K C)(I:InstAt h a o C (some od))(hq:Q (.done (.ret (.ref C))) ⟨h,g,d,t,os⟩) :
  wpAny (model prog w) A (Builtin.«object.__getattribute__» ⟨[.ref a,.str "__class__" tk],[]⟩) Q E ⟨h,g,d,t,os⟩:=by
 have hT5:(⟨h,g,d,t,os⟩:W_).TypeIs (.builtin "object.__class__") "getset_descriptor":=F.typeOf_object_class;have f5:=F.typeOf_object_class;have f6:=F.slot_gs_get.lookup;have f7:=F.slot_gs_set.lookup;have hx:=I.at_;have hc:=I.cls;have L:=TV (M:=model prog w) X ea.cl
 repeat (any_goals (first | assumption | (with_reducible refine Sx hx ?_;rw[hc]) | with_reducible refine L.at ?_ | wp_step))
 exact PySem.W.class_get (s:=⟨h,g,d,t,os⟩) X I ea.mo (d_ hq)
theorem uH(Z:Tl bm)(hC:h.get? C=some (cM nm q C N bs bm sn sub ab col dd k0 k1 k2 k3 k5))(X:K.In h)(ea:EA K C)(I:InstAt h a o C (some od))(hq:Q (some (.ref C)) ⟨h,g,d,t+1,os⟩) :
  wpAny (model prog w) A (getAttr? (.ref a) "__class__") Q E ⟨h,g,d,t,os⟩:=by
 have FB:=PySem.F.excAttr_ValueError;have f3:=FB.ga.bind (.ref a);have hx:=I.at_;have hc:=I.cls;have hx2:(Value.builtin "BaseException.__getattribute__"==Value.builtin "object.__getattribute__")=false:=by decide +kernel
 have hx1:(onTheHeap (Value.ref C)&&Value.builtin "BaseException.__getattribute__"==Value.builtin "object.__getattribute__")=false:=by rw[hx2];rfl
 have L1:=TV (M:=model prog w) X ea.ga;have L2:=TV (M:=model prog w) X ea.gt;unfold getAttr? getAttrBy?
 repeat (any_goals (first | assumption | (with_reducible refine Sx hx ?_;rw[hc]) | with_reducible refine L1.at ?_ | with_reducible refine L2.at ?_ | with_reducible refine UX ?_ | wp_step))
 refine VY FB.ga.plain F.entry_bexc_ga (Bf Z hC hx hc (sg X ea I ?_))
 repeat (any_goals (first | assumption | wp_step))
end
end Xc
namespace Xc
open PySem PySem.Spec PyProof.Rows L2
open PySem.W (Looks Frag KitX)
section
variable {K:Frag}{x C:Xh}
theorem Cm(Z:Tl bm)(lk:K.lookup C=some (cM nm q C N bs bm sn sub ab col dd k0 k1 k2 k3 k5))(ea:EA K C) :
  KitX K (.ref x) (.ref C) (λh=>∃ox od,PySem.W.InstAt h x ox C (some od)) where
 ty:=λ_ _ _ ⟨_,_,I⟩=>I.type
 it:=λ_ _ X _=>by
  intro A' Q' E' s' k q;unfold isType loadHead;exact a_ (wpAny_loadPart (k _ _ (X _ _ lk)) (d_ q))
 ne:=λh tp dd aQ n sl X htp=>by
  refine VA.mpr λq=>?_;have e:C=tp:=Value.ref.inj (VN.mp q);subst e;have z:=Tn (λo:Option Obj=>o.map (·.data)) ((X _ _ lk).symm.trans htp);cases z
 ca:=λ{prog w A E Q s} X ⟨ox,od,I⟩ k=>by
  obtain⟨hh,g,d,t,os⟩:=s;exact uH Z (X _ _ lk) X ea I k
end
def yr(e C dx:Xh):Xd->Prop:=λh=>∃oe,h.get? e=some oe/\oe.cls=.ref C/\oe.dict=some dx/\PySem.W.notCls oe=true
theorem vD:∀h1 h2:Xd,yr e C dx h1->(∀o,h1.get? e=some o->h2.get? e=some o)->yr e C dx h2:=λh1 h2 ⟨oe,a,b⟩ k=>⟨oe,k _ a,b⟩
def z9(H:Hp)(v:V)(C:Xh):Prop:=∃e dx fs,v=.ref e/\H e=some (.ext (yr e C dx))/\H dx=some (.xd fs)
section
variable {X:Cx}{pos p p2 p3:Pos}{l:Xi}{ta:TE}{D:Xh}
theorem r6:dB X (.builtin "isinstance") (λxs H Q=>∃x cv u C b,xs=[x,cv]/\RelV cv u/\(∀u',RelV cv u'->u'=u)/\z9 H x C/\(∃nm q N bs bm sn sub ab col dd k0 k1 k2 k3 k5,Tl bm/\X.K.lookup C=some (cM nm q C N bs bm sn sub ab col dd k0 k1 k2 k3 k5))/\EA X.K C/\PySem.W.kitOne X.K (.ref C) u=some b/\Q (.bl b) H):=by
 intro pins s σ H xs us Q I r h;obtain⟨x,cv,u,C,b,rfl,_,hu,⟨e,dx,fs,rfl,h1,h2⟩,⟨nm,q,N,bs,bm,sn,sub,ab,col,dd,k0,k1,k2,k3,k5,Z,lk⟩,ea,hk,hq⟩:=h;obtain⟨u1,u2,rfl,rx,rt⟩:=r.two;cases hu _ rt;cases(show u1=Value.ref e from rx);obtain⟨oe,a1,a2,a3,a4⟩:=(show aV X.prog X.w H s.heap e (.ext (yr e C dx))from I.hok e _ h1).1;obtain⟨mA,⟨oD,es,ep,o1,o2⟩,_⟩:=(show aV X.prog X.w H s.heap dx (.xd fs)from I.hok dx _ h2);refine PySem.W.kia_one (Cm Z lk ea) I.kIn ⟨oe,oD,a1,a2,a4,by rw[a3];exact o1⟩ hk (λz=>nomatch z) λtk=>⟨.bl b,H,I.tok tk,rfl,hq⟩
def LC(K:W8)(C:Xh):Prop:=(∃nm q N bs bm sn sub ab col dd k0 k1 k2 k3 k5,Tl bm/\K.lookup C=some (cM nm q C N bs bm sn sub ab col dd k0 k1 k2 k3 k5))/\EA K C
def jP(K:W8)(i:Nat)(u:W9):TE:=λσ H Q=>∃x C b,σ[i]?=some (some x)/\z9 H x C/\LC K C/\PySem.W.kitOne K (.ref C) u=some b/\Q (.bl b) H
theorem eH(hz:X.mg "isinstance"=none)(hm:X.mg c=some (.ref D))(hN:X.N[i]?=some x:=by rfl)(hv:xy X.env.scope x:=by first | exact Or.inl rfl | exact Or.inr (Or.inl rfl))(hg:Gl X "isinstance":=by rfl)(Qw:Gl X c:=by rfl)(kF:(c==("__debug__":Str))=false:=by decide)(Ky:(x==("__debug__":Str))=false:=by decide)(hd2:(x==("__classdict__":Str))=false:=by decide)
  (he:starEach [.Name x p3,.Name c p2] X.env=(false,eval (.Name x p3) X.env)::starEach [.Name c p2] X.env:=by rfl):PE X (.Call (.Name "isinstance" p) [.Name x p3,.Name c p2] [] pos) (jP X.K i (.ref D)):=λpins s σ H Q I ⟨v,C,b,h1,h2,⟨h3,h4⟩,h5,h6⟩=>
 gq r6 hg hz V5 (aJ (bH hN hv Ky hd2) (aJ (wa Qw hm (v:=.ref D) rfl kF) bN rfl) he) (by decide) (by decide) he rfl pins s σ H Q I ⟨v,h1,v,.ref D,.ref D,C,b,rfl,rfl,λ_ z=>z,h2,h3,h4,h5,h6⟩
theorem Jh(hz:X.mg "isinstance"=none)(hm:X.mg "ValueError"=none)(hN:X.N[i]?=some x:=by rfl)(hv:xy X.env.scope x:=by first | exact Or.inl rfl | exact Or.inr (Or.inl rfl))(hg:Gl X "isinstance":=by rfl)(Qw:Gl X "ValueError":=by rfl)(Ky:(x==("__debug__":Str))=false:=by decide)(hd2:(x==("__classdict__":Str))=false:=by decide)
  (he:starEach [.Name x p3,.Name "ValueError" p2] X.env=(false,eval (.Name x p3) X.env)::starEach [.Name "ValueError" p2] X.env:=by rfl):PE X (.Call (.Name "isinstance" p) [.Name x p3,.Name "ValueError" p2] [] pos) (jP X.K i (.type "ValueError")):=λpins s σ H Q I ⟨v,C,b,h1,h2,⟨h3,h4⟩,h5,h6⟩=>
 gq r6 hg hz V5 (aJ (bH hN hv Ky hd2) (aJ (λpins s σ H Q I h=>gM I Qw hm (by decide +kernel) ⟨.ty "ValueError",H,I,rfl,h⟩:PE X (.Name "ValueError" p2) (tC (.ty "ValueError"))) bN rfl) he) (by decide) (by decide) he rfl pins s σ H Q I ⟨v,h1,v,.ty "ValueError",.type "ValueError",C,b,rfl,rfl,λ_ z=>z,h2,h3,h4,h5,h6⟩
end
end Xc
namespace Xc
open PySem PySem.Spec PyProof.Rows L2
theorem Pa(I:Inv X pins σ H s)(A':Xb)(E':WR)(hf:A'.frames=X.A.frames):Inv {X with A:=A',calm:=false,xe:=E'} pins σ H s:=
 ⟨⟨I.ok.mod,I.ok.kind,I.ok.glob,I.ok.blt,I.ok.above,I.ok.inj,I.ok.has,I.ok.cab,λz=>(by cases z),hf.trans I.ok.frames,I.ok.stk,I.ok.exf,I.ok.bs,I.ok.bsz,I.ok.noex,I.ok.exfs,I.ok.funs,I.ok.frf,I.ok.tb⟩,I.os,I.bare,I.base,I.loc,I.cell,I.free,I.freeC,I.pin,I.hok,I.len⟩
theorem Og(ok:X.Ok)(I:Inv {X with A:=A',calm:=false,xe:=E'} pins σ H s):Inv X pins σ H s:=
 ⟨ok,I.os,I.bare,I.base,I.loc,I.cell,I.free,I.freeC,I.pin,I.hok,I.len⟩
structure Da(k:Nat)(A:Around):Prop where
 dp:A.depth+3*k+5<recursionLimit
 un:A.units+16*k+200<cLine
abbrev Pw(P:Xa)(w:Xe)(K:W8)(mg:WU)(base:Xd)(N:W1)(qual:Str)(scope:Xg)(f:Xh)(cd:W9)(A:Xb)(outer:List Env)(s:W_)(H:Hp):Cx:=
 {eM ko P w K mg base N qual scope f cd {A with handled:=none} outer s H E0 with A:=A.deeper (envOfC qual scope s.sz f cd),calm:=false,xe:=λe s'=>wpAny (model P w) (A.deeper (envOfC qual scope s.sz f cd)) (leaving (envOfC qual scope s.sz f cd) e) (λ_ NA=>False) (λe' NA=>False) s'}
structure NZ(P:Program)(w:World)(K:PySem.W.Frag)(mg:Str->Option Value)(base:Heap)(k:Nat)(f:Addr)(fd:FuncData)(ps:List Str)(sp:Sp):Prop where
 len:∀vs H Q E,sp vs H Q E->vs.length=ps.length
 run:∀(A:Around)(outer:List Env)(s:Shared)(H:Hp)(args:Args)(us:List Value)(vs:List V)(Q:VK),Da k A->ug P w K mg base A outer s H->BindsTo s fd args (ps.zip us)->av vs us->sp vs H Q E0->
  codeAny (model P w) A (.call (.ref f) args) (CR ko outer P w H s Q E0) s
theorem JW{P:Xa}{w:Xe}{K:W8}{mg:WU}{base:Xd}{k:Nat}{f:Xh}{name qual:Str}{params:Arguments}{body:W4}{scope:Xg}{dV kV doc pm bq ct oc:W9}{an od:W0}
  {pV:WT} {N ps:W1} {sp:Sp} (lk:K.lookup f=some ⟨oc,od,.func (PySem.W.fnOf name qual params body scope dV kV doc pm an bq ct),pV⟩) (dO:PySem.W.codeIn K bq qual=true) (S:bC N ps scope)
  (len:∀vs H Q E,sp vs H Q E->vs.length=ps.length)
  (hbody:∀(A:Xb)(outer:List Env)(s:W_)(H:Hp)(vs:Xq)(Q:VK),sp vs H Q E0->
   ∃t,PSs (Pw P w K mg base N qual scope f bq A outer s H) body t/\t {nx:=λ_ H'=>Q .non H',rt:=Q} (start N vs) H) :
  NZ P w K mg base (k+1) f (PySem.W.fnOf name qual params body scope dV kV doc pm an bq ct) ps sp:=by
 refine⟨len,λA outer s H args us vs Q hr e0 hb r lT=>?_⟩;have hl:=len _ _ _ _ lT;have KX:K.In s.heap:=e0.mod.kin.keeps λb o e=>(e0.bs b o e).1;have lim:s.heap.NoLimit:=e0.mod.nolimit.keeps λb o e=>(e0.bs b o e).1;have bo:∀y∈ps.zip us,scope.names.lookup y.1=some .local\/(scope.names.lookup y.1=some .cell/\((cellsFrom (s.sz+1) scope.names []).lookup y.1).isSome=true):=λ⟨n,v⟩ hy=>by
  rcases S.par n (US hy).1 with q | q
  .exact .inl q
  .exact .inr ⟨q,UN _ _ _ (.inl q)⟩
 refine VG (by have:=hr.dp;lia) (KX _ _ lk) rfl S.co S.gen rfl (Wi KX dO) (hb _ _ _ _ ?_);refine U3 S.kind bo λenv he s1 x=>?_;subst he;refine⟨lim.keeps x.toInCall.keep,codeAny_func ?_⟩;obtain⟨t,ht,hq⟩:=hbody A outer s H vs Q lT;have e1:ug P w K mg base {A with handled:=none} outer s H:=⟨e0.frames,e0.mod,e0.bs,e0.bsz,e0.funs,e0.frf,e0.hok,e0.bare,e0.tb⟩;have I0:Inv (eM ko P w K mg base N qual scope f bq {A with handled:=none} outer s H E0) [] (start N vs) H s1:=ki S rfl e1 hl r x;have I:Inv (Pw P w K mg base N qual scope f bq A outer s H) [] (start N vs) H s1:=Pa I0 _ _ rfl;refine SG (ht [] s1 (start N vs) H _ I hq) (λfl s' hs=>?_) λe s' hs=>hs;have fin:∀{σ':L2.St}{H':Hp}{v:V}{u:W9},Inv (Pw P w K mg base N qual scope f bq A outer s H) [] σ' H' s'->RelV v u->Q v H'->CE outer P w H s Q u s':=
  λ{σ' H' v u} J rv q=>⟨v,H',J.os,J.bare,J.base,J.hok,rv,q⟩
 cases fl with
 | ret u=>
  obtain⟨v,σ',H',J,rv,q⟩:=hs;exact fin J rv q
 | next=>
  obtain⟨σ',H',J,q⟩:=hs;exact fin (v:=V.non) J rfl q
 | brk=>
  obtain⟨_,_,_,q⟩:=hs;exact False.elim q
 | cont=>
  obtain⟨_,_,_,q⟩:=hs;exact False.elim q
theorem BP(F:NZ X.prog X.w X.K X.mg X.base k f fd ps sp)(hr:Da k X.A)(hg:Gl X x)(hm:X.mg x=some (.ref f))(hk:PySem.W.keepIn X.K (.ref f)=true)(hb:Binds X.K fd ps [])
  (ha:PA X (e::es) t) (kF:(x==("__debug__":Str))=false:=by decide) (he:starEach (e::es) X.env=(false,eval e X.env)::starEach es X.env:=by rfl) (eO:(backTo pos (starEach es X.env)).any (·.1)=false:=by rfl) :
  PE X (.Call (.Name x p) (e::es) [] pos) (He sp [] E0 t):=by
 intro pins s σ H Q I h;refine TM (gY I hg hm ?_ kF);refine UM I.ok.mod.kin hk (aZ (ha pos pins s σ H _ I h) λus s1 ⟨vs,H1,I1,r,q⟩=>⟨I1.kIn,?_⟩) he eO
 replace q:sp vs H1 Q E0:=by have q':sp (vs++[]) H1 Q E0:=q;rwa [SC]at q'
 have hl:us.length=ps.length:=by rw[<- r.length];exact F.len _ _ _ _ q
 refine VJ (U7 (F.run X.A X.stack s1 H1 ⟨us,[]⟩ us vs Q hr I1.env0 (by have:=hb s1 us I1.kIn (by rw[SC];exact hl);rwa [SC]at this) r q) λr s' hq=>?_);cases r with
 | error e=>exact False.elim hq
 | ok fl=>
  cases fl with
  | ret u=>exact I1.after hq
  | next=>exact False.elim hq
  | brk=>exact False.elim hq
  | cont=>exact False.elim hq
structure vU(X:Cx):Prop where
 pn:X.pn=[]
 stk:X.stack=X.env::X.outer
 fr:X.env.frame=some X.env.locals
section
variable {X:Cx}{σ:L2.St}{H:Hp}{s:W_}{e C dx:Xh}
theorem fG(I:Inv X [] σ H s)(ho:s.heap.get? e=some o)(hd:o.data=.fields vs):e≠X.env.locals/\∀x c,X.env.cells.lookup x=some c->c≠e:=by
 constructor
 .intro z;obtain⟨m,⟨ol,es,ep,h1,h2,_⟩,_⟩:=I.loc;rw[z,h1]at ho;cases ho;rw[h2]at hd;cases hd
 .intro x c hc z;obtain⟨v,hv⟩:=I.cell x c hc;obtain⟨oc,h1,h2⟩:=hv;rw[z]at h1;rw[h1]at ho;cases ho;rw[hd]at h2;cases h2
theorem Rec.apart(I:Inv X [] σ H s)(r:Rec X.s₀.heap s.heap H e C dx):e≠X.env.locals/\∀x c,X.env.cells.lookup x=some c->c≠e:=by
 obtain⟨oe,vs,he,_,_,hd,_⟩:=r;exact fG I he hd
theorem Az(T:vU X)(hfr:A.frames=some X.stack)(I:Inv X [] σ H s)(hn:X.s₀.sz<=e)(he:H e=none)(r:Rec X.s₀.heap s.heap H e C dx)
  (h:∀s3,Inv X [] σ H s3->Rec X.s₀.heap s3.heap H e C dx->Q () s3):wpAny M A (noteFrame (.ref e) X.env) (λ_ s'=>wpAny M A (setFlight (.ref e) none) Q E s') E s:=by
 have hstk:=I.stack;have hstf:=I.stkFree;have hap:=r.apart I;rw[T.stk]at hfr hstk hstf;refine GP (s0h:=X.s₀.heap) (H:=H) hfr hstk (L:=X.env.locals) T.fr r I.sz (λb hb=>I.hok.fresh hb) λh' T' hT k1 k2 rD hT2=>h _ ?_ rD;refine I.call (ch:=e::T'.toList) (H':=H) (h':=h') ?_ (j9 I.hok λb o ⟨u,hu⟩ hb=>k1 b o (λz=>by rw[hstf b z]at hu;cases hu) (λz=>by rw[z,he]at hu;cases hu) (λz=>by rw[(hT b z).2.1]at hu;cases hu) hb) I.bare λb hb=>?_
 .rw[T.stk];refine⟨λb o q n hf hx=>?_,λb o q n hf hx=>k2 b o hf q,λb o q n hx=>n,λb o q hx=>?_,λ_ _ z=>z,λ_ _ _ z=>z,λ_ _ z=>z⟩
  .exact k1 b o hf (λz=>hx (by simp[z])) (λz=>hx (by simp[z])) q
  .by_cases hf:b∈k7 (X.env::X.outer)
   .obtain⟨sl,z⟩:=k2 b o hf q;exact⟨_,z⟩
   .exact⟨o,k1 b o hf (λz=>hx (by simp[z])) (λz=>hx (by simp[z])) q⟩
 .rcases t_.mp hb with rfl | hb
  .exact⟨.inr hn,hap.1,hap.2,λp hp=>by rw[T.pn]at hp;cases hp⟩
  .obtain⟨a1,a2,oT,ts,a3,a4⟩:=hT b (by simpa using hb);have hap:=fG I a3 a4;exact⟨.inr a1,hap.1,hap.2,λp hp=>by rw[T.pn]at hp;cases hp⟩
theorem uJ(T:vU X)(I:Inv X [] σ H s)(hn:X.s₀.sz<=e)(he:H e=none)(r:Rec X.s₀.heap s.heap H e C dx)
  (h:∀s3,Inv X [] σ H s3->Rec X.s₀.heap s3.heap H e C dx->Q () s3):wpAny M A (setFlight (.ref e) none) Q E s:=by
 obtain⟨oe,vs,a1,a2,a3,a4,a5,a6⟩:=id r;rcases a6 with h1 | ⟨T',oT,ts,h1,Gv,OB,OC,hT,Dy,h3⟩
 .unfold setFlight;refine a_ (S8 a1 a4 h1 ?_);rw[k_ (by decide)];exact d_ (h s I r)
 .have hz:3<ts.size:=(S7.mp h3).1;have hap:=fG I hT Dy;refine wpAny_setFlight_none a1 a4 h1 hT Dy hz (h _ (I.turned (t':=s.toks) (it:=T') (λb o hb ho=>(SB _ _ (Tg hb)).trans ho) OC hap.1 (.inr OB) hap.2 (λp hp=>by rw[T.pn]at hp;cases hp)) ?_);refine⟨oe,vs,(SB _ _ Gv).trans a1,a2,a3,a4,a5,.inr ⟨T',_,_,h1,Gv,OB,OC,SQ _ hT (Ti (SW Dy _)),SW Dy _,by simp[hz]⟩⟩
theorem adopt(T:vU X)(I:Inv X [] σ H s)(hn:X.s₀.sz<=e)(he:H e=none)(hap:e≠X.env.locals/\∀x c,X.env.cells.lookup x=some c->c≠e)(ho:∃o,s.heap.get? e=some o)(hp:φ s.heap)(hs:∀h1 h2:Xd,φ h1->(∀o,h1.get? e=some o->h2.get? e=some o)->φ h2):Inv X [] σ (upd H e (.ext φ)) s:=by
 have hz:=S2 hn;have kp:∀{b:Xh}{o:HO},H b=some o->upd H e (.ext φ) b=some o:=λ{b o} z=>by rw[ar (λy=>by rw[y,he]at z;cases z)];exact z
 refine⟨I.ok,I.os,I.bare,⟨I.base.keep,I.base.slot,λb o q n hx=>?_,I.base.there,λb xs q=>kp (I.base.tups b xs q),λb o u q=>kp (I.base.frzs b o u q),λb ps q=>?_⟩,I.loc,I.cell,?_,λx c hc=>?_,λp hp=>?_,λa oa ha=>?_,I.len⟩
 .rw[ar (λy=>by rw[y,hz]at q;cases q)];exact I.base.free b o q n hx
 .exact kp (I.base.tbls b ps q)
 .rw[ar (Tg hap.1)];exact I.free
 .rw[ar (hap.2 x c hc)];exact I.freeC x c hc
 .rw[T.pn]at hp;cases hp
 .by_cases z:a=e
  .subst z;rw[ai]at ha;cases ha;exact⟨hp,ho,hs⟩
  .rw[ar z]at ha;exact(I.hok a oa ha).stay (λb u _ hu=>hu) (λb hb=>kp hb) (λb xs hb=>kp hb) λb xs hb=>kp hb
end
end Xc
namespace Xc
open PySem PySem.Spec PyProof.Rows L2
section
variable {X:Cx}{σ:L2.St}{H:Hp}{s:W_}{e C dx:Xh}
theorem hW(T:vU X)(I:Inv X [] σ H s)(hN:X.N.Nodup)(hi:X.N[i]?=some n)(hl:X.env.scope.names.lookup n=some .local)
  (h:∀s',Inv X [] (σ.set i none) H s'->Q () s'):wpAny M A (do bindName X.env n .none;unbindBehindTheSuite X.env n pos) Q E s:=by
 refine a_ (wpAny_bindName (jz I hN hi (.inl hl) (v:=.non) rfl (λs1 I1=>?_) (.inr hl)));have vR:(X.env.scope.kind==.class||(X.env.scope.kind==.module&&X.env.locals != X.env.globals))=false:=by rw[I1.ok.kind];rfl
 obtain⟨m,hn,P8⟩:=id I1.loc;have Kj:i < σ.length:=by rw[I.len];exact(i_.mp hi).1
 have hk:X.env.kindOf n=some .local:=hl;obtain⟨u,hu,hlk⟩:=P8 i n .non hi (by rw[v_ Kj]) (.inl hl);have Qx:m n=some u:=by
  rcases hlk with ⟨_,z⟩ | ⟨z,_⟩
  .exact z
  .rw[hk]at z;rcases z with z | z<;>cases z
 unfold unbindBehindTheSuite;refine wpAny_onRaise (wpAny_unbindName_local hk hn Qx vR λh' u' Kk hs=>h _ ?_);have ne:∀{b:Xh},b≠X.env.locals->h'.get? b=s1.heap.get? b:=λ{b} z=>hs.2 b z;have Dc:∀{b:Xh}{o:Obj},X.s₀.heap.get? b=some o->b≠X.env.locals:=λ{b o} q z=>by
  have h1:=q_ q;have h2:=I.ok.above;rw[z]at h1;exact absurd h1 (Nat.not_lt.mpr h2)
 refine⟨I1.ok,I1.os,I1.bare,⟨λb o q n' hf hx=>(ne (Dc q)).trans (I1.base.keep b o q n' hf hx),λb o q n' hf hx=>?_,I1.base.free,λb o q hx=>?_,I1.base.tups,I1.base.frzs,I1.base.tbls⟩,⟨_,Kk,λj x v e1 e2 e3=>?_⟩,λx c hc=>?_,I1.free,I1.freeC,λp hp=>?_,j9 I1.hok λb o ⟨w',hw⟩ hb=>(ne (λz=>by rw[z,I1.free]at hw;cases hw)).trans hb,by rw[V2];exact I.len⟩
 .obtain⟨sl,z⟩:=I1.base.slot b o q n' hf hx;exact⟨sl,(ne (Dc q)).trans z⟩
 .obtain⟨o',z⟩:=I1.base.there b o q hx;exact⟨o',(ne (Dc q)).trans z⟩
 .have Qy:j≠i:=λz=>by subst z;rw[v_ Kj]at e2;cases e2
  rw[p_ (Tg Qy)]at e2;obtain⟨u2,r2,l2⟩:=P8 j x v e1 (by rw[p_ (Tg Qy)];exact e2) e3;refine⟨u2,r2,?_⟩;rcases l2 with ⟨z1,z2⟩ | ⟨z1,c,z2,oc,z3,z4⟩
  .refine .inl ⟨z1,?_⟩;show(if x=n then u' else m x)=some u2;rw[k_]
   .exact z2
   .intro z;subst z;have a1:=i_.mp e1;have a2:=i_.mp hi;rcases Nat.lt_or_gt_of_ne Qy with y | y
    .exact SR.mp hN j i a1.1 a2.1 y (a1.2.trans a2.2.symm)
    .exact SR.mp hN i j a2.1 a1.1 y (a2.2.trans a1.2.symm)
  .exact .inr ⟨z1,c,z2,oc,(ne (I1.cne x c z2)).trans z3,z4⟩
 .obtain⟨v,oc,z1,z2⟩:=I1.cell x c hc;exact⟨v,oc,(ne (I1.cne x c hc)).trans z1,z2⟩
 .rw[T.pn]at hp;cases hp
end
theorem Pm:Tl bmV:=⟨by decide,by decide,by decide,by decide,by decide⟩
section
open Sem (wp)
variable {M:Model}{A:Xb}{E:WR}
variable {nm q nm2 q2:Str}{C N HE N2:Xh}{bs bm bs2 bm2:WY}{sn sn2:W1}{sub sub2:WY}{ab ab2:Bool}{col col2:Option Bool}{dd zB:W0}{k0 k1 k2 k3 k5 j0 j1 j2 j3 j5:WZ}
theorem ub{h:Xd}{g:Array GenState}{d:Drawn}{t:Nat}{os:OsState}{e:Xh}{oe:Obj}{Q:Bool->W_->Prop}(Z:Tl bm2)
  (hC:h.get? C=some (cM nm q C N bs bm sn sub ab col dd k0 k1 k2 k3 k5)) (hE:h.get? HE=some (cM nm2 q2 HE N2 bs2 bm2 sn2 sub2 ab2 col2 zB j0 j1 j2 j3 j5)) (he:h.get? e=some oe) (vR:oe.cls=.ref C) (hb:(Value.ref C::bm).contains (.ref HE)=true)
  (hq:Q true ⟨h,g,d,t,os⟩):wpAny M A (excMatches (.ref e) (.ref HE)) Q E ⟨h,g,d,t,os⟩:=by
 have CW:(Value.ref HE::bm2).contains (.type "BaseException")=true:=by rw[Su,Z.b,TF]
 have f:=tc_notTuple;unfold excMatches
 repeat (first | (with_reducible refine Sx he ?_;rw[vR]) | with_reducible refine Sx hE ?_ | (with_reducible refine S4 hE ?_;rw[CW]) | (with_reducible refine S4 hC ?_;rw[hb]) | wp_step)
 exact hq
end
section
variable {X:Cx}
abbrev XH(X:Cx)(e:Xh):Cx:={X with A:=X.A.mark (some (.ref e)),calm:=false,xe:=λ_ _=>False}
def BB(K:W8)(C HE:Xh):Prop:=∃nm q N bs bm sn sub ab col dd k0 k1 k2 k3 k5,(Value.ref C::bm).contains (.ref HE)=true/\K.lookup C=some (cM nm q C N bs bm sn sub ab col dd k0 k1 k2 k3 k5)
def MO(X:Cx)(HE:Xh)(i:Nat)(ts:TS)(D:Ends)(xe:WR):Prop:=∀(σ:L2.St)(H:Hp)(s:W_)(pins:WS)(e C dx:Xh),Inv X pins σ H s->X.s₀.sz<=e->H e=none->Rec X.s₀.heap s.heap H e C dx->BB X.K C HE->
 ts {nx:=λσ' H'=>D.nx (σ'.set i none) H',rt:=D.rt,bk:=λσ' H'=>D.bk (σ'.set i none) H',ct:=λσ' H'=>D.ct (σ'.set i none) H'} (σ.set i (some (.ref e))) (upd H e (.ext (yr e C dx)))->xe (.ref e) s
def PH(X:Cx)(HE:Xh)(i:Nat)(tb:WR->TS)(ts:TS):TS:=λD σ H=>∀xe,MO X HE i ts D xe->tb xe D σ H
def Q1(X:Cx)(st:Xj)(t:TS):Prop:=∀(s:W_)(σ:L2.St)(H:Hp)(D:Ends),Inv X [] σ H s->t D σ H->wpAny (model X.prog X.w) X.A (exec st X.env) (SP X [] D) X.xe s
def LD(X:Cx)(st:W4)(t:TS):Prop:=∀(s:W_)(σ:L2.St)(H:Hp)(D:Ends),Inv X [] σ H s->t D σ H->wpAny (model X.prog X.w) X.A (execs st X.env) (SP X [] D) X.xe s
theorem IM
  (T:vU X) (hN:X.N.Nodup) (hi:X.N[i]?=some n) (hl:X.env.scope.names.lookup n=some .local) (hg:Gl X "HideError") (hm:X.mg "HideError"=some (.ref HE)) (lk:X.K.lookup HE=some (cM nm q HE N bs bmV sn sub ab col dd k0 k1 k2 k3 k5))
  (hbody:∀xe,PSs (X.wish xe) body (tb xe)) (hsuite:∀e,PSs (XH X e) (b₀::suite) ts) :
  Q1 X (.Try body [.ExceptHandler (some (.Name "HideError" p)) (some n) (b₀::suite) hp] [] [] pos) (PH X HE i tb ts):=by
 intro s σ H D I h;refine wpAny_Try_except ?_;refine SG (hbody (λe s₁=>wpAny (model X.prog X.w) X.A (noteFrame e X.env) (λ_ s₂=>wpAny (model X.prog X.w) X.A (setFlight e none) (λ_ s₃=>wpAny (model X.prog X.w) X.A (handleBy e X.env [.ExceptHandler (some (.Name "HideError" p)) (some n) (b₀::suite) hp]) (SP X [] D) X.xe s₃) X.xe s₂) X.xe s₁) [] s σ H D (I.wish _) (h _ ?_)) (λf s₁ hf=>?_) λ_ _ z=>z
 .intro σ1 H1 s1 pins e C dx I1' hn he r hcg zF;have I1:Inv X [] σ1 H1 s1:=I1'.pins_of λp z=>by cases z
  refine Az T I1.ok.frames I1 hn he r λs3 I3 r3=>?_;refine wpAny_handleBy_cons (codeAny_handlers_test ?_) (by intro z;cases z);have IH:Inv (XH X e) [] σ1 H1 s3:=Pa I3 _ _ rfl;refine gY IH hg hm ?_;refine cN λ_ kq=>?_;obtain⟨nmC,qC,NC,bsC,bmC,snC,subC,abC,colC,ddC,c0,c1,c2,c3,c5,hct,lkC⟩:=hcg;obtain⟨oe,vs,a1,a2,a3,a4,a5,a6⟩:=id r3;have kin:=I3.kIn;obtain⟨hh,g,d,tk,os⟩:=s3;refine kq (ub (Pm) (kin _ _ lkC) (kin _ _ lk) a1 a2 hct ?_)
  all_goals clear kq
  simp only[Um];refine codeAny_handlers_suite_as (uJ T I3 hn he r3 λs4 I4 r4=>?_);have hap:=r4.apart I4;obtain⟨oe4,vs4,b1,b2,b3,b4,b5,b6⟩:=id r4;have I5:Inv X [] σ1 (upd H1 e (.ext (yr e C dx))) s4:=adopt T I4 hn he hap ⟨_,b1⟩ ⟨oe4,b1,b2,b3,by unfold PySem.W.notCls;rw[b4]⟩ vD;refine jz I5 hN hi (.inl hl) (v:=.ref e) rfl (λs6 I6=>?_) (.inr hl);refine SG (hsuite e [] s6 _ _ _ (Pa I6 _ _ rfl) zF) (λf s7 hf=>?_) λ_ _ z=>False.elim z;cases f with
  | next=>
   obtain⟨σ',H',I',q'⟩:=hf;exact hW T (Og I.ok I') hN hi hl λs8 I8=>⟨_,H',I8,q'⟩
  | brk=>
   obtain⟨σ',H',I',q'⟩:=hf;exact hW T (Og I.ok I') hN hi hl λs8 I8=>⟨_,H',I8,q'⟩
  | cont=>
   obtain⟨σ',H',I',q'⟩:=hf;exact hW T (Og I.ok I') hN hi hl λs8 I8=>⟨_,H',I8,q'⟩
  | ret u=>
   obtain⟨v,σ',H',I',rv,q'⟩:=hf;exact hW T (Og I.ok I') hN hi hl λs8 I8=>⟨v,_,H',I8,rv,q'⟩
 .cases f with
  | next=>exact Vh hf.unwish
  | ret v=>exact hf.unwish
  | brk=>exact hf.unwish
  | cont=>exact hf.unwish
end
end Xc
namespace Mi
open PySem PySem.Spec PyProof.Rows L2 Xc
abbrev Rs:=Except (Str×D) D
abbrev FeX:=En->Option Rs
abbrev FlX:=En->Option (Except (Str×D) Xo)
inductive Gx where
 | nx (env:En) | rt (d:D) | bk (env:En) | ct (env:En) | ex (c:Str) (d:D) (env:En)
abbrev FsX:=En->Option Gx
def su(X:Cx)(B Z:Hp)(env:En)(c:Str)(d:D):Prop:=∀(σ:L2.St)(Z' H':Hp)(C dx:Xh)(u:V),Ex Z B Z' H'->Rl X.K B Z' H' env σ->X.mg c=some (.ref C)->H' dx=some (.xd [("cell",u)])->Rep X.K Z' d u->
 ∀(pins:WS)(s:W_)(e:Xh),Inv X pins σ H' s->X.s₀.sz<=e->H' e=none->Rec X.s₀.heap s.heap H' e C dx->X.xe (.ref e) s
def yd(X:Cx)(rg:Gr)(B Z:Hp)(E:Ends):Gx->Prop
 | .nx env'=>∀σ' Z' H',Ex Z B Z' H'->Rl X.K B Z' H' env' σ'->E.nx σ' H'
 | .bk env'=>∀σ' Z' H',Ex Z B Z' H'->Rl X.K B Z' H' env' σ'->E.bk σ' H'
 | .ct env'=>∀σ' Z' H',Ex Z B Z' H'->Rl X.K B Z' H' env' σ'->E.ct σ' H'
 | .rt d=>∀v Z' H',Ex Z B Z' H'->Gd X.K Z' B H' rg d v->E.rt v H'
 | .ex c d env'=>su X B Z env' c d
def Ep(X:Cx)(rg:Gr)(f:FsX):TS:=λE σ H=>∃env B Z o,Rl X.K B Z H env σ/\f env=some o/\yd X rg B Z E o
def SX(X:Cx)(rg:Gr)(st:Xj)(f:FsX):Prop:=PS X st (Ep X rg f)
def Dn(X:Cx)(rg:Gr)(rL:W4)(f:FsX):Prop:=PSs X rL (Ep X rg f)
def Mj(X:Cx)(rg:Gr)(st:Xj)(f:FsX):Prop:=Q1 X st (Ep X rg f)
def AJ(X:Cx)(rg:Gr)(rL:W4)(f:FsX):Prop:=LD X rL (Ep X rg f)
def Sm(X:Cx)(g:Gr)(f:FeX):TE:=λσ H Q=>∃env B Z r,Rl X.K B Z H env σ/\f env=some r/\match r with
 | .ok d=>∀v Z' H',Ex Z H Z' H'->Gd X.K Z' H H' g d v->Q v H'
 | .error (c,d)=>su X B Z env c d
def PX(X:Cx)(g:Gr)(e:Xi)(f:FeX):Prop:=PE X e (Sm X g f)
def R8(X:Cx)(f:FlX):TA:=λσ H Q=>∃env B Z r,Rl X.K B Z H env σ/\f env=some r/\match r with
 | .ok ds=>∀vs Z' H',Ex Z H Z' H'->ak X.K Z' ds vs->Q vs H'
 | .error (c,d)=>su X B Z env c d
structure Ry(X:Cx)(es:List Expr)(f:FlX):Prop where
 p:PA X es (R8 X f)
 l:∀env ds,f env=some (.ok ds)->ds.length=es.length
section
variable {X:Cx}{rg g:Gr}{st:Xj}{rL:W4}{pos p:Pos}{e l:Xi}{es:W3}{x:Str}
theorem su.later(x:Ex Z B Z1 H1)(h:su X B Z env c d):su X B Z1 env c d:=λσ Z' H' C dx u y=>h σ Z' H' C dx u (x.transB y)
theorem yd.later(x:Ex Z B Z1 H1)(h:yd X rg B Z E o):yd X rg B Z1 E o:=by
 cases o with
 | nx e=>exact λσ' Z' H' y=>h σ' Z' H' (x.transB y)
 | bk e=>exact λσ' Z' H' y=>h σ' Z' H' (x.transB y)
 | ct e=>exact λσ' Z' H' y=>h σ' Z' H' (x.transB y)
 | rt e=>exact λv Z' H' y=>h v Z' H' (x.transB y)
 | ex c d env=>exact su.later x h
def Out.up:Out->Gx
 | .nx e=>.nx e
 | .rt d=>.rt d
 | .bk e=>.bk e
 | .ct e=>.ct e
def wH(f:Fs):FsX:=λenv=>(f env).map Out.up
theorem yd.of(h:yd X rg B Z E o.up):tD X.K rg B Z E o:=by cases o<;>exact h
theorem Ba(h:Ep X rg (wH f) E σ H):KR X.K rg f E σ H:=by
 obtain⟨env,B,Z,o,R,e,k⟩:=h;obtain⟨o',e1,rfl⟩:=D_.mp e;exact⟨env,B,Z,o',R,e1,k.of⟩
theorem PS.nox'(h:PS X.nox st t):PS X st t:=λpins s σ H D I hw=>
 SG (h pins s σ H D (I.wish _) hw) (λ_ _ q=>q.unwish) λ_ _ z=>False.elim z
theorem sY(h:SD X.nox rg st f):SX X rg st (wH f):=λpins s σ H E I q=>PS.nox' h pins s σ H E I (Ba (X:=X) q)
theorem LI(h:uy X.nox rg rL f):Dn X rg rL (wH f):=λpins s σ H E I q=>L2.PSs.nox h pins s σ H E I (Ba (X:=X) q)
theorem G1(h:SX X rg st f):Mj X rg st f:=λs σ H E I q=>h [] s σ H E I q
def gQ(f g:FsX):FsX:=λenv=>(f env).bind λo=>match o with | .nx e=>g e | o=>some o
theorem xM{f g:FsX}{E:Ends}{σ:L2.St}{H:Hp}(h:Ep X rg (gQ f g) E σ H):Ep X rg f {E with nx:=Ep X rg g E} σ H:=by
 obtain⟨env,B,Z,o,R,e,k⟩:=h;obtain⟨o1,e1,e2⟩:=b_.mp e;refine⟨env,B,Z,o1,R,e1,?_⟩;cases o1 with
 | nx Gp=>exact λσ' Z' H' x R'=>⟨Gp,B,Z',o,R',e2,k.later x⟩
 | rt d=>cases e2;exact k
 | bk d=>cases e2;exact k
 | ct d=>cases e2;exact k
 | ex c d env=>cases e2;exact k
theorem jZ{f g:FsX}(h1:SX X rg st f)(h2:Dn X rg rL g):Dn X rg (st::rL) (gQ f g):=λpins s σ H E I q=>gK h1 h2 pins s σ H E I (xM q)
theorem CH(h1:SX X rg st f):Dn X rg [st] f:=jo h1
theorem Ip(h1:Mj X rg st f):AJ X rg [st] f:=by
 intro s σ H D I h;refine VI (aZ (h1 s σ H D I h) λf s1 q=>?_);cases f with
 | next=>exact Vh q
 | ret v=>exact q
 | brk=>exact q
 | cont=>exact q
theorem xg{f g:FsX}(h1:Mj X rg st f)(h2:AJ X rg rL g):AJ X rg (st::rL) (gQ f g):=by
 intro s σ H D I h;refine VI (aZ (h1 s σ H {D with nx:=Ep X rg g D} I (xM h)) λf s1 q=>?_);cases f with
 | next=>
  obtain⟨σ',H',I',q⟩:=q;exact h2 s1 σ' H' D I' q
 | ret v=>exact q
 | brk=>exact q
 | cont=>exact q
def K3(t:Fb)(f g:FsX):FsX:=λenv=>(t env).bind λb=>if b=true then f env else g env
theorem PC{c:Xi}{a b:W4}{t:Fb}{f g:FsX}(hc:PB X.nox c t)(ha:Dn X rg a f)(hb:Dn X rg b g):SX X rg (.If c a b pos) (K3 t f g):=λpins s σ H E I aC=>by
 obtain⟨env,B,Z,o,R,e,k⟩:=aC;refine Hc (L2.PT.nox hc) ha hb pins s σ H E I ?_;obtain⟨x,e1,e2⟩:=b_.mp e;refine⟨env,B,Z,x,R,e1,λZ1 H1 x1=>?_⟩;cases x with
 | true=>rw[j_ rfl]at e2;exact zr ⟨env,B,Z1,o,R.ext x1,e2,k.later (x1.part R.bh)⟩
 | false=>rw[k_ (by simp)]at e2;exact zt ⟨env,B,Z1,o,R.ext x1,e2,k.later (x1.part R.bh)⟩
end
section
variable {X:Cx}{rg g:Gr}{st:Xj}{rL:W4}{pos p be:Pos}{e l a:Xi}{es:W3}{x c:Str}{k:Nat}
def Cc(c:Str)(fs:Fes):FsX:=λenv=>(fs env).bind λds=>match ds with
 | [_]=>some (.ex c .non env)
 | [_,d]=>some (.ex c d env)
 | _=>none
structure XC(P:Program)(w:World)(K:Fg)(mg:Str->Option Value)(base:Heap)(k:Nat)(c:Str):Prop where
 ex:∃C HE fI fd,mg c=some (.ref C)/\EC K C HE fI/\dh P w K mg base ko k fI fd ["self","words","cell"] (M6 K HE fI)/\Binds K fd ["self","words","cell"] [.none]/\Binds K fd ["self","words","cell"] []
theorem yL(hm:X.mg c=some (.ref C))(R:Rl X.K B Z H env σ)(k:su X B Z env c d)(x1:Ex Z H Z1 H1)(r:Rep X.K Z1 d cv):vZ X σ C λdx H2=>H1 dx=none/\H2=upd H1 dx (.xd [("cell",cv)]):=by
 rintro pins H2 s e dx I hn he hr ⟨NY,rfl⟩;have x2:Ex Z1 H1 Z1 (upd H1 dx (.xd [("cell",cv)])):=Ex.newL x1.zh NY;exact k σ Z1 _ C dx cv ((x1.trans x2).part R.bh) ((R.ext x1).ext x2) hm ai r pins s e I hn he hr
theorem BX(T:XC X.prog X.w X.K X.mg X.base k c)(hr:a9 (k+1) X.A)(hl:PL X [a] fs)(hg:Gl X c:=by rfl)(kF:(c==("__debug__":Str))=false:=by decide)(he:starEach [a] X.env=(false,eval a X.env)::starEach [] X.env:=by rfl) :
  SX X rg (.Raise (some (.Call (.Name c p) [a] [] be)) none pos) (Cc c fs):=λpins s σ H E I aC=>by
 obtain⟨env,B,Z,o,R,e,kk⟩:=aC;obtain⟨C,HE,fI,fd,hm,ec,F,hb1,hb2⟩:=T.ex;refine A9 ec F hr hg hm hb1 (dvs:=[.non]) (.cons rfl .nil) hl.p kF he rfl pins s σ H E I ?_;obtain⟨ds,e1,e2⟩:=b_.mp e;have hlen:=hl.l env ds e1
 match ds,hlen,e2 with
 | [d0],_,e2=>
  cases e2;refine⟨env,B,Z,[d0],R,e1,λvs Z1 H1 x1 r=>?_⟩;obtain⟨v,r',rfl,_,rD⟩:=r;cases(show r'=[]from rD);exact⟨v,.non,rfl,yL hm R kk x1 rfl⟩
def Px(mg:WU)(K:Fg)(n:Nat)(g:Gr)(m:Xo->Option Rs):Sp:=λvs H Q E=>∃Z ds r,ds.length=n/\aH Z H/\ak K Z ds vs/\m ds=some r/\match r with
 | .ok d=>∀v Z' H',Ex Z H Z' H'->Gd K Z' H H' g d v->Q v H'
 | .error (c,d)=>∀C dx u Z' H',mg c=some (.ref C)->Ex Z H Z' H'->H' dx=some (.xd [("cell",u)])->Rep K Z' d u->E (.ref C) (some dx) H'
structure Kz(P:Program)(w:World)(K:Fg)(mg:Str->Option Value)(base:Heap)(k:Nat)(x:Str)(n:Nat)(g:Gr)(m:List D->Option Rs):Prop where
 ex:∃f fd ps,ps.length=n/\dh P w K mg base (Hd P w) k f fd ps (Px mg K n g m)/\mg x=some (.ref f)/\PySem.W.keepIn K (.ref f)=true/\Binds K fd ps []
def Ia(f:Fes):FlX:=λenv=>(f env).map .ok
theorem PA.nox'(h:PA X.nox es t):PA X es t:=λpos pins s σ H Q I hw=>
 SG (h pos pins s σ H Q (I.wish _) hw) (λ_ _ ⟨v,H',I',r,q⟩=>⟨v,H',I'.unwish,r,q⟩) λ_ _ z=>False.elim z
theorem Mz(h:PL X.nox es f):Ry X es (Ia f):=⟨λpos pins s σ H Q I aC=>by
 obtain⟨env,B,Z,r,R,e1,k⟩:=aC;obtain⟨d,e2,rfl⟩:=D_.mp e1;exact PA.nox' h.p pos pins s σ H Q I ⟨env,B,Z,d,R,e2,k⟩,λenv ds e1=>by
 obtain⟨d,e2,e3⟩:=D_.mp e1;cases e3;exact h.l env ds e2⟩
def BN(fs:FlX)(m:Xo->Option Rs):FeX:=λenv=>(fs env).bind λr=>match r with
 | .ok ds=>m ds
 | .error z=>some (.error z)
theorem Ek(C:Kz X.prog X.w X.K X.mg X.base k x n g m)(hr:a9 k X.A)(hl:Ry X (l::es) fs)(hn:(l::es).length=n:=by rfl)(hg:Gl X x:=by rfl)(kF:(x==("__debug__":Str))=false:=by decide)
  (he:starEach (l::es) X.env=(false,eval l X.env)::starEach es X.env:=by rfl) (eO:(backTo pos (starEach es X.env)).any (·.1)=false:=by rfl):PX X g (.Call (.Name x p) (l::es) [] pos) (BN fs m):=by
 rintro pins s σ H Q I ⟨env,B,Z,r,R,e1,kk⟩;obtain⟨f,fd,ps,hps,F,hm,hk,hb⟩:=C.ex;obtain⟨rl,e2,e3⟩:=b_.mp e1;refine TM (gY I hg hm ?_ kF);cases rl with
 | error z=>
  cases e3;refine UM I.ok.mod.kin hk (aZ (hl.p pos pins s σ H (λ_ _=>False) I ⟨env,B,Z,.error z,R,e2,kk⟩) λus s1 ⟨vs,H1,I1,r,q⟩=>False.elim q) he eO
 | ok ds=>
  refine UM I.ok.mod.kin hk (aZ (hl.p pos pins s σ H (λvs H1=>∃Z1,Ex Z H Z1 H1/\ak X.K Z1 ds vs) I ⟨env,B,Z,.ok ds,R,e2,λvs Z1 H1 x1 r1=>⟨Z1,x1,r1⟩⟩) λus s1 ⟨vs,H1,I1,rv,Z1,x1,r1⟩=>⟨I1.kIn,?_⟩) he eO;cases r with
  | ok d=>
   refine xI (E:=E0) F hr hb .nil I1 rv ?_ (λC pins H' s' e dx _ _ _ _ z=>False.elim z);rw[SC];exact⟨Z1,ds,.ok d,by rw[hl.l env ds e2];exact hn,x1.zh,r1,e3,λv Z' H' x2 g2=>kk v Z' H' (x1.trans x2) (g2.frm x1.h)⟩
  | error z=>
   obtain⟨c,d⟩:=z;refine xI (E:=λCv dxo H'=>∃C dx u Z',Cv=.ref C/\dxo=some dx/\X.mg c=some (.ref C)/\Ex Z1 H1 Z' H'/\H' dx=some (.xd [("cell",u)])/\Rep X.K Z' d u) F hr hb .nil I1 rv ?_ ?_
   .rw[SC];exact⟨Z1,ds,.error (c,d),by rw[hl.l env ds e2];exact hn,x1.zh,r1,e3,λC dx u Z' H' h1 h2 h3 h4=>⟨C,dx,u,Z',rfl,rfl,h1,h2,h3,h4⟩⟩
   .rintro C ue H' s' e dx I' Kk ud rD ⟨C',dx',u,Z',hC,NY,h1,h2,h3,h4⟩;cases hC;cases NY;exact kk σ Z' H' C dx u ((x1.trans h2).part R.bh) ((R.ext x1).ext h2) h1 h3 h4 ue s' e I' Kk ud rD
def FT(i:Nat)(f:FeX):FsX:=λenv=>(f env).bind λr=>match r with
 | .ok d=>some (.nx (env.set i (.F d)))
 | .error (c,d)=>some (.ex c d env)
theorem Mx(i:Nat)(he:PX X .cl e f)(hN:X.N.Nodup)(hi:X.N[i]?=some x:=by rfl)(hx:Loc X.env.scope x:=by first | exact Or.inl rfl | exact Or.inr rfl)(hs:swapsWith e (some (.Name x pos')) pos.line X.env=pure false:=by rfl)
  (hf:X.fn x=true\/X.env.scope.names.lookup x=some .local:=by first | exact .inl rfl | exact .inr rfl | assumption):SX X rg (.Assign [.Name x pos'] e pos) (FT i f):=λpins s σ H E I aC=>by
 obtain⟨env,B,Z,o,R,e1,k⟩:=aC;refine fK hN hi hx he hs hf pins s σ H E I ?_;obtain⟨r,e2,e3⟩:=b_.mp e1;cases r with
 | ok d=>cases e3;exact⟨env,B,Z,.ok d,R,e2,λv Z' H' x r=>k _ Z' H' (x.part R.bh) ((R.ext x).setF i r)⟩
 | error z=>obtain⟨c,d⟩:=z;cases e3;exact⟨env,B,Z,.error (c,d),R,e2,k⟩
end
def vm(f:FsX)(n:Nat)(ds:Xo):Option Rs:=(f (aR n ds)).bind λo=>match o with
 | .rt d=>some (.ok d)
 | .nx _=>some (.ok .non)
 | .ex c d _=>some (.error (c,d))
 | _=>none
section
variable {P:Xa}{w:Xe}{K:Fg}{mg:WU}{base:Xd}
theorem Sk{x qual:Str}{st:Xj}{f:Xh}{fd:Xf}{N ps:W1}{k:Nat}{m:Xo->Option Rs}{fb:FsX}(F:xU K x qual st f fd)(S:bC N ps (ax st))
  (hb:∀(bq:W9)(A:Xb)(outer:List Env)(s:W_)(H:Hp)(E:XK),a9 k (A.deeper (envOfC qual (ax st) s.sz f bq))->Dn (eM (Hd P w) P w K mg base N qual (ax st) f bq A outer s H E) .cl (aT st) fb)
  (hm:∀ds r,ds.length=ps.length->m ds=some r->vm fb N.length ds=some r):dh P w K mg base (Hd P w) (k+1) f fd ps (Px mg K ps.length .cl m):=by
 obtain⟨oc,od,kV,doc,pm,an,bq,ct,pV,rfl,lk,dO⟩:=F.ex;refine wF lk dO S (λvs H Q E ⟨Z,ds,d,hl,_,r,_⟩=>by rw[<- r.len];exact hl) λA outer s H vs Q E hr aC=>?_;obtain⟨Z,ds,rs,hl,s1,r,e,kk⟩:=aC;refine⟨_,hb bq A outer s H E hr,?_⟩;obtain⟨o,e1,e2⟩:=b_.mp (hm ds rs hl e);refine⟨_,H,Z,o,Rl.start s1 r,e1,?_⟩;cases o with
 | rt d'=>cases e2;exact kk
 | nx _=>cases e2;exact λσ' Z' H' x R=>kk .non Z' H' x rfl
 | bk _=>cases e2
 | ct _=>cases e2
 | ex c d env=>
  cases e2;exact λσ Z' H' C dx u x R hmg hxd hu pins s' e I hn he rD=>sV σ C pins H' s' e dx I hn he rD (kk C dx u Z' H' hmg x hxd hu)
theorem Hx{CX:CXT}{k:Nat}{f:Xh}{name qual:Str}{params:Arguments}{body:W4}{scope:Xg}{dV kV doc pm bq ct oc:W9}{an od:W0}
  {pV:WT} {N ps:W1} {sp:Sp} (lk:K.lookup f=some ⟨oc,od,.func (PySem.W.fnOf name qual params body scope dV kV doc pm an bq ct),pV⟩) (dO:PySem.W.codeIn K bq qual=true) (S:bC N ps scope)
  (len:∀vs H Q E,sp vs H Q E->vs.length=ps.length)
  (hbody:∀(A:Xb)(outer:List Env)(s:W_)(H:Hp)(vs:Xq)(Q:VK)(E:XK),a9 k (A.deeper (envOfC qual scope s.sz f bq))->sp vs H Q E->
   ∃t,LD (eM CX P w K mg base N qual scope f bq A outer s H E) body t/\t {nx:=λ_ H'=>Q .non H',rt:=Q} (start N vs) H) :
  dh P w K mg base CX (k+1) f (PySem.W.fnOf name qual params body scope dV kV doc pm an bq ct) ps sp:=by
 refine⟨len,λA outer s H args us vs Q E hr e0 hb r lT=>?_⟩;have hl:=len _ _ _ _ lT;have KX:K.In s.heap:=e0.mod.kin.keeps λb o e=>(e0.bs b o e).1;have lim:s.heap.NoLimit:=e0.mod.nolimit.keeps λb o e=>(e0.bs b o e).1;have bo:∀y∈ps.zip us,scope.names.lookup y.1=some .local\/(scope.names.lookup y.1=some .cell/\((cellsFrom (s.sz+1) scope.names []).lookup y.1).isSome=true):=λ⟨n,v⟩ hy=>by
  rcases S.par n (US hy).1 with q | q
  .exact .inl q
  .exact .inr ⟨q,UN _ _ _ (.inl q)⟩
 refine VG hr.depth (KX _ _ lk) rfl S.co S.gen rfl (Wi KX dO) (hb _ _ _ _ ?_);refine U3 S.kind bo λenv he s1 x=>?_;subst he;refine⟨lim.keeps x.toInCall.keep,codeAny_func ?_⟩;obtain⟨t,ht,hq⟩:=hbody A outer s H vs Q E (hr.deeper _) lT;have I:Inv (eM CX P w K mg base N qual scope f bq A outer s H E) [] (start N vs) H s1:=ki S hr.hd e0 hl r x;refine SG (ht s1 (start N vs) H _ I hq) (λfl s' hs=>?_) λe s' hs=>hs;have fin:∀{σ':L2.St}{H':Hp}{v:V}{u:W9},Inv (eM CX P w K mg base N qual scope f bq A outer s H E) [] σ' H' s'->RelV v u->Q v H'->CE outer P w H s Q u s':=
  λ{σ' H' v u} J rv q=>⟨v,H',J.os,J.bare,J.base,J.hok,rv,q⟩
 cases fl with
 | ret u=>
  obtain⟨v,σ',H',J,rv,q⟩:=hs;exact fin J rv q
 | next=>
  obtain⟨σ',H',J,q⟩:=hs;exact fin (v:=V.non) J rfl q
 | brk=>
  obtain⟨_,_,_,q⟩:=hs;exact False.elim q
 | cont=>
  obtain⟨_,_,_,q⟩:=hs;exact False.elim q
def BD(f:FsX)(n:Nat)(ds:Xo):Xp:=(f (aR n ds)).bind λo=>match o with
 | .rt d=>some d
 | _=>none
theorem OS{x qual:Str}{st:Xj}{f:Xh}{fd:Xf}{N ps:W1}{k:Nat}{g:Gr}{m:Xo->Xp}{fb:FsX}(F:xU K x qual st f fd)(S:bC N ps (ax st))
  (hb:∀(bq:W9)(A:Xb)(outer:List Env)(s:W_)(H:Hp)(E:XK),a9 k (A.deeper (envOfC qual (ax st) s.sz f bq))->AJ (eM ko P w K mg base N qual (ax st) f bq A outer s H E) g (aT st) fb)
  (hm:∀ds d,ds.length=ps.length->m ds=some d->BD fb N.length ds=some d):dh P w K mg base ko (k+1) f fd ps (CD K ps.length g m):=by
 obtain⟨oc,od,kV,doc,pm,an,bq,ct,pV,rfl,lk,dO⟩:=F.ex;refine Hx lk dO S (λvs H Q E ⟨Z,ds,d,hl,_,r,_⟩=>by rw[<- r.len];exact hl) λA outer s H vs Q E hr aC=>?_;obtain⟨Z,ds,d,hl,s1,r,e,kk⟩:=aC;refine⟨_,hb bq A outer s H E hr,?_⟩;obtain⟨o,e1,e2⟩:=b_.mp (hm ds d hl e);refine⟨_,H,Z,o,Rl.start s1 r,e1,?_⟩;cases o with
 | rt d'=>cases e2;exact kk
 | nx _=>cases e2
 | bk _=>cases e2
 | ct _=>cases e2
 | ex c d env=>cases e2
end
def uE:W1:=["NoHiding","NoNumber","TooMany","NoCell","NoShot","NothingLeft","NoCounts","Over","NoText","NoRow"]
def vE(c:Str):List Bool:=uE.map (λn=>n==c)++[true]
structure Gy(K:Fg)(mg:Str->Option Value)(HE:Addr)(c:Str)(C:Addr):Prop where
 own:LC K C
 cg:BB K C HE
 fl:∀n∈uE,∀D,mg n=some (.ref D)->PySem.W.kitOne K (.ref C) (.ref D)=some (n==c)
 va:PySem.W.kitOne K (.ref C) (.type "ValueError")=some true
def N'(K:Fg)(mg:WU)(HE:Xh):Sp:=λvs H Q _=>∃v C c,vs=[v]/\z9 H v C/\Gy K mg HE c C/\∀a H',aH H H'->H a=none->H' a=some (.lst ((vE c).map V.bl))->Q (.ref a) H'
theorem jR(s:aH H H')(h:z9 H v C):z9 H' v C:=by
 obtain⟨e,dx,fs,a,b,c⟩:=h;exact⟨e,dx,fs,a,s _ _ b,s _ _ c⟩
theorem vG{K:Fg}{mg:WU}{HE:Xh}{D1 D2 D3 D4 D5 D6 D7 D8 D9 D10:Xh}(m1:mg "NoHiding"=some (.ref D1))(m2:mg "NoNumber"=some (.ref D2))(m3:mg "TooMany"=some (.ref D3))(m4:mg "NoCell"=some (.ref D4))(m5:mg "NoShot"=some (.ref D5))(m6:mg "NothingLeft"=some (.ref D6))(m7:mg "NoCounts"=some (.ref D7))(m8:mg "Over"=some (.ref D8))(m9:mg "NoText"=some (.ref D9))(OD:mg "NoRow"=some (.ref D10))
  {vs:Xq} {H:Hp} {Q:VK} {E:XK} {nx:L2.St->Hp->Prop} (h:N' K mg HE vs H Q E) :
  JC (u4 (DB (d8 (jP K 0 (.ref D1)) (d8 (jP K 0 (.ref D2)) (d8 (jP K 0 (.ref D3)) (d8 (jP K 0 (.ref D4)) tNil))))) (mr 1)) (JC (u4 (Ey rCat (Jx 1) (DB (d8 (jP K 0 (.ref D5)) (d8 (jP K 0 (.ref D6)) (d8 (jP K 0 (.ref D7)) (d8 (jP K 0 (.ref D8)) tNil)))))) (mr 1))
   (LW (Ey rCat (Jx 1) (DB (d8 (jP K 0 (.ref D9)) (d8 (jP K 0 (.ref D10)) (d8 (jP K 0 (.type "ValueError")) tNil))))))) {nx:=nx,rt:=Q} (start ["e","flags"] vs) H:=by
 obtain⟨v,C,c,rfl,hE,hC,q⟩:=h;have f1:=hC.fl _ (by decide) _ m1;have f2:=hC.fl _ (by decide) _ m2;have f3:=hC.fl _ (by decide) _ m3;have f4:=hC.fl _ (by decide) _ m4;have f5:=hC.fl _ (by decide) _ m5;have f6:=hC.fl _ (by decide) _ m6;have f7:=hC.fl _ (by decide) _ m7;have f8:=hC.fl _ (by decide) _ m8;have f9:=hC.fl _ (by decide) _ m9;have f10:=hC.fl _ (by decide) _ OD;have o:=hC.own;refine⟨v,C,_,rfl,hE,o,f1,v,C,_,rfl,hE,o,f2,v,C,_,rfl,hE,o,f3,v,C,_,rfl,hE,o,f4,(show(4:Nat)<=sizeLine by decide),λp1 h1=>?_⟩;have s1:aH H (upd H p1 _):=b9 (o:=.lst [.bl ("NoHiding"==c),.bl ("NoNumber"==c),.bl ("TooMany"==c),.bl ("NoCell"==c)]) h1;have E1:=jR s1 hE;refine⟨_,rfl,v,C,_,rfl,E1,o,f5,v,C,_,rfl,E1,o,f6,v,C,_,rfl,E1,o,f7,v,C,_,rfl,E1,o,f8,(show(4:Nat)<=sizeLine by decide),λp2 h2=>?_⟩;have n12:p1≠p2:=λz=>by rw[<- z,ai]at h2;cases h2
 refine⟨p1,p2,_,_,rfl,rfl,(ar n12).trans ai,ai,(show(8:Nat)<=sizeLine by decide),λp3 h3=>?_⟩;have s2:=b9 (o:=.lst [.bl ("NoShot"==c),.bl ("NothingLeft"==c),.bl ("NoCounts"==c),.bl ("Over"==c)]) h2;have s3:=b9 (o:=.lst ([V.bl ("NoHiding"==c),.bl ("NoNumber"==c),.bl ("TooMany"==c),.bl ("NoCell"==c)]++[.bl ("NoShot"==c),.bl ("NothingLeft"==c),.bl ("NoCounts"==c),.bl ("Over"==c)])) h3;have E3:=jR s3 (jR s2 E1);refine⟨_,rfl,v,C,_,rfl,E3,o,f9,v,C,_,rfl,E3,o,f10,v,C,_,rfl,E3,o,hC.va,(show(3:Nat)<=sizeLine by decide),λp4 h4=>?_⟩;have n34:p3≠p4:=λz=>by rw[<- z,ai]at h4;cases h4
 refine⟨p3,p4,_,_,rfl,rfl,(ar n34).trans ai,ai,(show(11:Nat)<=sizeLine by decide),λp5 h5=>?_⟩;have s4:=b9 (o:=.lst [.bl ("NoText"==c),.bl ("NoRow"==c),.bl true]) h4;have s5:=b9 (o:=.lst (([V.bl ("NoHiding"==c),.bl ("NoNumber"==c),.bl ("TooMany"==c),.bl ("NoCell"==c)]++[.bl ("NoShot"==c),.bl ("NothingLeft"==c),.bl ("NoCounts"==c),.bl ("Over"==c)])++[.bl ("NoText"==c),.bl ("NoRow"==c),.bl true])) h5;have sa:=(((s1.trans s2).trans s3).trans s4).trans s5;refine q p5 _ sa ?_ ?_
 .cases z:H p5 with
  | none=>rfl
  | some ob=>have:=((s1.trans s2).trans s3).trans s4 _ _ z;rw[h5]at this;cases this
 .exact ai
theorem Rl.setU{K:Fg}{B Z H:Hp}{env:En}{σ:L2.St}(R:Rl K B Z H env σ)(i:Nat)(x:Option V):Rl K B Z H (env.set i .un) (σ.set i x):=by
 refine⟨R.bh,R.zh,by simp[R.len],λj s h=>?_,λj ds a h h2=>?_,λj k ds es a hne h1 h2 h3 h4=>?_⟩
 .by_cases hj:i=j
  .subst hj
   by_cases hl:i<env.length
   .rw[v_ hl]at h;cases h;exact⟨x,v_ (by rw[<- R.len];exact hl),trivial⟩
   .rw[K_ (by simpa using S_ hl)]at h;cases h
  .rw[p_ hj]at h ⊢;exact R.sl j s h
 .by_cases hj:i=j
  .subst hj
   by_cases hl:i<env.length
   .rw[v_ hl]at h;cases h
   .rw[K_ (by simpa using S_ hl)]at h;cases h
  .rw[p_ hj]at h h2;exact R.ob j ds a h h2
 .by_cases hj:i=j
  .subst hj
   by_cases hl:i<env.length
   .rw[v_ hl]at h1;cases h1
   .rw[K_ (by simpa using S_ hl)]at h1;cases h1
  .by_cases hk:i=k
   .subst hk
    by_cases hl:i<env.length
    .rw[v_ hl]at h2;cases h2
    .rw[K_ (by simpa using S_ hl)]at h2;cases h2
   .rw[p_ hj]at h1 h3;rw[p_ hk]at h2 h4;exact R.ap j k ds es a hne h1 h2 h3 h4
def gu(c:Str):D:=.lst ((vE c).map .bl)
def BI(cs:W1)(i j:Nat)(fb:FsX):FsX:=λenv=>(fb env).bind λo=>match o with
 | .ex c d env'=>if c∈cs then some (.nx ((env'.set j (.F (gu c))).set i .un))else none
 | o=>some o
theorem wX{K:Fg}{H:Hp}:∀(bs:List Bool),ak K H (bs.map D.bl) (bs.map V.bl)
 | []=>rfl
 | _::bs=>⟨_,_,rfl,rfl,wX bs⟩
theorem Ju{X:Cx}{rg:Gr}{i j k:Nat}{HE:Xh}{n y:Str}{cs:W1}{f:Xh}{fd:Xf}{body:W4}{fb:FsX}{p hp pos p1 p2 p3 p4 p5:Pos}{nm q:Str}{N:Xh}{bs:WY}{sn:W1}{sub:WY}{ab:Bool}{col:Option Bool}{dd:W0}{k0 k1 k2 k3 k5:WZ}
  (T:vU X) (hN:X.N.Nodup) (xV:i≠j) (hm:X.mg "HideError"=some (.ref HE)) (lk:X.K.lookup HE=some (cM nm q HE N bs bmV sn sub ab col dd k0 k1 k2 k3 k5))
  (CT:∀c∈cs,∀C,X.mg c=some (.ref C)->Gy X.K X.mg HE c C) (F:NZ X.prog X.w X.K X.mg X.base k f fd ["e"] (N' X.K X.mg HE)) (hr:Da k X.A) (hf:X.mg "_law_flags"=some (.ref f)) (hk:PySem.W.keepIn X.K (.ref f)=true) (hb:Binds X.K fd ["e"] [])
  (hbody:∀xe,Dn (X.wish xe) rg body fb)
  (hi:X.N[i]?=some n:=by rfl) (hl:X.env.scope.names.lookup n=some .local:=by rfl) (hj:X.N[j]?=some y:=by rfl) (Qz:Loc X.env.scope y:=by first | exact Or.inl rfl | exact Or.inr rfl) (hg:Gl X "HideError":=by rfl) (QA:Gl X "_law_flags":=by rfl)
  (Ky:(n==("__debug__":Str))=false:=by decide) (hd2:(n==("__classdict__":Str))=false:=by decide)
  (QB:X.fn y=true\/X.env.scope.names.lookup y=some .local:=by first | exact .inl rfl | exact .inr rfl)
  (hst:starEach [.Name n p3] X.env=(false,eval (.Name n p3) X.env)::starEach [] X.env:=by rfl)
  (Ku:swapsWith (.Call (.Name "_law_flags" p2) [.Name n p3] [] p4) (some (.Name y p1)) p5.line X.env=pure false:=by rfl) :
  Mj X rg (.Try body [.ExceptHandler (some (.Name "HideError" p)) (some n) [.Assign [.Name y p1] (.Call (.Name "_law_flags" p2) [.Name n p3] [] p4) p5] hp] [] [] pos) (BI cs i j fb):=by
 rintro s σ H E I ⟨env,B,Z,o,R,e1,kk⟩;refine IM T hN hi hl hg hm lk hbody (λe=>jo (fK hN hj Qz (BP F ⟨hr.dp,hr.un⟩ QA hf hk hb (aJ (bH hi (.inl hl) Ky hd2) bN hst) (by decide) hst rfl) Ku QB)) s σ H E I ?_;intro xe hxe;obtain⟨o1,e2,e3⟩:=b_.mp e1;refine⟨env,B,Z,o1,R,e2,?_⟩;cases o1 with
 | nx Gp=>cases e3;exact kk
 | rt d=>cases e3;exact kk
 | bk d=>cases e3;exact kk
 | ct d=>cases e3;exact kk
 | ex c d env'=>
  obtain⟨hc,rfl⟩:=kX e3;intro σ' Z' H' C dx u x R' hmg hxd hu pins s' e I' hn he rD;have hC:=CT c hc C hmg;refine hxe σ' H' s' pins e C dx I'.unwish hn he rD hC.cg ?_;have Kj:i < σ'.length:=by rw[I'.len];exact(i_.mp hi).1
  refine⟨.ref e,v_ Kj,.ref e,C,c,rfl,⟨e,dx,[("cell",u)],rfl,ai,?_⟩,hC,λa H2 sa hna hla=>?_⟩
  .rw[ar (λz=>by rw[z,he]at hxd;cases hxd)];exact hxd
  have Rz:H' a=none:=by
   by_cases z:a=e
   .rw[z];exact he
   .rwa [ar z]at hna
  have s0:aH H' H2:=(b9 he).trans sa;have hZa:Z' a=none:=x.zh.free Rz;have x2:Ex Z' H' (upd Z' a (.lst ((vE c).map V.bl))) H2:=⟨s0,b9 hZa,λb ob hb=>by
   by_cases z:b=a
   .subst z;rw[ai]at hb;cases hb;exact hla
   .rw[ar z]at hb;exact s0 _ _ (x.zh _ _ hb),λb h1 h2=>by
   rw[ar (λz=>h1 (by rw[z];exact Rz))];exact h2,pK (λ_ _ _ h=>h) MY⟩
  have R2:=((R'.ext x2).setF (d:=gu c) j ⟨a,_,rfl,de.of ai,wX _⟩).setU i none;have es:(((σ'.set i (some (V.ref e))).set j (some (V.ref a))).set i none)=(σ'.set j (some (V.ref a))).set i none:=by
   rw[List.set_comm _ _ xV,List.set_set]
  show E.nx (((σ'.set i (some (V.ref e))).set j (some (V.ref a))).set i none) H2;rw[es];exact kk _ _ _ (x.transB (Ex.part x.h x2)) R2
end Mi
namespace Mi
open PySem PySem.Spec PyProof.Rows L2
section
variable {X:Cx}{rg:Gr}{pos px:Pos}{x:Str}{e:Xi}
end
section
variable {X:Cx}{rg:Gr}
end
section
variable {X:Cx}{rg:Gr}{pins:WS}{s:W_}{σ:L2.St}{H:Hp}
variable {o e:Xi}{fa fb:Fe}{apos be:Pos}{k:Nat}
end
end Mi
namespace Mi
open PySem PySem.Spec PyProof.Rows L2
inductive pW(A:Around)(s:Shared)(q:Bool):List Value->List Value->Prop
 | nil:q=false->pW A s q [] []
 | less {w:Value} {ws:List Value}:q=true->pW A s q [] (w::ws)
 | more {v:Value} {vs:List Value}:q=false->pW A s q (v::vs) []
 | same {v w:Value} {vs ws:List Value}:SeqAt.EqAt A s v w true->pW A s q vs ws->pW A s q (v::vs) (w::ws)
 | apart {v w:Value} {vs ws:List Value}:SeqAt.EqAt A s v w false->(∀(prog:Program)(wd:World)(E:Value->Shared->Prop)(Q:Value->Shared->Prop),Q (.bool q) s->wpAny (model prog wd) A (richCompare .Lt v w) Q E s)->pW A s q (v::vs) (w::ws)
section
open PySem.SeqAt
open PySem.AutoSeq1 (wpAny_loadPart')
open PySem.MeetsSeq PySem.MeetsSeq2 PySem.MeetsSeq3
end
section
variable {X:Cx}{pins:WS}{s:W_}{σ:L2.St}{H:Hp}
variable {l r:Xi}{fa fb:Fe}{ga gb:Gr}{pos p:Pos}{k:Nat}
end
end Mi
namespace Mi
open PySem PySem.Spec PyProof.Rows L2
def Sf:D->Option Bool
 | .lst ds=>some !ds.isEmpty
 | _=>none
def fT(f:Fe):Fb:=λenv=>(f env).bind Sf
theorem Nh(h:PD X .cl e f)(he:∀whole,isTrue e X.env whole=(do let v <- whole;standAt e.pos;holding [v] (truthy v)):=by intro _;rfl):PB X e (fT f):=
 PT.imp (tS h he) λσ H Q aC=>by
  obtain⟨env,B,Z,b,R,e,k⟩:=aC;obtain⟨d,h1,h2⟩:=b_.mp e;cases d<;>cases h2;rename_i ds;refine⟨env,B,Z,_,R,h1,λv Z' H' x g=>?_⟩;obtain⟨a,vs,rfl,hq,rr⟩:=g;have hl:=rr.len;have:(!ds.isEmpty)=!vs.isEmpty:=by cases ds<;>cases vs<;>first | rfl | (simp at hl)
  exact⟨_,.inl ⟨vs,x.zh.seq hq,rfl⟩,by rw[<- this];exact k Z' H' x⟩
theorem CI{P:Xa}{w:Xe}{K:Fg}{mg:WU}{base:Xd}{k n:Nat}{f:Xh}{fd:Xf}{ps:W1}{g:Gr}:dh P w K mg base ko k f fd ps (CD K n g λ_=>none):=
 ⟨λvs H Q E ⟨_,_,_,_,_,_,e,_⟩=>(by cases e),λA outer s H args us vs Q E _ _ _ _ ⟨_,_,_,_,_,_,e,_⟩=>(by cases e)⟩
end Mi
namespace Mi
open PySem PySem.Spec PyProof.Rows L2 Xc
section
variable {K:Fg}{mg:WU}{C D HE fI:Xh}{nm q nm2 q2:Str}{N N2:Xh}{bs bs2 bm bm2:WY}{sn sn2:W1}{sub sub2:WY}{ab ab2:Bool}{col col2:Option Bool}{dd zB:W0}{k0 k1 k2 k3 k5 j0 j1 j2 j3 j5:WZ}
theorem vH(lC:K.lookup C=some (cM nm q C N bs bm sn sub ab col dd k0 k1 k2 k3 k5)):PySem.W.mroIn K C b=some ((Value.ref C::bm).contains b):=by
 unfold PySem.W.mroIn PySem.W.clsIn;rw[lC]
 rfl
theorem DW(lC:K.lookup C=some (cM nm q C N bs (.ref HE::bmV) sn sub ab col dd k0 k1 k2 k3 k5))(lD:K.lookup D=some (cM nm2 q2 D N2 bs2 bm2 sn2 sub2 ab2 col2 zB j0 j1 j2 j3 j5))(hD:D≠HE) :
  PySem.W.kitOne K (.ref C) (.ref D)=some (decide (D=C)):=by
 unfold PySem.W.kitOne
 by_cases h:D=C
 .subst h;rw[j_ (VM _),w_ rfl]
 .rw[k_ (λz=>h (Value.ref.inj (VN.mp z)).symm),E_ h];unfold PySem.W.kitCls;have h1:((PySem.W.clsIn K D).isSome&&PySem.W.typeIn K (.ref D)==some (.type "type"))=true:=by
   have e1:PySem.W.typeIn K (.ref D)=some (.type "type"):=(Tn (Option.map (λx:Obj=>x.cls)) lD);rw[e1];unfold PySem.W.clsIn;rw[lD]
   rfl
  show(if((PySem.W.clsIn K D).isSome&&PySem.W.typeIn K (.ref D)==some (.type "type"))=true then PySem.W.subIn K (.ref C) (.ref D)else none)=_;rw[j_ h1];show PySem.W.mroIn K C (.ref D)=some false;rw[vH lC];have c1:(Value.ref D==Value.ref C)=false:=V9.mpr (λz=>h (Value.ref.inj z));have c2:(Value.ref D==Value.ref HE)=false:=V9.mpr (λz=>hD (Value.ref.inj z));rw[Su,c1,Su,c2]
  rfl
theorem EW(lC:K.lookup C=some (cM nm q C N bs (.ref HE::bmV) sn sub ab col dd k0 k1 k2 k3 k5))(hm:PySem.W.kitMeta "ValueError"=true:=by decide +kernel):PySem.W.kitOne K (.ref C) (.type "ValueError")=some true:=by
 unfold PySem.W.kitOne;rw[k_ (λz=>by cases(VN.mp z))];show(if PySem.W.kitMeta "ValueError"=true then PySem.W.subIn K (.ref C) (.type "ValueError")else none)=_;rw[j_ hm];show PySem.W.mroIn K C (.type "ValueError")=some true;rw[vH lC,Su,uw.v,TF]
def AD(K:Fg)(mg:WU)(HE C:Xh)(c n:Str):Prop:=∃D,mg n=some (.ref D)/\(∃nm q N bs bm sn sub ab col dd k0 k1 k2 k3 k5,K.lookup D=some (cM nm q D N bs bm sn sub ab col dd k0 k1 k2 k3 k5))/\D≠HE/\(D=C↔n=c)
theorem JA(ec:EC K C HE fI)(ga:PySem.W.findIn K (.ref C) "__getattribute__"=some (some (.builtin "BaseException.__getattribute__")))(gt:PySem.W.findIn K (.ref C) "__getattr__"=some none)(cl:PySem.W.findIn K (.ref C) "__class__"=some (some (.builtin "object.__class__")))
  (o:∀n∈uE,AD K mg HE C c n):Gy K mg HE c C:=by
 obtain⟨nm,q,N,bs,sn,sub,ab,col,dd,k0,k1,k2,k3,k5,lC⟩:=ec.lk;refine⟨⟨⟨nm,q,N,bs,_,sn,sub,ab,col,dd,k0,k1,k2,k3,k5,uw,lC⟩,⟨ga,gt,cl,?_⟩⟩,⟨nm,q,N,bs,_,sn,sub,ab,col,dd,k0,k1,k2,k3,k5,?_,lC⟩,λn hn D hD=>?_,EW lC⟩
 .rw[vH lC,Su,uw.o,TF]
 .rw[Su,Su,VM,Bool.true_or,TF]
 .obtain⟨D',e,⟨_,_,_,_,_,_,_,_,_,_,_,_,_,_,_,lD⟩,h1,h2⟩:=o n hn;have:D'=D:=Value.ref.inj (Option.some.inj (e.symm.trans hD));subst this;rw[DW lC lD h1];congr 1;rw[S9];simp[h2]
end
structure QC(P:Program)(w:World)(K:Fg)(mg:Str->Option Value)(base:Heap)(cs:List Str):Prop where
 ex:∃HE nm q N bs sn sub ab col dd k0 k1 k2 k3 k5 f fd,mg "HideError"=some (.ref HE)/\K.lookup HE=some (cM nm q HE N bs bmV sn sub ab col dd k0 k1 k2 k3 k5)/\(∀c∈cs,∀C,mg c=some (.ref C)->Gy K mg HE c C)/\
  NZ P w K mg base 1 f fd ["e"] (N' K mg HE)/\mg "_law_flags"=some (.ref f)/\PySem.W.keepIn K (.ref f)=true/\Binds K fd ["e"] []
theorem FD(i j:Nat)
  (TX:QC X.prog X.w X.K X.mg X.base cs) (hr:a9 k X.A) (RA:1<=k) (T:vU X) (hN:X.N.Nodup) (xV:i≠j) (hbody:∀xe,Dn (X.wish xe) rg body fb)
  (hi:X.N[i]?=some n:=by rfl) (hl:X.env.scope.names.lookup n=some .local:=by rfl) (hj:X.N[j]?=some y:=by rfl) (Qz:Loc X.env.scope y:=by first | exact Or.inl rfl | exact Or.inr rfl) (hg:Gl X "HideError":=by rfl) (QA:Gl X "_law_flags":=by rfl)
  (Ky:(n==("__debug__":Str))=false:=by decide) (hd2:(n==("__classdict__":Str))=false:=by decide)
  (QB:X.fn y=true\/X.env.scope.names.lookup y=some .local:=by first | exact .inl rfl | exact .inr rfl)
  (hst:starEach [.Name n p3] X.env=(false,eval (.Name n p3) X.env)::starEach [] X.env:=by rfl)
  (Ku:swapsWith (.Call (.Name "_law_flags" p2) [.Name n p3] [] p4) (some (.Name y p1)) p5.line X.env=pure false:=by rfl) :
  Mj X rg (.Try body [.ExceptHandler (some (.Name "HideError" p)) (some n) [.Assign [.Name y p1] (.Call (.Name "_law_flags" p2) [.Name n p3] [] p4) p5] hp] [] [] pos) (BI cs i j fb):=by
 obtain⟨HE,nm,q,N,bs,sn,sub,ab,col,dd,k0,k1,k2,k3,k5,f,fd,hm,lk,CT,F,hf,hk,hb⟩:=TX.ex;have hr1:=hr.mono RA;exact Ju T hN xV hm lk CT F ⟨hr1.dp,hr1.un⟩ hf hk hb hbody hi hl hj Qz hg QA Ky hd2 QB hst Ku
section
variable {K:Fg}{mg:WU}{HE C:Xh}{c:Str}
theorem Ke:∀c∈([]:W1),∀C,mg c=some (.ref C)->Gy K mg HE c C:=λ_ h=>nomatch h
theorem Fw(m:mg c0=some (.ref C0))(h:Gy K mg HE c0 C0)(t:∀c∈cs,∀C,mg c=some (.ref C)->Gy K mg HE c C):∀c∈c0::cs,∀C,mg c=some (.ref C)->Gy K mg HE c C:=λc hc C hC=>by
 rcases t_.mp hc with rfl | hc
 .have:C0=C:=Value.ref.inj (Option.some.inj (m.symm.trans hC));subst this;exact h
 .exact t c hc C hC
end
end Mi
namespace Mi
open PySem PySem.Spec PyProof.Rows L2
def bE:Xk->List α->Xl->Option α
 | k::ks,d::ds,q=>if k=q then some d else bE ks ds q
 | _,_,_=>none
def cu:Xk->List α->Xl->α->List α
 | k::ks,d::ds,q,x=>(if k=q then x else d)::cu ks ds q x
 | _,ds,_,_=>ds
instance decK(q:Xl)(ks:Xk):Decidable (q∈ks):=decidable_of_iff ((ks.any λk=>decide (k=q))=true) (by simp)
def um(ks:Xk)(q:Xl):Xk:=if q∈ks then ks else ks++[q]
def uk(ks:Xk)(ds:List α)(q:Xl)(x:α):List α:=if q∈ks then cu ks ds q x else ds++[x]
def GI(ks:Xk)(bs:W2)(q:Xl)(b:Xh):W2:=if q∈ks then bs else bs++[b]
theorem FZ(ks:Xk)(q:Xl):(um ks q).length<=ks.length+1:=by unfold um;split<;>simp
theorem pC(q:Xl)(x:α):∀(ks:Xk)(ds:List α),(cu ks ds q x).length=ds.length
 | [],ds=>by cases ds<;>simp[cu]
 | _::_,[]=>by simp[cu]
 | k::ks,d::ds=>by simp[cu,pC q x ks ds]
theorem FA(h:ds.length=ks.length)(q:Xl)(x:α):(uk ks ds q x).length=(um ks q).length:=by
 unfold uk um;split<;>simp[pC,h]
theorem Gb(h:bs.length=ks.length)(q:Xl)(b:Xh):(GI ks bs q b).length=(um ks q).length:=by
 unfold GI um;split<;>simp[h]
theorem pj:∀{ks:Xk}{ds:List α},q∉ks->bE ks ds q=none
 | [],ds,_=>by cases ds<;>simp[bE]
 | _::_,[],_=>by simp[bE]
 | k::ks,d::ds,h=>by
  have h1:¬k=q:=λe=>h (by rw[e];exact o_);unfold bE;rw[k_ h1];exact pj λh2=>h (l_ _ h2)
theorem rT:∀{ks:Xk}{ds:List α},ds.length=ks.length->q∈ks->∃d,bE ks ds q=some d
 | [],_,_,h=>nomatch h
 | _::_,[],h,_=>by simp at h
 | k::ks,d::ds,hl,h=>by
  unfold bE
  by_cases e:k=q
  .exact⟨d,j_ e⟩
  .rw[k_ e];exact rT (by simpa using hl) ((t_.mp h).resolve_left λz=>e z.symm)
theorem lO(hl:ds.length=ks.length):(bE ks ds q).isSome=decide (q∈ks):=by
 by_cases h:q∈ks
 .obtain⟨d,e⟩:=rT hl h;rw[e,w_ h];rfl
 .rw[pj h,E_ h];rfl
theorem ak.look{K:Fg}{H:Hp}{q:Xl}:∀{ks:Xk}{ds:Xo}{vs:Xq}{d:D},ak K H ds vs->bE ks ds q=some d->∃v,bE ks vs q=some v/\Rep K H d v
 | [],ds,_,_,_,e=>by cases ds<;>simp[bE]at e
 | _::_,[],_,_,_,e=>by simp[bE]at e
 | k::ks,d::ds,_,d',⟨v,r,e1,h,t⟩,e=>by
  subst e1;unfold bE at e ⊢
  by_cases z:k=q
  .rw[j_ z]at e ⊢;cases e;exact⟨v,rfl,h⟩
  .rw[k_ z]at e ⊢;exact ak.look t e
theorem ak.repl{K:Fg}{H:Hp}{q:Xl}{x:D}{y:V}(hx:Rep K H x y):∀{ks:Xk}{ds:Xo}{vs:Xq},ak K H ds vs->ak K H (cu ks ds q x) (cu ks vs q y)
 | [],ds,vs,h=>by
  have e1:cu [] ds q x=ds:=by cases ds<;>rfl
  have e2:cu [] vs q y=vs:=by cases vs<;>rfl
  rw[e1,e2];exact h
 | _::_,[],vs,h=>by cases(show vs=[]from h);exact h
 | k::ks,d::ds,_,⟨v,r,e1,h,t⟩=>by
  subst e1;unfold cu
  by_cases z:k=q
  .rw[j_ z,j_ z];exact⟨y,_,rfl,hx,ak.repl hx t⟩
  .rw[k_ z,k_ z];exact⟨v,_,rfl,h,ak.repl hx t⟩
theorem ak.put{K:Fg}{H:Hp}{q:Xl}{x:D}{y:V}(hx:Rep K H x y){ks:Xk}{ds:Xo}{vs:Xq}(h:ak K H ds vs):ak K H (uk ks ds q x) (uk ks vs q y):=by
 unfold uk
 split
 .exact ak.repl hx h
 .exact h.app (ak.one hx)
theorem av.look:∀{ks:Xk}{vs:Xq}{us:WY}{v:V},av vs us->bE ks vs q=some v->∃u,bE ks us q=some u/\RelV v u
 | [],vs,_,_,_,e=>by cases vs<;>simp[bE]at e
 | _::_,_,_,_,.nil,e=>by simp[bE]at e
 | k::ks,_,_,v,.cons r t,e=>by
  unfold bE at e ⊢
  by_cases z:k=q
  .rw[j_ z]at e ⊢;cases e;exact⟨_,rfl,r⟩
  .rw[k_ z]at e ⊢;exact av.look t e
theorem av.repl(hx:RelV y u):∀{ks:Xk}{vs:Xq}{us:WY},av vs us->av (cu ks vs q y) (cu ks us q u)
 | [],vs,us,h=>by
  have e1:cu [] vs q y=vs:=by cases vs<;>rfl
  have e2:cu [] us q u=us:=by cases us<;>rfl
  rw[e1,e2];exact h
 | _::_,_,_,.nil=>.nil
 | k::ks,_,_,.cons r t=>by
  unfold cu
  by_cases z:k=q
  .rw[j_ z,j_ z];exact .cons hx (av.repl hx t)
  .rw[k_ z,k_ z];exact .cons r (av.repl hx t)
theorem oG(hx:RelV y u):∀{vs:Xq}{us:WY},av vs us->av (vs++[y]) (us++[u])
 | _,_,.nil=>.cons hx .nil
 | _,_,.cons r t=>.cons r (oG hx t)
theorem av.put(hx:RelV y u)(h:av vs us):av (uk ks vs q y) (uk ks us q u):=by
 unfold uk
 split
 .exact av.repl hx h
 .exact oG hx h
theorem fj(k:Xl)(ks:Xk)(b:Xh)(bs:W2)(u:W9)(us:WY):ek (k::ks) (b::bs) (u::us)=(k,b,u)::ek ks bs us:=rfl
theorem cV:∀{ks:Xk}{bs:W2}{us:WY},bs.length=ks.length->us.length=ks.length->(ek ks bs us).map (·.1)=ks
 | [],_,_,_,_=>rfl
 | _::_,[],_,h,_=>by simp at h
 | _::_,_::_,[],_,h=>by simp at h
 | k::ks,b::bs,u::us,h1,h2=>by rw[fj,L_,cV (by simpa using h1) (by simpa using h2)]
theorem Eu(h1:bs.length=ks.length)(h2:us.length=ks.length):(ek ks bs us).length=ks.length:=by
 have:=Tn List.length (cV h1 h2);simpa using this
theorem qJ(q:Xl):∀{ks:Xk}{bs:W2}{us:WY},bs.length=ks.length->us.length=ks.length->(atKey (ek ks bs us) q).map (·.2)=bE ks us q
 | [],_,us,_,_=>by cases us<;>rfl
 | _::_,[],_,h,_=>by simp at h
 | _::_,_::_,[],_,h=>by simp at h
 | k::ks,b::bs,u::us,h1,h2=>by
  have ih:=qJ q (by simpa using h1) (by simpa using h2);rw[fj];unfold atKey at ih ⊢;unfold bE;rw[List.find?_cons]
  by_cases e:k=q
  .rw[j_ e,show decide ((k,b,u).1=q)=true by simpa using e];rfl
  .rw[k_ e,show decide ((k,b,u).1=q)=false by simpa using e];exact ih
theorem qj(q:Xl)(h1:bs.length=ks.length)(h2:us.length=ks.length):(atKey (ek ks bs us) q).isSome=decide (q∈ks):=by
 rw[<- lO h2,<- qJ q h1 h2,Option.isSome_map]
theorem rP(q:Xl)(u':W9):∀{ks:Xk}{bs:W2}{us:WY},bs.length=ks.length->us.length=ks.length->(ek ks bs us).map (putAt q u')=ek ks bs (cu ks us q u')
 | [],_,us,_,_=>by cases us<;>rfl
 | _::_,[],_,h,_=>by simp at h
 | _::_,_::_,[],_,h=>by simp at h
 | k::ks,b::bs,u::us,h1,h2=>by
  rw[fj,L_,rP q u' (by simpa using h1) (by simpa using h2)];rw[show cu (k::ks) (u::us) q u'=(if k=q then u' else u)::cu ks us q u' from rfl,fj];congr 1;unfold putAt
  by_cases e:k=q
  .rw[j_ e,j_ e]
  .rw[k_ e,k_ e]
theorem l8(q:Xl)(b':Xh)(u':W9):∀{ks:Xk}{bs:W2}{us:WY},bs.length=ks.length->us.length=ks.length->ek (ks++[q]) (bs++[b']) (us++[u'])=ek ks bs us++[(q,b',u')]
 | [],[],[],_,_=>rfl
 | [],_::_,_,h,_=>by simp at h
 | [],[],_::_,_,h=>by simp at h
 | _::_,[],_,h,_=>by simp at h
 | _::_,_::_,[],_,h=>by simp at h
 | k::ks,b::bs,u::us,h1,h2=>by
  rw[Ub,Ub,Ub,fj,fj,Ub,l8 q b' u' (by simpa using h1) (by simpa using h2)]
theorem uv(q:Xl)(b:Xh)(u:W9)(h1:bs.length=ks.length)(h2:us.length=ks.length):storedH (ek ks bs us) q b u=ek (um ks q) (GI ks bs q b) (uk ks us q u):=by
 unfold storedH um GI uk;rw[qj q h1 h2]
 by_cases h:q∈ks
 .rw[w_ h,j_ rfl,j_ h,j_ h,j_ h,rP q u h1 h2]
 .rw[E_ h,k_ (by simp),k_ h,k_ h,k_ h,l8 q b u h1 h2]
theorem wQ(h:x∈ek ks bs us):∃i:Nat,ks[i]?=some x.1/\bs[i]?=some x.2.1:=by
 obtain⟨i,hi⟩:=VE.mp h;obtain⟨a1,a2⟩:=Te.mp hi;exact⟨i,a1,(Te.mp a2).1⟩
theorem iM.put{K:Fg}{H:Hp}{ks:Xk}{bs:W2}(r:iM K H ks bs)(hl:bs.length=ks.length){q:Xl}{b:Xh}(hq:cw K H b (q.map kV)):iM K H (um ks q) (GI ks bs q b):=λi k b' h1 h2=>by
 unfold um at h1;unfold GI at h2
 split at h1
 .rw[j_ ‹_›]at h2;exact r i k b' h1 h2
 .rw[k_ ‹_›]at h2
  by_cases hi:i<ks.length
  .rw[I_ hi]at h1;rw[I_ (by rw[hl];exact hi)]at h2;exact r i k b' h1 h2
  .rw[G_ (by lia)]at h1;rw[G_ (by rw[hl];lia)]at h2;have hz:i-ks.length=0:=by
    have:=(i_.mp h1).1;simp at this;lia
   rw[hz]at h1;rw[hl,hz]at h2;cases h1;cases h2;exact hq
theorem Cs(P:Xa)(w:Xe):Fd (hashStr w)=entryOfKey (tupleKind (aA P w)):=by
 funext x;unfold Fd entryOfKey;congr 1
section
variable {P:Xa}{w:Xe}{a:Xh}{ks:Xk}{bs:W2}{vs:Xq}{h:Xd}
theorem FL(d:h.DictOfH (tupleKind (aA P w)) a (ek ks bs us))(hv:av vs us)(h1:bs.length=ks.length)(h2:us.length=ks.length)(hs:(a==sysModules)=false)(hz:ks.length<=16000000):fu (hashStr w) a ks bs vs h:=by
 obtain⟨o,es,ep,e1,e2,e3,e4,_,e6⟩:=d;rw[cV h1 h2]at e6;exact⟨o,es,ep,us,e1,e2,e3,hv,by rw[e4,Cs P w],e6,hs,hz,h1,h2⟩
theorem ma(th:Str->Int)(a:Xh)(ks:Xk)(bs:W2)(vs:Xq):∀h1 h2:Xd,fu th a ks bs vs h1->(∀o,h1.get? a=some o->h2.get? a=some o)->fu th a ks bs vs h2:=λh1 h2 ⟨o,es,ep,us,e,r⟩ k=>⟨o,es,ep,us,k o e,r⟩
end
section
variable {X:Cx}{rg:Gr}{l r:Xi}{fa fb:Fe}{ga gb:Gr}{pos p:Pos}{k:Nat}
theorem jw{pins σ H s}(I:Inv X pins σ H s)(hq:cw X.K H b (q.map kV)):(tupleKind (aA X.prog X.w)).is s.heap q b:=by
 obtain⟨aQ,rv,⟨o,h1,h2,n',h3⟩,_⟩:=I.tuple hq;exact⟨o,aQ.toArray,n',h1,h2,h3,by simpa using jT rv⟩
theorem zQ{pins σ H s}(I:Inv X pins σ H s)(hc:H c=some (.ext (fu (hashStr X.w) c ks bs vs)))(hp:iM X.K H ks bs) :
  ∃us,av vs us/\bs.length=ks.length/\us.length=ks.length/\s.heap.DictOfH (tupleKind (aA X.prog X.w)) c (ek ks bs us)/\(c==sysModules)=false/\ks.length<=16000000:=by
 have hS:fu (hashStr X.w) c ks bs vs s.heap:=(show aV X.prog X.w H s.heap c (.ext (fu (hashStr X.w) c ks bs vs))from I.hok c _ hc).1;obtain⟨o,es,ep,us,e1,e2,e3,hv,e4,e5,e6,e7,h1,h2⟩:=hS;refine⟨us,hv,h1,h2,⟨o,es,ep,e1,e2,e3,by rw[e4,Cs X.prog X.w],λx hx=>?_,by rw[cV h1 h2];exact e5⟩,e6,e7⟩;obtain⟨i,a1,a2⟩:=wQ hx;exact jw I (hp i _ _ a1 a2)
def Oh:Xo->Option Xl
 | []=>some []
 | .int i::ds=>(Oh ds).map (.inl i::·)
 | .str x::ds=>(Oh ds).map (.inr x::·)
 | _=>none
theorem iZ{K:Fg}{H:Hp}:∀{ds:Xo}{vs:Xq}{q:Xl},ak K H ds vs->Oh ds=some q->vs=q.map kV
 | [],vs,_,h,e=>by cases e;exact h
 | .int i::ds,_,_,⟨v,r,e1,h,t⟩,e=>by
  obtain⟨q',e2,rfl⟩:=D_.mp e;rw[e1,iZ t e2,show v=V.int i from h];rfl
 | .str x::ds,_,_,⟨v,r,e1,h,t⟩,e=>by
  obtain⟨q',e2,rfl⟩:=D_.mp e;rw[e1,iZ t e2,show v=V.str x from h.1];rfl
 | .non::_,_,_,_,e=>by cases e
 | .bl _::_,_,_,_,e=>by cases e
 | .tup _::_,_,_,_,e=>by cases e
 | .lst _::_,_,_,_,e=>by cases e
 | .dct _::_,_,_,_,e=>by cases e
 | .st _::_,_,_,_,e=>by cases e
 | .ln _::_,_,_,_,e=>by cases e
 | .mp _ _ _::_,_,_,_,e=>by cases e
 | .ix _ _ _::_,_,_,_,e=>by cases e
 | .nt _ _::_,_,_,_,e=>by cases e
def DO:D->Option Xl
 | .tup ts=>Oh ts
 | _=>none
theorem v7{K:Fg}{Z H H0:Hp}{g:Gr}{d:D}{v:V}{q:Xl}(s:aH Z H)(h:Gd K Z H0 H g d v)(e:DO d=some q):∃b,v=.ref b/\cw K H b (q.map kV):=by
 cases d<;>try cases e
 obtain⟨b,vs,rfl,hq,rr⟩:=h.tup s;rw[iZ rr e]at hq;exact⟨b,rfl,hq⟩
open Classical in
noncomputable def K4(th:Str->Int):D->Option (Xk×Xo)
 | .mp zD ks ds=>if zD=th then some (ks,ds)else none
 | _=>none
open Classical in
theorem si(h:K4 th d=some x):d=.mp th x.1 x.2:=by
 cases d<;>try cases h
 unfold K4 at h;obtain⟨rfl,rfl⟩:=kX h
 rfl
open Classical in
theorem GT(th:Str->Int)(ks:Xk)(ds:Xo):K4 th (.mp th ks ds)=some (ks,ds):=by show(if th=th then some (ks,ds)else none)=_;rw[j_ rfl]
noncomputable def Oe(th:Str->Int)(neg:Bool)(x y:D):Xp:=(DO x).bind λq=>(K4 th y).bind λm=>some (.bl (if neg then !decide (q∈m.1)else decide (q∈m.1)))
def MM(K:Fg)(th:Str->Int)(neg:Bool):R2:=λx y H Q=>∃(b c:Xh)(ks:Xk)(bs:W2)(vs:Xq)(q:Xl),x=.ref b/\cw K H b (q.map kV)/\y=.ref c/\H c=some (.ext (fu th c ks bs vs))/\iM K H ks bs/\Q (.bl (if neg then !decide (q∈ks)else decide (q∈ks))) H
theorem HZ(hu:X.A.units+1<cLine)(neg:Bool):gw X (compareOp (if neg then .NotIn else .In)) (MM X.K (hashStr X.w) neg):=by
 intro pins s σ H x y v u Q I rx ry h;obtain⟨b,c,ks,bs,vs,q,rfl,hq,rfl,hc,hp,qq⟩:=h;cases rx;cases ry;obtain⟨us,hv,h1,h2,dd,nU,hz⟩:=zQ I hc hp;cases neg with
 | false=>
  refine wpAny_in_heap (Wl hu) (jw I hq) nU dd ?_;rw[qj q h1 h2];exact⟨.bl _,H,I.tok _,rfl,qq⟩
 | true=>
  refine wpAny_notIn_heap (Wl hu) (jw I hq) nU dd ?_;rw[qj q h1 h2];exact⟨.bl _,H,I.tok _,rfl,qq⟩
theorem Nb{K:Fg}{th:Str->Int}{neg:Bool}:ck K .cl (Oe th neg) (MM K th neg):=λ{Z H x y dx dy d Q} s h1 h2 e kq=>by
 obtain⟨q,e1,e⟩:=b_.mp e;obtain⟨m,e2,e3⟩:=b_.mp e;cases e3;cases si e2;obtain⟨b,rfl,hq⟩:=v7 s h1 e1;obtain⟨c,rfl,bs,vs,hc,hp,rr⟩:=h2.mp s;exact⟨b,c,m.1,bs,vs,q,rfl,hq,rfl,hc,hp.mono s,kq _ Z H (Ex.refl s) rfl⟩
theorem Lq(hw:th=hashStr X.w)(hr:a9 k X.A)(ha:PD X ga l fa)(hb:PD X gb r fb)(hm:behindInMarks .In r=false:=by rfl):PB X (.Compare l [.In] [r] pos) (fB (ao (Oe th false) fa fb)):=by
 subst hw;exact kT (HZ (Cn hr) false) Nb ha hb hm
end
section
variable {X:Cx}{rg:Gr}{l r:Xi}{fa fb:Fe}{ga gb:Gr}{pos p:Pos}{k:Nat}
theorem AC(hw:th=hashStr X.w):PD X .nm (.Dict [] [] pos) (fC (.mp th [] [])):=λpins s σ H Q I hT=>by
 subst hw;obtain⟨env,B,Z,d,R,e,k⟩:=hT;cases e;have hf:=I.hok.fresh (h_ s.sz);have hd:fu (hashStr X.w) s.sz [] [] [] (s.heap.push {cls:=.type "dict",data:=.dict #[]}):=⟨_,#[],0,[],n_ _ rfl,⟨rfl,rfl,rfl⟩,rfl,.nil,rfl,U4,by have:=I.big;simpa using (T7 this),by simp,rfl,rfl⟩;exact wpAny_Dict_empty ⟨.ref s.sz,_,I.laid (o:=.ext (fu (hashStr X.w) s.sz [] [] [])) (λ_ _ q=>e_ _ q) (h_ _) ⟨hd,⟨_,n_ _ rfl⟩,ma _ _ _ _ _⟩,rfl,
  k _ Z _ (Ex.newL R.zh hf) ⟨s.sz,_,[],[],rfl,rfl,hf,⟨[],[],ai,λi p b h=>by simp at h,rfl⟩,R.zh.free hf⟩⟩
def setM(i:Nat)(f:Fe):Fs:=λenv=>(f env).bind λd=>match d with | .mp th ks ds=>some (.nx (env.set i (.O (.M th ks ds)))) | _=>none
theorem yq(h:KR X.K rg (setM i f) E σ H):u4 (T X.K .nm f) (mr i) E σ H:=by
 refine cN λ_ kq=>?_;obtain⟨env,B,Z,o,R,e,k⟩:=h;obtain⟨d,e1,e2⟩:=b_.mp e;cases d<;>cases e2;rename_i th ks ds;refine kq (⟨env,B,Z,_,R,e1,λv Z' H' x g=>?_⟩)
 all_goals clear kq
 obtain⟨a,zD,gj,NI,rfl,e3,h1,⟨bs,vs,h2,hp,rr⟩,h3⟩:=g;cases e3;refine k _ Z' H' (x.part R.bh) ((R.ext x).setO i (R.bh.free h1) h3 h2 (show bU X.K Z' a (.M th ks ds) _ from⟨bs,vs,rfl,hp,rr⟩) λj es hj hje hja=>?_);obtain⟨y,e4,b,us,e5,e6,_⟩:=R.sl j _ hje;rw[hja]at e4;cases e4;cases e5;rw[h1]at e6;cases e6
theorem Bl(i:Nat)(he:PD X .nm e fe)(hN:X.N.Nodup)(hi:X.N[i]?=some x:=by rfl)(hx:Loc X.env.scope x:=by first | exact Or.inl rfl | exact Or.inr rfl)(hs:swapsWith e (some (.Name x pos')) pos.line X.env=pure false:=by rfl)
  (hf:X.fn x=true\/X.env.scope.names.lookup x=some .local:=by first | exact .inl rfl | exact .inr rfl | assumption):SD X rg (.Assign [.Name x pos'] e pos) (setM i fe):=PS.imp (fK hN hi hx he hs hf) λE σ H h=>yq h
def Ce(i:Nat):Fs:=λenv=>match env[i]? with
 | some (.O (.M th ks ds))=>some (.rt (.mp th ks ds))
 | _=>none
theorem B9(i:Nat)(hN:X.N[i]?=some x:=by rfl)(hv:xy X.env.scope x:=by first | exact Or.inl rfl | exact Or.inr (Or.inl rfl) | exact Or.inr (Or.inr rfl))(hd:(x==("__debug__":Str))=false:=by decide)
  (dO:(x==("__classdict__":Str))=false:=by decide):SD X .nm (.Return (some (.Name x p)) pos) (Ce i):=PS.imp (q8 (bH hN hv hd dO)) λE σ H aC=>by
 obtain⟨env,B,Z,o,R,e,k⟩:=aC;unfold Ce at e
 split at e
 .rename_i th ks ds hi;cases e;obtain⟨y,e1,a,o,e2,e3,e4,r⟩:=R.sl i _ hi;obtain⟨bs,vs,rfl,hp,rr⟩:=r;subst e2;exact⟨_,e1,k _ Z H ⟨R.bh,aH.refl _,R.zh,λ_ _ h=>h,λ_ _ _ h=>h⟩ ⟨a,th,ks,ds,rfl,rfl,R.ob i _ a hi e1,⟨bs,vs,e3,hp,rr⟩,e4⟩⟩
 .cases e
def MP(K:Fg)(th:Str->Int)(td ty tv:TE):TS:=λD σ H=>tv σ H λv H1=>td σ H1 λx H2=>ty σ H2 λy H3=>∃(a b:Xh)(ks:Xk)(bs:W2)(vs:Xq)(q:Xl),x=.ref a/\y=.ref b/\H3 a=some (.ext (fu th a ks bs vs))/\iM K H3 ks bs/\cw K H3 b (q.map kV)/\ks.length<16000000/\
 (bs.length=ks.length->D.nx σ (upd H3 a (.ext (fu th a (um ks q) (GI ks bs q b) (uk ks vs q v)))))
theorem map_set{pins σ H s}(hu:A.units+1<cLine)(I:Inv X pins σ H s)
  (hc:H a=some (.ext (fu (hashStr X.w) a ks bs vs))) (hp:iM X.K H ks bs) (hq:cw X.K H b (q.map kV)) (hl:ks.length<16000000) (rv:RelV v u)
  (h:∀s',bs.length=ks.length->Inv X pins σ (upd H a (.ext (fu (hashStr X.w) a (um ks q) (GI ks bs q b) (uk ks vs q v)))) s'->Q () s'):wpAny (model X.prog X.w) A (setItem (.ref a) (.ref b) u) Q E s:=by
 obtain⟨us,hv,h1,h2,dd,nU,hz⟩:=zQ I hc hp;refine wpAny_setItem_heap (hsz:=by rw[Eu h1 h2,Sz];lia) (Wl hu) (jw I hq) dd λh' dd' hs'=>?_;rw[uv q b u h1 h2]at dd';have hnew:=FL dd' (av.put rv hv) (Gb h1 q b) (FA h2 q u) nU (by have:=FZ ks q;lia);have he:∃u,h'.get? a=some u:=by obtain⟨o,_,_,_,e,_⟩:=hnew;exact⟨o,e⟩
 exact h _ h1 (I.write (by rw[hc];exact True.intro) (.inl rfl) (λb u hb z=>(hs'.2 b hb).trans z) he ⟨hnew,he,ma _ _ _ _ _⟩)
theorem Fy(hu:X.A.units+1<cLine)(ho:PE X o td)(hi:PE X i ty)(hv:PE X value tv)(hs:swapsWith value (some (.Subscript o i pos')) pos.line X.env=pure false) :
  PS X (.Assign [.Subscript o i pos'] value pos) (MP X.K (hashStr X.w) td ty tv):=by
 intro pins s σ H D I h;refine wpAny_Assign_Subscript (aZ (hv pins s σ H _ I h) λr s1 ⟨v,H1,I1,rv,q1⟩=>aZ (ho pins s1 σ H1 _ I1 q1) λu s2 ⟨x,H2,I2,rx,q2⟩=>aZ (hi pins s2 σ H2 _ I2 q2) λiv s3 aC=>?_) hs;obtain⟨y,H3,I3,ry,a,b,ks,bs,vs,q,ex,ey,hc,hp,hq,hl,q3⟩:=aC;subst ex ey;cases(show u=Value.ref a from rx);cases(show iv=Value.ref b from ry);exact map_set hu I3 hc hp hq hl rv λs4 z I4=>⟨σ,_,I4,q3 z⟩
open Classical in
noncomputable def zO(th:Str->Int)(i:Nat)(fv fk:Fe):Fs:=λenv=>(fv env).bind λd=>(fk env).bind λkd=>(DO kd).bind λq=>match env[i]? with
 | some (.O (.M zD ks ds))=>if zD=th/\ks.length<16000000 then some (.nx (env.set i (.O (.M th (um ks q) (uk ks ds q d)))))else none
 | _=>none
open Classical in
theorem CC(i:Nat)(hw:th=hashStr X.w)(hr:a9 k X.A)(hv:PD X .cl value fv)(hk:PD X .cl key fk)(hN:X.N[i]?=some x:=by rfl)(Ho:xy X.env.scope x:=by first | exact Or.inl rfl | exact Or.inr (Or.inl rfl) | exact Or.inr (Or.inr rfl))
  (hd:(x==("__debug__":Str))=false:=by decide) (dO:(x==("__classdict__":Str))=false:=by decide)
  (hs:swapsWith value (some (.Subscript (.Name x px) key p2)) pos.line X.env=pure false:=by rfl) :
  SD X rg (.Assign [.Subscript (.Name x px) key p2] value pos) (zO th i fv fk):=by
 subst hw;refine PS.imp (Fy (Cn hr) (bH hN Ho hd dO) hk hv hs) λE σ H aC=>?_;obtain⟨env,B,Z,o,R,e,kq⟩:=aC;obtain⟨d,e1,e⟩:=b_.mp e;obtain⟨kd,e2,e⟩:=b_.mp e;obtain⟨q,e7,e⟩:=b_.mp e;refine⟨env,B,Z,d,R,e1,λv Z1 H1 x1 g1=>?_⟩
 split at e
 .rename_i zD ks ds hi;obtain⟨⟨rfl,hlen⟩,rfl⟩:=kX e;have R1:=R.ext x1;obtain⟨y,e3,c,o,e4,e5,e6,bs,vs,rfl,hp,rr⟩:=R1.sl i _ hi;subst e4;refine⟨_,e3,env,B,Z1,kd,R1,e2,λkv Z2 H2 x2 g2=>?_⟩;have R2:=R1.ext x2;obtain⟨b,rfl,hq⟩:=v7 x2.zh (show Gd X.K Z2 H1 H2 .cl kd kv from g2) e7;have hq0:cw X.K Z2 b (q.map kV):=by
   cases kd<;>try cases e7
   obtain⟨b',Qu,e8,uq,rr'⟩:=(show Rep X.K Z2 (.tup _) _ from g2);cases e8;rw[iZ rr' e7]at uq;exact uq
  refine⟨c,b,ks,bs,vs,q,rfl,rfl,x2.h _ _ e5,(hp.mono x2.z).mono x2.zh,hq,hlen,λhl=>?_⟩;obtain⟨R3,x3⟩:=R2.wr hi e3 (show bU X.K _ c (.M _ (um ks q) (uk ks ds q d)) _ from⟨_,_,rfl,iM.put (hp.mono x2.z) hl hq0,ak.put (Rep.mono x2.z d g1) (ak.mono x2.z ds rr)⟩);exact kq σ _ _ (((x1.trans x2).part R.bh).transB x3) R3
 .cases e
end
section
variable {X:Cx}{rg:Gr}{l r:Xi}{fa fb:Fe}{ga gb:Gr}{pos p:Pos}{k:Nat}
end
def era(Z:Hp)(a:Xh):Hp:=λb=>if b=a then none else Z b
theorem mx:era Z a a=none:=j_ rfl
theorem rn(h:b≠a):era Z a b=Z b:=k_ h
theorem Rl.frzX{K:Fg}{B Z H:Hp}{env:En}{σ:L2.St}{w:rF}(R:Rl K B Z H env σ){i:Nat}{a:Xh}{o:HO}(hi:env[i]?=some (.O w))(hs:σ[i]?=some (some (.ref a)))(ho:H a=some o)(hz:Z a=none)(r:bU K Z a w o):Rl K B (upd Z a o) H (env.set i (.F w.d)) σ:=by
 have hb:=R.ob i w a hi hs;have hl:i<env.length:=(i_.mp hi).1;have s1:aH Z (upd Z a o):=b9 hz;have s2:aH (upd Z a o) H:=nh R.zh ho;have Gn:∀{j:Nat}{es:rF},(env.set i (.F w.d))[j]?=some (.O es)->i≠j:=λ{j es} h z=>by
  subst z;rw[v_ hl]at h;cases h
 refine⟨R.bh,s2,by simp[R.len],λj s h=>?_,λj fs b h h2=>?_,λj k fs gs b hne h1 h2 h3 h4=>?_⟩
 .by_cases hj:i=j
  .subst hj;rw[v_ hl]at h;cases h;exact⟨_,hs,_,rfl,(r.mono s1).rep ai⟩
  .rw[p_ hj]at h;obtain⟨y,e4,q⟩:=R.sl j s h;refine⟨y,e4,?_⟩;cases s with
   | un=>trivial
   | F d=>obtain⟨v,e5,q⟩:=q;exact⟨v,e5,Rep.mono s1 d q⟩
   | O fs=>
    obtain⟨b,us',e5,e6,e7,q⟩:=q;refine⟨b,us',e5,e6,?_,q.mono s1⟩;rw[ar (λz=>?_)]
    .exact e7
    .subst z;subst e5;exact R.ap i j w fs b hj hi h hs e4
 .have n:=Gn h;rw[p_ n]at h;exact R.ob j fs b h h2
 .have n1:=Gn h1;have n2:=Gn h2;rw[p_ n1]at h1;rw[p_ n2]at h2;exact R.ap j k fs gs b hne h1 h2 h3 h4
theorem Ex.unfrz(hz:Z a=none)(ha:H a=some o)(x:Ex (upd Z a o) H Z' H'):Ex Z H (era Z' a) H':=by
 refine⟨x.h,λb u e=>?_,λb u e=>?_,λb hb e=>?_,λb ob u e=>?_⟩
 .have hne:b≠a:=λz=>by subst z;rw[hz]at e;cases e
  rw[rn hne];exact x.z b u (by rw[ar hne];exact e)
 .by_cases hne:b=a
  .subst hne;rw[mx]at e;cases e
  .rw[rn hne]at e;exact x.zh b u e
 .by_cases hne:b=a
  .subst hne;exact mx
  .rw[rn hne];exact x.fr b hb (by rw[ar hne];exact e)
 .have hne:b≠a:=λz=>by subst z;rw[mx]at e;cases e
  rw[rn hne]at e;have q:=x.nf b ob u e;rw[ar hne]at q;exact q
section
variable {X:Cx}{e:Xi}{f:Fe}
end
section
variable {prog:Xa}{w:Xe}{A:Xb}{E:WR}{s:W_}{it d:Xh}{i n ep:Nat}{es:Array DictEntry}{od:Obj}{y z:W9}
end
section
variable {X:Cx}{es:W3}{kk:Nat}{tp:Pos}
end
def kD:Key->D
 | .inl i=>.int i
 | .inr x=>.str x
def BJ(k:Xl):Bool:=k.all λx=>match x with | .inl _=>true | .inr x=>PyData.strOk x
theorem rA{K:Fg}{H:Hp}:∀{k:Xl},BJ k=true->ak K H (k.map kD) (k.map kV)
 | [],_=>rfl
 | .inl i::k,h=>⟨_,_,rfl,rfl,rA (k:=k) (by unfold BJ at h ⊢;simpa using h)⟩
 | .inr x::k,h=>by
  unfold BJ at h;rw[VR,F_]at h;exact⟨_,_,rfl,⟨rfl,h.1⟩,rA (k:=k) h.2⟩
section
variable {X:Cx}{es:W3}{kk:Nat}{tp:Pos}
end
section
variable {kx vx:Xi}{gens:WX}{scope:Xg}{pos:Pos}{d:Nat}{tg iter:Xi}{ifs:W3}{it:W9}{a:Xh}{env:Env}
end
section
variable {X:Cx}{a:Xh}{kx vx:Xi}{fk fv:Fe}
end
section
variable {X:Cx}{a:Xh}{kx vx:Xi}{gens:WX}{scope:Xg}{pos:Pos}{d:Nat}{tg iter ur bK:Xi}{ifs kG:W3}{t t':Ft}{c c':Fb}{k:Xm}{fe fk:Fe}{fi:Fi}{is:W5}
end
section
variable {X:Cx}{kx vx:Xi}{rest:WX}{scope:Xg}{pos:Pos}{tg iter:Xi}{ifs:W3}{t:Ft}{c:Fb}{k:Xm}{fi:Fi}{is caps:W5}{cl:WV}{Nc own:W1}
end
theorem fm:∀{ns:W6}{us:WY},av (ns.map V.int) us->∀(i:Nat)(v:W9),us[i]?=some v->∃t,v=Value.int (ns.getD i 0) t
 | [],_,.nil,i,v,h=>by simp at h
 | n::ns,_,.cons r t,0,v,h=>by simp at h;subst h;exact r
 | n::ns,_,.cons r t,i+1,v,h=>by
  obtain⟨t',e⟩:=fm t i v (by simpa using h);exact⟨t',by simpa using e⟩
theorem preSum_eq(ns:W6):∀n,n<=ns.length->preSum (λi=>ns.getD i 0) n=(ns.take n).sum
 | 0,_=>by simp[preSum]
 | n+1,h=>by
  have hn:n<ns.length:=h;rw[preSum,preSum_eq ns n (by lia),WO,List.sum_append];simp[List.getD,hn]
section
variable {X:Cx}{l r:Xi}{fa fb:Fe}{ga gb:Gr}{pos p:Pos}
theorem yH(hc:X.calm=true):dB X (.builtin "sum") (λxs H Q=>∃(a:Xh)(ns:W6),xs=[.ref a]/\de X.K H a (ns.map V.int)/\Q (.int ns.sum) H):=by
 intro pins s σ H xs us Q I rs h;obtain⟨a,ns,rfl,hq,q⟩:=h;obtain⟨u,rfl,rx⟩:=vals1 rs;cases rx;obtain⟨aQ,rv,pl,hz⟩:=I.list hq;have hlt:a<s.sz:=by obtain⟨o,ho,_⟩:=pl.isList;exact q_ ho
 have hl:=av.length rv;rw[c_]at hl;refine call_sum_walkG (Vu pl.isList ⟨s.sz,_,_,_,_,_,λi=>ns.getD i 0,rfl,Walks.list (show X.A.in1.handled=none from I.ok.hd hc) s.sz a (z_ hlt) aQ.toArray,⟨⟨_,n_ _ rfl,rfl,rfl⟩,pl.isList.push _⟩,λb hb=>?_,λi v hv=>fm rv i v (by simpa using hv),λh' tk t' hk=>?_⟩)
 .simp only[t_,SY,U1]at hb;rw[Vy];rcases hb with rfl | rfl
  .exact Nat.lt_succ_self _
  .exact T3 hlt
 .have e:preSum (λi=>ns.getD i 0) aQ.toArray.size=ns.sum:=by
   rw[show aQ.toArray.size=ns.length by simp[<- hl],preSum_eq ns _ (h_ _),Tb]
  rw[e];refine⟨.int ns.sum,H,I.kept λb o e=>hk b o (λhb=>?_) (e_ _ e),⟨_,rfl⟩,q⟩;have:b=s.sz:=by simpa using hb
  exact z_ (q_ e) this
def Ff:D->Xp
 | .lst ds=>(jv ds).bind λns=>some (.int ns.sum)
 | _=>none
theorem M3{K:Fg}:ik K .cl Ff (λxs H Q=>∃(a:Xh)(ns:W6),xs=[.ref a]/\de K H a (ns.map V.int)/\Q (.int ns.sum) H):=λ{Z H x dx d Q} s h e k=>by
 cases dx<;>try cases e
 obtain⟨ns,h1,h2⟩:=b_.mp e;cases h2;cases jq h1;obtain⟨a,vs,rfl,q,rr⟩:=h.lst s;cases ak.intsV rr;exact⟨a,ns,rfl,q,k _ Z H (Ex.refl s) rfl⟩
theorem yK:bootBuiltins "sum"=some (.builtin "sum"):=by decide +kernel
theorem LV(hm:X.mg "sum"=none)(bp:X.calm=true)(ha:PD X ga l fa)(hg:Gl X "sum":=by rfl)(he:starEach [l] X.env=[(false,eval l X.env)]:=by rfl):PD X .cl (.Call (.Name "sum" p) [l] [] pos) (br Ff fa):=
 tY (yH bp) M3 yK hm ha (by decide) (by decide) hg he
variable {o e:Xi}{apos be:Pos}
end
section
variable {X:Cx}{rg:Gr}
open Classical in
open Classical in
end
class Th where
 h:Str->Int
end Mi
namespace Lm
open PySem PySem.Spec PyProof.Rows L2
theorem yk{pos:Pos}{a b:Int}{c v:W9}(l:WY)(h:TriplesOk l):codeAmong pos (l++[rawInt a,rawInt b,c])=some v->codeAmong pos l=some v\/v=c:=by
 fun_induction TriplesOk l with
 | case1=>
  intro z;simp only[Uu,codeAmong,rawInt]at z
  split at z
  .cases z;exact .inr rfl
  .cases z
 | case2 a' t b' u x rest ih=>
  intro z;simp only[Ub,codeAmong]at z ⊢
  split at z
  .rename_i hc;rw[j_ hc];exact .inl z
  .rename_i hc;rw[k_ hc];exact ih h z
 | case3 l h1 h2=>exact h.elim
def uA(f:Xh)(mk:W9->Xf)(h:Xd):Prop:=∃ctv,h.get? f=some {cls:=.type "function",data:=.func (mk ctv)}
theorem mv(f:Xh)(mk:W9->Xf):∀h1 h2:Xd,uA f mk h1->(∀o,h1.get? f=some o->h2.get? f=some o)->uA f mk h2:=λ_ _ ⟨c,e⟩ k=>⟨c,k _ e⟩
section
variable {X:Cx}{pins:WS}{σ:L2.St}{H:Hp}{s:W_}{h':Xd}{P c:Xh}{q:Str}{ps:Array W9}{a b:Int}{mk:W9->Xf}{ctv:W9}{t':Tok}
theorem lam(I:L2.Inv X pins σ H s)(hP:H P=some (.tab q))(hps:s.heap.get? P=some {cls:=.none,data:=.fields ps})(ht:TriplesOk ps.toList)
  (hx:Heap.ExtBut P s.heap h') (h1:s.heap.objs.size<=c) (h2:c<h'.objs.size) (hc:h'.CodeRec (.ref c) q) (hn:h'.get? P=some {cls:=.none,data:=.fields (ps++#[rawInt a,rawInt b,.ref c])}) :
  L2.Inv X pins σ (upd (upd H c (.cod q)) h'.objs.size (.ext (uA h'.objs.size mk))) {s with heap:=h'.push {cls:=.type "function",data:=.func (mk ctv)},toks:=t'}:=by
 have fc:H c=none:=I.hok.fresh h1;have ff:H h'.objs.size=none:=I.hok.fresh (B_ h1 (TR h2));have ncf:c≠h'.objs.size:=z_ h2;have up:∀{b:Xh}{o:HO},H b=some o->upd (upd H c (.cod q)) h'.objs.size (.ext (uA h'.objs.size mk)) b=some o:=λ{b o} e=>by
  rw[ar (aS e ff),ar (aS e fc)];exact e
 have kp:∀b o,b≠P->s.heap.get? b=some o->(h'.push {cls:=.type "function",data:=.func (mk ctv)}).get? b=some o:=λb o hb e=>e_ _ (hx b o hb e);have nP:∀{b:Xh},H b=none->b≠P:=λ{b} n z=>by rw[z,hP]at n;cases n
 refine I.step (g':=s.gens) (d':=s.drawn) (t':=t') (ch:=[]) (λ_ z=>nomatch z) (λb o _ _ _ e n=>kp b o (nP n) e) (λb o _ _ _ e n=>⟨o.slots,kp b o (nP n) e⟩) (λb o _ e n=>?_) (λb o _ e=>?_)
  (λb xs e=>up e) (λb o u e=>up e) (λb ps e=>up e) (λm hm=>?_) (λb u e=>?_) I.bare
 .have lt:=q_ e;rw[ar (z_ (N_ lt (B_ h1 (TR h2)))),ar (z_ (N_ lt h1))];exact n
 .by_cases hb:b=P
  .subst hb;exact⟨_,e_ _ hn⟩
  .exact⟨o,kp b o hb e⟩
 .obtain⟨o,es,ep,ho,r⟩:=hm;exact⟨o,es,ep,kp _ o (nP I.free) ho,r⟩
 .by_cases hf:b=h'.objs.size
  .subst hf;rw[ai]at e;cases e;have z:(h'.push {cls:=.type "function",data:=.func (mk ctv)}).get? h'.objs.size=some {cls:=.type "function",data:=.func (mk ctv)}:=n_ _ rfl;exact⟨⟨ctv,z⟩,⟨_,z⟩,mv _ _⟩
  .rw[ar hf]at e
   by_cases hbc:b=c
   .subst hbc;rw[ai]at e;cases e;obtain⟨c2,oc,vs,t,e2,Gm,hd,hv⟩:=hc;cases e2;exact⟨oc,vs,t,e_ _ Gm,hd,hv⟩
   .rw[ar hbc]at e
    by_cases hbP:b=P
    .subst hbP;rw[hP]at e;cases e;obtain⟨ps0,e0,_,KA⟩:=(show aV X.prog X.w H s.heap b (.tab q)from I.hok b _ hP);rw[hps]at e0;cases e0;refine⟨_,e_ _ hn,?_,λpos v z=>?_⟩
     .rw[Array.toList_append];exact TriplesOk_snoc _ _ _ _ ht
     .rw[Array.toList_append]at z;rcases yk _ ht z with z | z
      .obtain⟨c0,z1,z2⟩:=KA pos v z;exact⟨c0,z1,up z2⟩
      .exact⟨c,z,by rw[ar ncf,ai]⟩
    .refine(I.hok b u e).stay (λd v hd r=>kp d v ?_ r) (λd r=>up r) (λd xs r=>up r) λd xs r=>up r;rcases hd with z | z
     .rw[z];exact hbP
     .exact λw=>by rw[w,hP]at z;cases z
theorem HK(I:L2.Inv X pins σ H s)(hk:∀b o,s.heap.get? b=some o->h'.get? b=some o)(hs:s.heap.objs.size<=h'.objs.size) :
  L2.Inv X pins σ (upd H h'.objs.size (.ext (uA h'.objs.size mk))) {s with heap:=h'.push {cls:=.type "function",data:=.func (mk ctv)},toks:=t'}:=by
 have z:(h'.push {cls:=.type "function",data:=.func (mk ctv)}).get? h'.objs.size=some {cls:=.type "function",data:=.func (mk ctv)}:=n_ _ rfl;exact I.laid (t':=t') (λb u e=>e_ _ (hk b u e)) hs ⟨⟨ctv,z⟩,⟨_,z⟩,mv _ _⟩
end
section
variable {X:Cx}{pins:WS}{σ:L2.St}{H:Hp}{s:W_}{P c0:Xh}{params:Arguments}{body:Xi}{scope:Xg}{pos:Pos}{zH:WV}
abbrev vI(X:Cx):Str:=X.env.qual++"<lambda>"
abbrev yw(X:Cx)(params:Arguments)(body:Xi)(scope:Xg)(zH:WV)(c:Xh)(ctv:W9):Xf:=
 PySem.W.kla_fn "<lambda>" (vI X) params body scope zH ((X.mg "__name__").getD .none) (.ref c) ctv
theorem JO{Q:WR}{E:WR}(I:L2.Inv X pins σ H s)(hP:H P=some (.tab (vI X)))(xW:X.env.code=.ref c0)(C:PySem.W.CodeHd X.base c0 P)
  (hB:∃bm o,X.mg "__builtins__"=some (.ref bm)/\bm≠builtinsNs/\bm≠mainGlobals/\X.base.get? bm=some o/\o.cls=.type "module"/\o.dict=some builtinsNs/\o.data=.plain)
  (gU:closureFor scope X.env=pure zH) (KB:defaultsOf params X.env=([],[]))
  (k:∀f c H' s',L2.Inv X pins σ H' s'->aH H H'->H f=none->H' c=some (.cod (vI X))->H' f=some (.ext (uA f (yw X params body scope zH c)))->Q (.ref f) s') :
  wpAny (model X.prog X.w) X.A (eval (.Lambda params body scope pos) X.env) Q E s:=by
 have kb:∀b o,X.base.get? b=some o->s.heap.get? b=some o:=λb o e=>(I.bs b o e).1;obtain⟨ps,e1,ht,KA⟩:=(show aV X.prog X.w H s.heap P (.tab (vI X))from I.hok P _ hP);have hg:s.heap.Ns mainGlobals X.mg:=by
  obtain⟨o,es,ep,e,r⟩:=I.ok.mod.glob;exact⟨o,es,ep,kb _ _ e,r⟩
 have nP:∀b o,X.base.get? b=some o->b≠P:=λb o e z=>by
  have:=(I.bs b o e).2;rw[z,hP]at this;cases this
 have hgP:mainGlobals≠P:=by
  obtain⟨o,es,ep,e,r⟩:=I.ok.mod.glob;exact nP _ _ e
 have hb:s.heap.BuiltinsAt X.mg P:=by
  obtain⟨bm,o,b1,b2,b3,b4,b5⟩:=hB;exact⟨bm,o,b1,b2,b3,nP _ _ b4,kb _ _ b4,b5⟩
 refine PySem.W.kla_eval KB ?_;cases hn:codeAmong pos ps.toList with
 | none=>
  refine PySem.W.kla_makeFunction gU I.ok.glob hg xW (C.keeps kb) e1 ht hn hgP hb λc' ctv h' tk hx Hq hlt hrec htb=>?_;have I':=lam (mk:=yw X params body scope zH c') (ctv:=ctv) (t':=tk) I hP e1 ht hx Hq hlt hrec htb;have fc:H c'=none:=I.hok.fresh Hq;have ff:H h'.objs.size=none:=I.hok.fresh (B_ Hq (TR hlt));exact k _ c' _ _ I' (λb o e=>by rw[ar (aS e ff),ar (aS e fc)];exact e) ff (by rw[ar (z_ hlt),ai]) ai
 | some cv=>
  obtain⟨c',rfl,hc'⟩:=KA pos cv hn;refine PySem.W.kla_makeFunctionHit gU I.ok.glob hg xW (C.keeps kb) e1 ht hn hb λctv h' tk hk hsz=>?_;have I':=HK (mk:=yw X params body scope zH c') (ctv:=ctv) (t':=tk) I hk hsz;have ff:H h'.objs.size=none:=I.hok.fresh hsz;exact k _ c' _ _ I' (λb o e=>by rw[ar (aS e ff)];exact e) ff (by rw[ar (aS hc' ff)];exact hc') ai
end
end Lm
namespace Lm
open PySem PySem.Spec PyProof.Rows L2 Mi
abbrev rB(X:Cx)(scope:Xg)(cl:WV)(f c L:Xh):Env:=newEnv scope L mainGlobals cl (vI X++".<locals>.") (some f) (.ref c) none builtinsNs
def tF(X:Cx)(A:Xb)(scope:Xg)(cl:WV)(Nc:W1)(f c:Xh)(s:W_)(H:Hp)(pn:WS):Cx:=
 {X with A:=A.deeper (rB X scope cl f c s.sz),N:=Nc,s₀:=s,H₀:=H,env:=rB X scope cl f c s.sz,outer:=X.stack,stack:=rB X scope cl f c s.sz::X.stack,ex:=[],fn:=λ_=>false,calm:=true,pn:=pn,xe:=λ_ _=>False}
section
variable {X:Cx}{A:Xb}{pins:WS}{σ:L2.St}{H:Hp}{s:W_}{scope:Xg}{cl:WV}{Nc:W1}{caps:W5}{f c:Xh}{x0:Str}{v:V}{u:W9}
theorem FE{h1:Xd}{tk:Nat}(I:Inv X pins σ H s)(hd:A.handled=none)(hfr:A.frames=some X.stack)(gU:fM (λx=>X.env.cells.lookup x) scope.names []=some cl)(bo:scope.kind=.function)(hnc:∀y∈scope.names,y.2≠.cell)
  (hN:Nc.map some=some x0::caps.map (λj=>X.N[j]?)) (eQ:ie X scope caps=true) (h0:scope.names.lookup x0=some .local) (r:RelV v u)
  (zC:h1.Ns s.sz (λx=>[(x0,u)].reverse.lookup x)) (hk:∀b o,s.heap.get? b=some o->h1.get? b=some o) :
  Inv (tF X A scope cl Nc f c s H (X.pn++pins)) [] ((la 1 caps σ).set 0 (some v)) H {s with heap:=h1,toks:=tk}:=by
 have mem:=fw gU (λp hp=>by cases hp);have low:∀x c,cl.lookup x=some c->X.env.cells.lookup x=some c:=λx c h=>mem (x,c) (SL h);have Dr:∀b:Xh,b∉(tF X A scope cl Nc f c s H (X.pn++pins)).ex:=λb z=>absurd (show b∈([]:W2)from z) (by simp);refine⟨⟨I.ok.mod,bo,rfl,rfl,h_ _,λx y c h1 h2=>I.ok.inj x y c (low x c h1) (low y c h2),λx hx=>?_,λx c hf _=>absurd (show false=true from hf) P_,λ_=>hd,Around.frames_deeper hfr,.inr ⟨rfl,rfl⟩,λb z=>absurd z (Dr b),
   I.bs,B_ I.ok.bsz I.sz,λb _ _=>Dr b,λb z=>absurd z (Dr b),I.stack,I.stkFree,I.tb⟩,
  rfl,I.bare,Un.kept hk,⟨_,zC,λi x v' e1 e2 e3=>?_⟩,λx c h=>?_,I.hok.fresh (h_ _),λx c h=>I.freeC x c (low x c h),λp hp=>?_,I.hok.kept hk,?_⟩
 .have jI:scope.names.lookup x=some .cell\/scope.names.lookup x=some .free:=hx;rcases jI with h | h
  .exact absurd rfl (hnc _ (SL h))
  .obtain⟨c,hc⟩:=eT gU x (.inl (SL h));exact b8 hc
 .cases i with
  | zero=>
   have uh:some (some v)=some (some v'):=e2;cases uh;have h1:(Nc.map some)[0]?=some (some x):=by rw[m_,show Nc[0]?=some x from e1];rfl
   rw[hN]at h1;have h2:some (some x0)=some (some x):=h1;cases h2;exact⟨u,r,.inl ⟨h0,by simp⟩⟩
  | succ i=>
   have uh:(caps.map λj=>(σ[j]?).getD none)[i]?=some (some v'):=e2;rw[m_]at uh;cases hj:caps[i]? with
   | none=>rw[hj]at uh;cases uh
   | some j=>
    rw[hj]at uh;have uh:(σ[j]?).getD none=some v':=Option.some.inj uh;have hσ:σ[j]?=some (some v'):=by
     cases q:σ[j]? with
     | none=>rw[q]at uh;cases uh
     | some o=>rw[q]at uh;exact Tn some uh
    have hx:X.N[j]?=some x:=by
     have h1:(Nc.map some)[i+1]?=some (some x):=by rw[m_,show Nc[i+1]?=some x from e1];rfl
     rw[hN]at h1;have h2:(caps.map (λj=>X.N[j]?))[i]?=some (some x):=h1;rw[m_,hj]at h2;exact Option.some.inj h2
    have hc1:=M_.mp eQ j (R_ hj);rw[hx]at hc1;simp only[F_,WJ,VN]at hc1;obtain⟨hc1,rK⟩:=hc1;obtain⟨m0,Qc,Oy⟩:=I.loc;obtain⟨u,ru,lk⟩:=Oy j x v' hx hσ (.inr hc1);refine⟨u,ru,.inr ?_⟩;have Qd:∃c,X.env.cells.lookup x=some c/\s.heap.IsCell c (some u):=by
     rcases lk with ⟨h1,_⟩ | ⟨_,c,h1,h2⟩
     .have h1':X.env.scope.names.lookup x=some .local:=h1;rcases hc1 with z | z<;>· rw[h1']at z;cases z
     .exact⟨c,h1,h2⟩
    obtain⟨c,Qe,Qf⟩:=Qd;obtain⟨c',hc'⟩:=eT gU x (.inl (SL rK));obtain⟨Qg,CN⟩:=b8 hc';have e4:=low x Qg CN;rw[Qe]at e4;cases e4;obtain⟨o,ho,hd⟩:=Qf;exact⟨.inr rK,c,CN,o,hk c o ho,hd⟩
 .obtain⟨v,o,ho,hd⟩:=I.cell x c (low x c h);exact⟨v,o,hk c o ho,hd⟩
 .have NM:p∈X.pn++pins:=by simpa [tF]using hp
  obtain⟨h1,h2,h3,h4,h5⟩:=I.pin p NM;exact⟨hk _ _ h1,h2,z_ (q_ h1),eU I h3 h4,h5⟩
 .have:=Tn List.length hN;simp only[c_,A_]at this;simp only[la,V2,r_,Uo,c_];rw[Wc];exact this.symm
def Lz(X:Cx)(pins:WS)(σ:L2.St)(Z H:Hp)(n:Int)(y:W9)(s':W_):Prop:=∃t H' Z',y=.int n t/\Inv X pins σ H' s'/\Ex Z H Z' H'
theorem AS{params:Arguments}{body:Xi}{fl:Fe}{B Z:Hp}{env:En}{d:D}{n:Int}(I:Inv X pins σ H s)(R:Rl X.K B Z H env σ)(hfr:A.frames=some X.stack)(hr:a9 k A)
  (hf:H f=some (.ext (uA f (yw X params body scope cl c)))) (hc:H c=some (.cod (vI X)))
  (hb:∀ctv u,bindArgs (yw X params body scope cl c ctv) ⟨[u],[]⟩=pure [(x0,u)]) (hco:scope.isCoroutine=false) (KC:scope.isGenerator=false)
  (gU:fM (λx=>X.env.cells.lookup x) scope.names []=some cl) (bo:scope.kind=.function) (hnc:∀y∈scope.names,y.2≠.cell)
  (hN:Nc.map some=some x0::caps.map (λj=>X.N[j]?)) (eQ:ie X scope caps=true) (h0:scope.names.lookup x0=some .local)
  (hbody:∀s H pn,PD (tF X A scope cl Nc f c s H pn) .cl body fl) (r:RelV v u) (hv:Rep X.K Z d v) (hfl:fl ((cK 1 caps env).set 0 (.F d))=some (.int n)) :
  wpAny (model X.prog X.w) A (call (.ref f) [u]) (Lz X pins σ Z H n) (λ_ _=>False) s:=by
 obtain⟨⟨ctv,hF⟩,_⟩:=(show aV X.prog X.w H s.heap f (.ext _)from I.hok f _ hf);obtain⟨oc,vs,t,h1,h2,h3⟩:=(show aV X.prog X.w H s.heap c (.cod _)from I.hok c _ hc);refine VJ (PySem.W.kla_callFunE hr.depth hF rfl hco KC rfl ⟨c,oc,vs,t,rfl,h1,h2,h3⟩ ?_);refine VV (hb ctv u) ?_;refine VW hnc (by intro y hy;rw[s_.mp hy];exact h0) (λh1 zC hsb=>?_) bo;have k:∀b o,s.heap.get? b=some o->h1.get? b=some o:=λb o e=>hsb.extBut b o (z_ (q_ e)) (e_ _ e);refine⟨I.nolimit.keeps k,PySem.W.kla_codeExpr ?_⟩;have J:=FE (f:=f) (c:=c) (tk:=s.toks+[(x0,u)].length) I hr.hd hfr gU bo hnc hN eQ h0 r zC k;have R':Rl X.K H Z H ((cK 1 caps env).set 0 (.F d)) ((la 1 caps σ).set 0 (some v)):=(R.cap 1 caps (aH.refl _) R.zh).setF 0 hv;refine SG (hbody s H (X.pn++pins) [] _ _ H (λw H'=>∃Z',Ex Z H Z' H'/\Rep X.K Z' (.int n) w) J ⟨_,H,Z,_,R',hfl,λw Z' H' x g=>⟨Z',x,g⟩⟩) (λy s' hy=>?_) λe s' he=>he.elim;obtain⟨w,H',J',rw_,Z',x,g⟩:=hy;cases(show w=.int n from g);obtain⟨t,rfl⟩:=rw_;exact⟨t,H',Z',rfl,I.call' (ch:=[]) J'.os J'.base J'.hok J'.bare (λb z=>absurd z (by simp)),x⟩
end
section
variable {X:Cx}{A:Xb}{pins:WS}{σ:L2.St}{Z H:Hp}{l q I S:Xh}{xs:Xq}{kf:Nat->Int}{R:Result->W_->Prop}
abbrev GM(X:Cx)(A:Xb)(σ:L2.St)(Z H:Hp)(q:Xh)(xs:Xq)(kf:Nat->Int):Prop:=∀(i:Nat)(v:V)(u:W9),xs[i]?=some v->RelV v u->∀(pins:WS)(s:W_)(Z1 H1:Hp),Inv X pins σ H1 s->Ex Z H Z1 H1->
 wpAny (model X.prog X.w) A (call (.ref q) [u]) (Lz X pins σ Z1 H1 (kf i)) (λ_ _=>False) s
theorem MG{H1:Hp}{s:W_}{oS oI:Obj}(J:Inv X pins σ H1 s)(fS:bM X pins H1 S)(fI:bM X pins H1 I)(gS:s.heap.get? S=some oS)(gI:s.heap.get? I=some oI)(dS:∀v,oS.data≠.cell v)(dI:∀v,oI.data≠.cell v):Inv X (pins++[(S,oS),(I,oI)]) σ H1 s:=
 J.pins_of λp hp=>(Sr.mp hp).elim (λz=>J.pin p (J_ _ z)) λz=>by
  rcases t_.mp z with rfl | z
  .exact⟨gS,fS.1,fS.2.1,fS.2.2.1,dS⟩
  .rw[s_.mp z];exact⟨gI,fI.1,fI.2.1,fI.2.2.1,dI⟩
theorem bM.at{H1 H2:Hp}{b:Xh}(f:bM X pins H1 b)(h:H2 b=none):bM X pins H2 b:=⟨h,f.2⟩
theorem Am(hh:A.handled=none)(hS:de X.K H l xs)(RB:l≠I)(RC:l≠S)(N0:S≠I)(turn:GM X A.in1 σ Z H q xs kf)
  (hR:∀i v u s' Z' H',xs[i]?=some v->RelV v u->(∀j,j<xs.length->kf i<=kf j/\(j<i->kf i<kf j))->Inv X pins σ H' s'->Ex Z H Z' H'->R (.ok (.ret u)) s') :
  ∀(r j i:Nat)(s:W_)(Z1 H1:Hp)(v:V)(vb:W9)(tb:Tok)(c:Nat),xs.length-(j+1)=r->j+1<=xs.length->Inv X pins σ H1 s->Ex Z H Z1 H1->bM X pins H1 S->bM X pins H1 I->
   s.heap.get? S=some (seqObj "list" #[vb,.int (kf i) tb] c)->s.heap.IsListIter I l (j+1)->xs[i]?=some v->RelV v vb->i<=j->(∀j',j'<=j->kf i<=kf j'/\(j'<i->kf i<kf j'))->
   codeAny (model X.prog X.w) A (.builtin "min.loop" ⟨[.ref I,.ref q,.ref S],[]⟩) R s:=by
 have uj:(toString "min"++toString ".loop":String)="min.loop":=by decide
 intro r
 induction r with
 | zero=>
  intro j i s Z1 H1 v vb tb c hr hj J x fS fI gS hit hv rv xV hbest;obtain⟨aQ,ri,p,_⟩:=J.list (x.h.seq hS);have hin:aQ.length=j+1:=by have:=ri.length;lia
  refine Vj VB ?_;rw[VZ Tc _];show wpAny _ A.in1 (seqItems? (.ref S) >>= _) _ _ _;refine a_ (TC gS rfl ?_);show wpAny _ A.in1 (tryCatch (pyNext (.ref I)) _ >>= _) _ _ _;refine a_ (U5 (VF hh hit p.isList (by simp[hin]) λh' eb=>?_));have gS':=eb S _ N0 gS;have J1:Inv X pins σ H1 {s with heap:=h'}:=J.turned (t':=s.toks) (λb o hb e=>eb b o hb e) fI.1 fI.2.1 fI.2.2.2.1 fI.2.2.2.2.1 fI.2.2.2.2.2;have s1:=SJ h' S (Obj.mapSeq λ_=>(#[]:Array W9));show wpAny _ A.in1 (updateSeq S (λ_=>#[]) >>= _) _ _ _;refine a_ ?_;refine wpAny_updateSeq gS' rfl (a_ (VX (d_ ?_)));exact hR i v vb _ _ _ hv rv (λj' hj'=>hbest j' (by lia)) (J1.turned (t':=s.toks) (λb o hb e=>(s1.2 b hb).trans e) fS.1 fS.2.1 fS.2.2.2.1 fS.2.2.2.2.1 fS.2.2.2.2.2) x
 | succ r ih=>
  intro j i s Z1 H1 v vb tb c hr hj J x fS fI gS hit hv rv xV hbest;have hlt:j+1<xs.length:=by lia
  obtain⟨aQ,ri,p,_⟩:=J.list (x.h.seq hS);have hx:xs[j+1]?=some xs[j+1]:=f_ hlt;obtain⟨u,hu,ru⟩:=ri.get hx;refine Vj VB ?_;rw[VZ Tc _];show wpAny _ A.in1 (seqItems? (.ref S) >>= _) _ _ _;refine a_ (TC gS rfl ?_);show wpAny _ A.in1 (tryCatch (pyNext (.ref I)) _ >>= _) _ _ _;refine a_ (U5 (UK hit p.isList (x:=u) (by simpa using hu) λh' lS sb=>?_));have J1:Inv X pins σ H1 {s with heap:=h'}:=J.turned (t':=s.toks) (λb o hb e=>(sb.2 b hb).trans e) fI.1 fI.2.1 fI.2.2.2.1 fI.2.2.2.2.1 fI.2.2.2.2.2;obtain⟨OE,KD,Gm,zI⟩:=id lS;have gS1:=(sb.2 S N0).trans gS;have J2:=MG J1 fS fI gS1 KD (λv z=>by cases z) (λv z=>by rw[zI]at z;cases z);show wpAny _ A.in1 (tryCatch (holding [u] (call (.ref q) [u])) _ >>= _) _ _ _;refine a_ (U5 (Q_ (SG (turn (j+1) _ u hx ru _ _ Z1 H1 J2 x) (λy s2 he=>?_) λ_ _ hF=>hF.elim)));obtain⟨t2,H2,Z2,rfl,J3,x2⟩:=he;have nS:=J3.pin (S,_) (J_ _ (J_ _ (.head _)));have nI:=J3.pin (I,_) (J_ _ (J_ _ (.tail _ (.head _))));have J4:=J3.unpinned;have Kt:s2.heap.IsListIter I l (j+1+1):=⟨OE,nI.1,Gm,zI⟩;show wpAny _ A.in1 (tryCatch (holding [u,.int (kf (j+1)) t2] (richCompare .Lt (.int (kf (j+1)) t2) (.int (kf i) tb) >>= _)) _ >>= _) _ _ _;refine a_ (U5 (Q_ (a_ (CmpOf.ints_lt (prog:=X.prog) (w:=X.w) (A:=A.in1) (P:=λi v=>∃t,v=.int (kf i) t) kf (λi v h=>h) (j+1) i _ _ _ _ _ ⟨t2,rfl⟩ ⟨tb,rfl⟩ ?_))));refine a_ (Q_ (Tv ?_));refine a_ (VX (d_ ?_));have xX:bM X pins H2 S:=bM.at fS nS.2.1;have OF:bM X pins H2 I:=bM.at fI nI.2.1
  by_cases zE:kf (j+1)<kf i
  .have s1:=SJ s2.heap S (Obj.mapSeq λ_=>#[u,.int (kf (j+1)) t2]);obtain⟨c2,rK⟩:∃c2,(s2.heap.update S (Obj.mapSeq λ_=>#[u,.int (kf (j+1)) t2])).get? S=some (seqObj "list" #[u,.int (kf (j+1)) t2] c2):=⟨_,V3 nS.1 λ_=>#[u,.int (kf (j+1)) t2]⟩;simp only[zE,decide_true,Um];refine a_ ?_;refine wpAny_updateSeq nS.1 rfl (a_ (VX ?_));rw[uj];refine d_ ⟨WB Tc _,ih (j+1) (j+1) _ Z2 H2 _ u t2 c2 (by lia) hlt (J4.turned (t':=s2.toks) (λb o hb e=>(s1.2 b hb).trans e) xX.1 xX.2.1 xX.2.2.2.1 xX.2.2.2.2.1 xX.2.2.2.2.2) (x.trans x2) xX OF rK
    ⟨OE,(s1.2 I N0.symm).trans nI.1,Gm,zI⟩ hx ru (h_ _) λj' hj'=>?_⟩
   by_cases e:j'=j+1
   .subst e;exact⟨by lia,λ_=>by lia⟩
   .have hb1:=hbest j' (by lia);have hb2:=hb1.1;exact⟨by lia,λ_=>by lia⟩
  .simp only[zE,decide_false,x_,SS];refine a_ (VX ?_);rw[uj];refine d_ ⟨WB Tc _,ih (j+1) i s2 Z2 H2 v vb tb c (by lia) hlt J4 (x.trans x2) xX OF nS.1 Kt hv rv (by lia) λj' hj'=>?_⟩
   by_cases e:j'=j+1
   .subst e;exact⟨by lia,λ_=>by lia⟩
   .exact hbest j' (by lia)
theorem EK{s:W_}{Q:WR}{E:WR}(hh:A.handled=none)(hS:de X.K H l xs)(J:Inv X pins σ H s)(zh:aH Z H)(hne:0<xs.length)(turn:GM X A.in1 σ Z H q xs kf)
  (hQ:∀i v u s' Z' H',xs[i]?=some v->RelV v u->(∀j,j<xs.length->kf i<=kf j/\(j<i->kf i<kf j))->Inv X pins σ H' s'->Ex Z H Z' H'->Q u s') :
  wpAny (model X.prog X.w) A (call (.builtin "min") [.ref l] [("key",.ref q)]) Q E s:=by
 have uj:(toString "min"++toString ".loop":String)="min.loop":=by decide
 obtain⟨aQ,ri,p,_⟩:=J.list hS;have hll:=p.lt;refine kmk_tree PySem.F.kind_min PySem.F.plain_min PySem.F.entry_min (kmk_min_key _ _) ?_;show wpAny _ A.in1 (Builtin.Builtins.bindParams "min" ["key","default"] 0 ⟨[],[("key",.ref q)]⟩ >>= _) _ _ s;refine a_ (VV (show Builtin.Builtins.bindParams "min" ["key","default"] 0 ⟨[],[("key",.ref q)]⟩=pure [some (.ref q),none]from rfl) ?_);refine a_ (d_ ?_);refine a_ (Vu p.isList ?_);refine a_ (UW ?_ (T_ _));rw[uj];have sI:(s.heap.push {cls:=.type "list_iterator",data:=.fields #[.ref l,.int 0 0]}).objs.size=s.heap.objs.size+1:=Wk ..;rw[sI];have gI:((s.heap.push {cls:=.type "list_iterator",data:=.fields #[.ref l,.int 0 0]}).push (seqObj "list" #[] 0)).get? s.heap.objs.size=some {cls:=.type "list_iterator",data:=.fields #[.ref l,.int 0 0]}:=
  e_ _ (n_ _ rfl)
 have gS:((s.heap.push {cls:=.type "list_iterator",data:=.fields #[.ref l,.int 0 0]}).push (seqObj "list" #[] 0)).get? (s.heap.objs.size+1)=some (seqObj "list" #[] 0):=by rw[<- sI];exact n_ _ rfl
 have kk:∀b o,s.heap.get? b=some o->((s.heap.push {cls:=.type "list_iterator",data:=.fields #[.ref l,.int 0 0]}).push (seqObj "list" #[] 0)).get? b=some o:=λb o e=>e_ _ (e_ _ e);have fI:bM X pins H s.heap.objs.size:=J.fpOk (h_ _) (J.hok.fresh (h_ _));have fS:bM X pins H (s.heap.objs.size+1):=J.fpOk (UJ _) (J.hok.fresh (UJ _));have N0:s.heap.objs.size+1≠s.heap.objs.size:=WC _;have RB:l≠s.heap.objs.size:=z_ hll;have RC:l≠s.heap.objs.size+1:=z_ (T3 hll);have J0:Inv X pins σ H {s with heap:=(s.heap.push {cls:=.type "list_iterator",data:=.fields #[.ref l,.int 0 0]}).push (seqObj "list" #[] 0)}:=J.kept (t':=s.toks) kk;generalize hh2:(s.heap.push {cls:=.type "list_iterator",data:=.fields #[.ref l,.int 0 0]}).push (seqObj "list" #[] 0)=h2 at gI gS J0 kk;refine d_ ⟨WB Tc _,?_⟩;have hx:xs[0]?=some xs[0]:=f_ hne;obtain⟨vT,ri2,p2,_⟩:=J0.list hS;obtain⟨u,hu,ru⟩:=ri2.get hx;refine Vj VB ?_;rw[VZ Tc _];show wpAny _ A.in1 (seqItems? (.ref _) >>= _) _ _ _;refine a_ (TC gS rfl ?_);show wpAny _ A.in1 (tryCatch (pyNext (.ref s.heap.objs.size)) _ >>= _) _ _ _;refine a_ (U5 (UK ⟨_,gI,rfl,rfl⟩ p2.isList (x:=u) (by simpa using hu) λh' lS sb=>?_));have J1:Inv X pins σ H {s with heap:=h'}:=J0.turned (t':=s.toks) (λb o hb e=>(sb.2 b hb).trans e) fI.1 fI.2.1 fI.2.2.2.1 fI.2.2.2.2.1 fI.2.2.2.2.2;obtain⟨OE,KD,Gm,zI⟩:=id lS;have gS1:=(sb.2 _ N0).trans gS;have J2:=MG J1 fS fI gS1 KD (λv z=>by cases z) (λv z=>by rw[zI]at z;cases z);show wpAny _ A.in1 (tryCatch (holding [u] (call (.ref q) [u])) _ >>= _) _ _ _;refine a_ (U5 (Q_ (SG (turn 0 _ u hx ru _ _ Z H J2 (Ex.refl zh)) (λy s2 he=>?_) λ_ _ hF=>hF.elim)));obtain⟨t2,H2,Z2,rfl,J3,x2⟩:=he;have nS:=J3.pin (_,_) (J_ _ (J_ _ (.head _)));have nI:=J3.pin (_,_) (J_ _ (J_ _ (.tail _ (.head _))));have J4:=J3.unpinned;have xX:bM X pins H2 (s.heap.objs.size+1):=bM.at fS nS.2.1;have OF:bM X pins H2 s.heap.objs.size:=bM.at fI nI.2.1;have s1:=SJ s2.heap (s.heap.objs.size+1) (Obj.mapSeq λ_=>#[u,.int (kf 0) t2]);obtain⟨c2,rK⟩:∃c2,(s2.heap.update (s.heap.objs.size+1) (Obj.mapSeq λ_=>#[u,.int (kf 0) t2])).get? (s.heap.objs.size+1)=some (seqObj "list" #[u,.int (kf 0) t2] c2):=⟨_,V3 nS.1 λ_=>#[u,.int (kf 0) t2]⟩;show wpAny _ A.in1 (updateSeq (s.heap.objs.size+1) (λ_=>#[u,.int (kf 0) t2]) >>= _) _ _ _;refine a_ ?_;refine wpAny_updateSeq nS.1 rfl ?_;rw[uj];refine d_ ⟨WB Tc _,Am hh hS RB RC N0 turn (λi v u s' Z' H' h1 h2 h3 h4 h5=>hQ i v u s' Z' H' h1 h2 h3 h4 h5) _ 0 0 _ Z2 H2 _ u t2 c2 rfl hne
  (J4.turned (t':=s2.toks) (λb o hb e=>(s1.2 b hb).trans e) xX.1 xX.2.1 xX.2.2.2.1 xX.2.2.2.2.1 xX.2.2.2.2.2) x2 xX OF rK ⟨OE,(s1.2 _ N0.symm).trans nI.1,Gm,zI⟩ hx ru (h_ _) λj' hj'=>?_⟩
 have e:j'=0:=by lia
 subst e;exact⟨by lia,λh=>absurd h (Ua _)⟩
end
end Lm
namespace Mi
open PySem PySem.Spec PyProof.Rows L2
section
variable {X:Cx}{a:Xh}{elt:Xi}{fe:Fe}
end
def IV:D->D->Xp
 | .lst xs,.int k=>if 0<=k/\xs.length*k.toNat<=16000000/\k<1000000000 then some (.lst (List.replicate k.toNat xs).flatten)else none
 | _,_=>none
theorem ak.rep{K:Fg}{Z:Hp}{ds:Xo}{vs:Xq}(h:ak K Z ds vs):∀(k:Nat),ak K Z (List.replicate k ds).flatten (List.replicate k vs).flatten
 | 0=>rfl
 | k+1=>by rw[S3,S3,Tz,Tz];exact h.app (ak.rep h k)
theorem JP(ha:PD X .nw l fa)(hb:PD X gb r fb):PD X .nw (.BinOp l .Mult r pos) (ao IV fa fb):=PE.imp (wO JY ha hb) λσ H Q aC=>by
 obtain⟨env,B,Z,d,R,e,k⟩:=aC;obtain⟨x,y,e1,e2,e3⟩:=uc e;cases x<;>try cases e3
 cases y<;>try cases e3
 rename_i ds n;obtain⟨hc,rfl⟩:=kX e3;refine⟨env,B,Z,_,R,e1,λv Z1 H1 x1 g1=>⟨env,B,Z1,_,R.ext x1,e2,λu Z2 H2 x2 g2=>?_⟩⟩;obtain⟨b,us,NI,rfl,e4,hb0,hb1,hb2,rr⟩:=g1;cases e4;cases g2.int;have hl:=rr.len;refine⟨b,n,us,rfl,rfl,x2.h _ _ hb1,by lia,by lia,by rw[<- hl,Sz];lia,λp hp=>?_⟩;have x12:=x1.trans x2;exact k _ Z2 _ (x12.trans (Ex.newL x12.zh hp)) ⟨p,_,_,rfl,rfl,x12.h.free hp,ai,x12.zh.free hp,(ak.mono x2.z ds rr).rep _⟩
def PM:Xo->Option W6
 | []=>some []
 | .int n::r=>(PM r).bind λns=>some (n::ns)
 | _=>none
def noO(env:En):Bool:=env.all λs=>match s with | .O _=>false | _=>true
structure GrAt(a:Addr)(bs:List Addr)(g:List (List Int))(B Z H:Hp):Prop where
 ha:H a=some (.lst (bs.map V.ref))
 ba:B a=none
 za:Z a=none
 nd:bs.Nodup
 len:bs.length=g.length
 el:∀(i:Nat)(b:Addr),bs[i]?=some b->b≠a/\B b=none/\Z b=none/\∃ns:List Int,g[i]?=some ns/\H b=some (.lst (ns.map V.int))
section
variable {X:Cx}{comp iter1 iter2:Xi}{fc:Fe}{fi1 fi2:Fi}{q:D->Xn}{tb sh mn rw cn:Str}{k1 k2:Nat}{pt p1 p2 p3 p4 p5 p6 p7 p8 p9 pa pb pc pd pe pf pg ph spos:Pos}
end
end Mi
namespace Mi
open PySem
end Mi
namespace Mi
open PySem PySem.Spec PyProof.Rows L2
section
variable {X:Cx}{l r:Xi}{fa fb:Fe}{ga gb:Gr}{pos p:Pos}
end
section
variable {prog:Xa}{w:Xe}{A:Xb}{E:WR}{s:W_}{it d:Xh}{i ep:Nat}{es:Array DictEntry}{od:Obj}
theorem l'(hit:s.heap.IsKeyIter it d i es.size ep)(zI:s.heap.get? d=some od)(N1:od.data=.dict es ep)(hlt':i<es.size)
  (hQ:∀h',h'.IsKeyIter it d (i+1) es.size ep->Heap.SameBut it s.heap h'->Q (some es[i].key) {s with heap:=h'}):wpAny (model prog w) A (pyNext (.ref it)) Q E s:=by
 obtain⟨o,ho,hc,hd⟩:=id hit;unfold pyNext;refine a_ (UX (S1 (name:="__next__") hit.typeIs Tp
  (SA Tp hit.typeIs F.entry_dict_keyiterator_next ?_ (F.args_dict_keyiterator_next_1 _))))
 refine a_ (d_ (a_ (a_ ?_)))
 first | refine a_ (TY hit.typeIs (d_ ?_)) | refine a_ (UD hit.typeIs (d_ ?_))
 refine a_ (Wm ho hd ?_);have KF:Builtin.Dict_items.ownsTuple "dict_keyiterator"=false:=by decide
 simp only[KF,x_,SS];show wpAny _ _ (if(Value.ref d==Value.none)=true then _ else _) _ _ s;rw[k_ (show ¬((Value.ref d==Value.none)=true)from P_)];refine a_ (d_ (a_ (VC zI N1 ?_)));rw[k_ (by simp)];refine a_ (d_ (a_ (wpAny_dictEpoch zI N1 ?_)));rw[k_ (by simp)];refine d_ ?_;simp only[show ¬((i:Int)<0)from by lia,SS,SO,SH hlt'];refine a_ ?_
 first | refine a_ (TY hit.typeIs (d_ ?_)) | refine a_ (UD hit.typeIs (d_ ?_))
 refine a_ (wpAny_isOneOf_keyiter hit.typeIs ?_);show wpAny _ _ (setField (.ref it) 1 (rawInt ((i:Int)+1)) >>= _) _ _ s;refine a_ (TU ho hd (by simp) ?_);have Dd:(s.heap.update it (Obj.mapFields (·.setIfInBounds 1 (rawInt ((i:Int)+1))))).IsKeyIter it d (i+1) es.size ep:=
  ⟨_,SQ _ ho (Ti (SW hd _)),(Wx ..).trans hc,by rw[SW hd];simp[rawInt]⟩
 refine a_ (Q_ ?_);refine a_ (wpAny_isOneOf_keyiter (s:={s with heap:=s.heap.update it (Obj.mapFields (·.setIfInBounds 1 (rawInt ((i:Int)+1))))}) Dd.typeIs ?_);show wpAny _ _ (pure es[i].key) _ _ _;exact d_ (d_ ⟨_,rfl,d_ (hQ _ Dd (SJ ..))⟩)
theorem qV(hh:A.handled=none)(hit:s.heap.IsKeyIter it d i es.size ep)(zI:s.heap.get? d=some od)(N1:od.data=.dict es ep)(Hq:es.size<=i)
  (hQ:∀h',Heap.ExtBut it s.heap h'->Q none {s with heap:=h'}):wpAny (model prog w) A (pyNext (.ref it)) Q E s:=by
 obtain⟨o,ho,hc,hd⟩:=id hit;unfold pyNext;refine a_ (UX (S1 (name:="__next__") hit.typeIs Tp
  (SA Tp hit.typeIs F.entry_dict_keyiterator_next ?_ (F.args_dict_keyiterator_next_1 _))))
 refine a_ (d_ (a_ (a_ ?_)))
 first | refine a_ (TY hit.typeIs (d_ ?_)) | refine a_ (UD hit.typeIs (d_ ?_))
 refine a_ (Wm ho hd ?_);have KF:Builtin.Dict_items.ownsTuple "dict_keyiterator"=false:=by decide
 simp only[KF,x_,SS];show wpAny _ _ (if(Value.ref d==Value.none)=true then _ else _) _ _ s;rw[k_ (show ¬((Value.ref d==Value.none)=true)from P_)];refine a_ (d_ (a_ (VC zI N1 ?_)));rw[k_ (by simp)];refine a_ (d_ (a_ (wpAny_dictEpoch zI N1 ?_)));rw[k_ (by simp)];refine d_ ?_;simp only[show ¬((i:Int)<0)from by lia,SS,SO,Td Hq];refine a_ ?_
 first | refine a_ (TY hit.typeIs (d_ ?_)) | refine a_ (UD hit.typeIs (d_ ?_))
 show wpAny _ _ (setField (.ref it) 0 .none >>= _) _ _ s;refine a_ (TU ho hd (by simp) ?_);show wpAny _ _ (newExc (.type "StopIteration") [] >>= _) _ _ _;refine a_ ?_;simp only[newExc,newTuple];refine a_ (S5 ?_ (by size_fits));refine a_ (m:=firstArgMember _ _) (VV (a:=Value.none) (by first | rfl | (simp only[firstArgMember];rfl)) ?_);refine S5 ?_ (by size_fits);simp only[raiseNew];refine a_ (wpAny_handled ?_);rw[show A.in1.handled=none from hh];refine a_ (d_ (wpAny_throw ?_));refine a_ (Uc (T:="StopIteration") (b:=true) ⟨_,n_ _ rfl,rfl⟩ isSubtype_stop ?_);exact d_ (hQ _ (((SJ ..).extBut.push _).push _))
theorem ng(hs:(d==sysModules)=false)(ho:s.heap.get? d=some od)(hc:od.ExactDict)(N3:od.data=.dict es ep)
  (hQ:Q (.ref s.heap.objs.size) {s with heap:=s.heap.push {cls:=.type "dict_keyiterator",data:=.fields #[.ref d,.int 0 0,.int es.size 0,.int ep 0]}}):wpAny (model prog w) A (pyIter (.ref d)) Q E s:=by
 have hT:s.TypeIs (.ref d) "dict":=⟨od,ho,hc.1⟩;refine WA hT F.slot_dict_iter (SA F.slot_dict_iter hT F.entry_dict_iter ?_ (F.args_dict_iter_1 _));unfold Builtin.«dict.__iter__»;refine a_ ?_;unfold Builtin.Dict.dictSlotNone;refine a_ (wpAny_notOrdered_dict hT ?_);show wpAny _ _ (pure (Value.ref d)) _ _ s;refine d_ ?_;show wpAny _ _ (Builtin.Dict.showsAll d >>= _) _ _ s;unfold Builtin.Dict.showsAll;rw[k_ (by rw[hs];exact P_)];refine a_ (d_ (a_ (VC ho N3 (a_ (wpAny_dictEpoch ho N3 ?_)))));exact a_ (S5 (d_ ⟨_,rfl,"dict_keyiterator",_,⟨_,n_ _ rfl,rfl⟩,Tp.lookup,hQ⟩))
end
def Pg(d:Xh)(es:Array DictEntry)(ep:Nat)(h:Xd):Prop:=∃o,h.get? d=some o/\o.ExactDict/\o.data=.dict es ep
theorem ES{prog:Xa}{w:Xe}{d:Xh}{es:Array DictEntry}{ep:Nat}(lo:(d==sysModules)=false):PySem.W.KdlSrc prog w "dict" d d es.size (λi v=>∃e,es[i]?=some e/\v=e.key) (Pg d es ep) where
 type:=λ_ ⟨o,h1,h2,_⟩=>⟨o,h1,h2.1⟩
 there:=λ_ ⟨o,h1,_⟩=>⟨q_ h1,q_ h1⟩
 keep:=λ_ _ ⟨o,h1,h2⟩ hk=>⟨o,hk d (.inl rfl) o h1,h2⟩
 notList:=by decide
 notTuple:=by decide
 hint:=λ_ _ _ _ ⟨o,h1,h2,_⟩ hq=>PySem.W.kdl_hint_dict ⟨o,h1,h2.1⟩ hq
 iter:=λA s hh ⟨o,h1,h2,h3⟩=>by
  have hne:d≠s.heap.objs.size:=z_ (q_ h1);refine⟨_,λi h=>h.IsKeyIter s.heap.objs.size d i es.size ep/\Pg d es ep h,λ_ _ hq=>ng lo h1 h2 h3 hq,⟨λb hb=>by simp at hb;simp[hb],λ_ _ _ st hk=>⟨st.1.at λo e=>hk _ (by simp) o e,let ⟨o,e,r⟩:=st.2;⟨o,hk d (by simp) o e,r⟩⟩,λi s' Q E hi st hQ=>?_,λs' Q E st hQ=>?_,λ_ _ _ _ st hQ=>V0 st.1 hQ⟩,⟨⟨_,n_ _ rfl,rfl,rfl⟩,o,e_ _ h1,h2,h3⟩⟩
  .obtain⟨hit,o,e1,e2,e3⟩:=st;exact l' hit e1 e3 hi λh' Dd hs'=>hQ _ h' s'.toks ⟨_,SH hi,rfl⟩ ⟨Dd,o,hs'.extBut _ _ hne e1,e2,e3⟩ λb o hb e=>hs'.extBut b o (λh=>hb (by simp[h])) e
  .obtain⟨hit,o,e1,e2,e3⟩:=st;exact qV hh hit e1 e3 (h_ _) λh' ud=>hQ h' s'.toks λb o hb e=>ud b o (λh=>hb (by simp[h])) e
section
variable {X:Cx}{l r e:Xi}{fa fb:Fe}{ga gb:Gr}{pos p:Pos}{k:Nat}{th:Str->Int}
theorem jW:∀bs:W2,av (bs.map V.ref) (bs.map Value.ref)
 | []=>.nil
 | _::bs=>.cons rfl (jW bs)
theorem g9{K:Fg}{Z:Hp}:∀{ks:Xk}{bs:W2},bs.length=ks.length->iM K Z ks bs->ks.all BJ=true->ak K Z (ks.map λk=>.tup (k.map kD)) (bs.map V.ref)
 | [],[],_,_,_=>rfl
 | [],_::_,h,_,_=>by simp at h
 | _::_,[],h,_,_=>by simp at h
 | k::ks,b::bs,hl,h,ho=>by
  rw[VR,F_]at ho;exact⟨_,_,rfl,⟨b,_,rfl,h 0 k b rfl rfl,rA ho.1⟩,g9 (by simpa using hl) (λi k b h1 h2=>h (i+1) k b h1 h2) ho.2⟩
noncomputable def Hf(th:Str->Int)(x:D):Xp:=(K4 th x).bind λm=>if m.1.all BJ=true then some (.lst (m.1.map λk=>.tup (k.map kD)))else none
end
theorem KU{α:Type}{p:List α->Prop}(h:∀a,p [a]):∀us:List α,us.length=1->p us
 | [a],_=>h a
theorem ML{α:Type}{p:List α->Prop}(h:∀a b,p [a,b]):∀us:List α,us.length=2->p us
 | [a,b],_=>h a b
theorem MU{α:Type}{p:List α->Prop}(h:∀a b c,p [a,b,c]):∀us:List α,us.length=3->p us
 | [a,b,c],_=>h a b c
abbrev hJ(K:Fg)(x:Str)(st:Xj)(f:Xh):Prop:=∃(oc kV dc pm cd ct:W9)(od an:W0)(sl:WT),PySem.W.nsIn K mainGlobals x=some (some (.ref f))/\K.lookup f=some ⟨oc,od,.func (PySem.W.fnOf x x (bS st) (aT st) (ax st) .none kV dc pm an cd ct),sl⟩/\PySem.W.codeIn K cd x=true/\PySem.W.keepIn K (.ref f)=true
section
variable {K:Fg}{h:Xd}{mg:WU}{x:Str}{st:Xj}{f:Xh}
theorem hJ.fn(A:hJ K x st f)(X:K.In h)(G:h.Ns mainGlobals mg):∃fd,xU K x x st f fd/\PySem.W.keepIn K (.ref f)=true/\mg x=some (.ref f):=by
 obtain⟨_,_,_,_,_,_,_,_,_,a,l,c,k⟩:=A;exact⟨_,Cy l c k,k,PySem.W.mg_of X G a⟩
theorem Mq{oc kV dc pm cd ct:W9}{od an:W0}{sl:WT}(a:PySem.W.nsIn K mainGlobals x=some (some (.ref f)))(l:K.lookup f=some ⟨oc,od,.func (PySem.W.fnOf x x (bS st) (aT st) (ax st) .none kV dc pm an cd ct),sl⟩)(c:PySem.W.codeIn K cd x=true)(k:PySem.W.keepIn K (.ref f)=true):hJ K x st f:=⟨_,_,_,_,_,_,_,_,_,a,l,c,k⟩
variable {P:Xa}{w:Xe}{base:Xd}{d n:Nat}{g:Gr}{m:Xo->Xp}{fd:Xf}{ps:W1}
theorem vN(O:dh P w K mg base ko d f fd ps (CD K n g m))(hk:PySem.W.keepIn K (.ref f)=true)(hm:mg x=some (.ref f))(hb:Binds K fd ps [])(hn:ps.length=n:=by rfl):∀j,d<=j->NJ P w K mg base j x n g m:=
 λ_ hj=>⟨f,fd,ps,hn,O.mono hj,hm,hk,hb⟩
end
structure Wd where
 P:Program
 w:World
 K:Fg
 mg:Str->Option Value
 base:Heap
abbrev Wd.Q(W:Wd)(d:Nat)(x:Str)(n:Nat)(g:Gr)(m:Xo->Xp):Prop:=∀j,d<=j->NJ W.P W.w W.K W.mg W.base j x n g m
abbrev Wd.At(W:Wd)(x:Str)(st:Xj):Prop:=∃f fd,xU W.K x x st f fd/\PySem.W.keepIn W.K (.ref f)=true/\W.mg x=some (.ref f)
theorem hJ.at{K:Fg}{h:Xd}{mg:WU}{x:Str}{st:Xj}{f:Xh}(X:K.In h)(G:h.Ns mainGlobals mg)(A:hJ K x st f):∃f fd,xU K x x st f fd/\PySem.W.keepIn K (.ref f)=true/\mg x=some (.ref f):=
 let ⟨fd,a⟩:=A.fn X G
 ⟨f,fd,a⟩
abbrev Bi(x:Str)(st:Xj)(ps:W1):Prop:=∀(kV doc pm:W9)(an:W0)(bq ct:W9)(us:WY),us.length=ps.length->bindArgs (PySem.W.fnOf x x (bS st) (aT st) (ax st) .none kV doc pm an bq ct) ⟨us,[]⟩=pure (ps.zip us)
variable {W:Wd}{x:Str}{st:Xj}{k:Nat}{g:Gr}{fb:Fs}
theorem nX(N:W1)(n:Nat)(h:W.At x st)
  (hb:∀(bq:W9)(A:Xb)(outer:List Env)(s:W_)(H:Hp)(E:XK)(f:Xh),a9 k (A.deeper (envOfC x (ax st) s.sz f bq))->N.Nodup->uy (eM ko W.P W.w W.K W.mg W.base N x (ax st) f bq A outer s H E).nox g (aT st) fb)
  (S:bC N (N.take n) (ax st):=by exact⟨rfl,rfl,rfl,by decide +kernel,rfl,by decide +kernel,by decide +kernel⟩)
  (hB:Bi x st (N.take n):=by intro _ _ _ _ _ _;first | exact KU λ_=>rfl | exact ML λ_ _=>rfl | exact MU λ_ _ _=>rfl | exact ar4 λ_ _ _ _=>rfl | exact ar5 λ_ _ _ _ _=>rfl):W.Q (k+1) x (N.take n).length g (cx fb N.length):=by
 obtain⟨f,fd,F,hk,hm⟩:=h;exact vN (QY F S (λbq A outer s H E hr=>hb bq A outer s H E f hr S.nd) (λ_ _ _ e=>e)) hk hm (F.binds hB)
theorem R7(N:W1)(n:Nat)(F:xU W.K x x st f fd)
  (hb:∀(bq:W9)(A:Xb)(outer:List Env)(s:W_)(H:Hp)(E:XK)(f:Xh),a9 k (A.deeper (envOfC x (ax st) s.sz f bq))->N.Nodup->uy (eM ko W.P W.w W.K W.mg W.base N x (ax st) f bq A outer s H E).nox g (aT st) fb)
  (S:bC N (N.take n) (ax st):=by exact⟨rfl,rfl,rfl,by decide +kernel,rfl,by decide +kernel,by decide +kernel⟩):dh W.P W.w W.K W.mg W.base ko (k+1) f fd (N.take n) (CD W.K (N.take n).length g (cx fb N.length)):=
 QY F S (λbq A outer s H E hr=>hb bq A outer s H E f hr S.nd) λ_ _ _ e=>e
theorem RW{m:Nat->Xo->Xp}{fb:Nat->Fs}(N:W1)(n i:Nat)(h:W.At x st)(h0:m 0=λ_=>none)(h1:∀i,m (i+1)=cx (fb i) N.length)
  (hb:∀i,NJ W.P W.w W.K W.mg W.base (k+i) x (N.take n).length g (m i)->∀(bq:W9)(A:Xb)(outer:List Env)(s:W_)(H:Hp)(E:XK)(f:Xh),a9 (k+i) (A.deeper (envOfC x (ax st) s.sz f bq))->N.Nodup->uy (eM ko W.P W.w W.K W.mg W.base N x (ax st) f bq A outer s H E).nox g (aT st) (fb i))
  (S:bC N (N.take n) (ax st):=by exact⟨rfl,rfl,rfl,by decide +kernel,rfl,by decide +kernel,by decide +kernel⟩)
  (hB:Bi x st (N.take n):=by intro _ _ _ _ _ _;first | exact KU λ_=>rfl | exact ML λ_ _=>rfl | exact MU λ_ _ _=>rfl | exact ar4 λ_ _ _ _=>rfl | exact ar5 λ_ _ _ _ _=>rfl):W.Q (k+i) x (N.take n).length g (m i):=by
 induction i with
 | zero=>
  obtain⟨f,fd,F,hk,hm⟩:=h;exact λj _=>⟨f,fd,_,rfl,by rw[h0];exact CI,hm,hk,F.binds hB⟩
 | succ i c=>
  rw[h1];exact nX N n h (hb i (c (k+i) (h_ _))) S hB
section
variable {X:Cx}{k d n:Nat}{l:Xi}{es:W3}{fs:Fes}{m:Xo->Xp}{p pos:Pos}
theorem aY(C:∀j,d<=j->NJ X.prog X.w X.K X.mg X.base j x n g m)(hr:a9 k X.A)(hl:PL X (l::es) fs)(hd:d<=k:=by first | decide | omega)(hn:(l::es).length=n:=by rfl)(hg:Gl X x:=by rfl)(kF:(x==("__debug__":Str))=false:=by decide)
  (he:starEach (l::es) X.env=(false,eval l X.env)::starEach es X.env:=by rfl) (eO:(backTo pos (starEach es X.env)).any (·.1)=false:=by rfl):PD X g (.Call (.Name x p) (l::es) [] pos) (λenv=>(fs env).bind m):=uN (C k hd) hr hl hn hg kF he eO
end
end Mi
namespace Mi
open PySem PySem.Spec PyProof.Rows L2 Lm
def o9(g:D->Xp):Xo->Option W6
 | []=>some []
 | d::ds=>(g d).bind λx=>match x with
  | .int n=>(o9 g ds).bind λns=>some (n::ns)
  | _=>none
theorem mS{g:D->Xp}:∀{ds:Xo}{ns:W6},o9 g ds=some ns->ns.length=ds.length/\∀(i:Nat) d,ds[i]?=some d->g d=some (.int (ns.getD i 0))
 | [],ns,h=>by cases h;exact⟨rfl,λi d e=>by simp at e⟩
 | d::ds,ns,h=>by
  unfold o9 at h;obtain⟨x,h1,h2⟩:=b_.mp h;cases x<;>try cases h2
  obtain⟨r,h3,h4⟩:=b_.mp h2;cases h4;obtain⟨e1,e2⟩:=mS h3;refine⟨by simp[e1],λi d' e=>?_⟩;cases i with
  | zero=>cases e;exact h1
  | succ i=>exact e2 i d' e
def iH(ns:W6):Nat:=ns.findIdx λn=>ns.all λm=>decide (n<=m)
def G8(g:D->Xp):D->Xp
 | .lst ds=>(o9 g ds).bind λns=>ds[iH ns]?
 | _=>none
def M8(f:Fe)(caps:W5)(fl:Fe):Fe:=λenv=>(f env).bind (G8 λx=>fl ((cK 1 caps env).set 0 (.F x)))
theorem Bn{ns:W6}{i:Nat}(hi:i<ns.length)(h:∀j,j<ns.length->ns.getD i 0<=ns.getD j 0/\(j<i->ns.getD i 0<ns.getD j 0)):iH ns=i:=by
 have g:∀(j:Nat)(hj:j<ns.length),ns.getD j 0=ns[j]:=λj hj=>by rw[g_,f_ hj];rfl
 refine(List.findIdx_eq hi).mpr ⟨?_,λj hj=>?_⟩
 .rw[M_];intro m hm;obtain⟨k,hk,rfl⟩:=List.getElem_of_mem hm;have:=(h k hk).1;rw[g i hi,g k hk]at this;exact w_ this
 .have hj':=Vs hj hi;have:=(h j hj').2 hj;rw[g i hi,g j hj']at this;rw[VA];intro z;rw[M_]at z;have:=Sw (z _ (Ts hi))
  lia
theorem H9{X:Cx}{P c0:Xh}{k:Nat}{g:Gr}{e body:Xi}{params:Arguments}{scope:Xg}{x0:Str}{fe fl:Fe}{Nc:W1}{caps:W5}{cl:WV}{p pos lpos Nz:Pos}(hr:a9 (k+2) X.A)(hm:X.mg "min"=none)(bp:X.calm=true)
  (ht:tq X.K P=some (vI X)) (xW:X.env.code=.ref c0) (hC:PySem.W.codeHdIn X.K c0 P=true) (he:PD X g e fe)
  (gU:fM (λx=>X.env.cells.lookup x) scope.names []=some cl) (hN:Nc.map some=some x0::caps.map (λj=>X.N[j]?)) (eQ:ie X scope caps=true)
  (hbody:∀f c s H pn,a9 k (X.A.in1.deeper (rB X scope cl f c s.sz))->PD (tF X X.A.in1 scope cl Nc f c s H pn) .cl body fl)
  (h0:scope.names.lookup x0=some .local:=by rfl) (bo:scope.kind=.function:=by rfl) (hnc:∀y∈scope.names,y.2≠.cell:=by decide +kernel) (hco:scope.isCoroutine=false:=by rfl) (KC:scope.isGenerator=false:=by rfl)
  (hb:∀c ctv u,bindArgs (yw X params body scope cl c ctv) ⟨[u],[]⟩=pure [(x0,u)]:=by intro _ _ _;rfl) (KB:defaultsOf params X.env=([],[]):=by rfl)
  (hg:Gl X "min":=by rfl) (hst:starEach [e] X.env=(false,eval e X.env)::starEach [] X.env:=by rfl)
  (h1:backTo pos (starEach [e] X.env)=(false,eval e X.env)::backTo pos (starEach [] X.env):=by rfl) (h2:(backTo pos (starEach [e] X.env)).any (·.1)=false:=by rfl) :
  PD X .cl (.Call (.Name "min" p) [e] [⟨some "key",.Lambda params body scope lpos,Nz⟩] pos) (M8 fe caps fl):=by
 intro pins s σ H Q I aC;obtain⟨env,B,Z,d,R,e1,kk⟩:=aC;obtain⟨d1,e2,e3⟩:=b_.mp e1;cases d1<;>try cases e3
 rename_i ds;obtain⟨ns,e4,e5⟩:=b_.mp e3;obtain⟨hlen,ei⟩:=mS e4;have hpos:0<ds.length:=by
  obtain⟨z,_⟩:=i_.mp e5
  lia
 refine TM (gM I hg hm PyProof.Rows.boot_min ?_ (by decide) (by decide));refine callWith_kw (aZ (aJ he bN hst pos pins s σ H (λvs H1=>∃l xs Z1,vs=[.ref l]/\Ex Z H Z1 H1/\de X.K H1 l xs/\ak X.K Z1 ds xs) I ⟨env,B,Z,_,R,e2,λv Z1 H1 x1 g1=>?_⟩) λus s1 aC=>?_) h1 h2 rfl rfl
 .obtain⟨l,xs,rfl,hq,rr⟩:=g1.lst x1.zh;exact⟨l,xs,Z1,rfl,x1,hq,rr⟩
 obtain⟨vs,H1,I1,r1,l,xs,Z1,rfl,x1,hS,rr⟩:=aC;obtain⟨u,rfl,rx⟩:=vals1 r1;cases rx;show wpAny _ _ (evalAll [(do let v <- eval (.Lambda params body scope lpos) X.env;standAt pos;pure v)]) _ _ s1;refine wpAny_evalAll_cons (a_ (JO I1 (I1.tb P _ ht) xW (PySem.W.codeHd_of_K I.ok.mod.kin hC) I.ok.mod.bmod (fN gU) KB λf c H2 s2 I2 sm Ot hc hf=>a_ (To (d_ (wpAny_evalAll_nil ?_)))));show wpAny _ _ (call (.builtin "min") [.ref l] [("key",.ref f)]) _ _ s2;have x2:Ex Z1 H1 Z1 H2:=⟨sm,aH.refl _,x1.zh.trans sm,λ_ _ h=>h,λ_ _ _ h=>h⟩;have R2:=(R.ext x1).ext x2;have hxl:=rr.len;refine EK (kf:=λi=>ns.getD i 0) (A:=X.A) (I.ok.hd bp) (sm.seq hS) I2 x2.zh (by lia) (λi v u hv ru ue s' Z' H' I' x'=>?_) λi v u s' Z' H' hv ru zE I' x'=>?_
 .obtain⟨d,hd,rep⟩:=rr.getV hv;exact AS (k:=k+1) I' (R2.ext x') I.ok.frames hr.in1 (x'.h _ _ hf) (x'.h _ _ hc) (hb c) hco KC gU bo hnc hN eQ h0 (λs H pn=>hbody f c s H pn (hr.in1.deeper _)) ru (Rep.mono x'.z d rep) (ei i d hd)
 .obtain⟨d',hd,rep⟩:=rr.getV hv;have hi:i<ns.length:=by rw[hlen];exact(i_.mp hd).1
  rw[Bn hi λj hj=>zE j (by lia),hd]at e5;cases e5;exact⟨v,H',I',ru,kk v Z' H' ((x1.trans x2).trans x') (Rep.mono x'.z _ rep)⟩
abbrev Wd.AtC(W:Wd)(x:Str)(st:Xj)(c:Xh):Prop:=∃f fd,xU W.K x x st f fd/\fd.code=.ref c/\PySem.W.keepIn W.K (.ref f)=true/\W.mg x=some (.ref f)
theorem hJ.atC{K:Fg}{h:Xd}{mg:WU}{x:Str}{st:Xj}{f c P:Xh}(X:K.In h)(G:h.Ns mainGlobals mg)(A:hJ K x st f)(ht:PySem.W.tabIn K x=some (c,P)):∃f fd,xU K x x st f fd/\fd.code=.ref c/\PySem.W.keepIn K (.ref f)=true/\mg x=some (.ref f):=by
 obtain⟨fd,F,h1,h2⟩:=A.fn X G;refine⟨f,fd,F,?_,h1,h2⟩;obtain⟨oc,od,kV,doc,pm,an,bq,ct,pV,rfl,lk,dO⟩:=F.ex;obtain⟨_,_,_,_,_,_,_,_,_,aL,_⟩:=A;unfold PySem.W.tabIn at ht;rw[aL]at ht;dsimp only at ht;rw[lk]at ht;dsimp only[PySem.W.fnOf]at ht ⊢;cases bq<;>try cases ht
 rename_i c';dsimp only at ht
 split at ht
 .split at ht
  .cases ht;rfl
  .cases ht
 .cases ht
structure Lam(W:Wd)(x:Str)(c P:Addr):Prop where
 t:tq W.K P=some (x++".<locals>."++"<lambda>")
 c:PySem.W.codeHdIn W.K c P=true
theorem Se{K:Fg}{c P:Xh}(h0:PySem.W.tabIn K "best_in"=none)(h:PySem.W.tabIn K "best_shown"=some (c,P)):tq K P=some (("best_shown":Str)++".<locals>."++"<lambda>"):=by
 unfold tq Jk;rw[Va,show PySem.W.tabIn K "best_in"=none from h0,Va,show PySem.W.tabIn K "best_shown"=some (c,P)from h];simp only[Option.bind_none,H_,Um]
section
variable {W:Wd}{x:Str}{st:Xj}{k:Nat}{g:Gr}{fb:Fs}{c:Xh}
theorem Pd(N:W1)(n:Nat)(h:W.AtC x st c)
  (hb:∀(A:Xb)(outer:List Env)(s:W_)(H:Hp)(E:XK)(f:Xh),a9 k (A.deeper (envOfC x (ax st) s.sz f (.ref c)))->N.Nodup->uy (eM ko W.P W.w W.K W.mg W.base N x (ax st) f (.ref c) A outer s H E).nox g (aT st) fb)
  (S:bC N (N.take n) (ax st):=by exact⟨rfl,rfl,rfl,by decide +kernel,rfl,by decide +kernel,by decide +kernel⟩)
  (hB:Bi x st (N.take n):=by intro _ _ _ _ _ _;first | exact KU λ_=>rfl | exact ML λ_ _=>rfl | exact MU λ_ _ _=>rfl | exact ar4 λ_ _ _ _=>rfl | exact ar5 λ_ _ _ _ _=>rfl):W.Q (k+1) x (N.take n).length g (cx fb N.length):=by
 obtain⟨f,fd,F,hc,hk,hm⟩:=h;refine vN ?_ hk hm (F.binds hB);obtain⟨oc,od,kV,doc,pm,an,bq,ct,pV,rfl,lk,dO⟩:=F.ex;cases(show bq=.ref c from hc);refine wF lk dO S (λvs H Q E ⟨Z,ds,d,hl,_,r,_⟩=>by rw[<- r.len];exact hl) λA outer s H vs Q E hr aC=>?_;obtain⟨Z,ds,d,hl,s1,r,e,kk⟩:=aC;refine⟨_,PSs.nox (hb A outer s H E f hr S.nd),?_⟩;obtain⟨o,e1,e2⟩:=b_.mp e;refine⟨_,H,Z,o,Rl.start s1 r,e1,?_⟩;cases o with
 | rt d'=>cases e2;exact kk
 | nx _=>cases e2
 | bk _=>cases e2
 | ct _=>cases e2
end
end Mi
namespace L2
open PySem PySem.Spec PyProof.Rows
theorem BC{l:PySem.W.OpenLaw}{n k:Nat}{q:Xa}{loose:W1}{XP:WU->Xd->Prop}{YP:Xe->Xd->Prop}{d:DefRec}{K:Params->W8}{CX:Xe->CXT}{sp:Xe->Sp}{x:Str}
  (hn:l.most=some n) (hn2:n<=sizeLine) (ND:d.params.defaults=[]) (hr:a9 k callerA)
  (hY:∀(w:Xe)(h:Xd),YP w h->(K w.params).In h)
  (hL:∀(w:Xe)(h:Xd),YP w h->∀P qq,tq (K w.params) P=some qq->(∃c,PySem.W.CodeHd h c P)/\h.get? P=some (PySem.W.tabObj #[])/\(K w.params).lookup P=none)
  (F:∀(w:Xe)(mg:WU)(fa:Xh)(h:Xd),(K w.params).In h->h.Ns mainGlobals mg->mg d.name=some (.ref fa)->
   ∃fd:Xf,(∀(s:W_)(u:W9),BindsTo s fd ⟨[u],[]⟩ [(x,u)])/\
    ∀base:Xd,(K w.params).In base->base.Ns mainGlobals mg->dh l.prog w (K w.params) mg base (CX w) k fa fd [x] (sp w))
  (lT:∀(w:Xe)(H:Hp)(a:Xh)(ns:W6),ns.length<=n->JD H->de (K w.params) H a (ns.map V.int)->sp w [.ref a] H (λv _=>v=.bl true) λ_ _ _=>False)
  (hCX:∀(w:Xe)(H:Hp)(s:W_)(e:W9)(s':W_),CX w [] H s (λ_ _ _=>False) e s'->False) :
  PySem.W.WalkO q loose XP YP l.row.toRowW d [] (λf vs=>PySem.call f vs):=by
 refine Att.sr hn ND λw s₀ s₁ mg mb fa o pm cd doc a vs ns G Y ho hd dO hmg Km hints hlen hg=>?_;have KX:=hY w _ Y;obtain⟨fd,hb,hF⟩:=F w mg fa _ KX G.T.g hmg;have hbm:=G.T.bmain;refine B6 KX G.T.g G.T.b G.T.builtins G.T.nolimit hg (by obtain⟨bm,ob,b1,b2,b3,b4,b5,b6⟩:=hbm;exact⟨bm,ob,b1,b2,b3,b4,b5,b6⟩) (λP qq e=>?_) Km hints (B_ hlen hn2) hr hF hb (λH hO hS=>lT w H a ns hlen hO hS) λH e s'=>hCX w H s₁ e s';exact hL w _ Y P qq e
theorem J9{K:W8}{h:Xd}{c P:Xh}(X:K.In h)(hc:PySem.W.codeHdIn K c P=true)(hn:PySem.W.noTabs K=true)(ho:h.get? P=some (PySem.W.tabObj #[])):(∃c,PySem.W.CodeHd h c P)/\h.get? P=some (PySem.W.tabObj #[])/\K.lookup P=none:=by
 refine⟨⟨c,PySem.W.codeHd_of_K X hc⟩,ho,?_⟩;cases hk:K.lookup P with
 | none=>rfl
 | some o=>
  have e5:=X _ _ hk;rw[ho]at e5;cases e5;have h3:=M_.mp hn _ (PySem.W.mem_of_lookupK hk);exact absurd (show false=true from h3) P_
theorem M4{K:W8}{h:Xd}{c P0:Xh}(X:K.In h)(h1:PySem.W.tabIn K "best_in"=none)(h2:PySem.W.tabIn K "best_shown"=some (c,P0))(hc:PySem.W.codeHdIn K c P0=true)(hn:PySem.W.noTabs K=true)(ho:h.get? P0=some (PySem.W.tabObj #[])) :
  ∀P qq,tq K P=some qq->(∃c,PySem.W.CodeHd h c P)/\h.get? P=some (PySem.W.tabObj #[])/\K.lookup P=none:=λP qq e=>by
 have hP:P0=P:=by
  unfold tq Jk at e;rw[Va,show PySem.W.tabIn K "best_in"=none from h1,Va,show PySem.W.tabIn K "best_shown"=some (c,P0)from h2]at e
  by_cases hP:P0=P
  .exact hP
  .simp[hP]at e
 subst hP;exact J9 X hc hn ho
end L2
namespace Mi
open PySem
theorem Ik{K:Fg}{x:Str}{f c P:Xh}{oc occ:W9}{od odc:W0}{fd:Xf}{vs:Array W9}{sl slc:WT}(a:PySem.W.nsIn K mainGlobals x=some (some (.ref f)))(l:K.lookup f=some ⟨oc,od,.func fd,sl⟩)(e:fd.code=.ref c)(k:K.lookup c=some ⟨occ,odc,.fields vs,slc⟩)(p:vs[11]?=some (.ref P)):PySem.W.tabIn K x=some (c,P):=by
 unfold PySem.W.tabIn;rw[a];dsimp only;rw[l];dsimp only;rw[e];dsimp only;rw[k];dsimp only;rw[p]
theorem AZ{K:Fg}{x:Str}(a:PySem.W.nsIn K mainGlobals x=some none):PySem.W.tabIn K x=none:=by
 unfold PySem.W.tabIn;rw[a]
end Mi
namespace Mi
open PySem PySem.Spec PyProof.Rows L2
section
variable {prog:Xa}{w:Xe}{K:Type}[DecidableEq K]{knd:HeapKind prog w K}{A:Xb}{E:WR}{s:W_}{a b:Xh}{xa xb:List (K×Xh×W9)}
end
section
variable {X:Cx}{l r:Xi}{fa fb:Fe}{ga gb:Gr}{pos p:Pos}{k:Nat}{th:Str->Int}
end
end Mi
namespace Mi
open PySem PySem.Spec PyProof.Rows L2
open PySem.W (KasT kas_rev kas_asc kas_desc kas_tail3 kas_descPart kas_count kas_place kas_bin kas_sort)
def eY{α:Type}(lt:Nat->Nat->Bool):KasT α->α
 | .ret a=>a
 | .ask i j k=>eY lt (k (lt i j))
theorem eX{α β:Type}(lt:Nat->Nat->Bool)(f:α->KasT β):∀t:KasT α,eY lt (t.bind f)=eY lt (f (eY lt t))
 | .ret _=>rfl
 | .ask i j k=>eX lt f (k (lt i j))
section
variable {key:Nat->Int}{n:Nat}
def kl(key:Nat->Int):Nat->Nat->Bool:=λi j=>decide (key i<key j)
def ka(key:Nat->Int)(p:Array Nat)(i:Nat):Int:=key (p.getD i 0)
def B4(key:Nat->Int)(p:Array Nat)(b:Nat):Prop:=∀i j,i<=j->j<b->ka key p i<=ka key p j
def Pv(key:Nat->Int)(p:Array Nat)(b:Nat):Prop:=∀i j,i<=j->j<b->ka key p j<=ka key p i
def kIn(key:Nat->Int)(p:Array Nat):Prop:=∀i j,i<j->j<p.size->ka key p i≠ka key p j
theorem pB{p:Array Nat}{j:Nat}(hj:j<=p.size)(k:Nat):ka key (kas_rev p 0 j) k=if k<j then ka key p (j-1-k)else ka key p k:=by
 have e:=getElem?_mirror_all (xs:=p) (i:=0) hj k;unfold ka kas_rev;simp only[We,e,T_,true_and,Sq]
 split<;>rfl
theorem oK{p:Array Nat}{k l:Nat}(hs:k<p.size)(hl:l<=k)(i:Nat):ka key (bubble p k (k-l)) i=if i=l then ka key p k else if l<i/\i<=k then ka key p (i-1)else ka key p i:=by
 have e:=getElem?_bubble (xs:=p) hs (k-l) (by lia) i;rw[show k-(k-l)=l by lia]at e;unfold ka;simp only[We,e]
 split
 .rfl
 .split<;>rfl
theorem Ka{p:Array Nat}:B4 key p 1:=λi j a b=>by
 have:i=j:=by lia
 subst this;exact Vp _
theorem vM{p:Array Nat}:∀(f m:Nat),1<=m->B4 key p m->m<=eY (kl key) (kas_asc p f m)/\eY (kl key) (kas_asc p f m)<=m+f/\B4 key p (eY (kl key) (kas_asc p f m))/\
  (eY (kl key) (kas_asc p f m)=m+f\/ka key p (eY (kl key) (kas_asc p f m))<ka key p (eY (kl key) (kas_asc p f m)-1))
 | 0,m,h1,hu=>⟨h_ _,h_ _,hu,.inl rfl⟩
 | f+1,m,h1,hu=>by
  show _<=eY _ (if kl key (p.getD m 0) (p.getD (m-1) 0)=true then .ret m else kas_asc p f (m+1))/\eY _ (if kl key (p.getD m 0) (p.getD (m-1) 0)=true then .ret m else kas_asc p f (m+1))<=_/\B4 key p (eY _ (if kl key (p.getD m 0) (p.getD (m-1) 0)=true then .ret m else kas_asc p f (m+1)))/\(eY _ (if kl key (p.getD m 0) (p.getD (m-1) 0)=true then .ret m else kas_asc p f (m+1))=_\/ka key p (eY _ (if kl key (p.getD m 0) (p.getD (m-1) 0)=true then .ret m else kas_asc p f (m+1)))<ka key p (eY _ (if kl key (p.getD m 0) (p.getD (m-1) 0)=true then .ret m else kas_asc p f (m+1))-1))
  by_cases hl:ka key p m<ka key p (m-1)
  .rw[j_ (show kl key (p.getD m 0) (p.getD (m-1) 0)=true from w_ hl)];exact⟨h_ _,by show m<=_;lia,hu,.inr hl⟩
  .rw[k_ (show ¬kl key (p.getD m 0) (p.getD (m-1) 0)=true from λz=>hl (Sw z))];have Hl:B4 key p (m+1):=λi j a b=>by
    by_cases hj:j<m
    .exact hu i j a hj
    .have:j=m:=by lia
     subst this
     by_cases hi:i=j
     .subst hi;exact Vp _
     .exact Vx (hu i (j-1) (by lia) (by lia)) (Int.not_lt.mp hl)
   obtain⟨a,b,c,d⟩:=vM f (m+1) (by lia) Hl;exact⟨by lia,by lia,c,d.imp (λe=>by lia) id⟩
theorem xx{p:Array Nat}(hi:kIn key p):∀(f m:Nat),1<=m->m+f<=p.size->Pv key p m->∃x,eY (kl key) (kas_desc f p m 0)=(p,x,0)/\m<=x/\x<=m+f/\Pv key p x
 | 0,m,h1,_,hd=>⟨m,rfl,h_ _,h_ _,hd⟩
 | f+1,m,h1,hz,hd=>by
  show ∃x,eY _ (if kl key (p.getD m 0) (p.getD (m-1) 0)=true then(if 0>0 then _ else kas_desc f p (m+1) 0)else KasT.ask (p.getD (m-1) 0) (p.getD m 0) λd=>if d=true then .ret (p,m,0)else kas_desc f p (m+1) (0+1))=_/\_
  by_cases hl:ka key p m<ka key p (m-1)
  .rw[j_ (show kl key (p.getD m 0) (p.getD (m-1) 0)=true from w_ hl),k_ (by lia)];have xT:Pv key p (m+1):=λi j a b=>by
    by_cases hj:j<m
    .exact hd i j a hj
    .have:j=m:=by lia
     subst this
     by_cases xV:i=j
     .subst xV;exact Vp _
     .exact Vx (Wf hl) (hd i (j-1) (by lia) (by lia))
   obtain⟨x,a,b,c,d⟩:=xx hi f (m+1) (by lia) (by lia) xT;exact⟨x,a,by lia,by lia,d⟩
  .rw[k_ (show ¬kl key (p.getD m 0) (p.getD (m-1) 0)=true from λz=>hl (Sw z))];have h2:ka key p (m-1)<ka key p m:=by have:=hi (m-1) m (by lia) (by lia);lia
   show ∃x,eY _ (if kl key (p.getD (m-1) 0) (p.getD m 0)=true then _ else _)=_/\_;rw[j_ (show kl key (p.getD (m-1) 0) (p.getD m 0)=true from w_ h2)];exact⟨m,rfl,h_ _,by lia,hd⟩
theorem zM{p:Array Nat}(hi:kIn key p)(h1:1<=p.size):∃m p',eY (kl key) (kas_count p.size p)=(m,p')/\1<=m/\m<=p.size/\p'.Perm p/\B4 key p' m:=by
 unfold kas_count;rw[eX];obtain⟨a,b,c,d⟩:=vM (key:=key) (p:=p) (p.size-1) 1 (h_ _) Ka;generalize eY (kl key) (kas_asc p (p.size-1) 1)=m at a b c d
 by_cases e:m=p.size
 .rw[j_ (by simpa using e)];exact⟨m,p,rfl,a,by lia,.refl _,c⟩
 .rw[k_ (by simpa using e)];have hlt:=d.resolve_left (by lia)
  by_cases hg:m>1
  .rw[j_ hg];show ∃m' p',eY _ (if kl key (p.getD 0 0) (p.getD (m-1) 0)=true then _ else _)=_/\_;have h2:ka key p 0<ka key p (m-1):=by have:=hi 0 (m-1) (by lia) (by lia);have:=c 0 (m-1) (by lia) (by lia);lia
   rw[j_ (show kl key (p.getD 0 0) (p.getD (m-1) 0)=true from w_ h2)];exact⟨m,p,rfl,a,by lia,.refl _,c⟩
  .rw[k_ hg];have:m=1:=by lia
   subst this;unfold kas_descPart;rw[eX];obtain⟨x,e1,x1,x2,x3⟩:=xx hi (p.size-(1+1)) (1+1) (by lia) (by lia) (λi j a b=>by
    by_cases xV:i=j
    .subst xV;exact Vp _
    .have e1:i=0:=by lia
     have e2:j=1:=by lia
     subst e1;subst e2;exact Wf hlt)
   rw[e1];rw[k_ (by show ¬0>0;lia)];unfold kas_tail3;rw[eX];have hu:B4 key (kas_rev p 0 x) x:=λi j a b=>by
    rw[pB (by lia),pB (by lia),j_ (by lia),j_ (by lia)];exact x3 _ _ (by lia) (by lia)
   obtain⟨a',b',c',d'⟩:=vM (p.size-x) x (by lia) hu;exact⟨_,_,rfl,by show 1<=eY _ (kas_asc (kas_rev p 0 x) (p.size-x) x);lia,by show eY _ (kas_asc (kas_rev p 0 x) (p.size-x) x)<=_;lia,mirror_perm _ _ _ _,c'⟩
theorem gC{p:Array Nat}{k:Nat}(hu:B4 key p k):∀(f l r:Nat),l<=r->r<=k->r-l<=f->(∀i,i<l->ka key p i<=ka key p k)->(∀i,r<=i->i<k->ka key p k<ka key p i)->
  ∃x,eY (kl key) (kas_place p k f l r)=x/\x<=k/\(∀i,i<x->ka key p i<=ka key p k)/\(∀i,x<=i->i<k->ka key p k<ka key p i)
 | 0,l,r,h1,h2,h3,h4,h5=>⟨l,rfl,by lia,h4,λi a b=>h5 i (by lia) b⟩
 | f+1,l,r,h1,h2,h3,h4,h5=>by
  unfold kas_place
  by_cases hg:l>=r
  .rw[j_ hg];exact⟨l,rfl,by lia,h4,λi a b=>h5 i (by lia) b⟩
  .rw[k_ hg];show ∃x,eY _ (if kl key (p.getD k 0) (p.getD ((l+r)/2) 0)=true then _ else _)=_/\_
   by_cases hl:ka key p k<ka key p ((l+r)/2)
   .rw[j_ (show kl key (p.getD k 0) (p.getD ((l+r)/2) 0)=true from w_ hl)];exact gC hu f _ _ (by lia) (by lia) (by lia) h4 λi a b=>Int.lt_of_lt_of_le hl (hu _ _ a b)
   .rw[k_ (show ¬kl key (p.getD k 0) (p.getD ((l+r)/2) 0)=true from λz=>hl (Sw z))];exact gC hu f _ _ (by lia) (by lia) (by lia) (λi a=>Vx (hu i _ (by lia) (by lia)) (Int.not_lt.mp hl)) h5
theorem Bm:∀(f:Nat)(p:Array Nat)(k:Nat),k+f=p.size->B4 key p k->(eY (kl key) (kas_bin f p k)).Perm p/\B4 key (eY (kl key) (kas_bin f p k)) p.size
 | 0,p,k,h,hu=>⟨.refl _,by rw[<- h];exact hu⟩
 | f+1,p,k,h,hu=>by
  unfold kas_bin;rw[eX];obtain⟨x,e,x1,x2,x3⟩:=gC hu k 0 k (T_ _) (h_ _) (by lia) (λi a=>by lia) λi a b=>by lia
  rw[e];have hz:(bubble p k (k-x)).size=p.size:=bubble_size _ _ _;obtain⟨a,b⟩:=Bm f (bubble p k (k-x)) (k+1) (by lia) λi j xV hj=>by
   rw[oK (by lia) x1,oK (by lia) x1]
   repeat' split
   all_goals first
    | (exfalso;lia)
    | exact Vp _
    | exact x2 _ (by lia)
    | exact Wf (x3 _ (by lia) (by lia))
    | exact hu _ _ (by lia) (by lia)
  rw[hz]at b;exact⟨a.trans (bubble_perm _ _ _),b⟩
theorem FX(hn:1<=n)(hi:∀i j,i<j->j<n->key i≠key j):(eY (kl key) (kas_sort n)).toList.Perm (List.range n)/\(eY (kl key) (kas_sort n)).toList.Pairwise λi j=>key i<=key j:=by
 have hs:(List.toArray (List.range n)).size=n:=by simp
 have hg:∀i,i<n->(List.toArray (List.range n)).getD i 0=i:=λi h=>by simp[Array.getD,h]
 have hin:kIn key (List.toArray (List.range n)):=λi j a b=>by
  rw[hs]at b;unfold ka;rw[hg i (by lia),hg j b];exact hi i j a b
 have main:(eY (kl key) (kas_sort n)).Perm (List.toArray (List.range n))/\B4 key (eY (kl key) (kas_sort n)) n:=by
  unfold kas_sort;rw[eX];obtain⟨m,p',e,m1,m2,hp,hu⟩:=zM hin (by lia);rw[hs]at e m2;rw[e];have hz:p'.size=n:=by rw[hp.size_eq,hs]
  by_cases hl:m<n
  .rw[j_ (show(m,p').1<n from hl)];show(eY _ (kas_bin (n-max m 1) p' (max m 1))).Perm _/\_;rw[show max m 1=m by lia];obtain⟨a,b⟩:=Bm (n-m) p' m (by lia) hu;rw[hz]at b;exact⟨a.trans hp,b⟩
  .rw[k_ (show ¬(m,p').1<n from hl)];have:m=n:=by lia
   subst this;exact⟨hp,hu⟩
 obtain⟨hp,hu⟩:=main;refine⟨by simpa using Wn.mp hp,SR.mpr λi j h1 h2 xV=>?_⟩;have hz:(eY (kl key) (kas_sort n)).size=n:=by rw[hp.size_eq,hs]
 have:=hu i j (by lia) (by simpa [hz]using h2);unfold ka at this;simp only[Sv]at h1 h2;simpa [Array.getD,h1,h2]using this
end
end Mi
namespace Mi
open PySem PySem.Spec PyProof.Rows L2
open PySem.W (KasT kas_sort kas_ask kat_run kat_snds kas_rev kas_asc kas_desc kas_tail3 kas_descPart kas_count kas_place kas_bin)
def rq{α:Type}(n:Nat)(P:α->Prop):KasT α->Prop
 | .ret a=>P a
 | .ask i j k=>(i<n/\j<n)/\∀b,rq n P (k b)
section
variable {n:Nat}{p:Array Nat}
theorem eV{α β:Type}{f:α->KasT β}{P:α->Prop}{R:β->Prop}(h:∀a,P a->rq n R (f a)):∀{t:KasT α},rq n P t->rq n R (t.bind f)
 | .ret a,g=>h a g
 | .ask _ _ k,⟨g,q⟩=>⟨g,λb=>eV h (q b)⟩
def gd(n:Nat)(p:Array Nat):Prop:=(0<n/\p.size=n)/\∀x∈p.toList,x<n
theorem gd.at(h:gd n p)(i:Nat):p.getD i 0<n:=by
 by_cases hi:i<p.size
 .rw[show p.getD i 0=p[i] by simp[Array.getD,hi]];exact h.2 _ (by simp)
 .rw[show p.getD i 0=0 by simp[Array.getD,hi]];exact h.1.1
theorem gd.perm{q:Array Nat}(h:gd n p)(e:q.Perm p):gd n q:=⟨⟨h.1.1,e.size_eq.trans h.1.2⟩,λx hx=>h.2 x ((Wn.mp e).mem_iff.mp hx)⟩
theorem gd.rev(h:gd n p)(i j:Nat):gd n (kas_rev p i j):=h.perm (mirror_perm _ _ _ _)
theorem u9(h:gd n p):∀(f m:Nat),rq n (λ_=>True) (kas_asc p f m)
 | 0,_=>trivial
 | f+1,m=>⟨⟨h.at _,h.at _⟩,λb=>by
  cases b
  .exact u9 h f (m+1)
  .trivial⟩
theorem lI:∀(f:Nat)(p:Array Nat)(m q:Nat),gd n p->rq n (λr=>gd n r.1) (kas_desc f p m q)
 | 0,_,_,_,h=>h
 | f+1,p,m,q,h=>⟨⟨h.at _,h.at _⟩,λb=>by
  cases b
  .refine⟨⟨h.at _,h.at _⟩,λb=>?_⟩;cases b
   .exact lI f p (m+1) (q+1) h
   .exact h
  .show rq n _ (if q>0 then _ else _)
   split
   .exact lI f _ _ _ (h.rev _ _)
   .exact lI f _ _ _ h⟩
theorem wC(h:gd n p)(m k:Nat):rq n (λr=>gd n r.2) (kas_tail3 m k p):=eV (n:=n) (P:=λ_=>True) (R:=λr=>gd n r.2) (f:=λx=>KasT.ret (x,kas_rev p 0 m)) (λ_ _=>h.rev 0 m) (u9 (h.rev 0 m) _ _)
theorem wg(h:gd n p)(m k:Nat):rq n (λr=>gd n r.2) (kas_descPart m k p):=eV (λa ha=>by
 show rq n _ (if a.2.2>0 then _ else _)
 split
 .exact wC (ha.rev _ _) _ _
 .exact wC ha _ _) (lI _ _ _ _ h)
theorem Bc(h:gd n p)(k:Nat):rq n (λr=>gd n r.2) (kas_count k p):=eV (λa _=>by
 split
 .exact h
 .split
  .refine⟨⟨h.at _,h.at _⟩,λb=>?_⟩;cases b
   .exact wg (h.rev _ _) _ _
   .exact h
  .exact wg h _ _) (u9 h _ _)
theorem mO(h:gd n p)(k:Nat):∀(f l r:Nat),rq n (λ_=>True) (kas_place p k f l r)
 | 0,_,_=>trivial
 | f+1,l,r=>by
  unfold kas_place
  split
  .trivial
  .refine⟨⟨h.at _,h.at _⟩,λb=>?_⟩;cases b
   .exact mO h k f _ _
   .exact mO h k f _ _
theorem Be:∀(f:Nat)(p:Array Nat)(k:Nat),gd n p->rq n (gd n) (kas_bin f p k)
 | 0,_,_,h=>h
 | f+1,p,k,h=>eV (λ_ _=>Be f _ _ (h.perm (bubble_perm _ _ _))) (mO h k _ _ _)
theorem lP(h:0<n):rq n (gd n) (kas_sort n):=eV (λa ha=>by
 split
 .exact Be _ _ _ ha
 .exact ha) (Bc ⟨⟨h,by simp⟩,λx hx=>by simpa using hx⟩ n)
theorem rq.out{α:Type}{P:α->Prop}{lt:Nat->Nat->Bool}:∀{t:KasT α},rq n P t->P (eY lt t)
 | .ret _,h=>h
 | .ask i j k,h=>rq.out (t:=k (lt i j)) (h.2 (lt i j))
end
theorem bP.len{h:Xd}:∀{vs:WY}{kss:Xk},bP h vs kss->vs.length=kss.length
 | [],[],_=>rfl
 | [],_::_,t=>t.elim
 | _::_,[],t=>t.elim
 | _::_,_::_,t=>by rw[A_,A_,bP.len t.2]
def Lf(kss:Xk)(i j:Nat):Bool:=(dN (kss.getD i []) (kss.getD j [])).getD false
def cy(kss:Xk):W5:=if kss.length<2 then List.range kss.length else(eY (Lf kss) (kas_sort kss.length)).toList
def tG(kss:Xk):Bool:=kss.all wo&&kss.all λx=>kss.all λy=>(dN x y).isSome
theorem hU{kss:Xk}:∀i∈cy kss,i<kss.length:=by
 intro i hi;unfold cy at hi
 split at hi
 .simpa using hi
 .exact(lP (by lia)).out.2 i hi
theorem mw(kss:Xk):(cy kss).length=kss.length:=by
 unfold cy
 split
 .simp
 .rw[Sv];exact(lP (by lia)).out.1.2
section
variable {prog:Xa}{w:Xe}{A:Xb}{E:WR}{s:W_}
theorem Bv{α:Type}{n:Nat}{cmp:Nat->Nat->(Bool->W_->Prop)->W_->Prop}{lt:Nat->Nat->Bool}{s:W_}(hc:∀i j (C:Bool->W_->Prop),i<n->j<n->C (lt i j) s->cmp i j C s){P:α->Prop}{Q:α->W_->Prop}:∀{t:KasT α},rq n P t->Q (eY lt t) s->t.kasWp cmp Q s
 | .ret _,_,h=>h
 | .ask i j k,⟨g,q⟩,h=>hc i j _ g.1 g.2 (Bv hc (q (lt i j)) h)
theorem gz{a:Xh}{vs:WY}{kss:Xk}{n:Nat}{P:PySem.Fin->W_->Prop}(ho:s.heap.get? a=some (seqObj "list" vs.toArray n))
  (ht:bP s.heap vs kss) (hx:tG kss=true) (Hr:vs.length<64)
  (h:P (.done (.ret .none)) {s with heap:=sortedHeap s.heap a vs ((cy kss).map λi=>vs.getD i .none).toArray}) :
  wpAny (model prog w) A (Builtin.«list.sort» ⟨[.ref a],[]⟩) P E s:=by
 rw[list_sort_plain];have ha:a<s.sz:=q_ ho;have hz:vs.length<=sizeLine:=by have:=Sz;lia
 refine a_ (listItems_at ho rfl ?_);refine a_ (listUpdate_at ho rfl ?_ (by simpa using hz) (by simp));obtain⟨e1,RD⟩:∃e1,(s.heap.update a (Obj.mapSeq λ_=>#[])).get? a=some (seqObj "list" #[] e1):=⟨_,V3 ho (λ_=>#[])⟩;refine a_ (seqEpoch_at RD rfl ?_);refine a_ (wpAny_newTuple ?_);refine a_ (UW ?_);refine Q_ ?_;have OG:(((s.heap.update a (Obj.mapSeq λ_=>#[])).push (seqObj "tuple" vs.toArray 0)).push (seqObj "list" #[] 0)).get? a=some (seqObj "list" #[] e1):=by
  rw[Heap.get?_push_ne _ _ _ (by rw[Wk,VO];exact z_ (T3 ha)),Heap.get?_push_ne _ _ _ (by rw[VO];exact z_ ha)];exact RD
 show wpAny (model prog w) A _ P E {s with heap:=((s.heap.update a (Obj.mapSeq λ_=>#[])).push (seqObj "tuple" vs.toArray 0)).push (seqObj "list" #[] 0)};have K9:bP (((s.heap.update a (Obj.mapSeq λ_=>#[])).push (seqObj "tuple" vs.toArray 0)).push (seqObj "list" #[] 0)) vs kss:=ht.keeps λb o hb hc=>by
  refine e_ _ (e_ _ ?_);rw[U_ _ _ _ _ (λz=>?_)]
  .exact hb
  .subst z;rw[ho]at hb;cases hb;injection (show Value.type "list"=Value.type "tuple" from hc)with e;exact absurd e (by decide)
 dsimp only;have hsz:vs.toArray.size=vs.length:=by simp
 have hl:=ht.len;unfold tG at hx;rw[F_]at hx
 by_cases h2:vs.toArray.size<2
 .have Ki:(vs.toArray.zip vs.toArray).map (·.2)=((cy kss).map λi=>vs.getD i .none).toArray:=by
   unfold cy;rw[j_ (by lia),<- hl];apply Array.ext
   .simp
   .intro i h1 h2;simp at h1 h2;simp[h1]
  rw[j_ h2,j_ h2];refine a_ (d_ ?_);rw[StateT.run_pure];refine a_ (d_ ?_);dsimp only;refine a_ (seqEpoch_at OG rfl ?_);refine a_ (listUpdate_at OG rfl ?_ (hsz2:=by rw[Array.size_map];rw[Array.size_zip,hsz,WH];lia));simp only[Wz,x_,SS];refine d_ ?_;show P (.done (.ret .none)) {s with heap:=(((s.heap.update a (Obj.mapSeq λ_=>#[])).push (seqObj "tuple" vs.toArray 0)).push (seqObj "list" #[] 0)).update a (Obj.mapSeq λ_=>(vs.toArray.zip vs.toArray).map (·.2))};rw[Ki];exact h
 .rw[k_ h2,k_ h2];obtain⟨fs,f1,f2,f3⟩:=K9.firsts hx.1;refine a_ (PySem.W.kat_kind (T:=.type "int") f1 (by lia) (λv hv=>?_) (by simp) ?_)
  .obtain⟨m,t,rfl⟩:=f3 v hv;exact PySem.W.Looks.now
  rw[show(Value.type "int" != Value.type "tuple")=true by decide];have N4:∀i,i<vs.length->∃b o xs k ks,vs.getD i Value.none=.ref b/\(((s.heap.update a (Obj.mapSeq λ_=>#[])).push (seqObj "tuple" vs.toArray 0)).push (seqObj "list" #[] 0)).get? b=some o/\o.cls=.type "tuple"/\o.data=.seq xs k/\kss[i]?=some ks/\cB xs.toList ks:=λi hi=>K9.at (i:=i) (v:=vs.getD i .none) (by rw[g_,f_ hi];rfl);refine a_ (SG (kat_run (ks:=vs) (vs:=vs) (κ:=tuples' true) (G:=λp s'=>s'={s with heap:=((s.heap.update a (Obj.mapSeq λ_=>#[])).push (seqObj "tuple" vs.toArray 0)).push (seqObj "list" #[] 0)}/\p.toList=cy kss)
   (Q:=λlS s'=>s'={s with heap:=((s.heap.update a (Obj.mapSeq λ_=>#[])).push (seqObj "tuple" vs.toArray 0)).push (seqObj "list" #[] 0)}/\failedOf lS=none/\(cy kss).length=vs.length/\(arrOf lS).map (·.2)=List.toArray ((cy kss).map λi=>vs.getD i Value.none)) rfl (by lia) Hr
   (λp lS s' a1 a2 a3 a4=>⟨a4.1,a3,by rw[<- a4.2,Sv,a1],by rw[kat_snds rfl a2,a4.2]⟩) (Bv (lt:=Lf kss) (λi j C hi hj hC=>?lt) (lP (by lia)) ⟨rfl,?od⟩)) ?post λ_ _ e=>e)
  case od=>unfold cy;rw[k_ (by lia),hl]
  case lt=>
   obtain⟨b,o,xs,k,ks,e3,c1,c2,c3,c4,c5⟩:=N4 i hi;obtain⟨b',o',K8,k',gj,e4,d1,d2,d3,d4,d5⟩:=N4 j hj;show wpAny (model prog w) A (keyLt' _ (vs.getD i Value.none) (vs.getD j Value.none)) C _ _;rw[e3,e4];refine PySem.W.kat_lt c1 c3 d1 d3 ?_;have hd:decide (xs.size<K8.size)=decide (xs.toList.length<K8.toList.length):=by simp
   rw[hd];have m1:=R_ c4;have m2:=R_ d4;obtain⟨q,hq⟩:=Option.isSome_iff_exists.mp (M_.mp (M_.mp hx.2 _ m1) _ m2);refine HS c5 d5 hq (λ_=>⟨M_.mp hx.1 _ m1,M_.mp hx.1 _ m2⟩) ?_;unfold Lf at hC;rw[g_,g_,c4,d4]at hC;dsimp only[Option.getD_some]at hC;rw[hq]at hC;exact hC
  case post=>
   rintro⟨⟨⟩,lS⟩ s' ⟨rfl,hf,CU,hp⟩;dsimp only at hp hf ⊢;rw[hf,hp];refine a_ (seqEpoch_at OG rfl ?_);refine a_ (listUpdate_at OG rfl ?_ (hsz2:=by rw[u_,c_,CU];lia));simp only[Wz,x_,SS];exact d_ h
theorem FF{a:Xh}{o:Obj}{n:Nat}{vs:WY}{kss:Xk}{Q:WR}(ho:s.heap.get? a=some o)(hc:o.cls=.type "list"\/o.cls=.type "tuple")(hd:o.data=.seq vs.toArray n)
  (ht:bP s.heap vs kss) (hx:tG kss=true) (Hr:vs.length<64)
  (q:Q (.ref (s.sz+1)) {s with heap:=sortedAll s.heap vs ((cy kss).map λi=>vs.getD i .none).toArray}):wpAny (model prog w) A (call (.builtin "sorted") [.ref a]) Q E s:=by
 refine Ur UA plain_sorted entry_sorted (args_sorted1 _) ?_;unfold Builtin.«sorted»;refine a_ (m:=checkCount "sorted" 1 1 _) (d_ (a_ (tw ho hc hd (a_ (UW ?_)) (by have:=Sz;lia))));have z1:((s.heap.push (seqObj "list" #[] 0)).update s.sz (Obj.mapSeq (·++vs.toArray))).objs.size=s.sz+1:=by rw[VO,Wk]
 have z2:(((s.heap.push (seqObj "list" #[] 0)).update s.sz (Obj.mapSeq (·++vs.toArray))).push (seqObj "list" vs.toArray 0)).get? (s.sz+1)=some (seqObj "list" vs.toArray 0):=by
  rw[<- z1];exact n_ _ rfl
 show wpAny _ _ _ _ _ {s with heap:=((s.heap.push (seqObj "list" #[] 0)).update s.sz (Obj.mapSeq (·++vs.toArray))).push (seqObj "list" vs.toArray 0)};rw[z1];have K9:bP (((s.heap.push (seqObj "list" #[] 0)).update s.sz (Obj.mapSeq (·++vs.toArray))).push (seqObj "list" vs.toArray 0)) vs kss:=ht.keeps λb o hb hc=>by
  refine e_ _ ?_;rw[U_ _ _ _ _ (z_ (q_ hb))];exact e_ _ hb
 exact a_ (Q_ (SA slot_list_sort ⟨_,z2,rfl⟩ V4 (gz z2 K9 hx Hr ⟨_,rfl,d_ ⟨_,rfl,q⟩⟩) (args_list_sort _)))
end
def kU:D->Xp
 | .lst ds=>(jS ds).bind λkss=>if ds.length<64/\tG kss=true then some (.lst ((cy kss).map λi=>ds.getD i .non))else none
 | _=>none
section
variable {X:Cx}{l r:Xi}{fa fb:Fe}{ga gb:Gr}{pos p:Pos}
def Bb(K:Fg):Xq->Hp->VK->Prop:=λxs H Q=>∃(a:Xh)(vs:Xq)(kss:Xk),xs=[.ref a]/\de K H a vs/\oH K H vs kss/\vs.length<64/\tG kss=true/\∀q,H q=none->Q (.ref q) (upd H q (.lst ((cy kss).map λi=>vs.getD i .non)))
theorem oH.len{K:Fg}{H:Hp}:∀{vs:Xq}{kss:Xk},oH K H vs kss->vs.length=kss.length
 | [],[],_=>rfl
 | [],_::_,t=>t.elim
 | _::_,[],t=>t.elim
 | _::_,_::_,t=>by rw[A_,A_,oH.len t.2]
theorem ia{vs:Xq}{us:WY}(r:av vs us):∀{is:W5},(∀i∈is,i<vs.length)->av (is.map λi=>vs.getD i .non) (is.map λi=>us.getD i .none)
 | [],_=>.nil
 | i::is,h=>by
  have hi:=h i (o_ ..);obtain⟨u,h5,h6⟩:=av.get r (f_ hi);refine .cons ?_ (ia r λj hj=>h j (l_ _ hj));dsimp only;rw[g_,g_,h5,f_ hi];exact h6
theorem qy:dB X (.builtin "sorted") (Bb X.K):=by
 intro pins s σ H xs us Q I rs h;obtain⟨a,vs,kss,rfl,hq,ht,Hr,hx,q⟩:=h;obtain⟨u,rfl,rx⟩:=vals1 rs;cases rx;obtain⟨aQ,rv,pl,hz⟩:=I.list hq;obtain⟨o,ho,hc,n,hd⟩:=pl.isList;have hl:=rv.length;refine FF ho (.inl hc) hd (ht.heap I rv) hx (by lia) ?_;obtain⟨e,he⟩:=sortedAll_at s.heap aQ ((cy kss).map λi=>aQ.getD i .none).toArray;have hk:=ht.len;have v2:=ia rv (is:=cy kss) λi hi=>by have:=hU i hi;lia
 refine⟨.ref _,_,I.laid (t':=s.toks) (o:=.lst ((cy kss).map λi=>vs.getD i .non)) (λb o z=>sortedAll_old z) (UJ _) ⟨?_,_,e,v2,by simpa using he⟩,rfl,q _ (I.hok.fresh (UJ _))⟩;rw[c_,mw];lia
theorem kc{K:Fg}{Z:Hp}{ds:Xo}{vs:Xq}(r:ak K Z ds vs):∀{is:W5},(∀i∈is,i<ds.length)->ak K Z (is.map λi=>ds.getD i .non) (is.map λi=>vs.getD i .non)
 | [],_=>rfl
 | i::is,h=>by
  have hi:=h i (o_ ..);obtain⟨u,h5,h6⟩:=r.get (f_ hi);refine ak.cons ?_ (kc r λj hj=>h j (l_ _ hj));dsimp only;rw[g_,g_,h5,f_ hi];exact h6
theorem DG{K:Fg}:ik K .nw kU (Bb K):=λ{Z H x dx d Q} s h e k=>by
 cases dx<;>try cases e
 obtain⟨kss,h1,h2⟩:=b_.mp e;obtain⟨hl,rfl⟩:=kX h2;obtain⟨a,vs,rfl,q,rr⟩:=h.lst s;have ht:=oH.of h1 rr;have hk:=ht.len;have vl:=rr.len;exact⟨a,vs,kss,rfl,q,ht.mono s,by lia,hl.2,λp hp=>k _ Z _ (Ex.newL s hp) ⟨p,_,_,rfl,rfl,hp,ai,s.free hp,kc rr λi hi=>by have:=hU i hi;lia⟩⟩
theorem xD(hm:X.mg "sorted"=none)(ha:PD X ga l fa)(hg:Gl X "sorted":=by rfl)(he:starEach [l] X.env=[(false,eval l X.env)]:=by rfl):PD X .nw (.Call (.Name "sorted" p) [l] [] pos) (br kU fa):=
 tY qy DG UB hm ha (by decide) (by decide) hg he
end
end Mi
namespace Mi
open PySem PySem.Spec PyProof.Rows L2
section
variable {X:Cx}{l r:Xi}{fa fb:Fe}{ga gb:Gr}{pos p:Pos}
end
def cI:D->D->Xp
 | .int i,.int j=>some (.int (Builtin.bitAnd i j))
 | _,_=>none
def md:D->D->Xp
 | .int i,.int j=>if decide (0<=j/\j<=1000000/\i.natAbs<2 ^ 64)then some (.int (i*2 ^ j.toNat))else none
 | _,_=>none
section
variable {X:Cx}{l r:Xi}{fa fb:Fe}{ga gb:Gr}{pos p:Pos}
theorem JU{K:Fg}:ck K .cl cI (uG λi j=>.int (Builtin.bitAnd i j)):=gW (by intro _ _ _;rfl)
theorem L5{K:Fg}:ck K .cl md (rI M9 λi j=>.int (i*2 ^ j.toNat)):=mU (λi j h=>Sw h) (by intro _ _ _;rfl)
theorem j6(ha:PD X ga l fa)(hb:PD X gb r fb):PD X .cl (.BinOp l .BitAnd r pos) (ao cI fa fb):=ou IL JU ha hb
theorem xP(ha:PD X ga l fa)(hb:PD X gb r fb):PD X .cl (.BinOp l .LShift r pos) (ao md fa fb):=ou IX L5 ha hb
theorem jd(i j:Nat):cI (.int i) (.int j)=some (.int ((i &&& j:Nat):Int)):=by
 show some (D.int (Builtin.bitAnd i j))=_;congr 2
def QZ:D->Option Bool
 | .int i=>some (i != 0)
 | _=>none
def OU(f:Fe):Fb:=λenv=>(f env).bind QZ
theorem IT{e:Xi}{f:Fe}(h:PD X .cl e f)(he:∀whole,isTrue e X.env whole=(do let v <- whole;standAt e.pos;holding [v] (truthy v)):=by intro _;rfl):PB X e (OU f):=
 PT.imp (tS h he) λσ H Q aC=>by
  obtain⟨env,B,Z,b,R,e,k⟩:=aC;obtain⟨d,h1,h2⟩:=b_.mp e;cases d<;>cases h2;refine⟨env,B,Z,_,R,h1,λv Z' H' x g=>?_⟩;cases g.int;exact⟨_,rfl,k Z' H' x⟩
def B7:D->Xp
 | .int i=>some (.int ((Builtin.Int.intBits i:Nat):Int))
 | _=>none
theorem EE:PY X "int.bit_length" (λx vs H Q=>∃i,x=.int i/\vs=[]/\Q (.int ((Builtin.Int.intBits i:Nat):Int)) H):=by
 intro pins s σ H x xs v us Q I rx rv h;obtain⟨i,rfl,rfl,q⟩:=h;cases rv;obtain⟨t,rfl⟩:=(show ∃t,v=Value.int i t from rx);exact call_gives Wg (typeIs_int s _ t) PySem.F.entry_int_bit_length (PySem.F.args_int_bit_length_1 _) (PySem.AutoIntG2.int_bit_length_int_0 i t) ⟨.int _,H,I.kept (t':=s.toks+1) (λ_ _ e=>e),⟨_,rfl⟩,q⟩
theorem Jg{o:Xi}{apos be:Pos}(ha:PD X .cl o fa)(jJ:attributeBase o "bit_length" X.env (eval o X.env)=eval o X.env:=by rfl)(jK:(apos.endLine==be.line)=true:=by rfl) :
  PD X .cl (.Call (.Attribute o "bit_length" apos) [] [] be) (br B7 fa):=
 PE.imp (Iy PySem.F.plainAttrs_int Wg PySem.F.type_int_bit_length EE ha jJ jK) λσ H Q aC=>by
 obtain⟨env,B,Z,d,R,e,kq⟩:=aC;obtain⟨da,e1,e⟩:=b_.mp e;cases da<;>try cases e
 refine⟨env,B,Z,_,R,e1,λv Z1 H1 x1 g1=>?_⟩;cases g1.int;exact⟨rfl,_,rfl,rfl,kq _ Z1 H1 x1 rfl⟩
end
def gf(n:Nat)(lo hi st:Option Int):W5:=sliceRange (sliceBounds lo hi st n).1 (sliceBounds lo hi st n).2.1 (sliceBounds lo hi st n).2.2
def bG{α:Type}(xs:List α)(is:W5):List α:=is.filterMap (xs[·]?)
theorem Gf(aQ:WY)(lo hi st:Option Int):slicePick aQ.toArray lo hi st=(bG aQ (gf aQ.length lo hi st)).toArray:=by
 unfold slicePick bG gf;simp only[u_,List.getElem?_toArray]
theorem iP{vs:Xq}{us:WY}(r:av vs us):∀is:W5,av (bG vs is) (bG us is)
 | []=>.nil
 | i::is=>by
  have hl:=r.length;unfold bG
  by_cases hi:i<vs.length
  .obtain⟨u,h5,h6⟩:=av.get r (f_ hi);rw[SV,SV,h5,f_ hi];exact .cons h6 (iP r is)
  .rw[SV,SV,K_ (by lia),K_ (by lia)];exact iP r is
theorem fD{K:Fg}{Z:Hp}{ds:Xo}{vs:Xq}(r:ak K Z ds vs):∀is:W5,ak K Z (bG ds is) (bG vs is)
 | []=>rfl
 | i::is=>by
  have hl:=r.len;unfold bG
  by_cases hi:i<ds.length
  .obtain⟨u,h5,h6⟩:=r.get (f_ hi);rw[SV,SV,h5,f_ hi];exact ak.cons h6 (fD r is)
  .rw[SV,SV,K_ (by lia),K_ (by lia)];exact fD r is
section
variable {X:Cx}{l:Xi}{fa:Fe}{ga:Gr}{pos p2:Pos}{lo hi st:Option Xi}{fl fh fs:Fo}
def RZ(K:Fg)(te:TE)(tl th ts:TO):TE:=λσ H Q=>te σ H λx H1=>tl σ H1 λi H2=>th σ H2 λj H3=>ts σ H3 λn H4=>n≠some 0/\∃a xs,x=.ref a/\de K H4 a xs/\(bG xs (gf xs.length i j n)).length<=xs.length/\∀q,H4 q=none->Q (.ref q) (upd H4 q (.lst (bG xs (gf xs.length i j n))))
theorem MK{e:Xi}{te:TE}{tl th ts:TO}{se:Xi}(he:PE X e te)(hl:PO X lo tl)(hh:PO X hi th)(hs:PO X (some se) ts):PE X (.Subscript e (.Slice lo hi (some se) p2) pos) (RZ X.K te tl th ts):=by
 intro pins s σ H Q I h;refine Subscript_ (aZ (he pins s σ H _ I h) λv s1 aC=>?_);obtain⟨x,H1,I1,r1,q1⟩:=aC;refine wpAny_Slice ?_;refine aZ (hl pins s1 σ H1 _ I1 q1) λvl s2 aC=>?_;obtain⟨i,H2,I2,pl,q2⟩:=aC;refine aZ (hh pins s2 σ H2 _ I2 q2) λvu s3 aC=>?_;obtain⟨j,H3,I3,pu,q3⟩:=aC;refine aZ (hs pins s3 σ H3 _ I3 q3) λNV s4 aC=>?_;obtain⟨n,H4,I4',ps,hn,a,xs,rfl,hx,hle,q⟩:=aC;cases r1;have I4:Inv X pins σ H4 {s4 with heap:=s4.heap.push {cls:=.type "slice",data:=.fields #[vl,vu,NV]}}:=I4'.kept λb ob z=>e_ _ z;obtain⟨aQ,rv,ht,hz⟩:=I4.list hx;have hlen:=rv.length;show wpAny (model X.prog X.w) X.A (subscriptTail e (.Slice lo hi (some se) p2) (.ref a) (.ref s4.sz)) (EP X pins σ Q) X.xe {s4 with heap:=s4.heap.push {cls:=.type "slice",data:=.fields #[vl,vu,NV]}};refine tail_any ht.isList.typeIs Vw.lookup ?_ (by with_unfolding_all rfl);refine Ve ht.isList (Heap.IsSliceOf.new ..) pl pu ps hn ?_ (by rw[u_]<;>lia);rw[Gf,<- hlen];exact⟨.ref _,_,I4.laid (o:=.lst (bG xs (gf xs.length i j n))) (λb ob z=>e_ _ z) (h_ _) ⟨B_ hle hz,_,0,iP rv _,n_ _ rfl⟩,rfl,q _ (I4.hok.fresh (h_ _))⟩
def Sb:D->Option Int->Option Int->Option Int->Xp
 | .lst ds,i,j,n=>if n≠some 0/\(bG ds (gf ds.length i j n)).length<=ds.length then some (.lst (bG ds (gf ds.length i j n)))else none
 | _,_,_,_=>none
def Of(f:Fe)(lo hi st:Fo):Fe:=λenv=>(f env).bind λx=>(lo env).bind λi=>(hi env).bind λj=>(st env).bind λn=>Sb x i j n
theorem Pl{se:Xi}(ha:PD X ga l fa)(hl:HX X lo fl)(hh:HX X hi fh)(hs:HX X (some se) fs):PD X .nw (.Subscript l (.Slice lo hi (some se) p2) pos) (Of fa fl fh fs):=PE.imp (MK ha hl hh hs) λσ H Q aC=>by
 refine cN λ_ kq=>?_;obtain⟨env,B,Z,d,R,e,k⟩:=aC;obtain⟨x,h1,e⟩:=b_.mp e;obtain⟨i,h2,e⟩:=b_.mp e;obtain⟨j,h3,e⟩:=b_.mp e;obtain⟨n,h4,e⟩:=b_.mp e;cases x<;>try cases e
 rename_i ds _ _ _;obtain⟨hc,rfl⟩:=kX e;refine kq (⟨env,B,Z,_,R,h1,λv Z1 H1 x1 g1=>⟨env,B,Z1,i,R.ext x1,h2,λZ2 H2 x2=>⟨env,B,Z2,j,(R.ext x1).ext x2,h3,λZ3 H3 x3=>⟨env,B,Z3,n,((R.ext x1).ext x2).ext x3,h4,λZ4 H4 x4=>?_⟩⟩⟩⟩)
 all_goals clear kq
 obtain⟨a,vs,rfl,hq,rr⟩:=Gd.lst x4.zh (Gd.later (H3:=H4) x4 (Gd.later (H3:=H4) x3 (Gd.later (H3:=H4) x2 g1)));have hv:=rr.len;have hp:=(fD rr (gf ds.length i j n)).len;refine⟨hc.1,a,vs,rfl,hq,by rw[<- hv,<- hp];exact hc.2,λq hp=>?_⟩;have x0:=((x1.trans x2).trans x3).trans x4;exact k _ Z4 _ (x0.trans (Ex.newL x4.zh hp)) ⟨q,_,_,rfl,rfl,x0.h.free hp,ai,x4.zh.free hp,by rw[<- hv];exact fD rr _⟩
end
section
variable {X:Cx}{rg:Gr}{pos:Pos}
def F9(i:Nat)(f:Fe):Fe:=λenv=>match env[i]? with
 | some (.O (.L ds))=>(f (env.set i (.F (.lst ds)))).bind λd=>match d with | .int n=>some (.int n) | _=>none
 | _=>none
theorem Jr(i:Nat)(h:PD X .cl e f):PD X .cl e (F9 i f):=PE.imp h λσ H Q aC=>by
 obtain⟨env,B,Z,d,R,e,k⟩:=aC;unfold F9 at e
 split at e
 .rename_i ds hi;obtain⟨d',e1,e2⟩:=b_.mp e;obtain⟨y,e3,a,o,e4,e5,e6,r⟩:=R.sl i _ hi;subst e4;have R1:=R.frzX hi e3 e5 e6 r;refine⟨_,B,_,d',R1,e1,λv Z' H' x g=>?_⟩;cases d'<;>cases e2;exact k v (era Z' a) H' (x.unfrz e6 e5) (show v=_ from g)
 .cases e
end
section
variable {X:Cx}{rg:Gr}{l:Xi}{fa:Fe}{ga:Gr}{pos pos2 p p2:Pos}
end
def lookI(ks:Xl)(xs:List α)(q:Key):Option α:=match ks,xs with
 | k::ks,x::xs=>if k=q then some x else lookI ks xs q
 | _,_=>none
theorem g0:∀(ks:Xl)(us:WY)(q:Key),valueAt (ks.zip us) q=lookI ks us q
 | [],us,q=>by cases us<;>rfl
 | k::ks,[],q=>rfl
 | k::ks,u::us,q=>by
  unfold lookI
  by_cases h:k=q
  .rw[j_ h];simp[valueAt,h]
  .rw[k_ h,<- g0 ks us q];simp[valueAt,h]
theorem ak.lookI{K:Fg}{H:Hp}:∀{ks:Xl}{ds:Xo}{vs:Xq}{q:Key}{d:D},ak K H ds vs->Mi.lookI ks ds q=some d->∃v,Mi.lookI ks vs q=some v/\Rep K H d v
 | [],ds,_,_,_,_,h=>by cases ds<;>cases h
 | k::ks,[],_,_,_,_,h=>by cases h
 | k::ks,e::ds,_,q,d,⟨v,r,e1,h1,h2⟩,h=>by
  subst e1;unfold Mi.lookI at h ⊢
  by_cases hk:k=q
  .rw[j_ hk]at h ⊢;cases h;exact⟨v,rfl,h1⟩
  .rw[k_ hk]at h ⊢;exact ak.lookI h2 h
theorem av.lookI:∀{ks:Xl}{vs:Xq}{us:WY}{q:Key}{v:V},av vs us->Mi.lookI ks vs q=some v->∃u,Mi.lookI ks us q=some u/\RelV v u
 | [],vs,_,_,_,_,h=>by cases vs<;>cases h
 | k::ks,_,_,_,_,.nil,h=>by cases h
 | k::ks,_,_,q,d,.cons (a:=a) (b:=b) h1 h2,h=>by
  unfold Mi.lookI at h ⊢
  by_cases hk:k=q
  .rw[j_ hk]at h ⊢;cases h;exact⟨_,rfl,h1⟩
  .rw[k_ hk]at h ⊢;exact av.lookI h2 h
theorem eg:∀{ks:Xl}{xs:List α}{q:Key},xs.length=ks.length->(Mi.lookI ks xs q=none↔q∉ks)
 | [],xs,q,_=>by cases xs<;>simp[lookI]
 | k::ks,[],q,h=>by simp at h
 | k::ks,x::xs,q,h=>by
  unfold lookI
  by_cases hk:k=q
  .rw[j_ hk];simp[hk]
  .rw[k_ hk,eg (by simpa using h)];simp[Tg hk]
theorem z8{P P':Xa}{w w':Xe}{o:Obj}{kvs:List (Key×W9)}(e:hashStr w=hashStr w')(h:o.IsDictOf (aA P w) kvs):o.IsDictOf (aA P' w') kvs:=by
 obtain⟨es,ep,h1,h2,h3,h4,h5⟩:=h;have hk:∀k,Ih w k=Ih w' k:=λk=>by cases k with | inl i=>rfl | inr x=>exact congrFun e x
 refine⟨es,ep,h1,h2,λx hx=>?_,?_,h5⟩
 .obtain⟨k,a,b⟩:=h3 x hx;exact⟨k,a,b.trans (hk k)⟩
 .clear h5 h2 h3;generalize es.toList=l at h4
  induction h4 with
  | nil=>exact .nil
  | cons a b _ ih=>exact .cons a b ih
section
variable {X:Cx}{rg:Gr}{l r o:Xi}{fa fb:Fe}{ga gb:Gr}{pos p:Pos}{k:Nat}{th:Str->Int}
theorem zN{pins σ H s}{a:Xh}{ob:Obj}{ks:Xl}{vs:Xq}(I:Inv X pins σ H s)(hc:H a=some (.ext (oU a ob)))(hx:B3 (hashStr X.w) ob a ks vs) :
  ∃us,av vs us/\us.length=ks.length/\s.heap.get? a=some ob/\ob.IsDictOf (aA X.prog X.w) (ks.zip us)/\(a==sysModules)=false:=by
 obtain⟨h1,h2,h3,P,w,us,e,hv,dd⟩:=hx;exact⟨us,hv,by rw[<- av.length hv];exact h3,(show aV X.prog X.w H s.heap a (.ext (oU a ob))from I.hok a _ hc).1,z8 e.symm dd,h1⟩
theorem Hh{pins σ H s}{a:Xh}{ob:Obj}{ks:Xl}{vs:Xq}(I:Inv X pins σ H s)(hc:H a=some (.ext (oU a ob)))(hx:B3 (hashStr X.w) ob a ks vs) :
  ∃us,av vs us/\us.length=ks.length/\s.heap.DictOf (aA X.prog X.w) a (ks.zip us)/\(a==sysModules)=false:=by
 obtain⟨us,h1,h2,h3,h4,h5⟩:=zN I hc hx;exact⟨us,h1,h2,Heap.dictOf_iff.mpr ⟨ob,h3,h4⟩,h5⟩
theorem o5(a:Xh)(ob:Obj):∀h1 h2:Xd,oU a ob h1->(∀o,h1.get? a=some o->h2.get? a=some o)->oU a ob h2:=λ_ _ e k=>k _ e
def Jy:D->Option Key
 | .int i=>some (.inl i)
 | .str x=>some (.inr x)
 | _=>none
theorem xE{K:Fg}{Z H H0:Hp}{g:Gr}{d:D}{v:V}{q:Key}(h:Gd K Z H0 H g d v)(e:Jy d=some q):v=kV q:=by
 cases d<;>cases e
 .exact h.int
 .exact h.str
open Classical in
noncomputable def LM(th:Str->Int):D->Option (Xl×Xo)
 | .ix zD ks ds=>if zD=th then some (ks,ds)else none
 | _=>none
open Classical in
theorem tj(h:LM th d=some x):d=.ix th x.1 x.2:=by
 cases d<;>try cases h
 unfold LM at h;obtain⟨rfl,rfl⟩:=kX h
 rfl
open Classical in
theorem GR(th:Str->Int)(ks:Xl)(ds:Xo):LM th (.ix th ks ds)=some (ks,ds):=by show(if th=th then some (ks,ds)else none)=_;rw[j_ rfl]
noncomputable def zX(th:Str->Int)(x y:D):Xp:=(LM th x).bind λm=>(Jy y).bind λq=>lookI m.1 m.2 q
def GG(th:Str->Int):R2:=λx y H Q=>∃(a:Xh)(ob:Obj)(ks:Xl)(vs:Xq)(q:Key)(v:V),x=.ref a/\H a=some (.ext (oU a ob))/\B3 th ob a ks vs/\y=kV q/\lookI ks vs q=some v/\Q v H
theorem FQ(ho:PE X o td)(hi:PE X i ty)(hs:CA i):PE X (.Subscript o i pos) (Ey (GG (hashStr X.w)) td ty):=by
 intro pins s σ H Q I h;refine wy Wr.lookup hs (aZ (ho pins s σ H _ I h) λu s1 ⟨x,H1,I1,rx,q1⟩=>aZ (hi pins s1 σ H1 _ I1 q1) λiv s2 aC=>?_);obtain⟨y,H2,I2,ry,a,ob,ks,vs,q,v,ex,hc,hx,ey,hl,q2⟩:=aC;subst ex ey;obtain rfl:u=Value.ref a:=rx;obtain⟨us,hv,h1,dd,h2⟩:=Hh I2 hc hx;obtain⟨w',e1,e2⟩:=av.lookI hv hl;exact⟨dd.typeIs,wpAny_getItem_of (BA ry) dd.mapOf (by rw[g0];exact e1) ⟨v,H2,I2.tok _,e2,q2⟩⟩
theorem IU{K:Fg}{th:Str->Int}:ck K .cl (zX th) (GG th):=λ{Z H x y dx dy d Q} s h1 h2 e kq=>by
 obtain⟨m,e1,e⟩:=b_.mp e;obtain⟨q,e2,e3⟩:=b_.mp e;cases tj e1;rcases h1 with h1 | ⟨_,_,_,_,e,_⟩ | ⟨_,_,_,e,_⟩ | ⟨_,_,_,_,_,e,_⟩
 .obtain⟨a,ob,vs,rfl,hc,hx,rr⟩:=h1;obtain⟨v,e4,e5⟩:=ak.lookI rr e3;exact⟨a,ob,m.1,vs,q,v,rfl,s _ _ hc,hx,xE h2 e2,e4,kq v Z H (Ex.refl s) e5⟩
 .cases e
 .cases e
 .cases e
theorem JN(hw:th=hashStr X.w)(ha:PD X ga l fa)(hb:PD X gb r fb)(hs:CA r:=by intro _ _;rfl):PD X .cl (.Subscript l r pos) (ao (zX th) fa fb):=by
 subst hw;exact PE.imp (FQ ha hb hs) λ_ _ _ h=>fU IU h
theorem FP:PE X (.Dict [] [] pos) (λσ H Q=>∀a ob,H a=none->B3 (hashStr X.w) ob a [] []->Q (.ref a) (upd H a (.ext (oU a ob)))):=λpins s σ H Q I hT=>by
 have hf:=I.hok.fresh (h_ s.sz);have hg:=n_ s.heap (o:={cls:=.type "dict",data:=.dict #[]}) rfl;have hx:B3 (hashStr X.w) {cls:=.type "dict",data:=.dict #[]} s.sz [] []:=⟨by have:=I.big;simpa using (T7 this),by simp,rfl,X.prog,X.w,[],rfl,.nil,#[],0,⟨rfl,rfl,rfl⟩,rfl,λe he=>by simp at he,.nil,by simp⟩;exact wpAny_Dict_empty ⟨.ref s.sz,_,I.laid (o:=.ext (oU s.sz {cls:=.type "dict",data:=.dict #[]})) (λ_ _ q=>e_ _ q) (h_ _) ⟨hg,⟨_,hg⟩,o5 _ _⟩,rfl,hT _ _ hf hx⟩
def MC(th:Str->Int)(i:Nat):Fs:=λenv=>some (.nx (env.set i (.O (.I th [] []))))
theorem Hv(i:Nat)(hw:th=hashStr X.w)(hN:X.N.Nodup)(hi:X.N[i]?=some x:=by rfl)(hx:Loc X.env.scope x:=by first | exact Or.inl rfl | exact Or.inr rfl)(hs:swapsWith (.Dict [] [] p) (some (.Name x pos')) pos.line X.env=pure false:=by rfl)
  (hf:X.fn x=true\/X.env.scope.names.lookup x=some .local:=by first | exact .inl rfl | exact .inr rfl | assumption):SD X rg (.Assign [.Name x pos'] (.Dict [] [] p) pos) (MC th i):=PS.imp (fK hN hi hx FP hs hf) λE σ H h=>by
 subst hw;obtain⟨env,B,Z,o,R,e,k⟩:=h;cases e;intro a ob ha hx;have x1:Ex Z H Z (upd H a (.ext (oU a ob))):=Ex.newL R.zh ha;refine k _ Z _ (x1.part R.bh) ((R.ext x1).setO i (R.bh.free ha) (R.zh.free ha) ai (show bU X.K Z a (.I _ [] []) _ from⟨ob,[],rfl,hx,rfl⟩) λj es hj hje hja=>?_);obtain⟨y,e4,b,us,e5,e6,_⟩:=R.sl j _ hje;rw[hja]at e4;cases e4;cases e5;rw[ha]at e6;cases e6
def Lh(th:Str->Int)(td ty tx:TE):TE:=λσ H Q=>td σ H λx H1=>∃a ob ks vs,x=.ref a/\H1 a=some (.ext (oU a ob))/\B3 th ob a ks vs/\ty σ H1 λy H2=>tx σ H2 λz H3=>∃q:Key,H3 a=some (.ext (oU a ob))/\y=kV q/\ks.length<16000000/\
 (∀v,lookI ks vs q=some v->Q v H3)/\(q∉ks->∀Dz,B3 th Dz a (ks++[q]) (vs++[z])->Q z (upd H3 a (.ext (oU a Dz))))
theorem AN:∀{ks:List α}{us:List β}(_:us.length=ks.length)(q:α)(u:β),(ks++[q]).zip (us++[u])=ks.zip us++[(q,u)]:=λ{ks us} h q u=>by
 rw[List.zip_append h.symm];rfl
theorem EB(ho:PE X o td)(he:PE X e ty)(hf:PE X f tx)(m:M2 X o "setdefault" apos e f be):PE X (.Call (.Attribute o "setdefault" apos) [e,f] [] be) (Lh (hashStr X.w) td ty tx):=by
 intro pins s σ H Q I h;refine wpAny_Call_method m.base m.few m.line PySem.F.plainAttrs_dict T6 V6 (aZ (ho pins s σ H _ I h) λu s1 aC=>?_);obtain⟨x,H1,I1,rx,a,ob,ks,vs,ex,hc1,hx,q1⟩:=aC;subst ex;obtain rfl:u=Value.ref a:=rx;obtain⟨us,hv,h1,h2,h3,nU⟩:=zN I1 hc1 hx;have t1:s1.TypeIs (.ref a) "dict":=by obtain⟨es,ep,e1,_⟩:=h3;exact⟨ob,h2,e1.1⟩
 have t2:∀b,Value.ref a=.ref b->∃ob,s1.heap.get? b=some ob/\ob.dict=none:=λb q=>by
  cases q;obtain⟨es,ep,e1,_⟩:=h3;exact⟨ob,h2,e1.2.1⟩
 refine⟨t1,t2,?_⟩;rw[m.trees];refine UO rfl (VU (UL (aZ (he pins s1 σ H1 _ I1 q1) λiv s2 ⟨y,H2,I2,ry,q2⟩=>UL (aZ (hf pins s2 σ H2 _ I2 q2) λfv s3 aC=>Wu ?_))));obtain⟨z,H3,I3,rz,q,hc,ey,hl,q3,q4⟩:=aC;subst ey;obtain⟨us,hv,h1,dd,nU⟩:=Hh I3 hc hx;have hlz:(ks.zip us).length=ks.length:=by rw[V7,h1];exact WH _
 refine call_meetsIn T6 dd.typeIs V1 (VP _ _ _) (PySem.kt_meets_setdefault (aA X.prog X.w) a (BA ry) nU fv) ⟨_,dd,by rw[hlz,Sz];lia,λv' Dx=>?_,λhn h' dd' hs'=>?_⟩
 .rw[g0]at Dx;have QD:vs.length=ks.length:=by rw[av.length hv];exact h1
  cases e:lookI ks vs q with
  | none=>
   have:=(eg QD).mp e;have h0:=(eg (xs:=us) (q:=q) h1).mpr this;rw[h0]at Dx;cases Dx
  | some v=>
   obtain⟨w',e1,e2⟩:=av.lookI hv e;rw[Dx]at e1;cases e1;exact⟨v,H3,I3.tok _,e2,q3 v e⟩
 .rw[g0]at hn;have hnq:=(eg h1).mp hn;have e0:((ks.zip us).any λkv=>decide (kv.1=q))=false:=by
   rw[List.any_eq_false];intro kv hkv hq;exact hnq (by rw[<- Sw hq];exact(US (show(kv.1,kv.2)∈ks.zip us from hkv)).1)
  have e1:stored (ks.zip us) q fv=((ks++[q]).zip (us++[fv])):=by
   unfold stored;rw[k_ (by rw[e0];exact P_),AN h1]
  rw[e1]at dd';obtain⟨Dz,g1,g2⟩:=Heap.dictOf_iff.mp dd';have jI:B3 (hashStr X.w) Dz a (ks++[q]) (vs++[z]):=⟨nU,by rw[r_];simp;lia,by rw[r_,r_,av.length hv,h1];rfl,X.prog,X.w,us++[fv],rfl,av.append hv (.cons rz .nil),g2⟩;exact⟨z,upd H3 a (.ext (oU a Dz)),I3.write (by rw[hc];exact True.intro) (.inl rfl) (λb u hb z=>(hs'.2 b hb).trans z) ⟨Dz,g1⟩ ⟨g1,⟨Dz,g1⟩,o5 _ _⟩,rz,q4 hnq Dz jI⟩
open Classical in
noncomputable def H8(th:Str->Int)(i:Nat)(fk fx:Fe):Fs:=λenv=>(fk env).bind λkd=>(fx env).bind λd=>(Jy kd).bind λq=>match env[i]? with
 | some (.O (.I zD ks ds))=>if zD=th/\ks.length<16000000/\ds.length=ks.length then some (.nx (env.set i (.O (if q∈ks then .I th ks ds else .I th (ks++[q]) (ds++[d])))))else none
 | _=>none
open Classical in
theorem JB(i:Nat)(hw:th=hashStr X.w)(hk:PD X .cl ke fk)(hx:PD X .cl ve fx)(hN:X.N[i]?=some x:=by rfl)(Ho:xy X.env.scope x:=by first | exact Or.inl rfl | exact Or.inr (Or.inl rfl) | exact Or.inr (Or.inr rfl))
  (hd:(x==("__debug__":Str))=false:=by decide) (dO:(x==("__classdict__":Str))=false:=by decide)
  (h1:attributeBase (.Name x px) "setdefault" X.env (eval (.Name x px) X.env)=eval (.Name x px) X.env:=by rfl) (h2:((backTo be (starEach [ke,ve] X.env)).all (λx=>!x.1)&&(backToKw be (keywordEach [] X.env)).all (λx=>x.1.isSome)
   && decide (([ke,ve]:W3).length+([]:List Keyword).length+(if([]:List Keyword).isEmpty then 0 else 1)<30))=true:=by rfl) (h3:(apos.endLine==be.line)=true:=by rfl)
  (h4:backTo be (starEach [ke,ve] X.env)=[(false,eval ke X.env),(false,eval ve X.env)]:=by rfl)
  (hs:swapsWith (.Call (.Attribute (.Name x px) "setdefault" apos) [ke,ve] [] be) none pos.line X.env=pure false:=by rfl) :
  SD X rg (.Expr (.Call (.Attribute (.Name x px) "setdefault" apos) [ke,ve] [] be) pos) (H8 th i fk fx):=by
 subst hw;refine PS.imp (jE (EB (bH hN Ho hd dO) hk hx ⟨h1,h2,h3,h4⟩) hs) λE σ H aC=>?_;refine cN λ_ kg=>?_;obtain⟨env,B,Z,o,R,e,kq⟩:=aC;obtain⟨kd,e1,e⟩:=b_.mp e;obtain⟨d,e2,e⟩:=b_.mp e;obtain⟨q,e7,e⟩:=b_.mp e
 split at e
 .rename_i zD ks ds hi;obtain⟨⟨rfl,hlen,Gj⟩,rfl⟩:=kX e;obtain⟨y,e3,c,o,e4,e5,e6,ob,vs,rfl,hx,rr⟩:=R.sl i _ hi;subst e4;refine kg ⟨_,e3,c,ob,ks,vs,rfl,e5,hx,env,B,Z,kd,R,e1,λkv Z1 H1 x1 g1=>⟨env,B,Z1,d,R.ext x1,e2,λv Z2 H2 x2 g2=>?_⟩⟩;clear kg;have R2:=(R.ext x1).ext x2;have x0:=x1.trans x2;refine⟨q,x2.h _ _ (x1.h _ _ e5),xE (show Gd X.K Z1 H H1 .cl kd kv from g1) e7,hlen,λu hu=>?_,λhn Dz jI=>?_⟩
  .have hin:q∈ks:=Us λz=>by
    rw[(eg hx.2.2.1).mpr z]at hu;cases hu
   rw[j_ hin]at kq;have he:env.set i (.O (.I (hashStr X.w) ks ds))=env:=by
    refine Uw λj=>?_
    by_cases hj:i=j
    .subst hj;rw[v_ (i_.mp hi).1,hi]
    .rw[p_ hj]
   rw[he]at kq;exact kq σ Z2 H2 (x0.part R.bh) R2
  .rw[k_ hn]at kq;obtain⟨R3,x3⟩:=R2.wr hi e3 (show bU X.K _ c (.I (hashStr X.w) (ks++[q]) (ds++[d])) _ from⟨Dz,_,rfl,jI,(ak.mono x0.z ds rr).app (ak.one g2)⟩);exact kq σ _ _ ((x0.part R.bh).transB x3) R3
 .cases e
def Ra(a:Xh)(ob:Obj)(ks:Xl):It:=⟨λi H=>H a=some (.ext (oU a ob))/\i<ks.length,λi H x H'=>H'=H/\∀q,ks[i]?=some q->x=kV q,λi H=>H a=some (.ext (oU a ob))/\ks.length<=i⟩
theorem ml{P:Xa}{w:Xe}:∀{es:List DictEntry}{kvs:List (Key×W9)},Pairs (aA P w) es kvs->∀{i:Nat}{en:DictEntry},es[i]?=some en->∃kv,kvs[i]?=some kv/\ip kv.1 en.key=true
 | _,_,.nil,i,en,h=>by simp at h
 | _,_,.cons a b r,0,en,h=>by simp at h;subst h;exact⟨_,rfl,a⟩
 | _,_,.cons a b r,i+1,en,h=>by simpa using ml r (i:=i) (by simpa using h)
theorem yn{q:Key}{u:W9}(h:ip q u=true):RelV (kV q) u:=by
 rcases aW h with ⟨i,t,rfl,rfl⟩ | ⟨x,t,rfl,rfl⟩
 .exact⟨t,rfl⟩
 .exact⟨t,rfl⟩
theorem yo{P:Xa}{w:Xe}{K:Fg}{tg:Xi}{it a:Xh}{ob:Obj}{ks:Xl}{us:WY}{es:Array DictEntry}{ep:Nat}(hd:ob.data=.dict es ep)(hp:Pairs (aA P w) es.toList (ks.zip us))(hl:us.length=ks.length) :
  Turn P w K tg (Ra a ob ks) [it] it (λn h=>h.IsKeyIter it a n es.size ep) where
 mem:=by simp
 obj:=λi h st b hb=>by
  have e:b=it:=by simpa using hb
  subst e;obtain⟨o,e,c,d⟩:=st;exact⟨o,e,λv z=>by rw[d]at z;cases z⟩
 keep:=λi h h' st k=>st.at λo e=>k it (by simp) o e
 item:=by
  intro X hP hw hK hc i pins s σ H E I hf st hg;subst hP hw hK;obtain⟨ha,hi⟩:=hg;have h1:s.heap.get? a=some ob:=(show aV X.prog X.w H s.heap a (.ext (oU a ob))from I.hok a _ ha).1;have hsz:es.size=ks.length:=by rw[<- Sv,hp.length,V7,hl];exact WH _
  obtain⟨f0,f1,f2,f3,f4,f5⟩:=hf it (by simp);refine l' st h1 hd (by rw[hsz];exact hi) λh' lS sb=>?_;have I1:Inv X pins σ H {s with heap:=h'}:=I.turned (t':=s.toks) (λb o hb e=>(sb.2 b hb).trans e) f0 f1 f3 f4 f5;obtain⟨o,e,c,d⟩:=id lS;obtain⟨kv,e2,e3⟩:=ml hp (i:=i) (en:=es[i]'(by rw[hsz];exact hi)) (by simp[hsz,hi]);have e4:ks[i]?=some kv.1:=(Te.mp (show(ks.zip us)[i]?=some (kv.1,kv.2)from e2)).1;exact⟨_,rfl,tL (s:={s with heap:=h'}) e c d (by decide) ⟨kV kv.1,H,I1,yn e3,⟨rfl,λq hq=>by rw[e4]at hq;cases hq;rfl⟩,lS,λb hb=>(hf b hb).1⟩⟩
 done:=by
  intro X hP hw hK hc i pins s σ H E I hf st hg;subst hP hw hK;obtain⟨ha,hi⟩:=hg;have h1:s.heap.get? a=some ob:=(show aV X.prog X.w H s.heap a (.ext (oU a ob))from I.hok a _ ha).1;have hsz:es.size=ks.length:=by rw[<- Sv,hp.length,V7,hl];exact WH _
  obtain⟨f0,f1,f2,f3,f4,f5⟩:=hf it (by simp);exact qV (I.ok.hd hc) st h1 hd (by rw[hsz];exact hi) λh' eb=>⟨rfl,I.turned (t':=s.toks) (λb o hb e=>eb b o hb e) f0 f1 f3 f4 f5⟩
 self:=λ_ _ _ _ _ st h=>V0 st h
def L8(th:Str->Int)(td:TE):TI:=λσ H R=>td σ H λx H1=>∃(a:Xh)(ob:Obj)(ks:Xl)(vs:Xq),x=.ref a/\H1 a=some (.ext (oU a ob))/\B3 th ob a ks vs/\R (Ra a ob ks) H1
theorem F1{l:Xi}{tl:TE}(hl:PE X l tl):PI X tg l (L8 (hashStr X.w) tl):=by
 intro pins s σ H R I h;refine aZ (hl pins s σ H _ I h) λv s1 ⟨x,H1,I1,r1,q1⟩=>?_;obtain⟨a,ob,ks,vs,e,hc,hx,q⟩:=q1;subst e;cases r1;obtain⟨us,hv,h1,h2,⟨es,ep,e1,e2,e3,e4,e5⟩,nU⟩:=zN I1 hc hx;refine ng nU h2 e1 e2 ?_;refine⟨s1.heap.objs.size,[s1.heap.objs.size],_,_,H1,rfl,I1.kept (t':=s1.toks) λb o e=>e_ _ e,yo e2 e4 h1,⟨_,n_ _ rfl,rfl,rfl⟩,λb hb=>?_,q⟩;have e:b=s1.heap.objs.size:=by simpa using hb
 subst e;exact I1.fpOk (h_ _) (I1.hok.fresh (h_ _))
noncomputable def Oa(th:Str->Int)(f:Fe):Fi:=λenv=>(f env).bind λd=>(LM th d).bind λm=>if BJ m.1=true then some (m.1.map kD)else none
theorem IZ(hw:th=hashStr X.w)(h:PD X .cl l f):ID X tg l (Oa th f):=by
 subst hw;refine PI.imp (F1 h) λσ H R aC=>?_;refine cN λ_ kq=>?_;obtain⟨env,B,Z,ds,Rr,e,k⟩:=aC;obtain⟨d,e1,e2⟩:=b_.mp e;obtain⟨m,e3,e4⟩:=b_.mp e2;obtain⟨hk,rfl⟩:=kX e4;cases tj e3;refine kq (⟨env,B,Z,_,Rr,e1,λv Z1 H1 x1 g1=>?_⟩);clear kq;obtain⟨a,ob,vs,rfl,hc,hx,rr⟩:=g1;refine⟨a,ob,m.1,vs,rfl,x1.zh _ _ hc,hx,k _ Z1 H1 x1 λZ' H' s1 s2 i=>?_⟩;have ha:=(s1.trans s2) _ _ hc;rw[c_];refine⟨λhi=>⟨⟨ha,hi⟩,λx H'' y=>?_⟩,λhi=>⟨ha,hi⟩⟩;obtain⟨rfl,y⟩:=y;have e5:=y m.1[i] (by simp[hi]);refine⟨Z',kD m.1[i],Ex.refl s2,by simp[hi],?_⟩;rw[e5];have:=M_.mp hk m.1[i] (Ts hi);cases hh:m.1[i]with
 | inl j=>rfl
 | inr z=>rw[hh]at this;exact⟨rfl,this⟩
end
end Mi
namespace St
open PySem PySem.Spec PyProof.Rows PyProof.V
theorem bT:Slot "set_iterator" "__next__" "set_iterator.__next__":=
 .of (owner:="set_iterator") (n:="__next__") (by rw[typeLookup_type,builtinLookup_eq_fast];kernel_rfl) (by decide +kernel) (by decide +kernel) (by decide +kernel)
  (by first | exact .inl (by decide +kernel) | exact .inr (by decide +kernel)) (by rw[isSubtype_type];kernel_rfl)
theorem ji:Slot "set_iterator" "__iter__" "set_iterator.__iter__":=
 .of (owner:="set_iterator") (n:="__iter__") (by rw[typeLookup_type,builtinLookup_eq_fast];kernel_rfl) (by decide +kernel) (by decide +kernel) (by decide +kernel)
  (by first | exact .inl (by decide +kernel) | exact .inr (by decide +kernel)) (by rw[isSubtype_type];kernel_rfl)
theorem iz:entryFor table "set_iterator.__next__"=some Builtin.«set_iterator.__next__»:=entryFor_of_tree (by kernel_rfl)
theorem n3:entryFor table "set_iterator.__iter__"=some Builtin.«dict_keyiterator.__iter__»:=entryFor_alias (id':="dict_keyiterator.__iter__") (by kernel_rfl) rfl (by decide +kernel) (by kernel_rfl)
theorem nu:entryFor table "set.__iter__"=some Builtin.«frozenset.__iter__»:=entryFor_alias (id':="frozenset.__iter__") (by kernel_rfl) rfl (by decide +kernel) (by kernel_rfl)
theorem tW:Manifest.owners.lookup (String.ofList ['r','o','t','a','r','e','t','i','_','t','e','s'].reverse)=some Manifest.sig_set_iterator:=by kernel_rfl
theorem jt(a:W9):argsOk "set_iterator.__next__" ⟨[a],[]⟩:=by
 unfold argsOk;rw[signature?_of (id:="set_iterator.__next__") (n:=['_','_','t','x','e','n','_','_']) (o:=['r','o','t','a','r','e','t','i','_','t','e','s']) (by kernel_rfl) tW];kernel_rfl
theorem qg(a:W9):argsOk "set_iterator.__iter__" ⟨[a],[]⟩:=by
 unfold argsOk;rw[signature?_of (id:="set_iterator.__iter__") (n:=['_','_','r','e','t','i','_','_']) (o:=['r','o','t','a','r','e','t','i','_','t','e','s']) (by kernel_rfl) tW];kernel_rfl
def gg(w:Xe)(a:Xh)(ep:Nat)(es:Array (Int×W9)):Array (Int×W9):=if w.params.followText "set-order"=true then pickOrder (w.params.setOrder a ep) es else es
theorem mX{α:Type}:∀{l:List α}{i:Nat}(h:i<l.length),(l[i]::l.eraseIdx i).Perm l
 | x::l,0,h=>List.Perm.refl _
 | x::l,i+1,h=>by
  have h':i<l.length:=by simpa using h
  exact(List.Perm.swap ..).trans ((mX h').cons x)
theorem oR{α:Type}(f:Nat->Nat):∀(n k:Nat)(left:List α)(out:Array α),left.length=n->(pickOrder.go f n k left out).toList.Perm (out.toList++left)
 | 0,k,left,out,h=>by
  rw[T5.mp h,SC];exact List.Perm.refl _
 | n+1,k,left,out,h=>by
  have hi:f k%left.length<left.length:=Wh _ (by lia);unfold pickOrder.go;rw[f_ hi];refine(oR f n (k+1) _ _ (by rw[List.length_eraseIdx_of_lt hi];lia)).trans ?_;rw[Array.toList_push,T1];exact List.Perm.append_left _ (mX hi)
theorem hV(w:Xe)(a:Xh)(ep:Nat)(es:Array (Int×W9)):(gg w a ep es).toList.Perm es.toList:=by
 unfold gg
 split
 .exact oR _ _ _ _ _ (by simp)
 .exact List.Perm.refl _
structure K'(w:World)(a:Addr)(o:Obj)(es:Array (Int×Value))(ep:Nat)(t:SetTable):Prop where
 ex:o.ExactSet
 dat:o.data=.set es ep t
 ok:Ok t (es.toList.map (·.1))
 led:t.led=!w.params.followText "set-order"
 pl:t.plain=true
section
variable {prog:Xa}{w:Xe}{A:Xb}{E:WR}{s:W_}{a it:Xh}{o:Obj}{es:Array (Int×W9)}{ep:Nat}{t:SetTable}
theorem K'.fits(W:K' w a o es ep t):t.fits es.size=true:=fits_of W.ok (by have:=W.ok.len;simpa using this)
def slotAt(t:SetTable)(i:Nat):Nat:=match i with
 | 0=>0
 | j+1=>t.place.getD j 0+1
def yt(h:Xd)(it a:Xh)(n ep:Nat)(w:Xe)(t:SetTable)(i:Nat):Prop:=h.get? it=some {cls:=.type "set_iterator",data:=.fields #[.int (if w.params.followText "set-order"=true then 0 else slotAt t i:Nat) 0,.int i 0,.ref a,.int n 0,.int ep 0]}
theorem Ee(W:K' w a o es ep t)(ho:s.heap.get? a=some o)(hQ:Q (.ref s.heap.objs.size) {s with heap:=s.heap.push {cls:=.type "set_iterator",data:=.fields #[.int 0 0,.int 0 0,.ref a,.int es.size 0,.int ep 0]}}):wpAny (model prog w) A (pyIter (.ref a)) Q E s:=by
 have hT:s.TypeIs (.ref a) "set":=⟨o,ho,W.ex.1⟩;refine WA hT F.slot_set_iter (SA F.slot_set_iter hT nu ?_ (F.args_set_iter_1 _));unfold Builtin.«frozenset.__iter__» Builtin.Frozenset.slot0 Builtin.Frozenset.sizeOf;refine a_ (a_ (d_ ?_));show wpAny _ _ (pure a) _ _ s;refine d_ ?_;unfold setEntries setDrawn setEpoch;refine a_ (a_ (a_ (SN ho W.dat W.fits (d_ (d_ ?_)))));refine a_ (a_ (SN ho W.dat W.fits ?_));unfold setsByText;refine a_ (a_ (Tt (d_ ?_)));refine d_ ?_;have e0:∀b:Bool,(b&&(!t.plain&&decide (es.size>1)))=false:=λb=>by rw[W.pl];cases b<;>rfl
 show wpAny _ _ (if(!(w.params.followText "set-order")&&(!t.plain&&decide (es.size>1)))=true then _ else _) _ _ s;rw[e0,k_ P_];refine a_ (d_ (a_ (a_ (SN ho W.dat W.fits (d_ (a_ (S5 ?_)))))));exact d_ ⟨_,rfl,"set_iterator",_,⟨_,n_ _ rfl,rfl⟩,bT.lookup,hQ⟩
theorem nr(W:K' w a o es ep t)(i:Nat)(hi:i<=es.size):SetTable.below t.place (slotAt t i)=i:=by
 have hz:t.place.size=es.size:=by have:=W.ok.len;simpa using this
 obtain⟨h1,h2,h3⟩:=nj t.place (slotAt t i) W.ok.up;generalize SetTable.below t.place (slotAt t i)=r at *;have hl:t.place.toList.length=es.size:=by simpa using hz
 cases i with
 | zero=>
  cases r with
  | zero=>rfl
  | succ r=>exact absurd (h2 t.place.toList[0] (Up.mpr ⟨0,by lia,rfl⟩)) (UT _)
 | succ j=>
  have hj:j<t.place.toList.length:=by lia
  have e:slotAt t (j+1)=t.place.toList[j]+1:=by
   show t.place.getD j 0+1=_;have:j<t.place.size:=by lia
   simp[Array.getD,this]
  rw[e]at h2 h3;rcases Wt r (j+1)with hlt | rfl | hgt
  .have:=h3 t.place.toList[j] (U9.mpr ⟨j-r,by lia,by congr 1;lia⟩)
   lia
  .rfl
  .have KG:j+1<t.place.toList.length:=by lia
   have a1:=h2 t.place.toList[j+1] (Up.mpr ⟨j+1,by lia,rfl⟩);have a2:=SR.mp W.ok.up j (j+1) hj KG (by lia)
   lia
theorem DK(W:K' w a o es ep t)(hi:yt s.heap it a es.size ep w t i)(ho:s.heap.get? a=some o)(hlt:i<es.size)
  (hQ:∀h' v,(∃k,(gg w a ep es)[i]?=some (k,v))->yt h' it a es.size ep w t (i+1)->Heap.SameBut it s.heap h'->Q (some v) {s with heap:=h'}):wpAny (model prog w) A (pyNext (.ref it)) Q E s:=by
 have hT:s.TypeIs (.ref it) "set_iterator":=⟨_,hi,rfl⟩;unfold pyNext;refine a_ (UX (S1 (name:="__next__") hT bT (SA bT hT iz ?_ (jt _))));refine a_ (d_ (a_ (Wm hi rfl ?_)));show wpAny _ _ (setEntries a >>= _) _ _ s;unfold setEntries;refine a_ (a_ (SN ho W.dat W.fits (d_ ?_)));show wpAny _ _ (if(((es.size:Int) != (es.size:Int))=true)then _ else _) _ _ s;rw[k_ (by simp)];have hz:t.place.size=es.size:=by have:=W.ok.len;simpa using this
 have e0:∀b:Bool,(b&&(!t.plain&&decide (es.size>1)))=false:=λb=>by rw[W.pl];cases b<;>rfl
 have go:∀(x:W9)(nx:Nat),(∃k,(gg w a ep es)[i]?=some (k,x))->(nx=if w.params.followText "set-order"=true then 0 else slotAt t (i+1))->
   ∀{R:Fin->W_->Prop}{E':WR},(∀h',yt h' it a es.size ep w t (i+1)->Heap.SameBut it s.heap h'->R (.done (.ret x)) {s with heap:=h'})->
   wpAny (model prog w) A.in1 (do setField (.ref it) 0 (rawInt nx);setField (.ref it) 1 (rawInt ((i:Int)+1));ret x) R E' s:=λx nx hx hn R E' hR=>by
  refine a_ (Tq hi (by simp) λg1 e1 s1=>?_);refine a_ (Tq e1 (by simp) λg2 e2 s2=>?_);refine d_ (hR g2 ?_ (s1.trans s2));unfold yt;rw[<- hn];simpa [rawInt]using e2
 unfold setNext setsByText;refine a_ (a_ (SN ho W.dat W.fits (a_ (a_ (Tt (d_ ?_))))));have CU:(gg w a ep es).size=es.size:=by have:=(hV w a ep es).length_eq;simpa using this
 have La:(gg w a ep es)[i]?=some ((gg w a ep es)[i]'(by rw[CU];exact hlt)):=by simp[CU,hlt]
 by_cases hb:w.params.followText "set-order"=true
 .show wpAny _ _ (if w.params.followText "set-order"=true then _ else _) _ _ s;rw[j_ hb];dsimp only;rw[k_ (by simp)];unfold setWalk setsByText;refine a_ (a_ (SN ho W.dat W.fits (a_ (a_ (Tt (d_ ?_))))));show wpAny _ _ (if w.params.followText "set-order"=true then _ else _) _ _ s;rw[j_ hb];refine a_ (Tt (d_ (d_ ?_)));show wpAny _ _ (match Option.map (_:Int×W9->W9×Nat) (pickOrder (w.params.setOrder a ep) es)[i]? with | some (x,next)=>_ | none=>_) _ _ s;have e1:pickOrder (w.params.setOrder a ep) es=gg w a ep es:=by unfold gg;rw[j_ hb]
  rw[e1,La];exact go _ _ ⟨_,La⟩ (by simp[hb]) λh' q1 q2=>⟨_,rfl,d_ (hQ h' _ ⟨_,La⟩ q1 q2)⟩
 .show wpAny _ _ (if w.params.followText "set-order"=true then _ else _) _ _ s;rw[k_ hb];show wpAny _ _ (if(!t.plain&&decide (es.size>1))=true then _ else _) _ _ s;rw[k_ (by rw[W.pl];exact P_)];show wpAny _ _ ((if(!t.led&&!es.isEmpty)=true then unsupported _ else pure ()) >>= _) _ _ s;rw[k_ (by rw[W.led];simp[hb])];refine a_ (d_ (d_ ?_));show wpAny _ _ (match (match es[SetTable.below t.place (((if w.params.followText "set-order"=true then 0 else slotAt t i:Nat):Int)).toNat]?,t.place[SetTable.below t.place (((if w.params.followText "set-order"=true then 0 else slotAt t i:Nat):Int)).toNat]? with | some (_,x),some j=>some (x,j+1) | _,_=>none)with | some (x,next)=>_ | none=>_) _ _ s;have e1:gg w a ep es=es:=by unfold gg;rw[k_ hb]
  have e2:t.place[i]?=some (t.place[i]'(by rw[hz];exact hlt)):=by simp[hz,hlt]
  have hei:es[i]?=some ((gg w a ep es)[i]'(by rw[CU];exact hlt)):=by rw[<- La,e1]
  rw[k_ hb,SO,nr W i (TR hlt),e2,hei];refine go _ _ ⟨_,La⟩ ?_ λh' q1 q2=>⟨_,rfl,d_ (hQ h' _ ⟨_,La⟩ q1 q2)⟩;rw[k_ hb];show _=t.place.getD i 0+1;simp[Array.getD,hz,hlt]
theorem IJ(hh:A.handled=none)(W:K' w a o es ep t)(hi:yt s.heap it a es.size ep w t es.size)(ho:s.heap.get? a=some o)
  (hQ:∀h',Heap.ExtBut it s.heap h'->Q none {s with heap:=h'}):wpAny (model prog w) A (pyNext (.ref it)) Q E s:=by
 have hT:s.TypeIs (.ref it) "set_iterator":=⟨_,hi,rfl⟩;unfold pyNext;refine a_ (UX (S1 (name:="__next__") hT bT (SA bT hT iz ?_ (jt _))));refine a_ (d_ (a_ (Wm hi rfl ?_)));show wpAny _ _ (setEntries a >>= _) _ _ s;unfold setEntries;refine a_ (a_ (SN ho W.dat W.fits (d_ ?_)));show wpAny _ _ (if(((es.size:Int) != (es.size:Int))=true)then _ else _) _ _ s;rw[k_ (by simp)];have hz:t.place.size=es.size:=by have:=W.ok.len;simpa using this
 have fin:∀{R:Fin->W_->Prop}{E':WR},(∀h' e ob,Heap.ExtBut it s.heap h'->h'.get? e=some ob->ob.cls=.type "StopIteration"->E' (.ref e) {s with heap:=h'})->
   wpAny (model prog w) A.in1 (do setField (.ref it) 2 .none;raiseNew (<- newExc (.type "StopIteration") [])) R E' s:=λhE=>by
  refine a_ (TU hi rfl (by simp) ?_);show wpAny _ _ (newExc (.type "StopIteration") [] >>= _) _ _ _;simp only[newExc,newTuple];refine a_ (a_ (S5 (a_ (VV (by first | rfl | (simp only[firstArgMember];rfl)) (S5 ?_ (by size_fits)))) (by size_fits)));simp only[raiseNew];refine a_ (wpAny_handled ?_);rw[show A.in1.handled=none from hh];exact a_ (d_ (wpAny_throw (hE _ _ _ (((SJ ..).extBut.push _).push _) (n_ _ rfl) rfl)))
 have out:∀h' e ob,Heap.ExtBut it s.heap h'->h'.get? e=some ob->ob.cls=.type "StopIteration"->wpAny (model prog w) A (do if <- isInstance (.ref e) (.type "StopIteration")then pure none else throw (.ref e)) Q E {s with heap:=h'}:=λh' e ob q1 q2 q3=>
  a_ (Uc ⟨ob,q2,q3⟩ isSubtype_stop (d_ (hQ _ q1)))
 have CU:(gg w a ep es).size=es.size:=by have:=(hV w a ep es).length_eq;simpa using this
 unfold setNext setsByText;refine a_ (a_ (SN ho W.dat W.fits (a_ (a_ (Tt (d_ ?_))))))
 by_cases hb:w.params.followText "set-order"=true
 .show wpAny _ _ (if w.params.followText "set-order"=true then _ else _) _ _ s;rw[j_ hb];dsimp only;rw[k_ (by simp)];unfold setWalk setsByText;refine a_ (a_ (SN ho W.dat W.fits (a_ (a_ (Tt (d_ ?_))))));show wpAny _ _ (if w.params.followText "set-order"=true then _ else _) _ _ s;rw[j_ hb];refine a_ (Tt (d_ (d_ ?_)));show wpAny _ _ (match Option.map (_:Int×W9->W9×Nat) (pickOrder (w.params.setOrder a ep) es)[es.size]? with | some (x,next)=>_ | none=>_) _ _ s;have e1:pickOrder (w.params.setOrder a ep) es=gg w a ep es:=by unfold gg;rw[j_ hb]
  rw[e1,Td (by lia)];exact fin out
 .show wpAny _ _ (if w.params.followText "set-order"=true then _ else _) _ _ s;rw[k_ hb];show wpAny _ _ (if(!t.plain&&decide (es.size>1))=true then _ else _) _ _ s;rw[k_ (by rw[W.pl];exact P_)];show wpAny _ _ ((if(!t.led&&!es.isEmpty)=true then unsupported _ else pure ()) >>= _) _ _ s;rw[k_ (by rw[W.led];simp[hb])];refine a_ (d_ (d_ ?_));show wpAny _ _ (match (match es[SetTable.below t.place (((if w.params.followText "set-order"=true then 0 else slotAt t es.size:Nat):Int)).toNat]?,t.place[SetTable.below t.place (((if w.params.followText "set-order"=true then 0 else slotAt t es.size:Nat):Int)).toNat]? with | some (_,x),some j=>some (x,j+1) | _,_=>none)with | some (x,next)=>_ | none=>_) _ _ s;rw[k_ hb,SO,nr W es.size (h_ _),Td (h_ _)];exact fin out
theorem Bz(hT:s.TypeIs (.ref a) "set"){Q:Bool->W_->Prop}(h:Q false s):wpAny (model prog w) A (Builtin.List.listLengthHint (.ref a)) Q E s:=by
 unfold Builtin.List.listLengthHint;refine a_ (TH hT PySem.F.slot_set_len.lookup ?_);generalize hid:("set.__len__":String)=id0
 wp_delta
 rw[show splitId id0=some ("set","__len__")from by subst hid;decide +kernel];subst hid;refine a_ (Uc (T:="set") (b:=true) hT (by rw[isSubtype_type];kernel_rfl) ?_);refine wpAny_ite_split (λHi=>absurd Hi (by decide)) (λ_=>?_);refine wpAny_ite_split (λ_=>?_) (λHi=>absurd (by decide +kernel) Hi);refine a_ (wpAny_typeOf hT ?_);exact d_ h
theorem EL(W:K' w a o es ep t):PySem.W.KdlSrc prog w "set" a a es.size (λi v=>∃k,(gg w a ep es)[i]?=some (k,v)) (λh=>h.get? a=some o) where
 type:=λ_ h1=>⟨o,h1,W.ex.1⟩
 there:=λ_ h1=>⟨q_ h1,q_ h1⟩
 keep:=λ_ _ h1 hk=>hk a (.inl rfl) o h1
 notList:=by decide
 notTuple:=by decide
 hint:=λ_ _ _ _ h1 hq=>Bz ⟨o,h1,W.ex.1⟩ hq
 iter:=λA s hh h1=>by
  have hne:a≠s.heap.objs.size:=z_ (q_ h1);refine⟨_,λi h=>yt h s.heap.objs.size a es.size ep w t i/\h.get? a=some o,λ_ _ hq=>Ee W h1 hq,⟨λb hb=>by simp at hb;simp[hb],λ_ _ _ st hk=>⟨hk _ (by simp) _ st.1,hk a (by simp) o st.2⟩,λi s' Q E hi st hQ=>?_,λs' Q E st hQ=>?_,λ_ s' _ _ st hQ=>?_⟩,⟨?_,e_ _ h1⟩⟩
  .exact DK W st.1 st.2 hi λh' v hv Dd hs'=>hQ v h' s'.toks hv ⟨Dd,hs'.extBut _ _ hne st.2⟩ λb o hb e=>hs'.extBut b o (λh=>hb (by simp[h])) e
  .exact IJ hh W st.1 st.2 λh' ud=>hQ h' s'.toks λb o hb e=>ud b o (λh=>hb (by simp[h])) e
  .have ty:s'.TypeIs (.ref s.heap.objs.size) "set_iterator":=⟨_,st.1,rfl⟩;refine WA ty ji (SA ji ty n3 ?_ (qg _));show wpAny _ _ (ret (.ref s.heap.objs.size)) _ _ s';exact d_ ⟨_,rfl,"set_iterator",_,ty,bT.lookup,hQ⟩
  .show(s.heap.push _).get? _=some _;rw[n_ _ rfl];simp[slotAt]
end
end St
namespace Mi
open PySem PySem.Spec PyProof.Rows L2
open PySem.W (KasT kas_sort)
theorem zv{α β:Type}(f:α->β){o l:List β}(h:o.Perm l):∀{zs:List α},zs.map f=l->∃ys:List α,ys.Perm zs/\ys.map f=o:=by
 induction h with
 | nil=>intro zs e;exact⟨[],by rw[Vb.mp e],rfl⟩
 | cons x _ ih=>
  intro zs e;cases zs with
  | nil=>cases e
  | cons z zs=>
   rw[L_]at e;obtain⟨e1,e2⟩:=List.cons.inj e;obtain⟨ys,p,q⟩:=ih e2;exact⟨z::ys,p.cons z,by rw[L_,q,e1]⟩
 | swap x y l=>
  intro zs e
  match zs,e with
  | a::b::zs,e=>
   rw[L_,L_]at e;obtain⟨e1,e2⟩:=List.cons.inj e;obtain⟨e3,e4⟩:=List.cons.inj e2;exact⟨b::a::zs,List.Perm.swap a b zs,by rw[L_,L_,e1,e3,e4]⟩
 | trans _ _ ih1 ih2=>
  intro zs e;obtain⟨ys,p,q⟩:=ih2 e;obtain⟨xs,p2,q2⟩:=ih1 q;exact⟨xs,p2.trans p,q2⟩
theorem oJ{α:Type}{n:Nat}{P:α->Prop}{lt lt':Nat->Nat->Bool}(h:∀i j,i<n->j<n->lt i j=lt' i j):∀{t:KasT α},rq n P t->eY lt t=eY lt' t
 | .ret _,_=>rfl
 | .ask i j k,⟨g,q⟩=>by
  show eY lt (k (lt i j))=eY lt' (k (lt' i j));rw[h i j g.1 g.2];exact oJ h (q _)
def gR(p:W7):Int:=p.1*64+p.2
def okP(p:W7):Prop:=0<=p.1/\p.1<64/\0<=p.2/\p.2<64
theorem tV{p q:W7}(hp:okP p)(hq:okP q):dN (kk p) (kk q)=some (decide (gR p<gR q)):=by
 obtain⟨a,b⟩:=p;obtain⟨c,d⟩:=q;show(if(Sum.inl a:L2.Key)=.inl c then(if(Sum.inl b:L2.Key)=.inl d then some false else some (decide (b<d)))else some (decide (a<c)))=some (decide (a*64+b<c*64+d));simp only[okP]at hp hq
 by_cases e:a=c
 .subst e;rw[j_ rfl]
  by_cases e:b=d
  .subst e;rw[j_ rfl,E_ (by lia)]
  .rw[k_ (λz=>e (Sum.inl.inj z))];congr 1
   by_cases g:b<d
   .rw[w_ g,w_ (by lia)]
   .rw[E_ g,E_ (by lia)]
 .rw[k_ (λz=>e (Sum.inl.inj z))];congr 1
  by_cases g:a<c
  .rw[w_ g,w_ (by lia)]
  .rw[E_ g,E_ (by lia)]
theorem GN{α:Type}(f:α->Int):∀{l1 l2:List α},l1.Perm l2->l1.Pairwise (λx y=>f x<=f y)->l2.Pairwise (λx y=>f x<f y)->l1=l2
 | [],l2,p,_,_=>p.nil_eq
 | x::l1,[],p,_,_=>by have:=p.length_eq;simp at this
 | x::l1,y::l2,p,h1,h2=>by
  obtain⟨a1,a2⟩:=SI.mp h1;obtain⟨b1,b2⟩:=SI.mp h2;have hx:x∈y::l2:=p.mem_iff.mp (o_ ..);have hy:y∈x::l1:=p.mem_iff.mpr (o_ ..);have e:x=y:=by
   rcases t_.mp hx with e | hx
   .exact e
   .rcases t_.mp hy with e | hy
    .exact e.symm
    .have:=a1 y hy;have:=b1 x hx
     lia
  subst e;rw[GN f (List.Perm.cons_inv p) a2 b2]
theorem mm{α:Type}(L:List α)(z:α):(List.range L.length).map (λi=>L.getD i z)=L:=by
 apply List.ext_getElem
 .simp
 .intro i h1 h2;simp[g_,h2]
theorem pU(L L':WW)(hp:L'.Perm L)(h8:∀p∈L,okP p)(up:L.Pairwise λp q=>gR p<gR q):(cy (L'.map kk)).map (λi=>L'.getD i (0,0))=L/\tG (L'.map kk)=true:=by
 have OH:∀p∈L',okP p:=λp h=>h8 p (hp.mem_iff.mp h);have lx:∀i j,i<(L'.map kk).length->j<(L'.map kk).length->Lf (L'.map kk) i j=kl (λi=>gR (L'.getD i (0,0))) i j:=λi j hi hj=>by
  rw[c_]at hi hj;unfold Lf kl;have e:∀i,(hi:i<L'.length)->(L'.map kk).getD i []=kk (L'.getD i (0,0))/\L'.getD i (0,0)∈L':=λi hi=>by
   rw[g_,g_,m_,f_ hi];exact⟨rfl,Ts hi⟩
  rw[(e i hi).1,(e j hj).1,tV (OH _ (e i hi).2) (OH _ (e j hj).2)];rfl
 refine⟨?_,?_⟩
 .by_cases h2:(L'.map kk).length<2
  .unfold cy;rw[j_ h2,c_,mm];rw[c_]at h2
   match L',L,hp,h2 with
   | [],L,hp,_=>exact hp.nil_eq
   | [x],L,hp,_=>exact(List.perm_singleton.mp hp.symm).symm
  .have hd:∀i j,i<j->j<(L'.map kk).length->gR (L'.getD i (0,0))≠gR (L'.getD j (0,0)):=λi j xV hj=>by
    rw[c_]at hj;have nd:(L'.map gR).Nodup:=((hp.map gR).nodup_iff).mpr (by rw[List.Nodup,Tf];exact up.imp λh e=>by lia);intro z;rw[g_,g_,f_ hj,f_ (by lia:i<L'.length)]at z;have:=(List.getElem_inj (xs:=L'.map gR) (i:=i) (j:=j) (h₀:=by simp;lia) (h₁:=by simp;lia) nd).mp (by simpa using z)
    lia
   obtain⟨s1,s2⟩:=FX (key:=λi=>gR (L'.getD i (0,0))) (n:=(L'.map kk).length) (by lia) hd;unfold cy;rw[k_ h2,oJ lx (lP (by lia))];refine GN gR ?_ (by rw[Tf];exact s2) up;have:=s1.map λi=>L'.getD i (0,0);rw[c_,mm]at this;rw[c_];exact this.trans hp
 .unfold tG;rw[F_,M_,M_];refine⟨λx hx=>?_,λx hx=>M_.mpr λy hy=>?_⟩
  .obtain⟨p,_,rfl⟩:=y_.mp hx;rfl
  .obtain⟨p,h1,rfl⟩:=y_.mp hx;obtain⟨q,h2,rfl⟩:=y_.mp hy;rw[tV (OH p h1) (OH q h2)];rfl
def pF:WW:=(List.range 4096).map λn=>(((n/64:Nat):Int),((n%64:Nat):Int))
theorem Au:pF.Pairwise λp q=>gR p<gR q:=by
 unfold pF;rw[Tf];refine List.pairwise_lt_range.imp λ{a b} h=>?_;unfold gR;dsimp only
 lia
theorem zk{p:W7}:p∈pF↔okP p:=by
 unfold pF okP;rw[y_];constructor
 .rintro⟨n,h,rfl⟩;have:=Sy.mp h;dsimp only
  lia
 .rintro⟨h1,h2,h3,h4⟩;refine⟨(p.1*64+p.2).toNat,Sy.mpr (by lia),?_⟩;obtain⟨a,b⟩:=p;simp only at *;rw[Uz]
  lia
def lj(ps:WW):WW:=pF.filter λp=>decide (p∈ps)
theorem uU(ps:WW):(lj ps).Pairwise λp q=>gR p<gR q:=Au.filter _
theorem fJ{ps:WW}(h:∀p∈ps,okP p){p:W7}:p∈lj ps↔p∈ps:=by
 unfold lj;rw[SE,C_,zk];exact⟨λz=>z.2,λz=>⟨h p z,z⟩⟩
theorem gA{ps:WW}(h:∀p∈ps,okP p)(nd:ps.Nodup):ps.Perm (lj ps):=
 (Ug nd ((uU ps).imp λz e=>by rw[e]at z;exact absurd z (Int.lt_irrefl _))).mpr λp=>(fJ h).symm
theorem ze{ps:WW}(h:∀p∈ps,okP p)(nd:ps.Nodup):ps.length<=4096:=by
 rw[(gA h nd).length_eq];refine B_ (Tj _ _) ?_;unfold pF;rw[c_,T4];exact h_ _
section
variable {elt:Xi}{gens:WX}{scope:Xg}{pos:Pos}{d:Nat}{tg iter:Xi}{ifs:W3}{it acc:W9}{env:Env}
theorem vJ(h:gens[d]?=some ⟨tg,iter,ifs,0⟩)(h2:gens[d+1]?=none):compTurn (.SetComp elt gens scope pos) d it acc env=wB (.SetComp elt gens scope pos) tg iter ifs d it acc env (do let v <- eval elt env;standAt elt.pos;let _ <- call (.builtin "set.add") [acc,v]):=by
 unfold compTurn;simp only[h,h2]
 rfl
theorem vz(h:gens[d]?=some ⟨tg,iter,ifs,0⟩)(h2:gens[d+1]?=some ⟨ur,bK,kG,0⟩):compTurn (.SetComp elt gens scope pos) d it acc env=xn (.SetComp elt gens scope pos) tg iter bK ifs d it acc env:=by
 unfold compTurn;simp only[h,h2]
 rfl
theorem Pb{P:Xa}{w:Xe}:CO P w (.SetComp elt gens scope pos):=⟨λh=>h,λh=>h⟩
end
def Aw(w:Xe):Bool:=!w.params.followText "set-order"
def eZ(w:Xe)(a:Xh)(zs:List (W7×Xh))(h:Xd):Prop:=yQ a (zs.map (·.1)) (zs.map (·.2)) h/\St.Fl a (Aw w) h
theorem nB(w:Xe)(a:Xh)(zs:List (W7×Xh)):∀h1 h2:Xd,eZ w a zs h1->(∀o,h1.get? a=some o->h2.get? a=some o)->eZ w a zs h2:=λh1 h2 ⟨x,o,es,ep,t,e,r⟩ k=>⟨vA _ _ _ h1 h2 x k,o,es,ep,t,k o e,r⟩
abbrev qW(K:Fg)(w:Xe)(a:Xh):Qa:=λ_ Z H pre=>∃ps zs,lg pre=some ps/\(∀p∈ps,okP p)/\zs.map (·.1)=tM ps/\H a=some (.ext (eZ w a zs))/\∀x∈zs,cw K Z x.2 [.int x.1.1,.int x.1.2]
theorem G2{K:Fg}{w:Xe}{a:Xh}:Gq a (qW K w a):=⟨λ⟨_,_,_,_,_,h,_⟩ z=>(by rw[z]at h;cases h),λx ⟨ps,zs,h1,h2,h3,h4,h5⟩=>⟨ps,zs,h1,h2,h3,x.h _ _ h4,λy hy=>bJ x.z (h5 y hy)⟩⟩
section
variable {X:Cx}{a:Xh}{elt:Xi}{fe:Fe}
def oX(f:Fe):Xm:=λenv=>(f env).bind λd=>match d with | .tup [.int m,.int n]=>if 0<=m/\m<64/\0<=n/\n<64 then some [.tup [.int m,.int n]]else none | _=>none
theorem yj(hu:X.A.units+1<cLine)(hx:∀e s,¬X.xe e s)(h:PD X .cl elt fe):yZ X (qW X.K X.w a) a (OQ X (do let v <- eval elt X.env;standAt elt.pos;let _ <- call (.builtin "set.add") [.ref a,v])) (oX fe):=by
 intro pins s σ H B Z env pre xs P E A e hl hP;obtain⟨d,e1,e2⟩:=b_.mp e
 split at e2
 .rename_i m n;obtain⟨Qx,rfl⟩:=kX e2;obtain⟨ps,zs,hps,hok,oC,hv,rr⟩:=A.ac;refine a_ (SG (h pins s σ H _ A.I ⟨env,B,Z,_,A.R,e1,λv Z1 H1 x1 g1=>(show ∃Z1,Ex Z H Z1 H1/\Rep X.K Z1 (.tup [.int m,.int n]) v from⟨Z1,x1,g1⟩)⟩) (λu s1 aC=>?_) λe s z=>(hx e s z).elim);obtain⟨v,H1,I1,r1,Z1,x1,g1⟩:=aC;obtain⟨b,us,rfl,q,r2⟩:=g1;cases ak.intsV (bs:=[m,n]) r2;cases(show u=Value.ref b from r1);have hne:H a≠none:=by rw[hv];simp
  have hv1:=x1.h _ _ hv;have hz1:=x1.fr a hne A.hz;have R1:=A.R.ext x1;have RE:∀x∈zs,cw X.K Z1 x.2 [.int x.1.1,.int x.1.2]:=λx hx=>bJ x1.z (rr x hx);obtain⟨hS,hF⟩:eZ X.w a zs s1.heap:=(show aV X.prog X.w H1 s1.heap a (.ext (eZ X.w a zs))from I1.hok a _ hv1).1;rw[nH (by simp),qx]at hS;have hnd:(zs.map (·.1)).Nodup:=(show aV X.prog X.w H1 s1.heap a (.ext (eZ X.w a zs))from I1.hok a _ hv1).1.1.choose_spec.choose_spec.choose_spec.choose_spec.2.2.2.2.2.2.2;have hlen:zs.length<=4096:=by
   have:=ze (ps:=zs.map (·.1)) (λp hp=>by rw[oC]at hp;exact hok p ((jc _ _).mp hp)) hnd;simpa using this
  have ei:(tupleKind (aA X.prog X.w)).is s1.heap (kk (m,n)) b:=Bg I1 (bJ x1.zh q);refine a_ (To (a_ ?_));refine St.qe (by rw[Around.in1_units];exact hu) hS (λx hx=>?_) ei (by rw[c_];lia) λh' tk hsb hS' hF'=>?_
  .obtain⟨y,hy,rfl⟩:=y_.mp hx;exact Bg I1 (bJ x1.zh (RE y hy))
  .rw[show(kk (m,n),b)=kx ((m,n),b)from rfl,<- DM]at hS';have RF:eZ X.w a (oo zs ((m,n),b)) h':=⟨by rw[nH (by simp),qx];exact hS',hF' _ (St.Aj (ps:=[m,n]) ei) hF⟩;have he:∃u,h'.get? a=some u:=by obtain⟨_,o,_,_,_,e,_⟩:=RF;exact⟨o,e⟩
   have I2:=I1.write (t':=tk) (o:=.ext (eZ X.w a (oo zs ((m,n),b)))) (by rw[hv1];exact True.intro) (.inl rfl) (λb u hb z=>(hsb.2 b hb).trans z) he ⟨RF,he,nB _ _ _⟩;refine d_ (hP _ σ _ Z1 ⟨I2,R1.other A.hb hz1 A.nO,A.nO,A.hb,hz1,ps++[(m,n)],oo zs ((m,n),b),tE m n hps,λp hp=>?_,?_,ai,λx hx=>?_⟩ ?_)
   .rcases Sr.mp hp with z | z
    .exact hok p z
    .rw[s_.mp z];exact Qx
   .have:=tZ [((m,n),b)] zs;show([((m,n),b)].foldl oo zs).map (·.1)=_;rw[this,oC];unfold tM;rw[List.foldl_append];rfl
   .have:x∈zs\/x∈[((m,n),b)]:=r8 hx;rcases this with h | h
    .exact RE x h
    .rw[s_.mp h];exact q
   .exact⟨d7 R1.bh A.hb,x1.z,d7 R1.zh hz1,λb hb e=>x1.fr b (nJ A.R.bh hb) e,x1.nf⟩
 .cases e2
end
abbrev uR(X:Cx)(a:Xh)(elt:Xi)(gens:WX)(scope:Xg)(pos:Pos)(d:Nat)(tg:Xi)(ifs:W3)(t:Ft)(c:Fb)(k:Xm):Prop:=NO X (qW X.K X.w a) a (.SetComp elt gens scope pos) d tg ifs t c k
section
variable {X:Cx}{a:Xh}{elt:Xi}{gens:WX}{scope:Xg}{pos:Pos}{d:Nat}{tg iter ur bK:Xi}{ifs kG:W3}{t t':Ft}{c c':Fb}{k:Xm}{fe:Fe}{fi:Fi}{is:W5}
theorem zi(hu:X.A.units+1<cLine)(hx:∀e s,¬X.xe e s)(hg:GD X tg t)(zF:Df X ifs c)(he:PD X .cl elt fe)(h:gens[d]?=some ⟨tg,iter,ifs,0⟩:=by rfl)(h2:gens[d+1]?=none:=by rfl):uR X a elt gens scope pos d tg ifs t c (oX fe):=
 ⟨hg,zF,_,yj hu hx he,λ_=>xF (vJ h h2)⟩
theorem yv(hx:∀e s,¬X.xe e s)(bp:X.calm=true)(hg:GD X tg t)(zF:Df X ifs c)(hi:ID X ur bK fi)(ht:lq is t')(b:uR X a elt gens scope pos (d+1) ur kG t' c' k)
  (h:gens[d]?=some ⟨tg,iter,ifs,0⟩:=by rfl) (h2:gens[d+1]?=some ⟨ur,bK,kG,0⟩:=by rfl) (hs:∀x,foldedSetIterable bK X.env x=pure x:=by intro _;rfl):uR X a elt gens scope pos d tg ifs t c (fq fi is t' c' k):=by
 obtain⟨Bd,nL,CP⟩:=b.ex;exact⟨hg,zF,_,tR Pb G2 hx bp h2 hi b.g ht b.ts nL CP,λ_=>xw (vz h h2) hs⟩
end
theorem DH{prog:Xa}{w:Xe}{A:Xb}{E:WR}{s:W_}{Q:WR}(h:Q (.ref s.sz) {s with heap:=s.heap.push {cls:=.type "set",dict:=none,data:=.set #[] 0 (.fresh 0 0 (Aw w))}}):wpAny (model prog w) A (newSet (.type "set")) Q E s:=by
 unfold newSet setsByText;refine a_ (a_ (Tt (d_ ?_)));dsimp only;simp only[newObj];exact a_ (wpAny_alloc (d_ h))
section
variable {X:Cx}{elt:Xi}{rest:WX}{scope:Xg}{pos:Pos}{tg iter:Xi}{ifs:W3}{t:Ft}{c:Fb}{k:Xm}{fi:Fi}{is caps:W5}{cl:WV}{Nc own:W1}
theorem ux(ht:lq is t)(bp:X.calm=true)(gU:fM (λx=>X.env.cells.lookup x) scope.names []=some cl)(bo:scope.kind=.function)(hnc:∀y∈scope.names,y.2≠.cell)
  (hN:Nc.map some=own.map some++caps.map (λj=>X.N[j]?)) (eQ:ie X scope caps=true)
  (hb:∀C s H ex pn a,uR (di X scope cl Nc C s H ex pn) a elt (⟨tg,iter,ifs,0⟩::rest) scope pos 0 tg ifs t c k)
  {pins:WS} {σ:L2.St} {s2:W_} {H2 B Z2:Hp} {env:En} {ds xs:Xo} {E:WR} {RR:W9->Xh->Result->W_->Prop} {it:Xh} {fp:W2} {tn:Nat->Xd->Prop} {J:It}
  (I2:Inv X pins σ H2 s2) (R2:Rl X.K B Z2 H2 env σ) (T:Turn X.prog X.w X.K tg J fp it tn) (CS:tn 0 s2.heap) (rG:∀b∈fp,bM X pins H2 b) (wk:Walk X.K Z2 ds J) (hu:dC is (cK own.length caps env)=true)
  (CQ:jL t c k (cK own.length caps env) ds=some xs) (hl:xs.length<=16000000)
  (Qk:∀(a C:Xh)(H' Z':Hp)(s':W_)(ps:WW)(zs:List (W7×Xh)) m,Inv X pins σ H' s'->s'.heap.Ns C m->bM X pins H' C->Ex Z2 H2 Z' H'->H2 a=none->lg xs=some ps->(∀p∈ps,okP p)->zs.map (·.1)=tM ps->H' a=some (.ext (eZ X.w a zs))->Z' a=none->(∀x∈zs,cw X.K Z' x.2 [.int x.1.1,.int x.1.2])->RR (.ref a) C (.ok .next) s') :
  wpAny (model X.prog X.w) X.A (newSet (.type "set")) (λacc s₃=>wpAny (model X.prog X.w) X.A (newFunctionEnv scope X.env.globals cl [] X.env.qual none .none (some X.env)) (λKp s₄=>
   codeAny (model X.prog X.w) X.A (.compStart (.SetComp elt (⟨tg,iter,ifs,0⟩::rest) scope pos) 0 (.ref it) acc {Kp with scope:=relabel scope X.env}) (RR acc Kp.locals) s₄) E s₃) E s2:=by
 refine DH ?_;have hf:H2 s2.sz=none:=I2.hok.fresh (h_ _);have I3:Inv X pins σ (upd H2 s2.sz (.ext (eZ X.w s2.sz []))) {s2 with heap:=s2.heap.push {cls:=.type "set",dict:=none,data:=.set #[] 0 (.fresh 0 0 (Aw X.w))}}:=
  I2.laid (λb u e=>e_ _ e) (h_ _) (show aV X.prog X.w _ _ _ (.ext (eZ X.w s2.sz []))from⟨⟨(nH (P:=X.prog) (w:=X.w) rfl).mpr (St.BW (Aw X.w) (n_ _ rfl)),_,_,_,_,n_ _ rfl,rfl,rfl,rfl⟩,⟨_,n_ _ rfl⟩,nB _ _ _⟩)
 generalize hs3:({s2 with heap:=s2.heap.push {cls:=.type "set",dict:=none,data:=.set #[] 0 (.fresh 0 0 (Aw X.w))}}:W_)=s3 at I3 ⊢;have NP:∀b o,s2.heap.get? b=some o->s3.heap.get? b=some o:=λb o e=>by rw[<- hs3];exact e_ _ e
 have NQ:s3.sz=s2.sz+1:=by rw[<- hs3];exact Vy _ _
 have hfl:∀b∈fp,b<s2.sz:=λb hb=>let ⟨o,e,_⟩:=T.obj _ _ CS b hb;q_ e;have NR:∀b∈fp,bM X pins (upd H2 s2.sz (.ext (eZ X.w s2.sz []))) b:=λb hb=>⟨by rw[ar (z_ (hfl b hb))];exact(rG b hb).1,(rG b hb).2⟩;refine VW hnc (by intro y hy;simp at hy) (λh1 zC hsb=>?_) bo;have NS:∀b o,s3.heap.get? b=some o->h1.get? b=some o:=λb o e=>hsb.extBut b o (z_ (q_ e)) (e_ _ e);have I4:=r9 (tk:=s3.toks+([]:List (Str×W9)).length) I3 gU bo hnc NR (λb hb=>by rw[NQ];exact T3 (hfl b hb)) hN eQ zC NS;generalize hXc:di X scope cl Nc s3.sz s3 (upd H2 s2.sz (.ext (eZ X.w s2.sz []))) fp (X.pn++pins)=Xc at I4;have bb:uR Xc s2.sz elt (⟨tg,iter,ifs,0⟩::rest) scope pos 0 tg ifs t c k:=by rw[<- hXc];exact hb _ _ _ _ _ _
 obtain⟨Bd,nL,CP⟩:=bb.ex;have eP:Xc.prog=X.prog:=by rw[<- hXc];rfl
 have eW:Xc.w=X.w:=by rw[<- hXc];rfl
 have eK:Xc.K=X.K:=by rw[<- hXc];rfl
 have eA:Xc.A=X.A:=by rw[<- hXc];rfl
 have eE:Xc.env=compEnvC scope cl s3.sz X.env:=by rw[<- hXc];rfl
 have hx:∀e s,¬Xc.xe e s:=λe s z=>by rw[<- hXc]at z;exact z
 have Dq:Xc.calm=true:=by rw[<- hXc];exact bp
 have T':Turn Xc.prog Xc.w Xc.K tg J fp it tn:=by rw[eP,eW,eK];exact T
 have A4:Ac Xc (qW Xc.K Xc.w s2.sz) [] s2.sz H2 Z2 (upd H2 s2.sz (.ext (eZ X.w s2.sz []))) (cK own.length caps env) (la own.length caps σ) [] {s3 with heap:=h1,toks:=s3.toks+([]:List (Str×W9)).length}:=
  ⟨I4,by rw[eK];exact R2.cap _ _ (b9 hf) (d7 R2.zh (R2.zh.free hf)),jh _ _ _,hf,R2.zh.free hf,[],[],rfl,λ_ h=>by simp at h,rfl,by rw[eW];exact ai,λ_ h=>by simp at h⟩
 have Ql:∀b∈fp,bM Xc [] (upd H2 s2.sz (.ext (eZ X.w s2.sz []))) b:=λb hb=>by
  obtain⟨f1,f2,f3,f4,f5,f6⟩:=NR b hb;have mem:=fw gU (λp hp=>by cases hp);rw[<- hXc];refine⟨f1,?_,eU I3 f2 f3,.inl hb,λx c h=>f5 x c (mem (x,c) (SL h)),λp hp=>f6 p (by simpa [di]using hp)⟩;show b≠s3.sz;rw[NQ];exact z_ (T3 (hfl b hb))
 have NT:tn 0 ({s3 with heap:=h1,toks:=s3.toks+([]:List (Str×W9)).length}:W_).heap:=T.keep _ _ _ CS λb _ o e=>NS b o (NP b o e);have go:=jQ Pb G2 hx Dq T' bb.g ht bb.ts nL (CP it) A4 Ql NT (by rw[eK];exact wk) hu CQ (by simpa using hl) λs' σ' H' Z' A' x' fr'=>by
  obtain⟨ps,zs,hps,hokp,oC,hv,rr⟩:=A'.ac;rw[eW]at hv;have base:=A'.I.base;obtain⟨mC,NU,_⟩:=A'.I.loc;have hok:=A'.I.hok;have hos:=A'.I.os;have free:=A'.I.free;rw[eE]at NU free;rw[eP,eW]at hok;rw[eK]at rr;have u1:Un (k7 X.stack) fp H2 (upd H2 s2.sz (.ext (eZ X.w s2.sz []))) s2.heap s3.heap:=Un.laid NP (h_ _) hf;have u2:Un (k7 X.stack) fp (upd H2 s2.sz (.ext (eZ X.w s2.sz []))) H' s3.heap s'.heap:=by rw[<- hXc]at base;exact base
  have Kq:s'.os=s2.os:=by rw[<- hXc]at hos;exact hos.trans (by rw[<- hs3];rfl)
  have I':Inv X pins σ H' s':=I2.call' Kq (u1.trans u2) hok A'.I.bare λb hb=>⟨(rG b hb).2.2.2.1,(rG b hb).2.1,(rG b hb).2.2.2.2.1,(rG b hb).2.2.2.2.2⟩;exact Qk s2.sz s3.sz H' Z' s' ps zs mC I' NU (I3.fpOk (h_ _) free) x' hf (by simpa using hps) hokp oC hv A'.hz rr
 rw[eP,eW,eA,eE]at go;exact q9 Pb rfl go (T.self _ 0 _ _ _ NT go)
def Sn(X:Cx)(fi:Fi)(is:W5)(t:Ft)(c:Fb)(k:Xm)(n:Nat)(caps:W5):TE:=λσ H Q=>∃env B Z ds xs ps,Rl X.K B Z H env σ/\fi env=some ds/\dC is (cK n caps env)=true/\jL t c k (cK n caps env) ds=some xs/\xs.length<=16000000/\lg xs=some ps/\
 ∀a Z' H' (zs:List (W7×Xh)),Ex Z H Z' H'->(∀p∈ps,okP p)->zs.map (·.1)=tM ps->H' a=some (.ext (eZ X.w a zs))->(∀x∈zs,cw X.K Z' x.2 [.int x.1.1,.int x.1.2])->Q (.ref a) H'
theorem Jq(ht:lq is t)(bp:X.calm=true)(hi:ID X tg iter fi)(gU:fM (λx=>X.env.cells.lookup x) scope.names []=some cl)(hN:Nc.map some=own.map some++caps.map (λj=>X.N[j]?))
  (hb:∀C s H ex pn a,uR (di X scope cl Nc C s H ex pn) a elt (⟨tg,iter,ifs,0⟩::rest) scope pos 0 tg ifs t c k)
  (eQ:ie X scope caps=true) (bo:scope.kind=.function) (hnc:∀y∈scope.names,y.2≠.cell) (Kr:∀x∈scope.names,x.2=.local->scope.names.lookup x.1=some .local)
  (hs:∀x,foldedSetIterable iter X.env x=pure x) :
  PE X (.SetComp elt (⟨tg,iter,ifs,0⟩::rest) scope pos) (Sn X fi is t c k own.length caps):=by
 intro pins s σ H Q I hT;obtain⟨env,B,Z,ds,xs,ps,R,e1,hu,CQ,hl,hps,kk⟩:=hT;rw[arm_eval_SetComp];refine Vf rfl hs (fN gU) bo Kr ?_;refine aZ (hi pins s σ H (λJ H1=>∃Z1,Ex Z H Z1 H1/\Walk X.K Z1 ds J) I ⟨env,B,Z,ds,R,e1,λJ Z1 H1 x1 wk=>⟨Z1,x1,wk⟩⟩) λx s1 q1=>aZ q1 λNy s2 aC=>?_;obtain⟨it,fp,tn,J,H2,hit,I2,T,CS,rG,Z2,x2,wk⟩:=aC;subst hit;refine ux ht bp gU bo hnc hN eQ hb I2 (R.ext x2) T CS rG wk hu CQ hl λa C H' Z' s' ps' zs m I' ns fpC x' hf hps' hok oC hv hz rr=>?_;refine⟨m,ns,λh' hs'=>?_⟩;obtain⟨f1,f2,f3,f4,f5,f6⟩:=fpC;rw[hps]at hps';cases hps';exact⟨.ref a,H',I'.turned (λb o hb e=>hs'.extBut b o hb e) f1 f2.symm.symm f4 f5 f6,rfl,kk a Z' H' zs (x2.trans x') hok oC hv rr⟩
end
theorem Jn{c:Prop}[Decidable c]{o:Option α}{d:α}(h:(if c then o else none)=some d):c/\o=some d:=by
 by_cases hc:c
 .rw[j_ hc]at h;exact⟨hc,h⟩
 .rw[k_ hc]at h;cases h
def Kd(K:Fg)(w:Xe):Xq->Hp->VK->Prop:=λxs H Q=>∃(a:Xh)(zs:List (W7×Xh)),xs=[.ref a]/\H a=some (.ext (eZ w a zs))/\(∀x∈zs,cw K H x.2 [.int x.1.1,.int x.1.2])/\(∀x∈zs,okP x.1)/\zs.length<64/\
 ∀q (ws:List (W7×Xh)),H q=none->ws.map (·.1)=lj (zs.map (·.1))->(∀x∈ws,x∈zs)->Q (.ref q) (upd H q (.lst (ws.map λx=>V.ref x.2)))
theorem zP{K:Fg}{H:Hp}:∀(ws:List (W7×Xh)),(∀x∈ws,cw K H x.2 [.int x.1.1,.int x.1.2])->oH K H (ws.map λx=>V.ref x.2) ((ws.map (·.1)).map kk)
 | [],_=>trivial
 | x::ws,h=>⟨⟨x.2,rfl,h x (o_ ..)⟩,zP ws λy hy=>h y (l_ _ hy)⟩
theorem qm:∀(ws:List (W7×Xh)),av (ws.map λx=>V.ref x.2) (ws.map λx=>Value.ref x.2)
 | []=>.nil
 | _::ws=>.cons rfl (qm ws)
theorem vh{X:Cx}(hc:X.calm=true):dB X (.builtin "sorted") (Kd X.K X.w):=by
 intro pins s σ H xs us Q I rs h;obtain⟨a,zs,rfl,ha,hq,hok,Hr,q⟩:=h;obtain⟨u,rfl,rx⟩:=vals1 rs;cases rx;obtain⟨⟨o,es,ep,t,h1,h2,h3,h4,h5,h6,h7,h8⟩,o',es',xR,t',g1,g2,g3,g4⟩:=(show aV X.prog X.w H s.heap a (.ext (eZ X.w a zs))from I.hok a _ ha).1;rw[h1]at g1;cases g1;rw[h3]at g2;cases g2;have W:St.K' X.w a o es ep t:=⟨h2,h3,h5,g3,g4⟩;rw[qx]at h4;have hz:es.size=zs.length:=by have:=h4.length_eq;simpa using this
 obtain⟨OJ,p1,p2⟩:=zv IA ((St.hV X.w a ep es).trans h4) (zs:=zs) rfl;have l0:=p1.length_eq;refine Ur UA plain_sorted entry_sorted (args_sorted1 _) ?_;unfold Builtin.«sorted»;refine a_ (m:=checkCount "sorted" 1 1 _) (d_ (a_ (PySem.W.kdu_collect (A:=X.A.in1) (St.EL W) (I.ok.hd hc) h1 (by rw[hz,Sz];lia) λh' tk acc hk hacc=>?_)));have e3:acc.toList=OJ.map λx=>Value.ref x.2:=by
  have e4:(OJ.map λx=>Value.ref x.2)=(St.gg X.w a ep es).toList.map (·.2):=by rw[<- p2,SM];rfl
  rw[e4];refine Uw λj=>?_;rw[UZ,m_,UZ]
  by_cases hj:j<es.size
  .have KG:j<acc.size:=by rw[hacc.1];exact hj
   obtain⟨k,h1⟩:=hacc.2 j _ (SH KG);rw[h1,SH KG];rfl
  .have CU:(St.gg X.w a ep es).size=es.size:=by have:=(St.hV X.w a ep es).length_eq;simpa using this
   rw[Td (by rw[hacc.1];lia),Td (by lia)];rfl
 rw[e3];have P2:∀x∈OJ,x∈zs:=λx hx=>p1.mem_iff.mp hx;have ht:bP s.heap (OJ.map λx=>Value.ref x.2) ((OJ.map (·.1)).map kk):=(zP OJ λx hx=>hq x (P2 x hx)).heap I (qm OJ);have K9:bP (h'.push {cls:=.type "list",data:=.seq (OJ.map λx=>Value.ref x.2).toArray}) (OJ.map λx=>Value.ref x.2) ((OJ.map (·.1)).map kk):=ht.keeps λb o hb _=>e_ _ (hk b o hb);have Ia:∀p∈zs.map (·.1),okP p:=λp hp=>by obtain⟨x,hx,rfl⟩:=y_.mp hp;exact hok x hx
 obtain⟨o1,o2⟩:=pU (lj (zs.map (·.1))) (OJ.map (·.1)) ((p1.map (·.1)).trans (gA Ia h8)) (λp hp=>Ia p ((fJ Ia).mp hp)) (uU _);refine a_ (UW ?_ (by rw[c_,Sz];lia));have ho:(h'.push {cls:=.type "list",data:=.seq (OJ.map λx=>Value.ref x.2).toArray}).get? h'.objs.size=some (seqObj "list" (OJ.map λx=>Value.ref x.2).toArray 0):=n_ _ rfl;refine a_ (Q_ (SA slot_list_sort ⟨_,ho,rfl⟩ V4 (gz (s:={s with heap:=h'.push {cls:=.type "list",data:=.seq (OJ.map λx=>Value.ref x.2).toArray},toks:=tk}) ho K9 o2 (by rw[c_];lia) ⟨_,rfl,d_ ⟨_,rfl,?_⟩⟩) (args_list_sort _)));obtain⟨e,he⟩:=sortedHeap_at (out:=((cy ((OJ.map (·.1)).map kk)).map λi=>(OJ.map λx=>Value.ref x.2).getD i .none).toArray) ho;have hin:∀i∈cy ((OJ.map (·.1)).map kk),i<OJ.length:=λi hi=>by have:=hU i hi;simpa using this
 have v2:=ia (qm OJ) (is:=cy ((OJ.map (·.1)).map kk)) λi hi=>by have:=hin i hi;simpa using this
 have I1:Inv X pins σ H {s with heap:=h',toks:=tk}:=I.kept hk;have ew:((cy ((OJ.map (·.1)).map kk)).map λi=>(OJ.map λx=>V.ref x.2).getD i .non)=((cy ((OJ.map (·.1)).map kk)).map λi=>OJ.getD i ((0,0),0)).map λx=>V.ref x.2:=by
  rw[show ∀l:W5,(l.map λi=>OJ.getD i ((0,0),0)).map (λx=>V.ref x.2)=l.map λi=>V.ref (OJ.getD i ((0,0),0)).2 from λl=>by rw[SM];rfl];refine Wa λi hi=>?_;have hi':=hin i hi;show(OJ.map λx=>V.ref x.2).getD i .non=V.ref (OJ.getD i ((0,0),0)).2;rw[g_,g_,m_,f_ hi'];rfl
 rw[ew]at v2;have hlen:((cy ((OJ.map (·.1)).map kk)).map λi=>OJ.getD i ((0,0),0)).length<=64:=by rw[c_,mw,c_,c_];lia
 refine⟨.ref h'.objs.size,_,I1.laid (t':=tk) (o:=.lst (((cy ((OJ.map (·.1)).map kk)).map λi=>OJ.getD i ((0,0),0)).map λx=>V.ref x.2)) (λb o z=>?_) (h_ _) ⟨by rw[c_,Sz];lia,_,e,v2,by simpa using he⟩,rfl,q _ _ I1.fresh ?_ λx hx=>?_⟩
 .have hb:b<h'.objs.size:=q_ z;rw[sortedHeap_old (z_ hb) (by rw[Wk];lia)];exact e_ _ z
 .rw[<- o1,show ∀l:W5,(l.map λi=>OJ.getD i ((0,0),0)).map (·.1)=l.map λi=>(OJ.getD i ((0,0),0)).1 from λl=>by rw[SM];rfl];refine Wa λi hi=>?_;have hi':=hin i hi;show(OJ.getD i ((0,0),0)).1=(OJ.map (·.1)).getD i (0,0);rw[g_,g_,m_,f_ hi'];rfl
 .obtain⟨i,hi,rfl⟩:=y_.mp hx;have hi':=hin i hi;rw[g_,f_ hi'];exact P2 _ (Ts hi')
def HA(p:W7):D:=.tup [.int p.1,.int p.2]
def u6(fi:Fi)(is:W5)(t:Ft)(c:Fb)(k:Xm)(n:Nat)(caps:W5):Fe:=λenv=>(fi env).bind λds=>if dC is (cK n caps env)=true then(jL t c k (cK n caps env) ds).bind λxs=>if xs.length<=16000000 then(lg xs).bind λps=>if(tM ps).length<64 then some (.lst ((lj (tM ps)).map HA))else none else none else none
theorem wY{K:Fg}{Z:Hp}:∀(ws:List (W7×Xh)),(∀x∈ws,cw K Z x.2 [.int x.1.1,.int x.1.2])->ak K Z ((ws.map (·.1)).map HA) (ws.map λx=>V.ref x.2)
 | [],_=>rfl
 | x::ws,h=>⟨_,_,rfl,⟨x.2,_,rfl,h x (o_ ..),⟨_,_,rfl,rfl,_,_,rfl,rfl,rfl⟩⟩,wY ws λy hy=>h y (l_ _ hy)⟩
section
variable {X:Cx}{elt:Xi}{rest:WX}{scope:Xg}{pos p pos':Pos}{tg iter:Xi}{ifs:W3}{t:Ft}{c:Fb}{k:Xm}{fi:Fi}{is caps:W5}{cl:WV}{Nc own:W1}
theorem Ea(hm:X.mg "sorted"=none)(ht:lq is t)(bp:X.calm=true)(hi:ID X tg iter fi)(gU:fM (λx=>X.env.cells.lookup x) scope.names []=some cl)(hN:Nc.map some=own.map some++caps.map (λj=>X.N[j]?))
  (hb:∀C s H ex pn a,uR (di X scope cl Nc C s H ex pn) a elt (⟨tg,iter,ifs,0⟩::rest) scope pos' 0 tg ifs t c k)
  (eQ:ie X scope caps=true:=by rfl) (bo:scope.kind=.function:=by rfl) (hnc:∀y∈scope.names,y.2≠.cell:=by decide +kernel) (Kr:∀x∈scope.names,x.2=.local->scope.names.lookup x.1=some .local:=by decide +kernel)
  (hs:∀x,foldedSetIterable iter X.env x=pure x:=by intro _;rfl) (hg:Gl X "sorted":=by rfl)
  (he:starEach [.SetComp elt (⟨tg,iter,ifs,0⟩::rest) scope pos'] X.env=[(false,eval (.SetComp elt (⟨tg,iter,ifs,0⟩::rest) scope pos') X.env)]:=by rfl) :
  PD X .nw (.Call (.Name "sorted" p) [.SetComp elt (⟨tg,iter,ifs,0⟩::rest) scope pos'] [] pos) (u6 fi is t c k own.length caps):=
 PE.imp (gq (vh bp) hg hm UB (aJ (Jq ht bp hi gU hN hb eQ bo hnc Kr hs) bN he) (by decide) (by decide) he rfl) λσ H Q aC=>by
 refine cN λ_ kq=>?_;obtain⟨env,B,Z,d,R,e,kk⟩:=aC;obtain⟨ds,e1,e⟩:=b_.mp e;obtain⟨hu,e⟩:=Jn e;obtain⟨xs,e2,e⟩:=b_.mp e;obtain⟨hl,e⟩:=Jn e;obtain⟨ps,e3,e⟩:=b_.mp e;obtain⟨Hr,e⟩:=Jn e;cases e;refine kq ⟨env,B,Z,ds,xs,ps,R,e1,hu,e2,hl,e3,λa Z' H' zs x1 hok oC hv rr=>?_⟩;clear kq;have hzl:zs.length<64:=by have:=Tn List.length oC;rw[c_]at this;lia
 refine⟨a,zs,rfl,hv,λx hx=>bJ x1.zh (rr x hx),λx hx=>hok _ ((jc _ _).mp (by rw[<- oC];exact SU hx)),hzl,λq ws hq hws hin=>?_⟩;refine kk _ Z' _ (x1.trans (Ex.newL x1.zh hq)) ⟨q,_,_,rfl,rfl,x1.h.free hq,ai,x1.zh.free hq,?_⟩;have:=wY (K:=X.K) (Z:=Z') ws λx hx=>rr x (hin x hx);rw[hws,oC]at this;exact this
end
end Mi
namespace Mi
open PySem PySem.Spec PyProof.Rows L2 Xc
abbrev AtC(K:Fg)(x:Str)(C:Xh)(bm:WY):Prop:=∃nm q N bs sn sub ab col dd k0 k1 k2 k3 k5,PySem.W.nsIn K mainGlobals x=some (some (.ref C))/\K.lookup C=some (cM nm q C N bs bm sn sub ab col dd k0 k1 k2 k3 k5)
abbrev Q8(K:Fg)(C fI:Xh):Prop:=PySem.W.findIn K (.ref C) "__init__"=some (some (.ref fI))/\PySem.W.findIn K (.ref C) "__setattr__"=some (some (.builtin "object.__setattr__"))/\PySem.W.findIn K (.ref C) "cell"=some none/\PySem.W.keepIn K (.ref C)=true/\
 PySem.W.findIn K (.ref C) "__getattribute__"=some (some (.builtin "BaseException.__getattribute__"))/\PySem.W.findIn K (.ref C) "__getattr__"=some none/\PySem.W.findIn K (.ref C) "__class__"=some (some (.builtin "object.__class__"))
section
variable {K:Fg}{h:Xd}{mg:WU}{x c:Str}{st:Xj}{f C HE fI E:Xh}{bm:WY}
theorem Mw{a b:Nat}(h:¬a=b):@Ne Xh a b:=h
theorem AtC.g(A:AtC K x C bm)(X:K.In h)(G:h.Ns mainGlobals mg):mg x=some (.ref C):=by
 obtain⟨_,_,_,_,_,_,_,_,_,_,_,_,_,_,a,_⟩:=A;exact PySem.W.mg_of X G a
theorem AtC.ec(A:AtC K x C (.ref HE::bmV))(R:Q8 K C fI)(l:K.lookup fI=some o)(ho:o.cls=.type "function":=by rfl):EC K C HE fI:=by
 obtain⟨_,_,_,_,_,_,_,_,_,_,_,_,_,_,_,a⟩:=A;exact⟨⟨_,_,_,_,_,_,_,_,_,_,_,_,_,_,a⟩,R.1,⟨_,l,ho⟩,R.2.1,R.2.2.1,R.2.2.2.1⟩
theorem vj{α β:Type}{f:α->β}:∀{L:List α},(L.map f).Nodup->∀{p q:α},p∈L->q∈L->f p=f q->p=q
 | [],_,_,_,h,_,_=>nomatch h
 | a::L,nd,p,q,hp,hq,e=>by
  obtain⟨n1,n2⟩:=SI.mp nd;rcases t_.mp hp with rfl | h1
  .rcases t_.mp hq with rfl | h2
   .rfl
   .exact absurd e (n1 _ (SU h2))
  .rcases t_.mp hq with rfl | h2
   .exact absurd e.symm (n1 _ (SU h1))
   .exact vj n2 h1 h2 e
theorem IR{L:List (Str×Nat)}(X:K.In h)(G:h.Ns mainGlobals mg)(ha:∀p∈L,AtC K p.1 p.2 (.ref HE::bmV))(up:(HE::L.map Prod.snd).Pairwise (@LT.lt Nat _))(nm:(L.map Prod.fst).Nodup):∀q∈L,∀n∈L.map Prod.fst,AD K mg HE q.2 q.1 n:=λq hq n hn=>by
 obtain⟨p,hp,rfl⟩:=y_.mp hn;obtain⟨u1,u2⟩:=SI.mp up;have A:=ha p hp;have g:=A.g X G;obtain⟨_,_,_,_,_,_,_,_,_,_,_,_,_,_,_,a⟩:=A;refine⟨p.2,g,⟨_,_,_,_,_,_,_,_,_,_,_,_,_,_,_,a⟩,Mw (T7 (u1 _ (SU hp))),⟨λe=>?_,λe=>?_⟩⟩
 .rw[vj (u2.imp λz=>z_ z) hp hq e]
 .rw[vj nm hp hq e]
theorem LR:(["NoHiding","NoNumber","TooMany","NoCell","NoShot","NothingLeft","NoCounts","Over","NoText","NoRow"]:W1).Nodup:=by decide
theorem Kf{p:α->Prop}:∀a∈([]:List α),p a:=λ_ h=>nomatch h
theorem cZ{p:α->Prop}{a:α}{L:List α}(h:p a)(t:∀b∈L,p b):∀b∈a::L,p b:=λb hb=>by
 rcases t_.mp hb with rfl | hb
 .exact h
 .exact t b hb
theorem JX(a:PySem.W.nsIn K mainGlobals x=some (some (.ref C)))(l:K.lookup C=some (cM nm q C N bs bm sn sub ab col dd k0 k1 k2 k3 k5)):AtC K x C bm:=⟨_,_,_,_,_,_,_,_,_,_,_,_,_,_,a,l⟩
variable {P:Xa}{w:Xe}{base:Xd}{d n:Nat}{g:Gr}{m:Xo->Option Rs}{fd:Xf}{ps:W1}
theorem Ez(O:dh P w K mg base (Hd P w) d f fd ps (Px mg K n g m))(hk:PySem.W.keepIn K (.ref f)=true)(hm:mg x=some (.ref f))(hb:Binds K fd ps [])(hn:ps.length=n:=by rfl):∀j,d<=j->Kz P w K mg base j x n g m:=
 λ_ hj=>⟨f,fd,ps,hn,O.mono hj,hm,hk,hb⟩
end
abbrev Wd.QX(W:Wd)(d:Nat)(x:Str)(n:Nat)(m:Xo->Option Rs):Prop:=∀j,d<=j->Kz W.P W.w W.K W.mg W.base j x n .cl m
abbrev Wd.X(W:Wd)(c:Str):Prop:=XC W.P W.w W.K W.mg W.base 1 c
variable {W:Wd}{x:Str}{st:Xj}{k:Nat}{g:Gr}{fb:FsX}
theorem RY(N:W1)(n:Nat)(h:W.At x st)
  (hb:∀(bq:W9)(A:Xb)(outer:List Env)(s:W_)(H:Hp)(E:XK)(f:Xh),a9 k (A.deeper (envOfC x (ax st) s.sz f bq))->N.Nodup->Dn (eM (Hd W.P W.w) W.P W.w W.K W.mg W.base N x (ax st) f bq A outer s H E) .cl (aT st) fb)
  (S:bC N (N.take n) (ax st):=by exact⟨rfl,rfl,rfl,by decide +kernel,rfl,by decide +kernel,by decide +kernel⟩)
  (hB:Bi x st (N.take n):=by intro _ _ _ _ _ _;first | exact KU λ_=>rfl | exact ML λ_ _=>rfl | exact MU λ_ _ _=>rfl | exact ar4 λ_ _ _ _=>rfl | exact ar5 λ_ _ _ _ _=>rfl):W.QX (k+1) x (N.take n).length (vm fb N.length):=by
 obtain⟨f,fd,F,hk,hm⟩:=h;exact Ez (Sk F S (λbq A outer s H E hr=>hb bq A outer s H E f hr S.nd) (λ_ _ _ e=>e)) hk hm (F.binds hB)
theorem PU(N:W1)(n:Nat)(h:W.At x st)
  (hb:∀(bq:W9)(A:Xb)(outer:List Env)(s:W_)(H:Hp)(E:XK)(f:Xh),a9 k (A.deeper (envOfC x (ax st) s.sz f bq))->N.Nodup->AJ (eM ko W.P W.w W.K W.mg W.base N x (ax st) f bq A outer s H E) g (aT st) fb)
  (S:bC N (N.take n) (ax st):=by exact⟨rfl,rfl,rfl,by decide +kernel,rfl,by decide +kernel,by decide +kernel⟩)
  (hB:Bi x st (N.take n):=by intro _ _ _ _ _ _;first | exact KU λ_=>rfl | exact ML λ_ _=>rfl | exact MU λ_ _ _=>rfl | exact ar4 λ_ _ _ _=>rfl | exact ar5 λ_ _ _ _ _=>rfl):W.Q (k+1) x (N.take n).length g (BD fb N.length):=by
 obtain⟨f,fd,F,hk,hm⟩:=h;exact vN (OS F S (λbq A outer s H E hr=>hb bq A outer s H E f hr S.nd) (λ_ _ _ e=>e)) hk hm (F.binds hB)
end Mi
namespace Mi
open PySem PySem.Spec PyProof.Rows L2 Lm
section
open Xc
variable {W:Wd}{x:Str}{st:Xj}{k:Nat}{fb:FsX}{c:Xh}
end
end Mi
namespace Mi
open PySem PySem.Spec PyProof.Rows L2 Xc
variable {X:Cx}{e:Xi}{es:W3}
end Mi
namespace Mi
open PySem PySem.Spec PyProof.Rows L2
theorem kP:∀ps:WW,DF (fA ps)=ps
 | []=>rfl
 | p::ps=>by show(p.1,p.2)::DF (fA ps)=_;rw[kP ps]
section
variable {P:Xa}{w:Xe}{A:Xb}{E:WR}{s:W_}
inductive fy(P:Program)(w:World)(h:Heap):List (Int×Int)->List Value->Prop
 | nil:fy P w h [] []
 | cons {p:Int×Int} {c:Addr} {ps us}:IsTupleKey (aA P w) h (kk p) c->fy P w h ps us->fy P w h (p::ps) (.ref c::us)
def ic(P:Xa)(w:Xe)(h:Xd)(q:Xl)(a:Xh):Prop:=∃ps o items n,q=fA ps/\h.get? a=some o/\o.cls=.type "tuple"/\o.data=.seq items n/\fy P w h ps items.toList
theorem AK{p r:W7}(h:kk p=kk r):p=r:=by
 injection h with h1 h2
 injection h2 with h2 _
 injection h1 with h1
 injection h2 with h2
 exact Prod.ext h1 h2
theorem fy.inj{h:Xd}{x y:WW}{vs:WY}(hx:fy P w h x vs)(hy:fy P w h y vs):x=y:=by
 induction hx generalizing y with
 | nil=>cases hy;rfl
 | cons h1 _ ih=>cases hy with | cons h2 t2=>rw[AK (h1.inj h2),ih t2]
theorem ic.typeIs{q:Xl}{a:Xh}(x:ic P w s.heap q a):s.TypeIs (.ref a) "tuple":=let ⟨_,o,_,_,_,ho,hc,_⟩:=x;⟨o,ho,hc⟩
theorem ic.inj{h:Xd}{a:Xh}{x y:Xl}(hx:ic P w h x a)(hy:ic P w h y a):x=y:=by
 obtain⟨ps,o,items,n,rfl,ho,_,hd,hi⟩:=hx;obtain⟨rs,o',items',n',rfl,ho',_,xT,hi'⟩:=hy;obtain rfl:o=o':=Option.some.inj (ho.symm.trans ho');rw[hd]at xT
 injection xT with h1 _
 subst h1;rw[hi.inj hi']
theorem fy.keeps{h h':Xd}{d:Xh}{o:Obj}{es ep}(ho:h.get? d=some o)(hd:o.data=.dict es ep)(hs:Heap.SameBut d h h'){x:WW}{vs:WY}(hx:fy P w h x vs):fy P w h' x vs:=by
 induction hx with
 | nil=>exact .nil
 | cons h1 _ ih=>exact .cons (h1.keeps ho hd hs) ih
theorem ic.keeps{h h':Xd}{q:Xl}{a d:Xh}{o:Obj}{es ep}(x:ic P w h q a)(ho:h.get? d=some o)(hd:o.data=.dict es ep)(hs:Heap.SameBut d h h'):ic P w h' q a:=by
 obtain⟨ps,o',items,n,e,ho',hc,xT,hi⟩:=x;have hne:a≠d:=by
  rintro rfl;obtain rfl:o'=o:=Option.some.inj (ho'.symm.trans ho);rw[hd]at xT;exact nomatch xT
 exact⟨ps,o',items,n,e,(hs.2 a hne).trans ho',hc,xT,hi.keeps ho hd hs⟩
theorem FR{q:Xl}{a:Xh}{Q:Int->W_->Prop}(hu:A.units+1<cLine)(hk:ic P w s.heap q a)(h:Q (Oi q) {s with toks:=s.toks+((DF q).length*3+1)}) :
  wpAny (model P w) A (pyHash (.ref a)) Q E s:=by
 have hT:=hk.typeIs;obtain⟨ks,o,items,n,rfl,ho,_,hd,hi⟩:=hk;unfold Oi at h;rw[kP]at h;unfold pyHash
 first | unfold pyHashByItsType | skip
 first | refine a_ (wpAny_cRoomFor_or (.inr (by omega)) ?_) | skip
 refine a_ (TH hT Uv.lookup ?_);show wpAny _ _ (if(some (Value.builtin "tuple.__hash__")==some Value.none)=true then _ else _) Q E s;rw[k_ (by rw[beq_builtin_none];exact P_)];refine a_ (TH hT Uv.lookup ?_);show wpAny _ _ (callSpecialIfBoundUnlessNone? (.ref a) "__hash__" _ >>= _) Q E s;refine a_ (wpAny_callSpecialIfBoundUnlessNone?_slot hT Uv (SA Uv hT F.entry_tuple_hash ?_ (F.args_tuple_hash_1 _)));show wpAny _ _ (Builtin.Tuple.tupleItemsOf (.ref a) >>= _) _ _ s;refine a_ (Wo ho hd ?_);refine a_ ?_;rw[<- Uh];refine Tr _
  (λrest (b:Array Int) s'=>∃done left,ks=done++left/\fy P w s.heap left rest/\b.toList=done.map KZ/\s'={s with toks:=s.toks+done.length*3})
  _ ?_ ?_ _ _ ⟨[],ks,rfl,hi,rfl,rfl⟩
 .rintro x rest b s' ⟨done,left,rfl,hl,hb,rfl⟩;cases hl with
  | @cons k c gj _ h1 De=>
   refine a_ (wpAny_pyHash_tuple (by omega) (show IsTupleKey (aA P w) ({s with toks:=s.toks+done.length*3}:W_).heap (kk k) c from h1) ?_)
   first
    | exact d_ ⟨done++[k],gj,by simp,De,by simp[hb];rfl,by simp[kk,WM,T9]⟩
    | exact a_ (d_ (d_ ⟨done++[k],gj,by simp,De,by simp[hb];rfl,by simp[kk,WM,T9]⟩))
 .rintro b s' ⟨done,left,rfl,hl,hb,rfl⟩;cases hl;rw[SC]at h;show wpAny _ _ (retInt (Builtin.Tuple.tupleHashOf b.toList)) _ _ _;rw[hb];refine wpAny_ret_mkInt ?_;show wpAny _ _ (if(decide (-(2:Int) ^ 63<=Builtin.Tuple.tupleHashOf (done.map KZ))&&decide (Builtin.Tuple.tupleHashOf (done.map KZ)<2 ^ 63))=true then _ else _) Q E _;unfold reduceHash at h
  by_cases hr:(decide (-(2:Int) ^ 63<=Builtin.Tuple.tupleHashOf (done.map KZ))&&decide (Builtin.Tuple.tupleHashOf (done.map KZ)<2 ^ 63))=true
  .rw[j_ hr];rw[j_ hr]at h;exact d_ (by simpa [T9]using h)
  .rw[k_ hr];rw[k_ hr]at h;exact a_ (Vn (d_ (by simpa [T9]using h)))
theorem Er{x y:WW}:decide (fA x=fA y)=decide (x=y):=by
 by_cases h:x=y
 .rw[h];simp
 .rw[E_ h,E_];intro z;exact h (by rw[<- kP x,z,kP])
theorem JV{x y:Xl}{a b:Xh}{Q:PySem.Fin->W_->Prop}(hu:A.units+1<cLine)(hx:ic P w s.heap x a)(hy:ic P w s.heap y b)(h:Q (.done (.ret (.bool (decide (x=y))))) s) :
  wpAny (model P w) A (Builtin.«tuple.__eq__» ⟨[.ref a,.ref b],[]⟩) Q E s:=by
 have hTb:=hy.typeIs;obtain⟨px,oa,xs,na,rfl,Gw,_,hda,hia⟩:=hx;obtain⟨py,ob,ys,nb,rfl,hob,_,kF,OK⟩:=hy;rw[Er]at h;show wpAny _ _ (isInstance (.ref b) (.type "tuple") >>= _) _ _ s;refine a_ (Uc hTb VH ?_);simp only[Tu,x_,SS];refine a_ (Wo Gw hda ?_);refine a_ (Wo hob kF ?_);refine a_ ?_;refine Tr _
  (λrest r s'=>r.1=none/\s'=s/\∃x' y' K8 OL,rest=List.zip K8 OL/\fy P w s.heap x' K8/\fy P w s.heap y' OL/\decide (x'=y')=decide (px=py)/\(K8.length==OL.length)=(xs.size==ys.size))
  _ ?_ ?_ _ _ ⟨rfl,rfl,px,py,xs.toList,ys.toList,rfl,hia,OK,rfl,by simp⟩
 .rintro⟨u,v⟩ rest r s' ⟨hr,rfl,x',y',K8,OL,hz,jI,OM,Gz,hlen⟩;cases jI with
  | nil=>simp at hz
  | @cons k1 c1 RG xs'' h1 hx''=>
   cases OM with
   | nil=>simp at hz
   | @cons k2 c2 RH ys'' h2 hy''=>
    simp only[Ue,List.cons.injEq,Uz]at hz;obtain⟨⟨rfl,rfl⟩,rfl⟩:=hz;refine a_ (wpAny_eqBool_tuple (by omega) h1 h2 ?_)
    by_cases hk:k1=k2
    .subst hk;rw[w_ rfl];simp only[Tu,x_,SS];refine d_ ⟨rfl,rfl,RG,RH,xs'',ys'',rfl,hx'',hy'',?_,by simpa using hlen⟩;rw[<- Gz]
     by_cases Oo:RG=RH
     .simp[Oo]
     .simp[Oo]
    .rw[E_ (λz=>hk (AK z))];simp only[Bool.not_false,Um];have hf:decide (px=py)=false:=by rw[<- Gz];simp[hk]
     rw[hf]at h;exact a_ (d_ (d_ (d_ h)))
 .rintro⟨r1,r2⟩ s' ⟨hr,rfl,x',y',K8,OL,hz,jI,OM,Gz,hlen⟩;simp only at hr;subst hr;refine d_ ?_;have hfin:(xs.size==ys.size)=decide (px=py):=by
   rw[<- Gz,<- hlen];cases jI with
   | nil=>
    cases OM with
    | nil=>simp
    | cons _ _=>simp
   | cons _ _=>
    cases OM with
    | nil=>simp
    | cons _ _=>simp at hz
  show Q (.done (.ret (.bool (xs.size==ys.size)))) s';rw[hfin];exact h
theorem JH{x y:Xl}{a b:Xh}{Q:Bool->W_->Prop}(hu:A.units+2<cLine)(hx:ic P w s.heap x a)(hy:ic P w s.heap y b)(h:Q (decide (x=y)) s) :
  wpAny (model P w) A (eqBool (.ref a) (.ref b)) Q E s:=by
 unfold eqBool
 try with_reducible refine Q_ ?_
 show wpAny _ _ (if(Value.ref a==Value.ref b)=true then _ else _) Q E s
 by_cases Hi:(Value.ref a==Value.ref b)=true
 .rw[j_ Hi];have e:a=b:=by have:=eq_of_beq Hi;injection this
  subst e;obtain rfl:=hx.inj hy;exact a_ (Vn (d_ (by simpa using h)))
 .rw[k_ Hi];exact a_ (wpAny_richCompare_same_room (op:=.Eq) hx.typeIs hy.typeIs V8
   (SA V8 hx.typeIs F.entry_tuple_eq (JV (show A.units+1+1<cLine from hu) hx hy ⟨_,rfl,(λe=>nomatch e),Tv h⟩) (F.args_tuple_eq_2 _ _)) (by omega))
theorem Eg{k:Nat}{ks:Xl}{a:Xh}{Q:Bool->W_->Prop}(hk:IsTupleKey (aA P w) s.heap ks a)(h:Q true s):wpAny (model P w) A (eqIsQuiet (k+1) (.ref a)) Q E s:=by
 have hT:=hk.typeIs;obtain⟨o,items,n,ho,_,hd,hi⟩:=hk;unfold eqIsQuiet;refine a_ (TH hT V8.lookup ?_);show wpAny _ _ (isInstance (.ref a) (.type "tuple") >>= _) _ _ s;refine a_ (Uc hT VH ?_);simp only[Tu,x_,SS];refine a_ (TC ho hd ?_);refine a_ ?_;show wpAny _ _ (forIn items _ _) _ _ s;rw[<- Uh];refine Tr _ (λrest r s'=>r.1=none/\s'=s/\∀v∈rest,carriedByValue v=true) _ ?_ ?_ _ _ ⟨rfl,rfl,hi.byValue⟩
 .rintro v rest r s' ⟨hr,rfl,gT⟩;rw[eqIsQuiet_byValue _ (gT v o_)];refine a_ (d_ ?_);simp only[Tu,x_,SS];exact d_ ⟨rfl,rfl,λu Hl=>gT u (l_ _ Hl)⟩
 .rintro⟨r1,r2⟩ s' ⟨hr,rfl,_⟩;simp only at hr;subst hr;exact d_ h
theorem zZ{q:Xl}{a:Xh}{Q:Bool->W_->Prop}(hk:ic P w s.heap q a)(h:Q true s):wpAny (model P w) A (eqIsQuiet 8 (.ref a)) Q E s:=by
 have hT:=hk.typeIs;obtain⟨ps,o,items,n,rfl,ho,_,hd,hi⟩:=hk;unfold eqIsQuiet;refine a_ (TH hT V8.lookup ?_);show wpAny _ _ (isInstance (.ref a) (.type "tuple") >>= _) _ _ s;refine a_ (Uc hT VH ?_);simp only[Tu,x_,SS];refine a_ (TC ho hd ?_);refine a_ ?_;show wpAny _ _ (forIn items _ _) _ _ s;rw[<- Uh];refine Tr _ (λrest r s'=>r.1=none/\s'=s/\∃ps,fy P w s.heap ps rest) _ ?_ ?_ _ _ ⟨rfl,rfl,_,hi⟩
 .rintro v rest r s' ⟨hr,rfl,ps,gT⟩;cases gT with
  | @cons p c ps' us' h1 h2=>
  refine a_ (Eg (k:=6) h1 ?_);simp only[Tu,x_,SS];exact d_ ⟨rfl,rfl,_,h2⟩
 .rintro⟨r1,r2⟩ s' ⟨hr,rfl,_⟩;simp only at hr;subst hr;exact d_ h
end
def nc(P:Xa)(w:Xe):HeapKind P w Xl where
 is:=ic P w
 hash:=Oi
 draws:=λq=>(DF q).length*3+1
 room:=λA=>A.units+2<cLine
 inj:=λhx hy=>hx.inj hy
 keeps:=λx ho hd hs=>x.keeps ho hd hs
 pyHash:=λhu hk h=>FR (by omega) hk h
 eqBool:=λhu hx hy h=>JH hu hx hy h
 quiet:=λhk h=>zZ hk h
section
variable {P:Xa}{w:Xe}{K:Type}[DecidableEq K]{knd:HeapKind P w K}{A:Xb}{E:WR}{s:W_}
theorem sJ{d a:Xh}{xs:List (K×Xh×W9)}{k:K}{v:W9}{Q:WR}(hu:knd.room A)(ei:knd.is s.heap k a)(hm:s.heap.DictOfH knd d xs)
  (h1:∀p,atKey xs k=some p->Q p.2 {s with toks:=s.toks+knd.draws k})
  (h2:atKey xs k=none->∀h',h'.DictOfH knd d (xs++[(k,a,v)])->Heap.SameBut d s.heap h'->Q v {s with heap:=h',toks:=s.toks+knd.draws k})
  (hsz:xs.length<=sizeLine) :
  wpAny (model P w) A (dictSetDefault d (.ref a) v) Q E s:=by
 obtain⟨o,es,ep,ho,hc,hd,he,zA,hn⟩:=hm;unfold dictSetDefault
 try with_reducible refine Q_ ?_
 refine a_ (knd.pyHash hu ei ?_);refine a_ (wpAny_dictFind_heap (s:={s with toks:=s.toks+knd.draws k}) hu ei ho hd he zA hn ?_ ?_)
 .intro NL;have hnot:k∉xs.map (·.1):=not_mem_keys_of_get NL;refine a_ (Vn (a_ (wpAny_updateDictKeys (hz:=by have e:=size_of_entries he;omega) (s:={s with toks:=s.toks+knd.draws k}) ho hd (d_ (h2 (atKey_none_of_get NL) _ ⟨_,_,ep+1,SQ _ ho (Obj.isFreed_of_dict (Obj.data_mapDictKeys hd _)),
   hc.mapDictKeys _,Obj.data_mapDictKeys hd _,?_,?_,?_⟩ (SJ ..))))))
  .simp[he,entryOfKey]
  .intro x hx;rcases Sr.mp hx with hx | hx
   .exact knd.keeps (zA x hx) ho hd (SJ ..)
   .simp only[s_]at hx;subst hx;exact knd.keeps ei ho hd (SJ ..)
  .rw[O_,U0];refine⟨hn,by simp,?_⟩;intro x hx y hy;simp only[L_,Vt,s_]at hy;subst hy;exact λe=>hnot (e▸hx)
 .intro j p hj;refine a_ (VC (s:={s with toks:=s.toks+knd.draws k}) ho hd ?_);rw[entry_at he j,hj];exact a_ (Vn (d_ (h1 p (atKey_of_get hn hj))))
theorem qS{k:K}{a:Xh}(d:Xh)(hd:(d==sysModules)=false)(dflt:W9) :
  MeetsIn P w (Builtin.«dict.setdefault» ⟨[.ref d,.ref a,dflt],[]⟩) (λA R s=>knd.room A.in1/\∃xs,knd.is s.heap k a/\s.heap.DictOfH knd d xs/\xs.length<=sizeLine/\
   (∀p,atKey xs k=some p->R (.ok (.ret p.2)) {s with toks:=s.toks+knd.draws k})/\
   (atKey xs k=none->∀h',h'.DictOfH knd d (xs++[(k,a,dflt)])->Heap.SameBut d s.heap h'->R (.ok (.ret dflt)) {s with heap:=h',toks:=s.toks+knd.draws k})):=
 .of_wp λA R s ⟨hu,xs,hk,hm,hz,h1,h2⟩=>by
  unfold Builtin.«dict.setdefault»;refine a_ ?_;unfold Builtin.Dict.keyAndDefault;refine a_ (wpAny_notOrdered_dict hm.typeIs ?_);show wpAny _ _ (pure (d,Value.ref a,some dflt)) _ _ s;refine d_ ?_;show wpAny _ _ (if(d==sysModules)=true then _ else(dictSetDefault d (.ref a) dflt >>= _)) _ _ s;rw[k_ (by rw[hd];exact P_)];exact a_ (sJ (hsz:=hz) hu hk hm (λp hp=>d_ ⟨_,rfl,h1 p hp⟩) λhn h' hm' hs'=>d_ ⟨dflt,rfl,h2 hn h' hm' hs'⟩)
end
theorem we(P:Xa)(w:Xe):E8=entryOfKey (nc P w):=rfl
theorem oP(a:Xh)(ep:Nat)(ks:Xk)(bs:W2)(vs:Xq):∀h1 h2:Xd,jC a ep ks bs vs h1->(∀o,h1.get? a=some o->h2.get? a=some o)->jC a ep ks bs vs h2:=λh1 h2 ⟨o,es,us,e,r⟩ k=>⟨o,es,us,k o e,r⟩
theorem Iq{P:Xa}{w:Xe}{h:Xd}(d:h.DictOfH (nc P w) a (ek ks bs us))(hv:av vs us)(h1:bs.length=ks.length)(h2:us.length=ks.length)(hs:(a==sysModules)=false)(hz:ks.length<=16000000):∃ep,jC a ep ks bs vs h:=by
 obtain⟨o,es,ep,e1,e2,e3,e4,_,e6⟩:=d;rw[cV h1 h2]at e6;exact⟨ep,o,es,us,e1,e2,e3,hv,by rw[e4,we P w],e6,hs,hz,h1,h2⟩
section
variable {X:Cx}{rg:Gr}{l r o:Xi}{fa fb:Fe}{ga gb:Gr}{pos p:Pos}{k:Nat}
theorem w9:∀{cs:W2}{us:WY},av (cs.map V.ref) us->us=cs.map Value.ref
 | [],_,h=>by cases h;rfl
 | c::cs,_,h=>by cases h with | cons a b=>rw[show _=Value.ref c from a,w9 b];rfl
theorem Ae{pins σ H s}(I:Inv X pins σ H s):∀{ps:WW}{cs:W2},km X.K H ps cs->fy X.prog X.w s.heap ps (cs.map Value.ref)
 | [],cs,h=>by
  have:=h.1;cases cs with
  | nil=>exact .nil
  | cons a b=>simp at this
 | p::ps,[],h=>by have:=h.1;simp at this
 | p::ps,c::cs,h=>.cons (jw I (q:=kk p) (h.2 0 p c rfl rfl)) (Ae I ⟨by have:=h.1;simpa using this,λi q b h1 h2=>h.2 (i+1) q b (by simpa using h1) (by simpa using h2)⟩)
theorem uZ{pins σ H s}{ps:WW}{cs:W2}{b:Xh}(I:Inv X pins σ H s)(hq:cw X.K H b (cs.map V.ref))(hp:km X.K H ps cs):ic X.prog X.w s.heap (fA ps) b:=by
 obtain⟨aQ,rv,⟨o,h1,h2,n',h3⟩,_⟩:=I.tuple hq;have e:=w9 rv;subst e;exact⟨ps,o,_,n',rfl,h1,h2,h3,by simpa using Ae I hp⟩
theorem GW{pins σ H s}(I:Inv X pins σ H s)(hc:H c=some (.ext (jC c ep ks bs vs)))(hp:n4 X.K H ks bs) :
  ∃us,av vs us/\bs.length=ks.length/\us.length=ks.length/\s.heap.DictOfH (nc X.prog X.w) c (ek ks bs us)/\(c==sysModules)=false/\ks.length<=16000000:=by
 have hS:jC c ep ks bs vs s.heap:=(show aV X.prog X.w H s.heap c (.ext (jC c ep ks bs vs))from I.hok c _ hc).1;obtain⟨o,es,us,e1,e2,e3,hv,e4,e5,e6,e7,h1,h2⟩:=hS;refine⟨us,hv,h1,h2,⟨o,es,ep,e1,e2,e3,by rw[e4,we X.prog X.w],λx hx=>?_,by rw[cV h1 h2];exact e5⟩,e6,e7⟩;obtain⟨i,a1,a2⟩:=wQ hx;obtain⟨ps,cs,e,q,r⟩:=hp i _ _ a1 a2;rw[e];exact uZ I q r
def prD(p:W7):D:=.tup [.int p.1,.int p.2]
def K0:Xo->Option WW
 | []=>some []
 | .tup [.int a,.int b]::ds=>(K0 ds).map ((a,b)::·)
 | _=>none
theorem wA:∀ps:WW,K0 (ps.map prD)=some ps
 | []=>rfl
 | p::ps=>by show(K0 (ps.map prD)).map _=_;rw[wA ps];rfl
theorem BF{ds:Xo}:∀{ps},K0 ds=some ps->ds=ps.map prD:=by
 induction ds with
 | nil=>intro ps e;cases e;rfl
 | cons d ds ih=>
  intro ps e;unfold K0 at e
  split at e
  .rename_i h;cases h
  .rename_i h;cases h;obtain⟨qs,e1,rfl⟩:=D_.mp e;rw[ih e1];rfl
  .cases e
theorem sH{K:Fg}{H:Hp}:∀{ps:WW}{vs:Xq},ak K H (ps.map prD) vs->∃cs:W2,vs=cs.map V.ref/\km K H ps cs
 | [],_,h=>⟨[],h,rfl,λi p b h1=>by simp at h1⟩
 | p::ps,_,⟨v,r,e,⟨c,us,e1,hq,u1,r1,e2,g1,u2,r2,e3,g2,e4⟩,t⟩=>by
  obtain⟨cs,rfl,hp⟩:=sH t;subst e e1 e2 e3;cases(show u1=V.int p.1 from g1);cases(show u2=V.int p.2 from g2);cases(show r2=[]from e4);refine⟨c::cs,rfl,by simpa using hp.1,λi q b h1 h2=>?_⟩;cases i with
  | zero=>cases h1;cases h2;exact hq
  | succ i=>exact hp.2 i q b (by simpa using h1) (by simpa using h2)
theorem sM{K:Fg}{H:Hp}:∀{ps:WW}{cs:W2},km K H ps cs->ak K H (ps.map prD) (cs.map V.ref)
 | [],cs,h=>by
  have:=h.1;cases cs with
  | nil=>rfl
  | cons a b=>simp at this
 | p::ps,[],h=>by have:=h.1;simp at this
 | p::ps,c::cs,h=>⟨_,_,rfl,⟨c,_,rfl,h.2 0 p c rfl rfl,_,_,rfl,rfl,_,_,rfl,rfl,rfl⟩,sM ⟨by have:=h.1;simpa using this,λi q b h1 h2=>h.2 (i+1) q b (by simpa using h1) (by simpa using h2)⟩⟩
def zd:D->Option WW
 | .tup ts=>K0 ts
 | _=>none
theorem AO(ps:WW):zd (.tup (ps.map prD))=some ps:=wA ps
theorem sL{K:Fg}{Z:Hp}{d:D}{v:V}{ps:WW}(h:Rep K Z d v)(e:zd d=some ps):∃b cs,v=.ref b/\cw K Z b (cs.map V.ref)/\km K Z ps cs:=by
 cases d<;>try cases e
 cases BF e;obtain⟨b,vs,rfl,hq,rr⟩:=h;obtain⟨cs,rfl,hp⟩:=sH rr;exact⟨b,cs,rfl,hq,hp⟩
def O5:D->Option (Xk×Xo)
 | .nt ks ds=>some (ks,ds)
 | _=>none
theorem sD(h:O5 d=some x):d=.nt x.1 x.2:=by cases d<;>cases h;rfl
def yf(x y:D):Xp:=(O5 x).bind λm=>(zd y).bind λq=>bE m.1 m.2 (fA q)
def GK(K:Fg):R2:=λx y H Q=>∃(a b:Xh)(ep:Nat)(ks:Xk)(bs:W2)(vs:Xq)(ps:WW)(cs:W2)(v:V),x=.ref a/\H a=some (.ext (jC a ep ks bs vs))/\n4 K H ks bs/\y=.ref b/\cw K H b (cs.map V.ref)/\km K H ps cs/\bE ks vs (fA ps)=some v/\Q v H
theorem Ew(hu:X.A.units+3<cLine)(ho:PE X o td)(hi:PE X i ty)(hs:CA i):PE X (.Subscript o i pos) (Ey (GK X.K) td ty):=by
 intro pins s σ H Q I h;refine wy Wr.lookup hs (aZ (ho pins s σ H _ I h) λu s1 ⟨x,H1,I1,rx,q1⟩=>aZ (hi pins s1 σ H1 _ I1 q1) λiv s2 aC=>?_);obtain⟨y,H2,I2,ry,a,b,ep,ks,bs,vs,ps,cs,v,ex,hc,hp,ey,hq,hr,hl,q2⟩:=aC;subst ex ey;obtain rfl:u=Value.ref a:=rx;obtain rfl:iv=Value.ref b:=ry;obtain⟨us,hv,h1,h2,dd,nU,hz⟩:=GW I2 hc hp;obtain⟨w',e1,e2⟩:=av.look hv hl;rw[<- qJ _ h1 h2]at e1;obtain⟨pr,e3,e4⟩:=D_.mp e1;exact⟨dd.typeIs,wpAny_getItem_heap (knd:=nc X.prog X.w) (show X.A.units+1+2<cLine from hu) (uZ I2 hq hr) dd e3 (by rw[e4];exact⟨v,H2,I2.tok _,e2,q2⟩)⟩
theorem Jd{K:Fg}:ck K .cl yf (GK K):=λ{Z H x y dx dy d Q} s h1 h2 e kq=>by
 obtain⟨m,e1,e⟩:=b_.mp e;obtain⟨q,e2,e3⟩:=b_.mp e;cases sD e1;have h2':Rep K Z dy y:=by
  rcases h2 with h2 | ⟨_,_,_,_,e,_⟩ | ⟨_,_,_,e,_⟩ | ⟨_,_,_,_,_,e,_⟩
  .exact h2
  all_goals subst e;cases e2
 rcases h1 with h1 | ⟨_,_,_,_,e,_⟩ | ⟨_,_,_,e,_⟩ | ⟨_,_,_,_,_,e,_⟩
 .obtain⟨a,ep,bs,vs,rfl,hc,hp,rr⟩:=h1;obtain⟨b,cs,rfl,hq,hr⟩:=sL h2' e2;obtain⟨v,e4,e5⟩:=rr.look e3;exact⟨a,b,ep,m.1,bs,vs,q,cs,v,rfl,s _ _ hc,hp.mono s,rfl,bJ s hq,hr.mono s,e4,kq v Z H (Ex.refl s) e5⟩
 all_goals cases e
theorem Ah{A:Xb}{k:Nat}(hr:a9 k A):A.units+3<cLine:=UP (Nat.add_le_add_left (by decide:3<=64) _) hr.units
theorem HJ(hr:a9 k X.A)(ha:PD X ga l fa)(hb:PD X gb r fb)(hs:CA r:=by intro _ _;rfl):PD X .cl (.Subscript l r pos) (ao yf fa fb):=
 PE.imp (Ew (Ah hr) ha hb hs) λ_ _ _ h=>fU Jd h
theorem FY:PE X (.Dict [] [] pos) (λσ H Q=>∀a,H a=none->Q (.ref a) (upd H a (.ext (jC a 0 [] [] [])))):=λpins s σ H Q I hT=>by
 have hf:=I.hok.fresh (h_ s.sz);have hd:jC s.sz 0 [] [] [] (s.heap.push {cls:=.type "dict",data:=.dict #[]}):=⟨_,#[],[],n_ _ rfl,⟨rfl,rfl,rfl⟩,rfl,.nil,rfl,U4,by have:=I.big;simpa using (T7 this),by simp,rfl,rfl⟩;exact wpAny_Dict_empty ⟨.ref s.sz,_,I.laid (o:=.ext (jC s.sz 0 [] [] [])) (λ_ _ q=>e_ _ q) (h_ _) ⟨hd,⟨_,n_ _ rfl⟩,oP _ _ _ _ _⟩,rfl,hT _ hf⟩
def Lr(i:Nat):Fs:=λenv=>some (.nx (env.set i (.O (.N [] []))))
theorem J5(i:Nat)(hN:X.N.Nodup)(hi:X.N[i]?=some x:=by rfl)(hx:Loc X.env.scope x:=by first | exact Or.inl rfl | exact Or.inr rfl)(hs:swapsWith (.Dict [] [] p) (some (.Name x pos')) pos.line X.env=pure false:=by rfl)
  (hf:X.fn x=true\/X.env.scope.names.lookup x=some .local:=by first | exact .inl rfl | exact .inr rfl | assumption):SD X rg (.Assign [.Name x pos'] (.Dict [] [] p) pos) (Lr i):=PS.imp (fK hN hi hx FY hs hf) λE σ H h=>by
 obtain⟨env,B,Z,o,R,e,k⟩:=h;cases e;intro a ha;have x1:Ex Z H Z (upd H a (.ext (jC a 0 [] [] []))):=Ex.newL R.zh ha;refine k _ Z _ (x1.part R.bh) ((R.ext x1).setO i (R.bh.free ha) (R.zh.free ha) ai (show bU X.K Z a (.N [] []) _ from⟨0,[],[],rfl,λi k b h=>by simp at h,rfl⟩) λj es hj hje hja=>?_);obtain⟨y,e4,b,us,e5,e6,_⟩:=R.sl j _ hje;rw[hja]at e4;cases e4;cases e5;rw[ha]at e6;cases e6
def LK(K:Fg)(td ty tx:TE):TE:=λσ H Q=>td σ H λx H1=>∃a ep ks bs vs,x=.ref a/\H1 a=some (.ext (jC a ep ks bs vs))/\n4 K H1 ks bs/\ty σ H1 λy H2=>tx σ H2 λz H3=>∃b ps cs,H3 a=some (.ext (jC a ep ks bs vs))/\n4 K H3 ks bs/\y=.ref b/\cw K H3 b (cs.map V.ref)/\km K H3 ps cs/\ks.length<16000000/\
 (∀v,bE ks vs (fA ps)=some v->Q v H3)/\(fA ps∉ks->bs.length=ks.length->∀xR,Q z (upd H3 a (.ext (jC a xR (ks++[fA ps]) (bs++[b]) (vs++[z])))))
theorem DQ(hu:X.A.units+3<cLine)(ho:PE X o td)(he:PE X e ty)(hf:PE X f tx)(m:M2 X o "setdefault" apos e f be):PE X (.Call (.Attribute o "setdefault" apos) [e,f] [] be) (LK X.K td ty tx):=by
 intro pins s σ H Q I h;refine wpAny_Call_method m.base m.few m.line PySem.F.plainAttrs_dict T6 V6 (aZ (ho pins s σ H _ I h) λu s1 aC=>?_);obtain⟨x,H1,I1,rx,a,ep,ks,bs,vs,ex,hc1,RA,q1⟩:=aC;subst ex;obtain rfl:u=Value.ref a:=rx;obtain⟨ob,es,us,h2,h3,h4,_⟩:jC a ep ks bs vs s1.heap:=(show aV X.prog X.w H1 s1.heap a (.ext (jC a ep ks bs vs))from I1.hok a _ hc1).1;have t1:s1.TypeIs (.ref a) "dict":=⟨ob,h2,h3.1⟩;have t2:∀b,Value.ref a=.ref b->∃ob,s1.heap.get? b=some ob/\ob.dict=none:=λb q=>by cases q;exact⟨ob,h2,h3.2.1⟩
 refine⟨t1,t2,?_⟩;rw[m.trees];clear h2 h3 h4 t1 t2;refine UO rfl (VU (UL (aZ (he pins s1 σ H1 _ I1 q1) λiv s2 ⟨y,H2,I2,ry,q2⟩=>UL (aZ (hf pins s2 σ H2 _ I2 q2) λfv s3 aC=>Wu ?_))));obtain⟨z,H3,I3,rz,b,ps,cs,hc,hk,ey,hq,hr,hl,q3,q4⟩:=aC;subst ey;obtain rfl:iv=Value.ref b:=ry;obtain⟨us,hv,h1,h2,dd,nU,hz⟩:=GW I3 hc hk;refine call_meetsIn T6 dd.typeIs V1 (VP _ _ _) (qS (knd:=nc X.prog X.w) (k:=fA ps) a nU fv) ⟨show X.A.units+1+2<cLine from hu,_,uZ I3 hq hr,dd,by rw[Sz,<- c_ (f:=(·.1)),cV h1 h2];lia,λpr hpr=>?_,λhn h' dd' hs'=>?_⟩
 .have e1:bE ks us (fA ps)=some pr.2:=by rw[<- qJ _ h1 h2,hpr];rfl
  have QD:vs.length=ks.length:=by rw[av.length hv];exact h2
  cases e:bE ks vs (fA ps)with
  | none=>
   have g1:=lO (q:=fA ps) (ds:=vs) QD;have g2:=lO (q:=fA ps) (ds:=us) h2;rw[e]at g1;rw[e1]at g2;rw[<- g1]at g2;cases g2
  | some v=>
   obtain⟨w',e3,e2⟩:=av.look hv e;rw[e1]at e3;cases e3;exact⟨v,H3,I3.tok _,e2,q3 v e⟩
 .have hnq:fA ps∉ks:=λhin=>by
   have g:=qj (fA ps) h1 h2;rw[hn,w_ hin]at g;cases g
  rw[<- l8 (fA ps) b fv h1 h2]at dd';obtain⟨xR,jI⟩:∃xR,jC a xR (ks++[fA ps]) (bs++[b]) (vs++[z]) h':=Iq dd' (av.append hv (.cons rz .nil)) (by simp[h1]) (by simp[h2]) nU (by simp;lia);have hg:∃o,h'.get? a=some o:=let ⟨o,_,_,e,_⟩:=jI;⟨o,e⟩;exact⟨z,upd H3 a (.ext (jC a xR (ks++[fA ps]) (bs++[b]) (vs++[z]))),I3.write (by rw[hc];exact True.intro) (.inl rfl) (λb u hb z=>(hs'.2 b hb).trans z) hg ⟨jI,hg,oP _ _ _ _ _⟩,rz,q4 hnq h1 xR⟩
def JL(i:Nat)(fk fx:Fe):Fs:=λenv=>(fk env).bind λkd=>(fx env).bind λd=>(zd kd).bind λq=>match env[i]? with
 | some (.O (.N ks ds))=>if ks.length<16000000/\ds.length=ks.length then some (.nx (env.set i (.O (if fA q∈ks then .N ks ds else .N (ks++[fA q]) (ds++[d])))))else none
 | _=>none
theorem JK(i:Nat)(hr:a9 k X.A)(hk:PD X .cl ke fk)(hx:PD X .cl ve fx)(hN:X.N[i]?=some x:=by rfl)(Ho:xy X.env.scope x:=by first | exact Or.inl rfl | exact Or.inr (Or.inl rfl) | exact Or.inr (Or.inr rfl))
  (hd:(x==("__debug__":Str))=false:=by decide) (dO:(x==("__classdict__":Str))=false:=by decide)
  (h1:attributeBase (.Name x px) "setdefault" X.env (eval (.Name x px) X.env)=eval (.Name x px) X.env:=by rfl) (h2:((backTo be (starEach [ke,ve] X.env)).all (λx=>!x.1)&&(backToKw be (keywordEach [] X.env)).all (λx=>x.1.isSome)
   && decide (([ke,ve]:W3).length+([]:List Keyword).length+(if([]:List Keyword).isEmpty then 0 else 1)<30))=true:=by rfl) (h3:(apos.endLine==be.line)=true:=by rfl)
  (h4:backTo be (starEach [ke,ve] X.env)=[(false,eval ke X.env),(false,eval ve X.env)]:=by rfl)
  (hs:swapsWith (.Call (.Attribute (.Name x px) "setdefault" apos) [ke,ve] [] be) none pos.line X.env=pure false:=by rfl) :
  SD X rg (.Expr (.Call (.Attribute (.Name x px) "setdefault" apos) [ke,ve] [] be) pos) (JL i fk fx):=by
 refine PS.imp (jE (DQ (Ah hr) (bH hN Ho hd dO) hk hx ⟨h1,h2,h3,h4⟩) hs) λE σ H aC=>?_;refine cN λ_ kg=>?_;obtain⟨env,B,Z,o,R,e,kq⟩:=aC;obtain⟨kd,e1,e⟩:=b_.mp e;obtain⟨d,e2,e⟩:=b_.mp e;obtain⟨q,e7,e⟩:=b_.mp e
 split at e
 .rename_i ks ds hi;obtain⟨⟨hlen,Gj⟩,rfl⟩:=kX e;obtain⟨y,e3,c,o,e4,e5,e6,ep,bs,vs,rfl,hp,rr⟩:=R.sl i _ hi;subst e4;refine kg ⟨_,e3,c,ep,ks,bs,vs,rfl,e5,hp.mono R.zh,env,B,Z,kd,R,e1,λkv Z1 H1 x1 g1=>⟨env,B,Z1,d,R.ext x1,e2,λv Z2 H2 x2 g2=>?_⟩⟩;clear kg;have R2:=(R.ext x1).ext x2;have x0:=x1.trans x2;obtain⟨b,cs,rfl,hq,rD⟩:=sL (show Rep X.K Z1 kd kv from g1) e7;refine⟨b,q,cs,x2.h _ _ (x1.h _ _ e5),(hp.mono x0.z).mono x0.zh,rfl,bJ x0.zh (bJ x2.z hq),(rD.mono x2.z).mono x0.zh,hlen,λu hu=>?_,λhn hbl xR=>?_⟩
  .have hin:fA q∈ks:=Us λz=>by
    have g:=lO (q:=fA q) (ks:=ks) (ds:=vs) (by rw[<- Gj];exact rr.len.symm);rw[hu,E_ z]at g;cases g
   rw[j_ hin]at kq;have he:env.set i (.O (.N ks ds))=env:=by
    refine Uw λj=>?_
    by_cases hj:i=j
    .subst hj;rw[v_ (i_.mp hi).1,hi]
    .rw[p_ hj]
   rw[he]at kq;exact kq σ Z2 H2 (x0.part R.bh) R2
  .rw[k_ hn]at kq;have NM:n4 X.K Z2 (ks++[fA q]) (bs++[b]):=λi k b' h1 h2=>by
    by_cases hi:i<ks.length
    .rw[I_ hi]at h1;rw[I_ (by rw[hbl];exact hi)]at h2;exact hp.mono x0.z i k b' h1 h2
    .rw[G_ (by lia)]at h1;rw[G_ (by rw[hbl];lia)]at h2;have hz:i-ks.length=0:=by
      have:=(i_.mp h1).1;simp at this;lia
     rw[hz]at h1;rw[hbl,hz]at h2;cases h1;cases h2;exact⟨q,cs,rfl,bJ x2.z hq,rD.mono x2.z⟩
   obtain⟨R3,x3⟩:=R2.wr hi e3 (show bU X.K _ c (.N (ks++[fA q]) (ds++[d])) _ from⟨xR,_,_,rfl,NM,(ak.mono x0.z ds rr).app (ak.one g2)⟩);exact kq σ _ _ ((x0.part R.bh).transB x3) R3
 .cases e
def Q6(a:Xh)(ep:Nat)(ks:Xk)(bs:W2)(vs:Xq):It:=⟨λi H=>H a=some (.ext (jC a ep ks bs vs))/\i<ks.length,λi H x H'=>H'=H/\∃b,bs[i]?=some b/\x=.ref b,λi H=>H a=some (.ext (jC a ep ks bs vs))/\ks.length<=i⟩
theorem uT{P:Xa}{w:Xe}{K:Fg}{tg:Xi}{it a:Xh}{ep:Nat}{ks:Xk}{bs:W2}{vs:Xq} :
  Turn P w K tg (Q6 a ep ks bs vs) [it] it (λn h=>h.IsKeyIter it a n ks.length ep) where
 mem:=by simp
 obj:=λi h st b hb=>by
  have e:b=it:=by simpa using hb
  subst e;obtain⟨o,e,c,d⟩:=st;exact⟨o,e,λv z=>by rw[d]at z;cases z⟩
 keep:=λi h h' st k=>st.at λo e=>k it (by simp) o e
 item:=by
  intro X hP hw hK hc i pins s σ H E I hf st hg;subst hP hw hK;obtain⟨ha,hi⟩:=hg;obtain⟨ob,es,us,h1,h2,hd,hv,he,hn,nU,hz,l1,l2⟩:jC a ep ks bs vs s.heap:=(show aV X.prog X.w H s.heap a (.ext (jC a ep ks bs vs))from I.hok a _ ha).1;have hsz:es.size=ks.length:=by rw[<- Sv,he,c_,<- c_ (f:=(·.1)),cV l1 l2]
  obtain⟨f0,f1,f2,f3,f4,f5⟩:=hf it (by simp);rw[<- hsz]at st;refine l' st h1 hd (by rw[hsz];exact hi) λh' lS sb=>?_;have I1:Inv X pins σ H {s with heap:=h'}:=I.turned (t':=s.toks) (λb o hb e=>(sb.2 b hb).trans e) f0 f1 f3 f4 f5;obtain⟨o,e,c,d⟩:=id lS;have OK:i<bs.length:=by rw[l1];exact hi
  have e2:(es[i]'(by rw[hsz];exact hi)).key=Value.ref bs[i]:=by
   have hiu:i<us.length:=by rw[l2];exact hi
   have g:es.toList[i]?=some (E8 (ks[i],bs[i],us[i])):=by
    rw[he,m_];have:(ek ks bs us)[i]?=some (ks[i],bs[i],us[i]):=by
     unfold ek;rw[Te];exact⟨by simp[hi],by rw[Te];exact⟨by simp[OK],by simp[hiu]⟩⟩
    rw[this];rfl
   have g2:es[i]?=some (E8 (ks[i],bs[i],us[i])):=by rw[<- g];simp
   rw[SH (by rw[hsz];exact hi)]at g2;rw[Option.some.inj g2];rfl
  rw[hsz]at lS;rw[e2];exact⟨_,rfl,tL (s:={s with heap:=h'}) e c d (by decide) ⟨V.ref bs[i],H,I1,rfl,⟨rfl,bs[i],f_ OK,rfl⟩,lS,λb hb=>(hf b hb).1⟩⟩
 done:=by
  intro X hP hw hK hc i pins s σ H E I hf st hg;subst hP hw hK;obtain⟨ha,hi⟩:=hg;obtain⟨ob,es,us,h1,h2,hd,hv,he,hn,nU,hz,l1,l2⟩:jC a ep ks bs vs s.heap:=(show aV X.prog X.w H s.heap a (.ext (jC a ep ks bs vs))from I.hok a _ ha).1;have hsz:es.size=ks.length:=by rw[<- Sv,he,c_,<- c_ (f:=(·.1)),cV l1 l2]
  obtain⟨f0,f1,f2,f3,f4,f5⟩:=hf it (by simp);rw[<- hsz]at st;exact qV (I.ok.hd hc) st h1 hd (by rw[hsz];exact hi) λh' eb=>⟨rfl,I.turned (t':=s.toks) (λb o hb e=>eb b o hb e) f0 f1 f3 f4 f5⟩
 self:=λ_ _ _ _ _ st h=>V0 st h
def HG(td:TE):TI:=λσ H R=>td σ H λx H1=>∃(a:Xh)(ep:Nat)(ks:Xk)(bs:W2)(vs:Xq),x=.ref a/\H1 a=some (.ext (jC a ep ks bs vs))/\R (Q6 a ep ks bs vs) H1
theorem BO{l:Xi}{tl:TE}(hl:PE X l tl):PI X tg l (HG tl):=by
 intro pins s σ H R I h;refine aZ (hl pins s σ H _ I h) λv s1 ⟨x,H1,I1,r1,q1⟩=>?_;obtain⟨a,ep,ks,bs,vs,e,hc,q⟩:=q1;subst e;cases r1;obtain⟨ob,es,us,h2,e1,e2,hv,he,hn,nU,hz,l1,l2⟩:jC a ep ks bs vs s1.heap:=(show aV X.prog X.w H1 s1.heap a (.ext (jC a ep ks bs vs))from I1.hok a _ hc).1;have hsz:es.size=ks.length:=by rw[<- Sv,he,c_,<- c_ (f:=(·.1)),cV l1 l2]
 refine ng nU h2 e1 e2 ?_;rw[hsz];refine⟨s1.heap.objs.size,[s1.heap.objs.size],_,_,H1,rfl,I1.kept (t':=s1.toks) λb o e=>e_ _ e,uT,⟨_,n_ _ rfl,rfl,rfl⟩,λb hb=>?_,q⟩;have e:b=s1.heap.objs.size:=by simpa using hb
 subst e;exact I1.fpOk (h_ _) (I1.hok.fresh (h_ _))
def LG(q:Xl):D:=.tup ((DF q).map prD)
def Ob(f:Fe):Fi:=λenv=>(f env).bind λd=>(O5 d).bind λm=>some (m.1.map LG)
theorem EU(h:PD X .cl l f):ID X tg l (Ob f):=by
 refine PI.imp (BO h) λσ H R aC=>?_;refine cN λ_ kq=>?_;obtain⟨env,B,Z,ds,Rr,e,k⟩:=aC;obtain⟨d,e1,e2⟩:=b_.mp e;obtain⟨m,e3,e4⟩:=b_.mp e2;cases e4;cases sD e3;refine kq (⟨env,B,Z,_,Rr,e1,λv Z1 H1 x1 g1=>?_⟩);clear kq;obtain⟨a,ep,bs,vs,rfl,hc,hp,rr⟩:=g1;refine⟨a,ep,m.1,bs,vs,rfl,x1.zh _ _ hc,k _ Z1 H1 x1 λZ' H' s1 s2 i=>?_⟩;have ha:=(s1.trans s2) _ _ hc;rw[c_];refine⟨λhi=>⟨⟨ha,hi⟩,λx H'' y=>?_⟩,λhi=>⟨ha,hi⟩⟩;obtain⟨rfl,b,hb,e5⟩:=y;obtain⟨ps,cs,g1,g2,g3⟩:=hp i m.1[i] b (by simp[hi]) hb;refine⟨Z',LG m.1[i],Ex.refl s2,by simp[hi],?_⟩;rw[e5];show Rep X.K Z' (.tup ((DF m.1[i]).map prD)) _;rw[g1,kP];exact⟨_,_,rfl,bJ s1 g2,sM (g3.mono s1)⟩
end
section
variable {X:Cx}{l r e:Xi}{fa fb:Fe}{ga gb:Gr}{pos p:Pos}{k:Nat}{th:Str->Int}
def CB(K:Fg)(th:Str->Int):Xq->Hp->VK->Prop:=λxs H Q=>∃(a:Xh)(ks:Xk)(bs:W2)(vs:Xq)(kss:Xk),xs=[.ref a]/\H a=some (.ext (fu th a ks bs vs))/\(bs.length=ks.length->oH K H (bs.map V.ref) kss)/\ks.length<64/\tG kss=true/\
 ∀q,H q=none->bs.length=ks.length->Q (.ref q) (upd H q (.lst ((cy kss).map λi=>(bs.map V.ref).getD i .non)))
theorem uQ(hc:X.calm=true):dB X (.builtin "sorted") (CB X.K th):=by
 intro pins s σ H xs us Q I rs h;obtain⟨a,ks,bs,vs,kss,rfl,hm,hkt,Hr,hlx,q⟩:=h;obtain⟨u,rfl,rx⟩:=vals1 rs;cases rx;obtain⟨o,es,ep,us,h1,h2,h3,h4,h5,h6,h7,h8,h9,ON⟩:=(show aV X.prog X.w H s.heap a (.ext (fu th a ks bs vs))from I.hok a _ hm).1;have e1:es.toList.map (·.key)=bs.map Value.ref:=by
  rw[h5,SM];have:((λe:DictEntry=>e.key) ∘ Fd th)=Value.ref ∘ (Prod.fst ∘ Prod.snd):=rfl;unfold ek;rw[this,<- SM,<- SM,List.map_snd_zip (by rw[V7];lia),List.map_fst_zip (by lia)]
 have e2:es.size=ks.length:=by rw[<- Sv,<- c_ (f:=(·.key)),e1,c_,h9]
 refine Ur UA plain_sorted entry_sorted (args_sorted1 _) ?_;unfold Builtin.«sorted»;refine a_ (m:=checkCount "sorted" 1 1 _) (d_ (a_ (PySem.W.kdu_collect (A:=X.A.in1) (ES (es:=es) (ep:=ep) h7) (I.ok.hd hc) ⟨o,h1,h2,h3⟩ (by rw[e2,Sz];lia) λh' tk acc hk hacc=>?_)));have e3:acc.toList=bs.map Value.ref:=by
  rw[<- e1];refine Uw λj=>?_;rw[UZ,m_,UZ]
  by_cases hj:j<es.size
  .have KG:j<acc.size:=by rw[hacc.1];exact hj
   obtain⟨e,h1,h2⟩:=hacc.2 j _ (SH KG);rw[h1,SH KG,h2];rfl
  .rw[Td (by rw[hacc.1];lia),Td (by lia)];rfl
 rw[e3];have hkt:=hkt h9;have hkl:=hkt.len;rw[c_]at hkl;have ht:bP s.heap (bs.map Value.ref) kss:=hkt.heap I (jW bs);have K9:bP (h'.push {cls:=.type "list",data:=.seq (bs.map Value.ref).toArray}) (bs.map Value.ref) kss:=ht.keeps λb o hb _=>e_ _ (hk b o hb);refine a_ (UW ?_ (by rw[c_,Sz];lia));have ho:(h'.push {cls:=.type "list",data:=.seq (bs.map Value.ref).toArray}).get? h'.objs.size=some (seqObj "list" (bs.map Value.ref).toArray 0):=n_ _ rfl;refine a_ (Q_ (SA slot_list_sort ⟨_,ho,rfl⟩ V4 (gz (s:={s with heap:=h'.push {cls:=.type "list",data:=.seq (bs.map Value.ref).toArray},toks:=tk}) ho K9 hlx (by rw[c_];lia) ⟨_,rfl,d_ ⟨_,rfl,?_⟩⟩) (args_list_sort _)));obtain⟨e,he⟩:=sortedHeap_at (out:=((cy kss).map λi=>(bs.map Value.ref).getD i .none).toArray) ho;have v2:=ia (jW bs) (is:=cy kss) λi hi=>by have:=hU i hi;rw[c_];lia
 have I1:Inv X pins σ H {s with heap:=h',toks:=tk}:=I.kept hk;refine⟨.ref h'.objs.size,_,I1.laid (t':=tk) (o:=.lst ((cy kss).map λi=>(bs.map V.ref).getD i .non)) (λb o z=>?_) (h_ _) ⟨by rw[c_,mw,Sz];lia,_,e,v2,by simpa using he⟩,rfl,q _ I1.fresh h9⟩;have hb:b<h'.objs.size:=q_ z;rw[sortedHeap_old (z_ hb) (by rw[Wk];lia)];exact e_ _ z
noncomputable def pO(th:Str->Int)(x:D):Xp:=(Hf th x).bind kU
theorem E2{K:Fg}:ik K .nw (pO th) (CB K th):=λ{Z H x dx d Q} s h e k=>by
 obtain⟨y,e,e'⟩:=b_.mp e;obtain⟨m,h1,h2⟩:=b_.mp e;obtain⟨ho,rfl⟩:=kX h2;cases si h1;obtain⟨a,rfl,bs,vs,hm,hk,_⟩:=h.mp s;obtain⟨kss,g1,g2⟩:=b_.mp e';obtain⟨hl,rfl⟩:=kX g2;refine⟨a,m.1,bs,vs,kss,rfl,hm,λhb=>(oH.of g1 (g9 hb hk ho)).mono s,by simpa using hl.1,hl.2,λp hp hb=>k _ Z _ (Ex.newL s hp) ⟨p,_,_,rfl,rfl,hp,ai,s.free hp,kc (g9 hb hk ho) λi hi=>?_⟩⟩;have:=hU i hi;have:=(oH.of g1 (g9 (K:=K) (Z:=Z) hb hk ho)).len;rw[c_]at this;rw[c_];lia
theorem Fc(hm:X.mg "sorted"=none)(bp:X.calm=true)(ha:PD X ga l fa)(hg:Gl X "sorted":=by rfl)(he:starEach [l] X.env=[(false,eval l X.env)]:=by rfl):PD X .nw (.Call (.Name "sorted" p) [l] [] pos) (br (pO th) fa):=
 tY (uQ bp) E2 UB hm ha (by decide) (by decide) hg he
end
end Mi
namespace K31
open PySem Mi
abbrev aq:Fe:=λenv=>bI env 0
abbrev ah:Fe:=λenv=>bI env 1
abbrev aK:Fe:=λenv=>bI env 2
abbrev aB:Fe:=λenv=>bI env 3
abbrev aP:Fe:=λenv=>bI env 4
abbrev dQ:Fe:=λenv=>bI env 5
abbrev cb:Fe:=λenv=>bI env 6
abbrev pP:Fe:=λenv=>bI env 7
abbrev jH:Fe:=λenv=>bI env 8
abbrev ez:Fe:=λenv=>bI env 9
abbrev dW:Fe:=λenv=>bI env 10
abbrev gF:Fe:=λenv=>bI env 11
abbrev dq:Fe:=λenv=>bI env 12
abbrev Bx:Fe:=λenv=>bI env 13
noncomputable section
variable [Th]
def cs_:W1:=["TooMany"]
def cD:D:=(.int 10)
def kI :Fs:=(aI (setF 2 (ao mulI (ao addI (ao addI (ao modI aq (ao powI (fC (.int 10)) (fC (.int 60)))) (ao mulI (fC (.int 7919)) ah)) Xs) (fC (.int 27182818284590452353602874713527)))) (aI (setF 2 (ao modI aK (fC (.int 170141183460469231731687303715884105727)))) (bY (ao fdivI (ao modI (ao powI (ao addI (ao powI aK (fC (.int 5))) (ao mulI (fC (.int 48271)) ah)) Xu) (fC (.int 162259276829213363391578010288127))) (fC (.int 7))))))
def m__law_stir:=cx (kI ) 3
def dU:Fs:=(kN (Dk (fB (ao ltI aq (ao powI (fC (.int 10)) (fC (.int 18))))) (fB (ao iq aB Xr))) (iQ 2 (ao modI (λenv=>((aa aq (aa aP fNil)) env).bind m__law_stir) (ao aO ah aP))) (aI (iQ 2 (ao modI aB (ao aO ah aP))) (setF 3 (ao fdivI aB (ao aO ah aP)))))
def qu:Fs:=(aI (setO 2 (cf fNil)) (aI (setF 3 aq) (aI (dJ (gi (br cm ah)) (bZ 4) dU) (y0 2))))
def m__law_drawn:=cx qu 5
def rO:Fs:=(aI (LO [1,2,3,4,5,6,7] (λenv=>((aa aq (aa (cf (aa Xv (aa Xv (aa Xv (aa Xv (aa Xv (aa Xv (aa Xu fNil)))))))) fNil)) env).bind m__law_drawn)) (aI (setF 8 (ao aO (cf (aa (bc (aa (ao addI Xs aK) (aa (ao addI Xs aB) fNil))) (aa (bc (aa (ao addI Xt (ao modI aK Xu)) (aa (ao addI Xt (ao modI aB Xu)) fNil))) (aa (bc (aa (ao addI Xs (ao modI aK Xu)) (aa (ao addI Xu (ao modI aB Xt)) fNil))) fNil)))) (ao minI ah Xt))) (aI (kN (fB (ao iq ah Xu)) (setF 8 (bc (aa Xt (aa (ao addI Xt aB) fNil)))) nxF) (aI (setF 9 (ao aO (cf (aa (bc (aa (ao addI Xs aP) fNil)) (aa (bc (aa (ao addI Xs (ao modI aP Xu)) (aa (ao addI Xs (ao modI dQ Xu)) fNil))) (aa (bc (aa (ao addI Xs (ao modI aP Xu)) (aa (ao addI Xs (ao modI dQ Xt)) (aa (ao addI Xs (ao modI cb Xt)) fNil)))) fNil)))) (ao modI ah Xu))) (aI (kN (fB (ao iq ah Xu)) (setF 9 (bc (aa (ao addI Xs (ao modI aP Xu)) (aa (ao addI Xs (ao modI dQ Xu)) (aa (ao addI Xs (ao modI cb Xt)) fNil))))) nxF) (aI (setF 9 (br gv (br B2 (br sortI ez)))) (bY (bc (aa jH (aa ez (aa (ao aO (cf (aa (fC (.str "free")) (aa (fC (.str "sides")) (aa (fC (.str "corners")) fNil)))) pP) fNil)))))))))))
def m__law_game:=cx rO 10
def dY :Fs:=(aI (kN (fB (ao leI (ao addI aP ah) (ao aO aq Xs))) (iQ 2 (bc (aa aB (aa aP (aa (fC (.str "along")) (aa ah fNil)))))) nxF) (kN (jm (fB (ao leI (ao addI aB ah) (ao aO aq Xr))) (fB (ao gtI ah Xs))) (iQ 2 (bc (aa aB (aa aP (aa (fC (.str "down")) (aa ah fNil)))))) nxF))
def cC :Fs:=(dJ (gi (ao aO aq Xs)) (bZ 4) (dY ))
def qp :Fs:=(aI (setO 2 (cf fNil)) (aI (dJ (gi (ao aO aq Xr)) (bZ 3) (cC )) (y0 2)))
def m__law_ships:=cx (qp ) 5
def dZ :Fs:=(iQ 5 (bc (aa (ao addI ah (ao mulI cb (br intD (ao iq aB (fC (.str "down")))))) (aa (ao addI aK (ao mulI cb (br intD (ao iq aB (fC (.str "along")))))) fNil))))
def rm :Fs:=(aI (GQ [1,2,3,4] aq) (aI (setO 5 (cf fNil)) (aI (dJ (gi aP) (bZ 6) (dZ )) (y0 5))))
def m__law_cells:=cx (rm ) 7
def iE :Fs:=(zO Th.h 2 (fC (.bl true)) (bc (aa (ao addI aP cb) (aa (ao addI dQ pP) fNil))))
def cY :Fs:=(dJ (j8 aB) (oq [6,7]) (iE ))
def sR:Fs:=(aI (setM 2 (fC (.mp Th.h [] []))) (aI (setF 3 (cf (aa (bc (aa Xr (aa Xr fNil))) fNil))) (aI (kN (fB (ao pN aq (fC (.str "free")))) (setF 3 (ao tf aB (cf (aa (bc (aa Xr (aa Xs fNil))) (aa (bc (aa Xs (aa Xr fNil))) (aa (bc (aa Xr (aa (br iK Xs) fNil))) (aa (bc (aa (br iK Xs) (aa Xr fNil))) fNil))))))) nxF) (aI (kN (fB (ao iq aq (fC (.str "corners")))) (setF 3 (ao tf aB (cf (aa (bc (aa Xs (aa Xs fNil))) (aa (bc (aa Xs (aa (br iK Xs) fNil))) (aa (bc (aa (br iK Xs) (aa Xs fNil))) (aa (bc (aa (br iK Xs) (aa (br iK Xs) fNil))) fNil))))))) nxF) (aI (dJ (j8 (λenv=>((aa ah fNil) env).bind m__law_cells)) (oq [4,5]) (cY )) (Ce 2))))))
def m__law_halo:=cx sR 8
def iy :Fs:=(kN (fB (ao (Oe Th.h false) aB aK)) (bY (fC (.bl false))) nxF)
def cW :Fs:=(dJ (j8 ah) (bZ 3) (iy ))
def ua :Fs:=(aI (dJ (j8 aq) (bZ 2) (cW )) (bY (fC (.bl true))))
def m__law_free:=cx (ua ) 4
def dE:Fs:=(aI (setF 13 (Ii (ao iq aP Xr) (Ii (ao pN (ao aO ah (ao subI aP Xs)) dQ) (ao Mf (ao aO dW (br iK Xs)) (ao aO cb dq))))) (kN (jm (fB Bx) (fB (λenv=>((aa gF (aa (ao aO jH dq) fNil)) env).bind m__law_free))) (iQ 9 (bc (aa (ao BL dW (bc (aa (ao aO cb dq) fNil))) (aa (ao tf gF (cf (aa (ao aO pP dq) fNil))) fNil)))) nxF))
def dF:Fs:=(dJ (gi (br cm cb)) (bZ 12) dE)
def fV:Fs:=(aI (setF 6 (λenv=>((aa aq (aa dQ fNil)) env).bind m__law_ships)) (aI (setF 7 (cq (j8 cb) [0] (bZ 0) Xw (bj (λenv=>((aa ah (aa aq fNil)) env).bind m__law_halo)) 1 [2])) (aI (setF 8 (cq (j8 cb) [0] (bZ 0) Xw (bj (λenv=>((aa aq fNil) env).bind m__law_cells)) 1 [])) (aI (setO 9 (cf fNil)) (aI (dJ (j8 aB) (oq [10,11]) dF) (aI (zq 9) (setF 3 ez)))))))
def vi:Fs:=(aI (setF 3 (cf (aa (bc (aa (bc fNil) (aa (cf fNil) fNil))) fNil))) (aI (dJ (Dj ah) (oq [4,5]) fV) (bY (cq (j8 aB) [0,1] (oq [0,1]) Xw (bj aq) 2 []))))
def m__law_all:=cx vi 14
def oz:Fs:=(aI (GQ [1,2,3] (λenv=>((aa aq fNil) env).bind m__law_game)) (aI (setF 4 (λenv=>((aa ah (aa aK (aa aB fNil))) env).bind m__law_all)) (aI (kN (fB (ao iq aP (cf fNil))) (aI (setF 2 (bc (aa Xs fNil))) (setF 4 (λenv=>((aa ah (aa aK (aa aB fNil))) env).bind m__law_all))) nxF) (bY (bc (aa ah (aa aK (aa aB (aa aP fNil)))))))))
def m__law_played:=cx oz 5
def uO :Fs:=(aI (GQ [1,2,3,4] aq) (aI (kN (fB (ao iq aB (fC (.str "down")))) (bY (cq (gi aP) [0] (bZ 0) Xw (bj (bc (aa (ao addI ah aq) (aa aK fNil)))) 1 [1,2])) nxF) (bY (cq (gi aP) [0] (bZ 0) Xw (bj (bc (aa ah (aa (ao addI aK aq) fNil)))) 1 [1,2]))))
def m_cells_of:=cx (uO ) 5
def oi:Fs:=(bY (br kU (cq (MN aq) [0] (bZ 0) Xw (fq (j8 (λenv=>((aa aq fNil) env).bind m_cells_of)) [1] (bZ 1) Xw (bj ah)) 2 [])))
def m_lying_cells:=cx oi 1
def n6 :Fs:=(aI (setF 1 (cq (gi (br cm aq)) [0] (bZ 0) Xw (fq (gi aq) [1] (bZ 1) Xw (bj (bc (aa ah (aa aq fNil))))) 2 [])) (bY (br kU (cq (j8 ah) [0,1] (oq [0,1]) (fB (ao iq (ao aO aK aq) (ao aO aK ah))) (bj (bc (aa aq (aa ah fNil)))) 2 [0]))))
def m_alike_pairs:=cx (n6 ) 2
def fo :Fs:=(H8 Th.h 1 (br Ff (cq (Dj aq) [0,1] (oq [0,1]) (fB (ao (Dl false) aK ah)) (bj (ao md Xs aq)) 2 [2])) aK)
def mi :Fs:=(aI (MC Th.h 1) (aI (dJ (j8 (u6 (j8 aq) [0] (bZ 0) Xw (fq (j8 aq) [1] (bZ 1) Xw (oX ah)) 2 [])) (bZ 2) (fo )) (aI (zq 1) (bY ah))))
def m_cells_by_lot:=cx (mi ) 3
def mj :Fs:=(bY (ao maxI (ao aO aK (ao cI ah aq)) (ao aO aK (ao subI ah (ao cI ah aq)))))
def m_depth_behind:=cx (mj ) 3
def qF:Fs:=(aI (setF 3 (cq (Oa Th.h ah) [0] (bZ 0) (fB (Eb ltI ltI Xr (ao cI ah aq) ah)) (bj aq) 1 [0])) (bY (M8 aB [0,2] (λenv=>((aa aq (aa ah (aa aK fNil))) env).bind m_depth_behind))))
def m_best_shown:=cx qF 4
def cR:Fs:=(kN (OU (ao cI aB (ao subI aB Xs))) (wc 2 aB (F9 2 (ao addI Xs (λenv=>((aa (λenv=>((aa aB (aa aq (aa aK fNil))) env).bind m_best_shown) (aa aB (aa aK fNil))) env).bind m_depth_behind)))) nxF)
def mY:Fs:=(aI (setO 2 (ao IV (cf (aa Xr fNil)) (ao md Xs ah))) (aI (dJ (gi (ao md Xs ah)) (bZ 3) cR) (aI (zq 2) (bY aK))))
def m_least_depths:=cx mY 4
def fL(nN:Xo->Xp):Fs:=(aI (kN (fB (ao iq (ao aO aK aq) Xr)) (bY (bc (aa (fC (.str "known")) (aa (ao subI (br B7 aq) Xs) fNil)))) nxF) (aI (setF 3 (λenv=>((aa aq (aa ah (aa aK fNil))) env).bind m_best_shown)) (aI (setF 4 (λenv=>((aa (ao subI aq (ao cI aq aB)) (aa ah (aa aK fNil))) env).bind nN)) (bY (bc (aa (fC (.str "look")) (aa (ao (zX Th.h) ah aB) (aa aP (aa (λenv=>((aa (ao cI aq aB) (aa ah (aa aK fNil))) env).bind nN) fNil)))))))))
def bu:Nat->Xo->Xp
 | 0=>λ_=>none
 | n+1=>cx (fL (bu n)) 5
def iT:Xo->Xp:=bu 64
def qG:FsX:=(gQ (K3 (yW (fB (Eb leI leI Xs (br cm aq) (fC cD)))) (Cc "TooMany" (aa (fC (.str "a plan is told of one to ten hidings")) fNil)) (wH nxF)) (gQ (wH (setF 1 (cq (j8 aq) [0] (bZ 0) Xw (bj (λenv=>((aa aq fNil) env).bind m_lying_cells)) 1 []))) (gQ (wH (setF 2 (λenv=>((aa ah fNil) env).bind m_alike_pairs))) (gQ (wH (kN (fT aK) (bY (ao BL (bc (aa (fC (.str "alike")) fNil)) (ao aO aK Xr))) nxF)) (gQ (wH (setF 3 (λenv=>((aa ah fNil) env).bind m_cells_by_lot))) (gQ (wH (setF 4 (λenv=>((aa aB (aa (br cm ah) fNil)) env).bind m_least_depths))) (wH (bY (bc (aa (fC (.str "plan")) (aa (ao aO aP (br iK Xs)) (aa (λenv=>((aa (ao subI (br cm aP) Xs) (aa aB (aa aP fNil))) env).bind iT) fNil))))))))))))
def m_least_plan:=vm qG 5
def tX:FsX:=(gQ (wH (setF 1 (fC .non))) (gQ (BI cs_ 2 1 (FT 1 (BN (Ia (aa aq fNil)) m_least_plan))) (wH (bY ah))))
def m__law_told:=BD tX 3
def tJ :Fs:=(aI (setF 1 (cf (aa (fC (.str "hiding")) (aa (fC (.str "number")) (aa (fC (.str "many")) (aa (fC (.str "cell")) (aa (fC (.str "shot")) (aa (fC (.str "nothing")) (aa (fC (.str "counts")) (aa (fC (.str "over")) (aa (fC (.str "text")) (aa (fC (.str "row")) fNil)))))))))))) (bY (ao tf (cq (j8 ah) [0] (bZ 0) Xw (bj (ao iq aq ah)) 1 [0]) (cf (aa (fC (.bl true)) fNil)))))
def m__law_only:=cx (tJ ) 2
def f' :Fs:=(zO Th.h 1 (fC (.bl true)) aB)
def dj:Fs:=(dJ (j8 (λenv=>((aa aK fNil) env).bind m__law_cells)) (bZ 3) (f' ))
def nV:Fs:=(aI (setM 1 (fC (.mp Th.h [] []))) (aI (dJ (MN aq) (bZ 2) dj) (Ce 1)))
def m__law_ground:=cx nV 4
def fY:Fs:=(JL 1 (br gv (br (pO Th.h) (λenv=>((aa aK fNil) env).bind m__law_ground))) aK)
def oA:Fs:=(aI (Lr 1) (aI (dJ (j8 aq) (bZ 2) fY) (aI (zq 1) (bY (cq (Ob ah) [0] (bZ 0) Xw (bj (ao yf ah aq)) 1 [1])))))
def m__law_unlike:=cx oA 3
def gB:Fs:=(Bo 2 (ao modI (λenv=>((aa aq (aa (ao addI (ao mulI Xu aB) Xs) fNil)) env).bind m__law_stir) (ao addI aB Xs)) aP)
def pZ:Fs:=(aI (setO 2 (cf fNil)) (aI (dJ (Dj ah) (oq [3,4]) gB) (y0 2)))
def m__law_order:=cx pZ 5
def du:Fs:=(aI (setF 3 (ao addI Xs (ao modI (λenv=>((aa aq (aa (fC (.int 60)) fNil)) env).bind m__law_stir) aK))) (aI (setF 4 (ao addI Xs (ao modI (λenv=>((aa aq (aa (fC (.int 61)) fNil)) env).bind m__law_stir) (ao maxI Xs (ao fdivI (br cm ah) aB))))) (bY (λenv=>((aa aq (aa (Dg fH (Of ah (cO (ao modI (λenv=>((aa aq (aa (fC (.int 62)) fNil)) env).bind m__law_stir) (ao maxI Xs (ao fdivI (br cm ah) Xt)))) oNone (cO aP)) oNone (cO aB)) fNil)) env).bind m__law_order))))
def m__law_some_hidings:=cx du 5
def qH:Fs:=(aI (setF 9 (λenv=>((aa (Dg fH cb oNone (cO jH)) fNil) env).bind m__law_told)) (aI (kN (Dk (fB (ao pN (ao aO ez Xr) (fC (.str "plan")))) (fB (ao ltI (ao md Xs (ao aO ez Xs)) jH))) (bY (fC (.bl false))) nxF) (iQ 7 (ao aO ez Xs))))
def qr :Fs:=(kN (fB (ao (Dl true) (ao subI (ao aO (λenv=>jV env 7) dW) (ao aO (λenv=>jV env 7) (ao subI dW Xs))) (bc (aa Xr (aa Xs fNil))))) (bY (fC (.bl false))) nxF)
def qX:Fs:=(aI (GQ [2,3,4,5] (λenv=>((aa ah fNil) env).bind m__law_played)) (aI (kN (fB (ao pN (λenv=>((aa (cf fNil) fNil) env).bind m__law_told) (λenv=>((aa (fC (.str "many")) fNil) env).bind m__law_only))) (bY (fC (.bl false))) nxF) (aI (kN (jm (fB (ao gtI (br cm dQ) (fC (.int 10)))) (fB (ao pN (λenv=>((aa (Dg fH dQ oNone (cO (fC (.int 11)))) fNil) env).bind m__law_told) (λenv=>((aa (fC (.str "many")) fNil) env).bind m__law_only)))) (bY (fC (.bl false))) nxF) (aI (setF 6 (λenv=>((aa (λenv=>((aa ah (aa dQ (aa (fC (.int 10)) fNil))) env).bind m__law_some_hidings) fNil) env).bind m__law_unlike)) (aI (setO 7 (cf fNil)) (aI (dJ (EM Xs (ao addI (br cm cb) Xs)) (bZ 8) qH) (aI (dJ (EM Xs (br cm (λenv=>jV env 7))) (bZ 10) (qr )) (aI (setF 11 (λenv=>((aa (λenv=>((aa (ao addI ah Xs) (aa cb fNil)) env).bind m__law_order) fNil) env).bind m__law_told)) (kN (Dk (fB (ao pN (ao aO gF Xr) (fC (.str "plan")))) (fB (ao pN (ao aO gF Xs) (ao aO (λenv=>jV env 7) (br iK Xs))))) (bY (fC (.bl false))) nxF)))))))))
def Le:Fs:=(aI (dJ (j8 (ao tf (cf (aa Xr fNil)) (Dg fH aq oNone (cO (fC (.int 6)))))) (bZ 1) qX) (bY (fC (.bl true))))
def m_law:=cx Le 12
end
end K31
namespace K31
open PySem Mi
variable [Th]
theorem qT(c k:Int)(hk:0<=k)(hk2:k<=1000):∃z,m__law_stir [.int c,.int k]=some (.int z):=by
 have p60:powI (.int 10) (.int 60)=some (.int (10 ^ 60)):=qh (rb (by decide) (by decide)) (by decide) (by decide);have QE:(0:Int)<10 ^ 60:=by decide +kernel
 have h1:(c%10 ^ 60).natAbs<=10 ^ 60:=by
  have a:=Ut c (Int.ne_of_gt QE);have b:=TK c QE;have e:(10 ^ 60:Int)=((10 ^ 60:Nat):Int):=by decide +kernel
  lia
 have m1:mulI (.int 7919) (.int k)=some (.int (7919*k)):=lW (by decide) (by decide) (by lia) (by lia);have h2:(c%10 ^ 60+7919*k+1).natAbs<=10 ^ 60+7919001:=by lia
 have m2:mulI (.int (c%10 ^ 60+7919*k+1)) (.int 27182818284590452353602874713527)=some (.int ((c%10 ^ 60+7919*k+1)*27182818284590452353602874713527)):=Fj (nC _ h2) (nC 27182818284590452353602874713527 (by decide));generalize hn:(c%10 ^ 60+7919*k+1)*27182818284590452353602874713527=n at m2;have N5:modI (.int n) (.int 170141183460469231731687303715884105727)=some (.int (n%170141183460469231731687303715884105727)):=iO (by decide);have h3:(n%170141183460469231731687303715884105727).natAbs<=170141183460469231731687303715884105727:=by lia
 generalize n%170141183460469231731687303715884105727=q at N5 h3;have p5:powI (.int q) (.int 5)=some (.int (q ^ 5)):=qh (nC _ h3) (by decide) (by decide);have h4:=F7 _ 5 h3;have m3:mulI (.int 48271) (.int k)=some (.int (48271*k)):=lW (by decide) (by decide) (by lia) (by lia);have h5:(q ^ 5+48271*k).natAbs<=170141183460469231731687303715884105727 ^ 5+48271000:=Ef _ _ h4 (by lia);generalize q ^ 5=t at p5 h5;have p3:powI (.int (t+48271*k)) (.int 3)=some (.int ((t+48271*k) ^ 3)):=qh (nC _ h5) (by decide) (by decide);have hmod2:modI (.int ((t+48271*k) ^ 3)) (.int 162259276829213363391578010288127)=some (.int ((t+48271*k) ^ 3%162259276829213363391578010288127)):=iO (by decide);have hd:fdivI (.int ((t+48271*k) ^ 3%162259276829213363391578010288127)) (.int 7)=some (.int ((t+48271*k) ^ 3%162259276829213363391578010288127/7)):=lJ (by decide) (by decide);have hmod0:modI (.int c) (.int (10 ^ 60))=some (.int (c%10 ^ 60)):=iO QE;refine⟨(t+48271*k) ^ 3%162259276829213363391578010288127/7,?_⟩
 .unfold m__law_stir cx kI;simp only[aR,List.map,List.length,List.replicate,Ub,Uu,aI,setF,bY,ao,fC,Ib,J8,H_,List.set,List.getElem?_cons_zero,List.getElem?_cons_succ,p60,hmod0,m1,gJ,m2,N5,p5,m3,p3,hmod2,hd]
theorem Jl:∃w,powI (.int 10) (.int 18)=some (.int w):=⟨_,qh (rb (by decide) (by decide)) (by decide) (by decide)⟩
theorem FV(c q:Int)(ss r:W6)(i:Nat)(s:Int)(N6:ss[i]?=some s)(hpos:0<s/\s<1073741824)(hi:i<1000)(hr:r.length=i) :
  ∃y q',dU [.F (.int c),.F (.lst (ss.map .int)),.O (.L (r.map .int)),.F (.int q),.F (.int i)]=some (.nx [.F (.int c),.F (.lst (ss.map .int)),.O (.L ((r++[y]).map .int)),.F (.int q'),.F (.int i)])/\0<=y/\y<s:=by
 obtain⟨w,p18⟩:=Jl;have CV:L2.atI (ss.map D.int) (i:Int)=some (.int s):=dM (by rw[m_,N6];rfl);obtain⟨z,hz⟩:=qT c i (by lia) (by lia);have hap:(r.map D.int).length<16000000:=by simp;lia
 have snoc:∀y:Int,(r++[y]).map D.int=r.map D.int++[D.int y]:=λy=>by simp
 have RI:ao aO ah aP [.F (.int c),.F (.lst (ss.map .int)),.O (.L (r.map .int)),.F (.int q),.F (.int i)]=some (.int s):=eu rfl rfl CV;have t1:fB (ao ltI aq (ao powI (fC (.int 10)) (fC (.int 18)))) [.F (.int c),.F (.lst (ss.map .int)),.O (.L (r.map .int)),.F (.int q),.F (.int i)]=some (decide (c<w)):=et ((aE rfl ((aE rfl rfl).trans p18)).trans (Lj _ _));have t2:fB (ao iq aB Xr) [.F (.int c),.F (.lst (ss.map .int)),.O (.L (r.map .int)),.F (.int q),.F (.int i)]=some (q==0):=et ((aE rfl rfl).trans (LP _ _));have xY:∀{t:Fb}{g:Fs},t [.F (.int c),.F (.lst (ss.map .int)),.O (.L (r.map .int)),.F (.int q),.F (.int i)]=some true->kN t (iQ 2 (ao modI (λenv=>((aa aq (aa aP fNil)) env).bind m__law_stir) (ao aO ah aP))) g [.F (.int c),.F (.lst (ss.map .int)),.O (.L (r.map .int)),.F (.int q),.F (.int i)]=some (.nx [.F (.int c),.F (.lst (ss.map .int)),.O (.L ((r++[z%s]).map .int)),.F (.int q),.F (.int i)]):=λht=>by
  rw[snoc];exact(eC ht).trans ((kS rfl ((aE ((call_v (aj rfl (aj rfl aN))).trans hz) RI).trans (iO hpos.1)) hap))
 by_cases h1:c<w
 .rw[w_ h1]at t1;exact⟨z%s,q,xY (Ls t1),Ut _ (by lia),TK _ hpos.1⟩
 .rw[E_ h1]at t1
  by_cases h2:q=0
  .rw[show(q==0)=true by simp[h2]]at t2;exact⟨z%s,q,xY ((xi t1).trans t2),Ut _ (by lia),TK _ hpos.1⟩
  .rw[show(q==0)=false by simp[h2]]at t2;refine⟨q%s,q/s,?_,Ut _ (by lia),TK _ hpos.1⟩;rw[snoc];refine(bO ((xi t1).trans t2)).trans ((aw (kS rfl ((aE rfl RI).trans (iO hpos.1)) hap)).trans (a7 ((aE rfl (eu rfl rfl CV)).trans (lJ hpos.1 hpos.2))))
theorem Av(c:Int)(ss:W6)(hs:∀x∈ss,0<x/\x<1073741824)(hl:ss.length<=1000) :
  ∃r:W6,m__law_drawn [.int c,.lst (ss.map .int)]=some (.lst (r.map .int))/\r.length=ss.length/\∀(i:Nat)(x s:Int),r[i]?=some x->ss[i]?=some s->0<=x/\x<s:=by
 let I:Nat->En->Prop:=λn env=>∃(r:W6)(q:Int)(s4:Slot),env=[.F (.int c),.F (.lst (ss.map .int)),.O (.L (r.map .int)),.F (.int q),s4]/\r.length=n/\∀(i:Nat)(x s:Int),r[i]?=some x->ss[i]?=some s->0<=x/\x<s
 have hrl:(aG 0 ss.length).length=ss.length:=by simp[aG]
 obtain⟨e2,h1,r,q,s4,he,hr,hx⟩:=bR (t:=bZ 4) (body:=dU) I (aG 0 ss.length) 0 [.F (.int c),.F (.lst (ss.map .int)),.O (.L []),.F (.int c),.un] ⟨[],c,.un,rfl,rfl,λi x s h=>by simp at h⟩ λi d e hd aC=>by
   obtain⟨r,q,s4,he,hr,hx⟩:=aC;subst he;obtain⟨rfl,hi⟩:=wU hd;obtain⟨s,N6⟩:∃s,ss[i]?=some s:=⟨ss[i],f_ hi⟩;have hpos:=hs s (R_ N6);obtain⟨y,q',h2,h3,h4⟩:=FV c q ss r i s N6 hpos (by lia) (by lia);refine⟨_,h2,r++[y],q',_,rfl,by simp;lia,λj x s' jI hsj=>?_⟩
   by_cases hj:j<r.length
   .rw[I_ hj]at jI;exact hx j x s' jI hsj
   .rw[G_ (by lia)]at jI;have hj0:j-r.length=0:=by
     have:=(i_.mp jI).1;simp at this
     lia
    rw[hj0]at jI;cases jI;rw[show j=i by lia,N6]at hsj;cases hsj;exact⟨h3,h4⟩
 subst he;rw[hrl]at hr;refine⟨r,?_,by lia,hx⟩;have hit:gi (br cm ah) [.F (.int c),.F (.lst (ss.map .int)),.O (.L []),.F (.int c),.un]=some (aG 0 ss.length):=by
  rw[<- c_ (f:=D.int) (as:=ss)];exact fF (fZ rfl) (by rw[c_];lia)
 exact bw ((aw rfl).trans ((aw rfl).trans ((aw ((bW hit).trans h1)).trans rfl)))
abbrev rf:Str:="along"
abbrev sDn:Str:="down"
abbrev KY:Str:="free"
abbrev KW:Str:="sides"
abbrev Oc:Str:="corners"
def d9(r:Str):Prop:=r=KY\/r=KW\/r=Oc
structure Sh where
 a:Int
 b:Int
 dn:Bool
 n:Nat
 deriving DecidableEq
def Sh.w(s:Sh):Str:=if s.dn=true then sDn else rf
def Sh.d(s:Sh):D:=.tup [.int s.a,.int s.b,.str s.w,.int s.n]
def Sh.at(s:Sh)(i:Int):W7:=if s.dn=true then(s.a+i,s.b)else(s.a,s.b+i)
def Sh.cs(s:Sh):WW:=(List.range s.n).map λ(i:Nat)=>s.at i
def cel(p:W7):D:=.tup [.int p.1,.int p.2]
theorem xr(n:Nat):(aG 0 n).map g=(List.range n).map λ(i:Nat)=>g (.int i):=by
 unfold aG;simp[SM,Function.comp_def]
theorem sv(n:Nat):(aG 0 n).flatMap g=(List.range n).flatMap λ(i:Nat)=>g (.int i):=by
 unfold aG;rw[List.flatMap_map];simp
theorem G5:∀(ds:Xo),(ds.flatMap λd=>[g d])=ds.map g
 | []=>rfl
 | d::ds=>by rw[Ux,G5 ds];rfl
theorem uL(h1:fi env=some ds)(h2:dC is env=true)(h3:jL t c k env ds=some xs):fq fi is t c k env=some xs:=by
 unfold fq;rw[h1];show(if dC is env=true then _ else _)=_;rw[j_ h2,h3]
def Om(s:Sh):D->D
 | .int i=>cel (s.at i)
 | _=>.non
theorem vd(s:Sh):(aG 0 s.n).map (Om s)=s.cs.map cel:=by
 rw[xr];unfold Sh.cs;rw[SM];rfl
theorem vy(s:Sh):s.cs.length=s.n:=by unfold Sh.cs;simp
theorem Iv(s:Sh)(s0:Slot)(i:Nat)(hi:i<1000)(acc:Xo)(hl:acc.length<16000) :
  dZ [s0,.F (.int s.a),.F (.int s.b),.F (.str s.w),.F (.int s.n),.O (.L acc),.F (.int i)]=some (.nx [s0,.F (.int s.a),.F (.int s.b),.F (.str s.w),.F (.int s.n),.O (.L (acc++[cel (s.at i)])),.F (.int i)]):=by
 obtain⟨a,b,dn,n⟩:=s;have m0:mulI (.int i) (.int 0)=some (.int 0):=by rw[lW (by lia) (by lia) (by decide) (by decide),Int.mul_zero]
 have m1:mulI (.int i) (.int 1)=some (.int i):=by rw[lW (by lia) (by lia) (by decide) (by decide),Int.mul_one]
 cases dn
 .have e0:br intD (ao iq aB (fC (.str "down"))) [s0,.F (.int a),.F (.int b),.F (.str rf),.F (.int n),.O (.L acc),.F (.int i)]=some (.int 0):=rfl;have e1:br intD (ao iq aB (fC (.str "along"))) [s0,.F (.int a),.F (.int b),.F (.str rf),.F (.int n),.O (.L acc),.F (.int i)]=some (.int 1):=rfl;refine kS (d:=cel (a,b+i)) rfl (kW (aj ((aE (y:=.int 0) rfl ((aE rfl e0).trans m0)).trans ?_) (aj ((aE (y:=.int i) rfl ((aE rfl e1).trans m1)).trans (gJ _ _)) aN))) (by lia);rw[gJ,Int.add_zero]
 .have e0:br intD (ao iq aB (fC (.str "along"))) [s0,.F (.int a),.F (.int b),.F (.str sDn),.F (.int n),.O (.L acc),.F (.int i)]=some (.int 0):=rfl;have e1:br intD (ao iq aB (fC (.str "down"))) [s0,.F (.int a),.F (.int b),.F (.str sDn),.F (.int n),.O (.L acc),.F (.int i)]=some (.int 1):=rfl;refine kS (d:=cel (a+i,b)) rfl (kW (aj ((aE (y:=.int i) rfl ((aE rfl e1).trans m1)).trans (gJ _ _)) (aj ((aE (y:=.int 0) rfl ((aE rfl e0).trans m0)).trans ?_) aN))) (by lia);rw[gJ,Int.add_zero]
theorem lV(s:Sh)(hn:s.n<=1000):m__law_cells [s.d]=some (.lst (s.cs.map cel)):=by
 obtain⟨e2,h1,s6,h2⟩:=jb (t:=bZ 6) (body:=dZ) (λacc e=>∃s6,e=[.F s.d,.F (.int s.a),.F (.int s.b),.F (.str s.w),.F (.int s.n),.O (.L acc),s6]) (λd=>[Om s d]) 1 8000 (aG 0 s.n) [] [.F s.d,.F (.int s.a),.F (.int s.b),.F (.str s.w),.F (.int s.n),.O (.L []),.un] ⟨_,rfl⟩ (by rw[ly,TJ];lia) λd hd=>⟨h_ _,λacc e ⟨s6,he⟩ hl=>by
  subst he;obtain⟨i,hi,rfl⟩:=iX.mp hd;exact⟨_,Iv s (.F s.d) i (by lia) acc (by lia),_,rfl⟩⟩
 subst h2;rw[G5,vd,Uu]at h1;exact bw ((aw (wz (ds:=[.int s.a,.int s.b,.str s.w,.int s.n]) rfl rfl)).trans ((aw (jX rfl)).trans ((aw ((bW (fF (n:=s.n) rfl (by lia))).trans h1)).trans rfl)))
theorem vn(s:Sh)(hn:s.n<=1000):m_cells_of [s.d]=some (.lst (s.cs.map cel)):=by
 have hl:(s.cs.map cel).length<=16000000:=by rw[c_];unfold Sh.cs;simp;lia
 have hit:gi aP [.F s.d,.F (.int s.a),.F (.int s.b),.F (.str s.w),.F (.int s.n)]=some (aG 0 s.n):=fF (n:=s.n) rfl (by lia);refine bw ((aw (wz (ds:=[.int s.a,.int s.b,.str s.w,.int s.n]) rfl rfl)).trans ?_);show aI _ _ [.F s.d,.F (.int s.a),.F (.int s.b),.F (.str s.w),.F (.int s.n)]=_;obtain⟨a,b,dn,n⟩:=s;cases dn
 .have e0:fB (ao iq aB (fC (.str "down"))) [.F (Sh.d ⟨a,b,false,n⟩),.F (.int a),.F (.int b),.F (.str rf),.F (.int n)]=some false:=rfl;refine(aw ((bO e0).trans rfl)).trans (dP (dk hit rfl ?_ hl));rw[<- vd];refine wM (Om ⟨a,b,false,n⟩) _ λd hd=>?_;obtain⟨i,hi,rfl⟩:=iX.mp hd;exact⟨_,rfl,rfl⟩
 .have e0:fB (ao iq aB (fC (.str "down"))) [.F (Sh.d ⟨a,b,true,n⟩),.F (.int a),.F (.int b),.F (.str sDn),.F (.int n)]=some true:=rfl;refine uX ((eC e0).trans (dP (dk hit rfl ?_ hl)));rw[<- vd];refine wM (Om ⟨a,b,true,n⟩) _ λd hd=>?_;obtain⟨i,hi,rfl⟩:=iX.mp hd;exact⟨_,rfl,rfl⟩
def dm(p:W7):List L2.Key:=[.inl p.1,.inl p.2]
theorem Bw(h:dm p=dm q):p=q:=by
 unfold dm at h;obtain⟨a,b⟩:=p;obtain⟨c,d⟩:=q;simp only[List.cons.injEq,Sum.inl.injEq,and_true]at h;rw[h.1,h.2]
theorem gO{L:WW}{p:W7}:dm p∈L.map dm↔p∈L:=⟨λh=>by obtain⟨q,hq,e⟩:=y_.mp h;exact Bw e▸hq,SU⟩
def qi(ks:WW):rF:=.M Th.h (ks.map dm) (ks.map λ_=>.bl true)
def dr(ks:WW):D:=.mp Th.h (ks.map dm) (ks.map λ_=>.bl true)
def Ld:List L2.Key->Option W7
 | [.inl a,.inl b]=>some (a,b)
 | _=>none
def HD:D->WW
 | .mp _ ks _=>ks.filterMap Ld
 | _=>[]
theorem uS:∀ks:WW,HD (dr ks)=ks:=λks=>by
 show(ks.map dm).filterMap Ld=ks;rw[List.filterMap_map];exact List.filterMap_some
theorem vX(q:List L2.Key)(x:D):∀ks:WW,cu (ks.map dm) (ks.map λ_=>x) q x=ks.map λ_=>x
 | []=>rfl
 | k::ks=>by
  show(if dm k=q then x else x)::cu (ks.map dm) (ks.map λ_=>x) q x=_;rw[vX q x ks,ite_self];rfl
theorem xv(ks:WW)(p q:W7):q∈ib ks p↔q∈ks\/q=p:=by
 unfold ib
 split
 .rename_i h;exact⟨λz=>.inl z,λz=>z.elim id λe=>e▸h⟩
 .simp
theorem wx(ks:WW)(p:W7):(ib ks p).length<=ks.length+1:=by
 unfold ib;split<;>simp
open Classical in
theorem Hg{i:Nat}{fk:Fe}{env:En}{ks:WW}{a b:Int}(h:fk env=some (.tup [.int a,.int b]))(h1:env[i]?=some (.O (qi ks)))(hl:ks.length<16000000):zO Th.h i (fC (.bl true)) fk env=some (.nx (env.set i (.O (qi (ib ks (a,b)))))):=by
 have e:rF.M Th.h (um (ks.map dm) (dm (a,b))) (uk (ks.map dm) (ks.map λ_=>D.bl true) (dm (a,b)) (.bl true))=qi (ib ks (a,b)):=by
  unfold um uk ib qi
  by_cases hm:(a,b)∈ks
  .rw[j_ (gO.mpr hm),j_ (gO.mpr hm),j_ hm,vX]
  .rw[k_ (λz=>hm (gO.mp z)),k_ (λz=>hm (gO.mp z)),k_ hm,O_,O_];rfl
 rw[<- e];unfold zO;rw[show fC (.bl true) env=some (D.bl true)from rfl,H_,h,H_,show DO (.tup [.int a,.int b])=some (dm (a,b))from rfl,H_,h1];show(if Th.h=Th.h/\(ks.map dm).length<16000000 then _ else _)=_;rw[j_ ⟨rfl,by rw[c_];exact hl⟩]
def plus(p q:W7):W7:=(p.1+q.1,p.2+q.2)
theorem Mb(s0 s1 s6 s7:Slot)(st:WW)(hst:st.length<=9)(p:W7)(ks:WW)(hk:ks.length<=15000) :
  ∃gj KH KI,cY [s0,s1,.O (qi ks),.F (.lst (st.map cel)),.F (.int p.1),.F (.int p.2),s6,s7]=some (.nx [s0,s1,.O (qi gj),.F (.lst (st.map cel)),.F (.int p.1),.F (.int p.2),KH,KI])/\gj.length<=ks.length+9/\∀q,q∈gj↔q∈ks\/∃t∈st,q=plus p t:=by
 obtain⟨e2,h1,gj,KH,KI,h2,h3,h4⟩:=bR (t:=oq [6,7]) (body:=iE) (λj e=>∃gj KH KI,e=[s0,s1,.O (qi gj),.F (.lst (st.map cel)),.F (.int p.1),.F (.int p.2),KH,KI]/\gj.length<=ks.length+j/\∀q,q∈gj↔q∈ks\/∃t∈st.take j,q=plus p t) (st.map cel) 0 _ ⟨ks,s6,s7,rfl,by lia,λq=>by simp⟩ λi d e hd aC=>by
  obtain⟨gj,KH,KI,he,h3,h4⟩:=aC;subst he;rw[m_]at hd;obtain⟨q,hq,rfl⟩:=D_.mp hd;have hi:=(i_.mp hq).1;have u3:=wx gj (p.1+q.1,p.2+q.2);refine⟨_,eJ (e0:=[s0,s1,.O (qi gj),.F (.lst (st.map cel)),.F (.int p.1),.F (.int p.2),.F (.int q.1),.F (.int q.2)]) rfl (Hg (ks:=gj) (a:=p.1+q.1) (b:=p.2+q.2) rfl rfl (by lia)),_,_,_,rfl,by lia,λx=>?_⟩;rw[xv,h4,Sq,Uy,hq];simp only[Wp,Sr,s_];constructor
  .rintro((h | ⟨t,ht,e⟩) | e)
   .exact .inl h
   .exact .inr ⟨t,.inl ht,e⟩
   .exact .inr ⟨q,.inr rfl,e⟩
  .rintro(h | ⟨t,ht | rfl,e⟩)
   .exact .inl (.inl h)
   .exact .inl (.inr ⟨t,ht,e⟩)
   .exact .inr e
 subst h2;rw[c_,Sq]at h3 h4;rw[Tb]at h4;exact⟨gj,KH,KI,(bW (cP rfl)).trans h1,by lia,h4⟩
theorem kC(s:Sh)(hn:s.n<=1000)(r:D)(st:WW)(hst:st.length<=9) :
  ∃ks,aI (dJ (j8 (λenv=>((aa ah fNil) env).bind m__law_cells)) (oq [4,5]) (cY )) (Ce 2) [.F r,.F s.d,.O (qi []),.F (.lst (st.map cel)),.un,.un,.un,.un]=some (.rt (dr ks))/\∀q,q∈ks↔∃p∈s.cs,∃t∈st,q=plus p t:=by
 have hlen:=vy s;obtain⟨e2,h1,ks,s4,s5,s6,s7,h2,h3,h4⟩:=bR (t:=oq [4,5]) (body:=cY) (λj e=>∃ks s4 s5 s6 s7,e=[.F r,.F s.d,.O (qi ks),.F (.lst (st.map cel)),s4,s5,s6,s7]/\ks.length<=9*j/\∀q,q∈ks↔∃p∈s.cs.take j,∃t∈st,q=plus p t) (s.cs.map cel) 0 _ ⟨[],.un,.un,.un,.un,rfl,by simp,λq=>by simp⟩ λi d e hd aC=>by
  obtain⟨ks,s4,s5,s6,s7,he,h3,h4⟩:=aC;subst he;rw[m_]at hd;obtain⟨q,hq,rfl⟩:=D_.mp hd;have hi:=(i_.mp hq).1;obtain⟨gj,KH,KI,u1,u2,u3⟩:=Mb (.F r) (.F s.d) s6 s7 st hst q ks (by lia);refine⟨_,eJ (e0:=[.F r,.F s.d,.O (qi ks),.F (.lst (st.map cel)),.F (.int q.1),.F (.int q.2),s6,s7]) rfl u1,gj,_,_,_,_,rfl,by lia,λx=>?_⟩;rw[u3,h4,Sq,Uy,hq];simp only[Wp,Sr,s_];constructor
  .rintro(⟨p,hp,t,ht,e⟩ | ⟨t,ht,e⟩)
   .exact⟨p,.inl hp,t,ht,e⟩
   .exact⟨q,.inr rfl,t,ht,e⟩
  .rintro⟨p,hp | rfl,t,ht,e⟩
   .exact .inl ⟨p,hp,t,ht,e⟩
   .exact .inr ⟨t,ht,e⟩
 subst h2;rw[c_,Sq]at h4;rw[Tb]at h4;exact⟨ks,(aw ((bW (cP ((call_v (aj rfl aN)).trans (lV s hn)))).trans h1)).trans rfl,h4⟩
def steps(r:Str):WW:=
 if r=KY then [(0,0)]else if r=KW then [(0,0),(0,1),(1,0),(0,-1),(-1,0)]else [(0,0),(0,1),(1,0),(0,-1),(-1,0),(1,1),(1,-1),(-1,1),(-1,-1)]
theorem l6:steps KY=[(0,0)]:=by unfold steps;rw[j_ rfl]
theorem nE:steps KW=[(0,0),(0,1),(1,0),(0,-1),(-1,0)]:=by unfold steps;rw[k_ (by decide),j_ rfl]
theorem mT:steps Oc=[(0,0),(0,1),(1,0),(0,-1),(-1,0),(1,1),(1,-1),(-1,1),(-1,-1)]:=by unfold steps;rw[k_ (by decide),k_ (by decide)]
theorem F4(s:Sh)(hn:s.n<=1000)(r:Str)(hr:d9 r):∃ks,m__law_halo [.str r,s.d]=some (dr ks)/\∀q,q∈ks↔∃p∈s.cs,∃t∈steps r,q=plus p t:=by
 rcases hr with rfl | rfl | rfl
 .obtain⟨ks,h1,h2⟩:=kC s hn (.str KY) [(0,0)] (by decide);exact⟨ks,bw ((aw rfl).trans ((aw rfl).trans ((aw ((bO rfl).trans rfl)).trans ((aw ((bO rfl).trans rfl)).trans h1)))),by rw[l6];exact h2⟩
 .obtain⟨ks,h1,h2⟩:=kC s hn (.str KW) [(0,0),(0,1),(1,0),(0,-1),(-1,0)] (by decide);exact⟨ks,bw ((aw rfl).trans ((aw rfl).trans ((aw ((eC rfl).trans rfl)).trans ((aw ((bO rfl).trans rfl)).trans h1)))),by rw[nE];exact h2⟩
 .obtain⟨ks,h1,h2⟩:=kC s hn (.str Oc) [(0,0),(0,1),(1,0),(0,-1),(-1,0),(1,1),(1,-1),(-1,1),(-1,-1)] (by decide);exact⟨ks,bw ((aw rfl).trans ((aw rfl).trans ((aw ((eC rfl).trans rfl)).trans ((aw ((eC rfl).trans rfl)).trans h1)))),by rw[mT];exact h2⟩
abbrev rk(a b:Int)(w:Str)(l:Int):D:=.tup [.int a,.int b,.str w,.int l]
def gS(r c l:Int):D->D->Xo
 | .int a,.int b=>(if b+l<=c then [rk a b rf l]else [])++(if a+l<=r/\1<l then [rk a b sDn l]else [])
 | _,_=>[]
theorem Ap(r c l:Int)(x y:D):(gS r c l x y).length<=2:=by
 unfold gS
 split
 .rw[r_];split<;>split<;>simp
 .simp
abbrev eS(r c l:Int)(acc:Xo)(s3 s4:Slot):En:=[.F (.tup [.int r,.int c]),.F (.int l),.O (.L acc),s3,s4]
theorem yT(r c l a b:Int)(acc:Xo)(h:acc.length+2<=16000):dY (eS r c l acc (.F (.int a)) (.F (.int b)))=some (.nx (eS r c l (acc++gS r c l (.int a) (.int b)) (.F (.int a)) (.F (.int b)))):=by
 have p1:∀cU:Xo,cU.length<16000->iQ 2 (bc (aa aB (aa aP (aa (fC (.str "along")) (aa ah fNil))))) (eS r c l cU (.F (.int a)) (.F (.int b)))=some (.nx (eS r c l (cU++[rk a b rf l]) (.F (.int a)) (.F (.int b)))):=λcU h'=>kS rfl rfl (by lia);have p2:∀cU:Xo,cU.length<16000->iQ 2 (bc (aa aB (aa aP (aa (fC (.str "down")) (aa ah fNil))))) (eS r c l cU (.F (.int a)) (.F (.int b)))=some (.nx (eS r c l (cU++[rk a b sDn l]) (.F (.int a)) (.F (.int b)))):=λcU h'=>kS rfl rfl (by lia);have t1:∀cU:Xo,fB (ao leI (ao addI aP ah) (ao aO aq Xs)) (eS r c l cU (.F (.int a)) (.F (.int b)))=some (decide (b+l<=c)):=λ_=>rfl;have t2:∀cU:Xo,jm (fB (ao leI (ao addI aB ah) (ao aO aq Xr))) (fB (ao gtI ah Xs)) (eS r c l cU (.F (.int a)) (.F (.int b)))=some (decide (a+l<=r)&&decide (1<l)):=λcU=>
  A2 (show _=some (decide (a+l<=r))from rfl) λ_=>(show _=some (decide (1<l))from rfl)
 have Hu:∀cU:Xo,cU.length<16000->(kN (jm (fB (ao leI (ao addI aB ah) (ao aO aq Xr))) (fB (ao gtI ah Xs))) (iQ 2 (bc (aa aB (aa aP (aa (fC (.str "down")) (aa ah fNil)))))) nxF) (eS r c l cU (.F (.int a)) (.F (.int b)))=some (.nx (eS r c l (cU++(if a+l<=r/\1<l then [rk a b sDn l]else [])) (.F (.int a)) (.F (.int b)))):=λcU h'=>by
  by_cases hh:a+l<=r/\1<l
  .rw[j_ hh];exact(eC ((t2 cU).trans (by rw[w_ hh.1,w_ hh.2];rfl))).trans (p2 cU h')
  .rw[k_ hh,SC];refine(bO ((t2 cU).trans ?_)).trans rfl;congr 1;rw[VA];intro e;simp only[F_,C_]at e;exact hh e
 show aI _ _ _=_;show _=some (Out.nx (eS r c l (acc++((if b+l<=c then [rk a b rf l]else [])++(if a+l<=r/\1<l then [rk a b sDn l]else []))) (.F (.int a)) (.F (.int b))));rw[<- T1]
 by_cases h1:b+l<=c
 .rw[j_ h1];exact(aw ((eC ((t1 acc).trans (by rw[w_ h1]))).trans (p1 acc (by lia)))).trans (Hu _ (by simp;lia))
 .rw[k_ h1,SC];exact(aw ((bO ((t1 acc).trans (by rw[E_ h1]))).trans rfl)).trans (Hu _ (by lia))
def HI(r c l:Int)(R C:Nat):Xo:=(aG 0 R).flatMap λx=>(aG 0 C).flatMap λy=>gS r c l x y
theorem AG(R C:Nat)(hR:R<=60)(hC:C<=60)(l:Int):m__law_ships [.tup [.int R,.int C],.int l]=some (.lst (HI R C l R C)):=by
 have inner:∀(a:Nat)(acc:Xo)(s4:Slot),acc.length+2*C<=8000->∃RJ,cC (eS R C l acc (.F (.int a)) s4)=some (.nx (eS R C l (acc++(aG 0 C).flatMap λy=>gS R C l (.int a) y) (.F (.int a)) RJ)):=λa acc s4 hl=>by
  obtain⟨e2,h1,s,h2⟩:=jb (t:=bZ 4) (body:=dY) (λacc e=>∃s,e=eS R C l acc (.F (.int a)) s) (λy=>gS R C l (.int a) y) 2 8000 (aG 0 C) acc (eS R C l acc (.F (.int a)) s4) ⟨_,rfl⟩ (by rw[ly];lia) λd hd=>⟨Ap ..,λcU e ⟨s,he⟩ De=>by
   subst he;obtain⟨i,hi,rfl⟩:=iX.mp hd;exact⟨_,yT R C l a i cU (by lia),_,rfl⟩⟩
  subst h2;refine⟨s,?_⟩;unfold cC;have hi:ao aO aq Xs (eS R C l acc (.F (.int a)) s4)=some (.int (C:Int)):=rfl;rw[bW (fF hi (by lia))];exact h1
 have hbd:([]:Xo).length+2*C*(aG 0 R).length<=8000:=by
  have h1:=Wq (Wq (h_ 2) hC) hR;rw[ly,TJ,Sq];exact B_ h1 (by decide)
 obtain⟨e2,h1,s3,s4,h2⟩:=jb (t:=bZ 3) (body:=cC) (λacc e=>∃s3 s4,e=eS R C l acc s3 s4) (λx=>(aG 0 C).flatMap λy=>gS R C l x y) (2*C) 8000 (aG 0 R) [] (eS R C l [] .un .un) ⟨_,_,rfl⟩ hbd λd hd=>⟨by have:=tO (g:=λy=>gS R C l d y) (B:=2) (aG 0 C) (λy _=>Ap ..);rw[ly]at this;exact this,λcU e ⟨s3,s4,he⟩ De=>by
   subst he;obtain⟨i,hi,rfl⟩:=iX.mp hd;obtain⟨RJ,h⟩:=inner i cU s4 De;exact⟨_,eJ (e0:=eS R C l cU (.F (.int i)) s4) rfl h,_,_,rfl⟩⟩
 subst h2;exact bw ((aw (jX rfl)).trans ((aw ((bW (fF (n:=R) rfl (by lia))).trans h1)).trans rfl))
def atS(R C l a b:Nat):List Sh:=(if(b:Int)+l<=C then [⟨a,b,false,l⟩]else [])++(if(a:Int)+l<=R/\1<l then [⟨a,b,true,l⟩]else [])
def ef(R C l:Nat):List Sh:=(List.range R).flatMap λa=>(List.range C).flatMap λb=>atS R C l a b
theorem Lp(R C l a b:Nat):gS R C l (.int a) (.int b)=(atS R C l a b).map Sh.d:=by
 show(if(b:Int)+l<=C then [rk a b rf l]else [])++(if(a:Int)+l<=R/\(1:Int)<l then [rk a b sDn l]else [])=_;unfold atS;rw[O_];congr 1
 .split<;>rfl
 .by_cases h:(a:Int)+l<=R/\1<l
  .rw[j_ h,j_ ⟨h.1,by lia⟩];rfl
  .rw[k_ h,k_ (λz=>h ⟨z.1,by lia⟩)];rfl
theorem DR(R C l:Nat):HI R C l R C=(ef R C l).map Sh.d:=by
 unfold HI ef;rw[sv,U8];congr 1;funext a;rw[sv,U8];congr 1;funext b;exact Lp R C l a b
theorem DD(h:s∈atS R C l a b):s.a=a/\s.b=b/\s.n=l/\(s.dn=false->(b:Int)+l<=C)/\(s.dn=true->(a:Int)+l<=R/\1<l):=by
 unfold atS at h;rcases Sr.mp h with h | h
 .split at h
  .rename_i hc;cases s_.mp h;exact⟨rfl,rfl,rfl,λ_=>hc,λz=>by cases z⟩
  .cases h
 .split at h
  .rename_i hc;cases s_.mp h;exact⟨rfl,rfl,rfl,λz=>(by cases z),λ_=>hc⟩
  .cases h
theorem jY:s∈ef R C l↔(∃a b:Nat,s.a=a/\s.b=b/\a<R/\b<C)/\s.n=l/\(s.dn=false->s.b+l<=C)/\(s.dn=true->s.a+l<=R/\1<l):=by
 unfold ef;simp only[Ud,Sy];constructor
 .rintro⟨a,ha,b,hb,h⟩;obtain⟨h1,h2,h3,h4,h5⟩:=DD h;rw[h1,h2];exact⟨⟨a,b,rfl,rfl,ha,hb⟩,h3,h4,h5⟩
 .rintro⟨⟨a,b,h1,h2,ha,hb⟩,h3,h4,h5⟩;refine⟨a,ha,b,hb,?_⟩;obtain⟨sa,sb,dn,n⟩:=s;simp only at h1 h2 h3 h4 h5;subst h1 h2 h3;unfold atS;cases dn
  .rw[j_ (h4 rfl)];simp
  .rw[j_ (h5 rfl)];simp
theorem Fx(R C l a b:Nat):(atS R C l a b).length<=2:=by
 unfold atS;rw[r_];split<;>split<;>simp
theorem lB{α β:Type}{g:α->List β}{B:Nat}:∀(ds:List α),(∀d∈ds,(g d).length<=B)->(ds.flatMap g).length<=B*ds.length
 | [],_=>by simp
 | d::ds,h=>by
  rw[Ux,r_,A_,WG];have:=h d o_;have:=lB ds λx hx=>h x (l_ _ hx)
  lia
theorem ym(R C l:Nat):(ef R C l).length<=2*C*R:=by
 have h:=lB (g:=λa=>(List.range C).flatMap λb=>atS R C l a b) (B:=2*C) (List.range R) λa _=>by
  have:=lB (g:=λb=>atS R C l a b) (B:=2) (List.range C) (λb _=>Fx ..);rwa [T4]at this
 rwa [T4]at h
theorem yI(R C:Nat)(hR:R<=60)(hC:C<=60)(l:Nat):m__law_ships [.tup [.int R,.int C],.int l]=some (.lst ((ef R C l).map Sh.d)):=by
 rw[AG R C hR hC l,DR]
def Sh.ks(s:Sh):List L2.Key:=[.inl s.a,.inl s.b,.inr s.w,.inl s.n]
def Di(s t:Sh):Prop:=s.a<t.a\/(s.a=t.a/\(s.b<t.b\/(s.b=t.b/\((s.dn=false/\t.dn=true)\/(s.dn=t.dn/\s.n<t.n)))))
theorem PF:Dm (.inr rf) (.inr sDn)=some true:=by
 show some (decide (rf.cps.toList<sDn.cps.toList))=_;rw[show decide (rf.cps.toList<sDn.cps.toList)=true by decide +kernel]
theorem O9:Dm (.inr sDn) (.inr rf)=some false:=by
 show some (decide (sDn.cps.toList<rf.cps.toList))=_;rw[show decide (sDn.cps.toList<rf.cps.toList)=false by decide +kernel]
theorem Q0:(Sum.inr rf:L2.Key)≠.inr sDn:=λh=>absurd (Sum.inr.inj h) (by decide)
theorem nz(x y:L2.Key)(xs ys:List L2.Key):dN (x::xs) (y::ys)=if x=y then dN xs ys else Dm x y:=rfl
theorem rS(n n':Nat):dN [.inl (n:Int)] [.inl (n':Int)]=some (decide (n<n')):=by
 rw[nz]
 by_cases h3:n=n'
 .subst h3;rw[j_ rfl];simp[dN]
 .rw[k_ (λz=>h3 (by have:=Sum.inl.inj z;lia))];show some (decide ((n:Int)<n'))=_;simp
theorem Eo(a b a' b':Int)(xs ys:List L2.Key)(q:Bool)(h:dN xs ys=some q):∃r,dN (.inl a::.inl b::xs) (.inl a'::.inl b'::ys)=some r/\(r=true↔a<a'\/(a=a'/\(b<b'\/(b=b'/\q=true)))):=by
 rw[nz]
 by_cases h1:a=a'
 .subst h1;rw[j_ rfl,nz]
  by_cases h2:b=b'
  .subst h2;rw[j_ rfl];exact⟨q,h,by simp⟩
  .rw[k_ (λz=>h2 (Sum.inl.inj z))];refine⟨decide (b<b'),rfl,?_⟩;rw[C_];constructor
   .intro h;exact .inr ⟨rfl,.inl h⟩
   .rintro(h | ⟨_,h | ⟨h,_⟩⟩)
    .lia
    .exact h
    .exact absurd h h2
 .rw[k_ (λz=>h1 (Sum.inl.inj z))];refine⟨decide (a<a'),rfl,?_⟩;rw[C_];constructor
  .intro h;exact .inl h
  .rintro(h | ⟨h,_⟩)
   .exact h
   .exact absurd h h1
theorem LJ(x y:Bool)(n n':Nat):∃q,dN [.inr (if x=true then sDn else rf),.inl (n:Int)] [.inr (if y=true then sDn else rf),.inl (n':Int)]=some q/\(q=true↔(x=false/\y=true)\/(x=y/\n<n')):=by
 cases x<;>cases y
 .exact⟨decide (n<n'),(by rw[nz,j_ rfl,rS]),by simp⟩
 .exact⟨true,(by show dN [.inr rf,_] [.inr sDn,_]=_;rw[nz,k_ Q0];exact PF),by simp⟩
 .exact⟨false,(by show dN [.inr sDn,_] [.inr rf,_]=_;rw[nz,k_ (Tg Q0)];exact O9),by simp⟩
 .exact⟨decide (n<n'),(by rw[nz,j_ rfl,rS]),by simp⟩
theorem HY(s t:Sh):∃q,dN s.ks t.ks=some q/\(q=true↔Di s t):=by
 obtain⟨q,h1,h2⟩:=LJ s.dn t.dn s.n t.n;obtain⟨r,h3,h4⟩:=Eo s.a s.b t.a t.b _ _ q h1;exact⟨r,h3,by rw[h4,h2];rfl⟩
theorem mD:∀(ps:WW),jS (ps.map cel)=some (ps.map dm)
 | []=>rfl
 | p::ps=>by
  show(nF [.int p.1,.int p.2]).bind (λks=>(jS (ps.map cel)).bind λkss=>some (ks::kss))=_;rw[mD ps];rfl
def Sh.rz(s:Sh):Int:=if s.dn=true then s.a+s.n-1 else s.a
def Sh.cz(s:Sh):Int:=if s.dn=true then s.b else s.b+s.n-1
theorem nG{s:Sh}(hn:1<=s.n)(p:W7):p∈s.cs↔s.a<=p.1/\p.1<=s.rz/\s.b<=p.2/\p.2<=s.cz:=by
 obtain⟨a,b,dn,n⟩:=s;obtain⟨x,y⟩:=p;unfold Sh.cs Sh.rz Sh.cz Sh.at;simp only[y_,Sy];simp only at hn;cases dn
 .simp only[x_,SS,Uz];constructor
  .rintro⟨i,hi,rfl,rfl⟩;lia
  .rintro⟨h1,h2,h3,h4⟩;exact⟨(y-b).toNat,by lia,by lia,by lia⟩
 .simp only[Um,Uz];constructor
  .rintro⟨i,hi,rfl,rfl⟩;lia
  .rintro⟨h1,h2,h3,h4⟩;exact⟨(x-a).toNat,by lia,by lia,by lia⟩
def FM(i j k:Int):Int:=if j>i then(if k>j then k else j)else(if k>i then k else i)
def ye(s t:Sh):Int:=FM (t.a-s.rz) (s.a-t.rz) 0
def zl(s t:Sh):Int:=FM (t.b-s.cz) (s.b-t.cz) 0
def tN(r:Str)(s t:Sh):Bool:=if r=KY then decide (0<ye s t+zl s t)else if r=KW then decide (1<ye s t+zl s t)else decide (1<(if zl s t>ye s t then zl s t else ye s t))
theorem Sh.rz_ge{s:Sh}(h:1<=s.n):s.a<=s.rz:=by unfold Sh.rz;split<;>lia
theorem Sh.cz_ge{s:Sh}(h:1<=s.n):s.b<=s.cz:=by unfold Sh.cz;split<;>lia
theorem Lx(h1:a<=p)(h2:p<=z)(h3:b<=p+d)(h4:p+d<=y):b<=z+d/\a+d<=(y:Int):=by lia
theorem MR{a z b y d:Int}(h1:a<=z)(h2:b<=y)(h3:b<=z+d)(h4:a+d<=y):∃x,(b<=x/\x<=y)/\a<=x-d/\x-d<=z:=by
 by_cases h:a+d<=b
 .exact⟨b,by lia,by lia⟩
 .exact⟨a+d,by lia,by lia⟩
theorem pz{s t:Sh}(hs:1<=s.n)(ht:1<=t.n)(d:W7):(∃q∈t.cs,∃p∈s.cs,q=plus p d)↔t.a<=s.rz+d.1/\s.a+d.1<=t.rz/\t.b<=s.cz+d.2/\s.b+d.2<=t.cz:=by
 constructor
 .rintro⟨q,hq,p,hp,rfl⟩;rw[nG ht]at hq;rw[nG hs]at hp;have r:=Lx hp.1 hp.2.1 hq.1 hq.2.1;have c:=Lx hp.2.2.1 hp.2.2.2 hq.2.2.1 hq.2.2.2;exact⟨r.1,r.2,c⟩
 .rintro⟨h1,h2,h3,h4⟩;obtain⟨x,⟨x1,x2⟩,x3,x4⟩:=MR (Sh.rz_ge hs) (Sh.rz_ge ht) h1 h2;obtain⟨y,⟨y1,y2⟩,y3,y4⟩:=MR (Sh.cz_ge hs) (Sh.cz_ge ht) h3 h4;refine⟨(x,y),(nG ht _).mpr ⟨x1,x2,y1,y2⟩,(x-d.1,y-d.2),(nG hs _).mpr ⟨x3,x4,y3,y4⟩,?_⟩;unfold plus;simp only;rw[Int.sub_add_cancel,Int.sub_add_cancel]
theorem xC(h1:a<=z)(h2:b<=y)(hu:0<=u/\b-z<=u/\a-y<=u/\(u=0\/u=b-z\/u=a-y)) :
  ((b<=z+0/\a+0<=y)↔u=0)/\((b<=z+0/\a+0<=y)\/(b<=z+1/\a+1<=y)\/(b<=z+-1/\a+-1<=y)↔u<=1):=by
 refine⟨by lia,?_,λ_=>?_⟩
 .rintro(⟨_,_⟩ | ⟨_,_⟩ | ⟨_,_⟩)<;>lia
 .by_cases e:u=0
  .exact .inl (by lia)
  .by_cases e2:u=b-z
   .exact .inr (.inl (by lia))
   .exact .inr (.inr (by lia))
theorem RV:((p/\a)\/(p/\b)\/(q/\a)\/(p/\c)\/(r/\a))↔(p/\(a\/b\/c))\/((p\/q\/r)/\a):=by
 constructor
 .rintro(⟨h,g⟩ | ⟨h,g⟩ | ⟨h,g⟩ | ⟨h,g⟩ | ⟨h,g⟩)<;>simp[h,g]
 .rintro(⟨h,g | g | g⟩ | ⟨h | h | h,g⟩)<;>simp[h,g]
theorem Sa:((p/\a)\/(p/\b)\/(q/\a)\/(p/\c)\/(r/\a)\/(q/\b)\/(q/\c)\/(r/\b)\/(r/\c))↔(p\/q\/r)/\(a\/b\/c):=by
 constructor
 .rintro(⟨h,g⟩ | ⟨h,g⟩ | ⟨h,g⟩ | ⟨h,g⟩ | ⟨h,g⟩ | ⟨h,g⟩ | ⟨h,g⟩ | ⟨h,g⟩ | ⟨h,g⟩)<;>simp[h,g]
 .rintro⟨h | h | h,g | g | g⟩<;>simp[h,g]
theorem lQ(x y:Int):0<=FM x y 0/\x<=FM x y 0/\y<=FM x y 0/\(FM x y 0=0\/FM x y 0=x\/FM x y 0=y):=by
 unfold FM;split<;>split<;>lia
theorem rY{r:Str}(hr:d9 r){s t:Sh}(hs:1<=s.n)(ht:1<=t.n):tN r s t=true↔¬∃q∈t.cs,∃p∈s.cs,∃d∈steps r,q=plus p d:=by
 have sw:(∃q∈t.cs,∃p∈s.cs,∃d∈steps r,q=plus p d)↔∃d∈steps r,(t.a<=s.rz+d.1/\s.a+d.1<=t.rz)/\t.b<=s.cz+d.2/\s.b+d.2<=t.cz:=by
  constructor
  .rintro⟨q,hq,p,hp,d,hd,e⟩;exact⟨d,hd,and_assoc.mpr ((pz hs ht d).mp ⟨q,hq,p,hp,e⟩)⟩
  .rintro⟨d,hd,h⟩;obtain⟨q,hq,p,hp,e⟩:=(pz hs ht d).mpr (and_assoc.mp h);exact⟨q,hq,p,hp,d,hd,e⟩
 obtain⟨r0,r1⟩:=xC (u:=ye s t) (Sh.rz_ge hs) (Sh.rz_ge ht) (lQ (t.a-s.rz) (s.a-t.rz));obtain⟨c0,c1⟩:=xC (u:=zl s t) (Sh.cz_ge hs) (Sh.cz_ge ht) (lQ (t.b-s.cz) (s.b-t.cz));have n1:0<=ye s t:=(lQ (t.a-s.rz) (s.a-t.rz)).1;have n2:0<=zl s t:=(lQ (t.b-s.cz) (s.b-t.cz)).1;rw[sw];unfold tN;rcases hr with rfl | rfl | rfl
 .rw[j_ rfl,l6,C_];simp only[s_,WQ];rw[r0,c0];clear r0 r1 c0 c1 sw
  lia
 .rw[k_ (by decide),j_ rfl,nE,C_];simp only[t_,SY,U1,exists_eq_or_imp,WQ];rw[RV,r1,c1,r0,c0];clear r0 r1 c0 c1 sw
  lia
 .rw[k_ (by decide),k_ (by decide),mT,C_];simp only[t_,SY,U1,exists_eq_or_imp,WQ];rw[Sa,r1,c1];clear r0 r1 c0 c1 sw
  split<;>lia
def HA:D->D->D
 | .int a,.int b=>cel (a,b)
 | _,_=>.non
theorem kh(I:En->Prop)(p:D->Bool)(x:D):∀(ds:Xo)(env:En),I env->(∀d∈ds,∀e,I e->(p d=true->∃e1,(t d e).bind body=some (.nx e1)/\I e1)/\(p d=false->(t d e).bind body=some (.rt x)))->
  (ds.all p=true->∃e2,dA t body ds env=some (.nx e2)/\I e2)/\(ds.all p=false->dA t body ds env=some (.rt x))
 | [],env,h,_=>⟨λ_=>⟨env,rfl,h⟩,λh=>by cases h⟩
 | d::ds,env,h,hb=>by
  obtain⟨h1,h2⟩:=hb d o_ env h;cases hp:p d with
  | true=>
   obtain⟨e1,h3,h4⟩:=h1 hp;obtain⟨e0,h5,h6⟩:=b_.mp h3;have hh:dA t body (d::ds) env=dA t body ds e1:=by
    show(t d env).bind (λe1=>(body e1).bind _)=_;rw[h5];show(body e0).bind _=_;rw[h6]
    rfl
   rw[hh,VR,hp,Bool.true_and];exact kh I p x ds e1 h4 λd' hd=>hb d' (l_ _ hd)
  | false=>
   obtain⟨e0,h5,h6⟩:=b_.mp (h2 hp);rw[VR,hp,WN];refine⟨λh=>(by cases h),λ_=>?_⟩;show(t d env).bind (λe1=>(body e1).bind _)=_;rw[h5];show(body e0).bind _=_;rw[h6]
   rfl
noncomputable def ig(ru:Str)(s:Sh):WW:=match m__law_halo [.str ru,s.d]with | some d=>HD d | _=>[]
theorem vK(s:Sh)(hn:s.n<=1000)(ru:Str)(hr:d9 ru):m__law_halo [.str ru,s.d]=some (dr (ig ru s))/\∀q,q∈ig ru s↔∃p∈s.cs,∃t∈steps ru,q=plus p t:=by
 obtain⟨ks,h1,h2⟩:=F4 s hn ru hr;have:ig ru s=ks:=by unfold ig;rw[h1];exact uS ks
 rw[this];exact⟨h1,h2⟩
theorem BM(s0:Slot)(cs:WW)(ks:WW)(s3:Slot):(cs.all (λp=>!decide (p∈ks))=true->∃zJ,cW [s0,.F (.lst (cs.map cel)),.F (dr ks),s3]=some (.nx [s0,.F (.lst (cs.map cel)),.F (dr ks),zJ]))/\(cs.all (λp=>!decide (p∈ks))=false->cW [s0,.F (.lst (cs.map cel)),.F (dr ks),s3]=some (.rt (.bl false))):=by
 have hh:=kh (t:=bZ 3) (body:=iy) (λe=>∃s3,e=[s0,.F (.lst (cs.map cel)),.F (dr ks),s3]) (λd=>match d with | .tup [.int a,.int b]=>!decide ((a,b)∈ks) | _=>true) (.bl false) (cs.map cel) _ ⟨s3,rfl⟩ λd hd e aC=>by
  obtain⟨s3,he⟩:=aC;subst he;obtain⟨q,hq,rfl⟩:=y_.mp hd;have ht:fB (ao (Oe Th.h false) aB aK) [s0,.F (.lst (cs.map cel)),.F (dr ks),.F (cel q)]=some (decide (q∈ks)):=et (by
   show(K4 Th.h (dr ks)).bind _=_;unfold dr;rw[GT];show some (D.bl (decide (dm q∈ks.map dm)))=_;congr 2;rw[S9,C_,C_];exact gO)
  constructor
  .intro h;have h:decide (q∈ks)=false:=by simpa [cel]using h
   exact⟨_,eJ (e0:=[s0,.F (.lst (cs.map cel)),.F (dr ks),.F (cel q)]) rfl ((bO (ht.trans (by rw[h]))).trans rfl),_,rfl⟩
  .intro h;have h:decide (q∈ks)=true:=by simpa [cel]using h
   exact eJ (e0:=[s0,.F (.lst (cs.map cel)),.F (dr ks),.F (cel q)]) rfl ((eC (ht.trans (by rw[h]))).trans rfl)
 rw[WI]at hh;refine⟨λh=>?_,λh=>(bW (cP rfl)).trans (hh.2 h)⟩;obtain⟨e2,g1,zJ,rfl⟩:=hh.1 h;exact⟨zJ,(bW (cP rfl)).trans g1⟩
theorem lK(hs:List WW)(cs:WW):m__law_free [.lst (hs.map dr),.lst (cs.map cel)]=some (.bl (hs.all λks=>cs.all λp=>!decide (p∈ks))):=by
 have hh:=kh (t:=bZ 2) (body:=cW) (λe=>∃s2 s3,e=[.F (.lst (hs.map dr)),.F (.lst (cs.map cel)),s2,s3]) (λd=>cs.all λp=>!decide (p∈HD d)) (.bl false) (hs.map dr) [.F (.lst (hs.map dr)),.F (.lst (cs.map cel)),.un,.un] ⟨.un,.un,rfl⟩ λd hd e aC=>by
  obtain⟨s2,s3,he⟩:=aC;subst he;obtain⟨ks,NH,rfl⟩:=y_.mp hd;obtain⟨g1,g2⟩:=BM (.F (.lst (hs.map dr))) cs ks s3;simp only[uS];refine⟨λh=>?_,λh=>eJ (e0:=[.F (.lst (hs.map dr)),.F (.lst (cs.map cel)),.F (dr ks),s3]) rfl (g2 h)⟩;obtain⟨zJ,g⟩:=g1 h;exact⟨_,eJ (e0:=[.F (.lst (hs.map dr)),.F (.lst (cs.map cel)),.F (dr ks),s3]) rfl g,_,_,rfl⟩
 rw[WI]at hh;simp only[Function.comp_def,uS]at hh;cases hb:(hs.all λks=>cs.all λp=>!decide (p∈ks))with
 | true=>
  obtain⟨e2,g1,s2,s3,rfl⟩:=hh.1 hb;exact bw ((aw ((bW (cP rfl)).trans g1)).trans rfl)
 | false=>exact bw (uX ((bW (cP rfl)).trans (hh.2 hb)))
theorem y6(hr:d9 ru)(h:List Sh)(hh:∀t∈h,1<=t.n/\t.n<=1000)(s:Sh)(hs:1<=s.n):m__law_free [.lst (h.map λt=>dr (ig ru t)),.lst (s.cs.map cel)]=some (.bl (h.all λt=>tN ru t s)):=by
 have e:=lK (h.map (ig ru)) s.cs;rw[SM]at e;refine Eq.trans e ?_;congr 2;rw[WI,S9,M_,M_];refine forall_congr' λt=>forall_congr' λht=>?_;obtain⟨h1,h2⟩:=hh t ht;rw[rY hr h1 hs];simp only[Wb,M_,Bool.not_eq_true',decide_eq_false_iff_not];constructor
 .rintro hq ⟨q,QF,p,hp,d,hd,e⟩;exact hq q QF (((vK t h2 ru hr).2 q).mpr ⟨p,hp,d,hd,e⟩)
 .intro hq q QF hq2;obtain⟨p,hp,d,hd,e⟩:=((vK t h2 ru hr).2 q).mp hq2;exact hq ⟨q,QF,p,hp,d,hd,e⟩
instance (s t:Sh):Decidable (Di s t):=by unfold Di;infer_instance
def jM(fl:W5):D:=.tup (fl.map λ(n:Nat)=>.int n)
def az(h:List Sh):D:=.tup (h.map Sh.d)
noncomputable def gh(ru:Str)(h:List Sh):D:=.tup [az h,.lst (h.map λs=>dr (ig ru s))]
def sf(fl:W5)(j:Nat)(h:List Sh)(s:Sh):Bool:=decide (j=0)||(!decide (fl.getD (j-1) 0=fl.getD j 0)||(match h.getLast? with | some u=>decide (Di u s) | none=>true))
def okN(ru:Str)(fl:W5)(j:Nat)(h:List Sh)(s:Sh):Bool:=sf fl j h s&&h.all λt=>tN ru t s
def ir(R C:Nat)(ru:Str)(fl:W5)(j:Nat)(rows:List (List Sh)):List (List Sh):=rows.flatMap λh=>((ef R C (fl.getD j 0)).filter (okN ru fl j h)).map λs=>h++[s]
def eh(R C:Nat)(ru:Str)(fl:W5):Nat->List (List Sh)
 | 0=>[[]]
 | j+1=>ir R C ru fl j (eh R C ru fl j)
noncomputable abbrev eA(R C:Nat)(fl:W5)(ru:Str)(rows:D)(pl ln:Nat)(ss:List Sh)(acc:Xo)(gm eF xZ oE:Slot):En:=
 [.F (.tup [.int R,.int C]),.F (jM fl),.F (.str ru),.F rows,.F (.int pl),.F (.int ln),.F (.lst (ss.map Sh.d)),.F (.lst (ss.map λs=>dr (ig ru s))),.F (.lst (ss.map λs=>.lst (s.cs.map cel))),.O (.L acc),gm,eF,xZ,oE]
theorem Iz(h:f env=some (.tup xs))(h2:g env=some (.tup ys))(hl:xs.length+ys.length<=16000000):ao BL f g env=some (.tup (xs++ys)):=by
 rw[aE h h2];show(if xs.length+ys.length<=16000000 then _ else _)=_;rw[j_ hl]
theorem Ll(s t:Sh):Mf s.d t.d=some (.bl (decide (Di s t))):=by
 obtain⟨q,h1,h2⟩:=HY s t;show(dN s.ks t.ks).bind _=_;rw[h1,show decide (Di s t)=q by cases q<;>simp_all];rfl
theorem all1(R C:Nat)(fl:W5)(ru:Str)(hr:d9 ru)(rows:D)(pl:Nat)(eO:pl<fl.length)(ss:List Sh)(acc:Xo)(ha:acc.length<1000000)(h:List Sh)(hl:h.length=pl)(hh:∀t∈h,1<=t.n/\t.n<=1000)(RK:pl<=3)(oE:Slot)(k:Nat)(s:Sh)(hk:ss[k]?=some s)(hn:1<=s.n) :
  ∃eR:Slot,dE (eA R C fl ru rows pl (fl.getD pl 0) ss acc (.F (az h)) (.F (.lst (h.map λs=>dr (ig ru s)))) (.F (.int k)) oE)=some (.nx (eA R C fl ru rows pl (fl.getD pl 0) ss (acc++if okN ru fl pl h s=true then [gh ru (h++[s])]else []) (.F (az h)) (.F (.lst (h.map λs=>dr (ig ru s)))) (.F (.int k)) eR)):=by
 have hb:=y6 hr h hh s hn;have hq:(Ii (ao iq aP Xr) (Ii (ao pN (ao aO ah (ao subI aP Xs)) dQ) (ao Mf (ao aO dW (br iK Xs)) (ao aO cb dq)))) (eA R C fl ru rows pl (fl.getD pl 0) ss acc (.F (az h)) (.F (.lst (h.map λs=>dr (ig ru s)))) (.F (.int k)) oE)=some (.bl (sf fl pl h s)):=by
  cases pl with
  | zero=>exact IG (p:=true) (q:=true) rfl (λh=>by cases h)
  | succ m=>
   have hx:fl[m]?=some (fl.getD m 0):=by rw[g_,f_ (by lia)];rfl
   have i1:ao aO ah (ao subI aP Xs) (eA R C fl ru rows (m+1) (fl.getD (m+1) 0) ss acc (.F (az h)) (.F (.lst (h.map λs=>dr (ig ru s)))) (.F (.int k)) oE)=some (.int ((fl.getD m 0:Nat):Int)):=by
    refine ku (i:=(m:Int)) rfl ?_ (dM (by rw[m_,hx];rfl));show some (D.int (((m+1:Nat):Int)-1))=_;rw[show((m+1:Nat):Int)-1=(m:Int) by lia]
   obtain⟨h0,u,hu⟩:∃h0 u,h=h0++[u]:=by
    have hne:h≠[]:=λe=>by rw[e]at hl;cases hl
    exact⟨h.dropLast,h.getLast hne,(UU hne).symm⟩
   have i2:ao aO dW (br iK Xs) (eA R C fl ru rows (m+1) (fl.getD (m+1) 0) ss acc (.F (az h)) (.F (.lst (h.map λs=>dr (ig ru s)))) (.F (.int k)) oE)=some u.d:=by
    refine ku (ds:=h.map Sh.d) (i:=-1) rfl rfl ?_;rw[hu,O_];exact L2.Ao _ _
   have i3:ao aO cb dq (eA R C fl ru rows (m+1) (fl.getD (m+1) 0) ss acc (.F (az h)) (.F (.lst (h.map λs=>dr (ig ru s)))) (.F (.int k)) oE)=some s.d:=eu (i:=(k:Int)) rfl rfl (dM (by rw[m_,hk];rfl));have:=IG (p:=((m+1:Nat):Int)==0) (f:=ao iq aP Xr) (env:=eA R C fl ru rows (m+1) (fl.getD (m+1) 0) ss acc (.F (az h)) (.F (.lst (h.map λs=>dr (ig ru s)))) (.F (.int k)) oE) rfl λ_=>IG (p:=!(((fl.getD m 0:Nat):Int)==((fl.getD (m+1) 0:Nat):Int))) ((aE (g:=λenv=>bI env 5) i1 rfl).trans (MJ _ _)) λ_=>(aE i2 i3).trans (Ll u s);rw[this];congr 2;unfold sf;rw[hu,List.getLast?_append];have e1:(((m+1:Nat):Int)==0)=decide (m+1=0):=by rw[S9];simp;lia
   have e2:(((fl.getD m 0:Nat):Int)==((fl.getD (m+1) 0:Nat):Int))=decide (fl.getD (m+1-1) 0=fl.getD (m+1) 0):=by rw[S9,VN,C_,Nat.add_sub_cancel];lia
   rw[e1,e2];rfl
 unfold dE;have i6:∀eR:Slot,ao aO cb dq (eA R C fl ru rows pl (fl.getD pl 0) ss acc (.F (az h)) (.F (.lst (h.map λs=>dr (ig ru s)))) (.F (.int k)) eR)=some s.d:=λ_=>eu (i:=(k:Int)) rfl rfl (dM (by rw[m_,hk];rfl));have i7:∀eR:Slot,ao aO pP dq (eA R C fl ru rows pl (fl.getD pl 0) ss acc (.F (az h)) (.F (.lst (h.map λs=>dr (ig ru s)))) (.F (.int k)) eR)=some (dr (ig ru s)):=λ_=>eu (i:=(k:Int)) rfl rfl (dM (by rw[m_,hk];rfl));have i8:∀eR:Slot,ao aO jH dq (eA R C fl ru rows pl (fl.getD pl 0) ss acc (.F (az h)) (.F (.lst (h.map λs=>dr (ig ru s)))) (.F (.int k)) eR)=some (.lst (s.cs.map cel)):=λ_=>eu (i:=(k:Int)) rfl rfl (dM (by rw[m_,hk];rfl));have ht:jm (fB Bx) (fB (λenv=>((aa gF (aa (ao aO jH dq) fNil)) env).bind m__law_free)) (eA R C fl ru rows pl (fl.getD pl 0) ss acc (.F (az h)) (.F (.lst (h.map λs=>dr (ig ru s)))) (.F (.int k)) (.F (.bl (sf fl pl h s))))=some (okN ru fl pl h s):=A2 (et rfl) λ_=>et ((call_v (aj rfl (aj (i8 _) aN))).trans hb);refine⟨.F (.bl (sf fl pl h s)),(aw (a7 hq)).trans ?_⟩;cases hqb:okN ru fl pl h s with
 | true=>
  rw[hqb]at ht;rw[j_ rfl];refine(eC ht).trans ?_;refine kS (d:=gh ru (h++[s])) rfl (kW (aj ?_ (aj ?_ aN))) (by lia)
  .have:=Iz (f:=λenv=>bI env 10) (g:=bc (aa (ao aO cb dq) fNil)) (env:=eA R C fl ru rows pl (fl.getD pl 0) ss acc (.F (az h)) (.F (.lst (h.map λs=>dr (ig ru s)))) (.F (.int k)) (.F (.bl (sf fl pl h s)))) (xs:=h.map Sh.d) (ys:=[s.d]) rfl (kW (aj (i6 _) aN)) (by rw[c_,hl];simp;lia);exact this.trans (by unfold az;rw[O_];rfl)
  .have:=Cw (f:=λenv=>bI env 11) (g:=cf (aa (ao aO pP dq) fNil)) (env:=eA R C fl ru rows pl (fl.getD pl 0) ss acc (.F (az h)) (.F (.lst (h.map λs=>dr (ig ru s)))) (.F (.int k)) (.F (.bl (sf fl pl h s)))) (xs:=h.map λs=>dr (ig ru s)) (ys:=[dr (ig ru s)]) rfl (xk (aj (i7 _) aN)) (by rw[c_,hl];simp;lia);exact this.trans (by rw[O_];rfl)
 | false=>
  rw[hqb]at ht;rw[k_ (by simp),SC];exact(bO ht).trans rfl
theorem jU(f:α->D)(I:Xo->En->Prop)(g:α->Xo)(B M:Nat):∀(xs:List α)(acc:Xo)(env:En),I acc env->acc.length+B*xs.length<=M->(∀x∈xs,(g x).length<=B/\∀acc e,I acc e->acc.length+B<=M->∃e1,(t (f x) e).bind body=some (.nx e1)/\I (acc++g x) e1)->∃e2,dA t body (xs.map f) env=some (.nx e2)/\I (acc++xs.flatMap g) e2
 | [],acc,env,h,_,_=>⟨env,rfl,by rw[List.flatMap_nil,SC];exact h⟩
 | x::xs,acc,env,h,hl,hb=>by
  obtain⟨h1,h2⟩:=hb x o_;rw[A_,WG]at hl;obtain⟨e1,h3,h4⟩:=h2 acc env h (by lia);obtain⟨e0,h5,h6⟩:=b_.mp h3;have hh:dA t body ((x::xs).map f) env=dA t body (xs.map f) e1:=by
   show(t (f x) env).bind (λe1=>(body e1).bind _)=_;rw[h5];show(body e0).bind _=_;rw[h6]
   rfl
  obtain⟨e2,h7,h8⟩:=jU f I g B M xs (acc++g x) e1 h4 (by rw[r_];lia) λy hy=>hb y (l_ _ hy);refine⟨e2,hh.trans h7,?_⟩;rw[Ux,<- T1];exact h8
theorem Kg(n:Nat):aG 0 n=(List.range n).map λ(i:Nat)=>D.int i:=by
 have:=xr (g:=id) n;rw[List.map_id]at this;exact this
theorem yV(l:List α)(G:Option α->List β):(List.range l.length).flatMap (λi=>G l[i]?)=l.flatMap λa=>G (some a):=by
 have:(List.range l.length).map (λi=>l[i]?)=l.map some:=by
  apply Uw;intro i;rw[m_,m_]
  by_cases h:i<l.length
  .rw[UE h,f_ h];simp
  .rw[K_ (by simpa using h),K_ (by simpa using h)];rfl
 have h2:=Tn (λx=>x.flatMap G) this;simp only[List.flatMap_map]at h2;exact h2
theorem wL(p:α->Bool)(G:α->β):∀(l:List α),(l.flatMap λa=>if p a=true then [G a]else [])=(l.filter p).map G
 | []=>rfl
 | a::l=>by
  rw[Ux,UF,wL p G l]
  split<;>rfl
theorem all2(R C:Nat)(fl:W5)(ru:Str)(hr:d9 ru)(rows:D)(pl:Nat)(eO:pl<fl.length)(ss:List Sh)(acc:Xo)(ha:acc.length<900000)(h:List Sh)(hl:h.length=pl)(hh:∀t∈h,1<=t.n/\t.n<=1000)(RK:pl<=3)(xZ oE:Slot)(QG:ss.length<=40)(hn:∀s∈ss,1<=s.n) :
  ∃nQ eR:Slot,dF (eA R C fl ru rows pl (fl.getD pl 0) ss acc (.F (az h)) (.F (.lst (h.map λs=>dr (ig ru s)))) xZ oE)=some (.nx (eA R C fl ru rows pl (fl.getD pl 0) ss (acc++((ss.filter (okN ru fl pl h)).map λs=>h++[s]).map (gh ru)) (.F (az h)) (.F (.lst (h.map λs=>dr (ig ru s)))) nQ eR)):=by
 obtain⟨e2,h1,nQ,eR,rfl⟩:=jU (t:=bZ 12) (body:=dE) (λ(i:Nat)=>D.int i) (λacc e=>∃xZ oE,e=eA R C fl ru rows pl (fl.getD pl 0) ss acc (.F (az h)) (.F (.lst (h.map λs=>dr (ig ru s)))) xZ oE) (λi=>match ss[i]? with | some s=>if okN ru fl pl h s=true then [gh ru (h++[s])]else [] | none=>[]) 1 950000 (List.range ss.length) acc _ ⟨xZ,oE,rfl⟩ (by rw[T4];lia) λi hi=>by
  have hi':=Sy.mp hi;have hk:ss[i]?=some ss[i]:=f_ hi';rw[hk];refine⟨by dsimp only;split<;>simp,λcU e ⟨nQ,eR,he⟩ De=>?_⟩;subst he;obtain⟨s13'',u⟩:=all1 R C fl ru hr rows pl eO ss cU (by lia) h hl hh RK eR i ss[i] hk (hn _ (Ts hi'));exact⟨_,eJ (e0:=eA R C fl ru rows pl (fl.getD pl 0) ss cU (.F (az h)) (.F (.lst (h.map λs=>dr (ig ru s)))) (.F (.int i)) eR) rfl u,_,_,rfl⟩
 rw[yV ss (λo=>match o with | some s=>if okN ru fl pl h s=true then [gh ru (h++[s])]else [] | none=>[])]at h1;dsimp only at h1;rw[wL (okN ru fl pl h) (λs=>gh ru (h++[s])),<- Kg]at h1;refine⟨nQ,eR,?_⟩;unfold dF;rw[bW (fF (n:=ss.length) ((fZ rfl).trans (by rw[c_])) (by lia)),h1,SM];rfl
theorem dH(f g:α->D):∀(xs:List α),(∀x∈xs,∃e1,t (f x) env=some e1/\k e1=some [g x])->jL t Xw k env (xs.map f)=some (xs.map g)
 | [],_=>rfl
 | x::xs,h=>by
  obtain⟨e1,h1,h3⟩:=h x o_;have i1:=dH f g xs λy hy=>h y (l_ _ hy);show jL _ _ _ _ (f x::xs.map f)=_;unfold jL;rw[h1];show(if true=true then k e1 else some []).bind _=_;rw[j_ rfl,h3];show(jL t Xw k env (xs.map f)).bind _=_;rw[i1];rfl
theorem so(R C:Nat)(hR:R<=4)(hC:C<=5)(l:Nat):(ef R C l).length<=40:=by
 have h1:=ym R C l;have h2:=Wq (Wq (h_ 2) hC) hR
 lia
theorem pY(h:s∈ef R C l):s.n=l:=(jY.mp h).2.1
theorem gC(R C:Nat)(hR:R<=4)(hC:C<=5)(ru:Str)(hru:d9 ru)(fl:W5)(hfl:fl.length<=3)(pl:Nat)(eO:pl<fl.length)(hln:1<=fl.getD pl 0/\fl.getD pl 0<=10)(rows:List (List Sh))(hrows:∀h∈rows,h.length=pl/\∀t∈h,1<=t.n/\t.n<=1000)(hlen:rows.length<=1600)(s6 s7 s8 s9 gm eF xZ oE:Slot) :
  ∃(t6 t7 t8 t9 zK Lb RL RM:Slot),fV [.F (.tup [.int R,.int C]),.F (jM fl),.F (.str ru),.F (.lst (rows.map (gh ru))),.F (.int pl),.F (.int (fl.getD pl 0:Nat)),s6,s7,s8,s9,gm,eF,xZ,oE]
   = some (.nx [.F (.tup [.int R,.int C]),.F (jM fl),.F (.str ru),.F (.lst ((ir R C ru fl pl rows).map (gh ru))),.F (.int pl),.F (.int (fl.getD pl 0:Nat)),t6,t7,t8,t9,zK,Lb,RL,RM]):=by
 have a1:=yI R C (by lia) (by lia) (fl.getD pl 0);have ls:=so R C hR hC (fl.getD pl 0);have hn:∀s∈ef R C (fl.getD pl 0),1<=s.n/\s.n<=10:=λs hs=>by rw[pY hs];exact hln
 obtain⟨ss,QG⟩:∃ss,ss=ef R C (fl.getD pl 0):=⟨_,rfl⟩;rw[<- QG]at a1 ls hn;have b1:=dH (t:=bZ 0) (k:=bj (λenv=>((aa ah (aa aq fNil)) env).bind m__law_halo)) (env:=[.un,.F (.str ru)]) Sh.d (λs=>dr (ig ru s)) ss λs hs=>⟨[.F s.d,.F (.str ru)],rfl,nk ((call_v (aj rfl (aj rfl aN))).trans (vK s (by have:=hn s hs;lia) ru hru).1)⟩;have c1:=dH (t:=bZ 0) (k:=bj (λenv=>((aa aq fNil) env).bind m__law_cells)) (env:=[.un]) Sh.d (λs=>.lst (s.cs.map cel)) ss λs hs=>⟨[.F s.d],rfl,nk ((call_v (aj rfl aN)).trans (lV s (by have:=hn s hs;lia)))⟩;obtain⟨e2,h1,GA,GB,nQ,eR,rfl⟩:=jU (t:=oq [10,11]) (body:=dF) (gh ru) (λacc e=>∃(GA GB nQ eR:Slot),e=eA R C fl ru (.lst (rows.map (gh ru))) pl (fl.getD pl 0) ss acc GA GB nQ eR) (λh=>((ss.filter (okN ru fl pl h)).map λs=>h++[s]).map (gh ru)) 40 800000 rows [] _ ⟨gm,eF,xZ,oE,rfl⟩ (by rw[TJ];lia) λh hh=>by
  refine⟨by rw[c_,c_];exact B_ (Tj _ _) ls,λacc e ⟨GA,GB,nQ,eR,he⟩ De=>?_⟩;subst he;obtain⟨q1,q2⟩:=hrows h hh;obtain⟨s12'',s13'',u⟩:=all2 R C fl ru hru (.lst (rows.map (gh ru))) pl eO ss acc (by lia) h q1 q2 (by lia) nQ eR ls (λs hs=>(hn s hs).1);exact⟨_,eJ (e0:=eA R C fl ru (.lst (rows.map (gh ru))) pl (fl.getD pl 0) ss acc (.F (az h)) (.F (.lst (h.map λs=>dr (ig ru s)))) nQ eR) rfl u,_,_,_,_,rfl⟩
 have hst:rows.flatMap (λh=>((ss.filter (okN ru fl pl h)).map λs=>h++[s]).map (gh ru))=(ir R C ru fl pl rows).map (gh ru):=by
  unfold ir;rw[U8,QG]
 rw[hst,Uu]at h1;have l1:(ss.map λs=>dr (ig ru s)).length<=16000000:=by rw[c_];lia
 have l2:(ss.map λs=>D.lst (s.cs.map cel)).length<=16000000:=by rw[c_];lia
 exact⟨.F (.lst (ss.map Sh.d)),.F (.lst (ss.map λs=>dr (ig ru s))),.F (.lst (ss.map λs=>.lst (s.cs.map cel))),.F (.lst ((ir R C ru fl pl rows).map (gh ru))),GA,GB,nQ,eR,(aw (a7 ((call_v (aj rfl (aj rfl aN))).trans a1))).trans ((aw (a7 (dk (cP rfl) rfl b1 l1))).trans ((aw (a7 (dk (cP rfl) rfl c1 l2))).trans ((aw (jX rfl)).trans ((aw ((bW (cP rfl)).trans h1)).trans ((aw rfl).trans (a7 rfl))))))⟩
theorem DV(h:f env=some (.tup ds)):Dj f env=some (je 0 ds):=by unfold Dj;rw[h];rfl
theorem yR(R C:Nat)(hR:R<=4)(hC:C<=5)(ru:Str)(fl:W5)(j:Nat)(rows:List (List Sh)):(ir R C ru fl j rows).length<=40*rows.length:=
 lB rows λh _=>by rw[c_];exact B_ (Tj _ _) (so R C hR hC _)
theorem jy(R C:Nat)(hR:R<=4)(hC:C<=5)(ru:Str)(fl:W5):∀j,(eh R C ru fl j).length<=40 ^ j
 | 0=>by simp[eh]
 | j+1=>by
  have h1:=yR R C hR hC ru fl j (eh R C ru fl j);have h2:=jy R C hR hC ru fl j;rw[TQ];show(ir R C ru fl j (eh R C ru fl j)).length<=_
  lia
theorem pQ:x∈ir R C ru fl j rows↔∃h∈rows,∃s∈ef R C (fl.getD j 0),okN ru fl j h s=true/\x=h++[s]:=by
 unfold ir;simp only[Ud,y_,SE];constructor
 .rintro⟨h,hh,s,⟨h1,h2⟩,rfl⟩;exact⟨h,hh,s,h1,h2,rfl⟩
 .rintro⟨h,hh,s,h1,h2,rfl⟩;exact⟨h,hh,s,⟨h1,h2⟩,rfl⟩
theorem xh(R C:Nat)(ru:Str)(fl:W5)(hf:∀n∈fl,1<=n/\n<=10):∀j,j<=fl.length->∀h∈eh R C ru fl j,h.length=j/\∀t∈h,1<=t.n/\t.n<=1000
 | 0,_,h,hh=>by cases s_.mp hh;exact⟨rfl,λt ht=>by cases ht⟩
 | j+1,hj,x,hx=>by
  obtain⟨h,hh,s,h1,h2,rfl⟩:=pQ.mp hx;obtain⟨i1,i2⟩:=xh R C ru fl hf j (by lia) h hh;refine⟨by simp[i1],λt ht=>?_⟩;rcases Sr.mp ht with ht | ht
  .exact i2 t ht
  .cases s_.mp ht;rw[pY h1];have:=hf (fl.getD j 0) (by rw[g_,f_ (by lia)];exact Ts _)
   lia
theorem G9(h:n<=3):40 ^ n<=64000:=B_ (TZ (by decide) h) (by decide)
theorem JE(R C:Nat)(hR:R<=4)(hC:C<=5)(ru:Str)(hru:d9 ru)(fl:W5)(hfl:fl.length<=3)(hf:∀n∈fl,1<=n/\n<=10) :
  m__law_all [.tup [.int R,.int C],jM fl,.str ru]=some (.lst ((eh R C ru fl fl.length).map az)):=by
 obtain⟨e2,h1,s4,s5,s6,s7,s8,s9,gm,eF,xZ,oE,rfl⟩:=bR (t:=oq [4,5]) (body:=fV) (λj e=>∃(s4 s5 s6 s7 s8 s9 gm eF xZ oE:Slot),e=[.F (.tup [.int R,.int C]),.F (jM fl),.F (.str ru),.F (.lst ((eh R C ru fl j).map (gh ru))),s4,s5,s6,s7,s8,s9,gm,eF,xZ,oE]) (je 0 (fl.map λ(n:Nat)=>.int n)) 0 _ ⟨.un,.un,.un,.un,.un,.un,.un,.un,.un,.un,rfl⟩ λi d e hd aC=>by
  obtain⟨s4,s5,s6,s7,s8,s9,gm,eF,xZ,oE,he⟩:=aC;subst he;have hi:=(i_.mp hd).1;rw[ft,c_]at hi;have hg:fl[i]?=some (fl.getD i 0):=by rw[g_,f_ hi];rfl
  have hx:(fl.map λ(n:Nat)=>D.int n)[i]?=some (.int ((fl.getD i 0:Nat):Int)):=by rw[m_,hg];rfl
  rw[jG hx]at hd;cases hd;simp only[Sq];have hp2:40 ^ i<=40 ^ 2:=TZ (by decide) (by lia);obtain⟨t6,t7,t8,t9,zK,Lb,RL,RM,u1⟩:=gC R C hR hC ru hru fl hfl i hi (hf _ (R_ hg)) (eh R C ru fl i) (xh R C ru fl hf i (by lia)) (by have:=jy R C hR hC ru fl i;lia) s6 s7 s8 s9 gm eF xZ oE;exact⟨_,eJ rfl u1,_,_,_,_,_,_,_,_,_,_,rfl⟩
 rw[Sq,ft,c_]at h1;have h40:=G9 hfl;have hlen:=jy R C hR hC ru fl fl.length;refine bw ((aw (a7 rfl)).trans ((aw ((bW (DV rfl)).trans h1)).trans (dP (dk (cP rfl) rfl ?_ (by rw[c_];lia)))));exact dH (gh ru) az _ λh hh=>⟨_,rfl,rfl⟩
def KQ(ru:Str)(s t:Sh):Prop:=(t.n=s.n->Di s t)/\tN ru s t=true
instance (ru:Str)(s t:Sh):Decidable (KQ ru s t):=by unfold KQ;infer_instance
theorem yM(h:Di s t)(h2:Di t u):Di s u:=by
 rcases h with h | ⟨e,h⟩
 .rcases h2 with h2 | ⟨e2,_⟩
  .exact .inl (Int.lt_trans h h2)
  .exact .inl (e2▸h)
 .rcases h2 with h2 | ⟨e2,h2⟩
  .exact .inl (e▸h2)
  .refine .inr ⟨e.trans e2,?_⟩;rcases h with h | ⟨f,h⟩
   .rcases h2 with h2 | ⟨f2,_⟩
    .exact .inl (Int.lt_trans h h2)
    .exact .inl (f2▸h)
   .rcases h2 with h2 | ⟨f2,h2⟩
    .exact .inl (f▸h2)
    .refine .inr ⟨f.trans f2,?_⟩;rcases h with ⟨p,q⟩ | ⟨p,q⟩
     .rcases h2 with ⟨p2,_⟩ | ⟨p2,_⟩
      .rw[q]at p2;cases p2
      .exact .inl ⟨p,p2▸q⟩
     .rcases h2 with ⟨p2,q2⟩ | ⟨p2,q2⟩
      .exact .inl ⟨p.trans p2,q2⟩
      .exact .inr ⟨p.trans p2,Vs q q2⟩
theorem oW{fl:W5}{j:Nat}(h:j<fl.length):fl.take (j+1)=fl.take j++[fl.getD j 0]:=by
 rw[Uy,g_,f_ h];rfl
theorem vW{ru:Str}{fl:W5}(hs:fl.Pairwise (·>=·)){j:Nat}(hj:j<fl.length){h:List Sh}(hm:h.map Sh.n=fl.take j)(hp:h.Pairwise (KQ ru)){s:Sh}(RN:s.n=fl.getD j 0):okN ru fl j h s=true↔∀t∈h,KQ ru t s:=by
 have hlen:h.length=j:=by have:=Tn List.length hm;rw[c_,SZ]at this;lia
 have Hq:∀t∈h,s.n<=t.n:=λt ht=>by
  have h1:t.n∈fl.take j:=hm▸SU ht;have lT:(fl.take j++fl.drop j).Pairwise (·>=·):=by rw[Uk];exact hs
  rw[RN];refine(S6.mp lT).2.2 _ h1 _ ?_;rw[g_,f_ hj,Uq hj];exact o_
 unfold okN sf;rw[F_,M_]
 by_cases hz:j=0
 .have:h=[]:=List.eq_nil_of_length_eq_zero (by lia);subst this;simp[hz]
 obtain⟨h0,u,rfl⟩:∃h0 u,h=h0++[u]:=by
  have hne:h≠[]:=λe=>by rw[e]at hlen;exact hz hlen.symm
  exact⟨h.dropLast,h.getLast hne,(UU hne).symm⟩
 have hu:u.n=fl.getD (j-1) 0/\h0.map Sh.n=fl.take (j-1):=by
  have e:fl.take j=fl.take (j-1)++[fl.getD (j-1) 0]:=by
   have:=oW (fl:=fl) (j:=j-1) (by lia);rwa [show j-1+1=j by lia]at this
  rw[e,O_]at hm;have:=List.append_inj' hm rfl;exact⟨by simpa using this.2,this.1⟩
 have RO:∀t∈h0,u.n<=t.n:=λt ht=>by
  have lT:(fl.take j).Pairwise (·>=·):=hs.sublist (Wv _ _);rw[<- hm,O_]at lT;exact(S6.mp lT).2.2 _ (SU ht) _ (by simp)
 rw[List.getLast?_append];simp only[List.getLast?_singleton,Option.some_or,hz,decide_false,Bool.false_or,WJ,Bool.not_eq_true',decide_eq_false_iff_not,C_];rw[<- hu.1,<- RN];constructor
 .rintro⟨h1,h2⟩ t ht;refine⟨λe=>?_,h2 t ht⟩;rcases h1 with h1 | h1
  .have b1:=Hq u (by simp);rcases Sr.mp ht with ht | ht
   .have:=RO t ht;lia
   .cases s_.mp ht;lia
  .rcases Sr.mp ht with ht | ht
   .have b1:=Hq u (by simp);have b2:=RO t ht;exact yM (((S6.mp hp).2.2 t ht u (by simp)).1 (by lia)) h1
   .cases s_.mp ht;exact h1
 .intro hf;refine⟨?_,λt ht=>(hf t ht).2⟩
  by_cases e:u.n=s.n
  .exact .inr ((hf u (by simp)).1 e.symm)
  .exact .inl e
theorem mJ(R C:Nat)(ru:Str){fl:W5}(hs:fl.Pairwise (·>=·)):∀(j:Nat),j<=fl.length->∀h,h∈eh R C ru fl j↔h.map Sh.n=fl.take j/\(∀s∈h,s∈ef R C s.n)/\h.Pairwise (KQ ru)
 | 0,_,h=>by
  show h∈[[]]↔_;rw[s_,List.take_zero,Vb];constructor
  .rintro rfl;exact⟨rfl,λs h=>(by cases h),.nil⟩
  .exact λh=>h.1
 | j+1,hj,x=>by
  have ih:=mJ R C ru hs j (by lia);show x∈ir R C ru fl j (eh R C ru fl j)↔_;rw[pQ,oW (by lia)];constructor
  .rintro⟨h,hh,s,h1,h2,rfl⟩;obtain⟨g1,g2,g3⟩:=(ih h).mp hh;have hn:=pY h1;refine⟨by rw[O_,g1,<- hn];rfl,λt ht=>?_,S6.mpr ⟨g3,Vq _ _,λt ht u hu=>?_⟩⟩
   .rcases Sr.mp ht with ht | ht
    .exact g2 t ht
    .cases s_.mp ht;rw[hn];exact h1
   .cases s_.mp hu;exact(vW hs (by lia) g1 g3 hn).mp h2 t ht
  .rintro⟨g1,g2,g3⟩;obtain⟨h,s,rfl⟩:∃h s,x=h++[s]:=by
    have hne:x≠[]:=λe=>by rw[e]at g1;simp at g1
    exact⟨x.dropLast,x.getLast hne,(UU hne).symm⟩
   rw[O_]at g1;obtain⟨q1,q2⟩:=List.append_inj' g1 rfl;have hn:s.n=fl.getD j 0:=by simpa using q2
   obtain⟨p1,p2,p3⟩:=S6.mp g3;refine⟨h,(ih h).mpr ⟨q1,λt ht=>g2 t (by simp[ht]),p1⟩,s,hn▸g2 s (by simp),(vW hs (by lia) q1 p1 hn).mpr λt ht=>p3 t ht s (by simp),rfl⟩
structure PL(R C:Nat)(fl:List Nat)(ru:Str):Prop where
 r0:0<R
 r4:R<=4
 c0:0<C
 c5:C<=5
 l0:0<fl.length
 l3:fl.length<=3
 sz:∀n∈fl,1<=n/\n<=4
 up:fl.Pairwise (·>=·)
 ru:d9 ru
theorem MB{r:W6}(h:r.length=7):∃a b c d e f g,r=[a,b,c,d,e,f,g]:=by
 match r,h with
 | [a,b,c,d,e,f,g],_=>exact⟨a,b,c,d,e,f,g,rfl⟩
theorem wI:∀(ns:W6),(∀x∈ns,1<=x/\x<=4)->ns.Pairwise (·>=·)->∃fl:W5,ns.map D.int=fl.map (λ(n:Nat)=>D.int n)/\fl.length=ns.length/\(∀n∈fl,1<=n/\n<=4)/\(∀n∈fl,(n:Int)∈ns)/\fl.Pairwise (·>=·)
 | [],_,_=>⟨[],rfl,rfl,λ_ h=>(by cases h),λ_ h=>(by cases h),.nil⟩
 | x::ns,h,hp=>by
  obtain⟨p1,p2⟩:=SI.mp hp;obtain⟨fl,h1,h2,h3,h6,h7⟩:=wI ns (λy hy=>h y (l_ _ hy)) p2;obtain⟨h4,h5⟩:=h x o_;obtain⟨n,rfl⟩:=UG (show 0<=x by lia);refine⟨n::fl,by simp[h1],by simp[h2],λm hm=>?_,λm hm=>?_,SI.mpr ⟨λm hm=>?_,h7⟩⟩
  .rcases t_.mp hm with rfl | hm
   .lia
   .exact h3 m hm
  .rcases t_.mp hm with rfl | hm
   .exact o_
   .exact l_ _ (h6 m hm)
  .have:=p1 _ (h6 m hm);lia
theorem B0{env:En}(ns:W6)(hg:bI env 9=some (.tup (ns.map .int)))(h:∀x∈ns,1<=x/\x<=4)(hl:ns.length<=3):∃fl:W5,br gv (br B2 (br sortI ez)) env=some (jM fl)/\fl.length=ns.length/\(∀n∈fl,1<=n/\n<=4)/\fl.Pairwise (·>=·):=by
 obtain⟨fl,h1,h2,h3,_,h5⟩:=wI (jO ns).reverse (λx hx=>h x ((gX ns).mem_iff.mp (List.mem_reverse.mp hx))) (List.pairwise_reverse.mpr (rp ns));refine⟨fl,?_,by rw[h2,List.length_reverse,sU],h3,h5⟩;have e1:br sortI ez env=some (.lst ((jO ns).map .int)):=by
  rw[mI hg];show(jv (ns.map .int)).bind _=_;rw[j7];show(if ns.length<64 then _ else _)=_;rw[j_ (by lia)]
 have e2:br B2 (br sortI ez) env=some (.lst ((jO ns).map .int).reverse):=by rw[mI e1];rfl
 rw[z7 e2,<- List.map_reverse,h1];rfl
theorem Ph{x:Int}(h:0<=x/\x<4):x=0\/x=1\/x=2\/x=3:=by lia
theorem OZ{x:Int}(h:0<=x/\x<3):x=0\/x=1\/x=2:=by lia
theorem F3(c:Int):∃(R C:Nat)(fl:W5)(ru:Str),m__law_game [.int c]=some (.tup [.tup [.int R,.int C],jM fl,.str ru])/\PL R C fl ru:=by
 obtain⟨r,h1,h2,h3⟩:=Av c [4,4,4,4,4,4,3] (by decide) (by decide);obtain⟨w,ro,co,f,s,t,ru,rfl⟩:=MB h2;have hw:=h3 0 w 4 rfl rfl;have hro:=h3 1 ro 4 rfl rfl;have hco:=h3 2 co 4 rfl rfl;have hf:=h3 3 f 4 rfl rfl;have hs:=h3 4 s 4 rfl rfl;have ht:=h3 5 t 4 rfl rfl;have hru:=h3 6 ru 3 rfl rfl;clear h2 h3;have rule:∃u:Str,d9 u/\L2.atI [D.str KY,.str KW,.str Oc] ru=some (.str u):=by
  rcases OZ hru with rfl | rfl | rfl
  .exact⟨_,.inl rfl,rfl⟩
  .exact⟨_,.inr (.inl rfl),rfl⟩
  .exact⟨_,.inr (.inr rfl),rfl⟩
 obtain⟨u,hu1,hu2⟩:=rule;have fin:∀(R C:Int)(ns:W6),0<R->R<=4->0<C->C<=5->(∀x∈ns,1<=x/\x<=4)->0<ns.length->ns.length<=3->∃(R' C':Nat)(fl:W5),
   aI (setF 9 (br gv (br B2 (br sortI ez)))) (bY (bc (aa jH (aa ez (aa (ao aO (cf (aa (fC (.str "free")) (aa (fC (.str "sides")) (aa (fC (.str "corners")) fNil)))) pP) fNil))))) [.F (.int c),.F (.int w),.F (.int ro),.F (.int co),.F (.int f),.F (.int s),.F (.int t),.F (.int ru),.F (.tup [.int R,.int C]),.F (.tup (ns.map .int))]
    = some (.rt (.tup [.tup [.int R',.int C'],jM fl,.str u]))/\PL R' C' fl u:=λR C ns g1 g2 g3 g4 g5 g6 g7=>by
  obtain⟨R',rfl⟩:=UG (Wf g1);obtain⟨C',rfl⟩:=UG (Wf g3);obtain⟨fl,k1,k2,k3,k4⟩:=B0 (env:=[.F (.int c),.F (.int w),.F (.int ro),.F (.int co),.F (.int f),.F (.int s),.F (.int t),.F (.int ru),.F (.tup [.int R',.int C']),.F (.tup (ns.map .int))]) ns rfl g5 g7;exact⟨R',C',fl,(aw (a7 k1)).trans (dP (kW (aj rfl (aj rfl (aj (eu (i:=ru) rfl rfl hu2) aN))))),by lia,by lia,by lia,by lia,by lia,by lia,k3,k4,hu1⟩
 have start:LO [1,2,3,4,5,6,7] (λenv=>((aa aq (aa (cf (aa Xv (aa Xv (aa Xv (aa Xv (aa Xv (aa Xv (aa Xu fNil)))))))) fNil)) env).bind m__law_drawn) (aR 10 [.int c])=some (.nx [.F (.int c),.F (.int w),.F (.int ro),.F (.int co),.F (.int f),.F (.int s),.F (.int t),.F (.int ru),.un,.un]):=L0 ((call_v (aj rfl (aj rfl aN))).trans h1) rfl;rcases Ph hw with rfl | rfl | rfl | rfl
 .obtain⟨R',C',fl,k1,k2⟩:=fin (1+ro) (1+co) [1+f] (by lia) (by lia) (by lia) (by lia) (by intro x hx;cases s_.mp hx;lia) (by simp) (by simp);exact⟨R',C',fl,u,bw ((aw start).trans ((aw (a7 rfl)).trans ((aw ((bO rfl).trans rfl)).trans ((aw (a7 rfl)).trans ((aw ((bO rfl).trans rfl)).trans k1))))),k2⟩
 .obtain⟨R',C',fl,k1,k2⟩:=fin (2+ro%3) (2+co%3) [1+f%3,1+s%3] (by lia) (by lia) (by lia) (by lia) (by intro x hx;simp only[t_,SY,U1]at hx;lia) (by simp) (by simp);exact⟨R',C',fl,u,bw ((aw start).trans ((aw (a7 rfl)).trans ((aw ((bO rfl).trans rfl)).trans ((aw (a7 rfl)).trans ((aw ((bO rfl).trans rfl)).trans k1))))),k2⟩
 .obtain⟨R',C',fl,k1,k2⟩:=fin (1+ro%3) (3+co%2) [1+f%3,1+s%2,1+t%2] (by lia) (by lia) (by lia) (by lia) (by intro x hx;simp only[t_,SY,U1]at hx;lia) (by simp) (by simp);exact⟨R',C',fl,u,bw ((aw start).trans ((aw (a7 rfl)).trans ((aw ((bO rfl).trans rfl)).trans ((aw (a7 rfl)).trans ((aw ((bO rfl).trans rfl)).trans k1))))),k2⟩
 .obtain⟨R',C',fl,k1,k2⟩:=fin 2 (2+co) [1+f%3,1+s%3,1+t%2] (by lia) (by lia) (by lia) (by lia) (by intro x hx;simp only[t_,SY,U1]at hx;lia) (by simp) (by simp);exact⟨R',C',fl,u,bw ((aw start).trans ((aw (a7 rfl)).trans ((aw ((eC rfl).trans (a7 rfl))).trans ((aw (a7 rfl)).trans ((aw ((eC rfl).trans (a7 rfl))).trans k1))))),k2⟩
theorem PL.ten{R C:Nat}{fl:W5}{ru:Str}(h:PL R C fl ru):∀n∈fl,1<=n/\n<=10:=λn hn=>by have:=h.sz n hn;lia
theorem PL.all{R C:Nat}{fl:W5}{ru:Str}(h:PL R C fl ru):m__law_all [.tup [.int R,.int C],jM fl,.str ru]=some (.lst ((eh R C ru fl fl.length).map az)):=JE R C h.r4 h.c5 ru h.ru fl h.l3 h.ten
theorem PL.len{R C:Nat}{fl:W5}{ru:Str}(h:PL R C fl ru):(eh R C ru fl fl.length).length<=64000:=B_ (jy R C h.r4 h.c5 ru fl fl.length) (G9 h.l3)
theorem PL.one{R C:Nat}{fl:W5}{ru:Str}(h:PL R C fl ru):PL R C [1] ru:=⟨h.r0,h.r4,h.c0,h.c5,by decide,by decide,by decide,by simp,h.ru⟩
theorem PL.ne{R C:Nat}{fl:W5}{ru:Str}(h:PL R C fl ru):eh R C ru [1] 1≠[]:=by
 have:[(⟨0,0,false,1⟩:Sh)]∈eh R C ru [1] 1:=(mJ R C ru (by simp) 1 (by decide) _).mpr ⟨rfl,λs hs=>by
  cases s_.mp hs;exact jY.mpr ⟨⟨0,0,rfl,rfl,h.r0,h.c0⟩,rfl,λ_=>(by have:=h.c0;simp only;lia),λz=>by cases z⟩,Vq _ _⟩
 intro e;rw[e]at this;cases this
theorem IE(h:List Sh):pl (az h)=true:=by unfold az pl;exact Ak _ λx hx=>by obtain⟨s,_,rfl⟩:=y_.mp hx;rfl
theorem Bp(hs:List (List Sh)):iR (hs.map az)=true:=Ak _ λx hx=>by obtain⟨s,_,rfl⟩:=y_.mp hx;exact IE s
theorem zg(c:Int):∃(R C:Nat)(fl:W5)(ru:Str),m__law_played [.int c]=some (.tup [.tup [.int R,.int C],jM fl,.str ru,.lst ((eh R C ru fl fl.length).map az)])/\PL R C fl ru/\eh R C ru fl fl.length≠[]:=by
 obtain⟨R,C,fl,ru,h1,hp⟩:=F3 c;have a1:=hp.all;have b1:=hp.one.all;obtain⟨rows,hr⟩:∃rows,rows=eh R C ru fl fl.length:=⟨_,rfl⟩;rw[<- hr]at a1;have heq:fB (ao iq aP (cf fNil)) [.F (.int c),.F (.tup [.int R,.int C]),.F (jM fl),.F (.str ru),.F (.lst (rows.map az))]=some (rows.map az).isEmpty:=et (EO rfl (Bp rows));have start:GQ [1,2,3] (λenv=>((aa aq fNil) env).bind m__law_game) (aR 5 [.int c])=some (.nx [.F (.int c),.F (.tup [.int R,.int C]),.F (jM fl),.F (.str ru),.un]):=wz ((call_v (aj rfl aN)).trans h1) rfl;cases rows with
 | nil=>
  exact⟨R,C,[1],ru,bw ((aw start).trans ((aw (a7 ((call_v (aj rfl (aj rfl (aj rfl aN)))).trans a1))).trans ((aw ((eC heq).trans ((aw (a7 rfl)).trans (a7 ((call_v (aj rfl (aj rfl (aj rfl aN)))).trans b1))))).trans (dP rfl)))),hp.one,hp.ne⟩
 | cons r rows=>
  refine⟨R,C,fl,ru,?_,hp,by rw[<- hr];simp⟩;rw[<- hr];exact bw ((aw start).trans ((aw (a7 ((call_v (aj rfl (aj rfl (aj rfl aN)))).trans a1))).trans ((aw ((bO heq).trans rfl)).trans (dP rfl))))
theorem jj(f g:α->D)(p:α->Bool):∀(xs:List α),(∀x∈xs,∃e1,t (f x) env=some e1/\c e1=some (p x)/\(p x=true->k e1=some [g x]))->jL t c k env (xs.map f)=some ((xs.filter p).map g)
 | [],_=>rfl
 | x::xs,h=>by
  obtain⟨e1,h1,h2,h3⟩:=h x o_;have ih:=jj f g p xs λy hy=>h y (l_ _ hy);show jL _ _ _ _ (f x::xs.map f)=_;unfold jL;rw[h1];show(c e1).bind _=_;rw[h2];cases hp:p x with
  | true=>
   show(if true=true then k e1 else some []).bind _=_;rw[j_ rfl,h3 hp];show(jL t c k env (xs.map f)).bind _=_;rw[ih,UF,j_ hp];rfl
  | false=>
   simp only[H_,x_,SS,ih,Uu,UF,hp]
abbrev Pt:=Int×Int
def Do(R C:Nat):List Pt:=(List.range R).flatMap λi=>(List.range C).map λj=>(((i:Nat):Int),((j:Nat):Int))
theorem IS:∀R:Fin 5,∀C:Fin 6,(Do R C).Nodup/\(Do R C).length<=20:=by decide
theorem xQ(h:f env=some (.lst ds)):Dj f env=some (je 0 ds):=by unfold Dj;rw[h];rfl
theorem uP(xs:List α)(k:Nat)(y:α):(insAt xs k y).Perm (y::xs):=by
 unfold insAt;have:=List.perm_middle (a:=y) (l₁:=xs.take k) (l₂:=xs.drop k);rwa [Uk]at this
theorem MD(h1:env[i]?=some (.O (.L ds)))(hk:fk env=some (.int j))(h:f env=some d)(h0:0<=j)(hj:j<=ds.length)(hl:ds.length<16000000):Bo i fk f env=some (.nx (env.set i (.O (.L (insAt ds j.toNat d))))):=by
 unfold Bo;rw[h1];show(fk env).bind _=_;rw[hk];show(f env).bind _=_;rw[h];show(if 0<=j/\j<=ds.length/\ds.length<16000000 then _ else _)=_;rw[j_ ⟨h0,hj,hl⟩]
theorem vV:∀(xs:List α),(∀x∈xs,pl (f x)=true)->iR (xs.map f)=true
 | [],_=>rfl
 | x::xs,h=>by
  show iR (f x::xs.map f)=true;unfold iR;rw[h x o_,vV xs λy hy=>h y (l_ _ hy)];rfl
theorem BH(p:W7):pl (cel p)=true:=rfl
theorem uY(q p:Pt):iJ (cel q) (cel p)=decide (q=p):=by
 obtain⟨a,b⟩:=q;obtain⟨c,d⟩:=p;unfold cel;simp only[iJ,jA,Uz,Bool.and_true];rw[S9];simp
theorem Ic(p:Pt)(cs:List Pt):inD (cel p) (cs.map cel)=decide (p∈cs):=by
 unfold inD;rw[List.any_map,S9,WD,C_];constructor
 .rintro⟨q,hq,he⟩;rw[Wb,uY,C_]at he;exact he▸hq
 .intro h;exact⟨p,h,by rw[Wb,uY,C_]⟩
theorem DU(p:Pt):dep (cel p)<=60:=B_ (wb (n:=0) λd hd=>by
 rcases t_.mp hd with rfl | hd
 .rw[lu];exact h_ _
 .cases s_.mp hd;rw[lu];exact h_ _) (by decide)
theorem v9(cs:List Pt):iR (cs.map cel)=true:=vV cs λp _=>BH p
theorem Mo{f g:Fe}{env:En}{p:Pt}{cs:List Pt}(h1:f env=some (cel p))(h2:g env=some (.lst (cs.map cel))):ao (Dl false) f g env=some (.bl (decide (p∈cs))):=Pr h1 h2 (DU p) (Ic p cs) (by rw[BH,v9];rfl)
def Apart(h:List Sh):Prop:=h.Pairwise λs t=>∀p∈s.cs,p∉t.cs
def EV(h:List Sh)(p:Pt):Bool:=h.any λs=>decide (p∈s.cs)
theorem AM(s:Sh):s.cs.Nodup:=by
 unfold Sh.cs;refine Tf.mpr (List.Pairwise.imp (λ{i j} (h:i≠j) e=>?_) List.nodup_range);unfold Sh.at at e
 split at e
 .have:=(Prod.mk.inj e).1;lia
 .have:=(Prod.mk.inj e).2;lia
theorem y9(hr:d9 ru)(hn:∀s∈h,1<=s.n)(pw:h.Pairwise (KQ ru)):Apart h:=by
 refine Vc (λ{s t} hs ht hf p hp hq=>?_) pw;refine(rY hr (hn s hs) (hn t ht)).mp hf.2 ⟨p,hq,p,hp,(0,0),?_,by unfold plus;simp⟩;rcases hr with rfl | rfl | rfl
 .rw[l6];simp
 .rw[nE];simp
 .rw[mT];simp
structure Hid(R C:Nat)(fl:List Nat)(h:List Sh):Prop where
 ap:Apart h
 len:h.length<=3
 sz:∀s∈h,1<=s.n/\s.n<=4
 on:∀s∈h,s∈ef R C s.n
theorem PL.hid{R C:Nat}{fl:W5}{ru:Str}(p:PL R C fl ru){h:List Sh}(hh:h∈eh R C ru fl fl.length):Hid R C fl h:=by
 obtain⟨a,b,c⟩:=(mJ R C ru p.up _ (h_ _) h).mp hh;rw[Tb]at a;have sz:∀s∈h,1<=s.n/\s.n<=4:=λs hs=>p.sz s.n (a▸SU hs);exact⟨y9 p.ru (λs hs=>(sz s hs).1) c,by have:=Tn List.length a;rw[c_]at this;have:=p.l3;lia,sz,b⟩
theorem BQ(xs:List Pt):dep (.lst (xs.map cel))<=60:=B_ (Ga (n:=1) λd hd=>by
 obtain⟨p,_,rfl⟩:=y_.mp hd;exact wb (n:=0) λd hd=>by
  rcases t_.mp hd with rfl | hd
  .rw[lu];exact h_ _
  .cases s_.mp hd;rw[lu];exact h_ _) (by decide)
theorem zL{ks:List Pt}(h:ks.Nodup)(p:Pt):(ib ks p).Nodup:=by
 unfold ib
 split
 .exact h
 .rename_i hp;exact S6.mpr ⟨h,Vq _ _,λa ha b hb e=>by rw[s_.mp hb]at e;exact hp (e▸ha)⟩
theorem DI(s0 s3:Slot)(s:Sh)(hn:s.n<=1000)(ks:List Pt)(hk:ks.length<=15000)(Qc:ks.Nodup) :
  ∃gj zJ,dj [s0,.O (qi ks),.F s.d,s3]=some (.nx [s0,.O (qi gj),.F s.d,zJ])/\gj.length<=ks.length+s.n/\gj.Nodup/\∀q,q∈gj↔q∈ks\/q∈s.cs:=by
 have hlen:=vy s;obtain⟨e2,h1,gj,zJ,h2,h3,QH,h4⟩:=bR (t:=bZ 3) (body:=f') (λj e=>∃gj zJ,e=[s0,.O (qi gj),.F s.d,zJ]/\gj.length<=ks.length+j/\gj.Nodup/\∀q,q∈gj↔q∈ks\/q∈s.cs.take j) (s.cs.map cel) 0 [s0,.O (qi ks),.F s.d,s3] ⟨ks,s3,rfl,by lia,Qc,λq=>by simp⟩ λi d e hd aC=>by
  obtain⟨gj,zJ,he,h3,QH,h4⟩:=aC;subst he;rw[m_]at hd;obtain⟨q,hq,rfl⟩:=D_.mp hd;have hi:=(i_.mp hq).1;have u3:=wx gj (q.1,q.2);refine⟨_,eJ (e0:=[s0,.O (qi gj),.F s.d,.F (cel q)]) rfl (Hg (ks:=gj) (a:=q.1) (b:=q.2) rfl rfl (by lia)),_,_,rfl,by lia,zL QH _,λx=>?_⟩;rw[xv,h4,Sq,Uy,hq];simp only[Wp,Sr,s_,or_assoc]
 subst h2;rw[c_,Sq]at h3 h4;rw[Tb]at h4;exact⟨gj,zJ,(bW (cP ((call_v (aj rfl aN)).trans (lV s hn)))).trans h1,by lia,QH,h4⟩
theorem yJ(h:List Sh)(h3:h.length<=3)(hn:∀s∈h,s.n<=4):∃ks,m__law_ground [az h]=some (dr ks)/\ks.Nodup/\∀q,q∈ks↔EV h q=true:=by
 obtain⟨e2,g1,ks,s2,s3,g2,g3,g3n,g4⟩:=bR (t:=bZ 2) (body:=dj) (λj e=>∃ks s2 s3,e=[.F (az h),.O (qi ks),s2,s3]/\ks.length<=4*j/\ks.Nodup/\∀q,q∈ks↔EV (h.take j) q=true) (h.map Sh.d) 0 [.F (az h),.O (qi []),.un,.un] ⟨[],.un,.un,rfl,by simp,.nil,λq=>by simp[EV]⟩ λi d e hd aC=>by
  obtain⟨ks,s2,s3,he,k3,k3n,k4⟩:=aC;subst he;rw[m_]at hd;obtain⟨s,hs,rfl⟩:=D_.mp hd;have hi:=(i_.mp hs).1;have hm:=hn s (R_ hs);obtain⟨gj,zJ,u1,u2,u2n,u3⟩:=DI (.F (az h)) s3 s (by lia) ks (by lia) k3n;refine⟨_,eJ (e0:=[.F (az h),.O (qi ks),.F s.d,s3]) rfl u1,gj,_,_,rfl,by lia,u2n,λq=>?_⟩;rw[u3,k4,Sq,Uy,hs];unfold EV;simp
 subst g2;rw[c_,Sq,Tb]at g4;exact⟨ks,bw ((aw rfl).trans ((aw ((bW (GX rfl)).trans g1)).trans rfl)),g3n,g4⟩
omit [Th] in
theorem i0{α:Type}{t:Ft}{c:Fb}{k:Xm}{env:En}(f:α->D)(g:α->Xo):∀(xs:List α),(∀x∈xs,∃e1,t (f x) env=some e1/\c e1=some true/\k e1=some (g x))->jL t c k env (xs.map f)=some (xs.flatMap g)
 | [],_=>rfl
 | x::xs,h=>by
  obtain⟨e1,h1,h2,h3⟩:=h x (o_ ..);have ih:=i0 f g xs λy hy=>h y (l_ _ hy);show(t (f x) env).bind _=_;rw[h1,H_,h2,H_,j_ rfl,h3,H_,ih];rfl
def wV(h:List Sh):List Pt:=h.flatMap Sh.cs
def lyP(h:List Sh):List Pt:=lj (wV h)
omit [Th] in
theorem lG{h:List Sh}{p:Pt}:p∈wV h↔EV h p=true:=by
 unfold wV EV;rw[Ud,WD];exact⟨λ⟨s,h1,h2⟩=>⟨s,h1,w_ h2⟩,λ⟨s,h1,h2⟩=>⟨s,h1,Sw h2⟩⟩
theorem jB:∀{h:List Sh},Apart h->(wV h).Nodup
 | [],_=>U4
 | s::h,ap=>by
  obtain⟨a1,a2⟩:=SI.mp ap;show(s.cs++wV h).Nodup;refine U0.mpr ⟨AM s,jB a2,λp hp q hq e=>?_⟩;subst e;obtain⟨t,h1,h2⟩:=Ud.mp hq;exact a1 t h1 p hp h2
structure HC(R C:Nat)(h:List Sh):Prop where
 ap:Apart h
 len:h.length<=3
 sz:∀s∈h,1<=s.n/\s.n<=4
 on:∀p,EV h p=true->p∈Do R C
omit [Th] in
theorem wJ{R C:Nat}{p:Pt}:p∈Do R C↔0<=p.1/\p.1<R/\0<=p.2/\p.2<C:=by
 unfold Do;rw[Ud];constructor
 .rintro⟨i,hi,h⟩;obtain⟨j,hj,rfl⟩:=y_.mp h;have:=Sy.mp hi;have:=Sy.mp hj;dsimp only
  lia
 .rintro⟨h1,h2,h3,h4⟩;refine⟨p.1.toNat,Sy.mpr (by lia),y_.mpr ⟨p.2.toNat,Sy.mpr (by lia),?_⟩⟩;obtain⟨a,b⟩:=p;simp only at *;rw[Uz]
  lia
omit [Th] in
theorem lA{R C:Nat}(hR:R<=4)(hC:C<=5){p:Pt}(h:p∈Do R C):okP p:=by
 obtain⟨h1,h2,h3,h4⟩:=wJ.mp h;exact⟨h1,by lia,h3,by lia⟩
theorem HC.okP{R C:Nat}(hR:R<=4)(hC:C<=5){h:List Sh}(H:HC R C h):∀p∈wV h,Mi.okP p:=λp hp=>lA hR hC (H.on p (lG.mp hp))
theorem HC.mem{R C:Nat}(hR:R<=4)(hC:C<=5){h:List Sh}(H:HC R C h){p:Pt}:p∈lyP h↔EV h p=true:=by
 unfold lyP;rw[fJ (H.okP hR hC),lG]
theorem uI{h:List Sh}(h3:h.length<=3)(hs:∀s∈h,s.n<=4):(wV h).length<=12:=by
 have:∀l:List Sh,(∀s∈l,s.n<=4)->(wV l).length<=4*l.length:=λl hl=>by
  induction l with
  | nil=>exact h_ _
  | cons s l ih=>
   show(s.cs++wV l).length<=_;rw[r_,vy,A_];have:=ih λt ht=>hl t (l_ _ ht);have:=hl s (o_ ..)
   lia
 have:=this h hs
 lia
theorem DJ:dm=kk:=rfl
theorem iV(L:List Pt)(ok:∀p∈L,Mi.okP p)(nd:L.Nodup)(hl:L.length<64):kU (.lst (L.map cel))=some (.lst ((lj L).map cel)):=by
 obtain⟨o1,o2⟩:=pU (lj L) L (gA ok nd) (λp hp=>ok p ((fJ ok).mp hp)) (uU _);show(jS (L.map cel)).bind _=_;rw[mD];show(if _ then _ else none)=_;rw[DJ,j_ ⟨by rw[c_];exact hl,o2⟩];congr 2;rw[<- o1,SM];refine Wa λi hi=>?_;have hi':=hU i hi;rw[c_]at hi';show(L.map cel).getD i .non=cel (L.getD i (0,0));rw[g_,g_,m_,f_ hi'];rfl
theorem AQ{R C:Nat}(hR:R<=4)(hC:C<=5){h:List Sh}(H:HC R C h):m_lying_cells [az h]=some (.lst ((lyP h).map cel)):=by
 have hl:=uI H.len λs hs=>(H.sz s hs).2;have g:=i0 (t:=bZ 0) (c:=λ_=>some true) (k:=fq (j8 (λenv=>((aa aq fNil) env).bind m_cells_of)) [1] (bZ 1) Xw (bj ah)) (env:=[.un,.un]) Sh.d (λs=>s.cs.map cel) h λs hs=>by
  refine⟨[.F s.d,.un],rfl,rfl,uL (cP ((call_v (aj rfl aN)).trans (vn s (by have:=(H.sz s hs).2;lia)))) rfl ?_⟩;exact dH (t:=bZ 1) (k:=bj ah) (env:=[.F s.d,.un]) cel cel s.cs λp _=>⟨[.F s.d,.F (cel p)],rfl,rfl⟩
 have e:h.flatMap (λs=>s.cs.map cel)=(wV h).map cel:=by unfold wV;rw[U8]
 rw[e]at g;refine bw (dP ((mI (dk (GX rfl) rfl g (by rw[c_];lia))).trans ?_));exact iV (wV h) (H.okP hR hC) (jB H.ap) (by lia)
theorem pG:∀(xs ys:List Pt),jA (xs.map cel) (ys.map cel)=decide (xs=ys)
 | [],[]=>rfl
 | [],y::ys=>rfl
 | x::xs,[]=>rfl
 | x::xs,y::ys=>by
  show jA (cel x::xs.map cel) (cel y::ys.map cel)=_;unfold jA;rw[pG xs ys,uY,S9];simp
theorem xO(xs:List Pt):pl (.lst (xs.map cel))=true:=by unfold pl;exact v9 xs
theorem BR{f g:Fe}{env:En}{xs ys:List Pt}(h1:f env=some (.lst (xs.map cel)))(h2:g env=some (.lst (ys.map cel))):ao iq f g env=some (.bl (decide (xs=ys))):=
 M' h1 h2 (Ni (BQ xs) (by rw[xO,xO];rfl)) (by rw[iJ];exact pG xs ys)
def iS(n:Nat):List (Nat×Nat):=(List.range n).flatMap λo=>(List.range o).map λi=>(i,o)
def pD(q:Nat×Nat):D:=.tup [.int (q.1:Nat),.int (q.2:Nat)]
omit [Th] in
theorem qK{n:Nat}{q:Nat×Nat}(h:q∈iS n):q.1<q.2/\q.2<n:=by
 unfold iS at h;obtain⟨o,h1,h2⟩:=Ud.mp h;obtain⟨i,h3,rfl⟩:=y_.mp h2;exact⟨Sy.mp h3,Sy.mp h1⟩
omit [Th] in
theorem rR:∀n:Fin 11,(iS n).length<64:=by decide +kernel
def bD(L:List Pt):D:=.lst (L.map cel)
omit [Th] in
theorem EG:∀n:Fin 11,(iS n).Nodup:=by decide +kernel
omit [Th] in
theorem Ar{n i o:Nat}(h1:i<o)(h2:o<n):(i,o)∈iS n:=Ud.mpr ⟨o,Sy.mpr h2,y_.mpr ⟨i,Sy.mpr h1,rfl⟩⟩
omit [Th] in
theorem MV(n:Nat):aG 0 n=(List.range n).map λ(i:Nat)=>D.int (i:Int):=by unfold aG;simp
def Fp(q:Nat×Nat):Pt:=((q.1:Nat),(q.2:Nat))
theorem Ci(n:Nat)(hn:n<=10){env:En}{f:Fe}(h:br cm f env=some (.int (n:Nat))):cq (gi (br cm f)) [0] (bZ 0) Xw (fq (gi aq) [1] (bZ 1) Xw (bj (bc (aa ah (aa aq fNil))))) 2 [] env=some (.lst ((iS n).map pD)):=by
 have g:=i0 (t:=bZ 0) (c:=λ_=>some true) (k:=fq (gi aq) [1] (bZ 1) Xw (bj (bc (aa ah (aa aq fNil))))) (env:=[.un,.un]) (λ(i:Nat)=>D.int (i:Int)) (λo=>(List.range o).map λi=>pD (i,o)) (List.range n) λo ho=>by
  have ho':=Sy.mp ho;refine⟨[.F (.int (o:Nat)),.un],rfl,rfl,uL (fF (n:=o) rfl (by lia)) rfl ?_⟩;rw[MV];exact dH (t:=bZ 1) (k:=bj (bc (aa ah (aa aq fNil)))) (env:=[.F (.int (o:Nat)),.un]) (λ(i:Nat)=>D.int (i:Int)) (λi=>pD (i,o)) (List.range o) λi _=>⟨[.F (.int (o:Nat)),.F (.int (i:Nat))],rfl,rfl⟩
 have e:((List.range n).flatMap λo=>(List.range o).map λi=>pD (i,o))=(iS n).map pD:=by
  unfold iS;rw[U8];congr 1;funext o;rw[SM];rfl
 rw[e]at g;have hl:=rR ⟨n,by lia⟩;refine dk (fF h (by lia)) rfl ?_ (by rw[c_];exact TR (N_ hl (by decide)));rw[MV];exact g
theorem pE{Bs:List (List Pt)}{i:Nat}(hi:i<Bs.length):L2.atI (Bs.map bD) (i:Int)=some (bD (Bs.getD i [])):=dM (by rw[m_,f_ hi,g_,f_ hi];rfl)
theorem Cd(Bs:List (List Pt))(hb:Bs.length<=10):∃es:List Pt,m_alike_pairs [.lst (Bs.map bD)]=some (.lst (es.map cel))/\(es=[]↔Bs.Nodup):=by
 let p:Nat×Nat->Bool:=λq=>decide (Bs.getD q.1 []=Bs.getD q.2 [])
 have g:=jj (t:=oq [0,1]) (c:=fB (ao iq (ao aO aK aq) (ao aO aK ah))) (k:=bj (bc (aa aq (aa ah fNil)))) (env:=[.un,.un,.F (.lst (Bs.map bD))]) pD pD p (iS Bs.length) λq hq=>by
  obtain⟨h1,h2⟩:=qK hq;exact⟨[.F (.int (q.1:Nat)),.F (.int (q.2:Nat)),.F (.lst (Bs.map bD))],rfl,et (BR (eu rfl rfl (pE (by lia))) (eu rfl rfl (pE h2))),λ_=>rfl⟩
 have hl:=rR ⟨Bs.length,by lia⟩;have hnd:=EG ⟨Bs.length,by lia⟩;have hfl:=Tj p (iS Bs.length);have inj:∀a b:Nat×Nat,Fp a=Fp b->a=b:=λa b e=>by
  obtain⟨a1,a2⟩:=a;obtain⟨b1,b2⟩:=b;simp only[Fp,Uz]at e ⊢
  lia
 have ok:∀x∈((iS Bs.length).filter p).map Fp,Mi.okP x:=λx hx=>by
  obtain⟨q,hq,rfl⟩:=y_.mp hx;obtain⟨h1,h2⟩:=qK (SE.mp hq).1;exact⟨by show(0:Int)<=(q.1:Nat);lia,by show((q.1:Nat):Int)<64;lia,by show(0:Int)<=(q.2:Nat);lia,by show((q.2:Nat):Int)<64;lia⟩
 have nd:(((iS Bs.length).filter p).map Fp).Nodup:=by
  rw[List.Nodup,Tf];exact(hnd.filter _).imp λh e=>h (inj _ _ e)
 have srt:=iV (((iS Bs.length).filter p).map Fp) ok nd (by rw[c_];exact UP hfl hl);rw[SM]at srt;refine⟨lj (((iS Bs.length).filter p).map Fp),bw ((aw (a7 (Ci Bs.length hb ((fZ rfl).trans (by rw[c_]))))).trans (dP ((mI (dk (cP rfl) rfl g (by rw[c_];exact B_ hfl (TR (N_ hl (by decide)))))).trans srt))),?_⟩;constructor
 .intro h;refine SR.mpr λi j hi hj xV e=>?_;have:Fp (i,j)∈lj (((iS Bs.length).filter p).map Fp):=(fJ ok).mpr (y_.mpr ⟨(i,j),SE.mpr ⟨Ar xV hj,w_ (by rw[g_,g_,f_ hi,f_ hj];exact e)⟩,rfl⟩);rw[h]at this;cases this
 .intro h;refine List.eq_nil_iff_forall_not_mem.mpr λx hx=>?_;obtain⟨q,hq,rfl⟩:=y_.mp ((fJ ok).mp hx);obtain⟨h1,h2⟩:=SE.mp hq;obtain⟨h3,h4⟩:=qK h1;have e:=Sw h2;rw[g_,g_,f_ h4,f_ (Vs h3 h4)]at e;exact SR.mp h q.1 q.2 _ h4 h3 e
def yN:List Bool->Nat
 | []=>0
 | b::r=>(if b=true then 1 else 0)+2*yN r
omit [Th] in
theorem yU(b:Bool)(r:List Bool):yN (b::r)=(if b=true then 1 else 0)+2*yN r:=rfl
def iW(Bs:List (List Pt))(p:Pt):Nat:=yN (Bs.map λL=>decide (p∈L))
def nums:Nat->List (List Pt)->List (Nat×List Pt)
 | _,[]=>[]
 | k,L::r=>(k,L)::nums (k+1) r
def nD(x:Nat×List Pt):D:=.tup [.int (x.1:Nat),bD x.2]
omit [Th] in
theorem o6:∀(k:Nat)(Bs:List (List Pt)),je k (Bs.map bD)=(nums k Bs).map nD
 | _,[]=>rfl
 | k,L::r=>by
  show D.tup [.int (k:Int),bD L]::je (k+1) (r.map bD)=nD (k,L)::(nums (k+1) r).map nD;rw[o6 (k+1) r];rfl
omit [Th] in
theorem xl:∀{k:Nat}{Bs:List (List Pt)}{x:Nat×List Pt},x∈nums k Bs->x.1<k+Bs.length
 | _,[],_,h=>by cases h
 | k,L::r,x,h=>by
  rcases t_.mp h with rfl | h
  .show k<_;simp
  .have:=xl h;rw[A_];lia
omit [Th] in
theorem sA(p:Pt):∀(k:Nat)(Bs:List (List Pt)),((((nums k Bs).filter λx=>decide (p∈x.2)).map λx=>(2:Int) ^ x.1).sum)=((2 ^ k*iW Bs p:Nat):Int)
 | k,[]=>by show(0:Int)=_;unfold iW yN;simp
 | k,L::r=>by
  have ih:=sA p (k+1) r;have e:iW (L::r) p=(if decide (p∈L)=true then 1 else 0)+2*iW r p:=rfl;show(((List.filter _ ((k,L)::nums (k+1) r)).map λx=>(2:Int) ^ x.1).sum)=_;rw[e,UF]
  by_cases h:p∈L
  .rw[j_ (w_ h),j_ (w_ h),L_,List.sum_cons,ih];rw[TQ,VS,Nat.mul_one,Int.natCast_add,Int.natCast_pow];congr 2;rw[<- UV]
  .rw[k_ (by simpa using h),k_ (by simpa using h),ih,TQ,Sq,<- UV]
theorem LA(Bs:List (List Pt))(hb:Bs.length<=10)(p:Pt)(s1:Slot):br Ff (cq (Dj aq) [0,1] (oq [0,1]) (fB (ao (Dl false) aK ah)) (bj (ao md Xs aq)) 2 [2]) [.F (.lst (Bs.map bD)),s1,.F (cel p)]=some (.int (iW Bs p:Nat)):=by
 have g:=jj (t:=oq [0,1]) (c:=fB (ao (Dl false) aK ah)) (k:=bj (ao md Xs aq)) (env:=[.un,.un,.F (cel p)]) nD (λx=>D.int ((2:Int) ^ x.1)) (λx=>decide (p∈x.2)) (nums 0 Bs) λx hx=>by
  have:=xl hx;refine⟨[.F (.int (x.1:Nat)),.F (bD x.2),.F (cel p)],rfl,et (Mo (p:=p) (cs:=x.2) rfl rfl),λ_=>nk ?_⟩;refine(aE rfl rfl).trans ?_;show(if decide (0<=((x.1:Nat):Int)/\((x.1:Nat):Int)<=1000000/\(1:Int).natAbs<2 ^ 64)=true then some (D.int (1*2 ^ ((x.1:Nat):Int).toNat))else none)=_;rw[j_ (w_ ⟨by lia,by lia,by decide⟩),Int.one_mul,SO]
 have hl:(nums 0 Bs).length=Bs.length:=by
  have:∀(k:Nat)(l:List (List Pt)),(nums k l).length=l.length:=λk l=>by
   induction l generalizing k with
   | nil=>rfl
   | cons L l ih=>show(nums (k+1) l).length+1=_;rw[ih];rfl
  exact this 0 Bs
 have hf:=Tj (λx:Nat×List Pt=>decide (p∈x.2)) (nums 0 Bs);have c1:=dk (fi:=Dj aq) (env:=[.F (.lst (Bs.map bD)),s1,.F (cel p)]) (xQ rfl) (n:=2) (caps:=[2]) (is:=[0,1]) rfl (by rw[o6];exact g) (by rw[c_];lia);rw[show ∀l:List (Nat×List Pt),(l.map λx=>D.int ((2:Int) ^ x.1))=(l.map λx=>(2:Int) ^ x.1).map D.int from λl=>by rw[SM];rfl]at c1;refine(mI c1).trans ?_;show(jv _).bind _=_;rw[j7];show some (D.int _)=_;rw[sA p 0 Bs,Nat.pow_zero,Nat.one_mul]
def bx(ls:W5)(vs:List Pt):D:=.ix Th.h (ls.map λn=>Sum.inl ((n:Nat):Int)) (vs.map cel)
def Dh(ls:W5)(vs:List Pt):rF:=.I Th.h (ls.map λn=>Sum.inl ((n:Nat):Int)) (vs.map cel)
omit [Th] in
theorem xA{ls:W5}{n:Nat}:(Sum.inl ((n:Nat):Int):L2.Key)∈ls.map (λn=>Sum.inl ((n:Nat):Int))↔n∈ls:=by
 rw[y_];constructor
 .rintro⟨m,h,e⟩;have:(m:Int)=n:=Sum.inl.inj e;rw[show n=m by lia];exact h
 .exact λh=>⟨n,h,rfl⟩
open Classical in
theorem LB{fk fx:Fe}{env:En}{i n:Nat}{p:Pt}{ls:W5}{vs:List Pt}(hk:fk env=some (.int (n:Nat)))(hx:fx env=some (cel p))(he:env[i]?=some (.O (Dh ls vs)))(hl:vs.length=ls.length)(hz:ls.length<1000) :
  H8 Th.h i fk fx env=some (.nx (env.set i (.O (if n∈ls then Dh ls vs else Dh (ls++[n]) (vs++[p]))))):=by
 show(fk env).bind _=_;rw[hk,H_,hx,H_];show(match env[i]? with | some (.O (.I zD ks ds))=>if zD=Th.h/\ks.length<16000000/\ds.length=ks.length then some (Out.nx (env.set i (.O (if(Sum.inl ((n:Nat):Int):L2.Key)∈ks then .I Th.h ks ds else .I Th.h (ks++[Sum.inl ((n:Nat):Int)]) (ds++[cel p])))))else none | _=>none)=_;rw[he];show(if Th.h=Th.h/\(ls.map λn=>(Sum.inl ((n:Nat):Int):L2.Key)).length<16000000/\(vs.map cel).length=(ls.map λn=>(Sum.inl ((n:Nat):Int):L2.Key)).length then _ else none)=_;rw[j_ ⟨rfl,by rw[c_];lia,by rw[c_,c_,hl]⟩];congr 4
 by_cases h:n∈ls
 .rw[j_ (xA.mpr h),j_ h];rfl
 .rw[k_ (λz=>h (xA.mp z)),k_ h];unfold Dh;rw[O_,O_];rfl
def vO(Bs:List (List Pt)):List Pt:=lj (tM Bs.flatten)
structure DA(R C:Nat)(Bs:List (List Pt)):Prop where
 r:R<=4
 c:C<=5
 len:Bs.length<=10
 on:∀L∈Bs,∀p∈L,p∈Do R C
 few:∀L∈Bs,L.length<=100
theorem DA.ok{R C:Nat}{Bs:List (List Pt)}(H:DA R C Bs):∀p∈tM Bs.flatten,Mi.okP p:=λp hp=>by
 obtain⟨L,h1,h2⟩:=WE.mp ((jc _ _).mp hp);exact lA H.r H.c (H.on L h1 p h2)
theorem DA.mem{R C:Nat}{Bs:List (List Pt)}(H:DA R C Bs){p:Pt}:p∈vO Bs↔∃L∈Bs,p∈L:=by
 unfold vO;rw[fJ H.ok,jc,WE]
theorem B8(l:List Pt):(tM l).Nodup:=by
 have:∀(l acc:List Pt),acc.Nodup->(l.foldl ib acc).Nodup:=λl=>by
  induction l with
  | nil=>exact λacc h=>h
  | cons x l ih=>exact λacc h=>ih _ (zL h x)
 exact this l [] U4
theorem DA.len20{R C:Nat}{Bs:List (List Pt)}(H:DA R C Bs):(tM Bs.flatten).length<=20/\(vO Bs).length<=20:=by
 have s:=IS ⟨R,by have:=H.r;lia⟩ ⟨C,by have:=H.c;lia⟩;have e1:(tM Bs.flatten).Perm ((Do R C).filter λp=>decide (p∈tM Bs.flatten)):=(Ug (B8 _) (s.1.filter _)).mpr λp=>by
  rw[SE,C_];refine⟨λh=>⟨?_,h⟩,λh=>h.2⟩;obtain⟨L,h1,h2⟩:=WE.mp ((jc _ _).mp h);exact H.on L h1 p h2
 have e2:=Tj (λp=>decide (p∈tM Bs.flatten)) (Do R C);have e3:(tM Bs.flatten).length<=20:=by rw[e1.length_eq];exact B_ e2 s.2
 refine⟨e3,?_⟩;unfold vO;rw[<- (gA H.ok (B8 _)).length_eq];exact e3
theorem EN{R C:Nat}{Bs:List (List Pt)}(H:DA R C Bs)(s1 s2:Slot):u6 (j8 aq) [0] (bZ 0) Xw (fq (j8 aq) [1] (bZ 1) Xw (oX ah)) 2 [] [.F (.lst (Bs.map bD)),s1,s2]=some (.lst ((vO Bs).map cel)):=by
 have g:=i0 (t:=bZ 0) (c:=λ_=>some true) (k:=fq (j8 aq) [1] (bZ 1) Xw (oX ah)) (env:=[.un,.un]) bD (λL=>L.map cel) Bs λL hL=>by
  refine⟨[.F (bD L),.un],rfl,rfl,uL (cP rfl) rfl ?_⟩;refine dH (t:=bZ 1) (k:=oX ah) (env:=[.F (bD L),.un]) cel cel L λp hp=>⟨[.F (bD L),.F (cel p)],rfl,?_⟩;obtain⟨h1,h2,h3,h4⟩:=lA H.r H.c (H.on L hL p hp);show(if 0<=p.1/\p.1<64/\0<=p.2/\p.2<64 then some [D.tup [.int p.1,.int p.2]]else none)=_;rw[j_ ⟨h1,h2,h3,h4⟩];rfl
 have e:Bs.flatMap (λL=>L.map cel)=Bs.flatten.map cel:=by rw[List.flatMap,List.map_flatten]
 rw[e]at g;have hl:Bs.flatten.length<=1000:=by
  have:∀l:List (List Pt),(∀L∈l,L.length<=100)->l.flatten.length<=100*l.length:=λl hl=>by
   induction l with
   | nil=>exact h_ _
   | cons L l ih=>
    rw[Tz,r_,A_];have:=ih λt ht=>hl t (l_ _ ht);have:=hl L (o_ ..)
    lia
  have:=this Bs H.few;have:=H.len
  lia
 have l20:=H.len20.1;show(some (Bs.map bD)).bind _=_;rw[H_];show(jL _ _ _ _ _).bind _=_;rw[show cK 2 [] [Slot.F (.lst (Bs.map bD)),s1,s2]=[.un,.un]from rfl,g];show(if _ then _ else none)=_;rw[j_ (by rw[c_];lia),tK (f:=cel) (λ_=>rfl)];show(if _ then _ else none)=_;rw[j_ (by lia)];rfl
structure KJ(Bs:List (List Pt))(cs:List Pt)(ls:List Nat)(vs:List Pt):Prop where
 len:vs.length=ls.length
 all:∀p∈cs,iW Bs p∈ls
 own:∀l∈ls,∃p,l=iW Bs p
theorem yD{R C:Nat}{Bs:List (List Pt)}(H:DA R C Bs):∃ls vs,m_cells_by_lot [.lst (Bs.map bD)]=some (bx ls vs)/\KJ Bs (vO Bs) ls vs/\ls.length<=20:=by
 have l20:=H.len20.2;obtain⟨e2,h1,ls,vs,s2,rfl,h2,h3⟩:=bR (t:=bZ 2) (body:=fo) (λj e=>∃ls vs s2,e=[.F (.lst (Bs.map bD)),.O (Dh ls vs),s2]/\KJ Bs ((vO Bs).take j) ls vs/\ls.length<=j) ((vO Bs).map cel) 0 [.F (.lst (Bs.map bD)),.O (Dh [] []),.un] ⟨[],[],.un,rfl,⟨rfl,λp hp=>by simp at hp,λl hl=>by cases hl⟩,h_ _⟩ λi d e hd aC=>by
  obtain⟨ls,vs,s2,he,h2,h3⟩:=aC;subst he;rw[m_]at hd;obtain⟨p,hp,rfl⟩:=D_.mp hd;have hi:=(i_.mp hp).1;rw[Sq]at h2 h3 ⊢;have dv:=LB (i:=1) (env:=[.F (.lst (Bs.map bD)),.O (Dh ls vs),.F (cel p)]) (fx:=λenv=>bI env 2) (LA Bs H.len p (.O (Dh ls vs))) rfl rfl h2.len (by lia);have tk:(vO Bs).take (i+1)=(vO Bs).take i++[p]:=by rw[Uy,hp];rfl
  by_cases hm:iW Bs p∈ls
  .rw[j_ hm]at dv;refine⟨_,eJ (e0:=[.F (.lst (Bs.map bD)),.O (Dh ls vs),.F (cel p)]) rfl dv,ls,vs,.F (cel p),rfl,⟨h2.len,λq hq=>?_,h2.own⟩,by lia⟩;rw[tk]at hq;rcases Sr.mp hq with z | z
   .exact h2.all q z
   .rw[s_.mp z];exact hm
  .rw[k_ hm]at dv;refine⟨_,eJ (e0:=[.F (.lst (Bs.map bD)),.O (Dh ls vs),.F (cel p)]) rfl dv,ls++[iW Bs p],vs++[p],.F (cel p),rfl,⟨by rw[r_,r_,h2.len];rfl,λq hq=>?_,λl hl=>?_⟩,by rw[r_];simp;lia⟩
   .rw[tk]at hq;rcases Sr.mp hq with z | z
    .exact U2 _ (h2.all q z)
    .rw[s_.mp z];exact J_ _ (s_.mpr rfl)
   .rcases Sr.mp hl with z | z
    .exact h2.own l z
    .exact⟨p,s_.mp z⟩
 rw[c_,Sq,Tb]at h2;rw[c_,Sq]at h3;refine⟨ls,vs,bw ((aw rfl).trans ((aw ((bW (cP (EN H _ _))).trans h1)).trans rfl)),h2,by lia⟩
end K31
namespace K31
open PySem Mi
abbrev Bd:=List Pt
def o7(p:Pt):Bd->Bool:=λL=>decide (p∈L)
def eo(p:Pt):Bd->Bool:=λL=>!decide (p∈L)
def oj:Nat->List Bd->Prop
 | 0,S=>S.length<=1
 | d+1,S=>S.length<=1\/∃p:Pt,oj d (S.filter (o7 p))/\oj d (S.filter (eo p))
theorem Fq{S:List Bd}(h:S.length<=1):∀d,oj d S
 | 0=>h
 | _+1=>.inl h
theorem gN:∀{d:Nat}{S:List Bd},oj d S->oj (d+1) S
 | 0,_,h=>.inl h
 | _+1,_,.inl h=>.inl h
 | _+1,_,.inr ⟨p,a,b⟩=>.inr ⟨p,gN a,gN b⟩
theorem ju:∀{d:Nat}{S S':List Bd},S.Perm S'->oj d S->oj d S'
 | 0,_,_,e,h=>by show _<=1;rw[<- e.length_eq];exact h
 | _+1,_,_,e,.inl h=>.inl (by rw[<- e.length_eq];exact h)
 | _+1,_,_,e,.inr ⟨p,a,b⟩=>.inr ⟨p,ju (e.filter _) a,ju (e.filter _) b⟩
theorem qd:∀{d:Nat}{S S':List Bd},S'.Sublist S->oj d S->oj d S'
 | 0,_,_,e,h=>B_ e.length_le h
 | _+1,_,_,e,.inl h=>.inl (B_ e.length_le h)
 | _+1,_,_,e,.inr ⟨p,a,b⟩=>.inr ⟨p,qd (e.filter _) a,qd (e.filter _) b⟩
theorem lF(p:Pt):∀S:List Bd,(S.filter (o7 p)).length+(S.filter (eo p)).length=S.length
 | []=>rfl
 | L::S=>by
  have ih:=lF p S
  by_cases h:p∈L
  .rw[UH (by simp[o7,h]),UI (by simp[eo,h]),A_,A_];lia
  .rw[UI (by simp[o7,h]),UH (by simp[eo,h]),A_,A_];lia
theorem qE:∀{d:Nat}{S:List Bd},oj d S->S.length<=2 ^ d
 | 0,_,h=>h
 | d+1,_,.inl h=>B_ h (TZ (by decide) (T_ _))
 | d+1,S,.inr ⟨p,a,b⟩=>by
  have h1:=qE a;have h2:=qE b;have h3:=lF p S;rw[TQ];lia
theorem Es{x y:Bd}(h:∃p,¬(p∈x↔p∈y)):oj 1 ([y]++[x]):=by
 obtain⟨p,hp⟩:=h;refine .inr ⟨p,?_,?_⟩
 .show(List.filter (o7 p) [y,x]).length<=1
  by_cases h1:p∈x<;>by_cases h2:p∈y<;>simp[h1,h2,o7]at hp ⊢
 .show(List.filter (eo p) [y,x]).length<=1
  by_cases h1:p∈x<;>by_cases h2:p∈y<;>simp[h1,h2,eo]at hp ⊢
theorem jx{S:List Bd}{d:Nat}(h:oj d S):∀k,oj (d+k) S
 | 0=>h
 | k+1=>gN (jx h k)
theorem wj{S:List Bd}{x:Bd}(hx:∀y∈S,∃p,¬(p∈x↔p∈y))(h:S.length<=1)(d:Nat):oj (d+1) (S++[x]):=by
 cases S with
 | nil=>exact Fq (by simp) _
 | cons y S=>
  cases S with
  | nil=>rw[Wc];exact jx (Es (hx y (by simp))) d
  | cons _ _=>simp at h
theorem mK:∀{d:Nat}{S:List Bd}{x:Bd},(∀y∈S,∃p,¬(p∈x↔p∈y))->oj d S->oj (d+1) (S++[x])
 | 0,_,_,hx,h=>wj hx h 0
 | d+1,_,_,hx,.inl h=>wj hx h (d+1)
 | d+1,S,x,hx,.inr ⟨p,a,b⟩=>by
  refine .inr ⟨p,?_,?_⟩
  .rw[List.filter_append]
   by_cases h:p∈x
   .rw[show List.filter (o7 p) [x]=[x] by simp[o7,h]];exact mK (λy hy=>hx y (SE.mp hy).1) a
   .rw[show List.filter (o7 p) [x]=[] by simp[o7,h],SC];exact gN a
  .rw[List.filter_append]
   by_cases h:p∈x
   .rw[show List.filter (eo p) [x]=[] by simp[eo,h],SC];exact gN b
   .rw[show List.filter (eo p) [x]=[x] by simp[eo,h]];exact mK (λy hy=>hx y (SE.mp hy).1) b
def oh(S:List Bd)(d:Nat):Prop:=oj d S/\∀e,oj e S->d<=e
theorem oh.uniq{S:List Bd}{d e:Nat}(h:oh S d)(h':oh S e):d=e:=Nat.le_antisymm (h.2 _ h'.1) (h'.2 _ h.1)
theorem oh.perm{S S':List Bd}{d:Nat}(e:S.Perm S')(h:oh S d):oh S' d:=⟨ju e h.1,λk hk=>h.2 k (ju e.symm hk)⟩
theorem oh.one{S:List Bd}(h:S.length<=1):oh S 0:=⟨h,λ_ _=>T_ _⟩
theorem oh.zero{S:List Bd}{d:Nat}(h:oh S d):d=0↔S.length<=1:=⟨λe=>by subst e;exact h.1,λl=>Nat.le_zero.mp (h.2 0 l)⟩
theorem oh.grow{S:List Bd}{x:Bd}{d e:Nat}(hx:∀y∈S,∃p,¬(p∈x↔p∈y))(h:oh S d)(h':oh (S++[x]) e):d<=e/\e<=d+1:=⟨h.2 e (qd (List.sublist_append_left ..) h'.1),h'.2 _ (mK hx h.1)⟩
theorem qQ{S:List Bd}(hS:¬S.length<=1){m:Nat}(h:∀p,S.filter (o7 p)≠[]->S.filter (eo p)≠[]->∀e,oj e (S.filter (o7 p))->oj e (S.filter (eo p))->m<=e):∀e,oj e S->1+m<=e
 | 0,t=>absurd t hS
 | e+1,.inl t=>absurd t hS
 | e+1,.inr ⟨p,a,b⟩=>by
  have l:=lF p S
  by_cases h1:S.filter (o7 p)=[]
  .rw[h1]at l;have e1:S.filter (eo p)=S:=V_.mpr λL hL=>by
    have:=List.filter_eq_nil_iff.mp h1 L hL;simpa [o7,eo]using this
   rw[e1]at b;exact Nat.le_succ_of_le (qQ hS h e b)
  .by_cases h2:S.filter (eo p)=[]
   .have e1:S.filter (o7 p)=S:=V_.mpr λL hL=>by
     have:=List.filter_eq_nil_iff.mp h2 L hL;simpa [o7,eo]using this
    rw[e1]at a;exact Nat.le_succ_of_le (qQ hS h e a)
   .have:=h p h1 h2 e a b
    lia
def sel:List Bd->Nat->List Bd
 | [],_=>[]
 | B::Bs,l=>if l%2=1 then B::sel Bs (l/2)else sel Bs (l/2)
theorem jF:∀Bs,sel Bs 0=[]
 | []=>rfl
 | B::Bs=>by unfold sel;rw[k_ (by decide)];exact jF Bs
theorem jg(B:Bd)(Bs:List Bd)(p:Pt):iW (B::Bs) p=(if p∈B then 1 else 0)+2*iW Bs p:=by
 show yN (decide (p∈B)::Bs.map λL=>decide (p∈L))=_;rw[yU];congr 1
 by_cases h:p∈B<;>simp[h]
theorem i5(p:Pt):∀(Bs:List Bd)(l:Nat),sel Bs (l &&& iW Bs p)=(sel Bs l).filter (o7 p)
 | [],_=>rfl
 | B::Bs,l=>by
  have e1:(l &&& iW (B::Bs) p)/2=l/2 &&& iW Bs p:=by
   rw[WK,jg];congr 1
   split<;>omega
  have e2:(l &&& iW (B::Bs) p)%2=1↔l%2=1/\p∈B:=by
   rw[VD,jg];refine and_congr Iff.rfl ?_
   by_cases h:p∈B
   .rw[j_ h];exact⟨λ_=>h,λ_=>by omega⟩
   .rw[k_ h];exact⟨λz=>by omega,λz=>absurd z h⟩
  unfold sel;rw[e1,i5 p Bs (l/2)]
  by_cases h1:l%2=1
  .rw[j_ h1]
   by_cases h2:p∈B
   .rw[j_ (e2.mpr ⟨h1,h2⟩),UH (by simp[o7,h2])]
   .rw[k_ (λz=>h2 (e2.mp z).2),UI (by simp[o7,h2])]
  .rw[k_ h1,k_ (λz=>h1 (e2.mp z).1)]
theorem ja(p:Pt):∀(Bs:List Bd)(l:Nat),sel Bs (l-(l &&& iW Bs p))=(sel Bs l).filter (eo p)
 | [],_=>rfl
 | B::Bs,l=>by
  have e1:(l &&& iW (B::Bs) p)/2=l/2 &&& iW Bs p:=by
   rw[WK,jg];congr 1
   split<;>omega
  have e2:(l &&& iW (B::Bs) p)%2=1↔l%2=1/\p∈B:=by
   rw[VD,jg];refine and_congr Iff.rfl ?_
   by_cases h:p∈B
   .rw[j_ h];exact⟨λ_=>h,λ_=>by omega⟩
   .rw[k_ h];exact⟨λz=>by omega,λz=>absurd z h⟩
  have e3:l/2 &&& iW Bs p<=l/2:=WL;generalize hy:l &&& iW (B::Bs) p=y at e1 e2 ⊢;have e4:(l-y)/2=l/2-(l/2 &&& iW Bs p):=by
   rw[<- e1]at e3 ⊢
   by_cases h:y%2=1
   .have:=(e2.mp h).1;omega
   .omega
  unfold sel;rw[e4,ja p Bs (l/2)]
  by_cases h1:l%2=1
  .rw[j_ h1]
   by_cases h2:p∈B
   .have:=e2.mpr ⟨h1,h2⟩;rw[k_ (by rw[<- e1]at e3;omega),UI (by simp[eo,h2])]
   .have:¬y%2=1:=λz=>h2 (e2.mp z).2;rw[j_ (by rw[<- e1]at e3;omega),UH (by simp[eo,h2])]
  .have:¬y%2=1:=λz=>h1 (e2.mp z).1;rw[k_ h1,k_ (by rw[<- e1]at e3;omega)]
theorem lM:∀(Bs:List Bd)(l:Nat),l<2 ^ Bs.length->sel Bs l=[]->l=0
 | [],l,h,_=>by simpa using h
 | B::Bs,l,h,e=>by
  rw[A_,TQ]at h;unfold sel at e
  by_cases h1:l%2=1
  .rw[j_ h1]at e;cases e
  .rw[k_ h1]at e;have:=lM Bs (l/2) (by omega) e;omega
theorem jr:∀(Bs:List Bd)(l:Nat),l<2 ^ Bs.length->(l &&& (l-1)=0↔(sel Bs l).length<=1)
 | [],l,h=>by
  have:l=0:=by simpa using h
  subst this;simp[sel]
 | B::Bs,l,h=>by
  rw[A_,TQ]at h;have hd:(l &&& (l-1))/2=l/2 &&& (l-1)/2:=WK;have hm:(l &&& (l-1))%2=1↔l%2=1/\(l-1)%2=1:=VD;generalize l &&& (l-1)=y at hd hm ⊢;unfold sel
  by_cases h1:l%2=1
  .rw[j_ h1,show(l-1)/2=l/2 by omega,Nat.and_self]at *;have:¬y%2=1:=λz=>by have:=(hm.mp z).2;omega
   constructor
   .intro z;have:l/2=0:=by omega
    rw[this,jF];exact h_ _
   .intro z;have:sel Bs (l/2)=[]:=T5.mp (by rw[A_]at z;omega);have:=lM Bs (l/2) (by omega) this;omega
  .rw[k_ h1,<- jr Bs (l/2) (by omega)];have:¬y%2=1:=λz=>h1 (hm.mp z).1
   by_cases h0:l=0
   .subst h0;simp at hd ⊢;omega
   .rw[show(l-1)/2=l/2-1 by omega]at hd;generalize l/2 &&& (l/2-1)=z at hd ⊢;omega
theorem qk:∀Bs:List Bd,sel Bs (2 ^ Bs.length-1)=Bs
 | []=>rfl
 | B::Bs=>by
  unfold sel;have hp:0<2 ^ Bs.length:=Nat.pow_pos (by decide);rw[A_,TQ,j_ (by omega),show(2 ^ Bs.length*2-1)/2=2 ^ Bs.length-1 by omega,qk Bs]
theorem lX:∀(Bs:List Bd)(l:Nat),(sel Bs l).Sublist Bs
 | [],_=>.slnil
 | B::Bs,l=>by
  unfold sel
  split
  .exact(lX Bs _).cons_cons B
  .exact(lX Bs _).cons B
end K31
namespace K31
open PySem Mi
variable [Th]
def vq(dv:W6)(l s:Nat):Int:=if dv.getD (l-(l &&& s)) 0>dv.getD (l &&& s) 0 then dv.getD (l-(l &&& s)) 0 else dv.getD (l &&& s) 0
def iD(dv:W6):D:=.lst (dv.map .int)
omit [Th] in
theorem Ai{f g:Fe}{env:En}{dv:W6}{i:Nat}(h1:f env=some (iD dv))(h2:g env=some (.int (i:Nat)))(hi:i<dv.length):ao aO f g env=some (.int (dv.getD i 0)):=eu h1 h2 (dM (by rw[m_,f_ hi,g_,f_ hi];rfl))
theorem pS(dv:W6)(l s:Nat)(hl:l<dv.length):m_depth_behind [.int (s:Nat),.int (l:Nat),iD dv]=some (.int (vq dv l s)):=by
 have hle:l &&& s<=l:=WL;have b1:ao cI ah aq (aR 3 [.int (s:Nat),.int (l:Nat),iD dv])=some (.int ((l &&& s:Nat):Int)):=(aE rfl rfl).trans (jd l s);have b2:ao subI ah (ao cI ah aq) (aR 3 [.int (s:Nat),.int (l:Nat),iD dv])=some (.int ((l-(l &&& s):Nat):Int)):=(aE rfl b1).trans (by show some (D.int _)=_;congr 2;lia);exact bw (dP ((aE (Ai rfl b1 (by lia)) (Ai rfl b2 (by lia))).trans rfl))
def rJ(ls:W5)(l:Nat):W5:=ls.filter λs=>decide ((0:Int)<((l &&& s:Nat):Int))&&decide (((l &&& s:Nat):Int)<(l:Nat))
omit [Th] in
theorem lE{ls:W5}{l s:Nat}:s∈rJ ls l↔s∈ls/\0<l &&& s/\l &&& s<l:=by
 unfold rJ;rw[SE,F_,C_,C_];exact and_congr Iff.rfl (and_congr (by lia) (by lia))
def nI(n:Nat):D:=.int (n:Int)
theorem Mt{f:Fe}{env:En}{ls:W5}{vs:List Pt}(h:f env=some (bx ls vs)):Oa Th.h f env=some (ls.map nI):=by
 show(f env).bind _=_;rw[h,H_];unfold bx;rw[GR,H_];have hk:BJ (ls.map λn=>(Sum.inl ((n:Nat):Int):L2.Key))=true:=by
  unfold BJ;rw[WI,M_];intro x _;rfl
 show(if BJ (ls.map λn=>(Sum.inl ((n:Nat):Int):L2.Key))=true then some ((ls.map λn=>(Sum.inl ((n:Nat):Int):L2.Key)).map kD)else none)=_;rw[j_ hk,SM];rfl
omit [Th] in
theorem rQ(g:D->Xp)(m:Nat->Int):∀L:W5,(∀p∈L,g (nI p)=some (.int (m p)))->o9 g (L.map nI)=some (L.map m)
 | [],_=>rfl
 | x::L,h=>by
  show(g (nI x)).bind _=_;rw[h x (o_ ..),H_];show(o9 g (L.map nI)).bind _=_;rw[rQ g m L λp hp=>h p (l_ _ hp)];rfl
omit [Th] in
theorem oN(ns:W6)(h:ns≠[]):iH ns<ns.length:=by
 refine List.findIdx_lt_length.mpr ?_;have:∀ns:W6,ns≠[]->∃x∈ns,∀y∈ns,x<=y:=by
  intro ns
  induction ns with
  | nil=>intro h;exact absurd rfl h
  | cons n ns ih=>
   intro _
   by_cases hz:ns=[]
   .subst hz;exact⟨n,by simp,λy hy=>by rw[s_.mp hy];exact Vp _⟩
   .obtain⟨x,h1,h2⟩:=ih hz
    by_cases hx:n<=x
    .exact⟨n,by simp,λy hy=>by
      rcases t_.mp hy with rfl | hy
      .exact Vp _
      .exact Vx hx (h2 y hy)⟩
    .exact⟨x,l_ _ h1,λy hy=>by
      rcases t_.mp hy with rfl | hy
      .lia
      .exact h2 y hy⟩
 obtain⟨x,h1,h2⟩:=this ns h;exact⟨x,h1,M_.mpr λy hy=>w_ (h2 y hy)⟩
omit [Th] in
theorem least_le(ns:W6)(h:ns≠[]):∀y∈ns,ns.getD (iH ns) 0<=y:=by
 have hlt:=oN ns h;have:=List.findIdx_getElem (xs:=ns) (p:=λx=>ns.all λy=>decide (x<=y)) (w:=hlt);intro y hy;rw[g_,f_ hlt];exact Sw (M_.mp this y hy)
theorem tH(ls:W5)(vs:List Pt)(dv:W6)(l:Nat)(hl:l<dv.length)(KL:ls.length<=1000)(hp:rJ ls l≠[]):∃s∈rJ ls l,m_best_shown [.int (l:Nat),bx ls vs,iD dv]=some (.int (s:Nat))/\∀s'∈rJ ls l,vq dv l s<=vq dv l s':=by
 have g:=jj (t:=bZ 0) (c:=fB (Eb ltI ltI Xr (ao cI ah aq) ah)) (k:=bj aq) (env:=[.un,.F (.int (l:Nat))]) nI nI (λs=>decide ((0:Int)<((l &&& s:Nat):Int))&&decide (((l &&& s:Nat):Int)<(l:Nat))) ls λs _=>⟨[.F (nI s),.F (.int (l:Nat))],rfl,et (DL rfl ((aE rfl rfl).trans (jd l s)) rfl rfl rfl),λ_=>rfl⟩;have eO:(rJ ls l).length<=1000:=B_ (Tj _ _) KL;have c1:=dk (fi:=Oa Th.h ah) (env:=[.F (.int (l:Nat)),.F (bx ls vs),.F (iD dv),.un]) (Mt rfl) (n:=1) (caps:=[0]) (is:=[0]) rfl g (by rw[c_];exact B_ eO (by decide));have hk:=rQ (λx=>((aa aq (aa ah (aa aK fNil))) ((cK 1 [0,2] [.F (.int (l:Nat)),.F (bx ls vs),.F (iD dv),.F (.lst ((rJ ls l).map nI))]).set 0 (.F x))).bind m_depth_behind) (vq dv l) (rJ ls l) λs _=>pS dv l s hl;have hlt:=oN ((rJ ls l).map (vq dv l)) (by intro z;exact hp (Vb.mp z));have hle:=least_le ((rJ ls l).map (vq dv l)) (by intro z;exact hp (Vb.mp z));rw[c_]at hlt;refine⟨(rJ ls l)[iH ((rJ ls l).map (vq dv l))],Ts hlt,bw ((aw (a7 c1)).trans (dP ?_)),λs' hs'=>?_⟩
 .show G8 _ (.lst ((rJ ls l).map nI))=_;refine(show _=_ from Tn (λo=>Option.bind o λns=>((rJ ls l).map nI)[iH ns]?) hk).trans ?_;show((rJ ls l).map nI)[iH ((rJ ls l).map (vq dv l))]?=_;rw[m_,f_ hlt];rfl
 .have:=hle (vq dv l s') (SU hs');rw[g_,m_,f_ hlt]at this;exact this
def Sep(ls:W5)(N:Nat):Prop:=∀l,l<N->l &&& (l-1)≠0->rJ ls l≠[]
omit [Th] in
theorem FK{ps qs:List Pt}(h:∀p,p∈lj ps↔p∈lj qs):lj ps=lj qs:=by
 unfold lj at h ⊢;refine List.filter_congr λp hp=>?_;have:=h p;rw[SE,SE,C_,C_]at this;rw[S9,C_,C_];exact⟨λz=>(this.mp ⟨hp,z⟩).2,λz=>(this.mpr ⟨hp,z⟩).2⟩
theorem Ab{R C:Nat}{Bs:List Bd}(H:DA R C Bs){ls:W5}{vs:List Pt}(ix:KJ Bs (vO Bs) ls vs){l:Nat}{p:Pt}(h1:(sel Bs l).filter (o7 p)≠[])(h2:(sel Bs l).filter (eo p)≠[]):iW Bs p∈rJ ls l:=by
 refine lE.mpr ⟨ix.all p (H.mem.mpr ?_),Nat.pos_of_ne_zero λz=>h1 (by rw[<- i5,z,jF]),Nat.lt_of_le_of_ne WL λz=>h2 (by rw[<- ja,z,Nat.sub_self,jF])⟩;obtain⟨L,hL⟩:=List.exists_mem_of_ne_nil _ h1;obtain⟨a,b⟩:=SE.mp hL;exact⟨L,(lX Bs l).subset a,Sw b⟩
omit [Th] in
theorem apart{Bs:List Bd}(hB:∀L∈Bs,∃x,L=lj x){x y:Bd}(hx:x∈Bs)(hy:y∈Bs)(hne:x≠y):∃p,¬(p∈x↔p∈y):=Us λz=>hne (by
 obtain⟨a,ex⟩:=hB _ hx;obtain⟨b,ey⟩:=hB _ hy;rw[ex,ey];refine FK λp=>?_;rw[<- ex,<- ey];exact Us λw=>z ⟨p,w⟩)
theorem Ji{R C:Nat}{Bs:List Bd}(H:DA R C Bs)(hB:∀L∈Bs,∃x,L=lj x)(nd:Bs.Nodup){ls:W5}{vs:List Pt}(ix:KJ Bs (vO Bs) ls vs):Sep ls (2 ^ Bs.length):=by
 intro l hl h2;have h3:¬(sel Bs l).length<=1:=λz=>h2 ((jr Bs l hl).mpr z);have OO:(sel Bs l).Nodup:=nd.sublist (lX Bs l);have hin:∀L∈sel Bs l,L∈Bs:=λL hL=>(lX Bs l).subset hL;generalize hS:sel Bs l=S at h3 OO hin
 match S,h3,OO,hin,hS with
 | [],h3,_,_,_=>exact absurd (T_ _) h3
 | [_],h3,_,_,_=>exact absurd (h_ _) h3
 | x::y::S,_,OO,hin,hS=>
  have hne:x≠y:=λe=>by subst e;exact(UR.mp OO).1 (o_ ..)
  obtain⟨p,hp⟩:=apart hB (hin x (by simp)) (hin y (by simp)) hne;refine UQ (a:=iW Bs p) (Ab H ix ?_ ?_)
  .rw[hS]
   by_cases h1:p∈x
   .exact UQ (a:=x) (SE.mpr ⟨by simp,w_ h1⟩)
   .by_cases h2:p∈y
    .exact UQ (a:=y) (SE.mpr ⟨by simp,w_ h2⟩)
    .exact absurd ⟨λz=>absurd z h1,λz=>absurd z h2⟩ hp
  .rw[hS]
   by_cases h1:p∈x
   .by_cases h2:p∈y
    .exact absurd ⟨λ_=>h2,λ_=>h1⟩ hp
    .exact UQ (a:=y) (SE.mpr ⟨by simp,by simp[eo,h2]⟩)
   .exact UQ (a:=x) (SE.mpr ⟨by simp,by simp[eo,h1]⟩)
structure Dv(Bs:List Bd)(dv:List Int)(N j:Nat):Prop where
 len:dv.length=N
 ex:∀l,l<j->∃d:Nat,dv.getD l 0=(d:Int)/\oh (sel Bs l) d
 hi:∀l,j<=l->dv.getD l 0=0
omit [Th] in
theorem xp{dv:W6}{l s d1 d2:Nat}(h1:dv.getD (l &&& s) 0=(d1:Int))(h2:dv.getD (l-(l &&& s)) 0=(d2:Int)):vq dv l s=((max d1 d2:Nat):Int):=by
 unfold vq;rw[h1,h2]
 split<;>lia
theorem HQ{f:Fe}{env:En}{l:Nat}(h:f env=some (.int (l:Nat))):OU (ao cI f (ao subI f Xs)) env=some (decide (l &&& (l-1)≠0)):=by
 have e:ao cI f (ao subI f Xs) env=some (.int ((l &&& (l-1):Nat):Int)):=by
  cases l with
  | zero=>exact(aE h ((aE h rfl).trans rfl)).trans rfl
  | succ l=>exact(aE h ((aE h rfl).trans (by show some (D.int _)=some (.int ((l:Nat):Int));congr 2;lia))).trans (jd (l+1) l)
 show(ao cI f (ao subI f Xs) env).bind QZ=_;rw[e];show some (((l &&& (l-1):Nat):Int) != 0)=_;congr 1;rw[S9,bne_iff_ne,C_]
 lia
theorem EX{R C:Nat}{Bs:List Bd}(H:DA R C Bs)(ls:W5)(vs:List Pt)(ix:KJ Bs (vO Bs) ls vs)(KL:ls.length<=1000)(n N:Nat)(dv:W6)(l:Nat)(hl:l<N)(hN:N=2 ^ Bs.length)(sep:Sep ls N)(D0:Dv Bs dv N l) :
  ∃QI,cR [.F (bx ls vs),.F (.int (n:Nat)),.O (.L (dv.map .int)),.F (.int (l:Nat))]=some (.nx [.F (bx ls vs),.F (.int (n:Nat)),.O (.L (QI.map .int)),.F (.int (l:Nat))])/\Dv Bs QI N (l+1):=by
 have ht:=HQ (f:=λenv=>bI env 3) (env:=[.F (bx ls vs),.F (.int (n:Nat)),.O (.L (dv.map .int)),.F (.int (l:Nat))]) (l:=l) rfl;have Lc:l<dv.length:=by rw[D0.len];exact hl
 by_cases h2:l &&& (l-1)=0
 .rw[E_ (λz=>z h2)]at ht;refine⟨dv,(bO ht).trans rfl,D0.len,λk hk=>?_,λk hk=>D0.hi k (Nat.le_of_succ_le hk)⟩;rcases Nat.lt_succ_iff_lt_or_eq.mp hk with z | rfl
  .exact D0.ex k z
  .exact⟨0,D0.hi k (h_ _),oh.one ((jr Bs k (by rw[<- hN];exact hl)).mp h2)⟩
 .rw[w_ h2]at ht;obtain⟨s,hs,hb,hle⟩:=tH ls vs dv l Lc KL (sep l hl h2);have v1:F9 2 (ao addI Xs (λenv=>((aa (λenv=>((aa aB (aa aq (aa aK fNil))) env).bind m_best_shown) (aa aB (aa aK fNil))) env).bind m_depth_behind)) [.F (bx ls vs),.F (.int (n:Nat)),.O (.L (dv.map .int)),.F (.int (l:Nat))]=some (.int (1+vq dv l s)):=by
   have e1:(λenv=>((aa (λenv=>((aa aB (aa aq (aa aK fNil))) env).bind m_best_shown) (aa aB (aa aK fNil))) env).bind m_depth_behind) [.F (bx ls vs),.F (.int (n:Nat)),.F (iD dv),.F (.int (l:Nat))]=some (.int (vq dv l s)):=(call_v (m:=m_depth_behind) (aj ((call_v (m:=m_best_shown) (aj (f:=λenv=>bI env 3) rfl (aj (f:=λenv=>bI env 0) rfl (aj (f:=λenv=>bI env 2) rfl aN)))).trans hb) (aj (f:=λenv=>bI env 3) rfl (aj (f:=λenv=>bI env 2) rfl aN)))).trans (pS dv l s Lc);have e:=(aE (b:=addI) (f:=fC (.int 1)) (g:=(λenv=>((aa (λenv=>((aa aB (aa aq (aa aK fNil))) env).bind m_best_shown) (aa aB (aa aK fNil))) env).bind m_depth_behind)) (env:=[.F (bx ls vs),.F (.int (n:Nat)),.F (iD dv),.F (.int (l:Nat))]) rfl e1).trans (gJ 1 (vq dv l s));show(ao addI Xs _ [.F (bx ls vs),.F (.int (n:Nat)),.F (iD dv),.F (.int (l:Nat))]).bind _=_;rw[e];rfl
  obtain⟨m1,m2,m3⟩:=lE.mp hs;obtain⟨p,rfl⟩:=ix.own s m1;obtain⟨d1,f1,g1⟩:=D0.ex (l &&& iW Bs p) m3;obtain⟨d2,f2,g2⟩:=D0.ex (l-(l &&& iW Bs p)) (by lia);have hm:=xp f1 f2;have hS:¬(sel Bs l).length<=1:=λz=>h2 ((jr Bs l (by rw[<- hN];exact hl)).mpr z);have dp:oh (sel Bs l) (1+max d1 d2):=by
   refine⟨?_,λe he=>qQ hS (λq n1 n2 e t1 t2=>?_) e he⟩
   .rw[Wc];refine .inr ⟨p,?_,?_⟩
    .rw[<- i5];have:=jx g1.1 (max d1 d2-d1);rwa [show d1+(max d1 d2-d1)=max d1 d2 by lia]at this
    .rw[<- ja];have:=jx g2.1 (max d1 d2-d2);rwa [show d2+(max d1 d2-d2)=max d1 d2 by lia]at this
   .have hq:=Ab H ix n1 n2;obtain⟨q1,q2,q3⟩:=lE.mp hq;obtain⟨c1,k1,r1⟩:=D0.ex (l &&& iW Bs q) q3;obtain⟨c2,k2,r2⟩:=D0.ex (l-(l &&& iW Bs q)) (by lia);have hle:=hle _ hq;rw[hm,xp k1 k2]at hle;rw[i5]at r1;rw[ja]at r2;have:=r1.2 e t1;have:=r2.2 e t2
    lia
  refine⟨dv.set l (1+vq dv l (iW Bs p)),(eC ht).trans ((F0 v1 rfl (j:=(l:Nat)) rfl (Jm (by lia) (by rw[c_];lia))).trans ?_),by rw[V2];exact D0.len,λk hk=>?_,λk hk=>?_⟩
  .rw[SO,List.map_set];rfl
  .rcases Nat.lt_succ_iff_lt_or_eq.mp hk with z | rfl
   .rw[g_,p_ (T7 z),<- g_];exact D0.ex k z
   .refine⟨_,?_,dp⟩;rw[g_,v_ Lc,hm];show(1:Int)+_=_
    lia
  .rw[g_,p_ (z_ hk),<- g_];exact D0.hi k (Nat.le_of_succ_le hk)
theorem BZ{g:Fe}{env:En}{n:Nat}(h:g env=some (.int (n:Nat)))(hn:n<=10):ao md Xs g env=some (.int ((2 ^ n:Nat):Int)):=by
 refine(aE rfl h).trans ?_;show(if decide (0<=((n:Nat):Int)/\((n:Nat):Int)<=1000000/\(1:Int).natAbs<2 ^ 64)=true then some (D.int (1*2 ^ ((n:Nat):Int).toNat))else none)=_;rw[j_ (w_ ⟨by lia,by lia,by decide⟩),Int.one_mul,SO,Int.natCast_pow];rfl
theorem yp{R C:Nat}{Bs:List Bd}(H:DA R C Bs)(ls:W5)(vs:List Pt)(ix:KJ Bs (vO Bs) ls vs)(KL:ls.length<=1000)(n:Nat)(hn:n<=10)(hB:n=Bs.length)(sep:Sep ls (2 ^ n)):∃dv,m_least_depths [bx ls vs,.int (n:Nat)]=some (iD dv)/\Dv Bs dv (2 ^ n) (2 ^ n):=by
 have Hr:2 ^ n<=1024:=TZ (by decide:0<2) hn;have e0:ao IV (cf (aa Xr fNil)) (ao md Xs ah) (aR 4 [bx ls vs,.int (n:Nat)])=some (.lst ((List.replicate (2 ^ n) (0:Int)).map .int)):=by
  refine(aE (xk (aj rfl aN)) (BZ rfl hn)).trans ?_;show(if 0<=((2 ^ n:Nat):Int)/\[D.int 0].length*((2 ^ n:Nat):Int).toNat<=16000000/\((2 ^ n:Nat):Int)<1000000000 then some (D.lst (List.replicate ((2 ^ n:Nat):Int).toNat [D.int 0]).flatten)else none)=_;rw[j_ ⟨by lia,by rw[SO];show 1*_<=_;lia,by lia⟩,SO];congr 2
  induction 2 ^ n with
  | zero=>rfl
  | succ k ih=>rw[S3,Tz,ih,S3,L_];rfl
 obtain⟨e2,h1,dv,s3,rfl,h2⟩:=bR (t:=bZ 3) (body:=cR) (λj e=>∃dv s3,e=[.F (bx ls vs),.F (.int (n:Nat)),.O (.L (dv.map .int)),s3]/\Dv Bs dv (2 ^ n) j) (aG 0 (2 ^ n)) 0 [.F (bx ls vs),.F (.int (n:Nat)),.O (.L ((List.replicate (2 ^ n) (0:Int)).map .int)),.un] ⟨_,.un,rfl,by simp,λl hl=>absurd hl (UT _),λl _=>by simp[g_,S0];split<;>simp⟩ λi d e hd aC=>by
  obtain⟨dv,s3,he,h2⟩:=aC;subst he;obtain⟨rfl,hi⟩:=wU hd;rw[Sq]at h2 ⊢;obtain⟨QI,h3,h4⟩:=EX H ls vs ix KL n (2 ^ n) dv i hi (by rw[hB]) sep h2;exact⟨_,eJ (e0:=[.F (bx ls vs),.F (.int (n:Nat)),.O (.L (dv.map .int)),.F (.int (i:Nat))]) rfl h3,QI,_,rfl,h4⟩
 rw[show(aG 0 (2 ^ n)).length=2 ^ n by simp[aG],Sq]at h2;exact⟨dv,bw ((aw (jX e0)).trans ((aw ((bW (fF (BZ rfl hn) (by lia))).trans h1)).trans rfl)),h2⟩
theorem AU:∀(ls:W5)(vs:List Pt)(s:Nat),vs.length=ls.length->s∈ls->∃p,lookI (ls.map λn=>(Sum.inl ((n:Nat):Int):L2.Key)) (vs.map cel) (.inl ((s:Nat):Int))=some (cel p)
 | [],_,s,_,h=>by cases h
 | l::ls,[],s,h,_=>by simp at h
 | l::ls,v::vs,s,h,hs=>by
  show ∃p,(if(Sum.inl ((l:Nat):Int):L2.Key)=.inl ((s:Nat):Int)then some (cel v)else lookI (ls.map λn=>(Sum.inl ((n:Nat):Int):L2.Key)) (vs.map cel) (.inl ((s:Nat):Int)))=_
  by_cases e:l=s
  .subst e;exact⟨v,j_ rfl⟩
  .rw[k_ (λz=>e (by have:=Sum.inl.inj z;lia))];rcases t_.mp hs with z | z
   .exact absurd z.symm e
   .exact AU ls vs s (by simpa using h) z
theorem Kb{f g:Fe}{env:En}{ls:W5}{vs:List Pt}{s:Nat}(h1:f env=some (bx ls vs))(h2:g env=some (.int (s:Nat)))(hl:vs.length=ls.length)(hs:s∈ls):∃p,ao (zX Th.h) f g env=some (cel p):=by
 obtain⟨p,hp⟩:=AU ls vs s hl hs;refine⟨p,(aE h1 h2).trans ?_⟩;unfold bx zX;rw[GR];exact hp
theorem uB(ls:W5)(vs:List Pt)(hv:vs.length=ls.length)(KL:ls.length<=1000){Bs:List Bd}(ix:KJ Bs (vO Bs) ls vs)(N:Nat)(hB:N=2 ^ Bs.length)(sep:Sep ls N)(dv:W6)(dd:Dv Bs dv N N):∀(n l:Nat),l<N->(sel Bs l).length<n->∃P:D,bu n [.int (l:Nat),bx ls vs,iD dv]=some P:=by
 intro n
 induction n with
 | zero=>exact λl _ h=>absurd h (UT _)
 | succ n ih=>
  intro l hN hn;have lo:dv.getD l 0=0↔l &&& (l-1)=0:=by
   obtain⟨d,e1,e2⟩:=dd.ex l hN;rw[e1,jr Bs l (by rw[<- hB];exact hN),<- e2.zero];lia
  have Lc:l<dv.length:=by rw[dd.len];exact hN
  have ht:fB (ao iq (ao aO aK aq) Xr) (aR 5 [.int (l:Nat),bx ls vs,iD dv])=some (dv.getD l 0==0):=et ((aE (Ai rfl rfl Lc) rfl).trans (LP _ _))
  by_cases h2:l &&& (l-1)=0
  .rw[lo.mpr h2]at ht;have bl:ao subI (br B7 aq) Xs (aR 5 [.int (l:Nat),bx ls vs,iD dv])=some (.int (((Builtin.Int.intBits ((l:Nat):Int):Nat):Int)-1)):=(aE (b:=subI) (x:=.int ((Builtin.Int.intBits ((l:Nat):Int):Nat):Int)) (y:=.int 1) rfl rfl).trans (A3 _ _);exact⟨_,bw (f:=fL (bu n)) (uX ((eC ht).trans (dP (kW (aj (d:=.str "known") rfl (aj bl aN))))))⟩
  .have hz:(dv.getD l 0==0)=false:=by
    rw[VA];intro z;exact h2 (lo.mp (by simpa using z))
   rw[hz]at ht;obtain⟨s,hs,hb,_⟩:=tH ls vs dv l Lc KL (sep l hN h2);obtain⟨m1,m2,m3⟩:=lE.mp hs;obtain⟨r,er⟩:=ix.own s m1;have ll:=lF r (sel Bs l);have q1:(sel Bs (l &&& s)).length≠0:=λz=>by
    have:=lM Bs (l &&& s) (by rw[<- hB];lia) (T5.mp z)
    lia
   have q2:(sel Bs (l-(l &&& s))).length≠0:=λz=>by
    have:=lM Bs (l-(l &&& s)) (by rw[<- hB];lia) (T5.mp z)
    lia
   rw[<- i5,<- ja,<- er]at ll;obtain⟨A,a1⟩:=ih (l-(l &&& s)) (by lia) (by lia);obtain⟨B,b1⟩:=ih (l &&& s) (by lia) (by lia);obtain⟨p,gp⟩:=Kb (f:=λenv=>bI env 1) (g:=λenv=>bI env 3) (env:=[.F (.int (l:Nat)),.F (bx ls vs),.F (iD dv),.F (.int (s:Nat)),.F A]) rfl rfl hv m1;have c1:∀x,ao cI aq aB [.F (.int (l:Nat)),.F (bx ls vs),.F (iD dv),.F (.int (s:Nat)),x]=some (.int ((l &&& s:Nat):Int)):=λx=>(aE rfl rfl).trans (jd l s);have c2:ao subI aq (ao cI aq aB) [.F (.int (l:Nat)),.F (bx ls vs),.F (iD dv),.F (.int (s:Nat)),.un]=some (.int ((l-(l &&& s):Nat):Int)):=(aE rfl (c1 .un)).trans (by show some (D.int _)=_;congr 2;lia);have w1:(λenv=>((aa (ao subI aq (ao cI aq aB)) (aa ah (aa aK fNil))) env).bind (bu n)) [.F (.int (l:Nat)),.F (bx ls vs),.F (iD dv),.F (.int (s:Nat)),.un]=some A:=(call_v (aj c2 (aj (d:=bx ls vs) rfl (aj (d:=iD dv) rfl aN)))).trans a1;have w2:(λenv=>((aa (ao cI aq aB) (aa ah (aa aK fNil))) env).bind (bu n)) [.F (.int (l:Nat)),.F (bx ls vs),.F (iD dv),.F (.int (s:Nat)),.F A]=some B:=(call_v (aj (c1 _) (aj (d:=bx ls vs) rfl (aj (d:=iD dv) rfl aN)))).trans b1;have w0:(λenv=>((aa aq (aa ah (aa aK fNil))) env).bind m_best_shown) (aR 5 [.int (l:Nat),bx ls vs,iD dv])=some (.int (s:Nat)):=(call_v (aj (d:=.int (l:Nat)) rfl (aj (d:=bx ls vs) rfl (aj (d:=iD dv) rfl aN)))).trans hb;exact⟨_,bw (f:=fL (bu n)) ((aw (e:=aR 5 [.int (l:Nat),bx ls vs,iD dv]) ((bO ht).trans rfl)).trans ((aw (e:=[.F (.int (l:Nat)),.F (bx ls vs),.F (iD dv),.F (.int (s:Nat)),.un]) (a7 w0)).trans ((aw (e:=[.F (.int (l:Nat)),.F (bx ls vs),.F (iD dv),.F (.int (s:Nat)),.F A]) (a7 w1)).trans (dP (kW (aj (d:=.str "look") rfl (aj gp (aj (d:=A) rfl (aj w2 aN)))))))))⟩
abbrev DN:Str:="plan"
abbrev K5:Str:="TooMany"
theorem HC.up{h:List Sh}:∃x,lyP h=lj x:=⟨_,rfl⟩
omit [Th] in
theorem my{f:Fs}{g:FsX}{env e:En}(h:f env=some (.nx e)):gQ (wH f) g env=g e:=by unfold gQ wH;rw[h];rfl
omit [Th] in
theorem Io{f:FsX}{g:FsX}{env e:En}(h:f env=some (.nx e)):gQ f g env=g e:=by unfold gQ;rw[h];rfl
omit [Th] in
theorem IF{f:FsX}{g:FsX}{env e:En}{c:Str}{d:D}(h:f env=some (.ex c d e)):gQ f g env=some (.ex c d e):=by unfold gQ;rw[h];rfl
omit [Th] in
theorem EY{f:FsX}{n:Nat}{ds:Xo}{d:D}(h:f (aR n ds)=some (.rt d)):vm f n ds=some (.ok d):=by unfold vm;rw[h];rfl
omit [Th] in
theorem DX{f:FsX}{n:Nat}{ds:Xo}{d:D}{c:Str}{e:En}(h:f (aR n ds)=some (.ex c d e)):vm f n ds=some (.error (c,d)):=by unfold vm;rw[h];rfl
omit [Th] in
theorem HP{t:Fb}{f g:FsX}{env:En}(h:t env=some true):K3 t f g env=f env:=by unfold K3;rw[h];rfl
omit [Th] in
theorem IK{t:Fb}{f g:FsX}{env:En}(h:t env=some false):K3 t f g env=g env:=by unfold K3;rw[h];rfl
theorem G'{a b:Int}(h:¬a<=b):leI (.int a) (.int b)=some (.bl false):=by
 show some (D.bl (decide (a<=b)))=_;rw[E_ h]
theorem FO(ds:Xo)(h:ds.length=0\/10<ds.length):m_least_plan [.lst ds]=some (.error (K5,.non)):=by
 have t0:yW (fB (Eb leI leI Xs (br cm aq) (fC cD))) (aR 5 [.lst ds])=some true:=by
  rcases h with h | h
  .exact(CJ (et (DL (p:=false) (q:=true) rfl (fZ rfl) rfl (G' (by lia)) (wm (by lia))))).trans rfl
  .exact(CJ (et (DL (p:=true) (q:=false) rfl (fZ rfl) rfl (wm (by lia)) (G' (by lia))))).trans rfl
 exact DX (e:=aR 5 [.lst ds]) (IF ((HP t0).trans rfl))
theorem BV{R C:Nat}(hR:R<=4)(hC:C<=5)(hs:List (List Sh))(h0:0<hs.length)(h6:hs.length<=10)(H:∀h∈hs,HC R C h)(nd:(hs.map lyP).Nodup) :
  ∃(d:Nat)(P:D),m_least_plan [.lst (hs.map az)]=some (.ok (.tup [.str DN,.int (d:Nat),P]))/\oh (hs.map lyP) d:=by
 have hBl:(hs.map lyP).length=hs.length:=c_ ..;have t0:yW (fB (Eb leI leI Xs (br cm aq) (fC cD))) (aR 5 [.lst (hs.map az)])=some false:=by
  refine(CJ (et (DL (p:=true) (q:=true) rfl (fZ rfl) rfl (wm (by rw[c_];lia)) (wm (by rw[c_];lia))))).trans rfl
 have g:=dH (t:=bZ 0) (k:=bj (λenv=>((aa aq fNil) env).bind m_lying_cells)) (env:=[.un]) az (λh=>bD (lyP h)) hs λh hh=>⟨[.F (az h)],rfl,nk ((call_v (aj (d:=az h) rfl aN)).trans (AQ hR hC (H h hh)))⟩;have eB:hs.map (λh=>bD (lyP h))=(hs.map lyP).map bD:=by rw[SM];rfl
 rw[eB]at g;have c1:=dk (fi:=j8 aq) (env:=aR 5 [.lst (hs.map az)]) (cP rfl) (n:=1) (caps:=[]) (is:=[0]) rfl g (by rw[c_,hBl];lia);obtain⟨es,a1,a2⟩:=Cd (hs.map lyP) (by lia);have w2:(λenv=>((aa ah fNil) env).bind m_alike_pairs) [.F (.lst (hs.map az)),.F (.lst ((hs.map lyP).map bD)),.un,.un,.un]=some (.lst (es.map cel)):=(call_v (aj (d:=.lst ((hs.map lyP).map bD)) rfl aN)).trans a1;have he:=a2.mpr nd;subst he;have S:DA R C (hs.map lyP):=⟨hR,hC,by lia,λL hL p hp=>by
  obtain⟨h,hh,rfl⟩:=y_.mp hL;exact(H h hh).on p (((H h hh).mem hR hC).mp hp),λL hL=>by
  obtain⟨h,hh,rfl⟩:=y_.mp hL;have:=uI (H h hh).len λs hs=>((H h hh).sz s hs).2;have e:=(gA ((H h hh).okP hR hC) (jB (H h hh).ap)).length_eq;show(lj (wV h)).length<=100;rw[<- e];lia⟩
 obtain⟨ls,vs,k1,k2,k3⟩:=yD S;have sep:=Ji S (λL hL=>by obtain⟨h,_,rfl⟩:=y_.mp hL;exact HC.up) nd k2;obtain⟨dv,d1,d2⟩:=yp S ls vs k2 (by lia) (hs.map lyP).length (by lia) rfl sep;have hN:2 ^ (hs.map lyP).length<=1024:=TZ (by decide:0<2) (by lia:(hs.map lyP).length<=10);have hN2:2<=2 ^ (hs.map lyP).length:=by
  have:=TZ (by decide:0<2) (show 1<=(hs.map lyP).length by lia);simpa using this
 obtain⟨P,p1⟩:=uB ls vs k2.len (by lia) k2 _ rfl sep dv d2 64 (2 ^ (hs.map lyP).length-1) (by lia) (by rw[qk];lia);obtain⟨dd,x1,x2⟩:=d2.ex (2 ^ (hs.map lyP).length-1) (by lia);rw[qk]at x2;have hx:L2.atI (dv.map D.int) (-1)=some (.int (dd:Nat)):=by
  unfold L2.atI L2.vp;rw[k_ (by decide),j_ (by rw[c_,d2.len];omega)];show(dv.map D.int)[(((dv.map D.int).length:Nat)+(-1:Int)).toNat]?=_;rw[c_,d2.len,show(((2 ^ (hs.map lyP).length:Nat):Int)+-1).toNat=2 ^ (hs.map lyP).length-1 by omega,m_,f_ (by rw[d2.len];omega),<- x1,g_,f_ (by rw[d2.len];omega)];rfl
 have w2':(λenv=>((aa ah fNil) env).bind m_alike_pairs) [.F (.lst (hs.map az)),.F (.lst ((hs.map lyP).map bD)),.un,.un,.un]=some (.lst []):=w2;have w3:(λenv=>((aa ah fNil) env).bind m_cells_by_lot) [.F (.lst (hs.map az)),.F (.lst ((hs.map lyP).map bD)),.F (.lst []),.un,.un]=some (bx ls vs):=(call_v (aj (d:=.lst ((hs.map lyP).map bD)) rfl aN)).trans k1;have w4:(λenv=>((aa aB (aa (br cm ah) fNil)) env).bind m_least_depths) [.F (.lst (hs.map az)),.F (.lst ((hs.map lyP).map bD)),.F (.lst []),.F (bx ls vs),.un]=some (iD dv):=(call_v (aj (d:=bx ls vs) rfl (aj (fZ (ds:=(hs.map lyP).map bD) rfl) aN))).trans (by rw[c_];exact d1);have eN:(((2 ^ (hs.map lyP).length:Nat):Int)-1)=((2 ^ (hs.map lyP).length-1:Nat):Int):=by
  generalize 2 ^ (hs.map lyP).length=N at hN2 ⊢;omega
 have w5:ao subI (br cm aP) Xs [.F (.lst (hs.map az)),.F (.lst ((hs.map lyP).map bD)),.F (.lst []),.F (bx ls vs),.F (iD dv)]=some (.int ((2 ^ (hs.map lyP).length-1:Nat):Int)):=(aE (fZ (ds:=dv.map D.int) rfl) rfl).trans (by rw[c_,d2.len];exact Tn (λz=>some (D.int z)) eN);have w6:(λenv=>((aa (ao subI (br cm aP) Xs) (aa aB (aa aP fNil))) env).bind iT) [.F (.lst (hs.map az)),.F (.lst ((hs.map lyP).map bD)),.F (.lst []),.F (bx ls vs),.F (iD dv)]=some P:=(call_v (aj w5 (aj (d:=bx ls vs) rfl (aj (d:=iD dv) rfl aN)))).trans p1;have w7:ao aO aP (br iK Xs) [.F (.lst (hs.map az)),.F (.lst ((hs.map lyP).map bD)),.F (.lst []),.F (bx ls vs),.F (iD dv)]=some (.int (dd:Nat)):=eu (ds:=dv.map D.int) (i:=-1) rfl rfl hx;exact⟨dd,P,EY ((Io (e:=aR 5 [.lst (hs.map az)]) ((IK t0).trans rfl)).trans ((my (e:=[.F (.lst (hs.map az)),.F (.lst ((hs.map lyP).map bD)),.un,.un,.un]) (a7 c1)).trans ((my (e:=[.F (.lst (hs.map az)),.F (.lst ((hs.map lyP).map bD)),.F (.lst []),.un,.un]) (a7 (i:=2) (f:=λenv=>((aa ah fNil) env).bind m_alike_pairs) (env:=[.F (.lst (hs.map az)),.F (.lst ((hs.map lyP).map bD)),.un,.un,.un]) w2')).trans ((my (e:=[.F (.lst (hs.map az)),.F (.lst ((hs.map lyP).map bD)),.F (.lst []),.un,.un]) ((bO rfl).trans rfl)).trans ((my (e:=[.F (.lst (hs.map az)),.F (.lst ((hs.map lyP).map bD)),.F (.lst []),.F (bx ls vs),.un]) (a7 w3)).trans ((my (e:=[.F (.lst (hs.map az)),.F (.lst ((hs.map lyP).map bD)),.F (.lst []),.F (bx ls vs),.F (iD dv)]) (a7 w4)).trans (Tn (Option.map Out.up) (dP (kW (aj (d:=.str DN) rfl (aj w7 (aj w6 aN)))))))))))),x2⟩
def So:Rs->D
 | .ok d=>d
 | .error (c,_)=>gu c
theorem vY{x:D}{r:Rs}(h:m_least_plan [x]=some r)(hc:∀k d,r=.error (k,d)->k∈cs_):m__law_told [x]=some (So r):=by
 have b:BN (Ia (aa aq fNil)) m_least_plan [.F x,.F .non,.un]=m_least_plan [x]:=rfl;show(((BI cs_ 2 1 (FT 1 _) [.F x,.F .non,.un]).bind _).bind _)=_;unfold BI FT;rw[b,h];cases r with
 | ok d=>rfl
 | error z=>
  obtain⟨k,d⟩:=z;show(((if k∈cs_ then _ else none:Option Gx)).bind _).bind _=_;rw[j_ (hc k d rfl)]
  rfl
theorem CG{f g h:Fe}{env:En}{c k m:Int}(hf:f env=some (.int c))(hg:g env=some (.int k))(hh:h env=some (.int m))(h0:0<=k)(h1:k<=1000)(hm:0<m):∃z,ao modI (λenv=>((aa f (aa g fNil)) env).bind m__law_stir) h env=some (.int z)/\0<=z/\z<m:=by
 obtain⟨z,hz⟩:=qT c k h0 h1;exact⟨z%m,(aE ((call_v (aj hf (aj hg aN))).trans hz) hh).trans (iO hm),Ut _ (Int.ne_of_gt hm),TK _ hm⟩
omit [Th] in
theorem BS(a s:Int)(n:Nat)(h0:0<=a)(h1:a<n)(hs:1<=s):sliceBounds (some a) none (some s) n=(a,(n:Int),s):=by
 show((if s>0 then max 0 (min (if a<0 then a+n else a) (n:Int))else max (-1) (min (if a<0 then a+n else a) ((n:Int)-1))),(if s>0 then(n:Int)else -1),s)=_;rw[j_ (show s>0 by lia),j_ (show s>0 by lia),k_ (show ¬a<0 by lia)];congr 1
 lia
omit [Th] in
theorem EH(a s:Int)(n:Nat)(h0:0<=a)(h1:a<n)(hs:1<=s):∃c:Nat,0<c/\c<=n/\gf n (some a) none (some s)=(List.range c).map λ(k:Nat)=>(a+s*(k:Int)).toNat:=by
 have e1:1<=((n:Int)-a+s-1)/s:=Int.le_ediv_of_mul_le (by lia) (by lia);have e2:((n:Int)-a+s-1)/s<=(n:Int)-a:=by
  refine Int.ediv_le_of_le_mul (by lia) ?_;have:=Int.mul_nonneg (show 0<=(n:Int)-a-1 by lia) (show 0<=s-1 by lia);rw[Int.sub_mul,Int.mul_sub,Int.mul_one,Int.one_mul]at this
  lia
 refine⟨(((n:Int)-a+s-1)/s).toNat,by lia,by lia,?_⟩;unfold gf;rw[BS a s n h0 h1 hs];unfold sliceRange;dsimp only;rw[j_ (show s>0 by lia),j_ h1]
omit [Th] in
theorem Co{α β:Type}(f:α->β)(xs:List α)(is:W5):bG (xs.map f) is=(bG xs is).map f:=by
 unfold bG;rw[List.map_filterMap];congr 1;funext i;rw[m_]
omit [Th] in
theorem zm{α:Type}(xs:List α)(a s:Int)(h0:0<=a)(h1:a<(xs.length:Nat))(hs:1<=s):bG xs (gf xs.length (some a) none (some s))≠[]/\(bG xs (gf xs.length (some a) none (some s))).length<=xs.length/\∀x∈bG xs (gf xs.length (some a) none (some s)),x∈xs:=by
 obtain⟨c,c0,c1,e⟩:=EH a s xs.length h0 h1 hs;refine⟨?_,?_,λx hx=>?_⟩
 .rw[e];obtain⟨c,rfl⟩:=Nat.exists_eq_succ_of_ne_zero (T7 c0);unfold bG;intro z;rw[List.filterMap_eq_nil_iff]at z;have:=z a.toNat (y_.mpr ⟨0,Sy.mpr (by lia),by simp⟩);rw[f_ (by lia)]at this;cases this
 .refine B_ (List.length_filterMap_le _ _) ?_;rw[e,c_,T4];exact c1
 .unfold bG at hx;obtain⟨i,_,hi⟩:=Vl.mp hx;exact R_ hi
theorem BE(c:Int)(ps:List (List Sh))(hps:ps.length<=300):∃qs:List (List Sh),m__law_order [.int c,.lst (ps.map az)]=some (.lst (qs.map az))/\qs.Perm ps:=by
 obtain⟨e2,h1,qs,s3,s4,rfl,h3⟩:=bR (t:=oq [3,4]) (body:=gB) (λj e=>∃(qs:List (List Sh))(s3 s4:Slot),e=[.F (.int c),.F (.lst (ps.map az)),.O (.L (qs.map az)),s3,s4]/\qs.Perm (ps.take j)) (je 0 (ps.map az)) 0 _ ⟨[],.un,.un,rfl,.nil⟩ λi d e hd aC=>by
  obtain⟨qs,s3,s4,he,h3⟩:=aC;subst he;have hi:=(i_.mp hd).1;rw[ft,c_]at hi;have hx:(ps.map az)[i]?=some (az ps[i]):=by rw[m_,f_ hi];rfl
  rw[jG hx]at hd;cases hd;simp only[Sq]at h3 ⊢;have hql:qs.length=i:=by rw[h3.length_eq,SZ];lia
  obtain⟨z,hz⟩:=qT c (3*(i:Int)+1) (by lia) (by lia);have m3:ao addI (ao mulI Xu aB) Xs [.F (.int c),.F (.lst (ps.map az)),.O (.L (qs.map az)),.F (.int i),.F (az ps[i])]=some (.int (3*(i:Int)+1)):=(aE ((aE rfl rfl).trans (lW (by decide) (by decide) (by lia) (by lia))) rfl).trans (gJ _ _);have hp:(0:Int)<(i:Int)+1:=by lia
  have hk:ao modI (λenv=>((aa aq (aa (ao addI (ao mulI Xu aB) Xs) fNil)) env).bind m__law_stir) (ao addI aB Xs) [.F (.int c),.F (.lst (ps.map az)),.O (.L (qs.map az)),.F (.int i),.F (az ps[i])]=some (.int (z%((i:Int)+1))):=(aE ((call_v (aj rfl (aj m3 aN))).trans hz) rfl).trans (iO hp);have b1:=Ut z (Int.ne_of_gt hp);have b2:=TK z hp;refine⟨_,eJ (e0:=[.F (.int c),.F (.lst (ps.map az)),.O (.L (qs.map az)),.F (.int i),.F (az ps[i])]) rfl (MD rfl hk rfl b1 (by rw[c_];lia) (by rw[c_];lia)),insAt qs (z%((i:Int)+1)).toNat ps[i],.F (.int i),.F (az ps[i]),?_,?_⟩
  .unfold insAt;simp[VQ,List.map_drop]
  .refine(uP _ _ _).trans ((h3.cons _).trans ?_);rw[WO,f_ hi];exact(List.perm_append_comm (l₁:=[ps[i]]) (l₂:=ps.take i))
 rw[Sq,ft,c_,Tb]at h3;exact⟨qs,bw ((aw (jX rfl)).trans ((aw ((bW (xQ rfl)).trans h1)).trans rfl)),h3⟩
theorem xf{f g:Fe}{env:En}{ds:Xo}{m:Nat}(h:g env=some (.lst ds))(hf:f env=some (.int (m:Int))):Dg fH g oNone (cO f) env=some (.lst (ds.take m)):=by
 unfold Dg cO;rw[h,H_];show((f env).bind _).bind _=_;rw[hf];show some (D.lst (cutD ds none (some (m:Int))))=_;rw[yY]
theorem ED(c:Int)(X:List (List Sh))(hX:X≠[])(hl:X.length<=64000):∃Y:List (List Sh),m__law_some_hidings [.int c,.lst (X.map az),.int 10]=some (.lst (Y.map az))/\0<Y.length/\Y.length<=10/\∀h∈Y,h∈X:=by
 have hx0:0<X.length:=List.length_pos_iff.mpr hX;have hlen:∀e:En,bI e 1=some (.lst (X.map az))->br cm ah e=some (.int (X.length:Nat)):=λe he=>(fZ he).trans (by rw[c_]);obtain⟨z0,a0,b0,d0⟩:=CG (f:=λenv=>bI env 0) (g:=fC (.int 60)) (h:=λenv=>bI env 2) (env:=aR 5 [.int c,.lst (X.map az),.int 10]) (c:=c) (k:=60) (m:=10) rfl rfl rfl (by decide) (by decide) (by decide);obtain⟨m,hm⟩:=UG (show 0<=1+z0 by lia);have v3:ao addI Xs (ao modI (λenv=>((aa aq (aa (fC (.int 60)) fNil)) env).bind m__law_stir) aK) (aR 5 [.int c,.lst (X.map az),.int 10])=some (.int (m:Nat)):=(aE rfl a0).trans (by rw[gJ,hm])
 let E3:En:=[.F (.int c),.F (.lst (X.map az)),.F (.int 10),.F (.int (m:Nat)),.un]
 have q3:ao maxI Xs (ao fdivI (br cm ah) aB) E3=some (.int (if((X.length:Nat):Int)/(m:Nat)>1 then((X.length:Nat):Int)/(m:Nat)else 1)):=(aE rfl ((aE (hlen E3 rfl) rfl).trans (lJ (by lia) (by lia)))).trans rfl;obtain⟨z1,a1,b1,d1⟩:=CG (f:=λenv=>bI env 0) (g:=fC (.int 61)) (env:=E3) (c:=c) (k:=61) rfl rfl q3 (by decide) (by decide) (by split<;>lia);have v4:ao addI Xs (ao modI (λenv=>((aa aq (aa (fC (.int 61)) fNil)) env).bind m__law_stir) (ao maxI Xs (ao fdivI (br cm ah) aB))) E3=some (.int (1+z1)):=(aE rfl a1).trans (gJ _ _)
 let E4:En:=[.F (.int c),.F (.lst (X.map az)),.F (.int 10),.F (.int (m:Nat)),.F (.int (1+z1))]
 have q4:ao maxI Xs (ao fdivI (br cm ah) Xt) E4=some (.int (if((X.length:Nat):Int)/2>1 then((X.length:Nat):Int)/2 else 1)):=(aE rfl ((aE (hlen E4 rfl) rfl).trans (lJ (by decide) (by decide)))).trans rfl;obtain⟨z2,a2,b2,d2⟩:=CG (f:=λenv=>bI env 0) (g:=fC (.int 62)) (env:=E4) (c:=c) (k:=62) rfl rfl q4 (by decide) (by decide) (by split<;>lia);have hz2:z2<(X.length:Nat):=by
  have:=d2
  split at this<;>lia
 obtain⟨p1,p2,p3⟩:=zm X z2 (1+z1) b2 hz2 (by lia);have v5:Of ah (cO (ao modI (λenv=>((aa aq (aa (fC (.int 62)) fNil)) env).bind m__law_stir) (ao maxI Xs (ao fdivI (br cm ah) Xt)))) oNone (cO aP) E4=some (.lst ((bG X (gf X.length (some z2) none (some (1+z1)))).map az)):=by
  show(some (D.lst (X.map az))).bind _=_;rw[H_];show(cO _ E4).bind _=_;unfold cO;rw[a2];show(if some (1+z1)≠some 0/\(bG (X.map az) (gf (X.map az).length (some z2) none (some (1+z1)))).length<=(X.map az).length then some (D.lst (bG (X.map az) (gf (X.map az).length (some z2) none (some (1+z1)))))else none)=_;rw[c_,Co,j_ ⟨λz=>by have:=Option.some.inj z;lia,by rw[c_];exact p2⟩]
 have hY:((bG X (gf X.length (some z2) none (some (1+z1)))).take m).length<=10:=by rw[SZ];lia
 obtain⟨Y,y1,y2⟩:=BE c ((bG X (gf X.length (some z2) none (some (1+z1)))).take m) (by lia);have v6:(λenv=>((aa aq (aa (Dg fH (Of ah (cO (ao modI (λenv=>((aa aq (aa (fC (.int 62)) fNil)) env).bind m__law_stir) (ao maxI Xs (ao fdivI (br cm ah) Xt)))) oNone (cO aP)) oNone (cO aB)) fNil)) env).bind m__law_order) E4=some (.lst (Y.map az)):=(call_v (aj (d:=.int c) rfl (aj (xf (m:=m) v5 rfl) aN))).trans (by rw[<- VQ];exact y1);refine⟨Y,bw (f:=du) ((aw (e:=E3) (a7 v3)).trans ((aw (e:=E4) (a7 v4)).trans (dP v6))),?_,by rw[y2.length_eq];exact hY,λh hh=>p3 h (VT (y2.mem_iff.mp hh))⟩;rw[y2.length_eq,SZ];have:=List.length_pos_iff.mpr p1
 lia
omit [Th] in
theorem sF{x y:List Pt}(h:fA x=fA y):x=y:=by rw[<- kP x,h,kP]
omit [Th] in
theorem AR(L:List Pt):(L.map dm).all BJ=true:=by
 rw[M_];intro k hk;obtain⟨p,_,rfl⟩:=y_.mp hk
 rfl
theorem Jt{R C:Nat}(hR:R<=4)(hC:C<=5){h:List Sh}(H:HC R C h){f:Fe}{env:En}(hf:f env=some (az h)):br gv (br (pO Th.h) (λenv=>((aa f fNil) env).bind m__law_ground)) env=some (.tup ((lyP h).map cel)):=by
 obtain⟨ks,g1,g2,g3⟩:=yJ h H.len λs hs=>(H.sz s hs).2;have okK:∀p∈ks,Mi.okP p:=λp hp=>lA hR hC (H.on p ((g3 p).mp hp));have e1:lj ks=lyP h:=by
  unfold lyP lj;refine List.filter_congr λp _=>?_;rw[S9,C_,C_,g3 p,lG]
 have hlen:ks.length<64:=by
  have hp:ks.Perm (wV h):=(Ug g2 (jB H.ap)).mpr λp=>by rw[g3 p,lG]
  have:=uI H.len λs hs=>(H.sz s hs).2;rw[hp.length_eq];lia
 have g:=(call_v (m:=m__law_ground) (aj hf aN)).trans g1;have s1:br (pO Th.h) (λenv=>((aa f fNil) env).bind m__law_ground) env=some (.lst ((lyP h).map cel)):=by
  refine(mI g).trans ?_;unfold pO Hf;rw[show dr ks=.mp Th.h (ks.map dm) (ks.map λ_=>.bl true)from rfl,GT];show((if(ks.map dm).all BJ=true then some (D.lst ((ks.map dm).map λk=>.tup (k.map kD)))else none).bind kU)=_;rw[j_ (AR ks),SM];show kU (.lst (ks.map cel))=_;rw[iV ks okK g2 hlen,e1]
 exact(mI s1).trans rfl
theorem Kh{fk fx:Fe}{env:En}{i:Nat}{L:List Pt}{d:D}{ks:List (List L2.Key)}{ds:Xo}(hk:fk env=some (.tup (L.map cel)))(hx:fx env=some d)(he:env[i]?=some (.O (.N ks ds)))(hl:ds.length=ks.length)(hz:ks.length<1000) :
  JL i fk fx env=some (.nx (env.set i (.O (if fA L∈ks then .N ks ds else .N (ks++[fA L]) (ds++[d]))))):=by
 show(fk env).bind _=_;rw[hk,H_,hx,H_];show(zd (.tup (L.map prD))).bind _=_;rw[AO,H_];show(match env[i]? with | some (.O (.N ks ds))=>if ks.length<16000000/\ds.length=ks.length then some (Out.nx (env.set i (.O (if fA L∈ks then .N ks ds else .N (ks++[fA L]) (ds++[d])))))else none | _=>none)=_;rw[he];show(if ks.length<16000000/\ds.length=ks.length then _ else none)=_;rw[j_ ⟨by lia,hl⟩]
def kH(h:List Sh):List L2.Key:=fA (lyP h)
omit [Th] in
theorem HH{Z:List (List Sh)}{h:List Sh}:kH h∈Z.map kH↔lyP h∈Z.map lyP:=by
 rw[y_,y_];exact⟨λ⟨g,a,b⟩=>⟨g,a,sF b⟩,λ⟨g,a,b⟩=>⟨g,a,Tn fA b⟩⟩
theorem wK:∀{Z:List (List Sh)}{h:List Sh},(Z.map lyP).Nodup->h∈Z->bE (Z.map kH) (Z.map az) (kH h)=some (az h)
 | [],_,_,h=>by cases h
 | g::Z,h,nd,hh=>by
  show(if kH g=kH h then some (az g)else bE (Z.map kH) (Z.map az) (kH h))=_;rw[L_,UR]at nd;rcases t_.mp hh with rfl | hz
  .rw[j_ rfl]
  .rw[k_ (λz=>nd.1 (by rw[show lyP g=lyP h from sF z];exact SU hz))];exact wK nd.2 hz
theorem y8{R C:Nat}(hR:R<=4)(hC:C<=5)(Y:List (List Sh))(hl:Y.length<=100)(H:∀h∈Y,HC R C h):∃Z:List (List Sh),m__law_unlike [.lst (Y.map az)]=some (.lst (Z.map az))/\(Z.map lyP).Nodup/\(∀h∈Z,h∈Y)/\Z.length<=Y.length/\(0<Y.length->0<Z.length):=by
 obtain⟨e2,h1,Z,s2,rfl,h2,h3,h4,h5⟩:=bR (t:=bZ 2) (body:=fY) (λj e=>∃(Z:List (List Sh))(s2:Slot),e=[.F (.lst (Y.map az)),.O (.N (Z.map kH) (Z.map az)),s2]/\(Z.map lyP).Nodup/\(∀h∈Z,h∈Y)/\Z.length<=j/\(0<j->0<Z.length)) (Y.map az) 0 [.F (.lst (Y.map az)),.O (.N [] []),.un] ⟨[],.un,rfl,U4,λh hh=>(by cases hh),h_ _,λh=>absurd h (Ua _)⟩ λi d e hd aC=>by
  obtain⟨Z,s2,he,h2,h3,h4,h5⟩:=aC;subst he;rw[m_]at hd;obtain⟨h,hh,rfl⟩:=D_.mp hd;have hin:=R_ hh;have hi:=(i_.mp hh).1;rw[Sq]at h4 h5 ⊢;have dv:=Kh (i:=1) (env:=[.F (.lst (Y.map az)),.O (.N (Z.map kH) (Z.map az)),.F (az h)]) (fx:=λenv=>bI env 2) (Jt hR hC (H h hin) (f:=λenv=>bI env 2) (env:=[.F (.lst (Y.map az)),.O (.N (Z.map kH) (Z.map az)),.F (az h)]) rfl) rfl rfl (by rw[c_,c_]) (by rw[c_];lia)
  by_cases hm:kH h∈Z.map kH
  .rw[j_ (show fA (lyP h)∈Z.map kH from hm)]at dv;refine⟨_,eJ (e0:=[.F (.lst (Y.map az)),.O (.N (Z.map kH) (Z.map az)),.F (az h)]) rfl dv,Z,.F (az h),rfl,h2,h3,by lia,λ_=>?_⟩;exact Nat.pos_of_ne_zero λz=>by rw[T5.mp z]at hm;cases hm
  .rw[k_ (show ¬fA (lyP h)∈Z.map kH from hm)]at dv;refine⟨_,eJ (e0:=[.F (.lst (Y.map az)),.O (.N (Z.map kH) (Z.map az)),.F (az h)]) rfl dv,Z++[h],.F (az h),by rw[O_,O_];rfl,?_,λg hg=>?_,by rw[r_];simp;lia,λ_=>by rw[r_];simp⟩
   .rw[O_,U0];refine⟨h2,by simp,λa ha b hb e=>hm (HH.mpr ?_)⟩;rw[L_,Vt,s_]at hb;rw[<- hb,<- e];exact ha
   .rcases Sr.mp hg with z | z
    .exact h3 g z
    .rw[s_.mp z];exact hin
 rw[c_,Sq]at h4 h5;have g:=dH (t:=bZ 0) (k:=bj (ao yf ah aq)) (env:=[.un,.F (.nt (Z.map kH) (Z.map az))]) (λh=>LG (kH h)) az Z λh hh=>⟨[.F (LG (kH h)),.F (.nt (Z.map kH) (Z.map az))],rfl,nk ((aE rfl rfl).trans (by
  unfold yf;show(zd (.tup ((DF (fA (lyP h))).map prD))).bind _=_;rw[kP,AO];exact wK h2 hh))⟩
 have c1:cq (Ob ah) [0] (bZ 0) Xw (bj (ao yf ah aq)) 1 [1] [.F (.lst (Y.map az)),.F (.nt (Z.map kH) (Z.map az)),s2]=some (.lst (Z.map az)):=dk (fi:=Ob ah) (ds:=Z.map λh=>LG (kH h)) (by show some _=_;rw[SM];rfl) (n:=1) (caps:=[1]) (is:=[0]) rfl g (by rw[c_];lia);exact⟨Z,bw ((aw rfl).trans ((aw ((bW (cP rfl)).trans h1)).trans ((aw (e:=[.F (.lst (Y.map az)),.F (.nt (Z.map kH) (Z.map az)),s2]) rfl).trans (dP c1)))),h2,h3,h4,h5⟩
theorem Mp:m__law_only [.str "many"]=some (gu K5):=by rfl
theorem sE{f g:Fe}{env:En}{d:D}(h1:f env=some d)(h2:g env=some d)(hd:dep d<=60)(hp:pl d=true):ao pN f g env=some (.bl false):=PN h1 h2 (Ni hd (by rw[hp];rfl)) (rM d hp)
theorem Bh(h1:1<=s.n)(h:s∈ef R C s.n):∀q∈s.cs,q∈Do R C:=λq hq=>by
 obtain⟨⟨a,b,ea,eb,ha,hb⟩,_,h3,h4⟩:=jY.mp h;obtain⟨c1,c2,c3,c4⟩:=(nG h1 q).mp hq;rw[wJ];unfold Sh.rz at c2;unfold Sh.cz at c4;cases hd:s.dn with
 | true=>
  have:=(h4 hd).1;rw[j_ hd]at c2 c4
  lia
 | false=>
  have:=h3 hd;rw[k_ (by rw[hd];simp)]at c2 c4
  lia
theorem PL.hc{R C:Nat}{fl:W5}{ru:Str}(p:PL R C fl ru){h:List Sh}(hh:h∈eh R C ru fl fl.length):HC R C h:=by
 have H:=p.hid hh;refine⟨H.ap,H.len,H.sz,λq hq=>?_⟩;unfold EV at hq;obtain⟨s,hs,hq⟩:=WD.mp hq;exact Bh (H.sz s hs).1 (H.on s hs) q (Sw hq)
theorem xt(ds:Xo)(h:ds.length=0\/10<ds.length):m__law_told [.lst ds]=some (gu K5):=vY (FO ds h) λk d e=>by
 injection e with e
 injection e with e1 e2
 rw[<- e1];exact s_.mpr rfl
theorem rN{R C:Nat}(hR:R<=4)(hC:C<=5)(hs:List (List Sh))(h0:0<hs.length)(h6:hs.length<=10)(H:∀h∈hs,HC R C h)(nd:(hs.map lyP).Nodup) :
  ∃(d:Nat)(P:D),m__law_told [.lst (hs.map az)]=some (.tup [.str DN,.int (d:Nat),P])/\oh (hs.map lyP) d:=by
 obtain⟨d,P,h1,h2⟩:=BV hR hC hs h0 h6 H nd;exact⟨d,P,vY h1 λk d e=>(by cases e),h2⟩
omit [Th] in
theorem z6{g:Fe}{env:En}{n:Nat}(h:g env=some (.int (n:Nat)))(hn:n<=1000):EM Xs g env=some (aG 1 (n-1)):=by
 show(Option.bind (some (D.int 1)) λd=>(g env).bind λe=>match d,e with | .int i,.int j=>if(kK i&&kK j)=true then some (aG i (j-i).toNat)else none | _,_=>none)=_;rw[h,H_,H_];dsimp only;rw[j_ (by unfold kK;rw[F_];exact⟨by decide,w_ ⟨by lia,by lia⟩⟩),show(((n:Nat):Int)-1).toNat=n-1 by lia]
omit [Th] in
theorem rW{n i:Nat}{d:D}(h:(aG 1 n)[i]?=some d):d=.int ((i+1:Nat):Int)/\i<n:=by
 unfold aG at h;rw[m_]at h;obtain⟨k,h1,rfl⟩:=D_.mp h;obtain⟨h2,h3⟩:=i_.mp h1;rw[T4]at h2;rw[List.getElem_range]at h3;subst h3;exact⟨by congr 1;lia,h2⟩
omit [Th] in
theorem FJ{xs:Xo}(h:0<xs.length):L2.atI xs (-1)=xs[xs.length-1]?:=by
 unfold L2.atI L2.vp;rw[k_ (by decide),j_ (by lia)];show xs[(((xs.length:Nat):Int)+-1).toNat]?=_;rw[show(((xs.length:Nat):Int)+-1).toNat=xs.length-1 by lia]
def Hy(d:Nat):D:=.int (d:Nat)
abbrev eL(sc:Slot)(c:Int)(sh fl ru ro:D)(Z:List (List Sh))(ds:W5)(s8 s9 gm eF:Slot):En:=[sc,.F (.int c),.F sh,.F fl,.F ru,.F ro,.F (.lst (Z.map az)),.O (.L (ds.map Hy)),s8,s9,gm,eF]
structure OP(Z:List (List Sh))(ds:List Nat)(j:Nat):Prop where
 len:ds.length=j
 dep:∀k,k<j->oh ((Z.take (k+1)).map lyP) (ds.getD k 0)
 few:∀k,k<j->ds.getD k 0<=k
 up:∀k,k+1<j->ds.getD k 0<=ds.getD (k+1) 0/\ds.getD (k+1) 0<=ds.getD k 0+1
omit [Th] in
theorem getD_snoc{ds:W5}{d j k:Nat}(hl:ds.length=j)(hk:k<j+1):(ds++[d]).getD k 0=if k<j then ds.getD k 0 else d:=by
 rw[g_,g_]
 by_cases h:k<j
 .rw[j_ h,I_ (by lia)]
 .rw[k_ h,G_ (by lia),show k-ds.length=0 by lia];rfl
theorem CF{R C:Nat}(hR:R<=4)(hC:C<=5)(Z:List (List Sh))(h6:Z.length<=10)(H:∀h∈Z,HC R C h)(nd:(Z.map lyP).Nodup)(sc:Slot)(c:Int)(sh fl ru ro:D)(ds:W5)(i:Nat)(hi:i<Z.length)(D0:OP Z ds i)(s9 gm eF:Slot) :
  ∃d t9,qH (eL sc c sh fl ru ro Z ds (.F (.int ((i+1:Nat):Int))) s9 gm eF)=some (.nx (eL sc c sh fl ru ro Z (ds++[d]) (.F (.int ((i+1:Nat):Int))) t9 gm eF))/\OP Z (ds++[d]) (i+1):=by
 have hsub:((Z.take (i+1)).map lyP).Sublist (Z.map lyP):=(Wv _ _).map _;obtain⟨d,P,t1,t2⟩:=rN hR hC (Z.take (i+1)) (by rw[SZ];lia) (by rw[SZ];lia) (λh hh=>H h (VT hh)) (nd.sublist hsub);have hB:∀L∈Z.map lyP,∃x,L=lj x:=λL hL=>by obtain⟨h,_,rfl⟩:=y_.mp hL;exact HC.up
 have gr:∀k,k+1=i->ds.getD k 0<=d/\d<=ds.getD k 0+1:=λk hk=>by
  have d1:=D0.dep k (by lia);rw[hk]at d1;have e:(Z.take (i+1)).map lyP=(Z.take i).map lyP++[lyP Z[i]]:=by rw[WO,f_ hi,O_];rfl
  rw[e]at t2 hsub;have nd2:=nd.sublist hsub;refine oh.grow (λy hy=>apart hB (SU (Ts hi)) (hsub.subset (U2 _ hy)) λz=>?_) d1 t2;rw[U0]at nd2;exact nd2.2.2 y hy _ (s_.mpr rfl) z.symm
 have hd:d<=i:=by
  cases i with
  | zero=>exact Nat.le_of_eq (t2.zero.mpr (by rw[c_,SZ];lia))
  | succ k=>have:=(gr k rfl).2;have:=D0.few k (by lia);lia
 have hp:i+1<=2 ^ d:=by
  have:=qE t2.1;rw[c_,SZ]at this;lia
 let td:D:=.tup [.str DN,.int (d:Nat),P]
 have w1:(λenv=>((aa (Dg fH cb oNone (cO jH)) fNil) env).bind m__law_told) (eL sc c sh fl ru ro Z ds (.F (.int ((i+1:Nat):Int))) s9 gm eF)=some td:=(call_v (aj (xf (m:=i+1) rfl rfl) aN)).trans (by rw[<- VQ];exact t1)
 let E9:En:=eL sc c sh fl ru ro Z ds (.F (.int ((i+1:Nat):Int))) (.F td) gm eF
 have x1:ao aO ez Xs E9=some (.int (d:Nat)):=ku (i:=1) (ds:=[.str DN,.int (d:Nat),P]) rfl rfl rfl;have x2:Dk (fB (ao pN (ao aO ez Xr) (fC (.str "plan")))) (fB (ao ltI (ao md Xs (ao aO ez Xs)) jH)) E9=some false:=(xi (et ((aE (ku (i:=0) (ds:=[.str DN,.int (d:Nat),P]) rfl rfl rfl) rfl).trans rfl))).trans (et ((aE (BZ x1 (by lia)) rfl).trans ((Lj _ _).trans (by rw[E_ (by lia)]))));refine⟨d,.F td,(aw (e:=E9) (a7 (i:=9) w1)).trans ((aw (e:=E9) ((bO x2).trans rfl)).trans ((kS (i:=7) (ds:=ds.map Hy) rfl x1 (by rw[c_,D0.len];lia)).trans (by simp only[eL,O_];rfl))),by rw[r_,D0.len];rfl,λk hk=>?_,λk hk=>?_,λk hk=>?_⟩
 .rw[getD_snoc D0.len hk]
  split
  .exact D0.dep k ‹_›
  .rw[show k=i by lia];exact t2
 .rw[getD_snoc D0.len hk]
  split
  .exact D0.few k ‹_›
  .lia
 .rw[getD_snoc D0.len hk,getD_snoc D0.len (by lia),j_ (show k<i by lia)]
  split
  .exact D0.up k ‹_›
  .exact gr k (by lia)
theorem DY(sc:Slot)(c:Int)(sh fl ru ro:D)(Z:List (List Sh))(ds:W5)(n:Nat)(D0:OP Z ds n)(i:Nat)(hi:i+1<n)(s8 s9 eF:Slot) :
  qr (eL sc c sh fl ru ro Z ds s8 s9 (.F (.int ((i+1:Nat):Int))) eF)=some (.nx (eL sc c sh fl ru ro Z ds s8 s9 (.F (.int ((i+1:Nat):Int))) eF)):=by
 have CV:∀k,k<n->L2.atI (ds.map Hy) (k:Int)=some (.int (ds.getD k 0:Nat)):=λk hk=>dM (by rw[m_,g_,f_ (by rw[D0.len];exact hk)];rfl)
 let E:En:=eL sc c sh fl ru ro Z ds s8 s9 (.F (.int ((i+1:Nat):Int))) eF
 have a1:ao aO (λenv=>jV env 7) dW E=some (.int (ds.getD (i+1) 0:Nat)):=eu (ds:=ds.map Hy) rfl rfl (CV (i+1) hi);have a2:ao subI dW Xs E=some (.int (i:Nat)):=(aE rfl rfl).trans ((A3 _ _).trans (by congr 2;lia));have a3:ao aO (λenv=>jV env 7) (ao subI dW Xs) E=some (.int (ds.getD i 0:Nat)):=eu (ds:=ds.map Hy) rfl a2 (CV i (by lia));have a4:=(aE a1 a3).trans (A3 _ _);have u:=D0.up i hi;have a5:ao (Dl true) (ao subI (ao aO (λenv=>jV env 7) dW) (ao aO (λenv=>jV env 7) (ao subI dW Xs))) (bc (aa Xr (aa Xs fNil))) E=some (.bl false):=by
  rcases(show((ds.getD (i+1) 0:Nat):Int)-(ds.getD i 0:Nat)=0\/((ds.getD (i+1) 0:Nat):Int)-(ds.getD i 0:Nat)=1 by lia)with z | z
  .rw[z]at a4;exact(aE a4 rfl).trans rfl
  .rw[z]at a4;exact(aE a4 rfl).trans rfl
 exact(bO (et a5)).trans rfl
theorem HU(sc:Slot)(c:Int)(s2 s3 s4 s5 s6 s7 s8 s9 gm eF:Slot):∃t2 t3 t4 t5 t6 t7 t8 t9 zK Lb,qX [sc,.F (.int c),s2,s3,s4,s5,s6,s7,s8,s9,gm,eF]=some (.nx [sc,.F (.int c),t2,t3,t4,t5,t6,t7,t8,t9,zK,Lb]):=by
 obtain⟨R,C,fl,ru,p1,p2,p3⟩:=zg c;have hR:=p2.r4;have hC:=p2.c5;obtain⟨Y,y1,y2,y3,y4⟩:=ED c _ p3 p2.len;obtain⟨Z,z1,z2,z3,z4,z5⟩:=y8 hR hC Y (by lia) λh hh=>p2.hc (y4 h hh);have hZ:=z5 y2;have H:∀h∈Z,HC R C h:=λh hh=>p2.hc (y4 h (z3 h hh))
 let sh:D:=.tup [.int R,.int C]
 let ro:D:=.lst ((eh R C ru fl fl.length).map az)
 have w0:(λenv=>((aa ah fNil) env).bind m__law_played) [sc,.F (.int c),s2,s3,s4,s5,s6,s7,s8,s9,gm,eF]=some (.tup [sh,jM fl,.str ru,ro]):=(call_v (aj (d:=.int c) rfl aN)).trans p1
 let E5:En:=[sc,.F (.int c),.F sh,.F (jM fl),.F (.str ru),.F ro,s6,s7,s8,s9,gm,eF]
 have on:∀e:En,(λenv=>((aa (fC (.str "many")) fNil) env).bind m__law_only) e=some (gu K5):=λe=>(call_v (aj (d:=.str "many") rfl aN)).trans Mp;have RP:dep (gu K5)<=60:=by decide +kernel
 have Du:pl (gu K5)=true:=by decide +kernel
 have w1:fB (ao pN (λenv=>((aa (cf fNil) fNil) env).bind m__law_told) (λenv=>((aa (fC (.str "many")) fNil) env).bind m__law_only)) E5=some false:=et (sE ((call_v (aj (xk aN) aN)).trans (xt [] (.inl rfl))) (on _) RP Du);have RQ:br cm dQ E5=some (.int ((eh R C ru fl fl.length).length:Nat)):=(fZ rfl).trans (by rw[c_]);have w2:jm (fB (ao gtI (br cm dQ) (fC (.int 10)))) (fB (ao pN (λenv=>((aa (Dg fH dQ oNone (cO (fC (.int 11)))) fNil) env).bind m__law_told) (λenv=>((aa (fC (.str "many")) fNil) env).bind m__law_only))) E5=some false:=by
  by_cases h:10<(eh R C ru fl fl.length).length
  .refine(HN (et ((aE RQ rfl).trans ((Md _ _).trans (by rw[w_ (by lia)]))))).trans ?_;refine et (sE ((call_v (aj (xf (m:=11) rfl rfl) aN)).trans (xt _ (.inr ?_))) (on _) RP Du);rw[SZ,c_];lia
  .exact Il (et ((aE RQ rfl).trans ((Md _ _).trans (by rw[E_ (by lia)]))))
 have w3:(λenv=>((aa (λenv=>((aa ah (aa dQ (aa (fC (.int 10)) fNil))) env).bind m__law_some_hidings) fNil) env).bind m__law_unlike) E5=some (.lst (Z.map az)):=(call_v (m:=m__law_unlike) (aj (f:=λenv=>((aa ah (aa dQ (aa (fC (.int 10)) fNil))) env).bind m__law_some_hidings) ((call_v (aj (d:=.int c) rfl (aj (d:=ro) rfl (aj (d:=.int 10) rfl aN)))).trans y1) aN)).trans z1;have lz:∀(ds:W5)(s8 s9 gm eF:Slot),ao addI (br cm cb) Xs (eL sc c sh (jM fl) (.str ru) ro Z ds s8 s9 gm eF)=some (.int ((Z.length+1:Nat):Int)):=λds s8 s9 gm eF=>(aE (fZ rfl) rfl).trans ((gJ _ _).trans (by rw[c_];congr 2));obtain⟨e2,g1,ds,t8,t9,rfl,D1⟩:=bR (t:=bZ 8) (body:=qH) (λj e=>∃(ds:W5)(t8 t9:Slot),e=eL sc c sh (jM fl) (.str ru) ro Z ds t8 t9 gm eF/\OP Z ds j) (aG 1 (Z.length+1-1)) 0 (eL sc c sh (jM fl) (.str ru) ro Z [] s8 s9 gm eF) ⟨[],s8,s9,rfl,rfl,λk hk=>absurd hk (UT _),λk hk=>absurd hk (UT _),λk hk=>absurd hk (UT _)⟩ λi d e hd aC=>by
  obtain⟨ds,t8,t9,he,D0⟩:=aC;subst he;obtain⟨rfl,hi⟩:=rW hd;rw[Sq]at D0 ⊢;obtain⟨d,t9',h1,h2⟩:=CF hR hC Z (by lia) H z2 sc c sh (jM fl) (.str ru) ro ds i (by lia) D0 t9 gm eF;exact⟨_,eJ (e0:=eL sc c sh (jM fl) (.str ru) ro Z ds (.F (.int ((i+1:Nat):Int))) t9 gm eF) rfl h1,_,_,_,rfl,h2⟩
 rw[show(aG 1 (Z.length+1-1)).length=Z.length by simp[aG],Sq]at D1;have ld:br cm (λenv=>jV env 7) (eL sc c sh (jM fl) (.str ru) ro Z ds t8 t9 gm eF)=some (.int (Z.length:Nat)):=(fZ (ds:=ds.map Hy) rfl).trans (by rw[c_,D1.len]);obtain⟨e3,g2,zK,rfl⟩:=bR (t:=bZ 10) (body:=qr) (λ_ e=>∃zK,e=eL sc c sh (jM fl) (.str ru) ro Z ds t8 t9 zK eF) (aG 1 (Z.length-1)) 0 (eL sc c sh (jM fl) (.str ru) ro Z ds t8 t9 gm eF) ⟨_,rfl⟩ λi d e hd aC=>by
  obtain⟨zK,he⟩:=aC;subst he;obtain⟨rfl,hi⟩:=rW hd;exact⟨_,eJ (e0:=eL sc c sh (jM fl) (.str ru) ro Z ds t8 t9 (.F (.int ((i+1:Nat):Int))) eF) rfl (DY sc c sh (jM fl) (.str ru) ro Z ds Z.length D1 i (by lia) t8 t9 eF),_,rfl⟩
 obtain⟨qs,o1,o2⟩:=BE (c+1) Z (by lia);obtain⟨d',P',o3,o4⟩:=rN hR hC qs (by rw[o2.length_eq];exact hZ) (by rw[o2.length_eq];lia) (λh hh=>H h (o2.mem_iff.mp hh)) ((o2.map lyP).nodup_iff.mpr z2);have dl:=D1.dep (Z.length-1) (by lia);rw[show Z.length-1+1=Z.length by lia,Tb]at dl;have ed:=oh.uniq (o4.perm (o2.map lyP)) dl
 let td:D:=.tup [.str DN,.int (d':Nat),P']
 have w4:(λenv=>((aa (λenv=>((aa (ao addI ah Xs) (aa cb fNil)) env).bind m__law_order) fNil) env).bind m__law_told) (eL sc c sh (jM fl) (.str ru) ro Z ds t8 t9 zK eF)=some td:=(call_v (m:=m__law_told) (aj (f:=λenv=>((aa (ao addI ah Xs) (aa cb fNil)) env).bind m__law_order) ((call_v (aj ((aE rfl rfl).trans (gJ c 1)) (aj (d:=.lst (Z.map az)) rfl aN))).trans o1) aN)).trans o3
 let E11:En:=eL sc c sh (jM fl) (.str ru) ro Z ds t8 t9 zK (.F td)
 have x1:ao aO gF Xs E11=some (.int (d':Nat)):=ku (i:=1) (ds:=[.str DN,.int (d':Nat),P']) rfl rfl rfl;have x2:ao aO (λenv=>jV env 7) (br iK Xs) E11=some (.int (d':Nat)):=eu (ds:=ds.map Hy) (i:=-1) rfl rfl (by rw[FJ (by rw[c_,D1.len];exact hZ),c_,D1.len,m_,ed,g_,f_ (by rw[D1.len];lia)];rfl);have x3:Dk (fB (ao pN (ao aO gF Xr) (fC (.str "plan")))) (fB (ao pN (ao aO gF Xs) (ao aO (λenv=>jV env 7) (br iK Xs)))) E11=some false:=(xi (et ((aE (ku (i:=0) (ds:=[.str DN,.int (d':Nat),P']) rfl rfl rfl) rfl).trans rfl))).trans (et ((aE x1 x2).trans ((MJ _ _).trans (by simp))));refine⟨_,_,_,_,_,_,_,_,_,_,(aw (e:=E5) (wz (f:=λenv=>((aa ah fNil) env).bind m__law_played) w0 rfl)).trans ((aw (e:=E5) ((bO w1).trans rfl)).trans ((aw (e:=E5) ((bO w2).trans rfl)).trans ((aw (e:=[sc,.F (.int c),.F sh,.F (jM fl),.F (.str ru),.F ro,.F (.lst (Z.map az)),s7,s8,s9,gm,eF]) (a7 (i:=6) w3)).trans ((aw (e:=eL sc c sh (jM fl) (.str ru) ro Z [] s8 s9 gm eF) (jX (i:=7) (xk aN))).trans ((aw ((bW (z6 (lz _ _ _ _ _) (by lia))).trans g1)).trans ((aw ((bW (z6 ld (by lia))).trans g2)).trans ((aw (e:=E11) (a7 (i:=11) w4)).trans ((bO x3).trans rfl))))))))⟩
theorem law_true(ns:W6)(hl:ns.length<=63):m_law [.lst (ns.map .int)]=some (.bl true):=by
 obtain⟨e2,g1,t1,t2,t3,t4,t5,t6,t7,t8,t9,zK,Lb,rfl⟩:=rX (t:=bZ 1) (body:=qX) (λe=>∃s1 s2 s3 s4 s5 s6 s7 s8 s9 gm eF,e=[.F (.lst (ns.map .int)),s1,s2,s3,s4,s5,s6,s7,s8,s9,gm,eF]) (((0:Int)::ns.take 6).map .int) (aR 12 [.lst (ns.map .int)]) ⟨_,_,_,_,_,_,_,_,_,_,_,rfl⟩ λd hd e aC=>by
  obtain⟨s1,s2,s3,s4,s5,s6,s7,s8,s9,gm,eF,he⟩:=aC;subst he;obtain⟨c,_,rfl⟩:=y_.mp hd;obtain⟨t2,t3,t4,t5,t6,t7,t8,t9,zK,Lb,u⟩:=HU (.F (.lst (ns.map .int))) c s2 s3 s4 s5 s6 s7 s8 s9 gm eF;exact⟨_,eJ (e0:=[.F (.lst (ns.map .int)),.F (.int c),s2,s3,s4,s5,s6,s7,s8,s9,gm,eF]) rfl u,_,_,_,_,_,_,_,_,_,_,_,rfl⟩
 refine bw ((aw ((bW (cP ?_)).trans g1)).trans rfl);exact(Cw (xs:=[.int 0]) (ys:=(ns.map .int).take 6) rfl (xf (m:=6) rfl rfl) (by simp;lia)).trans (by rw[<- VQ];rfl)
end K31
namespace K31
open PySem PySem.Spec PyProof.Rows L2 Mi Xc
abbrev pg:Xa:=PySem.Challenge.pw_fleethide_k31_whole_fewer_hidings_fewer
variable [Th]
def gt(n:Nat):Xj:=pg.main.body.getD n (.Pass ⟨0,0,0,0⟩)
def st__law_stir:=gt 25
def st__law_drawn:=gt 26
def st__law_game:=gt 34
def st__law_ships:=gt 30
def st__law_cells:=gt 29
def st__law_halo:=gt 31
def st__law_free:=gt 33
def st__law_all:=gt 32
def st__law_played:=gt 35
def st_cells_of:=gt 13
def st_lying_cells:=gt 14
def st_alike_pairs:=gt 18
def st_cells_by_lot:=gt 19
def st_depth_behind:=gt 22
def st_best_shown:=gt 21
def st_least_depths:=gt 20
def st_plan_for:=gt 23
def st_least_plan:=gt 17
def st__law_told:=gt 39
def st__law_only:=gt 28
def st__law_ground:=gt 37
def st__law_unlike:=gt 40
def st__law_order:=gt 36
def st__law_some_hidings:=gt 38
def st_law:=gt 41
structure Tx(W:Wd):Prop where
 z_ValueError:W.mg "ValueError"=none
 z_enumerate:W.mg "enumerate"=none
 z_int:W.mg "int"=none
 z_isinstance:W.mg "isinstance"=none
 z_len:W.mg "len"=none
 z_max:W.mg "max"=none
 z_min:W.mg "min"=none
 z_range:W.mg "range"=none
 z_sorted:W.mg "sorted"=none
 z_sum:W.mg "sum"=none
 z_tuple:W.mg "tuple"=none
 e_MOST_PLANNED:∃v u,W.mg "MOST_PLANNED"=some u/\RelV v u/\∀Z,Rep W.K Z cD v
 hw:Th.h=hashStr W.w
section
variable {W:Wd}
abbrev eD(W:Wd):Prop:=W.Q 1 "_law_stir" 2 .cl m__law_stir
abbrev i9(W:Wd):Prop:=W.Q 2 "_law_drawn" 2 .nw m__law_drawn
abbrev kJ(W:Wd):Prop:=W.Q 3 "_law_game" 1 .cl m__law_game
abbrev iY(W:Wd):Prop:=W.Q 1 "_law_ships" 2 .nw m__law_ships
abbrev dG(W:Wd):Prop:=W.Q 1 "_law_cells" 1 .nw m__law_cells
abbrev kR(W:Wd):Prop:=W.Q 2 "_law_halo" 2 .nm m__law_halo
abbrev kY(W:Wd):Prop:=W.Q 1 "_law_free" 2 .cl m__law_free
abbrev nv(W:Wd):Prop:=W.Q 3 "_law_all" 3 .nw m__law_all
abbrev iC(W:Wd):Prop:=W.Q 4 "_law_played" 1 .cl m__law_played
abbrev l7(W:Wd):Prop:=W.Q 1 "cells_of" 1 .nw m_cells_of
abbrev iu(W:Wd):Prop:=W.Q 2 "lying_cells" 1 .cl m_lying_cells
abbrev iB(W:Wd):Prop:=W.Q 1 "alike_pairs" 1 .cl m_alike_pairs
abbrev gD(W:Wd):Prop:=W.Q 1 "cells_by_lot" 1 .cl m_cells_by_lot
abbrev dR(W:Wd):Prop:=W.Q 1 "depth_behind" 3 .cl m_depth_behind
abbrev fE(W:Wd):Prop:=W.Q 4 "best_shown" 3 .cl m_best_shown
abbrev gH(W:Wd):Prop:=W.Q 5 "least_depths" 2 .cl m_least_depths
abbrev mE(W:Wd):Prop:=W.Q 68 "plan_for" 3 .cl iT
abbrev jf(W:Wd):Prop:=W.QX 69 "least_plan" 1 m_least_plan
abbrev kQ(W:Wd):Prop:=W.Q 70 "_law_told" 1 .cl m__law_told
abbrev kM(W:Wd):Prop:=W.Q 1 "_law_only" 1 .nw m__law_only
abbrev iw(W:Wd):Prop:=W.Q 2 "_law_ground" 1 .nm m__law_ground
abbrev ij(W:Wd):Prop:=W.Q 3 "_law_unlike" 1 .nw m__law_unlike
abbrev fR(W:Wd):Prop:=W.Q 2 "_law_order" 2 .nw m__law_order
abbrev dD(W:Wd):Prop:=W.Q 3 "_law_some_hidings" 3 .cl m__law_some_hidings
theorem qA(h:W.At "_law_stir" st__law_stir)(T:Tx W):eD W:=nX ["cell","k","number"] 2 h λ_ _ _ _ _ _ _ hr hN=>(ay (bg 2 (o8 (a8 (a8 (bV (ae 0) (xc ag ag)) (o8 ag (ae 1))) ag) ag) hN) (ay (bg 2 (bV (ae 2) ag) hN) (aF (bA (qf (bV (xc (a8 (xc (ae 2) ag) (o8 ag (ae 1))) ag) ag) ag)))))
theorem nW(h:W.At "_law_drawn" st__law_drawn)(T:Tx W)(bQ:eD W):i9 W:=nX ["cell","sizes","found","rest","k"] 2 h λ_ _ _ _ _ _ _ hr hN=>(ay (iG 2 (bX au) hN) (ay (bg 3 (ae 0) hN) (ay (cA Ss rfl (cj T.z_range (gE T.z_len (ae 1))) (aU 4 hN) (aF (fO (K2 (w_or (MQ (ae 0) (xc ag ag)) (AA (tU hr (ae 3) ag)))) (aF (mV 2 (bV (aY bQ hr (af (ae 0) (af (ae 4) au))) (bf (ae 1) (ae 4))))) (ay (mV 2 (bV (ae 3) (bf (ae 1) (ae 4)))) (aF (bg 3 (qf (ae 3) (bf (ae 1) (ae 4))) hN)))))) (aF (rC 2)))))
theorem qN(h:W.At "_law_game" st__law_game)(T:Tx W)(k__law_drawn:i9 W):kJ W:=nX ["cell","way","rows","columns","first","second","third","rule","sheet","fleet"] 1 h λ_ _ _ _ _ _ _ hr hN=>(ay (Ml rfl (cT (aY k__law_drawn hr (af (ae 0) (af (cT (bX (af ag (af ag (af ag (af ag (af ag (af ag (af ag au))))))))) au)))) (aD 1 hN (aD 2 hN (aD 3 hN (aD 4 hN (aD 5 hN (aD 6 hN (aD 7 hN cS)))))))) (ay (bg 8 (bf (bX (af (aX (af (a8 ag (ae 2)) (af (a8 ag (ae 3)) au))) (af (aX (af (a8 ag (bV (ae 2) ag)) (af (a8 ag (bV (ae 3) ag)) au))) (af (aX (af (a8 ag (bV (ae 2) ag)) (af (a8 ag (bV (ae 3) ag)) au))) au)))) (M7 T.z_min rfl (ae 1) ag)) hN) (ay (fO (tU hr (ae 1) ag) (aF (bg 8 (aX (af ag (af (a8 ag (ae 3)) au))) hN)) cG) (ay (bg 9 (bf (bX (af (aX (af (a8 ag (ae 4)) au)) (af (aX (af (a8 ag (bV (ae 4) ag)) (af (a8 ag (bV (ae 5) ag)) au))) (af (aX (af (a8 ag (bV (ae 4) ag)) (af (a8 ag (bV (ae 5) ag)) (af (a8 ag (bV (ae 6) ag)) au)))) au)))) (bV (ae 1) ag)) hN) (ay (fO (tU hr (ae 1) ag) (aF (bg 9 (aX (af (a8 ag (bV (ae 4) ag)) (af (a8 ag (bV (ae 5) ag)) (af (a8 ag (bV (ae 6) ag)) au)))) hN)) cG) (ay (bg 9 (wR T.z_tuple (Lu (Ag T.z_sorted (ae 9)))) hN) (aF (bA (aX (af (ae 8) (af (ae 9) (af (bf (bX (af bt (af bt (af bt au)))) (ae 7)) au))))))))))))
theorem nY(h:W.At "_law_ships" st__law_ships)(T:Tx W):iY W:=nX ["sheet","length","found","row","column"] 2 h λ_ _ _ _ _ _ _ hr hN=>(ay (iG 2 (bX au) hN) (ay (cA Ss rfl (cj T.z_range (bf (ae 0) ag)) (aU 3 hN) (aF (cA Ss rfl (cj T.z_range (bf (ae 0) ag)) (aU 4 hN) (ay (fO (MF (a8 (ae 4) (ae 1)) (bf (ae 0) ag)) (aF (mV 2 (aX (af (ae 3) (af (ae 4) (af bt (af (ae 1) au))))))) cG) (aF (fO (K2 (w_and (MF (a8 (ae 3) (ae 1)) (bf (ae 0) ag)) (vP (Mv (ae 1) ag)))) (aF (mV 2 (aX (af (ae 3) (af (ae 4) (af bt (af (ae 1) au))))))) cG)))))) (aF (rC 2))))
theorem n5(h:W.At "_law_cells" st__law_cells)(T:Tx W):dG W:=nX ["ship","row","column","way","length","found","k"] 1 h λ_ _ _ _ _ _ _ hr hN=>(ay (Gc rfl (ae 0) (aD 1 hN (aD 2 hN (aD 3 hN (aD 4 hN cS))))) (ay (iG 5 (bX au) hN) (ay (cA Ss rfl (cj T.z_range (ae 4)) (aU 6 hN) (aF (mV 5 (aX (af (a8 (ae 1) (o8 (ae 6) (Cq T.z_int (Fu hr (ae 3) bt)))) (af (a8 (ae 2) (o8 (ae 6) (Cq T.z_int (Fu hr (ae 3) bt)))) au)))))) (aF (rC 5)))))
theorem qz(h:W.At "_law_halo" st__law_halo)(T:Tx W)(cJ:dG W):kR W:=nX ["rule","ship","found","steps","row","column","down","right"] 2 h λ_ _ _ _ _ _ _ hr hN=>(ay (Bl 2 (AC T.hw) hN) (ay (bg 3 (cT (bX (af (aX (af ag (af ag au))) au))) hN) (ay (fO (zo hr (ae 0) bt) (aF (bg 3 (cT (nA (ae 3) (bX (af (aX (af ag (af ag au))) (af (aX (af ag (af ag au))) (af (aX (af ag (af (jn ag) au))) (af (aX (af (jn ag) (af ag au))) au))))))) hN)) cG) (ay (fO (tU hr (ae 0) bt) (aF (bg 3 (cT (nA (ae 3) (bX (af (aX (af ag (af ag au))) (af (aX (af ag (af (jn ag) au))) (af (aX (af (jn ag) (af ag au))) (af (aX (af (jn ag) (af (jn ag) au))) au))))))) hN)) cG) (ay (cA Ss rfl (bL (cT (aY cJ hr (af (ae 1) au)))) (jk rfl (aD 4 hN (aD 5 hN cS))) (aF (cA Ss rfl (bL (ae 3)) (jk rfl (aD 6 hN (aD 7 hN cS))) (aF (CC 2 T.hw hr lZ (aX (af (a8 (ae 4) (ae 6)) (af (a8 (ae 5) (ae 7)) au)))))))) (aF (B9 2)))))))
theorem rj(h:W.At "_law_free" st__law_free)(T:Tx W):kY W:=nX ["halo","ground","one","cell"] 2 h λ_ _ _ _ _ _ _ hr hN=>(ay (cA Ss rfl (bL (ae 0)) (aU 2 hN) (aF (cA Ss rfl (bL (ae 1)) (aU 3 hN) (aF (fO (Lq T.hw hr (ae 3) (ae 2)) (aF (bA lZ)) cG))))) (aF (bA lZ)))
theorem rV(h:W.At "_law_all" st__law_all)(T:Tx W)(k__law_ships:iY W)(k__law_halo:kR W)(cJ:dG W)(k__law_free:kY W):nv W:=nX ["sheet","fleet","rule","rows","place","length","ships","halos","grounds","longer","hiding","halo","k","later"] 3 h λ_ _ _ _ _ _ _ hr hN=>(ay (bg 3 (cT (bX (af (aX (af (aX au) (af (cT (bX au)) au))) au))) hN) (ay (cA Ss rfl (uM T.z_enumerate (ae 1)) (jk rfl (aD 4 hN (aD 5 hN cS))) (ay (bg 6 (cT (aY k__law_ships hr (af (ae 0) (af (ae 5) au)))) hN) (ay (mN 7 (mG (Nc:=["ship","rule"]) (own:=["ship"]) (caps:=[2]) (cE 0) rfl (bL (ae 6)) rfl rfl (λ_ _ _ _ _ _=>have hN:=(by decide +kernel:List.Nodup (["ship","rule"]:W1));(bF (λ_ _ z=>z) (aU 0 hN) cF (LX (aY k__law_halo hr (af (ae 1) (af (ae 0) au))))))) hN) (ay (mN 8 (mG (Nc:=["ship"]) (own:=["ship"]) (caps:=[]) (cE 0) rfl (bL (ae 6)) rfl rfl (λ_ _ _ _ _ _=>have hN:=(by decide +kernel:List.Nodup (["ship"]:W1));(bF (λ_ _ z=>z) (aU 0 hN) cF (cT (aY cJ hr (af (ae 0) au)))))) hN) (ay (iG 9 (bX au) hN) (ay (cA Ss rfl (bL (ae 3)) (jk rfl (aD 10 hN (aD 11 hN cS))) (aF (cA Ss rfl (cj T.z_range (gE T.z_len (ae 6))) (aU 12 hN) (ay (bg 13 (LF (Fu hr (ae 4) ag) (LF (O7 hr (bf (ae 1) (kO (ae 4) ag)) (ae 5)) (LU (LS hr (bf (ae 10) (jn ag)) (bf (ae 6) (ae 12)))))) hN) (aF (fO (K2 (w_and (GU (ae 13)) (vP (GU (aY k__law_free hr (af (ae 11) (af (bf (ae 8) (ae 12)) au))))))) (aF (mV 9 (aX (af (Af (ae 10) (aX (af (bf (ae 6) (ae 12)) au))) (af (cT (nA (ae 11) (bX (af (bf (ae 7) (ae 12)) au)))) au))))) cG)))))) (xu 9 (aF (bg 3 (ae 9) hN))))))))) (aF (bA (gx (Nc:=["hiding","halo"]) (own:=["hiding","halo"]) (caps:=[]) (vg [0,1]) rfl (bL (ae 3)) rfl rfl (λ_ _ _ _ _ _=>have hN:=(by decide +kernel:List.Nodup (["hiding","halo"]:W1));(bF (λ_ _ z=>z) (jk rfl (aD 0 hN (aD 1 hN cS))) cF (ae 0))))))))
theorem mR(h:W.At "_law_played" st__law_played)(T:Tx W)(k__law_game:kJ W)(nR:nv W):iC W:=nX ["cell","sheet","fleet","rule","rows"] 1 h λ_ _ _ _ _ _ _ hr hN=>(ay (Gc rfl (aY k__law_game hr (af (ae 0) au)) (aD 1 hN (aD 2 hN (aD 3 hN cS)))) (ay (bg 4 (cT (aY nR hr (af (ae 1) (af (ae 2) (af (ae 3) au))))) hN) (ay (fO (tU hr (ae 4) (bX au)) (ay (bg 2 (aX (af ag au)) hN) (aF (bg 4 (cT (aY nR hr (af (ae 1) (af (ae 2) (af (ae 3) au))))) hN))) cG) (aF (bA (aX (af (ae 1) (af (ae 2) (af (ae 3) (af (ae 4) au))))))))))
theorem sd(h:W.At "cells_of" st_cells_of)(T:Tx W):l7 W:=nX ["ship","row","column","way","length"] 1 h λ_ _ _ _ _ _ _ hr hN=>(ay (Gc rfl (ae 0) (aD 1 hN (aD 2 hN (aD 3 hN (aD 4 hN cS))))) (ay (fO (tU hr (ae 3) bt) (aF (bA (gx (Nc:=["step","row","column"]) (own:=["step"]) (caps:=[1,2]) (cE 0) rfl (cj T.z_range (ae 4)) rfl rfl (λ_ _ _ _ _ _=>have hN:=(by decide +kernel:List.Nodup (["step","row","column"]:W1));(bF (λ_ _ z=>z) (aU 0 hN) cF (aX (af (a8 (ae 1) (ae 0)) (af (ae 2) au)))))))) cG) (aF (bA (gx (Nc:=["step","row","column"]) (own:=["step"]) (caps:=[1,2]) (cE 0) rfl (cj T.z_range (ae 4)) rfl rfl (λ_ _ _ _ _ _=>have hN:=(by decide +kernel:List.Nodup (["step","row","column"]:W1));(bF (λ_ _ z=>z) (aU 0 hN) cF (aX (af (ae 1) (af (a8 (ae 2) (ae 0)) au))))))))))
theorem mz(h:W.At "lying_cells" st_lying_cells)(T:Tx W)(k_cells_of:l7 W):iu W:=nX ["hiding"] 1 h λ_ _ _ _ _ _ _ hr hN=>(aF (bA (cT (xD T.z_sorted (gx (Nc:=["ship","cell"]) (own:=["ship","cell"]) (caps:=[]) (cE 0) rfl (G6 (ae 0)) rfl rfl (λ_ _ _ _ _ _=>have hN:=(by decide +kernel:List.Nodup (["ship","cell"]:W1));(sN (λ_ _ z=>z) rfl (aU 0 hN) cF (bL (cT (aY k_cells_of hr (af (ae 0) au)))) (cE 1) (bF (λ_ _ z=>z) (aU 1 hN) cF (ae 1)))))))))
theorem mH(h:W.At "alike_pairs" st_alike_pairs)(T:Tx W):iB W:=nX ["bodies","pairs"] 1 h λ_ _ _ _ _ _ _ hr hN=>(ay (mN 1 (mG (Nc:=["other","one"]) (own:=["other","one"]) (caps:=[]) (cE 0) rfl (cj T.z_range (gE T.z_len (ae 0))) rfl rfl (λ_ _ _ _ _ _=>have hN:=(by decide +kernel:List.Nodup (["other","one"]:W1));(sN (λ_ _ z=>z) rfl (aU 0 hN) cF (cj T.z_range (ae 0)) (cE 1) (bF (λ_ _ z=>z) (aU 1 hN) cF (aX (af (ae 1) (af (ae 0) au))))))) hN) (aF (bA (cT (xD T.z_sorted (gx (Nc:=["one","other","bodies"]) (own:=["one","other"]) (caps:=[0]) (vg [0,1]) rfl (bL (ae 1)) rfl rfl (λ_ _ _ _ _ _=>have hN:=(by decide +kernel:List.Nodup (["one","other","bodies"]:W1));(bF (λ_ _ z=>z) (jk rfl (aD 0 hN (aD 1 hN cS))) (uz (λ_ _ z=>z) (tU hr (bf (ae 2) (ae 0)) (bf (ae 2) (ae 1)))) (aX (af (ae 0) (af (ae 1) au)))))))))))
theorem k9(h:W.At "cells_by_lot" st_cells_by_lot)(T:Tx W):gD W:=nX ["bodies","cells","cell"] 1 h λ_ _ _ _ _ _ _ hr hN=>(ay (Hv 1 T.hw hN) (ay (cA Ss rfl (bL (cT (Ea (Nc:=["body","part"]) (own:=["body","part"]) (caps:=[]) T.z_sorted (cE 0) rfl (bL (ae 0)) rfl rfl (λ_ _ _ _ _ _=>have hN:=(by decide +kernel:List.Nodup (["body","part"]:W1));(yv (λ_ _ z=>z) rfl (aU 0 hN) cF (bL (ae 0)) (cE 1) (zi (Cn hr) (λ_ _ z=>z) (aU 1 hN) cF (ae 1))))))) (aU 2 hN) (aF (JB 1 T.hw (LV T.z_sum rfl (gx (Nc:=["number","body","cell"]) (own:=["number","body"]) (caps:=[2]) (vg [0,1]) rfl (uM T.z_enumerate (ae 0)) rfl rfl (λ_ _ _ _ _ _=>have hN:=(by decide +kernel:List.Nodup (["number","body","cell"]:W1));(bF (λ_ _ z=>z) (jk rfl (aD 0 hN (aD 1 hN cS))) (uz (λ_ _ z=>z) (OR hr (ae 2) (ae 1))) (xP ag (ae 0)))))) (ae 2)))) (xu 1 (aF (bA (ae 1))))))
theorem k6(h:W.At "depth_behind" st_depth_behind)(T:Tx W):dR W:=nX ["shown","lot","depths"] 3 h λ_ _ _ _ _ _ _ hr hN=>(aF (bA (AV T.z_max rfl (bf (ae 2) (j6 (ae 1) (ae 0))) (bf (ae 2) (kO (ae 1) (j6 (ae 1) (ae 0)))))))
theorem n9{c P:Xh}(h:W.AtC "best_shown" st_best_shown c)(lm:Lam W "best_shown" c P)(T:Tx W)(ej:dR W):fE W:=Pd ["lot","cells","depths","parting"] 3 h λ_ _ _ _ _ _ hr hN=>(ay (mN 3 (mG (Nc:=["shown","lot"]) (own:=["shown"]) (caps:=[0]) (cE 0) rfl (IZ T.hw (ae 1)) rfl rfl (λ_ _ _ _ _ _=>have hN:=(by decide +kernel:List.Nodup (["shown","lot"]:W1));(bF (λ_ _ z=>z) (aU 0 hN) (uz (λ_ _ z=>z) (wu AW AW HF HF ag (j6 (ae 1) (ae 0)) (ae 1))) (ae 0)))) hN) (aF (bA (H9 (k:=1) (Nc:=["shown","lot","depths"]) (caps:=[0,2]) (hr.mono (by decide)) T.z_min rfl lm.t rfl lm.c (ae 3) rfl rfl rfl (λ_ _ _ _ _ hr=>(aY ej hr (af (ae 0) (af (ae 1) (af (ae 2) au)))))))))
theorem lh(h:W.At "least_depths" st_least_depths)(T:Tx W)(ej:dR W)(fW:fE W):gH W:=nX ["cells","many","depths","lot"] 2 h λ_ _ _ _ _ _ _ hr hN=>(ay (iG 2 (JP (bX (af ag au)) (xP ag (ae 1))) hN) (ay (cA Ss rfl (cj T.z_range (xP ag (ae 1))) (aU 3 hN) (aF (fO (IT (j6 (ae 3) (kO (ae 3) ag))) (aF (Ec 2 (Jr 2 (a8 ag (aY ej hr (af (aY fW hr (af (ae 3) (af (ae 0) (af (ae 2) au)))) (af (ae 3) (af (ae 2) au)))))) (ae 3))) cG))) (xu 2 (aF (bA (ae 2))))))
theorem sO(h:W.At "plan_for" st_plan_for)(T:Tx W)(fW:fE W):mE W:=RW (k:=4) (m:=bu) (fb:=λi=>fL (bu i)) ["lot","cells","depths","shown","without"] 3 64 h rfl (λ_=>rfl) λi K_plan_for _ _ _ _ _ _ _ hr hN=>(ay (fO (tU hr (bf (ae 2) (ae 0)) ag) (aF (bA (aX (af bt (af (kO (Jg (ae 0)) ag) au))))) cG) (ay (bg 3 (aY fW hr (af (ae 0) (af (ae 1) (af (ae 2) au)))) hN) (ay (bg 4 (uN K_plan_for hr (af (kO (ae 0) (j6 (ae 0) (ae 3))) (af (ae 1) (af (ae 2) au)))) hN) (aF (bA (aX (af bt (af (JN T.hw (ae 1) (ae 3)) (af (ae 4) (af (uN K_plan_for hr (af (j6 (ae 0) (ae 3)) (af (ae 1) (af (ae 2) au)))) au))))))))))
theorem ot(h:W.At "least_plan" st_least_plan)(T:Tx W)(xc_TooMany:W.X "TooMany")(k_lying_cells:iu W)(k_alike_pairs:iB W)(k_cells_by_lot:gD W)(k_least_depths:gH W)(k_plan_for:mE W):jf W:=by
 obtain⟨v_MOST_PLANNED,u_MOST_PLANNED,g_MOST_PLANNED,rv_MOST_PLANNED,r_MOST_PLANNED⟩:=T.e_MOST_PLANNED;exact RY ["hidings","bodies","alike","cells","depths"] 1 h λ_ _ _ _ _ _ _ hr hN=>(jZ (PC (Ly (wu Bt Bt I9 I9 ag (gE T.z_len (ae 0)) (Jz g_MOST_PLANNED rv_MOST_PLANNED r_MOST_PLANNED))) (CH (BX xc_TooMany (hr.mono (by decide)) (af bt au))) (LI cG)) (jZ (sY (mN 1 (mG (Nc:=["hiding"]) (own:=["hiding"]) (caps:=[]) (cE 0) rfl (bL (ae 0)) rfl rfl (λ_ _ _ _ _ _=>have hN:=(by decide +kernel:List.Nodup (["hiding"]:W1));(bF (λ_ _ z=>z) (aU 0 hN) cF (aY k_lying_cells hr (af (ae 0) au))))) hN)) (jZ (sY (bg 2 (aY k_alike_pairs hr (af (ae 1) au)) hN)) (jZ (sY (fO (Nh (ae 2)) (aF (bA (Af (aX (af bt au)) (bf (ae 2) ag)))) cG)) (jZ (sY (bg 3 (aY k_cells_by_lot hr (af (ae 1) au)) hN)) (jZ (sY (bg 4 (aY k_least_depths hr (af (ae 3) (af (gE T.z_len (ae 1)) au))) hN)) (CH (sY (bA (aX (af bt (af (bf (ae 4) (jn ag)) (af (aY k_plan_for hr (af (kO (gE T.z_len (ae 4)) ag) (af (ae 3) (af (ae 4) au)))) au)))))))))))))
theorem qB(h:W.At "_law_told" st__law_told)(T:Tx W)(tx:QC W.P W.w W.K W.mg W.base cs_)(k_least_plan:jf W):kQ W:=PU ["picked","found","e"] 1 h λ_ _ _ _ _ _ _ hr hN=>(xg (G1 (sY (bg 1 Ng hN))) (xg (FD 2 1 tx hr (by decide) ⟨rfl,rfl,rfl⟩ hN (by decide) (λ_=>(CH (Mx 1 (Ek (k_least_plan _ (h_ _)) hr (Mz (af (ae 0) au))) hN)))) (Ip (G1 (sY (bA (ae 1)))))))
theorem qc(h:W.At "_law_only" st__law_only)(T:Tx W):kM W:=nX ["word","words"] 1 h λ_ _ _ _ _ _ _ hr hN=>(ay (bg 1 (cT (bX (af bt (af bt (af bt (af bt (af bt (af bt (af bt (af bt (af bt (af bt au)))))))))))) hN) (aF (bA (nA (gx (Nc:=["one","word"]) (own:=["one"]) (caps:=[0]) (cE 0) rfl (bL (ae 1)) rfl rfl (λ_ _ _ _ _ _=>have hN:=(by decide +kernel:List.Nodup (["one","word"]:W1));(bF (λ_ _ z=>z) (aU 0 hN) cF (Fu hr (ae 0) (ae 1))))) (bX (af lZ au))))))
theorem mW(h:W.At "_law_ground" st__law_ground)(T:Tx W)(cJ:dG W):iw W:=nX ["hiding","found","ship","cell"] 1 h λ_ _ _ _ _ _ _ hr hN=>(ay (Bl 1 (AC T.hw) hN) (ay (cA Ss rfl (G6 (ae 0)) (aU 2 hN) (aF (cA Ss rfl (bL (cT (aY cJ hr (af (ae 2) au)))) (aU 3 hN) (aF (CC 1 T.hw hr lZ (ae 3)))))) (aF (B9 1))))
theorem mL(h:W.At "_law_unlike" st__law_unlike)(T:Tx W)(k__law_ground:iw W):ij W:=nX ["rows","found","hiding"] 1 h λ_ _ _ _ _ _ _ hr hN=>(ay (J5 1 hN) (ay (cA Ss rfl (bL (ae 0)) (aU 2 hN) (aF (JK 1 hr (wR T.z_tuple (Fc (th:=Th.h) T.z_sorted rfl (aY k__law_ground hr (af (ae 2) au)))) (ae 2)))) (xu 1 (aF (bA (gx (Nc:=["key","found"]) (own:=["key"]) (caps:=[1]) (cE 0) rfl (EU (ae 1)) rfl rfl (λ_ _ _ _ _ _=>have hN:=(by decide +kernel:List.Nodup (["key","found"]:W1));(bF (λ_ _ z=>z) (aU 0 hN) cF (HJ hr (ae 1) (ae 0))))))))))
theorem oy(h:W.At "_law_order" st__law_order)(T:Tx W)(bQ:eD W):fR W:=nX ["cell","things","found","k","thing"] 2 h λ_ _ _ _ _ _ _ hr hN=>(ay (iG 2 (bX au) hN) (ay (cA Ss rfl (uM T.z_enumerate (ae 1)) (jk rfl (aD 3 hN (aD 4 hN cS))) (aF (Nl 2 (bV (aY bQ hr (af (ae 0) (af (a8 (o8 ag (ae 3)) ag) au))) (a8 (ae 3) ag)) (ae 4)))) (aF (rC 2))))
theorem gP(h:W.At "_law_some_hidings" st__law_some_hidings)(T:Tx W)(bQ:eD W)(fX:fR W):dD W:=nX ["cell","rows","most","many","step"] 3 h λ_ _ _ _ _ _ _ hr hN=>(ay (bg 3 (a8 ag (bV (aY bQ hr (af (ae 0) (af ag au))) (ae 2))) hN) (ay (bg 4 (a8 ag (bV (aY bQ hr (af (ae 0) (af ag au))) (AV T.z_max rfl ag (qf (gE T.z_len (ae 1)) (ae 3))))) hN) (aF (bA (cT (aY fX hr (af (ae 0) (af (cT (xo (Pl (ae 1) (kB (bV (aY bQ hr (af (ae 0) (af ag au))) (AV T.z_max rfl ag (qf (gE T.z_len (ae 1)) ag)))) ni (kB (ae 4))) ni (kB (ae 3)))) au))))))))
theorem Kc{f:Xh}{fd:Xf}(F:xU W.K "law" "law" st_law f fd)(T:Tx W)(k__law_played:iC W)(eG:kQ W)(kZ:kM W)(k__law_unlike:ij W)(k__law_some_hidings:dD W)(fX:fR W):dh W.P W.w W.K W.mg W.base ko 71 f fd ["script"] (CD W.K 1 .cl m_law):=R7 ["script","cell","sheet","fleet","rule","rows","some","depths","many","found","k","other"] 1 F λ_ _ _ _ _ _ _ hr hN=>(ay (cA Ss rfl (bL (cT (nA (bX (af ag au)) (xo (ae 0) ni (kB ag))))) (aU 1 hN) (ay (Gc rfl (aY k__law_played hr (af (ae 1) au)) (aD 2 hN (aD 3 hN (aD 4 hN (aD 5 hN cS))))) (ay (fO (zo hr (aY eG hr (af (cT (bX au)) au)) (aY kZ hr (af bt au))) (aF (bA lZ)) cG) (ay (fO (K2 (w_and (Mv (gE T.z_len (ae 5)) ag) (vP (zo hr (aY eG hr (af (cT (xo (ae 5) ni (kB ag))) au)) (aY kZ hr (af bt au)))))) (aF (bA lZ)) cG) (ay (bg 6 (cT (aY k__law_unlike hr (af (aY k__law_some_hidings hr (af (ae 1) (af (ae 5) (af ag au)))) au))) hN) (ay (iG 7 (bX au) hN) (ay (cA Ss rfl (sG T.z_range ag (a8 (gE T.z_len (ae 6)) ag)) (aU 8 hN) (ay (bg 9 (aY eG hr (af (cT (xo (ae 6) ni (kB (ae 8)))) au)) hN) (ay (fO (K2 (w_or (zo hr (bf (ae 9) ag) bt) (AA (MQ (xP ag (bf (ae 9) ag)) (ae 8))))) (aF (bA lZ)) cG) (aF (mV 7 (bf (ae 9) ag)))))) (ay (cA Ss rfl (sG T.z_range ag (gE T.z_len (E6 7))) (aU 10 hN) (aF (fO (Ln hr (kO (bf (E6 7) (ae 10)) (bf (E6 7) (kO (ae 10) ag))) (aX (af ag (af ag au)))) (aF (bA lZ)) cG))) (ay (bg 11 (aY eG hr (af (cT (aY fX hr (af (a8 (ae 1) ag) (af (ae 6) au)))) au)) hN) (aF (fO (K2 (w_or (zo hr (bf (ae 11) ag) bt) (AA (zo hr (bf (ae 11) ag) (bf (E6 7) (jn ag)))))) (aF (bA lZ)) cG))))))))))) (aF (bA lZ)))
end
section
variable {P:Xa}{w:Xe}{K:Fg}{mg:WU}{base:Xd}
def qP:Xj:=gt 1
def bB:Xj:=(Pf qP).getD 0 (.Pass ⟨0,0,0,0⟩)
def eI:Xj:=gt 27
theorem EI:bC ["self","words","cell"] ["self","words","cell"] (ax bB):=⟨rfl,rfl,rfl,by decide +kernel,rfl,by decide +kernel,by decide +kernel⟩
theorem ET{f HE:Xh}{oc kV dV doc pm bq ct:W9}{od an:W0}{pV:WT}(lk:K.lookup f=some ⟨oc,od,.func (PySem.W.fnOf "__init__" "HideError.__init__" (bS bB) (aT bB) (ax bB) dV kV doc pm an bq ct),pV⟩)(dO:PySem.W.codeIn K bq "HideError.__init__"=true)(hv:mg "ValueError"=none) :
  dh P w K mg base ko 1 f (PySem.W.fnOf "__init__" "HideError.__init__" (bS bB) (aT bB) (ax bB) dV kV doc pm an bq ct) ["self","words","cell"] (M6 K HE f):=by
 refine wF lk dO EI (λvs H Q E ⟨e,C,wd,cv,h,_⟩=>by rw[h];rfl) λA outer s H vs Q E hr ⟨e,C,wd,cv,h,ec,hx,q⟩=>?_;subst h;refine⟨_,gK (jE (AB hv (aJ (bH (i:=0) rfl (.inl rfl) (by decide) (by decide)) (aJ (bH (i:=1) rfl (.inl rfl) (by decide) (by decide)) bN rfl) rfl) rfl rfl rfl rfl) rfl) (jo (FW (bH (i:=0) rfl (.inl rfl) (by decide) (by decide)) (bH (i:=2) rfl (.inl rfl) (by decide) (by decide)) rfl)),?_⟩;exact⟨.ref e,rfl,wd,rfl,e,wd,C,HE,f,rfl,hx,ec,cv,rfl,.ref e,rfl,e,C,HE,f,rfl,hx,ec,λdx h1 h2=>q dx h1 h2⟩
theorem DC{dV kV doc pm bq ct:W9}{an od:W0}{dT:Xh}{n:Nat}{t0:Tok}{sl:WT}(hd:dV=.ref dT)(ld:K.lookup dT=some ⟨.type "tuple",od,.seq #[.str "" t0,.none] n,sl⟩):Binds K (PySem.W.fnOf "__init__" "HideError.__init__" (bS bB) (aT bB) (ax bB) dV kV doc pm an bq ct) ["self","words","cell"] [.none]:=by
 subst hd;intro s us X hl;have De:us.length=2:=by simpa using hl
 match us,De with
 | [a,b],_=>exact BindsTo.of_defaults (T:=dT) (items:=#[.str "" t0,.none]) (n:=n) rfl (X _ _ ld) rfl rfl rfl
theorem FI{dV kV doc pm bq ct:W9}{an od:W0}{dT:Xh}{n:Nat}{t0:Tok}{sl:WT}(hd:dV=.ref dT)(ld:K.lookup dT=some ⟨.type "tuple",od,.seq #[.str "" t0,.none] n,sl⟩):Binds K (PySem.W.fnOf "__init__" "HideError.__init__" (bS bB) (aT bB) (ax bB) dV kV doc pm an bq ct) ["self","words","cell"] []:=by
 subst hd;intro s us X hl;have De:us.length=3:=by simpa using hl
 match us,De with
 | [a,b,c],_=>first | exact BindsTo.of_eq rfl | exact BindsTo.of_defaults (T:=dT) (items:=#[.str "" t0,.none]) (n:=n) rfl (X _ _ ld) rfl rfl rfl
theorem sW:bC ["e","flags"] ["e"] (ax eI):=⟨rfl,rfl,rfl,by decide +kernel,rfl,by decide +kernel,by decide +kernel⟩
theorem zV{f HE:Xh}{fd:Xf}(F:xU K "_law_flags" "_law_flags" eI f fd)(hi:mg "isinstance"=none)(hv:mg "ValueError"=none){D1 D2 D3 D4 D5 D6 D7 D8 D9 D10:Xh}(m1:mg "NoHiding"=some (.ref D1))(m2:mg "NoNumber"=some (.ref D2))(m3:mg "TooMany"=some (.ref D3))(m4:mg "NoCell"=some (.ref D4))(m5:mg "NoShot"=some (.ref D5))(m6:mg "NothingLeft"=some (.ref D6))(m7:mg "NoCounts"=some (.ref D7))(m8:mg "Over"=some (.ref D8))(m9:mg "NoText"=some (.ref D9))(OD:mg "NoRow"=some (.ref D10)) :
  NZ P w K mg base 1 f fd ["e"] (N' K mg HE):=by
 obtain⟨oc,od,kV,doc,pm,an,bq,ct,pV,rfl,lk,dO⟩:=F.ex;refine JW lk dO sW (λvs H Q E ⟨v,C,c,h,_⟩=>by rw[h];rfl) λA outer s H vs Q lT=>?_;have hN:=sW.nd;have cat:∀{X:Cx},gw X (binaryOp .Add) rCat:=HR;refine⟨_,gK (fK hN (i:=1) rfl (.inl rfl) (rh (aJ (eH (i:=0) hi m1) (aJ (eH (i:=0) hi m2) (aJ (eH (i:=0) hi m3) (aJ (eH (i:=0) hi m4) bN rfl) rfl) rfl) rfl)) rfl (.inr rfl)) (gK (fK hN (i:=1) rfl (.inl rfl) (wO cat (bH (i:=1) rfl (.inl rfl) (by decide) (by decide)) (rh (aJ (eH (i:=0) hi m5) (aJ (eH (i:=0) hi m6) (aJ (eH (i:=0) hi m7) (aJ (eH (i:=0) hi m8) bN rfl) rfl) rfl) rfl))) rfl (.inr rfl)) (jo (q8 (wO cat (bH (i:=1) rfl (.inl rfl) (by decide) (by decide)) (rh (aJ (eH (i:=0) hi m9) (aJ (eH (i:=0) hi OD) (aJ (Jh (i:=0) hi hv) bN rfl) rfl) rfl)))))),?_⟩;exact vG m1 m2 m3 m4 m5 m6 m7 m8 m9 OD lT
end
end K31
namespace K31
open PySem PySem.Spec PyProof.Rows L2 Mi Xc
open PySem.W (nsIn findIn keepIn codeIn mg_of mg_none_of)
theorem all_mk{l:PySem.W.OpenLaw}{w:Xe}{K:W8}{h:Xd}{mg:WU}{fa:Xh}(X:K.In h)(G:h.Ns mainGlobals mg)(hfa:mg "law"=some (.ref fa))
  {f0 f1 f2 f3 f4 f5 f6 f7 f8 f9 f10 f11 f12 f13 f14 f15 f16 f17 f18 f19 f20 f21 f22 f23 f24 RS:Xh}
  (h0:hJ K "_law_stir" st__law_stir f0)
  (h1:hJ K "_law_drawn" st__law_drawn f1)
  (h2:hJ K "_law_game" st__law_game f2)
  (h3:hJ K "_law_ships" st__law_ships f3)
  (h4:hJ K "_law_cells" st__law_cells f4)
  (h5:hJ K "_law_halo" st__law_halo f5)
  (h6:hJ K "_law_free" st__law_free f6)
  (h7:hJ K "_law_all" st__law_all f7)
  (h8:hJ K "_law_played" st__law_played f8)
  (h9:hJ K "cells_of" st_cells_of f9)
  (ON:hJ K "lying_cells" st_lying_cells f10)
  (QJ:hJ K "alike_pairs" st_alike_pairs f11)
  (QK:hJ K "cells_by_lot" st_cells_by_lot f12)
  (QL:hJ K "depth_behind" st_depth_behind f13)
  (RT:hJ K "best_shown" st_best_shown f14)
  (QM:hJ K "least_depths" st_least_depths f15)
  (QN:hJ K "plan_for" st_plan_for f16)
  (QO:hJ K "least_plan" st_least_plan f17)
  (QP:hJ K "_law_told" st__law_told f18)
  (QQ:hJ K "_law_only" st__law_only f19)
  (QR:hJ K "_law_ground" st__law_ground f20)
  (QS:hJ K "_law_unlike" st__law_unlike f21)
  (QU:hJ K "_law_order" st__law_order f22)
  (QV:hJ K "_law_some_hidings" st__law_some_hidings f23)
  (QW:hJ K "law" st_law f24)
  (RU:hJ K "_law_flags" eI RS)
  (z_ValueError:nsIn K mainGlobals "ValueError"=some none)
  (z_enumerate:nsIn K mainGlobals "enumerate"=some none)
  (z_int:nsIn K mainGlobals "int"=some none)
  (z_isinstance:nsIn K mainGlobals "isinstance"=some none)
  (z_len:nsIn K mainGlobals "len"=some none)
  (z_max:nsIn K mainGlobals "max"=some none)
  (z_min:nsIn K mainGlobals "min"=some none)
  (z_range:nsIn K mainGlobals "range"=some none)
  (z_sorted:nsIn K mainGlobals "sorted"=some none)
  (z_sum:nsIn K mainGlobals "sum"=some none)
  (z_tuple:nsIn K mainGlobals "tuple"=some none)
  {N7 N8:Xh} (GC:PySem.W.tabIn K "best_shown"=some (N7,N8)) (KM:PySem.W.codeHdIn K N7 N8=true)
  (KN:PySem.W.tabIn K "best_in"=none)
  {t_MOST_PLANNED:Tok} (a_MOST_PLANNED:nsIn K mainGlobals "MOST_PLANNED"=some (some (.int 10 t_MOST_PLANNED)))
  {fI dT:Xh} {cH c0 c1 c2 c3 c4 c5 c6 c7 c8 c9:Nat} (xH:AtC K "HideError" cH bmV)
  (x0:AtC K "NoHiding" c0 (.ref cH::bmV))
  (x1:AtC K "NoNumber" c1 (.ref cH::bmV))
  (x2:AtC K "TooMany" c2 (.ref cH::bmV))
  (x3:AtC K "NoCell" c3 (.ref cH::bmV))
  (x4:AtC K "NoShot" c4 (.ref cH::bmV))
  (x5:AtC K "NothingLeft" c5 (.ref cH::bmV))
  (x6:AtC K "NoCounts" c6 (.ref cH::bmV))
  (x7:AtC K "Over" c7 (.ref cH::bmV))
  (x8:AtC K "NoText" c8 (.ref cH::bmV))
  (x9:AtC K "NoRow" c9 (.ref cH::bmV))
  (r2:Q8 K c2 fI)
  {kV_i dc_i pm_i cd_i ct_i:W9} {od_i an_i odT:W0} {sl_i slT:WT} {nT:Nat} {tT:Tok} (lU:K.lookup fI=some ⟨.type "function",od_i,.func (PySem.W.fnOf "__init__" "HideError.__init__" (bS bB) (aT bB) (ax bB) (.ref dT) kV_i dc_i pm_i an_i cd_i ct_i),sl_i⟩) (rH:codeIn K cd_i "HideError.__init__"=true) (ya:K.lookup dT=some ⟨.type "tuple",odT,.seq #[.str "" tT,.none] nT,slT⟩)
  (lt:[cH,c0,c1,c2,c3,c4,c5,c6,c7,c8,c9].Pairwise (@LT.lt Nat _))
  : ∃fd:Xf,(∀(s:W_)(v:W9),BindsTo s fd ⟨[v],[]⟩ [("script",v)])/\∀base:Xd,K.In base->base.Ns mainGlobals mg->dh l.prog w K mg base ko 71 fa fd ["script"] (CD K 1 .cl (@m_law ⟨hashStr w⟩)):=by
 letI:Th:=⟨hashStr w⟩;obtain⟨oc,kV,dc,pm,cd,ct,od,an,sl,aL,lL,cL,kL⟩:=QW;have e:=hfa.symm.trans (mg_of X G aL);cases e;refine⟨PySem.W.fnOf "law" "law" (bS st_law) (aT st_law) (ax st_law) .none kV dc pm an cd ct,λs v=>.of_eq rfl,λbase _ _=>?_⟩
 let W:Wd:=⟨l.prog,w,K,mg,base⟩
 have a {x st f} (A:hJ K x st f):W.At x st:=A.at X G;have T:Tx W:=⟨TN X G z_ValueError,TN X G z_enumerate,TN X G z_int,TN X G z_isinstance,TN X G z_len,TN X G z_max,TN X G z_min,TN X G z_range,TN X G z_sorted,TN X G z_sum,TN X G z_tuple,⟨(.int 10),_,mg_of X G a_MOST_PLANNED,⟨_,rfl⟩,λ_=>rfl⟩,rfl⟩;have OI:dh l.prog w K mg base ko 1 fI _ _ (M6 K cH fI):=ET lU rH (TN X G z_ValueError);have e2:=x2.ec r2 lU;have XC_TooMany:XC l.prog w K mg base 1 "TooMany":=⟨c2,cH,fI,_,x2.g X G,e2,OI,DC rfl ya,FI rfl ya⟩;have OT:=IR (L:=[("NoHiding",c0),("NoNumber",c1),("TooMany",c2),("NoCell",c3),("NoShot",c4),("NothingLeft",c5),("NoCounts",c6),("Over",c7),("NoText",c8),("NoRow",c9)]) X G (cZ x0 (cZ x1 (cZ x2 (cZ x3 (cZ x4 (cZ x5 (cZ x6 (cZ x7 (cZ x8 (cZ x9 Kf)))))))))) lt LR;have CL2:Gy K mg cH "TooMany" c2:=JA e2 r2.2.2.2.2.1 r2.2.2.2.2.2.1 r2.2.2.2.2.2.2 (OT ("TooMany",c2) (.tail _ (.tail _ (.head _))));obtain⟨_,F25,k25,g25⟩:=RU.fn X G;have b25:=F25.binds (ps:=["e"]) λ_ _ _ _ _ _=>KU λ_=>rfl;have TX:QC l.prog w K mg base cs_:=by
  have GH:=xH.g X G;obtain⟨_,_,_,_,_,_,_,_,_,_,_,_,_,_,_,lH⟩:=xH;exact⟨cH,_,_,_,_,_,_,_,_,_,_,_,_,_,_,RS,_,GH,lH,(Fw (x2.g X G) CL2 Ke),zV F25 (TN X G z_isinstance) (TN X G z_ValueError) (x0.g X G) (x1.g X G) (x2.g X G) (x3.g X G) (x4.g X G) (x5.g X G) (x6.g X G) (x7.g X G) (x8.g X G) (x9.g X G),g25,k25,b25⟩
 have C0:=qA (a h0) T;have C1:=nW (a h1) T C0;have C2:=qN (a h2) T C1;have C3:=nY (a h3) T;have C4:=n5 (a h4) T;have C5:=qz (a h5) T C4;have C6:=rj (a h6) T;have C7:=rV (a h7) T C3 C5 C4 C6;have C8:=mR (a h8) T C2 C7;have C9:=sd (a h9) T;have C10:=mz (a ON) T C9;have C11:=mH (a QJ) T;have C12:=k9 (a QK) T;have C13:=k6 (a QL) T;have C14:=n9 (W:=W) (RT.atC X G GC) ⟨Se KN GC,KM⟩ T C13;have C15:=lh (a QM) T C13 C14;have C16:=sO (a QN) T C14;have C17:=ot (a QO) T XC_TooMany C10 C11 C12 C15 C16;have C18:=qB (a QP) T TX C17;have C19:=qc (a QQ) T;have C20:=mW (a QR) T C4;have C21:=mL (a QS) T C20;have C22:=oy (a QU) T C0;have C23:=gP (a QV) T C0 C22;exact Kc (W:=W) (Cy (st:=st_law) lL cL kL) T C8 C18 C19 C21 C23 C22
theorem An{l:PySem.W.OpenLaw}{q:Xa}{loose:W1}{XP:WU->Xd->Prop}{YP:Xe->Xd->Prop}{d:DefRec}{K:Params->W8}(hn:l.most=some 63)(ND:d.params.defaults=[])
  (hY:∀(w:Xe)(h:Xd),YP w h->(K w.params).In h) (hL:∀(w:Xe)(h:Xd),YP w h->∀P qq,tq (K w.params) P=some qq->(∃c,PySem.W.CodeHd h c P)/\h.get? P=some (PySem.W.tabObj #[])/\(K w.params).lookup P=none)
  (F:∀(w:Xe)(mg:WU)(fa:Xh)(h:Xd),(K w.params).In h->h.Ns mainGlobals mg->mg d.name=some (.ref fa)->
   ∃fd:Xf,(∀(s:W_)(u:W9),BindsTo s fd ⟨[u],[]⟩ [("script",u)])/\∀base:Xd,(K w.params).In base->base.Ns mainGlobals mg->dh l.prog w (K w.params) mg base ko 71 fa fd ["script"] (CD (K w.params) 1 .cl (@m_law ⟨hashStr w⟩))) :
  PySem.W.WalkO q loose XP YP l.row.toRowW d [] (λf vs=>PySem.call f vs):=
 L2.BC (n:=63) (k:=71) (x:="script") (CX:=λ_=>ko) (sp:=λw=>CD (K w.params) 1 .cl (@m_law ⟨hashStr w⟩)) hn (by decide) ND ⟨rfl,by decide,by decide⟩ hY hL F
  (λw H a ns hl _ hS=>⟨H,[.lst (ns.map .int)],.bl true,rfl,λ_ _ z=>z,⟨_,_,rfl,⟨a,_,rfl,hS,ak.ints ns⟩,rfl⟩,@law_true ⟨hashStr w⟩ ns hl,λv Z' H' _ g=>g⟩) λ_ _ _ _ _ z=>z
end K31
namespace PySem.W.Fast
theorem tw8061633621959413089:True:=⟨⟩
theorem tw18213463841878178139:True:=⟨⟩
theorem tw5670885109027729954:True:=⟨⟩
theorem tw16792983403167188369:True:=⟨⟩
theorem tw13557949963571626831:True:=⟨⟩
theorem tw4730488334276429643:True:=⟨⟩
theorem tw1053061356165476447:True:=⟨⟩
theorem tw15834858160414967659:True:=⟨⟩
theorem tw11698943867821385503:True:=⟨⟩
theorem tw10794172317639904908:True:=⟨⟩
theorem tw10537351238111495848:True:=⟨⟩
theorem tw9301290275302239465:True:=⟨⟩
theorem tw10643450768888729261:True:=⟨⟩
theorem tw18185490623684133664:True:=⟨⟩
theorem tw15257897472616637350:True:=⟨⟩
theorem tw17377408637309763743:True:=⟨⟩
theorem tw14426872854231893182:True:=⟨⟩
theorem tw729946334597650158:True:=⟨⟩
theorem tw3058284039634777162:True:=⟨⟩
theorem tw16469997827757853754:True:=⟨⟩
theorem tw5357006802954869451:True:=⟨⟩
theorem tw6424303409817484136:True:=⟨⟩
theorem tw7269381079693629494:True:=⟨⟩
theorem tw10109625295404710685:True:=⟨⟩
theorem tw17841617355523389260:True:=⟨⟩
theorem tw13372388439129319099:True:=⟨⟩
theorem tw16447644225940194219:True:=⟨⟩
theorem tw12961351088759268108:True:=⟨⟩
theorem tw4024776591195903217:True:=⟨⟩
theorem tw3727255924221973048:True:=⟨⟩
theorem tw581783566950844830:True:=⟨⟩
theorem tw5547274301596751947:True:=⟨⟩
theorem tw13956666259604503080:True:=⟨⟩
theorem tw702024183077659570:True:=⟨⟩
theorem tw5048966108588193175:True:=⟨⟩
theorem tw8700509136973557497:True:=⟨⟩
theorem tw17549544931080910658:True:=⟨⟩
theorem tw4682008559592152366:True:=⟨⟩
theorem tw6210166717402291433:True:=⟨⟩
theorem tw17585359076242990822:True:=⟨⟩
theorem tw6334527630503043570:True:=⟨⟩
theorem tw394781470882974407:True:=⟨⟩
theorem tw1504821285316113333:True:=⟨⟩
theorem tw1817403357256115106:True:=⟨⟩
theorem tw10743242056952634357:True:=⟨⟩
theorem tw15305621203055233916:True:=⟨⟩
theorem tw5119270544403153738:True:=⟨⟩
theorem tw4377375501662084206:True:=⟨⟩
theorem tw2900500705947718502:True:=⟨⟩
theorem tw5987996160707545346:True:=⟨⟩
theorem tw11098115026348576749:True:=⟨⟩
theorem tw1873408754946363806:True:=⟨⟩
theorem tw4592452550152409107:True:=⟨⟩
theorem tw9133266353687174902:True:=⟨⟩
theorem tw13954344943370694378:True:=⟨⟩
theorem tw4789831407799586958:True:=⟨⟩
theorem tw15036732596979790540:True:=⟨⟩
theorem tw4307406916067531975:True:=⟨⟩
theorem tw13533805497347378360:True:=⟨⟩
theorem tw17406998907511960167:True:=⟨⟩
theorem tw13736045275597873220:True:=⟨⟩
theorem tw8429028553296428753:True:=⟨⟩
theorem tw15171456769248882598:True:=⟨⟩
theorem tw13678939053967918131:True:=⟨⟩
theorem tw7634015839533750825:True:=⟨⟩
theorem tw9595861631008606632:True:=⟨⟩
theorem tw8956593248983671088:True:=⟨⟩
theorem tw14269229429504986684:True:=⟨⟩
theorem tw3835398883595268270:True:=⟨⟩
theorem tw16220163785584367746:True:=⟨⟩
theorem tw9320930602432403057:True:=⟨⟩
theorem tw15086303837896298451:True:=⟨⟩
theorem tw11114414855607116908:True:=⟨⟩
theorem tw3490844721194381080:True:=⟨⟩
theorem tw138530755872468565:True:=⟨⟩
theorem tw12079318675231189331:True:=⟨⟩
theorem tw4367676619514606565:True:=⟨⟩
theorem tw11456408145230019967:True:=⟨⟩
theorem tw9365725332511598578:True:=⟨⟩
theorem tw8542020303536326214:True:=⟨⟩
theorem tw8610182703979447960:True:=⟨⟩
theorem tw11587128464442448312:True:=⟨⟩
theorem tw17610900516759409178:True:=⟨⟩
theorem tw4982915592263091607:True:=⟨⟩
theorem tw915266806278434854:True:=⟨⟩
theorem tw3971584091127483893:True:=⟨⟩
theorem tw3011221200370959953:True:=⟨⟩
theorem tw14823253322691647895:True:=⟨⟩
theorem tw3589864890177554309:True:=⟨⟩
theorem tw3456361256046721711:True:=⟨⟩
theorem tw4515170925707788555:True:=⟨⟩
theorem tw3429787846379546399:True:=⟨⟩
theorem tw443761842362285619:True:=⟨⟩
theorem tw14241302905948038639:True:=⟨⟩
theorem tw18215199347658081135:True:=⟨⟩
theorem tw12256216871559430285:True:=⟨⟩
theorem tw1826488428974331399:True:=⟨⟩
theorem tw222380155724320621:True:=⟨⟩
theorem tw9599978981637877835:True:=⟨⟩
theorem tw3770232902843023825:True:=⟨⟩
theorem tw2366048641890478843:True:=⟨⟩
theorem tw11379285569610525124:True:=⟨⟩
theorem tw9693022085469680611:True:=⟨⟩
theorem tw4376833216300595299:True:=⟨⟩
theorem tw3448152840076868952:True:=⟨⟩
theorem tw2886429358686621070:True:=⟨⟩
theorem tw8024154963879696158:True:=⟨⟩
theorem tw12869054569072601043:True:=⟨⟩
theorem tw10654785102369979126:True:=⟨⟩
theorem tw8848593227557068182:True:=⟨⟩
theorem tw16488584418797406612:True:=⟨⟩
theorem tw10177122791498484331:True:=⟨⟩
theorem tw249325596703251692:True:=⟨⟩
theorem tw6576116449146890332:True:=⟨⟩
theorem tw14415675873611530446:True:=⟨⟩
theorem tw3728595295662527432:True:=⟨⟩
theorem tw10713048104211268677:True:=⟨⟩
theorem tw11604951966808691810:True:=⟨⟩
theorem tw17179356792815712343:True:=⟨⟩
theorem tw15659270363273466877:True:=⟨⟩
theorem tw9806873391941642040:True:=⟨⟩
theorem tw616501051609518114:True:=⟨⟩
theorem tw16286795814845248359:True:=⟨⟩
theorem tw13188941925024090101:True:=⟨⟩
theorem tw11548679185957675881:True:=⟨⟩
theorem tw14714664191641215454:True:=⟨⟩
theorem tw570438664357310470:True:=⟨⟩
theorem tw15646708366801662473:True:=⟨⟩
theorem tw7299182933277352418:True:=⟨⟩
theorem tw3976540970548626489:True:=⟨⟩
theorem tw16905881615303542326:True:=⟨⟩
theorem tw16889803730665344558:True:=⟨⟩
theorem tw14215461188995490020:True:=⟨⟩
theorem tw9501865959674329361:True:=⟨⟩
theorem tw1207988397986746043:True:=⟨⟩
theorem tw11571850358320619717:True:=⟨⟩
theorem tw6727225264273168486:True:=⟨⟩
theorem tw8847875934948521430:True:=⟨⟩
theorem tw11967384705622309557:True:=⟨⟩
theorem tw8572446239490610806:True:=⟨⟩
theorem tw6565418922108000416:True:=⟨⟩
theorem tw8443321427499177992:True:=⟨⟩
theorem tw3579673822383744452:True:=⟨⟩
theorem tw7906712709053901821:True:=⟨⟩
theorem tw3696956376603113387:True:=⟨⟩
theorem tw7669948546798932233:True:=⟨⟩
theorem tw1428777266223570869:True:=⟨⟩
theorem tw7011358196110440917:True:=⟨⟩
theorem tw13629320677586383386:True:=⟨⟩
theorem tw12336981867830486156:True:=⟨⟩
theorem tw3070544766116671136:True:=⟨⟩
theorem tw10249145455001045344:True:=⟨⟩
theorem tw722507014417238871:True:=⟨⟩
theorem tw11159233352012920804:True:=⟨⟩
theorem tw5419631674837264846:True:=⟨⟩
theorem tw8481877501623917558:True:=⟨⟩
theorem tw4231437743867523607:True:=⟨⟩
theorem tw253941345084737952:True:=⟨⟩
theorem tw4156504949466635385:True:=⟨⟩
theorem tw6331309893866076819:True:=⟨⟩
theorem tw2769052013809328360:True:=⟨⟩
theorem tw9709751320175816196:True:=⟨⟩
theorem tw14324999574860864117:True:=⟨⟩
theorem tw12498788434334234606:True:=⟨⟩
theorem tw16772529648094437826:True:=⟨⟩
theorem tw9894544323841685771:True:=⟨⟩
theorem tw13446509271083240875:True:=⟨⟩
theorem tw1879545691249983557:True:=⟨⟩
theorem tw5405399695020394537:True:=⟨⟩
theorem tw5169959201405874508:True:=⟨⟩
theorem tw2240420949975553619:True:=⟨⟩
theorem tw614001711311548440:True:=⟨⟩
theorem tw5591369239293779996:True:=⟨⟩
theorem tw3719865524203212:True:=⟨⟩
theorem tw5771580266068325319:True:=⟨⟩
theorem tw1211533143164076367:True:=⟨⟩
theorem tw9986344913474201254:True:=⟨⟩
theorem tw10942122248832898763:True:=⟨⟩
theorem tw437496859729073761:True:=⟨⟩
theorem tw16549061554419517042:True:=⟨⟩
theorem tw10966395206383140883:True:=⟨⟩
theorem tw8977445889893887873:True:=⟨⟩
theorem tw12387402677915033542:True:=⟨⟩
theorem tw10140467368583153550:True:=⟨⟩
theorem tw17998001336983117309:True:=⟨⟩
theorem tw18238212848791270859:True:=⟨⟩
theorem tw15103011086497815182:True:=⟨⟩
theorem tw18322725551907693643:True:=⟨⟩
theorem tw5720365493638308397:True:=⟨⟩
theorem tw4711899250579278180:True:=⟨⟩
theorem tw5814318131806111638:True:=⟨⟩
theorem tw14886184420624844798:True:=⟨⟩
theorem tw18119557960380297623:True:=⟨⟩
theorem tw2917677962293960641:True:=⟨⟩
theorem tw3515043994547282135:True:=⟨⟩
theorem tw1732541820152207447:True:=⟨⟩
theorem tw10780569340296153169:True:=⟨⟩
theorem tw626148134280970222:True:=⟨⟩
theorem tw12797258233190662968:True:=⟨⟩
theorem tw8977450021010239969:True:=⟨⟩
theorem tw29404870783429996:True:=⟨⟩
theorem tw18197677734430140606:True:=⟨⟩
theorem tw2676729945384399936:True:=⟨⟩
theorem tw10457239116455562069:True:=⟨⟩
theorem tw7884976170929201213:True:=⟨⟩
theorem tw11087280412395141122:True:=⟨⟩
theorem tw8297849781974588143:True:=⟨⟩
theorem tw6217309051247163788:True:=⟨⟩
theorem tw11378756320621939329:True:=⟨⟩
theorem tw1429370988992506904:True:=⟨⟩
theorem tw14283268006183154590:True:=⟨⟩
theorem tw17557772685018487514:True:=⟨⟩
theorem tw14576922942383919071:True:=⟨⟩
theorem tw415059987102575511:True:=⟨⟩
theorem tw3423126411199874929:True:=⟨⟩
theorem tw3448503322041315556:True:=⟨⟩
theorem tw13087758416726747290:True:=⟨⟩
theorem tw5671988468317073258:True:=⟨⟩
theorem tw10020905936553859591:True:=⟨⟩
theorem tw5294112638240483372:True:=⟨⟩
theorem tw9225068796595215280:True:=⟨⟩
theorem tw15155399798889506441:True:=⟨⟩
theorem tw1685957633172529494:True:=⟨⟩
theorem tw6889081364069586283:True:=⟨⟩
theorem tw15450602767540930511:True:=⟨⟩
theorem tw826230385673355278:True:=⟨⟩
theorem tw12665135288404701572:True:=⟨⟩
theorem tw9707555747231400064:True:=⟨⟩
theorem tw12708310557472118792:True:=⟨⟩
theorem tw83931568870756850:True:=⟨⟩
theorem tw10563480454003234466:True:=⟨⟩
theorem tw8847966993449613214:True:=⟨⟩
theorem tw743591394476017437:True:=⟨⟩
theorem tw1833348228332875602:True:=⟨⟩
theorem tw4418129019942538738:True:=⟨⟩
theorem tw5590381957032930535:True:=⟨⟩
theorem tw565148945301307919:True:=⟨⟩
theorem tw6701808146747443941:True:=⟨⟩
theorem tw3109344578845213475:True:=⟨⟩
theorem tw4021858550611740271:True:=⟨⟩
theorem tw4720871671276244046:True:=⟨⟩
theorem tw14706564519209727069:True:=⟨⟩
theorem tw17527181132083924993:True:=⟨⟩
theorem tw10063146448886658710:True:=⟨⟩
theorem tw13126220615214279216:True:=⟨⟩
theorem tw6829927311493228062:True:=⟨⟩
theorem tw12733776360572294174:True:=⟨⟩
theorem tw12271667754159163037:True:=⟨⟩
theorem tw15846233129718762535:True:=⟨⟩
theorem tw7954050619948223514:True:=⟨⟩
theorem tw10512280191270590372:True:=⟨⟩
theorem tw859312987994126173:True:=⟨⟩
theorem tw1309413389087238673:True:=⟨⟩
theorem tw18429738174974573178:True:=⟨⟩
theorem tw6661231620621256484:True:=⟨⟩
theorem tw4727359072472292012:True:=⟨⟩
theorem tw6533936807442871821:True:=⟨⟩
theorem tw7025363957246674281:True:=⟨⟩
theorem tw17164480225569004756:True:=⟨⟩
theorem tw2397098385734413953:True:=⟨⟩
theorem tw5805832268280463112:True:=⟨⟩
theorem tw17502593527722730966:True:=⟨⟩
theorem tw4894450738376005460:True:=⟨⟩
theorem tw12117916142640853279:True:=⟨⟩
theorem tw10254586935686086850:True:=⟨⟩
theorem tw17491639446404459901:True:=⟨⟩
theorem tw197489387132576612:True:=⟨⟩
theorem tw2697410389353839850:True:=⟨⟩
theorem tw9796541992042338026:True:=⟨⟩
theorem tw4810054926850711703:True:=⟨⟩
theorem tw15719006490539731860:True:=⟨⟩
theorem tw4962187408064163516:True:=⟨⟩
theorem tw1772662440362821074:True:=⟨⟩
theorem tw3825551811973238621:True:=⟨⟩
theorem tw4574254110780812727:True:=⟨⟩
theorem tw10223657771948959273:True:=⟨⟩
theorem tw9682076046245958492:True:=⟨⟩
theorem tw12857246680325465095:True:=⟨⟩
theorem tw9371796910734244287:True:=⟨⟩
theorem tw8436163043124959826:True:=⟨⟩
theorem tw497278644978540087:True:=⟨⟩
theorem tw10586041632960158738:True:=⟨⟩
theorem tw1100798670365469549:True:=⟨⟩
theorem tw5038448379930171214:True:=⟨⟩
theorem tw4080277839059792567:True:=⟨⟩
theorem tw10204438276066872033:True:=⟨⟩
theorem tw13909802973640222378:True:=⟨⟩
theorem tw2371685892778287831:True:=⟨⟩
theorem tw2941076416307111496:True:=⟨⟩
theorem tw2017726009261139667:True:=⟨⟩
theorem tw14175146691763026902:True:=⟨⟩
theorem tw9900563505414016268:True:=⟨⟩
theorem tw2661986479575931293:True:=⟨⟩
theorem tw5233651398262004908:True:=⟨⟩
theorem tw8719012882802187989:True:=⟨⟩
theorem tw4792046003671876182:True:=⟨⟩
theorem tw8482286705619859895:True:=⟨⟩
theorem tw14949003262038064145:True:=⟨⟩
theorem tw11504798509640453861:True:=⟨⟩
theorem tw7010059207509985338:True:=⟨⟩
theorem tw5926799101127497679:True:=⟨⟩
theorem tw9309183009144688806:True:=⟨⟩
theorem tw11696436227356441814:True:=⟨⟩
theorem tw10608381651190105032:True:=⟨⟩
theorem tw15892861561614313698:True:=⟨⟩
theorem tw4050362731709160165:True:=⟨⟩
theorem tw12020320405079026848:True:=⟨⟩
theorem tw12649326338024186031:True:=⟨⟩
theorem tw9417850077199929770:True:=⟨⟩
theorem tw17395153496876217184:True:=⟨⟩
theorem tw5954633292195738742:True:=⟨⟩
theorem tw10564489014345392715:True:=⟨⟩
theorem tw11574239418603123855:True:=⟨⟩
theorem tw10597005920784858229:True:=⟨⟩
theorem tw10300809081439430818:True:=⟨⟩
theorem tw1122518961626736411:True:=⟨⟩
theorem tw2325772811152294349:True:=⟨⟩
theorem tw6438474980521768433:True:=⟨⟩
theorem tw3367399747429807584:True:=⟨⟩
theorem tw3243630787795370759:True:=⟨⟩
theorem tw16781517392208714508:True:=⟨⟩
theorem tw17993984517851740603:True:=⟨⟩
theorem tw3397197355756613164:True:=⟨⟩
theorem tw4291069758775465215:True:=⟨⟩
theorem tw342935068977858798:True:=⟨⟩
theorem tw13272127608097053905:True:=⟨⟩
theorem tw10235948173966382907:True:=⟨⟩
end PySem.W.Fast
open PySem PySem.W PyProof.Rows
local macro_rules | `(tactic| walk_at "tb") => `(tactic| (refine' Mi.Ik ?a ?b ?c ?d ?e; (case a => k_is); (case b => k_is); (case c => rfl); (case d => k_is); (case e => rfl)))
local macro_rules | `(tactic| walk_at "at") => `(tactic| (refine' Mi.Mq ?a ?l ?c ?k; (case a => k_is); (case l => k_is); (case c => k_is); (case k => k_is)))
local macro_rules | `(tactic| walk_at "cl") => `(tactic| (refine' Mi.JX ?a ?l; (case a => k_is); (case l => k_is)))
local macro_rules | `(tactic| walk_at "rz") => `(tactic| (refine' ⟨?a, ?b, ?c, ?d, ?e, ?f, ?g⟩; (case a => k_is); (case b => k_is); (case c => k_is); (case d => k_is); (case e => k_is); (case f => k_is); (case g => k_is)))
set_option maxRecDepth 100000 in
set_option maxHeartbeats 0 in
theorem PySem.Challenge.cw_fleethide_k31_whole_fewer_hidings_fewer_holds : PySem.Challenge.rw_fleethide_k31_whole_fewer_hidings_fewer.Holds := by
  w_on
  o_law
  k_head
  (case hw=>w_witness2)
  k_fill
  refine K31.An (l:=PySem.Challenge.rw_fleethide_k31_whole_fewer_hidings_fewer) rfl rfl (fun w h Y=>PySem.W.km_in_of Y) ?L ?F
  case L=>
    intro w h Y
    refine' L2.M4 (PySem.W.km_in_of Y) ?a ?b ?c ?d ?e
    (case a=>(exact Mi.AZ (by k_is)))
    (case b=>walk_at "tb")
    (case c=>kernel_rfl)
    (case d=>kernel_rfl)
    (case e=>exact PySem.W.km_tabs_of Y _ (.head _))
  case F=>
    intro w mg fa h KX G hmg
    refine' K31.all_mk KX G hmg ?h0 ?h1 ?h2 ?h3 ?h4 ?h5 ?h6 ?h7 ?h8 ?h9 ?ON ?QJ ?QK ?QL ?RT ?QM ?QN ?QO ?QP ?QQ ?QR ?QS ?QU ?QV ?QW ?RU ?z_ValueError ?z_enumerate ?z_int ?z_isinstance ?z_len ?z_max ?z_min ?z_range ?z_sorted ?z_sum ?z_tuple ?GC ?KM ?KN ?ga_MOST_PLANNED ?xH ?x0 ?x1 ?x2 ?x3 ?x4 ?x5 ?x6 ?x7 ?x8 ?x9 ?r2 ?lU ?rH ?ya ?lt
    (case h0=>walk_at "at")
    (case h1=>walk_at "at")
    (case h2=>walk_at "at")
    (case h3=>walk_at "at")
    (case h4=>walk_at "at")
    (case h5=>walk_at "at")
    (case h6=>walk_at "at")
    (case h7=>walk_at "at")
    (case h8=>walk_at "at")
    (case h9=>walk_at "at")
    (case ON=>walk_at "at")
    (case QJ=>walk_at "at")
    (case QK=>walk_at "at")
    (case QL=>walk_at "at")
    (case RT=>walk_at "at")
    (case QM=>walk_at "at")
    (case QN=>walk_at "at")
    (case QO=>walk_at "at")
    (case QP=>walk_at "at")
    (case QQ=>walk_at "at")
    (case QR=>walk_at "at")
    (case QS=>walk_at "at")
    (case QU=>walk_at "at")
    (case QV=>walk_at "at")
    (case QW=>walk_at "at")
    (case RU=>walk_at "at")
    (case z_ValueError=>k_is)
    (case z_enumerate=>k_is)
    (case z_int=>k_is)
    (case z_isinstance=>k_is)
    (case z_len=>k_is)
    (case z_max=>k_is)
    (case z_min=>k_is)
    (case z_range=>k_is)
    (case z_sorted=>k_is)
    (case z_sum=>k_is)
    (case z_tuple=>k_is)
    (case GC=>walk_at "tb")
    (case KM=>kernel_rfl)
    (case KN=>(exact Mi.AZ (by k_is)))
    (case ga_MOST_PLANNED=>k_is)
    (case xH=>walk_at "cl")
    (case x0=>walk_at "cl")
    (case x1=>walk_at "cl")
    (case x2=>walk_at "cl")
    (case x3=>walk_at "cl")
    (case x4=>walk_at "cl")
    (case x5=>walk_at "cl")
    (case x6=>walk_at "cl")
    (case x7=>walk_at "cl")
    (case x8=>walk_at "cl")
    (case x9=>walk_at "cl")
    (case r2=>walk_at "rz")
    (case lU=>k_is)
    (case rH=>k_is)
    (case ya=>k_is)
    (case lt=>decide)
