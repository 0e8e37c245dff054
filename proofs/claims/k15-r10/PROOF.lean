
import PyProof.Rows.All
import Wide.All
import OpenK.AllK
import Wide.FinOn
import Lean
import PyProof.EqAt
import PyProof.EqKinds
import PyProof.TupleCall
import PyProof.SetScanFacts
import PyProof.SetRoads
import PyProof.SetNew
import PyProof.TupleKey
import PyProof.DictFindH
import PyProof.Rows.SetFrom
import KE.KDictOf
import PyProof.AttrMissHeap
import PyProof.MeetsDictList
import PyProof.FString5
import KE.KUnpackStar
import PyProof.DictItems
import PyProof.SumWalkG
import KE.KLam
import KE.KMinKey
import KE.KDictList
import PySem.Challenge.RW_fleethide_k15_whole_parts_of_what_fits
set_option Elab.async false
set_option linter.all false
set_option maxRecDepth 100000
set_option maxHeartbeats 4000000
abbrev XO:=PySem.Value->PySem.Shared->Prop
abbrev XQ:=List (PySem.Addr×PySem.Obj)
abbrev XR:=Array (Option PySem.Value)
abbrev XS:=PySem.Str->Option PySem.Value
abbrev XT:=List (PySem.Str×PySem.Addr)
abbrev XU:=List (Int×Int)
abbrev XW:=List PySem.Comprehension
abbrev XX:=List PySem.Value
abbrev XY:=Option PySem.Addr
abbrev XZ:=List PySem.Str
abbrev X0:=List PySem.Addr
abbrev X1:=List PySem.Expr
abbrev X2:=List PySem.Stmt
abbrev X3:=List Nat
abbrev X4:=List Int
abbrev X5:=Int×Int
abbrev X6:=PySem.W.Frag
abbrev X7:=PySem.Value
abbrev X8:=PySem.Shared
abbrev X9:=PySem.Program
abbrev X_:=PySem.Around
abbrev Ya:=PySem.Heap
abbrev Yb:=PySem.World
abbrev Yc:=PySem.FuncData
abbrev Yd:=PySem.Scope
abbrev Ye:=PySem.Addr
abbrev Yf:=PySem.Expr
abbrev Yg:=PySem.Stmt
def a_:=@Option.bind_eq_some_iff
def b_:=@PySem.wpAny_bind
def c_:=@List.length_map
def d_:=@PySem.wpAny_pure
def e_:=@PySem.Heap.get?_push_of_some
def f_:=@List.mem_cons_of_mem
def g_:=@List.mem_cons_self
def h_:=@if_neg
def i_:=@List.getElem?_set_ne
def j_:=@if_pos
def k_:=@List.getElem?_eq_some_iff
def l_:=@List.getElem?_eq_getElem
def m_:=@Nat.le_refl
def n_:=@PySem.Heap.get?_push_size
def o_:=@List.getElem?_map
def p_:=@List.mem_cons
def q_:=@PySem.Heap.lt_size
def r_:=@List.size_toArray
def s_:=@List.getD_eq_getElem?_getD
def t_:=@List.getElem?_set_self
def u_:=@List.mem_map
def v_:=@decide_eq_true
def w_:=@decide_eq_true_eq
def x_:=@List.length_append
def y_:=@List.mem_singleton
def z_:=@List.length_cons
def A_:=@List.map_cons
def B_:=@Nat.ne_of_lt
def C_:=@Bool.and_eq_true
def D_:=@List.all_eq_true
def E_:=@Bool.false_eq_true
def F_:=@PySem.wpAny_holding
def G_:=@Nat.le_trans
def H_:=@List.map_append
def I_:=@List.mem_of_getElem?
def J_:=@Bool.false_ne_true
def K_:=@List.map_map
def L_:=@decide_eq_false
def M_:=@PySem.PassesOwn.never
def N_:=@List.mem_append_right
def O_:=@List.length_filter_le
def P_:=@List.map_congr_left
def Q_:=@Nat.lt_of_lt_of_le
def R_:=@List.getElem?_append_right
def S_:=@List.getElem?_append_left
def T8:=@List.mem_filter
def T9:=@List.getElem?_eq_none
def T_:=@Option.map_eq_some_iff
def Ua:=@List.filter_cons
def Ub:=@List.mem_append
def Uc:=@Nat.zero_add
def Ud:=@List.nil_append
def Ue:=@List.pairwise_cons
def Ug:=@PySem.wpAny_call_entry
def Uh:=@Bool.eq_iff_iff
def Ui:=@List.length_nil
def Uj:=@of_decide_eq_true
def Uk:=@Array.length_toList
def Ul:=@List.not_mem_nil
def Um:=@PySem.sizeLine_eq
def Uo:=@PySem.mem_of_lookup
def Up:=@Int.eq_ofNat_of_zero_le
def Uq:=@List.mem_map_of_mem
def Ur:=@PySem.wpAny_mono
def Us:=@List.pairwise_append
def Ut:=@List.getElem_mem
def Uu:=@if_false
def Uv:=@PySem.wpAny_callSpecial?_slot
def Uw:=@List.replicate_succ
def Ux:=@Array.getElem?_eq_getElem
def Uy:=@List.drop_eq_getElem_cons
def Uz:=@List.append_nil
def UA:=@List.mem_range
def UB:=@Ne.symm
def UC:=@PySem.wpAny_newObj_type
def UD:=@List.flatMap_cons
def UE:=@PySem.wpAny_setField_rec
def UF:=@List.mem_iff_getElem?
def UG:=@List.length_singleton
def UH:=@PySem.Heap.SameBut.update
def UI:=@List.take_length
def UJ:=@List.mem_flatMap
def UK:=@List.pairwise_map
def UL:=@PySem.wpAny_truthy_bool
def UM:=@PySem.wpAny_dictEntries
def UN:=@PySem.F.slot_dict_itemiterator_next
def UO:=@Option.bind_some
def UP:=@List.sum_cons
def UQ:=@Int.toNat_natCast
def UR:=@Nat.lt_succ_of_lt
def US:=@List.getElem?_replicate
def UT:=@List.perm_ext_iff_of_nodup
def UU:=@PySem.tupleKind_room_in1
def UV:=@PySem.F.plain_min_loop
def UW:=@congrArg
def UX:=@List.getElem?_zip_eq_some
def UY:=@Nat.zero_le
def UZ:=@List.take_add_one
def U0:=@PySem.Heap.size_push
def U1:=@Nat.mul_le_mul
def U2:=@PySem.W.kia_one
def U3:=@PySem.F.slot_dict_keyiterator_next
def U4:=@List.zip_cons_cons
def U5:=@List.lookup_cons
def U6:=@PySem.wpAny_field
def U7:=@List.pairwise_singleton
def U8:=@List.append_assoc
def U9:=@PySem.wpAny_pyIter_list
def U_:=@List.flatten_cons
def Va:=@Function.comp_apply
def Vb:=@PySem.codeAny_builtin
def Vc:=@List.take_append_drop
def Vd:=@Int.emod_lt_of_pos
def Ve:=@Nat.le_of_not_lt
def Vf:=@PySem.wpAny_typeNameOfWhole_itemiter
def Vg:=@PySem.W.mg_none_of
def Vh:=@List.Pairwise.imp_of_mem
def Vi:=@if_true
def Vj:=@PySem.wpAny_standAt
def Vk:=@PySem.Around.under_plainId
def Vl:=@PySem.wpAny_typeNameOfWhole_keyiter
def Vm:=@List.length_range
def Vn:=@PySem.wpAny_specialOf
def Vo:=@PySem.wpAny_dictEpoch
def Vp:=@List.getElem?_range
def Vq:=@or_false
def Vr:=@PySem.F.slot_set_contains
def Vs:=@PyProof.Rows.F.plain_set_update_loop
def Vt:=@PySem.wpAny_pyNext_list_item
def Vu:=@List.drop_eq_nil_of_le
def Vv:=@List.cons_append
def Vw:=@List.length_take
def Vx:=@Array.getElem?_eq_some_iff
def Vy:=@PySem.wpAny_tryCatch
def Vz:=@PySem.wpAny_pyIter_tuple
def VA:=@PySem.F.slot_tuple_iterator_next
def VB:=@List.length_replicate
def VC:=@Array.getElem?_toList
def VD:=@List.pairwise_iff_getElem
def VE:=@PySem.wpAny_typeNameOf_itemiter
def VF:=@Int.emod_nonneg
def VG:=@List.nodup_cons
def VH:=@List.length_zip
def VI:=@PySem.wpAny_setState_of
def VJ:=@Nat.lt_irrefl
def VL:=@PySem.AutoSeq1.wpAny_loadPart'
def VM:=@PySem.wpAny_typeNameOf_keyiter
def VN:=@List.getElem_of_mem
def VO:=@PySem.wpAny_forIn_list
def VP:=@List.length_drop
def VQ:=@PySem.wpAny_seqItems
def VR:=@List.nodup_nil
def VS:=@PySem.F.plainAttrs_list
def VT:=@List.any_eq_true
def VU:=@List.map_flatMap
def VV:=@decide_eq_false_iff_not
def VW:=@Nat.le_succ
def VX:=@Nat.pow_succ
def VY:=@Nat.le_of_lt
def VZ:=@PySem.F.called_set
def V0:=@List.take_of_length_le
def V1:=@PySem.wpAny_isOneOf_itemiter
def V2:=@Array.getElem?_eq_none
def V3:=@List.foldl_cons
def V4:=@List.length_set
def V5:=@List.dropLast_concat_getLast
def V6:=@List.all_cons
def V7:=@PySem.Heap.get?_update_self
def V8:=@PySem.wpAny_pyNext_list_end
def V9:=@PySem.F.slot_enumerate_next
def V_:=@List.pairwise_flatMap
def Wa:=@PyProof.Rows.callWith_type1
def Wb:=@List.take_sublist
def Wc:=@List.ext_getElem?
def We:=@PySem.wpAny_of_eq
def Wf:=@PySem.wpAny_fieldsOf
def Wg:=@Nat.mod_eq_of_lt
def Wh:=@Nat.lt_succ_self
def Wi:=@List.append_inj'
def Wj:=@List.filterMap_cons
def Wk:=@PyProof.Rows.F.entry_set_update_loop
def Wl:=@List.filter_sublist
def Wm:=@PySem.F.args_tuple_add_2
def Wn:=@PySem.wpAny_comprehension_free
def Wo:=@PySem.wpAny_attempt
def Wp:=@PySem.wpAny_passesOwn
def Wq:=@List.of_mem_zip
def Wr:=@PySem.W.kat_nil
def Ws:=@PySem.wpAny_Call_Name_kw
def Wt:=@PySem.Obj.data_mapFields
def Wu:=@PySem.F.entry_tuple_add
def Wv:=@PySem.wpAny_letGo
def Ww:=@Int.le_refl
def Wx:=@PySem.wpAny_callSpecialUnlessNone?_slot
def Wy:=@Nat.mul_comm
def Wz:=@List.pairwise_lt_range
def WA:=@PySem.codeAny_mono
def WB:=@PySem.F.slot_tuple_add
def WC:=@PySem.Calls.callWith_builtin
def WD:=@Int.le_trans
def WE:=@PySem.wpAny_setField
def WG:=@PySem.F.entry_min_loop
def WH:=@List.all_map
def WI:=@Int.add_zero
def WJ:=@List.filter_eq_nil_iff
def WK:=@PySem.F.args_dict_itemiterator_next_1
def WL:=@PyProof.Rows.boot_max
def WM:=@PyProof.Rows.boot_min
def WN:=@PySem.wpAny_notOrdered_dict
def WO:=@List.drop_length
def WQ:=@PySem.call_meets
def WR:=@PySem.wpAny_rule
def WS:=@PySem.Heap.size_update
def WT:=@PySem.wpAny_isInstance
def WU:=@List.flatMap_map
def WV:=@Nat.mul_assoc
def WW:=@Nat.add_assoc
def WX:=@Bool.not_true
def WY:=@List.map_take
def WZ:=@PySem.plainId_quiet
def W0:=@PySem.wpAny_newList
def W1:=@Nat.mul_add
def W2:=@List.mem_of_mem_drop
def W3:=@PySem.wpAny_newFunctionEnv
def W4:=@PyProof.Rows.get?_update_seq
def W5:=@PySem.wpAny_loadPart'
def W6:=@List.take_succ_cons
def W7:=@List.findSome?_cons
def W8:=@Nat.lt_trans
def W9:=@Nat.lt_or_ge
def W_:=@Array.getD_eq_getD_getElem?
def Xa:=@Int.le_of_lt
def Xb:=@List.mem_filterMap
def Xd:=@Bool.false_and
def Xe:=@Bool.and_false
def Xf:=@PySem.Calls.spliced_cons
def Xg:=@Nat.lt_of_le_of_lt
def Xh:=@beq_iff_eq
def Xi:=@PySem.SeqAt.EqAt.int_int
def Xj:=@PySem.SeqAt.EqAt.str_str
def Xk:=@Array.perm_iff_toList_perm
def Xl:=@Option.toList_some
def Xm:=@List.filter_append
def Xn:=@List.mem_take_iff_getElem
def Xo:=@List.mem_drop_iff_getElem
def Xp:=@PyProof.Rows.assign_Tuple
def Xq:=@Nat.mul_left_comm
def Xr:=@PySem.slot_list_getitem
def Xs:=@List.reverse_cons
def Xt:=@PySem.W.kitx_dict
def Xu:=@PySem.wpAny_pyIter_enum
def Xv:=@PySem.wpAny_pyIter_slot
def Xw:=@Bool.eq_false_iff
def Xx:=@Function.comp_def
def Xy:=@Bool.not_eq_true'
def Xz:=@Prod.mk.injEq
def XA:=@List.getElem_inj
def XB:=@beq_self_eq_true
def XC:=@Nat.succ_ne_self
def XD:=@Nat.mod_lt
def XE:=@List.map_nil
def XF:=@Nat.ne_of_gt
def XG:=@Nat.mul_succ
def XH:=@Bool.or_eq_true
def XI:=@Nat.min_eq_left
def XJ:=@List.sum_append
def XM:=@List.cons.injEq
def XN:=@exists_eq_left
theorem cC{G:Prop}(h:∀Q:Prop,(G->Q)->Q):G:=h G id
namespace St
open PySem
def s5:Nat->Nat
 | 0=>0
 | n+1=>5*s5 n+1
def g5:Nat->Nat->Nat
 | 0,x=>x
 | n+1,x=>5*g5 n x+1
theorem II(x:Nat):∀n,g5 n x=x+s5 n*(4*x+1)
 | 0=>by simp[g5,s5]
 | n+1=>by
  unfold g5 s5;rw[II x n,Nat.add_mul,W1,WV]
  lia
theorem Da(x m:Nat):∀n,g5 (m+n) x=g5 n (g5 m x)
 | 0=>rfl
 | n+1=>by rw[<- WW];show 5*g5 (m+n) x+1=_;rw[Da x m n];rfl
theorem D1(m:Nat):∀n,s5 (m+n)=s5 m+s5 n+4*(s5 m*s5 n)
 | 0=>by simp[s5]
 | n+1=>by
  rw[<- WW];show 5*s5 (m+n)+1=s5 m+(5*s5 n+1)+4*(s5 m*(5*s5 n+1));rw[D1 m n,W1 (s5 m),Xq (s5 m) 5]
  lia
theorem EO:∀k,∃a,s5 (2 ^ k)=2 ^ k*(2*a+1)
 | 0=>⟨0,rfl⟩
 | k+1=>by
  obtain⟨a,h⟩:=EO k;rw[VX,Nat.mul_two,D1];generalize s5 (2 ^ k)=s at h;generalize 2 ^ k=N at h;refine⟨a+s*(2*a+1),?_⟩;have e:(N+N)*(2*(a+s*(2*a+1))+1)=2*(N*(2*a+1))+4*(s*(N*(2*a+1))):=by
   rw[<- Nat.two_mul,WV 2 N];rw[show N*(2*(a+s*(2*a+1))+1)=N*(2*a+1)+N*(2*(s*(2*a+1))) by rw[<- W1];congr 1;lia];rw[W1,show N*(2*(s*(2*a+1)))=2*(s*(N*(2*a+1))) by
    rw[Xq N 2,Xq N s]]
   lia
  rw[e,<- h];lia
theorem FR(k x:Nat):g5 (2 ^ k) x%2 ^ (k+1)=(x+2 ^ k)%2 ^ (k+1):=by
 obtain⟨a,h⟩:=EO k;rw[II,h,VX];generalize 2 ^ k=N;have:x+N*(2*a+1)*(4*x+1)=(x+N)+(N*2)*(a*(4*x+1)+2*x):=by
  rw[WV N,show(2*a+1)*(4*x+1)=2*(a*(4*x+1)+2*x)+1 by rw[Nat.add_mul,WV];lia];rw[W1,WV N 2];lia
 rw[this,Nat.add_mul_mod_self_left]
theorem full:∀(k x y:Nat),∃n,n<2 ^ k/\g5 n x%2 ^ k=y%2 ^ k
 | 0,x,y=>⟨0,by decide,by simp[Nat.mod_one]⟩
 | k+1,x,y=>by
  obtain⟨n,h1,h2⟩:=full k x y;have hp:2 ^ (k+1)=2*2 ^ k:=by rw[VX,Wy]
  by_cases h:g5 n x%2 ^ (k+1)=y%2 ^ (k+1)
  .exact⟨n,by lia,h⟩
  .refine⟨n+2 ^ k,by lia,?_⟩;rw[Da,FR,hp]at *;generalize g5 n x=z at h h2;have hN:0<2 ^ k:=Nat.two_pow_pos k;generalize 2 ^ k=N at *;have e1:=Nat.mod_mod_of_dvd z (⟨2,by rw[Wy]⟩:N ∣ 2*N);have e2:=Nat.mod_mod_of_dvd y (⟨2,by rw[Wy]⟩:N ∣ 2*N);have b1:=XD z (show 0<2*N by lia);have b2:=XD y (show 0<2*N by lia);rw[Nat.add_mod,Wg (show N<2*N by lia)];generalize z%(2*N)=u at *;generalize y%(2*N)=v at *;have d1:=Nat.div_add_mod u N;have d2:=Nat.div_add_mod v N;have q1:u/N<2:=Nat.div_lt_of_lt_mul (by lia);have q2:v/N<2:=Nat.div_lt_of_lt_mul (by lia);have r1:=XD u hN;have hr:u%N=v%N:=by lia
   generalize u/N=c at *;generalize v/N=d at *;rw[hr]at d1 r1;generalize v%N=w at *;have cc:c=0\/c=1:=by clear d1 d2;lia
   have dd:d=0\/d=1:=by clear d1 d2;lia
   rcases cc with rfl | rfl<;>rcases dd with rfl | rfl
   .exact absurd (by lia) h
   .rw[Wg (by lia)];lia
   .rw[show u+N=2*N+v by lia,Nat.add_mod_left,Wg (by lia)]
   .exact absurd (by lia) h
theorem gap:∀(l:X3)(a:Nat),l.Pairwise (· < ·)->(∀x∈l,a<=x)->∃x,a<=x/\x<=a+l.length/\x∉l
 | [],a,_,_=>⟨a,m_ _,by simp,by simp⟩
 | b::r,a,h,hl=>by
  obtain⟨h1,h2⟩:=Ue.mp h;have hb:=hl b g_
  by_cases e:b=a
  .subst e;obtain⟨x,x1,x2,x3⟩:=gap r (b+1) h2 λx hx=>h1 x hx;refine⟨x,by lia,by simp;lia,λhx=>?_⟩;rcases p_.mp hx with z | z
   .lia
   .exact x3 z
  .refine⟨a,m_ _,by simp,λhx=>?_⟩;rcases p_.mp hx with z | z
   .lia
   .have:=h1 a z;lia
theorem pM(xs:Array Nat)(j:Nat)(up:xs.toList.Pairwise (· < ·)):∀(fuel lo hi:Nat),lo<=hi->hi<=xs.size->hi-lo<=fuel->(∀x∈xs.toList.take lo,x<j)->(∀x∈xs.toList.drop hi,j<=x)->
  ∃r,SetTable.below.go xs j fuel lo hi=r/\r<=xs.size/\(∀x∈xs.toList.take r,x<j)/\∀x∈xs.toList.drop r,j<=x
 | 0,lo,hi,h1,h2,h3,h4,h5=>⟨lo,rfl,by lia,h4,by rw[show lo=hi by lia];exact h5⟩
 | fuel+1,lo,hi,h1,h2,h3,h4,h5=>by
  unfold SetTable.below.go
  by_cases hl:lo<hi
  .rw[j_ hl];dsimp only;have hm:(lo+hi)/2<xs.size:=by lia
   have hg:xs.getD ((lo+hi)/2) j=xs.toList[(lo+hi)/2]'(by simpa using hm):=by simp[Array.getD,hm]
   rw[hg];generalize Sw:(lo+hi)/2=mid at *;have QO:mid<xs.toList.length:=by simpa using hm
   by_cases hc:xs.toList[mid]<j
   .rw[j_ hc];refine pM xs j up fuel (mid+1) hi (by lia) h2 (by lia) (λx hx=>?_) h5;obtain⟨i,Ob,rfl⟩:=Xn.mp hx
    by_cases e:i=mid
    .subst e;exact hc
    .exact W8 (VD.mp up i mid (by lia) QO (by lia)) hc
   .rw[h_ hc];refine pM xs j up fuel lo mid (by lia) (by lia) (by lia) h4 (λx hx=>?_);obtain⟨i,Ob,rfl⟩:=Xo.mp hx
    by_cases e:i=0
    .subst e;simpa using hc
    .have:=VD.mp up mid (mid+i) QO (by lia) (by lia)
     lia
  .rw[h_ hl];exact⟨lo,rfl,by lia,h4,by rw[show lo=hi by lia];exact h5⟩
theorem u6(xs:Array Nat)(j:Nat)(up:xs.toList.Pairwise (· < ·)):SetTable.below xs j<=xs.size/\(∀x∈xs.toList.take (SetTable.below xs j),x<j)/\∀x∈xs.toList.drop (SetTable.below xs j),j<=x:=by
 obtain⟨r,h1,h2⟩:=pM xs j up xs.size 0 xs.size (UY _) (m_ _) (m_ _) (by simp) (λx hx=>by rw[<- Uk,WO]at hx;cases hx);unfold SetTable.below;rw[h1];exact h2
theorem below_at(up:xs.toList.Pairwise (· < ·))(h:xs[i]?=some j):SetTable.below xs j=i:=by
 obtain⟨h1,h2,h3⟩:=u6 xs j up;generalize SetTable.below xs j=r at *;have h':xs.toList[i]?=some j:=by simpa using h
 obtain⟨hi,e⟩:=k_.mp h';rcases Nat.lt_trichotomy r i with hlt | rfl | hgt
 .have hr:r<xs.toList.length:=by lia
  have a1:=h3 xs.toList[r] (Xo.mpr ⟨0,by simpa using hr,by simp⟩);have a2:=VD.mp up r i hr hi hlt
  lia
 .rfl
 .have:=h2 xs.toList[i] (Xn.mpr ⟨i,by lia,rfl⟩)
  lia
theorem Ao(j:Nat):SetTable.has #[] j=false:=by
 unfold SetTable.has;simp
theorem mE{t:SetTable}{i j:Nat}(up:t.place.toList.Pairwise (· < ·))(h:t.place[i]?=some j):t.slot j=.live i:=by
 unfold SetTable.slot;rw[below_at up h];dsimp only;rw[h];simp
theorem xW{t:SetTable}{j:Nat}(hd:t.dummies=#[])(h:j∉t.place.toList):t.slot j=.empty:=by
 unfold SetTable.slot;dsimp only;rw[h_,hd,Ao]
 .rfl
 .intro e;have e2:t.place[SetTable.below t.place j]?=some j:=by simpa using e
  exact h (by have:=Array.mem_of_getElem? e2;simpa using this)
def xj(mask:Nat)(p:SetTable.Probe):SetTable.Probe:=
 if p.more>0 then {p with j:=p.j+1,more:=p.more-1}else
 {p with j:=(SetTable.leap mask p.i p.perturb).1,more:=SetTable.runEnd mask (SetTable.leap mask p.i p.perturb).1-(SetTable.leap mask p.i p.perturb).1,i:=(SetTable.leap mask p.i p.perturb).1,perturb:=(SetTable.leap mask p.i p.perturb).2}
theorem KG(t:SetTable)(p:SetTable.Probe):t.advance p=xj t.mask p:=rfl
def it(mask:Nat)(p:SetTable.Probe):Nat->SetTable.Probe
 | 0=>p
 | m+1=>xj mask (it mask p m)
theorem lO(mask:Nat)(p:SetTable.Probe):∀m,it mask p (m+1)=it mask (xj mask p) m
 | 0=>rfl
 | m+1=>by show xj mask (it mask p (m+1))=xj mask (it mask (xj mask p) m);rw[lO mask p m]
theorem ko(mask:Nat)(p:SetTable.Probe)(a:Nat):∀b,it mask p (a+b)=it mask (it mask p a) b
 | 0=>rfl
 | b+1=>by rw[<- WW];show xj mask (it mask p (a+b))=_;rw[ko mask p a b];rfl
def st(mask i aW:Nat):SetTable.Probe:={j:=i,more:=SetTable.runEnd mask i-i,i:=i,perturb:=aW,dummy:=none}
theorem u7(t:SetTable)(h:Int):t.probeStart h=st t.mask (SetTable.bits h%(t.mask+1)) (SetTable.bits h):=rfl
theorem sW(mask i:Nat)(h:i<=mask):SetTable.runEnd mask i-i<=9/\i<=SetTable.runEnd mask i/\SetTable.runEnd mask i<=mask:=by
 unfold SetTable.runEnd;split<;>lia
theorem oz(mask i aW:Nat):∀r,r<=SetTable.runEnd mask i-i->it mask (st mask i aW) r={j:=i+r,more:=SetTable.runEnd mask i-i-r,i:=i,perturb:=aW,dummy:=none}
 | 0,_=>rfl
 | r+1,h=>by
  show xj mask (it mask (st mask i aW) r)=_;rw[oz mask i aW r (by lia)];unfold xj;rw[j_ (by dsimp only;lia)];dsimp only;congr 1
def lp(mask:Nat):Nat->Nat×Nat->Nat×Nat
 | 0,q=>q
 | n+1,q=>lp mask n (SetTable.leap mask q.1 q.2)
theorem tQ(mask i aW:Nat)(h:i<=mask):it mask (st mask i aW) (SetTable.runEnd mask i-i+1)=st mask (SetTable.leap mask i aW).1 (SetTable.leap mask i aW).2:=by
 show xj mask (it mask (st mask i aW) (SetTable.runEnd mask i-i))=_;rw[oz mask i aW _ (m_ _)];unfold xj;rw[h_ (by dsimp only;lia)]
 rfl
theorem nG(mask i aW:Nat):(SetTable.leap mask i aW).1<=mask:=by
 unfold SetTable.leap;have:=XD (i*5+1+aW/32) (show 0<mask+1 by lia);dsimp only;lia
theorem Ja(mask:Nat):∀(n i aW:Nat),i<=mask->∃m,m<=10*n/\it mask (st mask i aW) m=st mask (lp mask n (i,aW)).1 (lp mask n (i,aW)).2
 | 0,i,aW,_=>⟨0,m_ _,rfl⟩
 | n+1,i,aW,h=>by
  obtain⟨m,h1,h2⟩:=Ja mask n _ (SetTable.leap mask i aW).2 (nG mask i aW);have hr:=(sW mask i h).1;refine⟨SetTable.runEnd mask i-i+1+m,by lia,?_⟩;rw[ko,tQ mask i aW h,h2]
  rfl
theorem zI(mask:Nat):∀(n i aW:Nat),(lp mask n (i,aW)).2=aW/32 ^ n
 | 0,i,aW=>by simp[lp]
 | n+1,i,aW=>by
  show(lp mask n ((SetTable.leap mask i aW).1,aW/32)).2=_;rw[zI mask n,Nat.div_div_eq_div_mul,VX,Wy]
theorem xP(mask a:Nat):∀(b:Nat)(q:Nat×Nat),lp mask (b+a) q=lp mask a (lp mask b q)
 | 0,q=>by rw[Uc];rfl
 | b+1,q=>by rw[show b+1+a=(b+a)+1 by lia];show lp mask (b+a) _=lp mask a (lp mask b _);rw[xP mask a b]
theorem zl(mask:Nat):∀(n i:Nat),i<=mask->lp mask n (i,0)=(g5 n i%(mask+1),0)
 | 0,i,h=>by show(i,0)=(i%(mask+1),0);rw[Wg (by lia)]
 | n+1,i,h=>by
  have e:lp mask (n+1) (i,0)=SetTable.leap mask (lp mask n (i,0)).1 (lp mask n (i,0)).2:=by rw[xP mask 1 n];rfl
  rw[e,zl mask n i h];show((g5 n i%(mask+1)*5+1+0/32)%(mask+1),0/32)=((5*g5 n i+1)%(mask+1),0);have:(g5 n i%(mask+1)*5+1+0/32)%(mask+1)=(5*g5 n i+1)%(mask+1):=by
   rw[Nat.zero_div,Nat.add_zero,Nat.add_mod,Nat.mod_mul_mod,<- Nat.add_mod,Wy]
  rw[this]
theorem IF(mask:Nat):∀(n i aW:Nat),i<=mask->(lp mask n (i,aW)).1<=mask
 | 0,i,aW,h=>h
 | n+1,i,aW,h=>IF mask n _ _ (nG mask i aW)
theorem Aw(h:Int):SetTable.bits h<2 ^ 64:=by
 unfold SetTable.bits;have a:=VF h (show(2 ^ 64:Int)≠0 by decide);have b:=Vd h (show(0:Int)<2 ^ 64 by decide);have c:((2:Int) ^ 64)=((2 ^ 64:Nat):Int):=by decide
 lia
theorem meets(k:Nat)(mask:Nat)(hk:mask+1=2 ^ k)(i aW x:Nat)(hi:i<=mask)(hp:aW<2 ^ 64)(hx:x<=mask):∃n,n<=13+mask/\(lp mask n (i,aW)).1=x:=by
 have z:lp mask 13 (i,aW)=((lp mask 13 (i,aW)).1,0):=by
  have:=zI mask 13 i aW;rw[Nat.div_eq_of_lt (W8 hp (by decide))]at this;exact Prod.ext rfl this
 obtain⟨n,h1,h2⟩:=full k (lp mask 13 (i,aW)).1 x;refine⟨13+n,by lia,?_⟩;rw[xP mask n 13,z,zl mask n _ (IF mask 13 i aW hi)];show g5 n _%(mask+1)=x;rw[hk,h2,<- hk,Wg (by lia)]
theorem kR(mask:Nat)(p:SetTable.Probe)(h:p.dummy=none):∀m,(it mask p m).dummy=none
 | 0=>h
 | m+1=>by
  show(xj mask (it mask p m)).dummy=none;unfold xj
  split
  .exact kR mask p h m
  .exact kR mask p h m
theorem Iz(mask i aW:Nat)(hi:i<=mask):∀m,(it mask (st mask i aW) m).i<=mask/\(it mask (st mask i aW) m).j+(it mask (st mask i aW) m).more<=mask
 | 0=>⟨hi,by have:=sW mask i hi;show i+(SetTable.runEnd mask i-i)<=mask;lia⟩
 | m+1=>by
  obtain⟨h1,h2⟩:=Iz mask i aW hi m;have e:it mask (st mask i aW) (m+1)=xj mask (it mask (st mask i aW) m):=rfl;rw[e];generalize it mask (st mask i aW) m=p at *;unfold xj
  split
  .exact⟨h1,by dsimp only;lia⟩
  .have hl:=nG mask p.i p.perturb;have hr:=sW mask _ hl;exact⟨hl,by dsimp only;lia⟩
structure Ok(t:SetTable)(hs:List Int):Prop where
 dum:t.dummies=#[]
 pw:∃k,t.mask+1=2 ^ k
 up:t.place.toList.Pairwise (· < ·)
 le:∀x∈t.place.toList,x<=t.mask
 len:t.place.size=hs.length
 lt:t.place.size<=t.mask
 ch:∀q∈t.place.toList.zip hs,∃m,(it t.mask (t.probeStart q.2) m).j=q.1/\∀m'<m,(it t.mask (t.probeStart q.2) m').j∈t.place.toList
theorem oE(mask:Nat)(h:Int):SetTable.bits h%(mask+1)<=mask:=by
 have:=XD (SetTable.bits h) (show 0<mask+1 by lia);lia
theorem rG{l:X3}{mask:Nat}(hk:∃k,mask+1=2 ^ k)(up:l.Pairwise (· < ·))(hl:l.length<=mask)(i aW:Nat)(hi:i<=mask)(hp:aW<2 ^ 64) :
  ∃n,n<=13+mask/\(lp mask n (i,aW)).1∉l:=by
 obtain⟨k,hk⟩:=hk;obtain⟨x,_,x2,x3⟩:=gap l 0 up λ_ _=>UY _;obtain⟨n,h1,h2⟩:=meets k mask hk i aW x hi hp (by lia);exact⟨n,h1,by rw[h2];exact x3⟩
theorem Ok.soon{t:SetTable}{hs:X4}(o:Ok t hs)(h:Int):∃m,m<10*SetTable.turns t.mask/\(it t.mask (t.probeStart h) m).j∉t.place.toList:=by
 obtain⟨n,h1,h2⟩:=rG o.pw o.up (by simpa using o.lt) _ _ (oE t.mask h) (Aw h);obtain⟨m,h3,h4⟩:=Ja t.mask n _ (SetTable.bits h) (oE t.mask h);refine⟨m,by unfold SetTable.turns;lia,?_⟩;rw[u7,h4];exact h2
theorem vt(hd:t.dummies=#[])(up:t.place.toList.Pairwise (· < ·))(ha:Nat->Int)(h:Int):∀(fuel:Nat)(p:SetTable.Probe),p.dummy=none->(∃m,m<fuel/\(it t.mask p m).j∉t.place.toList)->
  ∃met m,SetTable.probe.go t ha h fuel p=some met/\(∀m'<m,∃i,t.place[i]?=some (it t.mask p m').j/\ha i≠h)/\
   ((met=.empty (it t.mask p m).j none/\(it t.mask p m).j∉t.place.toList)\/∃i,t.place[i]?=some (it t.mask p m).j/\ha i=h/\met=.candidate (it t.mask p m).j i (it t.mask p (m+1)))
 | 0,p,_,⟨m,h1,_⟩=>by lia
 | fuel+1,p,hp,⟨m,h1,h2⟩=>by
  unfold SetTable.probe.go
  by_cases hm:p.j∈t.place.toList
  .obtain⟨i,hi⟩:=UF.mp hm;have hi':t.place[i]?=some p.j:=by simpa using hi
   rw[mE up hi'];dsimp only
   by_cases hh:ha i=h
   .rw[j_ (by simpa using hh)];exact⟨_,0,rfl,λm' z=>by lia,.inr ⟨i,hi',hh,rfl⟩⟩
   .rw[h_ (by simpa using hh),KG];have Sx:m≠0:=λz=>h2 (by rw[z];exact hm);obtain⟨m1,rfl⟩:∃m1,m=m1+1:=⟨m-1,by lia⟩;obtain⟨met,m2,g1,g2,g3⟩:=vt hd up ha h fuel (xj t.mask p) (by have:=kR t.mask p hp 1;exact this) ⟨m1,by lia,by rw[<- lO];exact h2⟩;refine⟨met,m2+1,g1,λm' hm'=>?_,?_⟩
    .cases m' with
     | zero=>exact⟨i,hi',hh⟩
     | succ m'=>rw[lO];exact g2 m' (by lia)
    .rw[lO,lO];exact g3
  .rw[xW hd hm];dsimp only;exact⟨_,0,rfl,λm' z=>by lia,.inl ⟨by rw[hp];rfl,hm⟩⟩
theorem zU:∀(p:Nat)(xs:List α)(ys:List β)(x:α)(y:β),xs.length=ys.length->p<=xs.length->(xs.take p++x::xs.drop p).zip (ys.take p++y::ys.drop p)=(xs.zip ys).take p++(x,y)::(xs.zip ys).drop p
 | 0,xs,ys,x,y,_,_=>rfl
 | p+1,[],_,_,_,_,h=>by simp at h
 | p+1,_::_,[],_,_,h,_=>by simp at h
 | p+1,a::xs,b::ys,x,y,h,hp=>by
  simp only[W6,List.drop_succ_cons,Vv,U4];rw[zU p xs ys x y (by simpa using h) (by simpa using hp)]
theorem tz(p:Nat)(l:List α)(x z:α):z∈l.take p++x::l.drop p↔z=x\/z∈l:=by
 rw[Ub,p_];constructor
 .rintro(h | h | h)
  .exact .inr (List.mem_of_mem_take h)
  .exact .inl h
  .exact .inr (W2 h)
 .rintro(h | h)
  .exact .inr (.inl h)
  .rw[<- Vc p l]at h;rcases Ub.mp h with h | h
   .exact .inl h
   .exact .inr (.inr h)
theorem sy(p:Nat)(l:List α)(x:α):(l.take p++x::l.drop p).length=l.length+1:=by
 rw[x_,z_,<- WW,<- x_,Vc]
theorem Ok.put(o:Ok t hs)(h:Int)(m:Nat)(hj:(it t.mask (t.probeStart h) m).j∉t.place.toList)(hb:∀m'<m,(it t.mask (t.probeStart h) m').j∈t.place.toList)(hlt:t.place.size+1<=t.mask)(pl:Bool) :
  ∃p,(t.put (it t.mask (t.probeStart h) m).j).2=p/\p<=hs.length/\Ok {(t.put (it t.mask (t.probeStart h) m).j).1 with plain:=pl} (hs.take p++h::hs.drop p):=by
 have hle:=(Iz t.mask _ (SetTable.bits h) (oE t.mask h) m).2;rw[<- u7]at hle;generalize hjj:(it t.mask (t.probeStart h) m).j=j at *;obtain⟨b1,b2,b3⟩:=u6 t.place j o.up;refine⟨_,rfl,by rw[<- o.len];exact b1,?_⟩;show Ok {t with place:=SetTable.insertAt t.place (SetTable.below t.place j) j,dummies:=if SetTable.has t.dummies j then SetTable.eraseAt t.dummies (SetTable.below t.dummies j)else t.dummies,plain:=pl} (hs.take (SetTable.below t.place j)++h::hs.drop (SetTable.below t.place j));have hd:(if SetTable.has t.dummies j then SetTable.eraseAt t.dummies (SetTable.below t.dummies j)else t.dummies)=#[]:=by
  rw[o.dum,Ao];rfl
 rw[hd];have hl:t.place.toList.length=hs.length:=by rw[<- o.len];simp
 have e1:=SetTable.toList_insertAt t.place (SetTable.below t.place j) j;have hsz:(SetTable.insertAt t.place (SetTable.below t.place j) j).size=t.place.size+1:=by
  rw[<- Uk,e1,sy];simp
 refine⟨rfl,o.pw,?_,λx hx=>?_,?_,?_,λq hq=>?_⟩
 .show List.Pairwise _ (SetTable.insertAt t.place _ j).toList;rw[e1];have hup:=o.up;rw[<- Vc (SetTable.below t.place j) t.place.toList]at hup;obtain⟨u1,u2,u3⟩:=Us.mp hup;refine Us.mpr ⟨u1,Ue.mpr ⟨λx hx=>?_,u2⟩,λx hx y hy=>?_⟩
  .have:=b3 x hx;have:x≠j:=λz=>hj (z▸W2 hx)
   lia
  .rcases p_.mp hy with rfl | hy
   .exact b2 x hx
   .exact u3 x hx y hy
 .have uO:x∈(SetTable.insertAt t.place (SetTable.below t.place j) j).toList:=hx;rw[e1,tz]at uO;rcases uO with rfl | uO
  .show x<=t.mask;lia
  .exact o.le x uO
 .show(SetTable.insertAt t.place _ j).size=_;rw[hsz,sy,o.len]
 .show(SetTable.insertAt t.place _ j).size<=_;rw[hsz];exact hlt
 .have Cu:q∈(SetTable.insertAt t.place (SetTable.below t.place j) j).toList.zip (hs.take (SetTable.below t.place j)++h::hs.drop (SetTable.below t.place j)):=hq;have sub:∀x,x∈t.place.toList->x∈(SetTable.insertAt t.place (SetTable.below t.place j) j).toList:=λx hx=>by rw[e1,tz];exact .inr hx
  rw[e1,zU _ _ _ _ _ hl (by simpa using b1),tz]at Cu;rcases Cu with rfl | Cu
  .exact⟨m,hjj,λm' hm'=>sub _ (hb m' hm')⟩
  .obtain⟨m2,g1,g2⟩:=o.ch q Cu;exact⟨m2,g1,λm' hm'=>sub _ (g2 m' hm')⟩
def taken(ow:Array (Option Nat))(j:Nat):Prop:=∃k,ow[j]?=some (some k)
theorem xD(n:Nat)(f:Nat->Bool):(∃k,k<n/\(List.range n).find? f=some k/\f k=true/\∀k'<k,f k'=false)\/((List.range n).find? f=none/\∀k<n,f k=false):=by
 cases e:(List.range n).find? f with
 | none=>
  right;refine⟨rfl,λk hk=>?_⟩;have:=List.find?_eq_none.mp e k (UA.mpr hk);simpa using this
 | some k=>
  left;obtain⟨h1,h2⟩:=List.find?_eq_some_iff_append.mp e;obtain⟨as,bs,h3,h4⟩:=h2;have hk:k<n:=by
   have:k∈List.range n:=by rw[h3];simp
   exact UA.mp this
  refine⟨k,hk,rfl,h1,λk' hk'=>?_⟩;have hlen:as.length=k:=by
   have e1:(List.range n)[as.length]?=some k:=by rw[h3];simp
   rw[Vp (by have:=UW List.length h3;simp at this;lia)]at e1;exact Option.some.inj e1
  have:k'∈as:=by
   have e1:(List.range n)[k']?=some k':=Vp (by lia);rw[h3,S_ (by lia)]at e1;exact I_ e1
  simpa using h4 k' this
theorem nH(hsz:ow.size=mask+1):∀(fuel i aW:Nat),i<=mask->(∃n,n<fuel/\¬taken ow (lp mask n (i,aW)).1)->
  ∃m,SetTable.layClean.free mask ow fuel i aW=some (it mask (st mask i aW) m).j/\¬taken ow (it mask (st mask i aW) m).j/\(it mask (st mask i aW) m).j<=mask/\∀m'<m,taken ow (it mask (st mask i aW) m').j
 | 0,i,aW,_,⟨n,h,_⟩=>by lia
 | fuel+1,i,aW,hi,⟨n,hn,ht⟩=>by
  obtain⟨r1,r2,r3⟩:=sW mask i hi;unfold SetTable.layClean.free;have gd:∀j,j<=mask->((ow.getD j (some 0)).isNone=true↔¬taken ow j):=λj hj=>by
   have hl:j<ow.size:=by lia
   unfold taken;rw[Ux hl];simp only[Array.getD,hl,dif_pos];cases h:ow[j]with
   | none=>simp[h]
   | some k=>simp[h]
  rcases xD (SetTable.runEnd mask i+1-i) (λk=>(ow.getD (i+k) (some 0)).isNone)with ⟨k,k1,k2,k3,k4⟩ | ⟨k2,k4⟩
  .rw[k2];dsimp only;have e:(it mask (st mask i aW) k).j=i+k:=by rw[oz mask i aW k (by lia)]
   refine⟨k,by rw[e],by rw[e];exact(gd _ (by lia)).mp k3,by rw[e];lia,λm' hm'=>?_⟩;rw[oz mask i aW m' (by lia)];have h1:=k4 m' hm';have h2:=gd (i+m') (by lia)
   by_cases hh:taken ow (i+m')
   .exact hh
   .rw[h2.mpr hh]at h1;cases h1
  .rw[k2];dsimp only;have n0:n≠0:=λz=>by
    subst z;have h1:=k4 0 (by lia);rw[Nat.add_zero,(gd i hi).mpr ht]at h1;cases h1
   obtain⟨n',rfl⟩:∃n',n=n'+1:=⟨n-1,by lia⟩;obtain⟨m,g1,g2,g3,g4⟩:=nH hsz fuel _ (SetTable.leap mask i aW).2 (nG mask i aW) ⟨n',by lia,ht⟩;rw[<- tQ mask i aW hi,<- ko]at g1 g2 g3;refine⟨_,g1,g2,g3,λm' hm'=>?_⟩
   by_cases hh:m'<SetTable.runEnd mask i-i+1
   .rw[oz mask i aW m' (by lia)];have h1:=k4 m' (by lia);have h2:=gd (i+m') (by lia)
    by_cases hk:taken ow (i+m')
    .exact hk
    .rw[h2.mpr hk]at h1;cases h1
   .have:=g4 (m'-(SetTable.runEnd mask i-i+1)) (by lia);rw[<- tQ mask i aW hi,<- ko]at this;rw[show SetTable.runEnd mask i-i+1+(m'-(SetTable.runEnd mask i-i+1))=m' by lia]at this;exact this
structure Lay(mask:Nat)(done:List Int)(ow:Array (Option Nat)):Prop where
 sz:ow.size=mask+1
 bd:∀(j k:Nat),ow[j]?=some (some k)->k<done.length
 on:∀k<done.length,∃j:Nat,ow[j]?=some (some k)
 inj:∀(j j' k:Nat),ow[j]?=some (some k)->ow[j']?=some (some k)->j=j'
 ch:∀(j k:Nat)(h:Int),ow[j]?=some (some k)->done[k]?=some h->∃m,(it mask (st mask (SetTable.bits h%(mask+1)) (SetTable.bits h)) m).j=j/\∀m'<m,taken ow (it mask (st mask (SetTable.bits h%(mask+1)) (SetTable.bits h)) m').j
def lv(mask:Nat)(ow:Array (Option Nat)):List (Nat×Nat):=(List.range (mask+1)).filterMap λj=>(ow.getD j none).map (j,·)
theorem getD_some{ow:Array (Option Nat)}{j k:Nat}:ow.getD j none=some k↔ow[j]?=some (some k):=by
 by_cases h:j<ow.size
 .simp[Array.getD,h]
 .simp[Array.getD,h]
theorem iY{mask:Nat}{ow:Array (Option Nat)}(hsz:ow.size=mask+1){q:Nat×Nat}:q∈lv mask ow↔ow[q.1]?=some (some q.2):=by
 unfold lv;rw[Xb];constructor
 .rintro⟨j,_,h⟩;obtain⟨k,h1,h2⟩:=T_.mp h;subst h2;exact getD_some.mp h1
 .intro h;refine⟨q.1,UA.mpr ?_,T_.mpr ⟨q.2,getD_some.mpr h,rfl⟩⟩;have:=(Vx.mp h).1
  lia
theorem Ez(mask:Nat)(ow:Array (Option Nat)):(lv mask ow).Pairwise λa b=>a.1<b.1:=by
 unfold lv;rw[List.pairwise_filterMap];refine Vh (R:=λ(x y:Nat)=>x<y) (λ{x y} _ _ QP a ha b hb=>?_) Wz;obtain⟨_,_,rfl⟩:=T_.mp ha;obtain⟨_,_,rfl⟩:=T_.mp hb;exact QP
theorem Lay.nodup(L:Lay mask done ow):((lv mask ow).map (·.2)).Nodup:=by
 unfold List.Nodup;rw[UK];refine Vh (λ{a b} ha hb Jg e=>?_) (Ez mask ow);have h1:=(iY L.sz).mp ha;have h2:=(iY L.sz).mp hb;rw[e]at h1;have:=L.inj _ _ _ h1 h2
 lia
theorem Lay.perm(L:Lay mask done ow):((lv mask ow).map (·.2)).Perm (List.range done.length):=by
 refine(UT L.nodup List.nodup_range).mpr λk=>?_;rw[u_,UA];constructor
 .rintro⟨q,hq,rfl⟩;exact L.bd _ _ ((iY L.sz).mp hq)
 .intro hk;obtain⟨j,hj⟩:=L.on k hk;exact⟨(j,k),(iY L.sz).mpr hj,rfl⟩
theorem Lay.len(L:Lay mask done ow):(lv mask ow).length=done.length:=by
 have:=L.perm.length_eq;simpa using this
theorem qT(hsz:ow.size=mask+1)(j:Nat):taken ow j↔j∈(lv mask ow).map (·.1):=by
 rw[u_];constructor
 .rintro⟨k,hk⟩;exact⟨(j,k),(iY hsz).mpr hk,rfl⟩
 .rintro⟨q,hq,rfl⟩;exact⟨q.2,(iY hsz).mp hq⟩
theorem Lay.step(hk:∃k,mask+1=2 ^ k)(L:Lay mask done ow)(hr:done.length<=mask)(h:Int) :
  ∃j,SetTable.layClean.free mask ow (SetTable.turns mask) (SetTable.bits h%(mask+1)) (SetTable.bits h)=some j/\Lay mask (done++[h]) (ow.setIfInBounds j (some done.length)):=by
 have hup:((lv mask ow).map (·.1)).Pairwise (· < ·):=UK.mpr (Ez mask ow);obtain⟨n,h1,h2⟩:=rG hk hup (by rw[c_,L.len];exact hr) _ _ (oE mask h) (Aw h);rw[<- qT L.sz]at h2;obtain⟨m,g1,g2,g3,g4⟩:=nH L.sz (SetTable.turns mask) _ (SetTable.bits h) (oE mask h) ⟨n,by unfold SetTable.turns;lia,h2⟩;refine⟨_,g1,?_⟩;generalize hj:(it mask (st mask (SetTable.bits h%(mask+1)) (SetTable.bits h)) m).j=j at *;have hjl:j<ow.size:=by rw[L.sz];lia
 have at_:∀x:Nat,(ow.setIfInBounds j (some done.length))[x]?=if x=j then some (some done.length)else ow[x]?:=λx=>by
  rw[Array.getElem?_setIfInBounds]
  by_cases e:j=x
  .subst e;simp[hjl]
  .rw[h_ e,h_ (UB e)]
 have keep:∀x,taken ow x->taken (ow.setIfInBounds j (some done.length)) x:=λx aG=>by
  obtain⟨k,hx⟩:=aG;refine⟨k,?_⟩;rw[at_,h_ (λz=>g2 ⟨k,by rw[<- z];exact hx⟩)];exact hx
 refine⟨by rw[Array.size_setIfInBounds];exact L.sz,λx k hx=>?_,λk hk'=>?_,λx y k hx hy=>?_,λx k h' hx hh=>?_⟩
 .rw[at_]at hx;rw[x_,UG]
  split at hx
  .cases hx;lia
  .have:=L.bd x k hx;lia
 .rw[x_,UG]at hk'
  by_cases e:k=done.length
  .exact⟨j,by rw[at_,j_ rfl,e]⟩
  .obtain⟨x,hx⟩:=L.on k (by lia);exact⟨x,by rw[at_,h_ (λz=>g2 ⟨k,by rw[<- z];exact hx⟩)];exact hx⟩
 .rw[at_]at hx hy
  split at hx<;>split at hy
  .lia
  .cases hx;have:=L.bd y _ hy;lia
  .cases hy;have:=L.bd x _ hx;lia
  .exact L.inj x y k hx hy
 .rw[at_]at hx
  split at hx
  .rename_i e;cases hx;rw[R_ (m_ _),Nat.sub_self]at hh;cases hh;exact⟨m,by rw[hj,e],λm' hm'=>keep _ (g4 m' hm')⟩
  .have hk':=L.bd x k hx;rw[S_ hk']at hh;obtain⟨m2,a1,a2⟩:=L.ch x k h' hx hh;exact⟨m2,a1,λm' hm'=>keep _ (a2 m' hm')⟩
theorem wg(hk:∃k,mask+1=2 ^ k):∀(rest done:X4)(ow:Array (Option Nat)),Lay mask done ow->done.length+rest.length<=mask->
  ∃Ph,rest.foldl (λacc h=>do
   let (owner,k) <- acc
   let j <- SetTable.layClean.free mask owner (SetTable.turns mask) (SetTable.bits h%(mask+1)) (SetTable.bits h)
   pure (owner.setIfInBounds j (some k),k+1)) (some (ow,done.length))=some (Ph,done.length+rest.length)/\Lay mask (done++rest) Ph
 | [],done,ow,L,_=>⟨ow,rfl,by rw[Uz];exact L⟩
 | h::rest,done,ow,L,hl=>by
  rw[z_]at hl;obtain⟨j,h1,L2⟩:=L.step hk (by lia) h;obtain⟨Ph,h3,L3⟩:=wg hk rest (done++[h]) _ L2 (by rw[x_,UG];lia);refine⟨Ph,?_,by rw[U8]at L3;exact L3⟩;rw[V3];have e:(do
   let (owner,k) <- some (ow,done.length)
   let j <- SetTable.layClean.free mask owner (SetTable.turns mask) (SetTable.bits h%(mask+1)) (SetTable.bits h)
   pure (owner.setIfInBounds j (some k),k+1):Option _)=some (ow.setIfInBounds j (some done.length),done.length+1):=by
   show(SetTable.layClean.free mask ow (SetTable.turns mask) (SetTable.bits h%(mask+1)) (SetTable.bits h)).bind _=_;rw[h1];rfl
  rw[e];rw[x_,UG]at h3;rw[h3,z_,WW,Nat.add_comm 1]
theorem Bf(mask:Nat):Lay mask [] (Array.replicate (mask+1) none):=by
 have no:∀(j k:Nat),(Array.replicate (mask+1) (none:Option Nat))[j]?≠some (some k):=λj k h=>by
  rw[Array.getElem?_replicate]at h
  split at h<;>cases h
 exact⟨by simp,λj k h=>absurd h (no j k),λk h=>by simp at h,λj _ k h=>absurd h (no j k),λj k _ h=>absurd h (no j k)⟩
theorem wb(hk:∃k,mask+1=2 ^ k)(hs:Array Int)(hl:hs.size<=mask):∃ow,SetTable.layClean mask hs=some ow/\Lay mask hs.toList ow:=by
 obtain⟨ow,h1,h2⟩:=wg hk hs.toList [] _ (Bf mask) (by simpa using hl);refine⟨ow,?_,h2⟩;unfold SetTable.layClean;rw[<- Array.foldl_toList];have:(List.foldl (λacc h=>do
   let (owner,k) <- acc
   let j <- SetTable.layClean.free mask owner (SetTable.turns mask) (SetTable.bits h%(mask+1)) (SetTable.bits h)
   pure (owner.setIfInBounds j (some k),k+1)) (some (Array.replicate (mask+1) none,0)) hs.toList)=some (ow,0+hs.toList.length):=h1
 rw[this];rfl
theorem HR{mask:Nat}(hk:∃k,mask+1=2 ^ k)(finger moves:Nat)(led plain:Bool){α:Type}(es:Array (Int×α))(hl:es.size<=mask) :
  ∃t' order es',SetTable.laid mask finger moves led plain (es.map (·.1))=some (t',order)/\order.filterMap (es[·]?)=es'/\es'.size=es.size/\es'.toList.Perm es.toList/\t'.mask=mask/\t'.led=led/\t'.place.size=es.size/\Ok t' (es'.toList.map (·.1)):=by
 obtain⟨ow,h1,L⟩:=wb hk (es.map (·.1)) (by simpa using hl);have hpm:=L.perm;have hln:=L.len;have HX:(es.map (·.1)).toList.length=es.size:=by simp
 rw[HX]at hpm hln;have e0:((lv mask ow).map (·.2)).toArray.filterMap (es[·]?)=(((lv mask ow).map (·.2)).filterMap (es[·]?)).toArray:=by simp
 have hperm:(((lv mask ow).map (·.2)).filterMap (es[·]?)).Perm es.toList:=by
  have:=hpm.filterMap (es[·]?);rwa [filterMap_getElem?_range]at this
 have Oc:∀q∈lv mask ow,q.2<es.size:=λq hq=>by
  have:=L.bd _ _ ((iY L.sz).mp hq);rwa [HX]at this
 have Lo:(((lv mask ow).map (·.2)).filterMap (es[·]?)).map (·.1)=(lv mask ow).map λq=>((es.map (·.1)).toList.getD q.2 0):=by
  have:∀l:List (Nat×Nat),(∀q∈l,q.2<es.size)->((l.map (·.2)).filterMap (es[·]?)).map (·.1)=l.map λq=>((es.map (·.1)).toList.getD q.2 0):=by
   intro l
   induction l with
   | nil=>intro _;rfl
   | cons q l ih=>
    intro hq;have hh:=hq q g_;rw[A_,List.filterMap_cons_some (b:=es[q.2]) (Ux hh),A_,ih λx hx=>hq x (f_ _ hx),A_];congr 1;simp[List.getD,hh]
  exact this _ Oc
 refine⟨_,_,_,(by unfold SetTable.laid;rw[h1];rfl),rfl,?_,?_,rfl,rfl,?_,?_⟩
 .show(((lv mask ow).map (·.2)).toArray.filterMap (es[·]?)).size=_;rw[e0,r_,hperm.length_eq];simp
 .show(((lv mask ow).map (·.2)).toArray.filterMap (es[·]?)).toList.Perm _;rw[e0];exact hperm
 .show((lv mask ow).map (·.1)).toArray.size=_;simp[hln]
 .have hl2:(((lv mask ow).map (·.2)).toArray.filterMap (es[·]?)).toList.map (·.1)=(lv mask ow).map λq=>((es.map (·.1)).toList.getD q.2 0):=by
   rw[e0];exact Lo
  have pm:∀x,x∈((lv mask ow).map (·.1))↔taken ow x:=λx=>(qT L.sz x).symm;refine⟨rfl,hk,UK.mpr (Ez mask ow),λx hx=>?_,?_,?_,λq hq=>?_⟩
  .obtain⟨k,hx⟩:=(pm x).mp hx;have:=(Vx.mp hx).1;show x<=mask;have:=L.sz
   lia
  .show((lv mask ow).map (·.1)).toArray.size=_;rw[r_,c_];exact(by rw[show(((lv mask ow).map (·.2)).toArray.filterMap (es[·]?)).toList.map (·.1)=(lv mask ow).map λq=>((es.map (·.1)).toList.getD q.2 0)from hl2,c_]:(lv mask ow).length=((((lv mask ow).map (·.2)).toArray.filterMap (es[·]?)).toList.map (·.1)).length)
  .show((lv mask ow).map (·.1)).toArray.size<=mask;simp[hln];exact hl
  .have Cu:q∈((lv mask ow).map (·.1)).zip ((((lv mask ow).map (·.2)).toArray.filterMap (es[·]?)).toList.map (·.1)):=hq;rw[hl2,List.zip_map']at Cu;obtain⟨r,hr,rfl⟩:=u_.mp Cu;have hr1:=(iY L.sz).mp hr;have hr2:=Oc r hr;have hr3:(es.map (·.1)).toList[r.2]?=some ((es.map (·.1)).toList.getD r.2 0):=by
    have:r.2<(es.map (·.1)).toList.length:=by simpa using hr2
    rw[s_,l_ this];rfl
   obtain⟨m,a1,a2⟩:=L.ch r.1 r.2 _ hr1 hr3;exact⟨m,a1,λm' hm'=>(pm _).mpr (a2 m' hm')⟩
structure SK{prog:Program}{w:World}{K:Type}[DecidableEq K](knd:HeapKind prog w K):Prop where
 cls:∀{A:Around}{E:Value->Shared->Prop}{s:Shared}{k:K}{a:Addr}{Q:Bool->Shared->Prop},knd.is s.heap k a->Q false s->wpAny (model prog w) A (ofAClassStatement 8 (.ref a)) Q E s
 hbv:∀{A:Around}{E:Value->Shared->Prop}{s:Shared}{k:K}{a:Addr}{Q:Bool->Shared->Prop},knd.is s.heap k a->(∀b,Q b s)->wpAny (model prog w) A (hashByValue 8 (.ref a)) Q E s
def fA:X3:=[7,31,127,511,2047,8191]
theorem tO(h:m∈fA):7<=m/\m<=8191/\m%2=1:=by
 unfold fA at h;simp only[p_,Ul,Vq]at h;rcases h with rfl | rfl | rfl | rfl | rfl | rfl<;>decide
section
variable {prog:X9}{w:Yb}{K:Type}[DecidableEq K]{knd:HeapKind prog w K}{A:X_}{E:XO}{s:X8}
def ent(knd:HeapKind prog w K)(x:K×Ye):Int×X7:=(knd.hash x.1,.ref x.2)
structure Tab(knd:HeapKind prog w K)(es:Array (Int×Value))(t:SetTable)(xs:List (K×Addr)):Prop where
 perm:es.toList.Perm (xs.map (ent knd))
 ok:Ok t (es.toList.map (·.1))
 msk:t.mask∈fA
 nf:t.place.size*5<t.mask*3
theorem Tab.size(T:Tab knd es t xs):es.size=xs.length:=by
 have:=T.perm.length_eq;simpa using this
theorem Tab.psize(T:Tab knd es t xs):t.place.size=es.size:=by
 have:=T.ok.len;simpa using this
theorem fits_of(o:Ok t hs)(hn:t.place.size=n):t.fits n=true:=by
 unfold SetTable.fits SetTable.fill;rw[o.dum];have:=o.lt;simp[hn];lia
theorem Tab.fits(T:Tab knd es t xs):t.fits es.size=true:=fits_of T.ok T.psize
theorem Tab.mem{es:Array (Int×X7)}{t:SetTable}{xs:List (K×Ye)}(T:Tab knd es t xs){i:Nat}{e:Int×X7}(h:es[i]?=some e):∃x∈xs,e=ent knd x:=by
 have h1:e∈es.toList:=by have:=Array.mem_of_getElem? h;simpa using this
 obtain⟨x,hx,e2⟩:=u_.mp (T.perm.mem_iff.mp h1);exact⟨x,hx,e2.symm⟩
theorem GW(S:SK knd){b:Ye}{k:K}(fX:knd.is s.heap k b){stored:XX}(hst:∀v∈stored,∃k' c,v=.ref c/\knd.is s.heap k' c){Q:Bool->X8->Prop}(h:Q false s) :
  wpAny (model prog w) A (searchCouldBeSeen (.ref b) stored) Q E s:=by
 unfold searchCouldBeSeen;refine b_ ?_;refine VO _ (λrest r s'=>s'=s/\r=(none,())/\∀v∈rest,∃k' c,v=.ref c/\knd.is s.heap k' c) _ ?_ ?_ _ _ ⟨rfl,rfl,hst⟩
 .rintro x rest r s' ⟨rfl,rfl,hr⟩;obtain⟨k',c,rfl,hc⟩:=hr x g_;dsimp only;have Pi:∀v∈rest,∃k' c,v=Value.ref c/\knd.is s'.heap k' c:=λv hv=>hr v (f_ _ hv)
  split
  .exact d_ ⟨rfl,rfl,Pi⟩
  .refine b_ (knd.quiet fX ?_);simp only[WX,E_,Uu];refine b_ (knd.quiet hc ?_);simp only[WX,E_,Uu];refine b_ (S.cls fX ?_);simp only[E_,Uu];refine b_ (S.cls hc ?_);simp only[E_,Uu];exact d_ ⟨rfl,rfl,Pi⟩
 .rintro r s' ⟨rfl,rfl,_⟩;exact d_ h
theorem vk(h:Q true s):wpAny (model prog w) A (isSame (.ref c) (.ref c)) Q E s:=by
 unfold isSame;dsimp only;rw[j_ (by simp)];exact d_ h
theorem l7(S:SK knd)(hu:knd.room A){a b:Ye}{k:K}{o:Obj}{es:Array (Int×X7)}{ep:Nat}{t:SetTable}{xs:List (K×Ye)}(ho:s.heap.get? a=some o)(hd:o.data=.set es ep t)(T:Tab knd es t xs)
  (wW:∀x∈xs,knd.is s.heap x.1 x.2) (fX:knd.is s.heap k b) {mO:Bool} {Q:SetFound->X8->Prop}
  (xq:∀c,(k,c)∈xs->∀i,Q (.there (if mO=true then none else some i)) s)
  (hout:(∀c,(k,c)∉xs)->∀m,(it t.mask (t.probeStart (knd.hash k)) m).j∉t.place.toList->(∀m'<m,(it t.mask (t.probeStart (knd.hash k)) m').j∈t.place.toList)->Q (.free (it t.mask (t.probeStart (knd.hash k)) m).j false) s)
  (mf:Nat) (hmf:mf<10*SetTable.turns t.mask) (hfr:(it t.mask (t.probeStart (knd.hash k)) mf).j∉t.place.toList) :
  ∀(fuel m:Nat)(Fk:Option SetTable.Probe),Fk.getD (t.probeStart (knd.hash k))=it t.mask (t.probeStart (knd.hash k)) m->
   (∀m'<m,(it t.mask (t.probeStart (knd.hash k)) m').j∈t.place.toList/\∀i:Nat,t.place[i]?=some (it t.mask (t.probeStart (knd.hash k)) m').j->∀c,(k,c)∈xs->es[i]?≠some (ent knd (k,c)))->mf-m<fuel->
   wpAny (model prog w) A (setSearchFrom a (.ref b) (knd.hash k) mO fuel Fk) Q E s
 | 0,m,Fk,_,_,h=>by lia
 | fuel+1,m,Fk,hst,Pj,hfu=>by
  have hle:m<=mf:=by
   rcases W9 mf m with h | h
   .exact absurd (Pj mf h).1 hfr
   .exact h
  have f:=T.fits;unfold setSearchFrom;refine b_ (VI ho hd f ?_);dsimp only;rw[h_ (by unfold SetTable.gaveWay;have:=(tO T.msk).2.2;simp[this])];rw[hst];have hdum:(it t.mask (t.probeStart (knd.hash k)) m).dummy=none:=kR _ _ rfl m;obtain⟨met,m1,g1,g2,g3⟩:=vt T.ok.dum T.ok.up (λi=>(es[i]?.map (·.1)).getD 0) (knd.hash k) (10*SetTable.turns t.mask) (it t.mask (t.probeStart (knd.hash k)) m) hdum ⟨mf-m,by lia,by rw[<- ko,show m+(mf-m)=mf by lia];exact hfr⟩;generalize QQ:t.probe _ (knd.hash k) (it t.mask (t.probeStart (knd.hash k)) m)=pr;have hpr2:pr=some met:=QQ.symm.trans g1;subst hpr2;dsimp only;simp only[<- ko]at g2 g3;have HY:∀m'<m+m1,(it t.mask (t.probeStart (knd.hash k)) m').j∈t.place.toList/\∀i:Nat,t.place[i]?=some (it t.mask (t.probeStart (knd.hash k)) m').j->∀c,(k,c)∈xs->es[i]?≠some (ent knd (k,c)):=λm' hm'=>by
   by_cases h:m'<m
   .exact Pj m' h
   .obtain⟨i,e1,e2⟩:=g2 (m'-m) (by lia);rw[show m+(m'-m)=m' by lia]at e1;have e1':t.place.toList[i]?=some (it t.mask (t.probeStart (knd.hash k)) m').j:=by simpa using e1
    refine⟨I_ e1',λi' hi' c hc z=>?_⟩;have e3:=below_at T.ok.up e1;have e4:=below_at T.ok.up hi';rw[e3]at e4;subst e4;rw[z]at e2;exact e2 rfl
  rcases g3 with ⟨rfl,g4⟩ | ⟨i,p1,p2,rfl⟩
  .dsimp only;refine d_ (hout (λc hc=>?_) (m+m1) g4 λm' hm'=>(HY m' hm').1);have h1:ent knd (k,c)∈es.toList:=T.perm.mem_iff.mpr (Uq hc);obtain⟨i,hi⟩:=UF.mp h1;have hil:=(k_.mp hi).1;have j8:i<t.place.toList.length:=by have:=T.psize;simp at hil ⊢;lia
   have hz:(t.place.toList[i],knd.hash k)∈t.place.toList.zip (es.toList.map (·.1)):=by
    refine I_ (i:=i) ?_;rw[UX];exact⟨l_ j8,by rw[o_,hi];rfl⟩
   obtain⟨m0,a1,a2⟩:=T.ok.ch _ hz;simp only at a1 a2;rcases Nat.lt_trichotomy m0 (m+m1)with hlt | heq | hgt
   .refine(HY m0 hlt).2 i ?_ c hc (by simpa using hi);rw[a1];simpa using l_ j8
   .rw[<- heq,a1]at g4;exact g4 (Ut j8)
   .exact g4 (a2 _ hgt)
  .dsimp only;have hil:i<es.size:=by have:=(Vx.mp p1).1;rw[T.psize]at this;exact this
   obtain⟨e,he⟩:∃e,es[i]?=some e:=⟨es[i],Ux hil⟩;obtain⟨x,hx,rfl⟩:=T.mem he;have hxk:=wW x hx;have sj:∀m2,it t.mask (it t.mask (t.probeStart (knd.hash k)) m) m2=it t.mask (t.probeStart (knd.hash k)) (m+m2):=λm2=>(ko ..).symm;have cont:wpAny (model prog w) A (do
     let some (_,y):=es[i]? | unsupported "internal:set-entry"
     let equal <- holding [y] (eqBool y (.ref b))
     let (es',_,t') <- setState a
     if mO&&equal then return .there none
     let some same:=t'.sameMemory t.moves t.mask | unsupported "set.changed-during-lookup:is-the-new-block-at-the-old-address"
     let still <- match (if same then t'.slot (it t.mask (t.probeStart (knd.hash k)) (m+m1)).j else .empty)with
      | .live i'=>match es'[i']? with
       | some (_,y')=>do pure (if <- isSame y' y then some i' else none)
       | none=>pure none
      | _=>pure none
     match still with
     | none=>rule "set.search.anew";setSearchFrom a (.ref b) (knd.hash k) mO fuel none
     | some i'=>if equal then return .there (some i')else setSearchFrom a (.ref b) (knd.hash k) mO fuel (some (it t.mask (t.probeStart (knd.hash k)) (m+(m1+1))))) Q E s:=by
    rw[he];dsimp only[ent];refine b_ (F_ (knd.eqBool hu hxk fX ?_));refine b_ (VI ho hd f ?_);dsimp only
    by_cases HZ:x.1=k
    .rw[v_ HZ];have hin':=xq x.2 (by rw[<- HZ];exact hx);cases hadd:mO with
     | true=>
      simp only[Bool.and_self,Vi];have:=hin' 0;rw[hadd]at this;exact d_ this
     | false=>
      simp only[Xd,E_,Uu];have wX:t.sameMemory t.moves t.mask=some true:=by unfold SetTable.sameMemory;simp
      rw[wX];dsimp only;simp only[Vi];rw[mE T.ok.up p1];dsimp only;rw[he];dsimp only[ent];refine b_ (vk (b_ (d_ ?_)));simp only[Vi];have:=hin' i;rw[hadd]at this;exact d_ this
    .rw[L_ HZ];simp only[Xe,E_,Uu];have wX:t.sameMemory t.moves t.mask=some true:=by unfold SetTable.sameMemory;simp
     rw[wX];dsimp only;simp only[Vi];rw[mE T.ok.up p1];dsimp only;rw[he];dsimp only[ent];refine b_ (vk (b_ (d_ ?_)));simp only[Vi];refine l7 S hu ho hd T wW fX xq hout mf hmf hfr fuel (m+(m1+1)) _ rfl (λm' hm'=>?_) (by
      have hne:m+m1≠mf:=λz=>hfr (by
       rw[<- z];have:t.place.toList[i]?=some (it t.mask (t.probeStart (knd.hash k)) (m+m1)).j:=by simpa using p1
       exact I_ this)
      have hle2:m+m1<=mf:=by
       rcases W9 mf (m+m1)with h | h
       .exact absurd (HY mf h).1 hfr
       .exact h
      lia)
     by_cases h:m'<m+m1
     .exact HY m' h
     .have:m'=m+m1:=by lia
      subst this;have p1':t.place.toList[i]?=some (it t.mask (t.probeStart (knd.hash k)) (m+m1)).j:=by simpa using p1
      refine⟨I_ p1',λi' hi' c hc z=>?_⟩;have e3:=below_at T.ok.up p1;have e4:=below_at T.ok.up hi';rw[e3]at e4;subst e4;rw[he]at z;have z2:x.2=c:=by
       have:=Option.some.inj z;simp only[ent,Xz,Value.ref.injEq]at this;exact this.2
      have hc':=wW _ hc;simp only at hc';rw[<- z2]at hc';exact HZ (knd.inj hxk hc')
   by_cases hled:t.led=true
   .rw[h_ (by simp[hled])]
    first | exact cont | exact b_ (d_ cont)
   .rw[j_ (by simpa using hled)];refine b_ (GW S fX (λv hv=>?_) ?_)
    .obtain⟨e,Lp,rfl⟩:=u_.mp hv;have wY:e∈es.toList:=by
      have:=(Array.mem_filter.mp (Array.mem_toList_iff.mp Lp)).1;exact Array.mem_toList_iff.mpr this
     obtain⟨y,hy,rfl⟩:=u_.mp (T.perm.mem_iff.mp wY);exact⟨y.1,y.2,rfl,wW y hy⟩
    .simp only[E_,Uu]
     first | exact cont | exact b_ (d_ cont)
end
section
variable {prog:X9}{w:Yb}{K:Type}[DecidableEq K]{knd:HeapKind prog w K}{A:X_}{E:XO}{s:X8}
def c8(knd:HeapKind prog w K)(a:Ye)(xs:List (K×Ye))(h:Ya):Prop:=
 ∃o es ep t,h.get? a=some o/\o.ExactSet/\o.data=.set es ep t/\Tab knd es t xs/\(xs.map (·.1)).Nodup
theorem c8.typeIs(h:c8 knd a xs s.heap):s.TypeIs (.ref a) "set":=let ⟨o,_,_,_,ho,hc,_⟩:=h;⟨o,ho,hc.1⟩
theorem vL(h:m∈fA):10*SetTable.turns m<100000:=by
 have:=(tO h).2.1;unfold SetTable.turns;lia
theorem Ab(S:SK knd)(hu:knd.room A)(hS:c8 knd a xs s.heap)(wW:∀x∈xs,knd.is s.heap x.1 x.2)(fX:knd.is s.heap k b)
  (h:∀r:Option Nat,r.isSome=decide (k∈xs.map (·.1))->Q r s):wpAny (model prog w) A (setFind a (.ref b) (knd.hash k)) Q E s:=by
 obtain⟨o,es,ep,t,ho,_,hd,T,hn⟩:=hS;unfold setFind setFindIn;refine b_ (VI ho hd T.fits ?_);dsimp only;rw[h_ (by simp[byScan,Value.scannable])];obtain⟨mf,m1,m2⟩:=T.ok.soon (knd.hash k);have ht:=vL T.msk;unfold setSearch;refine b_ (l7 S hu ho hd T wW fX (λc hc i=>?_) (λhc m _ _=>?_) mf m1 m2 100000 0 none rfl (λm' hm'=>by lia) (by lia))
 .simp only[E_,Uu];refine d_ (h _ ?_);rw[v_ (u_.mpr ⟨(k,c),hc,rfl⟩)];rfl
 .dsimp only;refine d_ (h _ ?_);rw[L_]
  .rfl
  .intro hm;obtain⟨x,hx,e⟩:=u_.mp hm;obtain⟨y,c⟩:=x;simp only at e;subst e;exact hc c hx
theorem N9(S:SK knd)(hu:knd.room A.in1)(hS:c8 knd a xs s.heap)(wW:∀x∈xs,knd.is s.heap x.1 x.2)(fX:knd.is s.heap k b)
  (h:∀tk,Q (.bool (decide (k∈xs.map (·.1)))) {s with toks:=tk}):wpAny (model prog w) A (compareOp .In (.ref b) (.ref a)) Q E s:=by
 show wpAny _ _ (do return .bool (<- contains (.ref a) (.ref b))) Q E s;refine b_ ?_;unfold contains
 try with_reducible refine F_ ?_
 refine b_ (Vn hS.typeIs Vr.lookup ?_);show wpAny _ _ (if(some (Value.builtin "set.__contains__")==some Value.none)=true then _ else _) _ E s;rw[h_ (by rw[beq_builtin_none];exact J_)];refine b_ (Wx hS.typeIs Vr
  (Ug Vr hS.typeIs entry_set_contains ?_ (F.args_set_contains_2 _ _)))
 unfold Builtin.«frozenset.__contains__» Builtin.Frozenset.oneOther;simp only[List.isEmpty_nil,bind_assoc];unfold Builtin.Frozenset.addrOf Builtin.Frozenset.withSetAsKey setContains;refine b_ (d_ ?_)
 try dsimp only
 refine b_ (d_ ?_)
 try dsimp only
 refine b_ (Vy ?_);refine F_ ?_;refine b_ (knd.pyHash hu fX ?_);refine b_ (Ab S hu hS wW fX λr hr=>?_);refine d_ ?_;show wpAny _ _ (ret (Value.bool r.isSome)) _ _ _;rw[hr];exact d_ ⟨_,rfl,UL (d_ (h _))⟩
theorem DO(S:SK knd)(hu:knd.room A.in1)(hS:c8 knd a xs s.heap)(wW:∀x∈xs,knd.is s.heap x.1 x.2)(fX:knd.is s.heap k b)
  (h:∀tk,Q (.bool (!decide (k∈xs.map (·.1)))) {s with toks:=tk}):wpAny (model prog w) A (compareOp .NotIn (.ref b) (.ref a)) Q E s:=by
 show wpAny _ _ (do return .bool (!(<- contains (.ref a) (.ref b)))) Q E s;refine b_ ?_;unfold contains
 try with_reducible refine F_ ?_
 refine b_ (Vn hS.typeIs Vr.lookup ?_);show wpAny _ _ (if(some (Value.builtin "set.__contains__")==some Value.none)=true then _ else _) _ E s;rw[h_ (by rw[beq_builtin_none];exact J_)];refine b_ (Wx hS.typeIs Vr
  (Ug Vr hS.typeIs entry_set_contains ?_ (F.args_set_contains_2 _ _)))
 unfold Builtin.«frozenset.__contains__» Builtin.Frozenset.oneOther;simp only[List.isEmpty_nil,bind_assoc];unfold Builtin.Frozenset.addrOf Builtin.Frozenset.withSetAsKey setContains;refine b_ (d_ ?_)
 try dsimp only
 refine b_ (d_ ?_)
 try dsimp only
 refine b_ (Vy ?_);refine F_ ?_;refine b_ (knd.pyHash hu fX ?_);refine b_ (Ab S hu hS wW fX λr hr=>?_);refine d_ ?_;show wpAny _ _ (ret (Value.bool r.isSome)) _ _ _;rw[hr];exact d_ ⟨_,rfl,UL (d_ (h _))⟩
theorem wu{h:Ya}{a:Ye}{o:Obj}{es:Array (Int×X7)}{ep:Nat}{t:SetTable}(ho:h.get? a=some o)(hd:o.data=.set es ep t)(es':Array (Int×X7))(t':SetTable) :
  (h.update a (Obj.putSet es' t')).get? a=some {o with data:=.set es' (ep+1) t'}:=by
 have:=V7 (Obj.putSet es' t') ho (by rw[putSet_of es' t' hd];rfl);rw[putSet_of es' t' hd]at this;exact this
theorem pW(h:n<=5000):n<=sizeLine:=by rw[Um];lia
theorem Ct(hm:m∈fA)(h1:n*5<m*3)(h2:m*3<=(n+1)*5)(h3:n+1<=4914):∃m',m'∈fA/\SetTable.sizeAbove (SetTable.grown (n+1))-1=m'/\SetTable.sizeAbove (SetTable.grown (n+1))<=8192/\(n+1)*5<m'*3/\n+1<=m':=by
 have key:∀n0 m',n=n0->m'∈fA/\SetTable.sizeAbove (SetTable.grown (n0+1))-1=m'/\SetTable.sizeAbove (SetTable.grown (n0+1))<=8192/\(n0+1)*5<m'*3/\n0+1<=m'->∃m',m'∈fA/\SetTable.sizeAbove (SetTable.grown (n+1))-1=m'/\SetTable.sizeAbove (SetTable.grown (n+1))<=8192/\(n+1)*5<m'*3/\n+1<=m':=λn0 m' e h=>⟨m',by subst e;exact h⟩;unfold fA at hm;simp only[p_,Ul,Vq]at hm;rcases hm with rfl | rfl | rfl | rfl | rfl | rfl
 .exact key 4 31 (by lia) (by decide)
 .exact key 18 127 (by lia) (by decide)
 .exact key 76 511 (by lia) (by decide)
 .exact key 306 2047 (by lia) (by decide)
 .exact key 1228 8191 (by lia) (by decide)
 .lia
theorem Fd(h:m∈fA):∃k,m+1=2 ^ k:=by
 unfold fA at h;simp only[p_,Ul,Vq]at h;rcases h with rfl | rfl | rfl | rfl | rfl | rfl
 .exact⟨3,rfl⟩
 .exact⟨5,rfl⟩
 .exact⟨7,rfl⟩
 .exact⟨9,rfl⟩
 .exact⟨11,rfl⟩
 .exact⟨13,rfl⟩
theorem DQ(ho:s.heap.get? a=some o)(hd:o.data=.set es ep t)(hp:es.toList.Perm l)(ok:Ok t (es.toList.map (·.1)))(hn:es.size=n+1)(hm:t.mask∈fA)(h1:n*5<t.mask*3)(h2:t.mask*3<=(n+1)*5)(h3:n+1<=4914)
  (h:∀es' t',es'.toList.Perm l->Ok t' (es'.toList.map (·.1))->t'.mask∈fA->t'.place.size*5<t'.mask*3->Q () {s with heap:=s.heap.update a (Obj.putSet es' t')}) :
  wpAny (model prog w) A (setRelay a (SetTable.grown (n+1))) Q E s:=by
 obtain⟨m',k1,k2,k3,k4,k5⟩:=Ct hm h1 h2 h3;have hsz:t.place.size=es.size:=by have:=ok.len;simpa using this
 obtain⟨t',order,es',g1,g2,g3,g4,g5,g6,g7,g8⟩:=HR (Fd k1) t.finger (t.movedTo (SetTable.sizeAbove (SetTable.grown (n+1))-1)) t.led t.plain es (by lia);have hr:t.relaid (es.map (·.1)) (SetTable.grown (n+1))=some (t',order):=by
  unfold SetTable.relaid;rw[<- g1,k2]
 unfold setRelay;refine b_ (VI ho hd (fits_of ok hsz) ?_);dsimp only;rw[h_ (by have:=Um;lia)];refine b_ ?_;show wpAny _ _ (do
  let some (t,order):=t.relaid (es.map (·.1)) (SetTable.grown (n+1)) | unsupported "internal:set-table-without-room"
  let es':=order.filterMap (es[·]?)
  if es'.size != es.size then unsupported "internal:set-table-lost-an-element"
  pure (es',t)) _ _ _
 rw[hr];dsimp only;rw[g2,h_ (by simp[g3])];refine d_ ?_;dsimp only;exact wpAny_storeSet_of ho hd (h es' t' (g4.trans hp) g8 (by rw[g5];exact k1) (by rw[g5,g7,hn];exact k4)) (by rw[g3,hn];exact pW (by lia))
theorem Gk(S:SK knd)(hu:knd.room A){a b:Ye}{k:K}{xs:List (K×Ye)}(hS:c8 knd a xs s.heap)(wW:∀x∈xs,knd.is s.heap x.1 x.2)(fX:knd.is s.heap k b)(hl:xs.length+1<=4914){Q:Bool->X8->Prop}
  (xq:k∈xs.map (·.1)->Q false s) (hout:k∉xs.map (·.1)->∀h',Heap.SameBut a s.heap h'->c8 knd a (xs++[(k,b)]) h'->Q true {s with heap:=h'}) :
  wpAny (model prog w) A (setAddHashed a (.ref b) (knd.hash k)) Q E s:=by
 obtain⟨o,es,ep,t,ho,hex,hd,T,hn⟩:=hS;unfold setAddHashed;refine F_ ?_;unfold setAddHashedIn;refine b_ (VI ho hd T.fits ?_);dsimp only;rw[h_ (by simp[byScan,Value.scannable])];obtain⟨mf,m1,m2⟩:=T.ok.soon (knd.hash k);have ht:=vL T.msk;unfold setSearch;refine b_ (l7 S hu ho hd T wW fX (λc hc i=>?_) (λhc m hm1 hm2=>?_) mf m1 m2 100000 0 none rfl (λm' hm'=>by lia) (by lia))
 .simp only[Vi];exact d_ (xq (u_.mpr ⟨(k,c),hc,rfl⟩))
 .dsimp only;have hk:k∉xs.map (·.1):=λhm=>by
   obtain⟨x,hx,e⟩:=u_.mp hm;obtain⟨y,c⟩:=x;simp only at e;subst e;exact hc c hx
  refine b_ (VI ho hd T.fits ?_);dsimp only;have hmk:=tO T.msk;have hnf:=T.nf;have hps:=T.psize;have hes:=T.size;generalize hj:(it t.mask (t.probeStart (knd.hash k)) m).j=j at *;have rest:∀pl:Bool,wpAny (model prog w) A (do
    storeSet a (SetTable.insertAt es (t.put j).2 (knd.hash k,.ref b)) {(t.put j).1 with plain:=pl}
    if({(t.put j).1 with plain:=pl}:SetTable).tooFull then setRelay a (SetTable.grown (es.size+1))
    return true) Q E s:=λpl=>by
   obtain⟨p,q1,q2,q3⟩:=T.ok.put (knd.hash k) m (by rw[hj];exact hm1) hm2 (by lia) pl;rw[hj]at q1 q3;rw[q1];have i1:=SetTable.toList_insertAt es p (knd.hash k,Value.ref b);have i2:(SetTable.insertAt es p (knd.hash k,Value.ref b)).toList.map (·.1)=(es.toList.map (·.1)).take p++knd.hash k::(es.toList.map (·.1)).drop p:=by
    rw[i1,H_,A_,WY,List.map_drop]
   have i3:(SetTable.insertAt es p (knd.hash k,Value.ref b)).toList.Perm ((xs++[(k,b)]).map (ent knd)):=by
    have e1:=SetTable.insertAt_perm es p (knd.hash k,Value.ref b);rw[Array.toList_push]at e1;refine e1.trans ?_;rw[H_];exact T.perm.append_right _
   have i4:(SetTable.insertAt es p (knd.hash k,Value.ref b)).size=es.size+1:=by
    rw[<- Uk,i1,sy];simp
   rw[<- i2]at q3;have Sy:((xs++[(k,b)]).map (·.1)).Nodup:=by
    rw[H_];refine List.nodup_append.mpr ⟨hn,by simp,λx hx y hy=>?_⟩;rw[A_,XE,y_]at hy;subst hy;rintro rfl;exact hk hx
   have hst:=wu ho hd (SetTable.insertAt es p (knd.hash k,Value.ref b)) {(t.put j).1 with plain:=pl};have hsb:=UH s.heap a (Obj.putSet (SetTable.insertAt es p (knd.hash k,Value.ref b)) {(t.put j).1 with plain:=pl});have AJ:({(t.put j).1 with plain:=pl}:SetTable).mask=t.mask:=rfl;have Od:({(t.put j).1 with plain:=pl}:SetTable).place.size=es.size+1:=by
    have:=q3.len;rw[c_,Uk,i4]at this;exact this
   refine b_ (wpAny_storeSet_of ho hd ?_ (by rw[i4];exact pW (by lia)))
   by_cases hf:({(t.put j).1 with plain:=pl}:SetTable).tooFull=true
   .rw[j_ hf];have QR:t.mask*3<=(es.size+1)*5:=by
     unfold SetTable.tooFull SetTable.fill at hf;rw[q3.dum]at hf;rw[Od,AJ]at hf;simpa using hf
    refine b_ (DQ hst rfl i3 q3 i4 T.msk (by rw[AJ];lia) (by rw[AJ];exact QR) (by lia) λes' t' r1 r2 r3 r4=>?_);refine d_ (hout hk _ (hsb.trans (UH _ a _)) ?_);exact⟨_,es',_,t',wu hst rfl es' t',hex,rfl,⟨r1,r2,r3,r4⟩,Sy⟩
   .rw[h_ hf]
    first
     | refine d_ (hout hk _ hsb ?_)
     | refine b_ (d_ (d_ (hout hk _ hsb ?_)))
    refine⟨_,_,_,_,hst,hex,rfl,⟨i3,q3,T.msk,?_⟩,Sy⟩;unfold SetTable.tooFull SetTable.fill at hf;rw[q3.dum]at hf;rw[Od,AJ]at hf ⊢;simpa using hf
  have Sz:({(t.put j).1 with plain:=t.plain}:SetTable)=(t.put j).1:=rfl
  by_cases j8:t.plain=true
  .rw[j_ (show(t.put j).1.plain=true from j8)];refine b_ (S.hbv fX λbv=>?_);cases bv with
   | true=>
    have:=rest t.plain;rw[Sz]at this;simpa using this
   | false=>
    have:=rest false;simpa using this
  .rw[h_ (show ¬(t.put j).1.plain=true from j8)];refine b_ (d_ ?_);have:=rest t.plain;rw[Sz]at this;simpa using this
end
end St
abbrev PySem.Shared.sz(s:PySem.Shared):Nat:=s.heap.objs.size
namespace L2
open PySem PySem.Spec PyProof.Rows
abbrev Key:=Sum Int Str
abbrev Yi:=List Key
abbrev Yh:=List Yi
def pT:Key->X7->Bool
 | .inl k,v=>Value.isInt k v
 | .inr x,v=>Value.isStrOf x v
def Qm(w:Yb):Key->Int
 | .inl k=>hashInt k
 | .inr x=>hashStr w x
theorem bJ:∀{k:Key}{v:X7},pT k v=true->(∃i t,k=Sum.inl i/\v=Value.int i t)\/(∃x t,k=Sum.inr x/\v=Value.str x t)
 | .inl i,v,h=>by
  obtain⟨t,e⟩:=Value.isInt_shape (k:=i) (v:=v) h;exact .inl ⟨i,t,rfl,e⟩
 | .inr x,v,h=>by
  obtain⟨t,e⟩:=Value.isStrOf_shape (x:=x) (v:=v) h;exact .inr ⟨x,t,rfl,e⟩
theorem Be(i:Int)(t:Tok):pT (.inl i) (.int i t)=true:=by simp[pT,Value.isInt]
theorem Bt(x:Str)(t:Tok):pT (.inr x) (.str x t)=true:=by simp[pT,Value.isStrOf]
theorem Lk(a b:Int):decide ((Sum.inl a:Key)=Sum.inl b)=(a==b):=by
 by_cases e:a=b
 .subst e;simp
 .have h:¬(Sum.inl a:Key)=Sum.inl b:=λq=>e (Sum.inl.inj q);rw[L_ h];exact(beq_eq_false_iff_ne.mpr e).symm
theorem JL(a b:Str):decide ((Sum.inr a:Key)=Sum.inr b)=decide (a=b):=by
 by_cases e:a=b
 .subst e;simp
 .have h:¬(Sum.inr a:Key)=Sum.inr b:=λq=>e (Sum.inr.inj q);rw[L_ h,L_ e]
theorem Lj(a:Int)(b:Str):decide ((Sum.inl a:Key)=Sum.inr b)=false:=L_ (λq=>nomatch q)
theorem Kr(a:Str)(b:Int):decide ((Sum.inr a:Key)=Sum.inl b)=false:=L_ (λq=>nomatch q)
def aH(prog:X9)(w:Yb):PySem.KeyKind prog w Key where
 is:=pT
 hash:=Qm w
 inj:=λv a b ha hb=>by
  rcases bJ ha with ⟨i,t,rfl,rfl⟩ | ⟨x,t,rfl,rfl⟩
  .rcases bJ hb with ⟨j,u,rfl,e⟩ | ⟨y,u,rfl,e⟩
   .injection e with e1 _;rw[e1]
   .exact nomatch e
  .rcases bJ hb with ⟨j,u,rfl,e⟩ | ⟨y,u,rfl,e⟩
   .exact nomatch e
   .injection e with e1 _;rw[e1]
 byValue:=λk v h=>by
  rcases bJ h with ⟨i,t,rfl,rfl⟩ | ⟨x,t,rfl,rfl⟩<;>rfl
 pyHash:=λhv h=>by
  rcases bJ hv with ⟨i,t,rfl,rfl⟩ | ⟨x,t,rfl,rfl⟩
  .exact wpAny_pyHash_int h
  .exact wpAny_pyHash_str h
 eqBool:=λhu hv h=>by
  rcases bJ hu with ⟨i,t,rfl,rfl⟩ | ⟨x,t,rfl,rfl⟩
  .rcases bJ hv with ⟨j,u,rfl,rfl⟩ | ⟨y,u,rfl,rfl⟩
   .rw[Lk]at h;exact wpAny_eqBool_int h
   .rw[Lj]at h;exact SeqAt.EqAt.int_str i t y u _ _ _ _ h
  .rcases bJ hv with ⟨j,u,rfl,rfl⟩ | ⟨y,u,rfl,rfl⟩
   .rw[Kr]at h;exact SeqAt.EqAt.str_int x t j u _ _ _ _ h
   .rw[JL]at h;exact wpAny_eqBool_str h
 «strs»:=λk x t v h=>by
  rcases bJ h with ⟨i,u,rfl,e⟩ | ⟨y,u,rfl,e⟩
  .exact nomatch e
  .injection e with e1 _
   subst e1;cases v<;>rfl
theorem uV(prog:X9)(w:Yb)(i:Int)(t:Tok):(aH prog w).is (.inl i) (.int i t)=true:=Be i t
theorem vB(prog:X9)(w:Yb)(x:Str)(t:Tok):(aH prog w).is (.inr x) (.str x t)=true:=Bt x t
inductive V where
 | non | bl (b:Bool) | int (i:Int) | str (x:Str) | byt (b:Array UInt8) | flt (b:UInt64) | ref (a:Addr) | ty (n:String)
 deriving DecidableEq
abbrev Yn:=List V
def RelV:V->X7->Prop
 | .non,u=>u=Value.none
 | .bl b,u=>u=Value.bool b
 | .int i,u=>∃t,u=Value.int i t
 | .str x,u=>∃t,u=Value.str x t
 | .byt b,u=>∃t,u=Value.bytes b t
 | .flt b,u=>∃t,u=Value.float b t
 | .ref a,u=>u=Value.ref a
 | .ty n,u=>u=Value.type n
abbrev ax:Yn->XX->Prop:=Paired RelV
theorem ax.length{xs:Yn}{us:XX}(r:ax xs us):xs.length=us.length:=Paired.length r
theorem ax.get:∀{xs:Yn}{us:XX}{i:Nat}{x:V},ax xs us->xs[i]?=some x->∃u,us[i]?=some u/\RelV x u
 | _,_,_,_,.nil,e=>by simp at e
 | _,_,0,_,.cons r _,e=>by simp at e;subst e;exact⟨_,rfl,r⟩
 | _,_,i+1,x,.cons _ t,e=>by
  obtain⟨u,h1,h2⟩:=ax.get (i:=i) (x:=x) t (by simpa using e);exact⟨u,by simpa using h1,h2⟩
theorem ax.set{x:V}{u:X7}(r:RelV x u):∀{xs:Yn}{us:XX}(i:Nat),ax xs us->ax (xs.set i x) (us.set i u)
 | _,_,_,.nil=>.nil
 | _,_,0,.cons _ t=>.cons r t
 | _,_,i+1,.cons q t=>.cons q (ax.set r i t)
theorem ax.append:∀{xs ys:Yn}{us ws:XX},ax xs us->ax ys ws->ax (xs++ys) (us++ws)
 | _,_,_,_,.nil,s=>s
 | _,_,_,_,.cons r t,s=>.cons r (ax.append t s)
theorem ax.take:∀{xs:Yn}{us:XX}(n:Nat),ax xs us->ax (xs.take n) (us.take n)
 | _,_,0,_=>.nil
 | _,_,_+1,.nil=>.nil
 | _,_,n+1,.cons r t=>.cons r (ax.take n t)
theorem ax.drop:∀{xs:Yn}{us:XX}(n:Nat),ax xs us->ax (xs.drop n) (us.drop n)
 | _,_,0,r=>r
 | _,_,_+1,.nil=>.nil
 | _,_,n+1,.cons _ t=>ax.drop n t
def NT:Option V->Option X7->Prop
 | some v,some u=>RelV v u
 | none,none=>True
 | _,_=>False
def KV{κ:Type}:List (κ×V)->List (κ×X7)->Prop:=Paired λ(p:κ×V) (q:κ×X7)=>p.1=q.1/\RelV p.2 q.2
def kV:Key->V
 | .inl i=>.int i
 | .inr x=>.str x
inductive HO where
  | lst (xs:List V)
  | tup (xs:List V)
  | dK (jR:List (Key×V)) | dT (jR:List (List Key×V))
  | set (S:Int->Bool) (n:Nat)
  | ins (C dx:Addr) (fs:List (Str×V))
  | own (x:Addr)
  | xd (fs:List (Str×V))
  | met (f x:Addr)
  | rng (lo hi:Int)
  | frz (o:Obj) (u:HO)
 | tab (q:Str) | cod (q:Str)
  | ext (φ:Heap->Prop)
abbrev Hp:=Ye->Option HO
def upd(H:Hp)(a:Ye)(o:HO):Hp:=λb=>if b=a then some o else H b
theorem ay{H:Hp}{a:Ye}{o:HO}:upd H a o a=some o:=by unfold upd;rw[j_ rfl]
theorem aB{H:Hp}{a b:Ye}{o:HO}(h:b≠a):upd H a o b=H b:=by unfold upd;rw[h_ h]
theorem bj{H:Hp}{a b:Ye}{o:HO}(h:H a=some o)(h':H b=none):a≠b:=by
 intro e;subst e;rw[h]at h';cases h'
section
variable (P:X9)(w:Yb)
def bE(H:Hp)(h:Ya)(a:Ye):HO->Prop
 | .lst xs=>xs.length<=sizeLine/\∃(a5:XX)(n:Nat),ax xs a5/\h.get? a=some {cls:=.type "list",data:=.seq a5.toArray n}
 | .tup xs=>xs.length<=sizeLine/\∃a5:XX,ax xs a5/\IsTup h a a5.toArray
 | .dK jR=>jR.length<=sizeLine/\(a==sysModules)=false/\∃vs,KV jR vs/\h.DictOf (aH P w) a vs
 | .dT jR=>jR.length<=sizeLine/\(a==sysModules)=false/\∃xs:List (Yi×Ye×X7),
   Paired (λ(p:Yi×V) (q:Yi×Ye×X7)=>p.1=q.1/\H q.2.1=some (.tup (p.1.map kV))/\RelV p.2 q.2.2) jR xs/\
   ∃o es ep,h.get? a=some o/\o.ExactDict/\o.data=.dict es ep/\es.toList=xs.map (entryOfKey (tupleKind (aH P w)))/\(xs.map (·.1)).Nodup
 | .set S n=>h.SetOf (intKind P w) a S n
 | .ins C dx fs=>H dx=some (.own a)/\fs.length<=1000/\dx≠a/\h.get? a=some (PySem.W.instObj C dx)/\
   ∃mA,h.Ns1 dx mA/\(∀f,NT (fs.lookup f) (mA f))/\PySem.Within mA (fs.map (·.1))
 | .own _=>∃o,h.get? a=some o
 | .xd fs=>∃mA,h.Ns1 a mA/\∀f,NT (fs.lookup f) (mA f)
 | .rng lo hi=>∃t u v,h.get? a=some {cls:=.type "range",data:=.fields #[.int lo t,.int hi u,.int 1 v]}
 | .frz o u=>h.get? a=some o/\bE H h a u
 | .tab q=>∃ps:Array X7,h.get? a=some {cls:=.none,data:=.fields ps}/\PySem.TriplesOk ps.toList/\∀pos v,PySem.codeAmong pos ps.toList=some v->∃c,v=.ref c/\H c=some (.cod q)
 | .cod q=>∃o vs t,h.get? a=some o/\o.data=.fields vs/\vs[1]?=some (.str q t)
 | .met f x=>h.get? a=some (PySem.W.methodObj (.ref f) (.ref x))
 | .ext φ=>φ h/\(∃o,h.get? a=some o)/\∀h1 h2:Ya,φ h1->(∀o,h1.get? a=some o->h2.get? a=some o)->φ h2
def pB(H:Hp)(h:Ya):Prop:=∀a o,H a=some o->bE P w H h a o
end
section
variable {P:X9}{w:Yb}{H H':Hp}{h h':Ya}{a:Ye}{o:HO}
theorem bE.lt(x:bE P w H h a o):a<h.objs.size:=by
 cases o with
 | lst xs=>obtain⟨_,_,_,_,e⟩:=x;exact q_ e
 | tup xs=>obtain⟨_,_,_,p⟩:=x;exact p.lt
 | dK jR=>obtain⟨_,_,_,_,o,_,_,e,_⟩:=x;exact q_ e
 | dT jR=>obtain⟨_,_,_,_,o,_,_,e,_⟩:=x;exact q_ e
 | set S n=>obtain⟨o,_,_,_,e,_⟩:=x;exact q_ e
 | ins C dx fs=>obtain⟨_,_,_,e,_⟩:=x;exact q_ e
 | own y=>obtain⟨_,e⟩:=x;exact q_ e
 | xd fs=>obtain⟨_,⟨_,_,_,e,_⟩,_⟩:=x;exact q_ e
 | rng lo hi=>obtain⟨_,_,_,e⟩:=x;exact q_ e
 | frz ob u=>obtain⟨e,_⟩:=x;exact q_ e
 | tab q=>obtain⟨_,e,_⟩:=x;exact q_ e
 | cod q=>obtain⟨_,_,_,e,_⟩:=x;exact q_ e
 | met f y=>exact q_ (show h.get? a=some _ from x)
 | ext φ=>obtain⟨_,⟨_,e⟩,_⟩:=x;exact q_ e
theorem Paired.mapP{α β:Type}{F G:α->β->Prop}:∀{l₁:List α}{l₂:List β},Paired F l₁ l₂->(∀a b,F a b->G a b)->Paired G l₁ l₂
 | _,_,.nil,_=>.nil
 | _,_,.cons r t,f=>.cons (f _ _ r) (Paired.mapP t f)
theorem bE.stay(x:bE P w H h a o)(k:∀b u,(b=a\/H b=some (.own a))->h.get? b=some u->h'.get? b=some u)
  (ho:∀b,H b=some (.own a)->H' b=some (.own a)) (ht:∀b xs,H b=some (.tup xs)->H' b=some (.tup xs)) (hc:∀b q,H b=some (.cod q)->H' b=some (.cod q)):bE P w H' h' a o:=by
 induction o with
 | lst xs=>obtain⟨z,a5,n,r,e⟩:=x;exact⟨z,a5,n,r,k _ _ (.inl rfl) e⟩
 | tup xs=>obtain⟨z,a5,r,ob,e,c⟩:=x;exact⟨z,a5,r,ob,k _ _ (.inl rfl) e,c⟩
 | dK jR=>obtain⟨z,y,vs,r,ob,es,ep,e,c⟩:=x;exact⟨z,y,vs,r,ob,es,ep,k _ _ (.inl rfl) e,c⟩
 | dT jR=>
  obtain⟨z,y,xs,r,ob,es,ep,e,c⟩:=x;exact⟨z,y,xs,Paired.mapP r λp q z=>⟨z.1,ht _ _ z.2.1,z.2.2⟩,ob,es,ep,k _ _ (.inl rfl) e,c⟩
 | set S n=>obtain⟨ob,es,ep,t,e,c⟩:=x;exact⟨ob,es,ep,t,k _ _ (.inl rfl) e,c⟩
 | ins C dx fs=>
  obtain⟨d,z,ne,e,mA,⟨od,es,ep,e2,c⟩,r⟩:=x;exact⟨ho _ d,z,ne,k _ _ (.inl rfl) e,mA,⟨od,es,ep,k _ _ (.inr d) e2,c⟩,r⟩
 | own y=>obtain⟨ob,e⟩:=x;exact⟨ob,k _ _ (.inl rfl) e⟩
 | xd fs=>obtain⟨mA,⟨od,es,ep,e,c⟩,r⟩:=x;exact⟨mA,⟨od,es,ep,k _ _ (.inl rfl) e,c⟩,r⟩
 | rng lo hi=>obtain⟨t,u,v,e⟩:=x;exact⟨t,u,v,k _ _ (.inl rfl) e⟩
 | frz ob u ih=>obtain⟨e,q⟩:=x;exact⟨k _ _ (.inl rfl) e,ih q⟩
 | tab q=>obtain⟨ps,e,t,c⟩:=x;exact⟨ps,k _ _ (.inl rfl) e,t,λpos v z=>let ⟨b,z1,z2⟩:=c pos v z;⟨b,z1,hc b q z2⟩⟩
 | cod q=>obtain⟨ob,vs,t,e,d⟩:=x;exact⟨ob,vs,t,k _ _ (.inl rfl) e,d⟩
 | met f y=>
  have e:h.get? a=some (PySem.W.methodObj (.ref f) (.ref y)):=x;show h'.get? a=some (PySem.W.methodObj (.ref f) (.ref y));exact k a _ (.inl rfl) e
 | ext φ=>obtain⟨p,⟨o,e⟩,st⟩:=x;exact⟨st _ _ p λo q=>k _ _ (.inl rfl) q,⟨o,k _ _ (.inl rfl) e⟩,st⟩
theorem pB.lt(x:pB P w H h)(e:H a=some o):a<h.objs.size:=(x a o e).lt
theorem pB.fresh(x:pB P w H h)(e:h.objs.size<=a):H a=none:=by
 cases q:H a with
 | none=>rfl
 | some u=>exact absurd (Q_ (x.lt q) e) (VJ _)
theorem pB.kept(x:pB P w H h)(k:∀b u,h.get? b=some u->h'.get? b=some u):pB P w H h':=λa o e=>
 (x a o e).stay (λb u _ q=>k b u q) (λ_ q=>q) (λ_ _ q=>q) λ_ _ q=>q
theorem pB.laid(x:pB P w H h)(k:∀b u,h.get? b=some u->h'.get? b=some u)(hp:h.objs.size<=a)(new:bE P w (upd H a o) h' a o):pB P w (upd H a o) h':=λb u e=>by
 have hn:=x.fresh hp
 by_cases hb:b=a
 .subst hb;rw[ay]at e;cases e;exact new
 .rw[aB hb]at e;exact(x b u e).stay (λc v _ q=>k c v q) (λc q=>by rw[aB (bj q hn)];exact q) (λc xs q=>by rw[aB (bj q hn)];exact q) λc xs q=>by rw[aB (bj q hn)];exact q
end
def Rd(H:Hp)(a:Ye)(u:HO):Prop:=H a=some u\/∃o,H a=some (.frz o u)
theorem Rd.ok{P:X9}{w:Yb}{H:Hp}{h:Ya}{a:Ye}{u:HO}(r:Rd H a u)(x:pB P w H h):bE P w H h a u:=by
 rcases r with r | ⟨o,r⟩
 .exact x a u r
 .obtain⟨_,q⟩:=x a _ r;exact q
def Pg:Option HO->Prop
 | some (.lst _)=>True
 | some (.dK _)=>True
 | some (.dT _)=>True
 | some (.set _ _)=>True
 | some (.ins _ _ _)=>True
 | some (.ext _)=>True
 | _=>False
section
variable {P:X9}{w:Yb}{H:Hp}{h h':Ya}{x e:Ye}{o':HO}
theorem pB.write(ok:pB P w H h)(mu:Pg (H x))(he:e=x\/H e=some (.own x))(k:∀b u,b≠e->h.get? b=some u->h'.get? b=some u)(LZ:∃u,h'.get? e=some u)
  (new:bE P w (upd H x o') h' x o'):pB P w (upd H x o') h':=λb u q=>by
 have Oe:∀c y,H c=some (.own y)->c≠x:=λc y r z=>by subst z;rw[r]at mu;exact mu
 have ntup:∀c xs,H c=some (.tup xs)->c≠x:=λc xs r z=>by subst z;rw[r]at mu;exact mu
 have ncod:∀c q,H c=some (.cod q)->c≠x:=λc q r z=>by subst z;rw[r]at mu;exact mu
 by_cases hb:b=x
 .subst hb;rw[ay]at q;cases q;exact new
 .rw[aB hb]at q
  by_cases H8:b=e
  .have q':H b=some (.own x):=by
    rcases he with z | z
    .exact absurd (H8.trans z) hb
    .rw[H8];exact z
   rw[q]at q';cases q';obtain⟨v,hv⟩:=LZ;exact⟨v,by rw[H8];exact hv⟩
  .refine(ok b u q).stay (λc v hc r=>k c v ?_ r) (λc r=>by rw[aB (Oe c b r)];exact r) (λc xs r=>by rw[aB (ntup c xs r)];exact r) λc xs r=>by rw[aB (ncod c xs r)];exact r
   rcases hc with rfl | hc
   .exact H8
   .rintro rfl;rcases he with z | z
    .exact Oe c b hc z
    .rw[hc]at z;cases z;exact hb rfl
end
structure Un(fs ex:List Addr)(H H':Hp)(h h':Heap):Prop where
 keep:∀b o,h.get? b=some o->H b=none->b∉fs->b∉ex->h'.get? b=some o
 slot:∀b o,h.get? b=some o->H b=none->b∈fs->b∉ex->∃sl,h'.get? b=some {o with slots:=sl}
 free:∀b o,h.get? b=some o->H b=none->b∉ex->H' b=none
 there:∀b o,h.get? b=some o->b∉ex->∃o',h'.get? b=some o'
 tups:∀b xs,H b=some (.tup xs)->H' b=some (.tup xs)
 frzs:∀b o u,H b=some (.frz o u)->H' b=some (.frz o u)
 tbls:∀b q,H b=some (.tab q)->H' b=some (.tab q)
section
variable {fs Of ex ex':X0}{H H1 H2:Hp}{h h1 h2 h':Ya}{a x e:Ye}{o:HO}
theorem Un.any(u:Un fs ex H H1 h h1){b:Ye}{ob:Obj}(q:h.get? b=some ob)(n:H b=none)(hx:b∉ex):∃sl,h1.get? b=some {ob with slots:=sl}:=by
 by_cases hb:b∈fs
 .exact u.slot b ob q n hb hx
 .exact⟨ob.slots,u.keep b ob q n hb hx⟩
theorem Un.trans(a:Un fs ex H H1 h h1)(b:Un fs ex H1 H2 h1 h2):Un fs ex H H2 h h2 where
 keep:=λc ob q n hc hx=>b.keep c ob (a.keep c ob q n hc hx) (a.free c ob q n hx) hc hx
 slot:=λc ob q n hc hx=>by
  obtain⟨sl,e1⟩:=a.slot c ob q n hc hx;obtain⟨QS,e2⟩:=b.slot c _ e1 (a.free c ob q n hx) hc hx;exact⟨QS,e2⟩
 free:=λc ob q n hx=>by
  obtain⟨o',e1⟩:=a.there c ob q hx;exact b.free c o' e1 (a.free c ob q n hx) hx
 there:=λc ob q hx=>by
  obtain⟨o',e1⟩:=a.there c ob q hx;exact b.there c o' e1 hx
 tups:=λc xs q=>b.tups c xs (a.tups c xs q)
 frzs:=λc ob xs q=>b.frzs c ob xs (a.frzs c ob xs q)
 tbls:=λc ps q=>b.tbls c ps (a.tbls c ps q)
theorem Un.kept(k:∀b u,h.get? b=some u->h'.get? b=some u):Un fs ex H H h h':=
 ⟨λb ob q _ _ _=>k b ob q,λb ob q _ _ _=>⟨ob.slots,k b ob q⟩,λ_ _ _ n _=>n,λb ob q _=>⟨ob,k b ob q⟩,λ_ _ q=>q,λ_ _ _ q=>q,λ_ _ q=>q⟩
theorem Un.refl:Un fs ex H H h h:=Un.kept λ_ _ q=>q
theorem Un.laid(k:∀b u,h.get? b=some u->h'.get? b=some u)(hp:h.objs.size<=a)(hn:H a=none):Un fs ex H (upd H a o) h h' where
 keep:=λb u q _ _ _=>k b u q
 slot:=λb u q _ _ _=>⟨u.slots,k b u q⟩
 free:=λb u q n _=>by rw[aB (B_ (Q_ (q_ q) hp))];exact n
 there:=λb u q _=>⟨u,k b u q⟩
 tups:=λb xs q=>by rw[aB (bj q hn)];exact q
 frzs:=λb u xs q=>by rw[aB (bj q hn)];exact q
 tbls:=λb ps q=>by rw[aB (bj q hn)];exact q
theorem Un.write(mu:Pg (H x))(he:e=x\/H e=some (.own x))(k:∀b u,b≠e->h.get? b=some u->h'.get? b=some u)(LZ:∃u,h'.get? e=some u):Un fs ex H (upd H x o) h h':=by
 have hx:∀b,H b=none->b≠x:=λb n z=>by subst z;rw[n]at mu;exact mu
 have hb:∀b,H b=none->b≠e:=λb n z=>by
  subst z;rcases he with r | r
  .exact hx b n r
  .rw[n]at r;cases r
 have hm:∀b u,H b=some u->¬Pg (some u)->b≠x:=λb u q nm z=>by subst z;rw[q]at mu;exact nm mu
 refine⟨λb u q n _ _=>k b u (hb b n) q,λb u q n _ _=>⟨u.slots,k b u (hb b n) q⟩,λb u q n _=>by rw[aB (hx b n)];exact n,λb u q _=>?_,
  λb xs q=>by rw[aB (hm b _ q λz=>z)];exact q,λb u xs q=>by rw[aB (hm b _ q λz=>z)];exact q,λb ps q=>by rw[aB (hm b _ q λz=>z)];exact q⟩
 by_cases H8:b=e
 .subst H8;exact LZ
 .exact⟨u,k b u H8 q⟩
end
def Pf(h:Ya)(H:Hp):X0:=(List.range h.objs.size).filter λa=>(H a).isSome
def tL(h:Ya)(H:Hp):Ya:=PySem.W.hideAll h (Pf h H)
theorem Bc(h:Ya)(H:Hp):(tL h H).objs.size=h.objs.size:=PySem.W.hideAll_size _ _
theorem D0{h:Ya}{H:Hp}{b:Ye}{o:Obj}(e:h.get? b=some o)(n:H b=none):(tL h H).get? b=some o:=
 PySem.W.hideAll_get _ e λhm=>by
  have q:(H b).isSome=true:=(T8.mp hm).2;rw[n]at q;simp at q
theorem G9{h:Ya}{H:Hp}{b:Ye}{o:Obj}(e:(tL h H).get? b=some o):h.get? b=some o/\H b=none:=by
 have e':h.get? b=some o:=PySem.W.of_hideAll (Pf h H) e;refine⟨e',?_⟩;cases q:H b with
 | none=>rfl
 | some x=>
  have hm:b∈Pf h H:=T8.mpr ⟨UA.mpr (q_ e'),by simp[q]⟩;have z:(tL h H).get? b=none:=PySem.W.hideAll_none (Pf h H) hm;rw[z]at e;cases e
def Hz(g h:Ya)(L:Ye):XQ:=(List.range h.objs.size).filterMap λa=>if a=L\/(g.get? a).isSome=true then none else(h.get? a).map λo=>(a,o)
def rest(g h:Ya)(L d:Ye):XQ:=(Hz g h L).filter λp=>decide (p.1≠d)
def KL:XZ:=["best_in","best_shown"]
def tq(K:X6)(P:Ye):Option Str:=KL.findSome? λx=>(PySem.W.tabIn K x).bind λp=>if p.2=P then some (x++".<locals>."++"<lambda>")else none
structure Mod(K:PySem.W.Frag)(mg:Str->Option Value)(base:Heap):Prop where
 kin:K.In base
 glob:base.Ns mainGlobals mg
 blt:∃mb,base.Ns builtinsNs mb/\∀x:Str,x≠"__name__"->mb x=bootBuiltins x
 nolimit:base.NoLimit
 bmod:∃bm o,mg "__builtins__"=some (.ref bm)/\bm≠builtinsNs/\bm≠mainGlobals/\base.get? bm=some o/\o.cls=.type "module"/\o.dict=some builtinsNs/\o.data=.plain
structure Cx where
 prog:Program
 w:World
 K:PySem.W.Frag
 mg:Str->Option Value
 base:Heap
 A:Around
 N:List Str
 s₀:Shared
 H₀:Hp
 env:Env
 outer:List Env
 stack:List Env
 ex:List Addr
 fn:Str->Bool
 calm:Bool
 pn:List (Addr×Obj)
 xe:Value->Shared->Prop
def xn(l:List Env):X0:=l.filterMap (·.frame)
abbrev Cx.fs(X:Cx):X0:=xn X.outer
def uL(sc:Yd)(x:Str):Prop:=sc.names.lookup x=some .local\/sc.names.lookup x=some .cell\/sc.names.lookup x=some .free
def Loc(sc:Yd)(x:Str):Prop:=sc.names.lookup x=some .local\/sc.names.lookup x=some .cell
def Look(env:Env)(h:Ya)(m:XS)(x:Str)(u:X7):Prop:=
 (env.kindOf x=some .local/\m x=some u)\/((env.kindOf x=some .cell\/env.kindOf x=some .free)/\∃c,env.cells.lookup x=some c/\h.IsCell c (some u))
structure Cx.Ok(X:Cx):Prop where
 mod:Mod X.K X.mg X.base
 kind:X.env.scope.kind=.function
 glob:X.env.globals=mainGlobals
 blt:X.env.builtins=builtinsNs
 above:X.s₀.heap.objs.size<=X.env.locals
 inj:∀x y c,X.env.cells.lookup x=some c->X.env.cells.lookup y=some c->x=y
 has:∀x,(X.env.kindOf x=some .cell\/X.env.kindOf x=some .free)->∃c,X.env.cells.lookup x=some c
 cab:∀x c,X.fn x=true->X.env.cells.lookup x=some c->X.s₀.heap.objs.size<=c
 hd:X.calm=true->X.A.handled=none
 frames:X.A.frames=some X.stack
 stk:X.stack=X.outer\/(X.stack=X.env::X.outer/\X.env.frame=some X.env.locals)
 exf:∀b∈X.ex,b≠X.env.locals/\∀x c,X.env.cells.lookup x=some c->c≠b
 bs:∀b o,X.base.get? b=some o->X.s₀.heap.get? b=some o/\X.H₀ b=none
 bsz:X.base.objs.size<=X.s₀.heap.objs.size
 noex:∀b o,X.base.get? b=some o->b∉X.ex
 exfs:∀b∈X.ex,b∉X.fs
 funs:X.s₀.heap.FunFrames X.base X.outer
 frf:∀b∈X.fs,X.H₀ b=none
 tb:∀P q,tq X.K P=some q->X.H₀ P=some (.tab q)
structure Inv(X:Cx)(pins:List (Addr×Obj))(σ:List (Option V))(H:Hp)(s:Shared):Prop where
 ok:X.Ok
 os:s.os=X.s₀.os
 bare:AllBare s.gens
 base:Un X.fs X.ex X.H₀ H X.s₀.heap s.heap
 loc:∃m,s.heap.Ns X.env.locals m/\∀(i:Nat)(x:Str)(v:V),X.N[i]?=some x->σ[i]?=some (some v)->uL X.env.scope x->∃u,RelV v u/\Look X.env s.heap m x u
 cell:∀x c,X.env.cells.lookup x=some c->∃v,s.heap.IsCell c v
 free:H X.env.locals=none
 freeC:∀x c,X.env.cells.lookup x=some c->H c=none
 pin:∀p∈X.pn++pins,s.heap.get? p.1=some p.2/\H p.1=none/\p.1≠X.env.locals/\p.1∉X.fs/\∀v,p.2.data≠.cell v
 hok:pB X.prog X.w H s.heap
 len:σ.length=X.N.length
section
variable {X:Cx}{pins:XQ}{σ:List (Option V)}{H H':Hp}{s:X8}{h':Ya}
theorem Cx.Ok.nofr(ok:X.Ok){b:Ye}{o:Obj}(e:X.base.get? b=some o):b∉X.fs:=λhb=>by
 have:=(ok.funs.mem hb).1;rw[e]at this;cases this
theorem Inv.bs(I:Inv X pins σ H s):∀b o,X.base.get? b=some o->s.heap.get? b=some o/\H b=none:=λb o e=>
 ⟨I.base.keep b o (I.ok.bs b o e).1 (I.ok.bs b o e).2 (I.ok.nofr e) (I.ok.noex b o e),I.base.free b o (I.ok.bs b o e).1 (I.ok.bs b o e).2 (I.ok.noex b o e)⟩
theorem Inv.bk(I:Inv X pins σ H s):∀b o,X.base.get? b=some o->s.heap.get? b=some o:=λb o e=>(I.bs b o e).1
theorem Inv.tb(I:Inv X pins σ H s):∀P q,tq X.K P=some q->H P=some (.tab q):=λP q e=>I.base.tbls P q (I.ok.tb P q e)
theorem Inv.mod(I:Inv X pins σ H s):Mod X.K X.mg X.base:=I.ok.mod
theorem Inv.kIn(I:Inv X pins σ H s):X.K.In s.heap:=I.ok.mod.kin.keeps I.bk
theorem Inv.nolimit(I:Inv X pins σ H s):s.heap.NoLimit:=I.ok.mod.nolimit.keeps I.bk
theorem Inv.lt(I:Inv X pins σ H s):X.env.locals<s.heap.objs.size:=let ⟨_,hn,_⟩:=I.loc;hn.lt
theorem Inv.sz(I:Inv X pins σ H s):X.s₀.heap.objs.size<=s.heap.objs.size:=G_ I.ok.above (VY I.lt)
theorem Inv.nofs(I:Inv X pins σ H s){a:Ye}(h:s.heap.objs.size<=a):a∉X.fs:=λhb=>by
 obtain⟨_,o,ho,_⟩:=I.ok.funs.mem hb;exact absurd (Q_ (q_ ho) (G_ I.sz h)) (VJ _)
theorem Inv.cne(I:Inv X pins σ H s):∀x c,X.env.cells.lookup x=some c->c≠X.env.locals:=λx c e z=>by
 obtain⟨v,o,ho,hd⟩:=I.cell x c e;obtain⟨m,⟨o',es,ep,Fl,H9,_⟩,_⟩:=I.loc;rw[z,Fl]at ho;cases ho;rw[H9]at hd;cases hd
theorem Inv.funs(I:Inv X pins σ H s):s.heap.FunFrames X.base X.outer:=by
 have all:∀(l:List Env),(∀b∈xn l,b∈X.fs)->X.s₀.heap.FunFrames X.base l->s.heap.FunFrames X.base l:=by
  intro l
  induction l with
  | nil=>intro _ _;trivial
  | cons env r ih=>
   intro hs hl;obtain⟨hk,⟨L,o,hf,hn,ho,hd⟩,hr⟩:=hl;have hL:L∈X.fs:=hs L (by unfold xn;rw[Wj,hf];exact g_);obtain⟨sl,e⟩:=I.base.slot L o ho (I.ok.frf L hL) hL λz=>I.ok.exfs L z hL;exact⟨hk,⟨L,_,hf,hn,e,hd⟩,ih (λb hb=>hs b (by unfold xn;rw[Wj,hf];exact f_ _ hb)) hr⟩
 exact all X.outer (λ_ hb=>hb) I.ok.funs
theorem Inv.stack(I:Inv X pins σ H s):s.heap.FunFrames X.base X.stack:=by
 rcases I.ok.stk with e | ⟨e,hf⟩
 .rw[e];exact I.funs
 .rw[e];obtain⟨m,hn,_⟩:=I.loc;refine .cons (by rw[I.ok.kind];decide) hf hn ?_ I.funs;exact Heap.get?_none_of_le (G_ I.ok.bsz I.ok.above)
theorem Inv.stkSub(I:Inv X pins σ H s):∀b∈xn X.stack,b∈X.env.locals::X.fs:=λb hb=>by
 rcases I.ok.stk with e | ⟨e,hf⟩
 .rw[e]at hb;exact f_ _ hb
 .rw[e]at hb;unfold xn at hb;rw[Wj,hf]at hb;exact hb
theorem Inv.stkFree(I:Inv X pins σ H s):∀b∈xn X.stack,H b=none:=λb hb=>by
 rcases p_.mp (I.stkSub b hb)with e | hb
 .rw[e];exact I.free
 .obtain⟨_,o,ho,_⟩:=I.ok.funs.mem hb;exact I.base.free b o ho (I.ok.frf b hb) λz=>I.ok.exfs b z hb
theorem Inv.step{g':Array GenState}{t':Nat}{d':Drawn}{ch:X0}(I:Inv X pins σ H s)
  (hch:∀b∈ch,(b∈X.ex\/X.s₀.heap.objs.size<=b)/\b≠X.env.locals/\(∀x c,X.env.cells.lookup x=some c->c≠b)/\∀p∈X.pn++pins,p.1≠b)
  (keep:∀b o,b≠X.env.locals->b∉X.fs->b∉ch->s.heap.get? b=some o->H b=none->h'.get? b=some o)
  (slot:∀b o,b≠X.env.locals->b∈X.fs->b∉ch->s.heap.get? b=some o->H b=none->∃sl,h'.get? b=some {o with slots:=sl}) (free:∀b o,b∉ch->s.heap.get? b=some o->H b=none->H' b=none)
  (there:∀b o,b∉ch->s.heap.get? b=some o->∃o',h'.get? b=some o')
  (tups:∀b xs,H b=some (.tup xs)->H' b=some (.tup xs)) (frzs:∀b o u,H b=some (.frz o u)->H' b=some (.frz o u)) (tbls:∀b q,H b=some (.tab q)->H' b=some (.tab q))
  (ns:∀m,s.heap.Ns X.env.locals m->h'.Ns X.env.locals m) (hok:pB X.prog X.w H' h') (hg:AllBare g') :
  Inv X pins σ H' {s with heap:=h',gens:=g',drawn:=d',toks:=t'}:=by
 have SA:∀b o,X.s₀.heap.get? b=some o->b≠X.env.locals:=λb o e=>B_ (Q_ (q_ e) I.ok.above);have Pk:∀b o,X.s₀.heap.get? b=some o->b∉X.ex->b∉ch:=λb o e hx hb=>by
  rcases(hch b hb).1 with z | z
  .exact hx z
  .exact absurd (Q_ (q_ e) z) (VJ _)
 have cellK:∀x c,X.env.cells.lookup x=some c->∀v,s.heap.IsCell c v->h'.IsCell c v:=λx c e v ⟨o,ho,hd⟩=>by
  have Og:c∉ch:=λz=>(hch c z).2.2.1 x c e rfl
  by_cases hc:c∈X.fs
  .obtain⟨sl,q⟩:=slot c o (I.cne x c e) hc Og ho (I.freeC x c e);exact⟨_,q,hd⟩
  .exact⟨o,keep c o (I.cne x c e) hc Og ho (I.freeC x c e),hd⟩
 refine⟨I.ok,I.os,hg,⟨λb o e n hb hx=>?_,λb o e n hb hx=>?_,λb o e n hx=>?_,λb o e hx=>?_,λb xs e=>tups b xs (I.base.tups b xs e),λb o xs e=>frzs b o xs (I.base.frzs b o xs e),λb ps e=>?_⟩,?_,λx c e=>?_,?_,λx c e=>?_,λp hp=>?_,hok,I.len⟩
 .exact keep b o (SA b o e) hb (Pk b o e hx) (I.base.keep b o e n hb hx) (I.base.free b o e n hx)
 .obtain⟨sl,e1⟩:=I.base.slot b o e n hb hx;obtain⟨QS,e2⟩:=slot b _ (SA b o e) hb (Pk b o e hx) e1 (I.base.free b o e n hx);exact⟨QS,e2⟩
 .obtain⟨o',e1⟩:=I.base.there b o e hx;exact free b o' (Pk b o e hx) e1 (I.base.free b o e n hx)
 .obtain⟨o',e1⟩:=I.base.there b o e hx;exact there b o' (Pk b o e hx) e1
 .exact tbls b _ (I.base.tbls b ps e)
 .obtain⟨m,hn,hl⟩:=I.loc;refine⟨m,ns m hn,λi x v e1 e2 e3=>?_⟩;obtain⟨u,r,l⟩:=hl i x v e1 e2 e3;refine⟨u,r,?_⟩;rcases l with l | ⟨k,c,e,z⟩
  .exact .inl l
  .exact .inr ⟨k,c,e,cellK x c e _ z⟩
 .obtain⟨v,z⟩:=I.cell x c e;exact⟨v,cellK x c e v z⟩
 .obtain⟨m,⟨o,_,_,ho,_⟩,_⟩:=I.loc;exact free _ o (λz=>(hch _ z).2.1 rfl) ho I.free
 .obtain⟨v,o,ho,hd⟩:=I.cell x c e;exact free c o (λz=>(hch c z).2.2.1 x c e rfl) ho (I.freeC x c e)
 .obtain⟨e,n,ne,nf,d⟩:=I.pin p hp;have Og:p.1∉ch:=λz=>(hch p.1 z).2.2.2 p hp rfl;exact⟨keep p.1 p.2 ne nf Og e n,free p.1 p.2 Og e n,ne,nf,d⟩
theorem Inv.un{t':Nat}(I:Inv X pins σ H s)(u:Un X.fs [] H H' s.heap h')(hok:pB X.prog X.w H' h'):Inv X pins σ H' {s with heap:=h',toks:=t'}:=by
 obtain⟨m,⟨o,es,ep,ho,r⟩,_⟩:=id I.loc;obtain⟨sl,hL⟩:=u.any ho I.free (by simp);exact I.step (g':=s.gens) (d':=s.drawn) (ch:=[]) (λ_ z=>nomatch z) (λb o _ hb _ e n=>u.keep b o e n hb (by simp)) (λb o _ hb _ e n=>u.slot b o e n hb (by simp)) (λb o _ e n=>u.free b o e n (by simp)) (λb o _ e=>u.there b o e (by simp)) u.tups u.frzs u.tbls (λm' hm=>by
  obtain⟨o',es',Pl,Fl,r'⟩:=hm;rw[ho]at Fl;cases Fl;exact⟨_,es',Pl,hL,r'⟩) hok I.bare
theorem Inv.call{g':Array GenState}{t':Nat}{d':Drawn}{ch:X0}(I:Inv X pins σ H s)(u:Un (xn X.stack) ch H H' s.heap h')(hok:pB X.prog X.w H' h')(hg:AllBare g')
  (hch:∀b∈ch,(b∈X.ex\/X.s₀.heap.objs.size<=b)/\b≠X.env.locals/\(∀x c,X.env.cells.lookup x=some c->c≠b)/\∀p∈X.pn++pins,p.1≠b) :
  Inv X pins σ H' {s with heap:=h',gens:=g',drawn:=d',toks:=t'}:=by
 obtain⟨m,⟨o,es,ep,ho,r⟩,_⟩:=id I.loc;obtain⟨sl,hL⟩:=u.any ho I.free λz=>(hch _ z).2.1 rfl;exact I.step (ch:=ch) hch (λb o hL hb hc e n=>u.keep b o e n (λz=>(p_.mp (I.stkSub b z)).elim hL hb) hc) (λb o _ _ hc e n=>u.any e n hc) (λb o hc e n=>u.free b o e n hc) (λb o hc e=>u.there b o e hc) u.tups u.frzs u.tbls (λm' hm=>by
  obtain⟨o',es',Pl,Fl,r'⟩:=hm;rw[ho]at Fl;cases Fl;exact⟨_,es',Pl,hL,r'⟩) hok hg
theorem Inv.turned{t':Nat}{it:Ye}(I:Inv X pins σ H s)(k:∀b o,b≠it->s.heap.get? b=some o->h'.get? b=some o)(hn:H it=none)(hL:it≠X.env.locals)
  (h1:it∈X.ex\/X.s₀.heap.objs.size<=it) (h2:∀x c,X.env.cells.lookup x=some c->c≠it) (h3:∀p∈X.pn++pins,p.1≠it):Inv X pins σ H {s with heap:=h',toks:=t'}:=by
 have Oh:∀b u,H b=some u->b≠it:=λb u e z=>by rw[z,hn]at e;cases e
 refine I.step (g':=s.gens) (d':=s.drawn) (ch:=[it]) (λb hb=>?_) (λb o _ _ hc e _=>k b o (λz=>hc (by simp[z])) e) (λb o _ _ hc e _=>⟨o.slots,k b o (λz=>hc (by simp[z])) e⟩) (λ_ _ _ _ n=>n)
  (λb o hc e=>⟨o,k b o (λz=>hc (by simp[z])) e⟩) (λ_ _ e=>e) (λ_ _ _ e=>e) (λ_ _ e=>e) (λm hm=>?_) (λb u e=>?_) I.bare
 .have e:b=it:=by simpa using hb
  subst e;exact⟨h1,hL,h2,h3⟩
 .obtain⟨o,es,ep,ho,r⟩:=hm;exact⟨o,es,ep,k _ o (UB hL) ho,r⟩
 .refine(I.hok b u e).stay (λc v hc q=>k c v ?_ q) (λ_ q=>q) (λ_ _ q=>q) λ_ _ q=>q;rcases hc with z | z
  .rw[z];exact Oh b u e
  .exact Oh c _ z
theorem Inv.tok(I:Inv X pins σ H s)(t:Nat):Inv X pins σ H {s with toks:=t}:=I.un (h':=s.heap) (t':=t) Un.refl I.hok
theorem Inv.kept{t':Nat}(I:Inv X pins σ H s)(k:∀b u,s.heap.get? b=some u->h'.get? b=some u):Inv X pins σ H {s with heap:=h',toks:=t'}:=I.un (Un.kept k) (I.hok.kept k)
theorem Inv.laid{a:Ye}{o:HO}{t':Nat}(I:Inv X pins σ H s)(k:∀b u,s.heap.get? b=some u->h'.get? b=some u)(hp:s.heap.objs.size<=a)(new:bE X.prog X.w (upd H a o) h' a o) :
  Inv X pins σ (upd H a o) {s with heap:=h',toks:=t'}:=I.un (Un.laid k hp (I.hok.fresh hp)) (I.hok.laid k hp new)
theorem Inv.write{x e:Ye}{o:HO}{t':Nat}(I:Inv X pins σ H s)(mu:Pg (H x))(he:e=x\/H e=some (.own x))(k:∀b u,b≠e->s.heap.get? b=some u->h'.get? b=some u)(LZ:∃u,h'.get? e=some u)
  (new:bE X.prog X.w (upd H x o) h' x o):Inv X pins σ (upd H x o) {s with heap:=h',toks:=t'}:=I.un (Un.write mu he k LZ) (I.hok.write mu he k LZ new)
theorem Inv.pins_of{Fm:XQ}(I:Inv X pins σ H s)(h:∀p∈Fm,s.heap.get? p.1=some p.2/\H p.1=none/\p.1≠X.env.locals/\p.1∉X.fs/\∀v,p.2.data≠.cell v):Inv X Fm σ H s:=
 ⟨I.ok,I.os,I.bare,I.base,I.loc,I.cell,I.free,I.freeC,λp hp=>(Ub.mp hp).elim (λz=>I.pin p (List.mem_append_left _ z)) (h p),I.hok,I.len⟩
theorem wG{N:XZ}(hN:N.Nodup){i j:Nat}{x:Str}(a:N[i]?=some x)(b:N[j]?=some x):i=j:=by
 obtain⟨h1,e1⟩:=k_.mp a;obtain⟨h2,e2⟩:=k_.mp b;exact(XA hN).mp (e1.trans e2.symm)
theorem rW{M:Model}{A:X_}{E:XO}{i:Nat}{x:Str}{v:V}{u:X7}{Q:Unit->X8->Prop}(I:Inv X pins σ H s)(hN:X.N.Nodup)(hi:X.N[i]?=some x)(hx:Loc X.env.scope x)(r:RelV v u)
  (h:∀s',Inv X pins (σ.set i (some v)) H s'->(∃a,Heap.SameBut a s.heap s'.heap/\(a=X.env.locals\/X.env.cells.lookup x=some a))->Q () s') (hf:X.fn x=true\/X.env.scope.names.lookup x=some .local:=by first | exact .inl rfl | exact .inr rfl | assumption):wpAny M A (storeName X.env x u) Q E s:=by
 obtain⟨m,hn,hl⟩:=id I.loc;have hcls:(X.env.scope.kind==.class||(X.env.scope.kind==.module&&X.env.locals != X.env.globals))=false:=by rw[I.ok.kind];rfl
 have SB:i < σ.length:=by rw[I.len];exact(k_.mp hi).1
 have cne:=I.cne;have tracked:∀{a:Ye}{h':Ya},(∃o,s.heap.get? a=some o/\H a=none)->Heap.SameBut a s.heap h'->pB X.prog X.w H h':=λ{a h'} ha hs b ob e=>by
  obtain⟨_,_,Jh⟩:=ha;refine(I.hok b ob e).stay (λc w' hc q=>(hs.2 c ?_).trans q) (λ_ q=>q) (λ_ _ q=>q) λ_ _ q=>q;rintro rfl;rcases hc with rfl | hc
  .rw[Jh]at e;cases e
  .rw[Jh]at hc;cases hc
 rcases hx with hk | hk
 .refine wpAny_storeName_local hk hn (λh' hn' hs=>?_) hcls;obtain⟨oL,_,_,hoL,_⟩:=id hn;refine h _ ⟨I.ok,I.os,I.bare,⟨λb o e n hb hx=>?_,λb o e n hb hx=>?_,I.base.free,λb o e hx=>?_,I.base.tups,I.base.frzs,I.base.tbls⟩,⟨_,hn',λj y v' e1 e2 e3=>?_⟩,λy c e=>?_,I.free,I.freeC,λp hp=>?_,tracked ⟨oL,hoL,I.free⟩ hs,by simpa using I.len⟩ ⟨_,hs,.inl rfl⟩
  .exact(hs.2 b (B_ (Q_ (q_ e) I.ok.above))).trans (I.base.keep b o e n hb hx)
  .obtain⟨sl,e1⟩:=I.base.slot b o e n hb hx;exact⟨sl,(hs.2 b (B_ (Q_ (q_ e) I.ok.above))).trans e1⟩
  .obtain⟨o',e1⟩:=I.base.there b o e hx;exact⟨o',(hs.2 b (B_ (Q_ (q_ e) I.ok.above))).trans e1⟩
  .by_cases hj:j=i
   .subst hj;rw[hi]at e1;cases e1;rw[t_ SB]at e2;cases e2;exact⟨u,r,.inl ⟨hk,by simp⟩⟩
   .rw[i_ (UB hj)]at e2;obtain⟨u',r',q⟩:=hl j y v' e1 e2 e3;refine⟨u',r',?_⟩;rcases q with ⟨k,e⟩ | ⟨k,c,e,z⟩
    .refine .inl ⟨k,?_⟩;have:y≠x:=λe=>hj (wG hN e1 (e▸hi));simp[this,e]
    .exact .inr ⟨k,c,e,z.sameBut hs (cne y c e)⟩
  .obtain⟨w',z⟩:=I.cell y c e;exact⟨w',z.sameBut hs (cne y c e)⟩
  .obtain⟨e,n,ne,nf,d⟩:=I.pin p hp;exact⟨(hs.2 p.1 ne).trans e,n,ne,nf,d⟩
 .have Pm:X.fn x=true:=by
   rcases hf with z | z
   .exact z
   .rw[z]at hk;cases hk
  obtain⟨c,hc⟩:=I.ok.has x (.inl hk);obtain⟨w',z⟩:=I.cell x c hc;refine wpAny_storeName_cell I.ok.kind hk hc z (λh' hc' hs=>?_);obtain⟨oc,Ia,hocd⟩:=id z;refine h {s with heap:=h'} ⟨I.ok,I.os,I.bare,⟨λb o e n hb hx=>?_,λb o e n hb hx=>?_,I.base.free,λb o e hx=>?_,I.base.tups,I.base.frzs,I.base.tbls⟩,⟨m,hn.sameBut hs (UB (cne x c hc)),λj y v' e1 e2 e3=>?_⟩,λy c' e=>?_,I.free,I.freeC,λp hp=>?_,tracked ⟨oc,Ia,I.freeC x c hc⟩ hs,by simpa using I.len⟩ ⟨c,hs,.inr hc⟩
  .exact(hs.2 b (B_ (Q_ (q_ e) (I.ok.cab x c Pm hc)))).trans (I.base.keep b o e n hb hx)
  .obtain⟨sl,e1⟩:=I.base.slot b o e n hb hx;exact⟨sl,(hs.2 b (B_ (Q_ (q_ e) (I.ok.cab x c Pm hc)))).trans e1⟩
  .obtain⟨o',e1⟩:=I.base.there b o e hx;exact⟨o',(hs.2 b (B_ (Q_ (q_ e) (I.ok.cab x c Pm hc)))).trans e1⟩
  .by_cases hj:j=i
   .subst hj;rw[hi]at e1;cases e1;rw[t_ SB]at e2;cases e2;exact⟨u,r,.inr ⟨.inl hk,c,hc,hc'⟩⟩
   .rw[i_ (UB hj)]at e2;obtain⟨u',r',q⟩:=hl j y v' e1 e2 e3;refine⟨u',r',?_⟩;rcases q with q | ⟨k,c',e,z'⟩
    .exact .inl q
    .refine .inr ⟨k,c',e,z'.sameBut hs ?_⟩;rintro rfl;exact hj (wG hN e1 (I.ok.inj _ _ _ e hc▸hi))
  .by_cases AK:c'=c
   .subst AK;exact⟨_,hc'⟩
   .obtain⟨w2,z2⟩:=I.cell y c' e;exact⟨w2,z2.sameBut hs AK⟩
  .obtain⟨e,n,ne,nf,d⟩:=I.pin p hp;refine⟨(hs.2 p.1 ?_).trans e,n,ne,nf,d⟩;intro q;rw[q,Ia]at e;have q':oc=p.2:=Option.some.inj e;exact d w' (by rw[<- q'];exact hocd)
theorem om{M:Model}{A:X_}{E:XO}{i:Nat}{x:Str}{v:V}{u:X7}{Q:Unit->X8->Prop}(I:Inv X pins σ H s)(hN:X.N.Nodup)(hi:X.N[i]?=some x)(hx:Loc X.env.scope x)(r:RelV v u)
  (h:∀s',Inv X pins (σ.set i (some v)) H s'->Q () s') (hf:X.fn x=true\/X.env.scope.names.lookup x=some .local:=by first | exact .inl rfl | exact .inr rfl | assumption):wpAny M A (storeName X.env x u) Q E s:=
 rW I hN hi hx r (λs' I' _=>h s' I') hf
theorem Inv.call'{s':X8}{ch:X0}(I:Inv X pins σ H s)(ho:s'.os=s.os)(u:Un (xn X.stack) ch H H' s.heap s'.heap)(hok:pB X.prog X.w H' s'.heap)(hg:AllBare s'.gens)
  (hch:∀b∈ch,(b∈X.ex\/X.s₀.heap.objs.size<=b)/\b≠X.env.locals/\(∀x c,X.env.cells.lookup x=some c->c≠b)/\∀p∈X.pn++pins,p.1≠b):Inv X pins σ H' s':=by
 obtain⟨h',g',d',t',o'⟩:=s';have e:o'=s.os:=ho;subst e;exact I.call (g':=g') (t':=t') (d':=d') u hok hg hch
end
abbrev XK:=X7->XY->Hp->Prop
abbrev St:=List (Option V)
abbrev VK:=V->Hp->Prop
abbrev TE:=St->Hp->VK->Prop
abbrev TT:=St->Hp->(Bool->Hp->Prop)->Prop
abbrev TA:=St->Hp->(Yn->Hp->Prop)->Prop
structure Ends where
 nx:St->Hp->Prop
 rt:VK
 bk:St->Hp->Prop:=λ_ _=>False
 ct:St->Hp->Prop:=λ_ _=>False
abbrev TS:=Ends->St->Hp->Prop
def EP(X:Cx)(pins:XQ)(σ:St)(Q:VK)(u:X7)(s':X8):Prop:=∃v H',Inv X pins σ H' s'/\RelV v u/\Q v H'
def TP(X:Cx)(pins:XQ)(σ:St)(Q:Bool->Hp->Prop)(b:Bool)(s':X8):Prop:=∃H',Inv X pins σ H' s'/\Q b H'
def AP(X:Cx)(pins:XQ)(σ:St)(Q:Yn->Hp->Prop)(us:XX)(s':X8):Prop:=∃vs H',Inv X pins σ H' s'/\ax vs us/\Q vs H'
def SP(X:Cx)(pins:XQ)(D:Ends)(f:Flow)(s':X8):Prop:=
 match f with
 | .next=>∃σ' H',Inv X pins σ' H' s'/\D.nx σ' H'
 | .brk=>∃σ' H',Inv X pins σ' H' s'/\D.bk σ' H'
 | .cont=>∃σ' H',Inv X pins σ' H' s'/\D.ct σ' H'
 | .ret u=>∃v σ' H',Inv X pins σ' H' s'/\RelV v u/\D.rt v H'
def PE(X:Cx)(e:Yf)(t:TE):Prop:=
 ∀(pins:XQ)(s:X8)(σ:St)(H:Hp)(Q:VK),Inv X pins σ H s->t σ H Q->wpAny (model X.prog X.w) X.A (eval e X.env) (EP X pins σ Q) X.xe s
def PT(X:Cx)(e:Yf)(t:TT):Prop:=
 ∀(pins:XQ)(s:X8)(σ:St)(H:Hp)(Q:Bool->Hp->Prop),Inv X pins σ H s->t σ H Q->wpAny (model X.prog X.w) X.A (isTrue e X.env (eval e X.env)) (TP X pins σ Q) X.xe s
def PW(X:Cx)(e:Yf)(t:TT):Prop:=
 ∀(whole:Sem X7)(pins:XQ)(s:X8)(σ:St)(H:Hp)(Q:Bool->Hp->Prop),Inv X pins σ H s->t σ H Q->wpAny (model X.prog X.w) X.A (isTrue e X.env whole) (TP X pins σ Q) X.xe s
theorem PW.pt{X:Cx}{e:Yf}{t:TT}(h:PW X e t):PT X e t:=h _
def PA(X:Cx)(es:X1)(t:TA):Prop:=
 ∀(pos:Pos)(pins:XQ)(s:X8)(σ:St)(H:Hp)(Q:Yn->Hp->Prop),Inv X pins σ H s->t σ H Q->wpAny (model X.prog X.w) X.A (spliced (backTo pos (starEach es X.env))) (AP X pins σ Q) X.xe s
def PS(X:Cx)(st:Yg)(t:TS):Prop:=
 ∀(pins:XQ)(s:X8)(σ:St)(H:Hp)(D:Ends),Inv X pins σ H s->t D σ H->wpAny (model X.prog X.w) X.A (exec st X.env) (SP X pins D) X.xe s
def qg(X:Cx)(st:X2)(t:TS):Prop:=
 ∀(pins:XQ)(s:X8)(σ:St)(H:Hp)(D:Ends),Inv X pins σ H s->t D σ H->wpAny (model X.prog X.w) X.A (execs st X.env) (SP X pins D) X.xe s
theorem bF{α:Type}{t:Sem α}{Q Q':α->X8->Prop}{M:Model}{A:X_}{E:XO}{s:X8}(h:wpAny M A t Q E s)(hQ:∀a s,Q a s->Q' a s):wpAny M A t Q' E s:=Ur h hQ λ_ _ x=>x
section
variable {X:Cx}
def DI(i:Nat):TE:=λσ H Q=>∃v,σ[i]?=some (some v)/\Q v H
def tC(v:V):TE:=λ_ H Q=>Q v H
theorem du{i:Nat}{x:Str}{pos:Pos}(hN:X.N[i]?=some x)(hv:uL X.env.scope x)(hd:(x==("__debug__":Str))=false:=by decide)(lV:(x==("__classdict__":Str))=false:=by decide):PE X (.Name x pos) (DI i):=by
 intro pins s σ H Q I h;obtain⟨v,e,h⟩:=h;obtain⟨m,hn,hl⟩:=I.loc;obtain⟨u,r,l⟩:=hl i x v hN e hv;have fin:EP X pins σ Q u s:=⟨v,H,I,r,h⟩;rcases l with ⟨hk,hm⟩ | ⟨hk,c,hc,AL⟩
 .exact wpAny_Name (wpAny_loadName_local I.ok.kind hk hn hm fin) hd
 .rcases hk with hk | hk
  .exact wpAny_Name (wpAny_loadName_cell I.ok.kind hk hc AL fin) hd
  .exact wpAny_Name (wpAny_loadName_free I.ok.kind hk hc AL fin lV) hd
theorem DS{i j pos}:PE X (.Constant (.int i) j pos) (tC (.int i)):=λ_ _ _ H _ I h=>wpAny_Constant_int ⟨.int i,H,I.tok _,⟨_,rfl⟩,h⟩
theorem NC{b j pos}:PE X (.Constant (.bool b) j pos) (tC (.bl b)):=λ_ _ _ H _ I h=>Constant_bool ⟨.bl b,H,I,rfl,h⟩
theorem KH{x j pos}:PE X (.Constant (.str x) j pos) (tC (.str x)):=λ_ _ _ H _ I h=>Calls.Constant_str ⟨.str x,H,I.tok _,⟨_,rfl⟩,h⟩
def Gl(X:Cx)(x:Str):Prop:=X.env.kindOf x=some .globalImplicit
theorem zO{E:XO}{pins:XQ}{s:X8}{σ:St}{H:Hp}{x:Str}{u:X7}{pos:Pos}{Q:XO}(I:Inv X pins σ H s)(hg:Gl X x)(hm:X.mg x=some u)(h:Q u s)
  (hd:(x==("__debug__":Str))=false:=by decide):wpAny (model X.prog X.w) X.A (eval (.Name x pos) X.env) Q E s:=
 Calls.Name_function_global I.ok.kind hg (Calls.loadGlobal_global (by rw[I.ok.glob];exact I.mod.glob.keeps I.bk) hm h) hd
theorem lX{E:XO}{pins:XQ}{s:X8}{σ:St}{H:Hp}{x:Str}{u:X7}{pos:Pos}{Q:XO}(I:Inv X pins σ H s)(hg:Gl X x)(hm:X.mg x=none)(hv:bootBuiltins x=some u)(h:Q u s)
  (hn:x≠"__name__":=by decide) (hd:(x==("__debug__":Str))=false:=by decide):wpAny (model X.prog X.w) X.A (eval (.Name x pos) X.env) Q E s:=by
 obtain⟨mb,h1,h2⟩:=I.mod.blt;exact Calls.Name_function_global I.ok.kind hg (Calls.loadGlobal_builtin (by rw[I.ok.glob];exact I.mod.glob.keeps I.bk) hm (by rw[I.ok.blt];exact h1.keeps I.bk) ((h2 x hn).trans hv) h) hd
theorem HA{x:Str}{v:V}{u:X7}{pos:Pos}(hg:Gl X x)(hm:X.mg x=some u)(r:RelV v u)(hd:(x==("__debug__":Str))=false:=by decide):PE X (.Name x pos) (tC v):=
 λ_ _ _ H _ I h=>zO I hg hm ⟨v,H,I,r,h⟩ hd
theorem HG{x:Str}{v:V}{u:X7}{pos:Pos}(hg:Gl X x)(hm:X.mg x=none)(hv:bootBuiltins x=some u)(r:RelV v u)(hn:x≠"__name__":=by decide)(hd:(x==("__debug__":Str))=false:=by decide):PE X (.Name x pos) (tC v):=
 λ_ _ _ H _ I h=>lX I hg hm hv ⟨v,H,I,r,h⟩ hn hd
variable {a b:Yf}{ta tb:TE}{pos:Pos}
def tB(t:TE):TT:=λσ H Q=>t σ H λx H1=>∃c,x=.bl c/\Q c H1
theorem J6{e:Yf}{t:TE}(h:PE X e t)(he:∀whole,isTrue e X.env whole=(do let v <- whole;standAt e.pos;holding [v] (truthy v)):=by intro _;rfl):PT X e (tB t):=by
 intro pins s σ H Q I hw;refine isTrue_plain (bF (h pins s σ H _ I hw) λv s1 ⟨x,H1,I1,r1,q1⟩=>?_) (he _);obtain⟨d,rfl,q⟩:=q1;cases r1;exact UL ⟨H1,I1,q⟩
variable {tA tB':TT}{rest:X1}
def P5(t u:TT):TT:=λσ H Q=>t σ H λc H1=>if c=true then u σ H1 Q else Q false H1
def TH(t u:TT):TT:=λσ H Q=>t σ H λc H1=>if c=true then Q true H1 else u σ H1 Q
def Qs(t:TT):TT:=λσ H Q=>t σ H λc H1=>Q (!c) H1
theorem HB(ha:PT X a tA):PW X (.BoolOp .And [a] pos) tA:=by
 intro wh pins s σ H Q I h;refine isTrue_and (bF (ha pins s σ H Q I h) λc s1 e=>?_);cases c with
 | true=>exact isTrue_and_nil e
 | false=>exact e
theorem JM(ha:PT X a tA):PW X (.BoolOp .Or [a] pos) tA:=by
 intro wh pins s σ H Q I h;refine isTrue_or (bF (ha pins s σ H Q I h) λc s1 e=>?_);cases c with
 | false=>exact isTrue_or_nil e
 | true=>exact e
theorem Kl(ha:PT X a tA)(hb:PW X (.BoolOp .And (b::rest) pos) tB'):PW X (.BoolOp .And (a::b::rest) pos) (P5 tA tB'):=by
 intro wh pins s σ H Q I h;refine isTrue_and (bF (ha pins s σ H _ I h) λc s1 ⟨H1,I1,q1⟩=>?_);cases c with
 | true=>exact hb wh pins s1 σ H1 Q I1 q1
 | false=>exact⟨H1,I1,q1⟩
theorem Ms(ha:PT X a tA)(hb:PW X (.BoolOp .Or (b::rest) pos) tB'):PW X (.BoolOp .Or (a::b::rest) pos) (TH tA tB'):=by
 intro wh pins s σ H Q I h;refine isTrue_or (bF (ha pins s σ H _ I h) λc s1 ⟨H1,I1,q1⟩=>?_);cases c with
 | true=>exact⟨H1,I1,q1⟩
 | false=>exact hb wh pins s1 σ H1 Q I1 q1
theorem KN(ha:PT X a tA):PT X (.UnaryOp .Not a pos) (Qs tA):=by
 intro pins s σ H Q I h;exact isTrue_not (ha pins s σ H (λc H1=>Q (!c) H1) I h)
def L6(ta tb:TE):TE:=λσ H Q=>ta σ H λx H1=>∃c,x=.bl c/\if c=true then tb σ H1 Q else Q (.bl false) H1
def QA(ta tb:TE):TE:=λσ H Q=>ta σ H λx H1=>∃c,x=.bl c/\if c=true then Q (.bl true) H1 else tb σ H1 Q
def ND(ta:TE):TE:=λσ H Q=>ta σ H λx H1=>∃c,x=.bl c/\Q (.bl (!c)) H1
theorem JX{op}{t:TE}(h:PE X a t):PE X (.BoolOp op [a] pos) t:=λpins s σ H Q I hw=>BoolOp_one (h pins s σ H Q I hw)
theorem Kf(ha:PE X a ta)(hb:PE X (.BoolOp .And (b::rest) pos) tb):PE X (.BoolOp .And (a::b::rest) pos) (L6 ta tb):=by
 intro pins s σ H Q I h;refine BoolOp_and (bF (ha pins s σ H _ I h) λv s1 ⟨x,H1,I1,r1,q1⟩=>?_);obtain⟨c,rfl,q1⟩:=q1;cases r1;refine UL ?_;cases c with
 | true=>exact hb pins s1 σ H1 Q I1 q1
 | false=>exact⟨.bl false,H1,I1,rfl,q1⟩
theorem N'(ha:PE X a ta)(hb:PE X (.BoolOp .Or (b::rest) pos) tb):PE X (.BoolOp .Or (a::b::rest) pos) (QA ta tb):=by
 intro pins s σ H Q I h;refine BoolOp_or (bF (ha pins s σ H _ I h) λv s1 ⟨x,H1,I1,r1,q1⟩=>?_);obtain⟨c,rfl,q1⟩:=q1;cases r1;refine UL ?_;cases c with
 | false=>exact hb pins s1 σ H1 Q I1 q1
 | true=>exact⟨.bl true,H1,I1,rfl,q1⟩
theorem JD(ha:PE X a ta):PE X (.UnaryOp .Not a pos) (ND ta):=by
 intro pins s σ H Q I h;refine UnaryOp_ (bF (ha pins s σ H _ I h) λv s1 ⟨x,H1,I1,r1,q1⟩=>?_);obtain⟨c,rfl,q1⟩:=q1;cases r1;exact not_of (UL ⟨.bl (!c),H1,I1,rfl,q1⟩)
def T1(t:TT)(ta tb:TE):TE:=λσ H Q=>t σ H λc H1=>if c=true then ta σ H1 Q else tb σ H1 Q
theorem uY{c:Yf}(hc:PT X c tA)(ha:PE X a ta)(hb:PE X b tb):PE X (.IfExp c a b pos) (T1 tA ta tb):=by
 intro pins s σ H Q I h;refine wpAny_IfExp (bF (hc pins s σ H _ I h) λd s1 ⟨H1,I1,q1⟩=>?_);cases d with
 | true=>exact ha pins s1 σ H1 Q I1 q1
 | false=>exact hb pins s1 σ H1 Q I1 q1
end
def cJ(K:X6)(H:Hp)(a:Ye)(xs:Yn):Prop:=
 Rd H a (.lst xs)\/
  ∃(o:Obj)(a5:Array X7)(n:Nat),K.lookup a=some o/\o.cls=.type "list"/\o.dict=none/\o.data=.seq a5 n/\a5.size<=sizeLine/\ax xs a5.toList
def cM(K:X6)(H:Hp)(a:Ye)(xs:Yn):Prop:=
 Rd H a (.tup xs)\/
  ∃(o:Obj)(a5:Array X7)(n:Nat),K.lookup a=some o/\o.cls=.type "tuple"/\o.data=.seq a5 n/\a5.size<=sizeLine/\ax xs a5.toList
def QB:X7->Option V
 | .none=>some .non
 | .bool b=>some (.bl b)
 | .int i _=>some (.int i)
 | .str x _=>some (.str x)
 | .bytes b _=>some (.byt b)
 | .float b _=>some (.flt b)
 | .ref a=>some (.ref a)
 | .type n=>some (.ty n)
 | _=>none
theorem RelV.abs{x:V}{u:X7}(r:RelV x u):QB u=some x:=by
 cases x with
 | non=>cases r;rfl
 | bl _=>cases r;rfl
 | int _=>obtain⟨t,rfl⟩:=r;rfl
 | str _=>obtain⟨t,rfl⟩:=r;rfl
 | byt _=>obtain⟨t,rfl⟩:=r;rfl
 | flt _=>obtain⟨t,rfl⟩:=r;rfl
 | ref _=>cases r;rfl
 | ty _=>cases r;rfl
theorem RelV.inj{x y:V}{u:X7}(r:RelV x u)(q:RelV y u):x=y:=Option.some.inj (r.abs.symm.trans q.abs)
theorem ax.inj:∀{xs ys:Yn}{us:XX},ax xs us->ax ys us->xs=ys
 | _,_,_,.nil,.nil=>rfl
 | _,_,_,.cons r t,.cons r' t'=>by rw[r.inj r',ax.inj t t']
section
variable {X:Cx}{pins:XQ}{σ:St}{H:Hp}{s:X8}{a:Ye}{xs ys:Yn}
theorem cJ.of{K:X6}(h:H a=some (.lst xs)):cJ K H a xs:=.inl (.inl h)
theorem cM.of{K:X6}(h:H a=some (.tup xs)):cM K H a xs:=.inl (.inl h)
theorem Inv.list(I:Inv X pins σ H s)(h:cJ X.K H a xs):∃a5:XX,ax xs a5/\PlainL s.heap a a5.toArray/\xs.length<=sizeLine:=by
 rcases h with h | ⟨o,a5,n,hk,hc,hd,hs,hz,r⟩
 .obtain⟨z,a5,n,r,e⟩:=h.ok I.hok;exact⟨a5,r,⟨_,n,e,rfl,rfl,rfl⟩,z⟩
 .refine⟨a5.toList,r,⟨o,n,I.kIn a o hk,hc,hd,by simpa using hs⟩,?_⟩;have e:=r.length;simp only[Uk]at e
  lia
theorem Inv.tuple(I:Inv X pins σ H s)(h:cM X.K H a xs):∃a5:XX,ax xs a5/\IsTup s.heap a a5.toArray/\xs.length<=sizeLine:=by
 rcases h with h | ⟨o,a5,n,hk,hc,hs,hz,r⟩
 .obtain⟨z,a5,r,p⟩:=h.ok I.hok;exact⟨a5,r,p,z⟩
 .refine⟨a5.toList,r,⟨o,I.kIn a o hk,hc,n,by simpa using hs⟩,?_⟩;have e:=r.length;simp only[Uk]at e
  lia
theorem Inv.list_inj(I:Inv X pins σ H s)(h:cJ X.K H a xs)(h':cJ X.K H a ys):xs=ys:=by
 obtain⟨a5,r,⟨o,n,e,_,_,d⟩,_⟩:=I.list h;obtain⟨its',r',⟨o',n',e',_,_,d'⟩,_⟩:=I.list h';rw[e]at e';cases e';rw[d]at d'
 injection d' with d1 _
 have:a5=its':=by simpa using UW Array.toList d1
 subst this;exact r.inj r'
theorem Inv.tuple_inj(I:Inv X pins σ H s)(h:cM X.K H a xs)(h':cM X.K H a ys):xs=ys:=by
 obtain⟨a5,r,⟨o,e,_,n,d⟩,_⟩:=I.tuple h;obtain⟨its',r',⟨o',e',_,n',d'⟩,_⟩:=I.tuple h';rw[e]at e';cases e';rw[d]at d'
 injection d' with d1 _
 have:a5=its':=by simpa using UW Array.toList d1
 subst this;exact r.inj r'
end
abbrev Cx.wish(X:Cx)(E:XO):Cx:={X with xe:=E}
abbrev Cx.nox(X:Cx):Cx:=X.wish λ_ _=>False
theorem Cx.Ok.wish{X:Cx}(ok:X.Ok)(E:XO):(X.wish E).Ok:=
 ⟨ok.mod,ok.kind,ok.glob,ok.blt,ok.above,ok.inj,ok.has,ok.cab,ok.hd,ok.frames,ok.stk,ok.exf,ok.bs,ok.bsz,ok.noex,ok.exfs,ok.funs,ok.frf,ok.tb⟩
theorem Cx.Ok.unwish{X:Cx}{E:XO}(ok:(X.wish E).Ok):X.Ok:=
 ⟨ok.mod,ok.kind,ok.glob,ok.blt,ok.above,ok.inj,ok.has,ok.cab,ok.hd,ok.frames,ok.stk,ok.exf,ok.bs,ok.bsz,ok.noex,ok.exfs,ok.funs,ok.frf,ok.tb⟩
section
variable {X:Cx}{pins:XQ}{σ:St}{H:Hp}{s:X8}{E:XO}
theorem Inv.wish(I:Inv X pins σ H s)(E:XO):Inv (X.wish E) pins σ H s:=⟨I.ok.wish E,I.os,I.bare,I.base,I.loc,I.cell,I.free,I.freeC,I.pin,I.hok,I.len⟩
theorem Inv.unwish(I:Inv (X.wish E) pins σ H s):Inv X pins σ H s:=⟨I.ok.unwish,I.os,I.bare,I.base,I.loc,I.cell,I.free,I.freeC,I.pin,I.hok,I.len⟩
theorem SP.unwish{D:Ends}{f:Flow}{s':X8}(h:SP (X.wish E) pins D f s'):SP X pins D f s':=by
 cases f with
 | next=>obtain⟨σ',H',I,q⟩:=h;exact⟨σ',H',I.unwish,q⟩
 | brk=>obtain⟨σ',H',I,q⟩:=h;exact⟨σ',H',I.unwish,q⟩
 | cont=>obtain⟨σ',H',I,q⟩:=h;exact⟨σ',H',I.unwish,q⟩
 | ret u=>obtain⟨v,σ',H',I,r,q⟩:=h;exact⟨v,σ',H',I.unwish,r,q⟩
theorem qg.nox{st:X2}{t:TS}(h:qg X.nox st t):qg X st t:=λpins s σ H D I hw=>
 Ur (h pins s σ H D (I.wish _) hw) (λ_ _ q=>q.unwish) λ_ _ z=>False.elim z
end
section
variable {X:Cx}{st:Yg}{rest:X2}{t u:TS}{e:Yf}{te:TE}{pos:Pos}
def tNext:TS:=λD σ H=>D.nx σ H
def P2(t u:TS):TS:=λD σ H=>t {D with nx:=u D} σ H
theorem F9:qg X [] tNext:=λ_ _ σ H _ I h=>wpAny_execs_nil ⟨σ,H,I,h⟩
theorem lS(h1:PS X st t)(h2:qg X rest u):qg X (st::rest) (P2 t u):=by
 intro pins s σ H D I h;refine wpAny_execs_cons (bF (h1 pins s σ H {D with nx:=u D} I h) λf s1 q=>?_);cases f with
 | next=>
  obtain⟨σ',H',I',q⟩:=q;exact h2 pins s1 σ' H' D I' q
 | ret v=>exact q
 | brk=>exact q
 | cont=>exact q
theorem jH(h1:PS X st t):qg X [st] t:=by
 intro pins s σ H D I h;refine wpAny_execs_cons (bF (h1 pins s σ H D I h) λf s1 q=>?_);cases f with
 | next=>exact wpAny_execs_nil q
 | ret v=>exact q
 | brk=>exact q
 | cont=>exact q
theorem Inv.quiet{pins:XQ}{σ:St}{H:Hp}{s:X8}(I:Inv X pins σ H s):interactive X.env=false:=by simp[interactive,I.ok.kind]
def M6(te:TE):TS:=λD σ H=>te σ H λ_ H1=>D.nx σ H1
theorem nJ(he:PE X e te)(hs:swapsWith e none pos.line X.env=pure false:=by rfl):PS X (.Expr e pos) (M6 te):=by
 intro pins s σ H D I h;exact wpAny_Expr_any (bF (he pins s σ H _ I h) λv s1 ⟨x,H1,I1,r1,q1⟩=>⟨σ,H1,I1,q1⟩) I.quiet hs
def Qx(te:TE):TS:=λD σ H=>te σ H D.rt
theorem tj(he:PE X e te):PS X (.Return (some e) pos) (Qx te):=by
 intro pins s σ H D I h;exact wpAny_Return_some (bF (he pins s σ H _ I h) λv s1 ⟨x,H1,I1,r1,q1⟩=>⟨x,σ,H1,I1,r1,q1⟩)
def Qu(c:TT)(t u:TS):TS:=λD σ H=>c σ H λb H1=>if b=true then t D σ H1 else u D σ H1
theorem Mf{c:Yf}{a b:X2}{tc:TT}(hc:PT X c tc)(ha:qg X a t)(hb:qg X b u):PS X (.If c a b pos) (Qu tc t u):=by
 intro pins s σ H D I h;refine wpAny_If (bF (hc pins s σ H _ I h) λd s1 ⟨H1,I1,q1⟩=>?_);cases d with
 | true=>exact ha pins s1 σ H1 D I1 q1
 | false=>exact hb pins s1 σ H1 D I1 q1
end
abbrev TG:=V->St->Hp->(St->Hp->Prop)->Prop
abbrev TGs:=Yn->St->Hp->(St->Hp->Prop)->Prop
def PG(X:Cx)(target:Yf)(t:TG):Prop:=
 ∀(pins:XQ)(s:X8)(σ:St)(H:Hp)(v:V)(u:X7)(Q:St->Hp->Prop),Inv X pins σ H s->RelV v u->t v σ H Q->
  wpAny (model X.prog X.w) X.A (assign target X.env u) (λ_ s'=>∃σ' H',Inv X pins σ' H' s'/\Q σ' H') X.xe s
def BB(X:Cx)(ts:X1)(t:TGs):Prop:=
 ∀(pins:XQ)(s:X8)(σ:St)(H:Hp)(vs:Yn)(us:XX)(Q:St->Hp->Prop),Inv X pins σ H s->ax vs us->t vs σ H Q->
  wpAny (model X.prog X.w) X.A (assignInOrder ((assignEach ts X.env).map (·.2)) us) (λ_ s'=>∃σ' H',Inv X pins σ' H' s'/\Q σ' H') X.xe s
abbrev TSet:=V->V->V->Hp->(Hp->Prop)->Prop
def MM(X:Cx)(t:TSet):Prop:=
 ∀(pins:XQ)(s:X8)(σ:St)(H:Hp)(o i v:V)(ov iv u:X7)(Q:Hp->Prop),Inv X pins σ H s->RelV o ov->RelV i iv->RelV v u->t o i v H Q->
  wpAny (model X.prog X.w) X.A (setItem ov iv u) (λ_ s'=>∃H',Inv X pins σ H' s'/\Q H') X.xe s
abbrev TIp:=V->V->Hp->VK->Prop
def Pb(X:Cx)(op:Operator)(t:TIp):Prop:=
 ∀(pins:XQ)(s:X8)(σ:St)(H:Hp)(x y:V)(v u:X7)(Q:VK),Inv X pins σ H s->RelV x v->RelV y u->t x y H Q->
  wpAny (model X.prog X.w) X.A (inplaceOp op v u) (EP X pins σ Q) X.xe s
section
variable {X:Cx}{pos:Pos}
def rR(i:Nat):TG:=λv σ H Q=>Q (σ.set i (some v)) H
theorem jB{i:Nat}{x:Str}(hN:X.N.Nodup)(hi:X.N[i]?=some x)(hx:Loc X.env.scope x)(hf:X.fn x=true\/X.env.scope.names.lookup x=some .local:=by first | exact .inl rfl | exact .inr rfl | assumption):PG X (.Name x pos) (rR i):=by
 intro pins s σ H v u Q I r h;exact wpAny_assign_Name (om I hN hi hx r (λs' I'=>⟨_,H,I',h⟩) hf)
def gNil:TGs:=λvs σ H Q=>vs=[]/\Q σ H
def IJ(t:TG)(u:TGs):TGs:=λvs σ H Q=>∃v r,vs=v::r/\t v σ H λσ' H'=>u r σ' H' Q
theorem sY:BB X [] gNil:=by
 intro pins s σ H vs us Q I r h;obtain⟨e,h⟩:=h;subst e;cases r;exact assignInOrder_nil ⟨σ,H,I,h⟩
theorem gT{e:Yf}{es:X1}{t:TG}{u:TGs}(h1:PG X e t)(h2:BB X es u)
  (hs:(assignEach (e::es) X.env).map (·.2)=assign e X.env::(assignEach es X.env).map (·.2):=by rfl):BB X (e::es) (IJ t u):=by
 intro pins s σ H vs us Q I r h;obtain⟨v,vr,e1,h⟩:=h;subst e1;cases r with
 | cons r rr=>
  rw[hs];refine assignInOrder_cons (bF (h1 pins s σ H _ _ _ I r h) λ_ s1 ⟨σ1,H1,I1,q1⟩=>?_);exact h2 pins s1 σ1 H1 _ _ Q I1 rr q1
def Qq(K:X6)(n:Nat)(t:TGs):TG:=λv σ H Q=>∃a xs,v=.ref a/\cM K H a xs/\xs.length=n/\t xs σ H Q
theorem xT{es:X1}{k:Nat}{t:TGs}{n:Nat}(hc:X.calm=true)(h:BB X es t)
  (hn:(assignEach es X.env).length=n:=by rfl) (hst:(assignEach es X.env).findIdx? (·.1)=none:=by rfl):PG X (.Tuple es k pos) (Qq X.K n t):=by
 intro pins s σ H v u Q I r hw;obtain⟨a,xs,e1,hq,hl,hw⟩:=hw;subst e1;cases r;obtain⟨a5,rv,ht,hz⟩:=I.tuple hq;refine assign_Tuple_tuple (I.ok.hd hc) ht (by simp[hn,<- hl,rv.length]) hst λh' hx=>?_;have I1:Inv X pins σ H {s with heap:=h'}:=I.kept (t':=s.toks) λb o e=>hx b o (B_ (q_ e)) e;exact h pins _ σ H xs _ Q I1 (by simpa using rv) hw
def DZ(te:TE)(g:TG):TS:=λD σ H=>te σ H λx H1=>g x σ H1 D.nx
theorem xR{tg e:Yf}{te:TE}{g:TG}(he:PE X e te)(hg:PG X tg g)(hs:swapsWithSole [tg] e pos.line X.env=pure false:=by rfl)(hw:swappedStores [tg] e X.env=pure none:=by rfl)
  (h1:(assignEach [tg] X.env).map (·.2)=[assign tg X.env]:=by rfl):PS X (.Assign [tg] e pos) (DZ te g):=by
 intro pins s σ H D I h;refine wpAny_Assign_stores (bF (he pins s σ H _ I h) λv s1 ⟨x,H1,I1,r1,q1⟩=>?_) hs hw;rw[h1];exact bF (hg pins s1 σ H1 x v _ I1 r1 q1) λ_ s2 q=>q
theorem sg{i:Nat}{x:Str}{e:Yf}{te:TE}{pos':Pos}(hN:X.N.Nodup)(hi:X.N[i]?=some x)(hx:Loc X.env.scope x)(he:PE X e te)(hs:swapsWith e (some (.Name x pos')) pos.line X.env=pure false:=by rfl)(hf:X.fn x=true\/X.env.scope.names.lookup x=some .local:=by first | exact .inl rfl | exact .inr rfl | assumption) :
  PS X (.Assign [.Name x pos'] e pos) (DZ te (rR i)):=by
 intro pins s σ H D I h;refine wpAny_Assign_Name (bF (he pins s σ H _ I h) λv s1 ⟨y,H1,I1,r1,q1⟩=>?_) hs;exact om I1 hN hi hx r1 (λs2 I2=>⟨_,H1,I2,q1⟩) hf
def Qw(i:Nat)(te:TE)(ti:TIp):TS:=λD σ H=>∃x,σ[i]?=some (some x)/\te σ H λy H1=>ti x y H1 λz H2=>D.nx (σ.set i (some z)) H2
theorem Ju{i:Nat}{x:Str}{e:Yf}{te:TE}{op:Operator}{ti:TIp}{pos':Pos}(hN:X.N.Nodup)(hi:X.N[i]?=some x)(hx:Loc X.env.scope x)(he:PE X e te)(ho:Pb X op ti)(hf:X.fn x=true\/X.env.scope.names.lookup x=some .local:=by first | exact .inl rfl | exact .inr rfl | assumption) :
  PS X (.AugAssign (.Name x pos') op e pos) (Qw i te ti):=by
 intro pins s σ H D I h;obtain⟨v,e1,h⟩:=h;obtain⟨m,hn,hl⟩:=I.loc;have vis:uL X.env.scope x:=by rcases hx with k | k;exact .inl k;exact .inr (.inl k)
 obtain⟨u,r,l⟩:=hl i x v hi e1 vis;refine wpAny_AugAssign_Name ?_;have go:wpAny (model X.prog X.w) X.A (eval e X.env) (λw s₂=>wpAny (model X.prog X.w) X.A (inplaceOp op u w) (λr s₃=>wpAny (model X.prog X.w) X.A (storeName X.env x r) (λ_=>SP X pins D .next) X.xe s₃) X.xe s₂) X.xe s:=by
  refine bF (he pins s σ H _ I h) λw s1 ⟨y,H1,I1,r1,q1⟩=>?_;refine bF (ho pins s1 σ H1 v y u w _ I1 r r1 q1) λz s2 ⟨zv,H2,I2,r2,q2⟩=>?_;exact om I2 hN hi hx r2 (λs3 I3=>⟨_,H2,I3,q2⟩) hf
 rcases l with ⟨hk,hm⟩ | ⟨hk,c,hc,AL⟩
 .exact wpAny_loadName_local I.ok.kind hk hn hm go
 .rcases hk with hk | hk
  .exact wpAny_loadName_cell I.ok.kind hk hc AL go
  .rcases hx with k | k
   .have:X.env.scope.names.lookup x=some .free:=hk;rw[k]at this;cases this
   .have:X.env.scope.names.lookup x=some .free:=hk;rw[k]at this;cases this
def ML(to ti te:TE)(Ib:V->V->Hp->VK->Prop)(Pn:TIp)(Ic:TSet):TS:=λD σ H=>to σ H λo H1=>ti σ H1 λi H2=>Ib o i H2 λx H3=>te σ H3 λy H4=>Pn x y H4 λz H5=>Ic o i z H5 λH6=>D.nx σ H6
def MB(X:Cx)(t:V->V->Hp->VK->Prop):Prop:=
 ∀(pins:XQ)(s:X8)(σ:St)(H:Hp)(o i:V)(ov iv:X7)(Q:VK),Inv X pins σ H s->RelV o ov->RelV i iv->t o i H Q->
  wpAny (model X.prog X.w) X.A (getItem ov iv) (EP X pins σ Q) X.xe s
theorem G5{o i e:Yf}{to ti te:TE}{Ib:V->V->Hp->VK->Prop}{Pn:TIp}{Ic:TSet}{op:Operator}{tpos:Pos}(ho:PE X o to)(hi:PE X i ti)(hg:MB X Ib)(he:PE X e te)(hp:Pb X op Pn)(hs:MM X Ic)
  (ha:∀ov iv new,augStore i ov iv new=(do holding [new,ov,iv] (setItem ov iv new);release [new,ov,iv] [];pure .next):=by intros;rfl):PS X (.AugAssign (.Subscript o i tpos) op e pos) (ML to ti te Ib Pn Ic):=by
 intro pins s σ H D I h;refine wpAny_AugAssign_SubscriptAny (bF (ho pins s σ H _ I h) λov s1 ⟨x1,H1,I1,r1,q1⟩=>?_) ha;refine bF (hi pins s1 σ H1 _ I1 q1) λiv s2 ⟨x2,H2,I2,r2,q2⟩=>?_;refine bF (hg pins s2 σ H2 x1 x2 ov iv _ I2 r1 r2 q2) λold s3 ⟨x3,H3,I3,r3,q3⟩=>?_;refine bF (he pins s3 σ H3 _ I3 q3) λv s4 ⟨x4,H4,I4,r4,q4⟩=>?_;refine bF (hp pins s4 σ H4 x3 x4 old v _ I4 r3 r4 q4) λnew s5 ⟨x5,H5,I5,r5,q5⟩=>?_;exact bF (hs pins s5 σ H5 x1 x2 x5 ov iv new _ I5 r1 r2 r5 q5) λ_ s6 ⟨H6,I6,q6⟩=>⟨σ,H6,I6,q6⟩
def T3(f:Int->Int->Int):TIp:=λx y H Q=>∃i j,x=.int i/\y=.int j/\Q (.int (f i j)) H
theorem J9:Pb X .Add (T3 λi j=>i+j):=by
 intro pins s σ H x y v u Q I r1 r2 h;obtain⟨i,j,e1,e2,q⟩:=h;subst e1;subst e2;obtain⟨t,rfl⟩:=r1;obtain⟨t',rfl⟩:=r2;exact iadd_int ⟨.int _,H,I.tok _,⟨_,rfl⟩,q⟩
end
section
variable {X:Cx}{pos:Pos}
end
structure It where
 go:Nat->Hp->Prop
 yld:Nat->Hp->V->Hp->Prop
 stop:Nat->Hp->Prop
def cf(X:Cx)(pins:XQ)(H:Hp)(b:Ye):Prop:=
 H b=none/\b≠X.env.locals/\b∉X.fs/\(b∈X.ex\/X.s₀.heap.objs.size<=b)/\(∀x c,X.env.cells.lookup x=some c->c≠b)/\∀p∈X.pn++pins,p.1≠b
theorem Inv.fpOk{X:Cx}{pins:XQ}{σ:St}{H H':Hp}{s:X8}{b:Ye}(I:Inv X pins σ H s)(hb:s.heap.objs.size<=b)(hn:H' b=none):cf X pins H' b:=by
 refine⟨hn,XF (Q_ I.lt hb),I.nofs hb,.inr (G_ I.sz hb),λx c e z=>?_,λp hp z=>?_⟩
 .obtain⟨v,q⟩:=I.cell x c e;exact absurd (Q_ q.lt (by rw[z];exact hb)) (VJ _)
 .exact absurd (Q_ (q_ (I.pin p hp).1) (by rw[z];exact hb)) (VJ _)
structure Turn(P:Program)(w:World)(K:PySem.W.Frag)(tg:Expr)(J:It)(fp:List Addr)(it:Addr)(tn:Nat->Heap->Prop):Prop where
 mem:it∈fp
 obj:∀i h,tn i h->∀b∈fp,∃o,h.get? b=some o/\∀v,o.data≠.cell v
 keep:∀i h h',tn i h->(∀b∈fp,∀o,h.get? b=some o->h'.get? b=some o)->tn i h'
 item:∀(X:Cx),X.prog=P->X.w=w->X.K=K->X.calm=true->∀(i:Nat)(pins:List (Addr×Obj))(s:Shared)(σ:St)(H:Hp)(E:Value->Shared->Prop),Inv X pins σ H s->(∀b∈fp,cf X pins H b)->tn i s.heap->J.go i H->
  wpAny (model P w) X.A (pyNext (.ref it)) (λr s1=>∃u,r=some u/\
   wpAny (model P w) X.A (letOwnedTupleGo tg (.ref it) u) (λ_ s2=>∃x H',Inv X pins σ H' s2/\RelV x u/\J.yld i H x H'/\tn (i+1) s2.heap/\∀b∈fp,H' b=none) E s1) E s
 done:∀(X:Cx),X.prog=P->X.w=w->X.K=K->X.calm=true->∀(i:Nat)(pins:List (Addr×Obj))(s:Shared)(σ:St)(H:Hp)(E:Value->Shared->Prop),Inv X pins σ H s->(∀b∈fp,cf X pins H b)->tn i s.heap->J.stop i H->
  wpAny (model P w) X.A (pyNext (.ref it)) (λr s1=>r=none/\Inv X pins σ H s1) E s
 self:∀(A:Around)(i:Nat)(s:Shared)(Q:Value->Shared->Prop)(E:Value->Shared->Prop),tn i s.heap->Q (.ref it) s->wpAny (model P w) A (pyIter (.ref it)) Q E s
abbrev TI:=St->Hp->(It->Hp->Prop)->Prop
def Sv(X:Cx)(pins:XQ)(σ:St)(tg:Yf)(R:It->Hp->Prop)(Oi:X7)(s2:X8):Prop:=
 ∃(it:Ye)(fp:X0)(tn:Nat->Ya->Prop)(J:It)(H':Hp),Oi=.ref it/\Inv X pins σ H' s2/\Turn X.prog X.w X.K tg J fp it tn/\tn 0 s2.heap/\(∀b∈fp,cf X pins H' b)/\R J H'
def PI(X:Cx)(tg iter:Yf)(wi:TI):Prop:=
 ∀(pins:XQ)(s:X8)(σ:St)(H:Hp)(R:It->Hp->Prop),Inv X pins σ H s->wi σ H R->
  wpAny (model X.prog X.w) X.A (eval iter X.env) (λv s1=>wpAny (model X.prog X.w) X.A (pyIter v) (Sv X pins σ tg R) X.xe s1) X.xe s
theorem CZ{M:Model}{A:X_}{E:XO}{s:X8}{tg:Yf}{it:Ye}{u:X7}{o:Obj}{n:String}{vs:Array X7}{Q:Unit->X8->Prop}(ho:s.heap.get? it=some o)(hc:o.cls=.type n)(hd:o.data=.fields vs)
    (hn:["enumerate","zip","dict_itemiterator","dict_reverseitemiterator","odict_iterator","itertools.zip_longest","itertools.pairwise"].contains n=false) (hQ:Q () s):wpAny M A (letOwnedTupleGo tg (.ref it) u) Q E s:=by
  unfold letOwnedTupleGo;cases tg<;>first
    | exact d_ hQ
    | (cases u<;>first
        | exact d_ hQ
        | (refine b_ (wpAny_load ho ?_)
           rw[hc,hd];show wpAny M A (if(["enumerate","zip","dict_itemiterator","dict_reverseitemiterator","odict_iterator","itertools.zip_longest","itertools.pairwise"].contains n&&vs[0]?==some (rawInt _))=true then _ else _) Q E s;rw[h_ (by intro h;rw[hn,Xd]at h;cases h)];exact d_ hQ))
def P1(K:X6)(a:Ye):It:=
 ⟨λi H=>∃xs x,cJ K H a xs/\xs[i]?=some x,λi H x H'=>H'=H/\∀xs,cJ K H a xs->xs[i]?=some x,λi H=>∃xs,cJ K H a xs/\xs.length<=i⟩
def Qf(K:X6)(a:Ye):It:=
 ⟨λi H=>∃xs x,cM K H a xs/\xs[i]?=some x,λi H x H'=>H'=H/\∀xs,cM K H a xs->xs[i]?=some x,λi H=>∃xs,cM K H a xs/\xs.length<=i⟩
def O'(lo:Int)(n:Nat):It:=⟨λi _=>i<n,λi H x H'=>H'=H/\x=.int (lo+i),λi _=>n<=i⟩
theorem AW{P:X9}{w:Yb}{K:X6}{tg:Yf}(a it:Ye):Turn P w K tg (P1 K a) [it] it (λi h=>h.IsListIter it a i) where
 mem:=by simp
 obj:=λi h st b hb=>by
  have e:b=it:=by simpa using hb
  subst e;obtain⟨o,e,c,d⟩:=st;exact⟨o,e,λv z=>by rw[d]at z;cases z⟩
 keep:=λi h h' st k=>st.at λo e=>k it (by simp) o e
 item:=by
  intro X hP hw hK hc i pins s σ H E I hf st hg;subst hP hw hK;obtain⟨xs,x,hq,hx⟩:=hg;obtain⟨a5,rv,p,hz⟩:=I.list hq;obtain⟨u,hu,ru⟩:=rv.get hx;obtain⟨f0,f1,f2,f3,f4,f5⟩:=hf it (by simp);refine Vt st p.isList (x:=u) (by simpa using hu) λh' wZ sb=>?_;have I1:Inv X pins σ H {s with heap:=h'}:=I.turned (t':=s.toks) (λb o hb e=>(sb.2 b hb).trans e) f0 f1 f3 f4 f5;obtain⟨o,e,c,d⟩:=id wZ;exact⟨u,rfl,CZ (s:={s with heap:=h'}) e c d (by decide) ⟨x,H,I1,ru,⟨rfl,λys hy=>by rw[I.list_inj hy hq];exact hx⟩,wZ,λb hb=>(hf b hb).1⟩⟩
 done:=by
  intro X hP hw hK hc i pins s σ H E I hf st hg;subst hP hw hK;obtain⟨xs,hq,hx⟩:=hg;obtain⟨a5,rv,p,hz⟩:=I.list hq;obtain⟨f0,f1,f2,f3,f4,f5⟩:=hf it (by simp);have hl:=rv.length;exact V8 (I.ok.hd hc) st p.isList (by simp;lia) λh' eb=>⟨rfl,I.turned (t':=s.toks) (λb o hb e=>eb b o hb e) f0 f1 f3 f4 f5⟩
 self:=λ_ _ _ _ _ st h=>wpAny_pyIter_listiter st h
theorem x9{P:X9}{w:Yb}{K:X6}{tg:Yf}(a it:Ye):Turn P w K tg (Qf K a) [it] it (λi h=>h.IsTupleIter it a i) where
 mem:=by simp
 obj:=λi h st b hb=>by
  have e:b=it:=by simpa using hb
  subst e;obtain⟨o,e,c,d⟩:=st;exact⟨o,e,λv z=>by rw[d]at z;cases z⟩
 keep:=λi h h' st k=>st.at λo e=>k it (by simp) o e
 item:=by
  intro X hP hw hK hc i pins s σ H E I hf st hg;subst hP hw hK;obtain⟨xs,x,hq,hx⟩:=hg;obtain⟨a5,rv,p,hz⟩:=I.tuple hq;obtain⟨u,hu,ru⟩:=rv.get hx;obtain⟨f0,f1,f2,f3,f4,f5⟩:=hf it (by simp);refine wpAny_pyNext_tuple_item st (show s.heap.IsTuple a a5.toArray from p) (x:=u) (by simpa using hu) λh' wZ sb=>?_;have I1:Inv X pins σ H {s with heap:=h'}:=I.turned (t':=s.toks) (λb o hb e=>(sb.2 b hb).trans e) f0 f1 f3 f4 f5;obtain⟨o,e,c,d⟩:=id wZ;exact⟨u,rfl,CZ (s:={s with heap:=h'}) e c d (by decide) ⟨x,H,I1,ru,⟨rfl,λys hy=>by rw[I.tuple_inj hy hq];exact hx⟩,wZ,λb hb=>(hf b hb).1⟩⟩
 done:=by
  intro X hP hw hK hc i pins s σ H E I hf st hg;subst hP hw hK;obtain⟨xs,hq,hx⟩:=hg;obtain⟨a5,rv,p,hz⟩:=I.tuple hq;obtain⟨f0,f1,f2,f3,f4,f5⟩:=hf it (by simp);have hl:=rv.length;exact wpAny_pyNext_tuple_end (I.ok.hd hc) st (show s.heap.IsTuple a a5.toArray from p) (by simp;lia) λh' eb=>⟨rfl,I.turned (t':=s.toks) (λb o hb e=>eb b o hb e) f0 f1 f3 f4 f5⟩
 self:=λ_ _ _ _ _ st h=>wpAny_pyIter_tupleiter st h
theorem yU{P:X9}{w:Yb}{K:X6}{tg:Yf}(it:Ye)(lo:Int)(n:Nat):Turn P w K tg (O' lo n) [it] it (λi h=>IsRangeIter h it (lo+(i:Nat)*1) ((n:Int)-(i:Nat)) 1) where
 mem:=by simp
 obj:=λi h st b hb=>by
  have e:b=it:=by simpa using hb
  subst e;exact⟨_,st,λv z=>by
   have z':Data.fields _=Data.cell v:=z;cases z'⟩
 keep:=λi h h' st k=>k it (by simp) _ st
 item:=by
  intro X hP hw hK hc i pins s σ H E I hf st hg;subst hP hw hK;obtain⟨f0,f1,f2,f3,f4,f5⟩:=hf it (by simp);have W:=Walks.range (prog:=X.prog) (w:=X.w) (I.ok.hd hc) it lo 1 n;refine W.item i s _ _ hg st λv h' tk hv wZ kk=>?_;obtain⟨t,rfl⟩:=hv;have I1:Inv X pins σ H {s with heap:=h',toks:=tk}:=I.turned (λb o hb e=>kk b o (by simpa using hb) e) f0 f1 f3 f4 f5;refine⟨_,rfl,CZ (s:={s with heap:=h',toks:=tk}) (n:="range_iterator") wZ rfl rfl (by decide) ⟨.int (lo+i),H,I1,⟨t,?_⟩,⟨rfl,rfl⟩,wZ,λb hb=>(hf b hb).1⟩⟩;rw[Int.mul_one]
 done:=by
  intro X hP hw hK hc i pins s σ H E I hf st hg;subst hP hw hK;obtain⟨f0,f1,f2,f3,f4,f5⟩:=hf it (by simp);exact wpAny_pyNext_range_end (I.ok.hd hc) st (by have:n<=i:=hg;lia) λh' eb=>⟨rfl,I.turned (t':=s.toks) (λb o hb e=>eb b o hb e) f0 f1 f3 f4 f5⟩
 self:=λ_ _ _ _ _ st h=>wpAny_pyIter_rangeiter st h
section
variable {X:Cx}{tg:Yf}
def Nh(K:X6)(tl:TE):TI:=λσ H R=>tl σ H λx H1=>∃a,x=.ref a/\(∃xs,cJ K H1 a xs)/\R (P1 K a) H1
def PZ(K:X6)(tl:TE):TI:=λσ H R=>tl σ H λx H1=>∃a,x=.ref a/\(∃xs,cM K H1 a xs)/\R (Qf K a) H1
theorem GB{l:Yf}{tl:TE}(hl:PE X l tl):PI X tg l (Nh X.K tl):=by
 intro pins s σ H R I h;refine bF (hl pins s σ H _ I h) λv s1 ⟨x,H1,I1,r1,q1⟩=>?_;obtain⟨a,e,⟨xs,hq⟩,q⟩:=q1;subst e;cases r1;obtain⟨a5,rv,p,hz⟩:=I1.list hq;refine U9 p.isList ?_;refine⟨s1.heap.objs.size,[s1.heap.objs.size],_,_,H1,rfl,I1.kept (t':=s1.toks) λb o e=>e_ _ e,AW a _,⟨_,n_ _ rfl,rfl,rfl⟩,λb hb=>?_,q⟩;have e:b=s1.heap.objs.size:=by simpa using hb
 subst e;exact I1.fpOk (m_ _) (I1.hok.fresh (m_ _))
theorem K0{l:Yf}{tl:TE}(hl:PE X l tl):PI X tg l (PZ X.K tl):=by
 intro pins s σ H R I h;refine bF (hl pins s σ H _ I h) λv s1 ⟨x,H1,I1,r1,q1⟩=>?_;obtain⟨a,e,⟨xs,hq⟩,q⟩:=q1;subst e;cases r1;obtain⟨a5,rv,p,hz⟩:=I1.tuple hq;refine Vz (show s1.heap.IsTuple a a5.toArray from p) ?_;refine⟨s1.heap.objs.size,[s1.heap.objs.size],_,_,H1,rfl,I1.kept (t':=s1.toks) λb o e=>e_ _ e,x9 a _,⟨_,n_ _ rfl,rfl,rfl⟩,λb hb=>?_,q⟩;have e:b=s1.heap.objs.size:=by simpa using hb
 subst e;exact I1.fpOk (m_ _) (I1.hok.fresh (m_ _))
theorem DA{pins:XQ}{σ:St}{H:Hp}{s:X8}{R:It->Hp->Prop}{E:XO}{lo hi:Int}{t u v:Tok}{tk:Nat}(I:Inv X pins σ H s)(h1:-(2 ^ 62)<=lo)(h2:lo<2 ^ 62)(h3:-(2 ^ 62)<=hi)(h4:hi<2 ^ 62)
  (q:R (O' lo (hi-lo).toNat) H):wpAny (model X.prog X.w) X.A (pyIter (.ref s.heap.objs.size)) (Sv X pins σ tg R) E {s with heap:=s.heap.push {cls:=.type "range",data:=.fields #[.int lo t,.int hi u,.int 1 v]},toks:=tk}:=by
 refine wpAny_pyIter_range (IsRange.new ..) (small_one h1 h2 h3 h4) ?_;have I1:Inv X pins σ H {s with heap:=s.heap.push {cls:=.type "range",data:=.fields #[.int lo t,.int hi u,.int 1 v]},toks:=tk}:=I.kept λb o e=>e_ _ e;refine⟨(s.heap.push {cls:=.type "range",data:=.fields #[.int lo t,.int hi u,.int 1 v]}).objs.size,[(s.heap.push {cls:=.type "range",data:=.fields #[.int lo t,.int hi u,.int 1 v]}).objs.size],_,_,H,rfl,
  I1.kept (t':=tk) λb o e=>e_ _ e,yU _ lo (hi-lo).toNat,?_,λb hb=>?_,q⟩
 .have e1:lo+((0:Nat):Int)*1=lo:=by simp
  have e2:(((hi-lo).toNat:Nat):Int)-((0:Nat):Int)=Builtin.Range.rangeSize lo hi 1:=by rw[rangeSize_one];split<;>lia
  show IsRangeIter _ _ (lo+((0:Nat):Int)*1) ((((hi-lo).toNat:Nat):Int)-((0:Nat):Int)) 1;rw[e1,e2];exact n_ _ rfl
 .have e:b=(s.heap.push {cls:=.type "range",data:=.fields #[.int lo t,.int hi u,.int 1 v]}).objs.size:=by simpa using hb
  subst e;exact I1.fpOk (m_ _) (I1.hok.fresh (m_ _))
def L7(ta:TA):TI:=λσ H R=>ta σ H λvs H1=>∃j:Int,vs=[.int j]/\-(2 ^ 62)<=j/\j<2 ^ 62/\R (O' 0 j.toNat) H1
theorem BU{a:Yf}{ta:TA}{p pos:Pos}(hg:Gl X "range")(hm:X.mg "range"=none)(ha:PA X [a] ta)(hs:starEach [a] X.env=[(false,eval a X.env)]:=by rfl):PI X tg (.Call (.Name "range" p) [a] [] pos) (L7 ta):=by
 intro pins s σ H R I h;refine Call_ (lX I hg hm boot_range (Wa (bF (ha pos pins s σ H _ I h) λus s1 ⟨vs,H1,I1,r1,q1⟩=>?_) hs rfl));obtain⟨j,e,q1,q2,q⟩:=q1;subst e;cases r1 with
 | cons r rr=>
  cases rr;obtain⟨t,rfl⟩:=r;exact call_range_1 (DA I1 (by lia) (by lia) q1 q2 (by simpa using q))
def Qh(wi:TI)(g:TG)(tb:TS):TS:=λD σ H=>wi σ H λJ H1=>∃W:Nat->Nat->St->Hp->Prop,(∃m,W 0 m σ H1)/\∀i m σ H,W i m σ H->
 (J.stop i H/\D.nx σ H)\/(J.go i H/\∃N:St->Hp->Prop,(∀σ' H',N σ' H'->∃m',m'<m/\W (i+1) m' σ' H')/\∀x H',J.yld i H x H'->g x σ H' λσ2 H2=>tb {D with nx:=N,ct:=N,bk:=D.nx} σ2 H2)
def mz(fp:X0)(h:Ya):XQ:=fp.filterMap λb=>(h.get? b).map λo=>(b,o)
theorem ku{fp:X0}{h:Ya}{b:Ye}{o:Obj}(hb:b∈fp)(e:h.get? b=some o):(b,o)∈mz fp h:=Xb.mpr ⟨b,hb,by rw[e];rfl⟩
theorem BF{fp:X0}{h:Ya}{p:Ye×Obj}(hp:p∈mz fp h):p.1∈fp/\h.get? p.1=some p.2:=by
 obtain⟨b,hb,e⟩:=Xb.mp hp;cases q:h.get? b with
 | none=>rw[q]at e;cases e
 | some o=>
  rw[q]at e;have e':(b,o)=p:=Option.some.inj e;subst e';exact⟨hb,q⟩
theorem Inv.pinned{pins:XQ}{σ:St}{H:Hp}{s:X8}{fp:X0}(I:Inv X pins σ H s)(hf:∀b∈fp,cf X pins H b)(ho:∀b∈fp,∃o,s.heap.get? b=some o/\∀v,o.data≠.cell v):Inv X (pins++mz fp s.heap) σ H s:=
 I.pins_of λp hp=>(Ub.mp hp).elim (λz=>I.pin p (N_ _ z)) λz=>by
  obtain⟨hb,e⟩:=BF z;obtain⟨f0,f1,f2,_⟩:=hf p.1 hb;obtain⟨o,e',d⟩:=ho p.1 hb;rw[e]at e';cases e';exact⟨e,f0,f1,f2,d⟩
theorem Inv.unpinned{pins pl:XQ}{σ:St}{H:Hp}{s:X8}(I:Inv X (pins++pl) σ H s):Inv X pins σ H s:=I.pins_of λp hp=>I.pin p (N_ _ (List.mem_append_left _ hp))
theorem sS{iter:Yf}{body:X2}{wi:TI}{g:TG}{tb:TS}{pos:Pos}(hp:PassesOwn (model X.prog X.w) X.A X.env X.xe)(hc:X.calm=true)(hi:PI X tg iter wi)(hg:PG X tg g)(hb:qg X body tb)
  (hs:∀x,foldedSetIterable iter X.env x=pure x:=by intro _;rfl):PS X (.For tg iter body [] pos) (Qh wi g tb):=by
 intro pins s σ H D I h;refine wpAny_For (bF (hi pins s σ H _ I h) λv s1 h1=>bF h1 λOi s2 h2=>?_) hs;obtain⟨it,fp,tn,J,H2,e,I2,T,st2,f2,W,⟨m0,w0⟩,turn⟩:=h2;subst e;have zb:∀{H':Hp},(∀b∈fp,H' b=none)->∀b∈fp,cf X pins H' b:=λhn b hb=>⟨hn b hb,(f2 b hb).2⟩;refine codeAny_forLoop_any (λn s'=>∃i σ' H',Inv X pins σ' H' s'/\tn i s'.heap/\(∀b∈fp,H' b=none)/\W i n σ' H') ?_ m0 ⟨0,σ,H2,I2,st2,λb hb=>(f2 b hb).1,w0⟩;rintro n s3 ⟨i,σ3,H3,I3,SC,Po,w3⟩;rcases turn i n σ3 H3 w3 with ⟨stop,qn⟩ | ⟨go,N,hN,step⟩
 .refine Wp hp (bF (T.done X rfl rfl rfl hc i pins s3 σ3 H3 X.xe I3 (zb Po) SC stop) λr s4 ⟨hr,I4⟩=>?_);subst hr;exact wpAny_execs_nil ⟨σ3,H3,I4,qn⟩
 .refine Wp hp (bF (T.item X rfl rfl rfl hc i pins s3 σ3 H3 X.xe I3 (zb Po) SC go) λr s4 ⟨u,hr,h4⟩=>?_);subst hr;refine Wp hp (bF h4 λ_ s5 ⟨x,H5,I5,r5,y5,QU,fr5⟩=>?_);have I5':=I5.pinned (zb fr5) (T.obj _ _ QU);refine Wp hp (bF (hg _ s5 σ3 H5 x u _ I5' r5 (step x H5 y5)) λ_ s6 ⟨σ6,H6,I6,q6⟩=>?_);refine Wp hp (bF (hb _ s6 σ6 H6 _ I6 q6) λf s7 q7=>?_);have again:∀{σ7:St}{H7:Hp},Inv X (pins++mz fp s5.heap) σ7 H7 s7->N σ7 H7->∃m,m<n/\∃i σ' H',Inv X pins σ' H' s7/\tn i s7.heap/\(∀b∈fp,H' b=none)/\W i m σ' H':=λ{σ7 H7} I7 n7=>by
   obtain⟨m',hm,w7⟩:=hN σ7 H7 n7;refine⟨m',hm,i+1,σ7,H7,I7.unpinned,T.keep _ _ _ QU λb hb o e=>(I7.pin (b,o) (N_ _ (N_ _ (ku hb e)))).1,λb hb=>?_,w7⟩;obtain⟨o,e,d⟩:=T.obj _ _ QU b hb;exact(I7.pin (b,o) (N_ _ (N_ _ (ku hb e)))).2.1
  cases f with
  | next=>obtain⟨σ7,H7,I7,n7⟩:=q7;exact again I7 n7
  | cont=>obtain⟨σ7,H7,I7,n7⟩:=q7;exact again I7 n7
  | brk=>obtain⟨σ7,H7,I7,q7⟩:=q7;exact⟨σ7,H7,I7.unpinned,q7⟩
  | ret v=>obtain⟨x7,σ7,H7,I7,r7,q7⟩:=q7;exact⟨x7,σ7,H7,I7.unpinned,r7,q7⟩
end
abbrev R2:=V->V->Hp->VK->Prop
def jw(X:Cx)(f:X7->X7->Sem X7)(r:R2):Prop:=
 ∀(pins:XQ)(s:X8)(σ:St)(H:Hp)(x y:V)(v u:X7)(Q:VK),Inv X pins σ H s->RelV x v->RelV y u->r x y H Q->
  wpAny (model X.prog X.w) X.A (f v u) (EP X pins σ Q) X.xe s
def Qy(X:Cx)(f:X7->Sem X7)(r:V->Hp->VK->Prop):Prop:=
 ∀(pins:XQ)(s:X8)(σ:St)(H:Hp)(x:V)(v:X7)(Q:VK),Inv X pins σ H s->RelV x v->r x H Q->
  wpAny (model X.prog X.w) X.A (f v) (EP X pins σ Q) X.xe s
def cS(X:Cx)(f:X7)(r:Yn->Hp->VK->Prop):Prop:=
 ∀(pins:XQ)(s:X8)(σ:St)(H:Hp)(xs:Yn)(us:XX)(Q:VK),Inv X pins σ H s->ax xs us->r xs H Q->
  wpAny (model X.prog X.w) X.A (call f us) (EP X pins σ Q) X.xe s
def Qk(X:Cx)(r:V->Hp->(Bool->Hp->Prop)->Prop):Prop:=
 ∀(pins:XQ)(s:X8)(σ:St)(H:Hp)(x:V)(v:X7)(Q:Bool->Hp->Prop),Inv X pins σ H s->RelV x v->r x H Q->
  wpAny (model X.prog X.w) X.A (truthy v) (TP X pins σ Q) X.xe s
def LV(r:R2)(ta tb:TE):TE:=λσ H Q=>ta σ H λx H1=>tb σ H1 λy H2=>r x y H2 Q
def TY(r:V->Hp->VK->Prop)(ta:TE):TE:=λσ H Q=>ta σ H λx H1=>r x H1 Q
def rI(C:Int->Int->Prop)(g:Int->Int->V):R2:=λx y H Q=>∃i j,x=.int i/\y=.int j/\C i j/\Q (g i j) H
def B4(g:Int->Int->V):R2:=λx y H Q=>∃i j,x=.int i/\y=.int j/\Q (g i j) H
def rU(g:Int->V):V->Hp->VK->Prop:=λx H Q=>∃i,x=.int i/\Q (g i) H
section
variable {X:Cx}{a b c:Yf}{ta tb tc:TE}{pos:Pos}
theorem Kv(ha:PE X a ta)(hb:PE X b tb){pins:XQ}{s:X8}{σ:St}{H:Hp}{R:V->V->Hp->Prop}(I:Inv X pins σ H s)
  (h:ta σ H λx H1=>tb σ H1 λy H2=>R x y H2) {Q:XO} {f:X7->X7->Sem X7}
  (hf:∀v u s2 x y H2,Inv X pins σ H2 s2->RelV x v->RelV y u->R x y H2->wpAny (model X.prog X.w) X.A (f v u) Q X.xe s2) :
  wpAny (model X.prog X.w) X.A (eval a X.env) (λv s₁=>wpAny (model X.prog X.w) X.A (eval b X.env) (λu s₂=>wpAny (model X.prog X.w) X.A (f v u) Q X.xe s₂) X.xe s₁) X.xe s:=by
 refine bF (ha pins s σ H _ I h) λv s1 ⟨x,H1,I1,r1,q1⟩=>?_;refine bF (hb pins s1 σ H1 _ I1 q1) λu s2 ⟨y,H2,I2,r2,q2⟩=>?_;exact hf v u s2 x y H2 I2 r1 r2 q2
theorem Je{op:Operator}{r:R2}(ho:jw X (binaryOp op) r)(ha:PE X a ta)(hb:PE X b tb):PE X (.BinOp a op b pos) (LV r ta tb):=by
 intro pins s σ H Q I h;exact wpAny_BinOp (Kv ha hb I h λv u s2 x y H2 I2 rx ry q=>ho pins s2 σ H2 x y v u Q I2 rx ry q)
theorem IM{op:UnaryOp}{r:V->Hp->VK->Prop}(ho:Qy X (unaryOp op) r)(ha:PE X a ta):PE X (.UnaryOp op a pos) (TY r ta):=by
 intro pins s σ H Q I h;exact UnaryOp_ (bF (ha pins s σ H _ I h) λv s1 ⟨x,H1,I1,r1,q1⟩=>ho pins s1 σ H1 x v Q I1 r1 q1)
theorem Pc{f:X7->X7->Sem X7}{C:Int->Int->Prop}{g:Int->Int->Int}
  (rule:∀(i j:Int)(t u:Tok)(s:X8)(Q:XO)(E:XO),C i j->Q (.int (g i j) s.toks) {s with toks:=s.toks+1}->wpAny (model X.prog X.w) X.A (f (.int i t) (.int j u)) Q E s) :
  jw X f (rI C λi j=>.int (g i j)):=by
 intro pins s σ H x y v u Q I rx ry h;obtain⟨i,j,rfl,rfl,hc,q⟩:=h;obtain⟨t,rfl⟩:=rx;obtain⟨t',rfl⟩:=ry;exact rule i j t t' s _ _ hc ⟨.int (g i j),H,I.tok _,⟨_,rfl⟩,q⟩
theorem NW{f:X7->X7->Sem X7}{g:Int->Int->Int}
  (rule:∀(i j:Int)(t u:Tok)(s:X8)(Q:XO)(E:XO),Q (.int (g i j) s.toks) {s with toks:=s.toks+1}->wpAny (model X.prog X.w) X.A (f (.int i t) (.int j u)) Q E s) :
  jw X f (B4 λi j=>.int (g i j)):=by
 intro pins s σ H x y v u Q I rx ry h;obtain⟨i,j,rfl,rfl,q⟩:=h;obtain⟨t,rfl⟩:=rx;obtain⟨t',rfl⟩:=ry;exact rule i j t t' s _ _ ⟨.int (g i j),H,I.tok _,⟨_,rfl⟩,q⟩
theorem KU{f:X7->X7->Sem X7}{g:Int->Int->Bool}
  (rule:∀(i j:Int)(t u:Tok)(s:X8)(Q:XO)(E:XO),Q (.bool (g i j)) s->wpAny (model X.prog X.w) X.A (f (.int i t) (.int j u)) Q E s) :
  jw X f (B4 λi j=>.bl (g i j)):=by
 intro pins s σ H x y v u Q I rx ry h;obtain⟨i,j,rfl,rfl,q⟩:=h;obtain⟨t,rfl⟩:=rx;obtain⟨t',rfl⟩:=ry;exact rule i j t t' s _ _ ⟨.bl (g i j),H,I,rfl,q⟩
def Ny(i j:Int):Prop:=0<j/\j<1073741824
theorem Kn:jw X (binaryOp .Add) (B4 λi j=>.int (i+j)):=NW λ_ _ _ _ _ _ _ q=>add_int q
theorem Js:jw X (binaryOp .Sub) (B4 λi j=>.int (i-j)):=NW λ_ _ _ _ _ _ _ q=>sub_int q
theorem Gu:jw X (binaryOp .FloorDiv) (rI Ny λi j=>.int (i/j)):=Pc λi j _ _ _ _ _ hc q=>by
 have h1:(0:Int)<j:=hc.1;have h2:j<1073741824:=hc.2;exact floordiv_int (by lia) (by rw[Int.fdiv_eq_ediv_of_nonneg i (by lia)];exact q) (.inl (PyProof.noPylong_small (by lia)))
theorem K4:jw X (binaryOp .Mod) (rI (λ_ j=>0<j) λi j=>.int (i%j)):=Pc λi j _ _ _ _ _ hc q=>by
 have h1:(0:Int)<j:=hc;exact mod_int' (by lia) (by rw[Int.fmod_eq_emod_of_nonneg i (by lia)];exact q)
theorem KF{f:X7->Sem X7}{g:Int->Int}
  (rule:∀(i:Int)(t:Tok)(s:X8)(Q:XO)(E:XO),Q (.int (g i) s.toks) {s with toks:=s.toks+1}->wpAny (model X.prog X.w) X.A (f (.int i t)) Q E s) :
  Qy X f (rU λi=>.int (g i)):=by
 intro pins s σ H x v Q I rx h;obtain⟨i,rfl,q⟩:=h;obtain⟨t,rfl⟩:=rx;exact rule i t s _ _ ⟨.int (g i),H,I.tok _,⟨_,rfl⟩,q⟩
theorem DW:Qy X (unaryOp .USub) (rU λi=>.int (-i)):=KF λ_ _ _ _ _ q=>neg_int q
end
section
variable {X:Cx}{a b c:Yf}{ta tb tc:TE}{pos:Pos}
theorem Dn:jw X (compareOp .Lt) (B4 λi j=>.bl (decide (i<j))):=KU λ_ _ _ _ _ _ _ q=>lt_int q
theorem rp:jw X (compareOp .LtE) (B4 λi j=>.bl (decide (i<=j))):=KU λ_ _ _ _ _ _ _ q=>le_int q
theorem IH:jw X (compareOp .Gt) (B4 λi j=>.bl (decide (j<i))):=KU λ_ _ _ _ _ _ _ q=>gt_int q
theorem eQ(b:Yf){op:CmpOp}(h:op≠.In:=by decide)(h2:op≠.NotIn:=by decide):behindInMarks op b=false:=by
 have e1:(op==CmpOp.In)=false:=by cases op<;>first | rfl | exact absurd rfl h
 have e2:(op==CmpOp.NotIn)=false:=by cases op<;>first | rfl | exact absurd rfl h2
 cases b<;>simp[behindInMarks,e1,e2]
theorem FW{op:CmpOp}{r:R2}(ho:jw X (compareOp op) r)(ha:PE X a ta)(hb:PE X b tb)(hm:behindInMarks op b=false):PE X (.Compare a [op] [b] pos) (LV r ta tb):=by
 intro pins s σ H Q I h;exact wpAny_Compare1 (Kv ha hb I h λv u s2 x y H2 I2 rx ry q=>ho pins s2 σ H2 x y v u Q I2 rx ry q) hm
def Nj(t:TE):TT:=λσ H Q=>t σ H λx H'=>∃k,x=.bl k/\Q k H'
theorem FV{op:CmpOp}{r:R2}(ho:jw X (compareOp op) r)(ha:PE X a ta)(hb:PE X b tb)(hm:behindInMarks op b=false):PT X (.Compare a [op] [b] pos) (Nj (LV r ta tb)):=by
 intro pins s σ H Q I h;refine wpAny_isTrue_Compare1 (bF (ha pins s σ H _ I h) λv s1 ⟨x,H1,I1,r1,q1⟩=>bF (hb pins s1 σ H1 _ I1 q1) λu s2 ⟨y,H2,I2,r2,q2⟩=>
  bF (ho pins s2 σ H2 x y v u _ I2 r1 r2 q2) λc s3 ⟨z,H3,I3,r3,k,e,q3⟩=>?_) hm
 subst e;cases r3;exact UL ⟨H3,I3,q3⟩
def EH(r r':R2)(ta tb tc:TE):TE:=λσ H Q=>ta σ H λx H1=>tb σ H1 λy H2=>r x y H2 λz H3=>∃k,z=.bl k/\
 (if k=true then tc σ H3 λw' H4=>r' y w' H4 Q else Q (.bl false) H3)
theorem D2{op op':CmpOp}{r r':R2}(ho:jw X (compareOp op) r)(Fl:jw X (compareOp op') r')(ha:PE X a ta)(hb:PE X b tb)(hc:PE X c tc)
  (hm:lastMarks [op,op'] [b,c]=false:=by with_unfolding_all rfl):PE X (.Compare a [op,op'] [b,c] pos) (EH r r' ta tb tc):=by
 intro pins s σ H Q I h;refine Compare_chain (bF (ha pins s σ H _ I h) λv s1 ⟨x,H1,I1,r1,q1⟩=>chain_link (bF (hb pins s1 σ H1 _ I1 q1) λu s2 ⟨y,H2,I2,r2,q2⟩=>
  bF (ho pins s2 σ H2 x y v u _ I2 r1 r2 q2) λd s3 ⟨z,H3,I3,r3,k,e,q3⟩=>?_)) hm
 subst e;cases r3;refine UL ?_;cases k with
 | false=>exact ite_ff ⟨.bl false,H3,I3,rfl,q3⟩
 | true=>exact ite_tt (chain_last (bF (hc pins s3 σ H3 _ I3 q3) λw' s4 ⟨z',H4,I4,r4,q4⟩=>Fl pins s4 σ H4 y z' u w' Q I4 r2 r4 q4))
def NU(K:X6)(x:V)(H:Hp)(k:Bool):Prop:=
 match x with
 | .non=>k=false
 | .bl b=>k=b
 | .int i=>k=(i != 0)
 | .str y=>y.length<=sizeLine/\k=((y.length:Int) != 0)
 | .byt y=>y.size<=sizeLine/\k=((y.size:Int) != 0)
 | .ref p=>(∃xs,cJ K H p xs/\k=!xs.isEmpty)\/(∃xs,cM K H p xs/\k=!xs.isEmpty)\/∃jR,H p=some (.dK jR)/\k=!jR.isEmpty
 | _=>False
theorem y6{κ:Type}{jR:List (κ×V)}{vs:List (κ×X7)}(r:KV jR vs):(!vs.isEmpty)=!jR.isEmpty:=by
 cases r<;>rfl
theorem nZ{xs:Yn}{a5:XX}(r:ax xs a5):(!a5.toArray.isEmpty)=!xs.isEmpty:=by
 cases r<;>simp
theorem lY:(sizeLine:Nat)<2 ^ 63:=by rw[Um];decide
theorem Ks:Qk X (λx H Q=>∃k,NU X.K x H k/\Q k H):=by
 intro pins s σ H x v Q I rx h;obtain⟨k,e,q⟩:=h;have hl:=lY;have hs:sizeLine=16777216:=Um;cases x with
 | non=>
  cases rx;have e':k=false:=e;subst e';exact truthy_none ⟨H,I,q⟩
 | bl b=>
  cases rx;have e':k=b:=e;subst e';exact UL ⟨H,I,q⟩
 | int i=>
  obtain⟨t,rfl⟩:=rx;have e':k=(i != 0):=e;subst e';exact PySem.P.truthy_int ⟨H,I,q⟩
 | str y=>
  obtain⟨t,rfl⟩:=rx;obtain⟨hy,e'⟩:y.length<=sizeLine/\k=((y.length:Int) != 0):=e;subst e';exact PySem.P.truthy_str (by lia) ⟨H,I.tok _,q⟩
 | byt y=>
  obtain⟨t,rfl⟩:=rx;obtain⟨hy,e'⟩:y.size<=sizeLine/\k=((y.size:Int) != 0):=e;subst e';exact PySem.W.truthy_bytes (by lia) ⟨H,I.tok _,q⟩
 | ref p=>
  cases rx;have e':(∃xs,cJ X.K H p xs/\k=!xs.isEmpty)\/(∃xs,cM X.K H p xs/\k=!xs.isEmpty)\/∃jR,H p=some (.dK jR)/\k=!jR.isEmpty:=e;rcases e' with ⟨xs,hx,e'⟩ | ⟨xs,hx,e'⟩ | ⟨jR,hx,e'⟩
  .subst e';obtain⟨a5,r,pl,hz⟩:=I.list hx;have hlen:=r.length;exact wpAny_truthy_list pl.isList (by simp only[r_];lia) ⟨H,I.tok _,by rw[nZ r];exact q⟩
  .subst e';obtain⟨a5,r,pl,hz⟩:=I.tuple hx;have hlen:=r.length;exact truthy_tuple pl (by simp only[r_];lia) ⟨H,I.tok _,by rw[nZ r];exact q⟩
  .subst e';obtain⟨hz,hS,vs,r,m⟩:jR.length<=sizeLine/\(p==sysModules)=false/\∃vs,KV jR vs/\s.heap.DictOf (aH X.prog X.w) p vs:=I.hok p _ hx;have hlen:jR.length=vs.length:=Paired.length r;exact wpAny_truthy_dict hS m (by lia) ⟨H,I.tok _,by rw[y6 r];exact q⟩
 | _=>exact(show False from e).elim
theorem EX(ha:PE X a ta)(he:∀whole,isTrue a X.env whole=(do let v <- whole;standAt a.pos;holding [v] (truthy v))) :
  PT X a (λσ H Q=>ta σ H λx H'=>∃k,NU X.K x H' k/\Q k H'):=by
 intro pins s σ H Q I h;exact isTrue_plain (bF (ha pins s σ H _ I h) λv s1 ⟨x,H1,I1,r1,q1⟩=>Ks pins s1 σ H1 x v Q I1 r1 q1) (he _)
theorem vals1{x:V}{us:XX}(r:ax [x] us):∃u,us=[u]/\RelV x u:=by
 cases r with
 | cons r1 r2=>cases r2;exact⟨_,rfl,r1⟩
theorem vals2{x y:V}{us:XX}(r:ax [x,y] us):∃u w',us=[u,w']/\RelV x u/\RelV y w':=by
 cases r with
 | cons r1 r2=>
  cases r2 with
  | cons r3 r4=>cases r4;exact⟨_,_,rfl,r1,r3⟩
theorem B2(hc:X.calm=true):cS X (.builtin "max") (λxs H Q=>∃i j,xs=[.int i,.int j]/\Q (.int (if j>i then j else i)) H):=by
 intro pins s σ H xs us Q I r h;obtain⟨i,j,rfl,q⟩:=h;obtain⟨u,w',rfl,⟨t,rfl⟩,⟨t',rfl⟩⟩:=vals2 r;refine max_two_ints (I.ok.hd hc) λh' tk k=>⟨_,H,I.kept k,?_,q⟩
 by_cases hj:j>i
 .rw[j_ hj,j_ hj];exact⟨_,rfl⟩
 .rw[h_ hj,h_ hj];exact⟨_,rfl⟩
theorem BY(hc:X.calm=true):cS X (.builtin "min") (λxs H Q=>∃i j,xs=[.int i,.int j]/\Q (.int (if j<i then j else i)) H):=by
 intro pins s σ H xs us Q I r h;obtain⟨i,j,rfl,q⟩:=h;obtain⟨u,w',rfl,⟨t,rfl⟩,⟨t',rfl⟩⟩:=vals2 r;refine min_two_ints (I.ok.hd hc) λh' tk k=>⟨_,H,I.kept k,?_,q⟩
 by_cases hj:j<i
 .rw[j_ hj,j_ hj];exact⟨_,rfl⟩
 .rw[h_ hj,h_ hj];exact⟨_,rfl⟩
theorem Bh:cS X (.type "int") (λxs H Q=>(∃i,xs=[.int i]/\Q (.int i) H)\/∃k,xs=[.bl k]/\Q (.int (if k then 1 else 0)) H):=by
 intro pins s σ H xs us Q I r h;rcases h with ⟨i,rfl,q⟩ | ⟨k,rfl,q⟩
 .obtain⟨u,rfl,t,rfl⟩:=vals1 r;exact call_int_int ⟨.int i,H,I,⟨_,rfl⟩,q⟩
 .obtain⟨u,rfl,r1⟩:=vals1 r;cases r1;exact call_int_bool ⟨.int (if k then 1 else 0),H,I.tok _,⟨_,rfl⟩,q⟩
end
structure ObjM(h:Heap)(x dx C:Addr)(mA:Str->Option Value):Prop where
 obj:h.get? x=some (PySem.W.instObj C dx)
 ns:h.Ns1 dx mA
 ne:dx≠x
section
variable {prog:X9}{w:Yb}{A:X_}{E:XO}{s:X8}{K:X6}{x dx C f:Ye}{mA:XS}{name:Str}{v:X7}
end
section
variable {P:X9}{w:Yb}{H H':Hp}{h h':Ya}{a C dx:Ye}{fs Of:List (Str×V)}
end
structure Cls(K:PySem.W.Frag)(C:Addr):Prop where
 pg:PySem.W.plainGet K C Str.empty=true
 hd:PySem.W.hasDictIn K C=true
 po:PySem.W.plainOver K C=true
 sa:PySem.W.findIn K (.ref C) "__setattr__"=some (some (.builtin "object.__setattr__"))
structure Con(K:PySem.W.Frag)(C:Addr)(f:Str)(v:V)(u:Value):Prop where
 at_:PySem.W.findIn K (.ref C) f=some (some u)
 rel:RelV v u
 get:PySem.W.specialIn K u "__get__"=some none
 cp:PySem.W.copiedNames.contains f=false
structure Meth(K:PySem.W.Frag)(C:Addr)(m:Str)(f:Addr):Prop where
 at_:PySem.W.findIn K (.ref C) m=some (some (.ref f))
 fn:PySem.W.isFn K (.ref f)=true
 kp:PySem.W.keepIn K (.ref f)=true
section
variable {X:Cx}{pins:XQ}{σ:St}{H:Hp}{s:X8}{a C dx:Ye}{fs:List (Str×V)}{f:Str}{v:V}{A:X_}{E:XO}
end
def PQ(X:Cx)(op:Operator)(rd:V->V->Hp->VK->Prop):Prop:=
 ∀(pins:XQ)(s:X8)(σ:St)(H:Hp)(x y:V)(u v:X7)(Q:VK),Inv X pins σ H s->RelV x u->RelV y v->rd x y H Q->wpAny (model X.prog X.w) X.A (inplaceOp op u v) (EP X pins σ Q) X.xe s
section
variable {X:Cx}{o e value:Yf}{f:Str}{pos pos' tpos:Pos}{ta tv:TE}
def rAdd:V->V->Hp->VK->Prop:=λx y H Q=>∃i j,x=.int i/\y=.int j/\Q (.int (i+j)) H
theorem K9:PQ X .Add rAdd:=by
 rintro pins s σ H x y u v Q I rx ry ⟨i,j,rfl,rfl,q⟩;obtain⟨t,rfl⟩:=(show ∃t,u=Value.int i t from rx);obtain⟨t',rfl⟩:=(show ∃t',v=Value.int j t' from ry);exact PyProof.Rows.iadd_int ⟨.int (i+j),H,I.tok _,⟨_,rfl⟩,q⟩
end
section
variable {X:Cx}{pins:XQ}{σ:St}{H:Hp}{s:X8}{A:X_}{E:XO}{Q:XO}{c:X7}{b:Bool}
inductive pZ(K:PySem.W.Frag)(H:Hp):V->Value->Prop where
 | non:pZ K H .non (.type "NoneType")
 | bl (x:Bool):pZ K H (.bl x) (.type "bool")
 | int (i:Int):pZ K H (.int i) (.type "int")
 | str (x:Str):pZ K H (.str x) (.type "str")
 | flt (x:UInt64):pZ K H (.flt x) (.type "float")
 | lst {a:Addr} {xs:List V} (e:H a=some (.lst xs)):pZ K H (.ref a) (.type "list")
 | frz {a:Addr} {o:Obj} {xs:List V} (e:H a=some (.frz o (.lst xs))):pZ K H (.ref a) (.type "list")
 | tup {a:Addr} {xs:List V} (e:H a=some (.tup xs)):pZ K H (.ref a) (.type "tuple")
 | dK {a:Addr} {jR:List (Key×V)} (e:H a=some (.dK jR)):pZ K H (.ref a) (.type "dict")
 | dT {a:Addr} {jR:List (List Key×V)} (e:H a=some (.dT jR)):pZ K H (.ref a) (.type "dict")
 | ins {a C dx:Addr} {fs:List (Str×V)} (e:H a=some (.ins C dx fs)) (cl:Cls K C) (ha:PySem.W.findIn K (.ref C) "__class__"=some (some (.builtin "object.__class__")))
   (hn:PySem.W.specialIn K (.builtin "object.__class__") "__get__"=some (some (.builtin "getset_descriptor.__get__"))) (htk:PySem.W.takesIn K (.builtin "object.__class__")=some true)
   (hm:PySem.W.mroIn K C (.type "object")=some true):pZ K H (.ref a) (.ref C)
end
structure bM(k:Nat)(A:Around):Prop where
 hd:A.handled=none
 dp:A.depth+3*k+5<recursionLimit
 un:A.units+16*k+200<cLine
theorem bM.mono{j k:Nat}{A:X_}(r:bM k A)(h:j<=k):bM j A:=⟨r.hd,by have:=r.dp;lia,by have:=r.un;lia⟩
theorem bM.deeper{k:Nat}{A:X_}(r:bM (k+1) A)(env:Env):bM k (A.deeper env):=
 ⟨r.hd,by have:=r.dp;show A.depth+1+3*k+5<_;lia,by have:=r.un;show A.units+3+16*k+200<_;lia⟩
theorem bM.in1{k:Nat}{A:X_}(r:bM (k+1) A):bM k A.in1:=
 ⟨r.hd,by have:=r.dp;show A.depth+3*k+5<_;lia,by have:=r.un;show A.units+1+16*k+200<_;lia⟩
theorem bM.depth{k:Nat}{A:X_}(r:bM k A):A.depth<recursionLimit:=by have:=r.dp;lia
theorem bM.units{k:Nat}{A:X_}(r:bM k A):A.units+64<cLine:=by have:=r.un;lia
def tNil:TA:=λ_ H Q=>Q [] H
def zo(ta:TE)(tr:TA):TA:=λσ H Q=>ta σ H λx H1=>tr σ H1 λxs H2=>Q (x::xs) H2
section
variable {X:Cx}{e:Yf}{es:X1}{te:TE}{t:TA}{pos:Pos}
theorem dX:PA X [] tNil:=λ_ _ _ _ H Q I h=>Calls.spliced_nil ⟨[],H,I,.nil,h⟩
theorem bL(ha:PE X e te)(hr:PA X es t)(hs:starEach (e::es) X.env=(false,eval e X.env)::starEach es X.env:=by rfl):PA X (e::es) (zo te t):=by
 intro pos pins s σ H Q I h;rw[hs];show wpAny _ _ (spliced ((false,eval e X.env)::backTo pos (starEach es X.env))) _ _ s;refine Xf (bF (ha pins s σ H _ I h) λu s1 ⟨x,H1,I1,r1,q1⟩=>?_);exact bF (hr pos pins s1 σ H1 _ I1 q1) λus s2 ⟨xs,H2,I2,r2,q2⟩=>⟨x::xs,H2,I2,.cons r1 r2,q2⟩
def Qo(t:TA):TE:=λσ H Q=>t σ H λxs H1=>xs.length<=sizeLine/\∀p,H1 p=none->Q (.ref p) (upd H1 p (.tup xs))
def QG(t:TA):TE:=λσ H Q=>t σ H λxs H1=>xs.length<=sizeLine/\∀p,H1 p=none->Q (.ref p) (upd H1 p (.lst xs))
theorem Lb{x1}(h:PA X es t):PE X (.Tuple es x1 pos) (Qo t):=by
 intro pins s σ H Q I hq;refine wpAny_Tuple_spliced (bF (h pos pins s σ H _ I hq) λus s1 ⟨xs,H1,I1,r,z,q⟩=>⟨by rw[<- r.length];exact z,?_⟩);have hf:H1 s1.heap.objs.size=none:=I1.hok.fresh (m_ _);refine⟨.ref s1.heap.objs.size,upd H1 s1.heap.objs.size (.tup xs),I1.laid (t':=s1.toks) (λb u e=>e_ _ e) (m_ _) ?_,rfl,q _ hf⟩;exact⟨z,us,r,⟨_,n_ _ rfl,rfl,_,rfl⟩⟩
theorem Jx(h:PA X es t):PE X (.List es pos) (QG t):=by
 intro pins s σ H Q I hq;refine wpAny_List_spliced (bF (h pos pins s σ H _ I hq) λus s1 ⟨xs,H1,I1,r,z,q⟩=>⟨by rw[<- r.length];exact z,?_⟩);have hf:H1 s1.heap.objs.size=none:=I1.hok.fresh (m_ _);refine⟨.ref s1.heap.objs.size,upd H1 s1.heap.objs.size (.lst xs),I1.laid (t':=s1.toks) (λb u e=>e_ _ e) (m_ _) ?_,rfl,q _ hf⟩;exact⟨z,us,0,r,n_ _ rfl⟩
end
abbrev Sp:=Yn->Hp->VK->XK->Prop
abbrev CXT:=List Env->Hp->X8->XK->XO
structure Ie(P:Program)(w:World)(K:PySem.W.Frag)(mg:Str->Option Value)(base:Heap)(A:Around)(outer:List Env)(s:Shared)(H:Hp):Prop where
 frames:A.frames=some outer
 mod:Mod K mg base
 bs:∀b o,base.get? b=some o->s.heap.get? b=some o/\H b=none
 bsz:base.objs.size<=s.heap.objs.size
 funs:s.heap.FunFrames base outer
 frf:∀b∈xn outer,H b=none
 hok:pB P w H s.heap
 bare:AllBare s.gens
 tb:∀P q,tq K P=some q->H P=some (.tab q)
def CE(outer:List Env)(P:X9)(w:Yb)(H:Hp)(s:X8)(Q:VK)(u:X7)(s':X8):Prop:=
 ∃v H',s'.os=s.os/\AllBare s'.gens/\Un (xn outer) [] H H' s.heap s'.heap/\pB P w H' s'.heap/\RelV v u/\Q v H'
def CR(CX:CXT)(outer:List Env)(P:X9)(w:Yb)(H:Hp)(s:X8)(Q:VK)(E:XK)(r:Result)(s':X8):Prop:=
 match r with
 | .ok (.ret u)=>CE outer P w H s Q u s'
 | .ok _=>False
 | .error e=>CX outer H s E e s'
structure jS(P:Program)(w:World)(K:PySem.W.Frag)(mg:Str->Option Value)(base:Heap)(CX:CXT)(k:Nat)(f:Addr)(fd:FuncData)(ps:List Str)(sp:Sp):Prop where
 len:∀vs H Q E,sp vs H Q E->vs.length=ps.length
 run:∀(A:Around)(outer:List Env)(s:Shared)(H:Hp)(args:Args)(us:List Value)(vs:List V)(Q:VK)(E:XK),bM k A->Ie P w K mg base A outer s H->BindsTo s fd args (ps.zip us)->ax vs us->sp vs H Q E->
  codeAny (model P w) A (.call (.ref f) args) (CR CX outer P w H s Q E) s
theorem jS.mono{P:X9}{w:Yb}{K:X6}{mg:XS}{base:Ya}{CX:CXT}{j k:Nat}{f:Ye}{fd:Yc}{ps:XZ}{sp:Sp}(F:jS P w K mg base CX j f fd ps sp)(h:j<=k) :
  jS P w K mg base CX k f fd ps sp:=⟨F.len,λA outer s H args us vs Q E hr=>F.run A outer s H args us vs Q E (hr.mono h)⟩
section
variable {X:Cx}{pins:XQ}{σ:St}{H:Hp}{s s':X8}
theorem Inv.env0(I:Inv X pins σ H s):Ie X.prog X.w X.K X.mg X.base X.A X.stack s H:=
 ⟨I.ok.frames,I.ok.mod,I.bs,G_ I.ok.bsz I.sz,I.stack,I.stkFree,I.hok,I.bare,I.tb⟩
theorem Inv.after{Q:VK}{u:X7}(I:Inv X pins σ H s)(h:CE X.stack X.prog X.w H s Q u s'):EP X pins σ Q u s':=by
 obtain⟨v,H',os,bare,un,hok,r,q⟩:=h;obtain⟨hh,g,d,t,os'⟩:=s';obtain rfl:os'=s.os:=os;exact⟨v,H',I.call (h':=hh) (g':=g) (d':=d) (t':=t) (ch:=[]) un hok bare (λb z=>absurd z (by simp)),r,q⟩
end
def Nm(sp:Sp)(Ji:Yn)(E:XK)(t:TA):TE:=λσ H Q=>t σ H λvs H1=>sp (vs++Ji) H1 Q E
def Binds(K:X6)(fd:Yc)(ps:XZ)(ds:XX):Prop:=
 ∀(s:X8)(us:XX),K.In s.heap->(us++ds).length=ps.length->BindsTo s fd ⟨us,[]⟩ (ps.zip (us++ds))
theorem Binds.all{K:X6}{fd:Yc}{ps:XZ}(h:∀us:XX,us.length=ps.length->bindArgs fd ⟨us,[]⟩=pure (ps.zip us)):Binds K fd ps []:=λs us _ hl=>by
 rw[Uz]at hl ⊢;exact .of_eq (h us hl)
def yW(CX:CXT)(X:Cx)(E:XK):Prop:=∀(pins:XQ)(σ:St)(H:Hp)(s:X8)(e:X7)(s':X8),Inv X pins σ H s->CX X.stack H s E e s'->X.xe e s'
section
variable {X:Cx}{CX:CXT}{k:Nat}{f C:Ye}{fd:Yc}{ps:XZ}{sp:Sp}{Ji:Yn}{ds:XX}{E:XK}{x m:Str}{p pos apos:Pos}{e o:Yf}{es:X1}{ta:TE}{t:TA}
theorem JT{pins:XQ}{σ:St}{H:Hp}{s:X8}{Q:VK}{us:XX}{vs:Yn}(F:jS X.prog X.w X.K X.mg X.base CX k f fd ps sp)(hr:bM k X.A)(hb:Binds X.K fd ps ds)(hd:ax Ji ds)(hx:yW CX X E)
  (I:Inv X pins σ H s) (r:ax vs us) (h:sp (vs++Ji) H Q E):wpAny (model X.prog X.w) X.A (call (.ref f) us) (EP X pins σ Q) X.xe s:=by
 have r2:ax (vs++Ji) (us++ds):=r.append hd;have hl:(us++ds).length=ps.length:=by rw[<- r2.length];exact F.len _ _ _ _ h
 refine wpAny_call (WA (F.run X.A X.stack s H ⟨us,[]⟩ (us++ds) (vs++Ji) Q E hr I.env0 (hb s us I.kIn hl) r2 h) λr s' hq=>?_);cases r with
 | error e=>exact hx pins σ H s e s' I hq
 | ok fl=>
  cases fl with
  | ret u=>exact I.after hq
  | next=>exact False.elim hq
  | brk=>exact False.elim hq
  | cont=>exact False.elim hq
theorem GX(F:jS X.prog X.w X.K X.mg X.base CX k f fd ps sp)(hr:bM k X.A)(hg:Gl X x)(hm:X.mg x=some (.ref f))(hk:PySem.W.keepIn X.K (.ref f)=true)(hb:Binds X.K fd ps ds)(hd:ax Ji ds)(hx:yW CX X E)
  (ha:PA X (e::es) t) (nU:(x==("__debug__":Str))=false:=by decide) (he:starEach (e::es) X.env=(false,eval e X.env)::starEach es X.env:=by rfl) (j8:(backTo pos (starEach es X.env)).any (·.1)=false:=by rfl) :
  PE X (.Call (.Name x p) (e::es) [] pos) (Nm sp Ji E t):=by
 intro pins s σ H Q I h;refine Ws (zO I hg hm ?_ nU);refine PySem.W.callWith_K (h₀:=X.base) I.ok.mod.kin hk (bF (ha pos pins s σ H _ I h) λus s1 ⟨vs,H1,I1,r,q⟩=>⟨I1.kIn,?_⟩) he j8;exact JT F hr hb hd hx I1 r q
structure Mk(K:PySem.W.Frag)(C f:Addr):Prop where
 makes:PySem.W.makesIn K C=true
 init:PySem.W.findIn K (.ref C) "__init__"=some (some (.ref f))
 fn:PySem.W.isFn K (.ref f)=true
 kp:PySem.W.keepIn K (.ref C)=true
end
section
variable {X:Cx}{CX:CXT}{k:Nat}{f C:Ye}{fd:Yc}{ps ks:XZ}{sp:Sp}{E:XK}{x m:Str}{p pos apos Oj:Pos}{e o:Yf}{es:X1}{kws:List Keyword}{te ta:TE}{t tk:TA}{nm:Option Str}
structure KBinds(K:PySem.W.Frag)(fd:FuncData)(ps ks:List Str)(g:List Value->List Value->List Value)(gV:List V->List V->List V):Prop where
 to:∀(s:Shared)(us ws:List Value),K.In s.heap->(g us ws).length=ps.length->BindsTo s fd ⟨us,ks.zip ws⟩ (ps.zip (g us ws))
 rel:∀{vs:List V}{us:List Value}{zs:List V}{ws:List Value},ax vs us->ax zs ws->ax (gV vs zs) (g us ws)
variable {g:XX->XX->XX}{gV:Yn->Yn->Yn}
end
structure fu(N P:List Str)(sc:Scope):Prop where
 kind:sc.kind=.function
 co:sc.isCoroutine=false
 gen:sc.isGenerator=false
 nd:N.Nodup
 pre:N.take P.length=P
 par:∀x∈P,sc.names.lookup x=some .local\/sc.names.lookup x=some .cell
 nofree:∀y∈sc.names,y.2≠.free
theorem r6{kindOf:Str->Option NameKind}{x:Str}:∀{binds:List (Str×X7)}{m:XS},(∀v,(x,v)∉binds)->bindL kindOf binds m x=m x
 | [],_,_=>rfl
 | (n,v)::r,m,h=>by
  unfold bindL;rw[r6 λw hw=>h w (f_ _ hw)]
  split
  .have:x≠n:=by rintro rfl;exact h v g_
   simp[this]
  .rfl
theorem rP{kindOf:Str->Option NameKind}{x:Str}:∀{binds:List (Str×X7)}{m:XS},(∀v,(x,v)∉binds)->bindC kindOf binds m x=m x
 | [],_,_=>rfl
 | (n,v)::r,m,h=>by
  unfold bindC;rw[rP λw hw=>h w (f_ _ hw)]
  split
  .rfl
  .have:x≠n:=by rintro rfl;exact h v g_
   simp[this]
theorem qY{kindOf:Str->Option NameKind}{x:Str}{v:X7}:∀{P:XZ}{vs:XX}{i:Nat}{m:XS},P.Nodup->P[i]?=some x->vs[i]?=some v->kindOf x=some .local->
  bindL kindOf (P.zip vs) m x=some v
 | [],_,_,_,_,h,_,_=>by simp at h
 | _::_,[],_,_,_,_,h,_=>by simp at h
 | p::P,w::vs,0,m,nd,h1,h2,hk=>by
  simp at h1 h2;subst h1;subst h2;show bindL kindOf ((p,w)::P.zip vs) m p=_;unfold bindL;rw[r6 λv hv=>(VG.mp nd).1 (Wq hv).1,j_ hk];simp
 | p::P,w::vs,i+1,m,nd,h1,h2,hk=>by
  show bindL kindOf ((p,w)::P.zip vs) m x=_;unfold bindL;exact qY (i:=i) (VG.mp nd).2 (by simpa using h1) (by simpa using h2) hk
theorem rZ{kindOf:Str->Option NameKind}{x:Str}{v:X7}:∀{P:XZ}{vs:XX}{i:Nat}{m:XS},P.Nodup->P[i]?=some x->vs[i]?=some v->kindOf x≠some .local->
  bindC kindOf (P.zip vs) m x=some v
 | [],_,_,_,_,h,_,_=>by simp at h
 | _::_,[],_,_,_,_,h,_=>by simp at h
 | p::P,w::vs,0,m,nd,h1,h2,hk=>by
  simp at h1 h2;subst h1;subst h2;show bindC kindOf ((p,w)::P.zip vs) m p=_;unfold bindC;rw[rP λv hv=>(VG.mp nd).1 (Wq hv).1,h_ hk];simp
 | p::P,w::vs,i+1,m,nd,h1,h2,hk=>by
  show bindC kindOf ((p,w)::P.zip vs) m x=_;unfold bindC;exact rZ (i:=i) (VG.mp nd).2 (by simpa using h1) (by simpa using h2) hk
def start(N:XZ)(vs:Yn):St:=vs.map some++List.replicate (N.length-vs.length) none
def nv(CX:CXT)(P:X9)(w:Yb)(K:X6)(mg:XS)(base:Ya)(N:XZ)(qual:Str)(scope:Yd)(f:Ye)(cd:X7)(A:X_)(outer:List Env)(s:X8)(H:Hp)(E:XK):Cx where
 prog:=P
 w:=w
 K:=K
 mg:=mg
 base:=base
 A:=A.deeper (envOfC qual scope s.heap.objs.size f cd)
 N:=N
 s₀:=s
 H₀:=H
 env:=envOfC qual scope s.heap.objs.size f cd
 outer:=outer
 stack:=envOfC qual scope s.heap.objs.size f cd::outer
 ex:=[]
 calm:=true
 fn:=λ_=>true
 pn:=[]
 xe:=λe s'=>wpAny (model P w) (A.deeper (envOfC qual scope s.heap.objs.size f cd)) (leaving (envOfC qual scope s.heap.objs.size f cd) e) (λ_ QV=>CX outer H s E e QV) (λe' QV=>CX outer H s E e' QV) s'
theorem vT{sc:Yd}{n:Nat}{x:Str}(h:sc.names.lookup x=some .cell):∃c,(cellsFrom n sc.names []).lookup x=some c:=by
 have q:=PySem.W.cellsFrom_some sc.names n [] (.inl h);exact Option.isSome_iff_exists.mp q
theorem BE{CX:CXT}{P:X9}{w:Yb}{K:X6}{mg:XS}{base:Ya}{N ps:XZ}{qual:Str}{scope:Yd}{f:Ye}{cd:X7}{A:X_}{outer:List Env}{s s1:X8}{H:Hp}{E:XK}{us:XX}{vs:Yn}
  (S:fu N ps scope) (hd:A.handled=none) (e0:Ie P w K mg base A outer s H) (hl:vs.length=ps.length) (r:ax vs us)
  (x:InCallC s s.heap.objs.size (bindL (envOfC qual scope s.heap.objs.size f cd).kindOf (ps.zip us) λ_=>none) (cellsFrom (s.heap.objs.size+1) scope.names []) (bindC (envOfC qual scope s.heap.objs.size f cd).kindOf (ps.zip us) λ_=>none) s1) :
  Inv (nv CX P w K mg base N qual scope f cd A outer s H E) [] (start N vs) H s1:=by
 have j8:ps.length<=N.length:=by have:=UW List.length S.pre;rw[Vw]at this;lia
 obtain⟨h1,tk,rfl,hk⟩:=x.done;have FH:∀b:Ye,b∉(nv CX P w K mg base N qual scope f cd A outer s H E).ex:=λb z=>absurd (show b∈([]:X0)from z) (by simp);refine⟨⟨e0.mod,S.kind,rfl,rfl,m_ _,λy z c h1 h2=>?_,λy hy=>?_,λy c _ h=>?_,λ_=>hd,Around.frames_deeper e0.frames,.inr ⟨rfl,rfl⟩,λb z=>absurd z (FH b),e0.bs,e0.bsz,λb _ _=>FH b,λb z=>absurd z (FH b),e0.funs,e0.frf,e0.tb⟩,
  rfl,e0.bare,Un.kept hk,⟨_,x.toInCall.ns,λi y v h1 h2 h3=>?_⟩,λy c h=>⟨_,x.cell y c h⟩,e0.hok.fresh (m_ _),λy c h=>?_,λp hp=>absurd (show p∈([]:XQ)from hp) (by simp),e0.hok.kept hk,?_⟩
 .exact name_of_addr x.apart (Uo h1) (Uo h2)
 .have hy:scope.names.lookup y=some .cell\/scope.names.lookup y=some .free:=hy;rcases hy with hy | hy
  .exact vT hy
  .exact absurd rfl (S.nofree _ (Uo hy))
 .exact VY (x.above y c (Uo h))
 .have hi:i<vs.length:=by
   unfold start at h2
   by_cases hi:i<vs.length
   .exact hi
   .rw[R_ (by simpa using hi)]at h2;rw[US]at h2
    split at h2<;>cases h2
  have ha:vs[i]?=some v:=by
   unfold start at h2;rw[S_ (by simpa using hi),o_]at h2;cases e:vs[i]? with
   | none=>rw[e]at h2;cases h2
   | some a=>rw[e]at h2;cases h2;rfl
  obtain⟨u,hu,rv⟩:=r.get ha;have hp:ps[i]?=some y:=by
   rw[<- S.pre,List.getElem?_take_of_lt (by lia)];exact h1
  have SE:ps.Nodup:=by rw[<- S.pre];exact S.nd.sublist (Wb _ _)
  refine⟨u,rv,?_⟩;rcases S.par y (I_ hp)with k | k
  .exact .inl ⟨k,qY SE hp hu k⟩
  .obtain⟨c,e⟩:=vT (n:=s.heap.objs.size+1) k;refine .inr ⟨.inl k,c,e,?_⟩;have q:=x.cell y c e;rw[rZ SE hp hu (by show scope.names.lookup y≠_;rw[k];decide)]at q;exact q
 .exact e0.hok.fresh (VY (x.above y c (Uo h)))
 .unfold start;show _=N.length;rw[x_,c_,VB]
  lia
theorem IX{CX:CXT}{P:X9}{w:Yb}{K:X6}{mg:XS}{base:Ya}{k:Nat}{f:Ye}{name qual:Str}{params:Arguments}{body:X2}{scope:Yd}{dV kV doc pm eC ct oc:X7}{an od:XY}
  {FI:XR} {N ps:XZ} {sp:Sp} (lk:K.lookup f=some ⟨oc,od,.func (PySem.W.fnOf name qual params body scope dV kV doc pm an eC ct),FI⟩) (lV:PySem.W.codeIn K eC qual=true) (S:fu N ps scope)
  (len:∀vs H Q E,sp vs H Q E->vs.length=ps.length)
  (hbody:∀(A:X_)(outer:List Env)(s:X8)(H:Hp)(vs:Yn)(Q:VK)(E:XK),bM k (A.deeper (envOfC qual scope s.heap.objs.size f eC))->sp vs H Q E->
   ∃t,qg (nv CX P w K mg base N qual scope f eC A outer s H E) body t/\t {nx:=λ_ H'=>Q .non H',rt:=Q} (start N vs) H) :
  jS P w K mg base CX (k+1) f (PySem.W.fnOf name qual params body scope dV kV doc pm an eC ct) ps sp:=by
 refine⟨len,λA outer s H args us vs Q E hr e0 hb r Cv=>?_⟩;have hl:=len _ _ _ _ Cv;have KX:K.In s.heap:=e0.mod.kin.keeps λb o e=>(e0.bs b o e).1;have lim:s.heap.NoLimit:=e0.mod.nolimit.keeps λb o e=>(e0.bs b o e).1;have ck:∀y∈ps.zip us,scope.names.lookup y.1=some .local\/(scope.names.lookup y.1=some .cell/\((cellsFrom (s.heap.objs.size+1) scope.names []).lookup y.1).isSome=true):=λ⟨n,v⟩ hy=>by
  rcases S.par n (Wq hy).1 with q | q
  .exact .inl q
  .exact .inr ⟨q,PySem.W.cellsFrom_some _ _ _ (.inl q)⟩
 refine codeAny_call_function hr.depth (KX _ _ lk) rfl S.co S.gen rfl (PySem.W.codeRec_of KX lV) (hb _ _ _ _ ?_);refine wpAny_newFunctionEnv_cells S.kind ck λenv he s1 x=>?_;subst he;refine⟨lim.keeps x.toInCall.keep,codeAny_func ?_⟩;obtain⟨t,ht,hq⟩:=hbody A outer s H vs Q E (hr.deeper _) Cv;have I:Inv (nv CX P w K mg base N qual scope f eC A outer s H E) [] (start N vs) H s1:=BE S hr.hd e0 hl r x;refine Ur (ht [] s1 (start N vs) H _ I hq) (λfl s' hs=>?_) λe s' hs=>hs;have fin:∀{σ':St}{H':Hp}{v:V}{u:X7},Inv (nv CX P w K mg base N qual scope f eC A outer s H E) [] σ' H' s'->RelV v u->Q v H'->CE outer P w H s Q u s':=
  λ{σ' H' v u} J rv q=>⟨v,H',J.os,J.bare,J.base,J.hok,rv,q⟩
 cases fl with
 | ret u=>
  obtain⟨v,σ',H',J,rv,q⟩:=hs;exact fin J rv q
 | next=>
  obtain⟨σ',H',J,q⟩:=hs;exact fin (v:=V.non) (u:=Value.none) J rfl q
 | brk=>
  obtain⟨_,_,_,q⟩:=hs;exact False.elim q
 | cont=>
  obtain⟨_,_,_,q⟩:=hs;exact False.elim q
section
variable {X:Cx}{x:Str}{p pos:Pos}{e:Yf}{es:X1}{t:TA}{id T:String}{r:Yn->Hp->VK->Prop}
def OX(r:Yn->Hp->VK->Prop)(t:TA):TE:=λσ H Q=>t σ H λvs H1=>r vs H1 Q
theorem k9(hc:cS X (.builtin id) r)(hg:Gl X x)(hm:X.mg x=none)(hv:bootBuiltins x=some (.builtin id))(ha:PA X (e::es) t)(hn:x≠"__name__":=by decide)(nU:(x==("__debug__":Str))=false:=by decide)
  (he:starEach (e::es) X.env=(false,eval e X.env)::starEach es X.env:=by rfl) (j8:(backTo pos (starEach es X.env)).any (·.1)=false:=by rfl):PE X (.Call (.Name x p) (e::es) [] pos) (OX r t):=by
 intro pins s σ H Q I h;refine Ws (lX I hg hm hv ?_ hn nU);exact PyProof.Rows.callWith_builtin1 (bF (ha pos pins s σ H _ I h) λus s1 ⟨vs,H1,I1,r1,q1⟩=>hc pins s1 σ H1 vs us Q I1 r1 q1) he j8
theorem B6(hc:cS X (.type T) r)(hg:Gl X x)(hm:X.mg x=none)(hv:bootBuiltins x=some (.type T))(ha:PA X (e::es) t)(hn:x≠"__name__":=by decide)(nU:(x==("__debug__":Str))=false:=by decide)
  (he:starEach (e::es) X.env=(false,eval e X.env)::starEach es X.env:=by rfl) (j8:(backTo pos (starEach es X.env)).any (·.1)=false:=by rfl):PE X (.Call (.Name x p) (e::es) [] pos) (OX r t):=by
 intro pins s σ H Q I h;refine Ws (lX I hg hm hv ?_ hn nU);exact Wa (bF (ha pos pins s σ H _ I h) λus s1 ⟨vs,H1,I1,r1,q1⟩=>hc pins s1 σ H1 vs us Q I1 r1 q1) he j8
end
end L2
namespace HT
open PySem PyProof.Rows
theorem wL(A:X_)(s:X8)(a:Int)(t:Tok)(c:Int)(u:Tok)(prog:X9)(w:Yb)(E:XO)(Q:XO)(h:Q (.bool (decide (a<c))) s) :
  wpAny (model prog w) A (richCompare .Lt (.int a t) (.int c u)) Q E s:=
 (PyProof.Rows.lt_int h:wpAny (model prog w) A (compareOp .Lt (.int a t) (.int c u)) Q E s)
section
open PySem.SeqAt
open PySem.AutoSeq1 (wpAny_loadPart')
open PySem.MeetsSeq PySem.MeetsSeq2 PySem.MeetsSeq3
end
section
variable {prog:X9}{w:Yb}{A:X_}{E:XO}{s:X8}
theorem HW{t b:Ye}{vs ws:XX}{Q:XO}(ht:IsTup s.heap t vs.toArray)(hb:IsTup s.heap b ws.toArray)(hv:vs≠[])
  (h1:ws=[]->Q (.ref t) s) (h2:ws≠[]->Q (.ref s.heap.objs.size) {s with heap:=s.heap.push {cls:=.type "tuple",data:=.seq (vs++ws).toArray}})
  (hsz:vs.length+ws.length<=sizeLine):wpAny (model prog w) A (binaryOp .Add (.ref t) (.ref b)) Q E s:=by
 obtain⟨⟨cls,dd,data,sl⟩,ho,hc,n,hd⟩:=id ht;obtain⟨⟨Ig,Cw,data2,AM⟩,Cy,qK,n2,hd2⟩:=id hb;simp only at hc hd qK hd2;subst hc hd qK hd2;have e:vs.toArray++ws.toArray=(vs++ws).toArray:=by simp
 by_cases hw:ws=[]
 .exact concat_meets ⟨_,ho,rfl⟩ ⟨_,Cy,rfl⟩ noFill_tuple_add seq_tuple_add WB Wu (Wm _ _)
   (tuple_addW1 t b vs.toArray ws.toArray n n2 dd Cw sl AM (by simpa using hv) (by simp[hw])) ⟨ho,Cy,h1 hw⟩
 .refine concat_meets ⟨_,ho,rfl⟩ ⟨_,Cy,rfl⟩ noFill_tuple_add seq_tuple_add WB Wu (Wm _ _)
   (tuple_addW2 t b vs.toArray ws.toArray n n2 dd Cw sl AM (by simpa using hv) (by simpa using hw) (by rw[r_,r_];exact hsz)) ⟨ho,Cy,?_⟩
  rw[e];exact h2 hw
def qS(n d:Nat):Option Int->Nat
 | none=>d
 | some v=>if v<0 then(v+(n:Int)).toNat else min v.toNat n
theorem uS(n d:Nat):qS n d none=d:=rfl
theorem AB(n d k:Nat):qS n d (some (k:Int))=min k n:=by
 show(if(k:Int)<0 then((k:Int)+(n:Int)).toNat else min (k:Int).toNat n)=min k n;rw[h_ (by lia),UQ]
end
end HT
namespace L2
open PySem PySem.Spec PyProof.Rows
abbrev TO:=St->Hp->(Option Int->Hp->Prop)->Prop
def PO(X:Cx)(e:Option Yf)(t:TO):Prop:=
 ∀(pins:XQ)(s:X8)(σ:St)(H:Hp)(Q:Option Int->Hp->Prop),Inv X pins σ H s->t σ H Q->
  wpAny (model X.prog X.w) X.A (evalPart e X.env) (λu s'=>∃o H',Inv X pins σ H' s'/\IsPart u o/\Q o H') X.xe s
def tNoPart:TO:=λ_ H Q=>Q none H
def Mw(t:TE):TO:=λσ H Q=>t σ H λx H1=>∃i,x=.int i/\Q (some i) H1
section
variable {X:Cx}{e:Yf}{te:TE}{lo hi:Option Yf}{tl th:TO}{pos p2:Pos}
theorem GH:PO X none tNoPart:=by
 intro pins s σ H Q I h;rw[evalPart_none];exact d_ ⟨none,H,I,.none,h⟩
theorem AA(h:PE X e te):PO X (some e) (Mw te):=by
 intro pins s σ H Q I hw;rw[evalPart_some];refine bF (h pins s σ H _ I hw) λu s1 ⟨x,H1,I1,r1,q1⟩=>?_;obtain⟨i,rfl,q⟩:=q1;obtain⟨t,rfl⟩:=r1;exact⟨some i,H1,I1,.int i t,q⟩
def Ss(X:Cx)(r:V->Option Int->Option Int->Hp->VK->Prop):Prop:=
 ∀(pins:XQ)(s:X8)(σ:St)(H:Hp)(x:V)(v vl vu:X7)(lo hi:Option Int)(sl:Ye)(Q:VK),Inv X pins σ H s->RelV x v->s.heap.IsSliceOf sl vl vu .none->IsPart vl lo->IsPart vu hi->r x lo hi H Q->
  ∃T id,typeLookup (.type T) "__getitem__"=pure (some (.builtin id))/\s.TypeIs v T/\wpAny (model X.prog X.w) X.A (getItem v (.ref sl)) (EP X pins σ Q) X.xe s
def TJ(r:V->Option Int->Option Int->Hp->VK->Prop)(te:TE)(tl th:TO):TE:=λσ H Q=>te σ H λx H1=>tl σ H1 λl H2=>th σ H2 λu H3=>r x l u H3 Q
theorem Ei{r:V->Option Int->Option Int->Hp->VK->Prop}(hr:Ss X r)(he:PE X e te)(hl:PO X lo tl)(hu:PO X hi th):PE X (.Subscript e (.Slice lo hi none p2) pos) (TJ r te tl th):=by
 intro pins s σ H Q I h;refine Subscript_ (bF (he pins s σ H _ I h) λv s1 ⟨x,H1,I1,r1,q1⟩=>?_);refine wpAny_Slice (bF (hl pins s1 σ H1 _ I1 q1) λvl s2 ⟨l,H2,I2,pl,q2⟩=>bF (hu pins s2 σ H2 _ I2 q2) λvu s3 ⟨u,H3,I3,pu,q3⟩=>?_);rw[evalPart_none];refine d_ ?_;have I4:Inv X pins σ H3 {s3 with heap:=s3.heap.push {cls:=.type "slice",data:=.fields #[vl,vu,.none]}}:=I3.kept (t':=s3.toks) λb ob q=>e_ _ q;obtain⟨T,id,hT,ht,hg⟩:=hr pins {s3 with heap:=s3.heap.push {cls:=.type "slice",data:=.fields #[vl,vu,.none]}} σ H3 x v vl vu l u s3.heap.objs.size Q I4 r1 (Heap.IsSliceOf.new ..) pl pu q3;show wpAny (model X.prog X.w) X.A (subscriptTail e (.Slice lo hi none p2) v (.ref s3.heap.objs.size)) (EP X pins σ Q) X.xe {s3 with heap:=s3.heap.push {cls:=.type "slice",data:=.fields #[vl,vu,.none]}};exact tail_any (ops:=[.ref s3.heap.objs.size,v]) ht hT hg (by with_unfolding_all rfl)
def Bp(xs:Yn)(lo hi:Option Int):Yn:=(xs.drop (HT.qS xs.length 0 lo)).take (HT.qS xs.length xs.length hi-HT.qS xs.length 0 lo)
theorem vz(xs:Yn)(lo hi:Option Int):(Bp xs lo hi).length<=xs.length:=by
 unfold Bp;rw[Vw,VP]
 lia
def M0(K:X6):R2:=λx y H Q=>∃a b xs ys,x=.ref a/\y=.ref b/\cM K H a xs/\cM K H b ys/\xs≠[]/\xs.length+ys.length<=sizeLine/\
 (ys=[]->Q (.ref a) H)/\(ys≠[]->∀p,H p=none->Q (.ref p) (upd H p (.tup (xs++ys))))
theorem ax.nil_iff{xs:Yn}{us:XX}(r:ax xs us):us=[]↔xs=[]:=by
 cases r with
 | nil=>simp
 | cons _ _=>simp
theorem Gg:jw X (binaryOp .Add) (M0 X.K):=by
 intro pins s σ H x y v u Q I rx ry h;obtain⟨a,b,xs,ys,rfl,rfl,ha,hb,hx,hz,q1,q2⟩:=h;cases rx;cases ry;obtain⟨a5,r1,p1,_⟩:=I.tuple ha;obtain⟨uB,r2,p2,_⟩:=I.tuple hb;refine HT.HW p1 p2 (λz=>hx (r1.nil_iff.mp z)) (λz=>⟨.ref a,H,I,rfl,q1 (r2.nil_iff.mp z)⟩) (λz=>?_) (by rw[<- r1.length,<- r2.length];exact hz);refine⟨.ref s.heap.objs.size,_,I.laid (t':=s.toks) (o:=.tup (xs++ys)) (λb ob q=>e_ _ q) (m_ _) ?_,rfl,q2 (λw=>z (r2.nil_iff.mpr w)) _ (I.hok.fresh (m_ _))⟩;exact⟨by rw[x_];exact hz,_,r1.append r2,IsTup.new _ _⟩
end
def GG(n:Nat)(i:Int):Option Nat:=if 0<=i then(if i<n then some i.toNat else none)else if -(n:Int)<=i then some (i+n).toNat else none
def atI{α:Type}(xs:List α)(i:Int):Option α:=(GG xs.length i).bind λj=>xs[j]?
theorem Al{n:Nat}{i:Int}{j:Nat}(h:GG n i=some j):seqIndex? i n=some j/\j<n/\-(n:Int)<=i/\i<n:=by
 unfold GG at h
 by_cases h0:0<=i
 .rw[j_ h0]at h
  by_cases h1:i<n
  .rw[j_ h1]at h;have e:i.toNat=j:=Option.some.inj h;exact⟨by rw[seqIndex_of h0 h1,e],by lia,by lia,h1⟩
  .rw[h_ h1]at h;cases h
 .rw[h_ h0]at h
  by_cases h1:-(n:Int)<=i
  .rw[j_ h1]at h;have e:(i+n).toNat=j:=Option.some.inj h;exact⟨by rw[seqIndex_neg (by lia) h1,e],by lia,h1,by lia⟩
  .rw[h_ h1]at h;cases h
theorem zY{α:Type}{xs:List α}{i:Int}{v:α}(h:atI xs i=some v):∃j,seqIndex? i xs.length=some j/\xs[j]?=some v/\j<xs.length/\-(xs.length:Int)<=i/\i<xs.length:=by
 unfold atI at h;cases e:GG xs.length i with
 | none=>rw[e]at h;cases h
 | some j=>
  rw[e]at h;obtain⟨h1,h2,h3,h4⟩:=Al e;exact⟨j,h1,h,h2,h3,h4⟩
theorem vj{α:Type}(xs:List α)(v:α):atI (xs++[v]) (-1)=some v:=by
 have hl:(xs++[v]).length=xs.length+1:=by simp
 have e:GG (xs++[v]).length (-1)=some xs.length:=by
  unfold GG;rw[hl,h_ (by decide),j_ (by lia)];congr 1
  lia
 unfold atI;rw[e];show(xs++[v])[xs.length]?=some v;simp
def tm(b:Yf):Prop:=∀o i,subscripted b false o i=operate [o,i] (getItem o i)
def JF(X:Cx)(r:R2):Prop:=
 ∀(value slice:Yf)(pins:XQ)(s:X8)(σ:St)(H:Hp)(x y:V)(v u:X7)(Q:VK),Inv X pins σ H s->RelV x v->RelV y u->r x y H Q->
  subscripted slice false v u=operate [v,u] (getItem v u)->wpAny (model X.prog X.w) X.A (subscriptTail value slice v u) (EP X pins σ Q) X.xe s
def Sq(X:Cx)(id:String)(r:V->Yn->Hp->VK->Prop):Prop:=
 ∀(pins:XQ)(s:X8)(σ:St)(H:Hp)(x:V)(xs:Yn)(v:X7)(us:XX)(Q:VK),Inv X pins σ H s->RelV x v->ax xs us->r x xs H Q->
  wpAny (model X.prog X.w) X.A (call (.builtin id) (v::us)) (EP X pins σ Q) X.xe s
section
variable {X:Cx}{a b:Yf}{ta tb:TE}{pos:Pos}
theorem JF.or{r r':R2}(h:JF X r)(h':JF X r'):JF X (λx y H Q=>r x y H Q\/r' x y H Q):=by
 intro value slice pins s σ H x y v u Q I rx ry q hs;rcases q with q | q
 .exact h value slice pins s σ H x y v u Q I rx ry q hs
 .exact h' value slice pins s σ H x y v u Q I rx ry q hs
theorem IY{r:R2}(hr:JF X r)(ha:PE X a ta)(hb:PE X b tb)(hs:tm b):PE X (.Subscript a b pos) (LV r ta tb):=by
 intro pins s σ H Q I h;exact Subscript_ (Kv ha hb I h λv u s2 x y H2 I2 rx ry q=>hr a b pins s2 σ H2 x y v u Q I2 rx ry q (hs _ _))
def M7(K:X6):R2:=λx y H Q=>∃p xs i v,x=.ref p/\y=.int i/\cJ K H p xs/\atI xs i=some v/\Q v H
def M5(K:X6):R2:=λx y H Q=>∃p xs i v,x=.ref p/\y=.int i/\cM K H p xs/\atI xs i=some v/\Q v H
theorem zJ:JF X (M7 X.K):=by
 intro value slice pins s σ H x y v u Q I rx ry h hs;obtain⟨p,xs,i,z,rfl,rfl,hq,he,q⟩:=h;cases rx;obtain⟨t,rfl⟩:=ry;obtain⟨a5,r,pl,hz⟩:=I.list hq;obtain⟨j,h1,h2,h3,h4,h5⟩:=zY he;obtain⟨w,ew,Ol⟩:=r.get h2;have hl:=r.length;have hn:=lY;have fin:EP X pins σ Q w s:=⟨z,H,I,Ol,q⟩
 by_cases h0:0<=i
 .have hj:i.toNat=j:=by
   rw[seqIndex_of h0 h5]at h1;exact Option.some.inj h1
  exact item_listR pl.isList h0 (by lia) (by rw[hj];simpa using ew) fin hs
 .have hj:(i+(a5.toArray.size:Int)).toNat=j:=by
   rw[seqIndex_neg (by lia) h4]at h1;rw[r_,<- hl];exact Option.some.inj h1
  exact subscriptTail_builtinR (x:=w) pl.isList.typeIs Xr.lookup
   (wpAny_getItem_list_neg (Q:=λr s'=>r=w/\EP X pins σ Q r s') pl.isList (by lia) (by rw[r_]<;>lia) (by lia) (by rw[hj];simpa using ew) ⟨rfl,fin⟩) hs
theorem Kb:JF X (M5 X.K):=by
 intro value slice pins s σ H x y v u Q I rx ry h hs;obtain⟨p,xs,i,z,rfl,rfl,hq,he,q⟩:=h;cases rx;obtain⟨t,rfl⟩:=ry;obtain⟨a5,r,pl,hz⟩:=I.tuple hq;obtain⟨j,h1,h2,h3,h4,h5⟩:=zY he;obtain⟨w,ew,Ol⟩:=r.get h2;have hl:=r.length;have hn:=lY;have fin:EP X pins σ Q w s:=⟨z,H,I,Ol,q⟩;exact subscriptTail_builtinR (x:=w) pl.typeIs slot_tuple_getitem.lookup
  (getItem_tuple (j:=j) (Q:=λr s'=>r=w/\EP X pins σ Q r s') pl (by lia) (by lia) (by rw[r_,<- hl];exact h1) (by simpa using ew) ⟨rfl,fin⟩) hs
theorem yv(a5:XX)(n j:Nat)(u:X7):Obj.mapSeq (·.setIfInBounds j u) {cls:=.type "list",data:=.seq a5.toArray n}={cls:=.type "list",data:=.seq (a5.set j u).toArray n}:=by
 simp[Obj.mapSeq]
theorem Inv.lst{pins:XQ}{σ:St}{H:Hp}{s:X8}{p:Ye}{xs:Yn}(I:Inv X pins σ H s)(h:H p=some (.lst xs)) :
  ∃(a5:XX)(n:Nat),ax xs a5/\s.heap.get? p=some {cls:=.type "list",data:=.seq a5.toArray n}/\xs.length<=sizeLine:=by
 obtain⟨z,a5,n,r,e⟩:=I.hok p _ h;exact⟨a5,n,r,e,z⟩
theorem Inv.lstUpd{pins:XQ}{σ:St}{H:Hp}{s:X8}{p:Ye}{xs ys:Yn}{a5 its':XX}{n n':Nat}{f:Obj->Obj}(I:Inv X pins σ H s)(h:H p=some (.lst xs))
  (ho:s.heap.get? p=some {cls:=.type "list",data:=.seq a5.toArray n}) (hf:f {cls:=.type "list",data:=.seq a5.toArray n}={cls:=.type "list",data:=.seq its'.toArray n'}) (r:ax ys its') (hz:ys.length<=sizeLine) (t:Nat) :
  Inv X pins σ (upd H p (.lst ys)) {s with heap:=s.heap.update p f,toks:=t}:=by
 have e:(s.heap.update p f).get? p=some {cls:=.type "list",data:=.seq its'.toArray n'}:=by
  rw[V7 f ho (by rw[hf]<;>rfl),hf]
 refine I.write (x:=p) (e:=p) (by rw[h];trivial) (.inl rfl) (λb u hb q=>(Heap.get?_update_other _ _ (UB hb)).trans q) ⟨_,e⟩ ?_;exact⟨hz,its',n',r,e⟩
def rSetL:V->V->V->Hp->(Hp->Prop)->Prop:=λo i v H Q=>∃p xs k j,o=.ref p/\i=.int k/\H p=some (.lst xs)/\GG xs.length k=some j/\Q (upd H p (.lst (xs.set j v)))
theorem set_list:MM X rSetL:=by
 intro pins s σ H o i v ov iv u Q I ro ri rv h;obtain⟨p,xs,k,j,rfl,rfl,hp,hj,q⟩:=h;cases ro;obtain⟨t,rfl⟩:=ri;obtain⟨a5,n,r,ho,hz⟩:=I.lst hp;obtain⟨h1,h2,h3,h4⟩:=Al hj;have hl:=r.length;have hn:=lY;have I':Inv X pins σ (upd H p (.lst (xs.set j v))) {s with heap:=s.heap.update p (Obj.mapSeq (·.setIfInBounds j u))}:=
  I.lstUpd hp ho (yv a5 n j u) (r.set rv j) (by rw[V4];exact hz) s.toks
 by_cases h0:0<=k
 .have hk:k.toNat=j:=by
   rw[seqIndex_of h0 h4]at h1;exact Option.some.inj h1
  exact PySem.W.ki_setAt ho h0 (by lia) (by rw[r_,<- hl];exact h4) (by rw[hk];exact⟨_,I',q⟩)
 .have hk:(k+(a5.toArray.size:Int)).toNat=j:=by
   rw[seqIndex_neg (by lia) h3]at h1;rw[r_,<- hl];exact Option.some.inj h1
  exact PySem.W.ki_setBack ho (by lia) (by rw[r_,<- hl];exact h3) (by lia) (by rw[hk];exact⟨_,I',q⟩)
theorem uj(lo hi:Option Int)(n:Nat):(sliceBounds lo hi none n).1=((HT.qS n 0 lo:Nat):Int)/\(sliceBounds lo hi none n).2.1=((HT.qS n n hi:Nat):Int)/\(sliceBounds lo hi none n).2.2=1:=by
 refine⟨?_,?_,rfl⟩
 .cases lo with
  | none=>simp[sliceBounds,HT.qS]
  | some i=>
   simp only[sliceBounds,HT.qS,Option.getD_none,show(1:Int)>0 by decide,Vi]
   by_cases h:i<0
   .simp only[h,Vi]<;>lia
   .simp only[h,Uu]<;>lia
 .cases hi with
  | none=>simp[sliceBounds,HT.qS]
  | some i=>
   simp only[sliceBounds,HT.qS,Option.getD_none,show(1:Int)>0 by decide,Vi]
   by_cases h:i<0
   .simp only[h,Vi]<;>lia
   .simp only[h,Uu]<;>lia
theorem qi(a5:XX)(lo hi:Option Int):slicePick a5.toArray lo hi none=((a5.drop (HT.qS a5.length 0 lo)).take (HT.qS a5.length a5.length hi-HT.qS a5.length 0 lo)).toArray:=by
 obtain⟨h1,h2,h3⟩:=uj lo hi a5.toArray.size;unfold slicePick;rw[h1,h2,h3];simp only[sliceRange_one,pick_run,r_]<;>rfl
def Qp(K:X6):V->Option Int->Option Int->Hp->VK->Prop:=λx lo hi H Q=>∃a xs,x=.ref a/\cJ K H a xs/\∀p,H p=none->Q (.ref p) (upd H p (.lst (Bp xs lo hi)))
theorem HP:Ss X (Qp X.K):=by
 intro pins s σ H x v vl vu lo hi sl Q I rx hs pl pu h;obtain⟨a,xs,rfl,hx,q⟩:=h;cases rx;obtain⟨a5,r,ht,hz⟩:=I.list hx;have hlen:=r.length;refine⟨"list",_,Xr.lookup,ht.isList.typeIs,?_⟩;refine wpAny_getItem_list_slice ht.isList hs pl pu .none (by simp) ?_ (by rw[r_]<;>lia);rw[qi,<- hlen];refine⟨.ref s.heap.objs.size,_,I.laid (t':=s.toks) (o:=.lst (Bp xs lo hi)) (λb ob q=>e_ _ q) (m_ _) ?_,rfl,q _ (I.hok.fresh (m_ _))⟩;exact⟨G_ (vz xs lo hi) hz,_,0,(r.drop (HT.qS xs.length 0 lo)).take (HT.qS xs.length xs.length hi-HT.qS xs.length 0 lo),n_ _ rfl⟩
theorem sH:cS X (.builtin "len") (λxs H Q=>∃p ys,xs=[.ref p]/\(cJ X.K H p ys\/cM X.K H p ys)/\Q (.int ys.length) H):=by
 intro pins s σ H xs us Q I r h;obtain⟨p,ys,rfl,hq,q⟩:=h;obtain⟨u,rfl,rx⟩:=vals1 r;cases rx;have hn:=lY;rcases hq with hq | hq
 .obtain⟨a5,r',pl,hz⟩:=I.list hq;have hlen:=r'.length;exact Calls.call_len_list pl.isList (by simp only[r_]<;>lia) ⟨.int ys.length,H,I.tok _,⟨s.toks+1,by rw[r_,hlen]⟩,q⟩
 .obtain⟨a5,r',pl,hz⟩:=I.tuple hq;have hlen:=r'.length;exact len_tuple pl (by simp only[r_]<;>lia) ⟨.int ys.length,H,I.tok _,⟨s.toks+1,by rw[r_,hlen]⟩,q⟩
theorem qG:cS X (.type "tuple") (λxs H Q=>∃p ys,xs=[.ref p]/\((cJ X.K H p ys/\∀l,H l=none->Q (.ref l) (upd H l (.tup ys)))\/(cM X.K H p ys/\Q (.ref p) H))):=by
 intro pins s σ H xs us Q I r h;obtain⟨p,ys,rfl,h⟩:=h;obtain⟨u,rfl,rx⟩:=vals1 r;cases rx;rcases h with ⟨hq,q⟩ | ⟨hq,q⟩
 .obtain⟨a5,r',pl,hz⟩:=I.list hq;have hlen:=r'.length;refine call_tuple_list pl.isList (λh' kp=>?_) (by simp only[r_]<;>lia);have I1:Inv X pins σ H {s with heap:=h'}:=I.kept (t':=s.toks) kp;have I2:Inv X pins σ (upd H h'.objs.size (.tup ys)) {s with heap:=h'.push {cls:=.type "tuple",data:=.seq a5.toArray}}:=
   I1.laid (t':=s.toks) (λb o e=>e_ _ e) (m_ _) (show bE X.prog X.w _ _ _ (.tup ys)from⟨hz,a5,r',IsTup.new _ _⟩)
  exact⟨.ref h'.objs.size,_,I2,rfl,q _ (I1.hok.fresh (m_ _))⟩
 .obtain⟨a5,r',pl,hz⟩:=I.tuple hq;exact call_tuple_same pl ⟨.ref p,H,I,rfl,q⟩
def Sr(K:X6)(T:String)(x:V)(H:Hp):Prop:=match x with
 | .str _=>T="str"
 | .int _=>T="int"
 | .ref p=>(T="list"/\∃xs,cJ K H p xs)\/(T="tuple"/\∃o,K.lookup p=some o/\o.cls=.type "tuple"/\o.dict=none)\/
   (T="dict"/\((∃jR,H p=some (.dK jR))\/∃jR,H p=some (.dT jR)))\/(T="set"/\∃S n,H p=some (.set S n))
 | _=>False
theorem Ln{pins:XQ}{σ:St}{H:Hp}{s:X8}{T:String}{x:V}{v:X7}(I:Inv X pins σ H s)(r:RelV x v)(ty:Sr X.K T x H) :
  s.TypeIs v T/\∀a,v=.ref a->∃ob,s.heap.get? a=some ob/\ob.dict=none:=by
 cases x with
 | str z=>
  obtain⟨t,rfl⟩:=r;cases(show T="str" from ty);exact⟨typeIs_str s z t,λ_ e=>nomatch e⟩
 | int i=>
  obtain⟨t,rfl⟩:=r;cases(show T="int" from ty);exact⟨typeIs_int s i t,λ_ e=>nomatch e⟩
 | ref p=>
  cases r;rcases ty with ⟨rfl,xs,hq⟩ | ⟨rfl,o,hk,hc,hd⟩ | ⟨rfl,hk⟩ | ⟨rfl,S,n,hk⟩
  .obtain⟨a5,_,pl,_⟩:=I.list hq;refine⟨pl.isList.typeIs,λa e=>?_⟩;cases e;obtain⟨o,n,e,c,hd,_⟩:=pl;exact⟨o,e,hd⟩
  .refine⟨⟨o,I.kIn p o hk,hc⟩,λa e=>?_⟩;cases e;exact⟨o,I.kIn _ o hk,hd⟩
  .have z:∃o,s.heap.get? p=some o/\o.ExactDict:=by
    rcases hk with ⟨jR,hk⟩ | ⟨jR,hk⟩
    .obtain⟨_,_,_,_,o,_,_,e,ex,_⟩:=I.hok p _ hk;exact⟨o,e,ex⟩
    .obtain⟨_,_,_,_,o,_,_,e,ex,_⟩:=I.hok p _ hk;exact⟨o,e,ex⟩
   obtain⟨o,e,ex⟩:=z;refine⟨⟨o,e,ex.1⟩,λa e2=>?_⟩;cases e2;exact⟨o,e,ex.2.1⟩
  .obtain⟨o,_,_,_,e,ex,_⟩:=I.hok p _ hk;refine⟨⟨o,e,ex.1⟩,λa e2=>?_⟩;cases e2;exact⟨o,e,ex.2.1⟩
 | _=>exact False.elim ty
def TF(K:X6)(T:String)(r:V->Yn->Hp->VK->Prop)(to:TE)(t:TA):TE:=λσ H Q=>to σ H λx H1=>Sr K T x H1/\t σ H1 λxs H2=>r x xs H2 Q
variable {o e:Yf}{es:X1}{to:TE}{t:TA}{name:Str}{apos bU:Pos}{T id:String}{r:V->Yn->Hp->VK->Prop}
theorem AI(pa:PlainAttrs T)(slot:Slot T name id)(hty:typeOf (.builtin id)=pure (.type "method_descriptor"))(hm:Sq X id r)(ho:PE X o to)(ha:PA X (e::es) t)
  (hZ:attributeBase o name X.env (eval o X.env)=eval o X.env:=by rfl)
  (uC:((backTo bU (starEach (e::es) X.env)).all (λx=>!x.1)&&(backToKw bU (keywordEach [] X.env)).all (λx=>x.1.isSome)
   && decide ((e::es).length+([]:List Keyword).length+(if([]:List Keyword).isEmpty then 0 else 1)<30))=true:=by rfl)
  (ib:(apos.endLine==bU.line)=true:=by rfl) (hs:starEach (e::es) X.env=(false,eval e X.env)::starEach es X.env:=by rfl) (hplain:(backTo bU (starEach es X.env)).any (·.1)=false:=by rfl) :
  PE X (.Call (.Attribute o name apos) (e::es) [] bU) (TF X.K T r to t):=by
 intro pins s σ H Q I h;refine wpAny_Call_method_late hZ uC ib rfl (bF (ho pins s σ H _ I h) λv s1 ⟨x,H1,I1,r1,ty,q1⟩=>?_);obtain⟨h1,h2⟩:=Ln I1 r1 ty;refine⟨T,id,pa,slot,hty,h1,h2,?_⟩;have hA:=ha bU pins s1 σ H1 _ I1 q1;rw[hs]at hA ⊢;refine WC (by show(false||(backTo bU (starEach es X.env)).any (·.1))=false;rw[hplain]<;>rfl) (Calls.evalArgs_plain ?_);exact bF hA λus s2 ⟨vs,H2,I2,r2,q2⟩=>hm pins s2 σ H2 x vs v us Q I2 r1 r2 q2
end
def Qi(X:Cx)(id:String)(r:V->Yn->Hp->VK->Prop):Prop:=
 ∀(pins:XQ)(s:X8)(σ:St)(H:Hp)(x:V)(xs:Yn)(v:X7)(us:XX)(Q:VK),Inv X pins σ H s->RelV x v->ax xs us->r x xs H Q->
  wpAny (model X.prog X.w) X.A (call (.builtin id) (v::us)) (EP X pins σ Q) X.xe s
theorem ax.one:∀{x:V}{us:XX},ax [x] us->∃u,us=[u]/\RelV x u
 | _,_,.cons r .nil=>⟨_,rfl,r⟩
theorem ax.two:∀{x y:V}{us:XX},ax [x,y] us->∃u v,us=[u,v]/\RelV x u/\RelV y v
 | _,_,_,.cons r (.cons q .nil)=>⟨_,_,rfl,r,q⟩
theorem ax.rep{xs:Yn}{us:XX}(h:ax xs us):∀k:Nat,ax (List.replicate k xs).flatten (List.replicate k us).flatten
 | 0=>.nil
 | k+1=>by
  rw[Uw,Uw,U_,U_];exact ax.append h (ax.rep h k)
theorem foldl_rep(a5:XX):∀(k:Nat)(acc:XX),
  List.foldl (λx1 x2=>x1++x2) acc.toArray (List.replicate k a5.toArray)=(acc++(List.replicate k a5).flatten).toArray
 | 0,acc=>by simp
 | k+1,acc=>by
  have e:acc.toArray++a5.toArray=(acc++a5).toArray:=by simp
  have e2:(acc++a5)++(List.replicate k a5).flatten=acc++(List.replicate (k+1) a5).flatten:=by
   rw[Uw,U_,U8]
  rw[<- e2,<- foldl_rep a5 k (acc++a5),<- e,Uw,V3]
section
variable {X:Cx}{pins:XQ}{σ:St}{H:Hp}{s:X8}{l b:Ye}{xs ys zs:Yn}
theorem Inv.lset{a5 its':XX}{n:Nat}{f:Array X7->Array X7}{t':Nat}(I:Inv X pins σ H s)(hH:H l=some (.lst xs))
  (e:s.heap.get? l=some {cls:=.type "list",data:=.seq a5.toArray n}) (hf:f a5.toArray=its'.toArray) (hv:ax ys its') (hz:ys.length<=sizeLine) :
  Inv X pins σ (upd H l (.lst ys)) {s with heap:=s.heap.update l (Obj.mapSeq f),toks:=t'}:=by
 have q:=PySem.IsL.update e f;rw[hf]at q;refine I.write (x:=l) (e:=l) (by rw[hH];exact trivial) (.inl rfl) (λb' u hb hu=>(Heap.get?_update_other s.heap (Obj.mapSeq f) (UB hb)).trans hu) ⟨_,q⟩ ?_;exact⟨hz,its',_,hv,q⟩
theorem Inv.lnew{a5:XX}{t':Nat}(I:Inv X pins σ H s)(hv:ax ys a5)(hz:ys.length<=sizeLine) :
  Inv X pins σ (upd H s.heap.objs.size (.lst ys)) {s with heap:=s.heap.push {cls:=.type "list",data:=.seq a5.toArray},toks:=t'}:=
 I.laid (λ_ _ q=>e_ _ q) (m_ _) ⟨hz,a5,0,hv,n_ _ rfl⟩
theorem Inv.fresh(I:Inv X pins σ H s):H s.heap.objs.size=none:=I.hok.fresh (m_ _)
theorem Inv.lstM(I:Inv X pins σ H s)(hH:H l=some (.lst xs)):xs.length<=sizeLine/\∃(a5:XX)(n:Nat),ax xs a5/\xs.length=a5.length/\s.heap.get? l=some {cls:=.type "list",data:=.seq a5.toArray n}:=by
 obtain⟨z,a5,n,r,e⟩:=I.hok l _ hH;exact⟨z,a5,n,r,r.length,e⟩
theorem pq{n:Nat}(h:n<=sizeLine):Builtin.List.listTooLong n=false:=by
 unfold Builtin.List.listTooLong;exact L_ (by lia)
end
section
variable {X:Cx}
def rAppend:V->Yn->Hp->VK->Prop:=λx vs H Q=>∃l xs y,x=.ref l/\vs=[y]/\H l=some (.lst xs)/\xs.length<sizeLine/\Q .non (upd H l (.lst (xs++[y])))
theorem md:Qi X "list.append" rAppend:=by
 intro pins s σ H x vs v us Q I rx rv h;obtain⟨l,xs,y,rfl,rfl,hH,hz,q⟩:=h;cases rx;obtain⟨u,rfl,ru⟩:=rv.one;obtain⟨z,a5,n,r,hl,e⟩:=I.lstM hH;refine WQ F.slot_list_append ⟨_,e,rfl⟩ F.entry_list_append (F.args_list_append_2 _ _) (PySem.list_append l a5.toArray n u (by rw[r_];lia)) ⟨e,?_⟩;refine⟨.non,_,I.lset (its':=a5++[u]) hH e (by simp) (r.append (.cons ru .nil)) ?_,rfl,q⟩;rw[x_,UG]
 lia
def rExtend:V->Yn->Hp->VK->Prop:=λx vs H Q=>∃l b xs zs,x=.ref l/\vs=[.ref b]/\H l=some (.lst xs)/\H b=some (.lst zs)/\xs.length+zs.length<=sizeLine/\Q .non (upd H l (.lst (xs++zs)))
theorem Bv:Qi X "list.extend" rExtend:=by
 intro pins s σ H x vs v us Q I rx rv h;obtain⟨l,b,xs,zs,rfl,rfl,hH,hB,hz,q⟩:=h;cases rx;obtain⟨u,rfl,ru⟩:=rv.one;cases ru;obtain⟨z,a5,n,r,hl,e⟩:=I.lstM hH;obtain⟨z2,uB,n2,r2,hl2,e2⟩:=I.lstM hB;have hsz:a5.toArray.size+uB.toArray.size<=sizeLine:=by rw[r_,r_];lia
 have w5:¬(!a5.toArray.isEmpty&&Builtin.List.listTooLong (a5.toArray.size+uB.toArray.size))=true:=by
  rw[pq hsz,Xe];exact J_
 refine WQ F.slot_list_extend ⟨_,e,rfl⟩ F.entry_list_extend (F.args_list_extend_2 _ _)
  (AutoSeq1.list_extend_list_list_0 l a5.toArray n b uB.toArray n2 w5 (by rw[r_];lia) (by lia)) ⟨e,e2,?_⟩
 refine⟨.non,_,I.lset (its':=a5++uB) hH e (by simp) (r.append r2) ?_,rfl,q⟩;rw[x_]
 lia
def rRep:R2:=λx y H Q=>∃l k xs,x=.ref l/\y=.int k/\H l=some (.lst xs)/\-(2 ^ 63)<=k/\k<2 ^ 63/\xs.length*k.toNat<=sizeLine/\
 ∀p,H p=none->Q (.ref p) (upd H p (.lst (List.replicate k.toNat xs).flatten))
theorem len_rep{α:Type}(xs:List α)(k:Nat):(List.replicate k xs).flatten.length=k*xs.length:=by
 induction k with
 | zero=>simp
 | succ k ih=>rw[Uw,U_,x_,ih,Nat.succ_mul,Nat.add_comm]
theorem JR:jw X (binaryOp .Mult) rRep:=by
 intro pins s σ H x y v u Q I rx ry h;obtain⟨l,k,xs,rfl,rfl,hH,h1,h2,hz,q⟩:=h;cases rx;obtain⟨t,rfl⟩:=ry;obtain⟨z,a5,n,r,hl,e⟩:=I.lstM hH;have hlen:a5.toArray.size*k.toNat<=sizeLine:=by rw[r_,<- hl];exact hz
 have iD:¬a5.toArray.size*k.toNat>(2 ^ 63-1)/8:=by
  have:(sizeLine:Nat)<=(2 ^ 63-1)/8:=by decide
  lia
 have Ih:¬(!Builtin.List.listFitsIndex k)=true:=by
  rw[fitsIndex_both h1 h2];exact J_
 have w5:¬Builtin.List.listTooLong (a5.toArray.size*k.toNat)=true:=by
  rw[pq hlen];exact J_
 have hnew:List.foldl (λx1 x2=>x1++x2) #[] (List.replicate (if a5.toArray.isEmpty=true then 0 else k.toNat) a5.toArray)=(List.replicate k.toNat a5).flatten.toArray:=by
  have f0:∀m:Nat,List.foldl (λx1 x2=>x1++x2) #[] (List.replicate m a5.toArray)=(List.replicate m a5).flatten.toArray:=λm=>by
   have:=foldl_rep a5 m [];rw[Ud]at this;exact this
  rw[f0];cases a5 with
  | nil=>simp
  | cons a r'=>rw[h_ (by simp)]
 refine wpAny_binaryOp_repeat_ref (T:="list") (U:="int") (by decide) ⟨_,e,rfl⟩ (λs'=>typeIs_int s' k t) noFill_list_mul F.fills_int_mul F.slot_int_rmul repeat_list F.slot_int_index.lookup
  (WQ F.slot_int_rmul (typeIs_int s k t) F.entry_int_rmul (F.args_int_rmul_2 _ _) (int___rmul___int_list k t l a5.toArray n)
   ⟨e,rfl,⟨_,e,rfl⟩,WQ F.slot_list_mul ⟨_,e,rfl⟩ F.entry_list_mul (F.args_list_mul_2 _ _) (AutoListH.list___mul___list_int_3 l a5.toArray n k t Ih iD w5) ⟨e,?_⟩⟩)
 rw[hnew];exact⟨.ref _,_,I.lnew (t':=s.toks) (r.rep k.toNat) (by rw[len_rep,Wy];exact hz),rfl,q _ I.fresh⟩
end
section
variable {prog:X9}{w:Yb}{A:X_}{E:XO}{s:X8}
end
section
variable {X:Cx}
end
end L2
namespace Att
open PySem PySem.W PySem.Calls PyProof.Rows
theorem nr{P:Params}{h:Ya}:∀(ns:X4)(vs:XX),WellAll P h vs (ns.map WData.int)->IntsAre vs ns:=by
 intro ns
 induction ns with
 | nil=>
  intro vs w;rw[XE]at w;cases w;exact .nil
 | cons n ns ih=>
  intro vs w;rw[A_]at w;cases w with
  | cons a b=>
   cases a;exact .cons _ _ (ih _ b)
theorem Ck{l:OpenLaw}{n:Nat}(hn:l.most=some n){P:Params}{h:Ya}{args:List WData}{vals:XX}
  (gF:l.row.toRowW.claim.pre args=true) (QW:WellAll P h vals args) :
  ∃a vs ns,vals=[Value.ref a]/\args=[WData.list (ns.map WData.int)]/\h.get? a=some {cls:=.type "list",data:=.seq vs.toArray}/\IntsAre vs ns/\ns.length<=n:=by
 have hsh:WShape.hasAll [] args [.list .int]=true:=(pre_splitW gF).1;have hc:l.pre.holds [] {args:=args}=true:=(pre_splitW gF).2;obtain⟨d,r,rfl,h1,h2⟩:=hasAllW_cons hsh;obtain rfl:=hasAllW_nil h2;obtain⟨xs,rfl,h3⟩:=hasW_list h1;obtain⟨ns,rfl⟩:=items_int h3;have hlen:ns.length<=n:=by
  unfold OpenLaw.pre at hc;have h4:(WTm.not (.lt (.lit (.int (n:Int))) (.len (.arg 0)))).holds [] {args:=[.list (ns.map .int)]}=true:=by
   have h4:=(holds_andW hc).1;rw[hn]at h4;exact h4
  have h5:=condW_of h4 (w_not (w_lt w_lit (w_len_list (w_arg rfl))));rw[c_]at h5;refine Ve λq=>?_;have q':(n:Int)<((ns.length:Nat):Int):=by lia
  first
   | (rw[v_ q']at h5;exact absurd h5 (by decide))
   | (simp at h5;lia)
 cases QW with
 | cons w1 w2=>
  cases w2;cases w1 with
  | list ho lT=>exact⟨_,_,ns,rfl,rfl,ho,nr ns _ lT,hlen⟩
theorem Cf(l:OpenLaw)(args:List WData):l.row.toRowW.claim.post args (.bool true) args=true:=
 postW_of (r:=l.row.toRowW) (X:=(true==true))
  (show WShape.has [] (.bool true) .bool=true by first | rfl | decide | simp[WShape.has,WShape.arms,WShape.armsAll])
  (show(WTm.eq .res (.lit (.bool true))).value [] {args:=args,res:=some (.bool true),after:=args}=some (.bool (true==true))from w_eq_bool (w_res rfl) w_lit) rfl
theorem wM{l:OpenLaw}{n:Nat}{q:X9}{loose:XZ}{XP:XS->Ya->Prop}{YP:Yb->Ya->Prop}{d:DefRec}
  (hn:l.most=some n) (Om:d.params.defaults=[])
  (call:∀(w:Yb)(s₀ s₁:X8)(mg mb:XS)(fa:Ye)(o:Obj)(pm cd doc:X7)(a:Ye)(vs:XX)(ns:X4),
   Ground q loose [] XP w s₀ mg mb s₁.heap->YP w s₁.heap->
   s₁.heap.get? fa=some o->o.data=.func (docDef d.name d.params d.body d.scope pm cd doc)->s₁.heap.CodeRec cd d.name->mg d.name=some (.ref fa)->
   s₁.heap.get? a=some {cls:=.type "list",data:=.seq vs.toArray}->IntsAre vs ns->ns.length<=n->s₁.gens=#[]->
   codeAny (model l.prog w) callerA (.call (.ref fa) ⟨[.ref a],[]⟩) (λr s'=>r=.ok (.ret (.bool true))/\OldK s₁.heap s'.heap/\s'.os=s₁.os/\AllBare s'.gens) s₁) :
  WalkO q loose XP YP l.row.toRowW d [] (λf vs=>PySem.call f vs):=by
 intro w s₀ s₁ mg mb G Y fa o pm cd doc dV kV ho hd lV hD hmg hg args vals as gF hlay hrd QW hlo;obtain rfl:dV=.none:=Dflts.none hD Om;obtain rfl:kV=.none:=Dflts.noKw hD;obtain⟨a,vs,ns,rfl,rfl,Lq,hints,hlen⟩:=Ck hn gF QW;refine enter_call (WA (call w s₀ s₁ mg mb fa o pm cd doc a vs ns G Y ho (fd_plain hd) lV hmg Lq hints hlen hg) λr s' hq=>?_);obtain⟨rfl,h2,h3,h4⟩:=hq;exact⟨.inl ⟨.bool true,.bool true,[],rfl,λ_=>rfl,.bool true,Cf l _,λ_=>⟨List.Pairwise.nil,λ_ hm=>(nomatch hm)⟩⟩,h2,h3,h4⟩
section
variable {prog:X9}{w:Yb}{A:X_}{E:XO}{s:X8}{K:Frag}
end
end Att
namespace L2
open PySem PySem.Spec PyProof.Rows
theorem cm:∀{vs:XX}{ns:X4},IntsAre vs ns->ax (ns.map V.int) vs
 | _,_,.nil=>.nil
 | _,_,.cons n t h=>.cons ⟨t,rfl⟩ (cm h)
def Ke(H:Hp):Prop:=∀b,H b=none\/(∃o xs,H b=some (.frz o (.lst xs)))\/∃q,H b=some (.tab q)
theorem CO{P:X9}{w:Yb}{K:X6}{mg mb:XS}{CX:CXT}{k:Nat}{fa a:Ye}{fd:Yc}{x:Str}{sp:Sp}{s₁:X8}{vs:XX}{ns:X4}
  (KX:K.In s₁.heap) (Cz:s₁.heap.Ns mainGlobals mg) (hb:s₁.heap.Ns builtinsNs mb) (QX:∀x:Str,x≠"__name__"->mb x=bootBuiltins x) (hlim:s₁.heap.NoLimit) (hg:s₁.gens=#[])
  (hbm:∃bm o,mg "__builtins__"=some (.ref bm)/\bm≠builtinsNs/\s₁.heap.get? bm=some o/\o.cls=.type "module"/\o.dict=some builtinsNs/\o.data=.plain)
  (hT:∀P q,tq K P=some q->(∃c,PySem.W.CodeHd s₁.heap c P)/\s₁.heap.get? P=some (PySem.W.tabObj #[])/\K.lookup P=none)
  (ha:s₁.heap.get? a=some {cls:=.type "list",data:=.seq vs.toArray}) (hi:IntsAre vs ns) (hl:ns.length<=sizeLine) (hr:bM k callerA)
  (F:∀base:Ya,K.In base->base.Ns mainGlobals mg->jS P w K mg base CX k fa fd [x] sp) (hbind:∀(s:X8)(u:X7),BindsTo s fd ⟨[u],[]⟩ [(x,u)])
  (Cv:∀H:Hp,Ke H->cJ K H a (ns.map V.int)->sp [.ref a] H (λv _=>v=.bl true) λ_ _ _=>False)
  (hCX:∀H e s',CX [] H s₁ (λ_ _ _=>False) e s'->False) :
  codeAny (model P w) callerA (.call (.ref fa) ⟨[.ref a],[]⟩) (λr s'=>r=.ok (.ret (.bool true))/\OldK s₁.heap s'.heap/\s'.os=s₁.os/\AllBare s'.gens) s₁:=by
 have rv:=cm hi;have lenV:=hi.length;have tqa:∀b q,tq K b=some q->b≠a:=λb q e z=>by
  have h:=(hT b q e).2.1;rw[z,ha]at h;cases h
 have core:∀G:Option HO,(G=none\/∃o xs,G=some (.frz o (.lst xs)))->(∀H:Hp,H a=G->cJ K H a (ns.map V.int))->(∀H o,G=some o->bE P w H s₁.heap a o)->(G≠none->K.lookup a=none)->
   codeAny (model P w) callerA (.call (.ref fa) ⟨[.ref a],[]⟩) (λr s'=>r=.ok (.ret (.bool true))/\OldK s₁.heap s'.heap/\s'.os=s₁.os/\AllBare s'.gens) s₁:=by
  intro G hG hS hok0 hK;generalize hH:(λb=>if b=a then G else(tq K b).map HO.tab:Hp)=H;have Ha:H a=G:=by rw[<- hH];exact j_ rfl
  have Hb:∀b,b≠a->H b=(tq K b).map HO.tab:=λb h=>by rw[<- hH];exact h_ h
  have Ht:∀b q,tq K b=some q->H b=some (.tab q):=λb q e=>by rw[Hb b (tqa b q e),e];rfl
  have Hs:∀b o,H b=some o->(b=a/\G=some o)\/∃q,tq K b=some q/\o=.tab q:=λb o e=>by
   by_cases h:b=a
   .exact .inl ⟨h,by rw[<- Ha,<- h];exact e⟩
   .rw[Hb b h]at e;obtain⟨q,e1,e2⟩:=T_.mp e;exact .inr ⟨q,e1,e2.symm⟩
  have hO:Ke H:=λb=>by
   cases e:H b with
   | none=>exact .inl rfl
   | some o=>
    rcases Hs b o e with ⟨_,z⟩ | ⟨q,_,z⟩
    .rcases hG with g | ⟨ob,xs,g⟩
     .rw[g]at z;cases z
     .rw[g]at z;cases z;exact .inr (.inl ⟨_,_,rfl⟩)
    .exact .inr (.inr ⟨q,by rw[z]⟩)
  have hok:pB P w H s₁.heap:=λb o e=>by
   rcases Hs b o e with ⟨z,g⟩ | ⟨q,z,g⟩
   .subst z;exact hok0 H o g
   .subst g;exact⟨#[],(hT b q z).2.1,trivial,λpos v z=>by cases z⟩
  have uD:∀{b:Ye}{o:Obj},s₁.heap.get? b=some o->H b=none->(tL s₁.heap H).get? b=some o:=λe n=>D0 e n;have FH:∀{b:Ye}{o:Obj},s₁.heap.get? b=some o->(∀xs n,o.data≠.seq xs n)->(∀xs,o.data≠.fields xs)->H b=none:=λ{b o} e d1 d2=>by
   cases q:H b with
   | none=>rfl
   | some u=>
    rcases Hs b u q with ⟨z,_⟩ | ⟨q,z,_⟩
    .subst z;rw[ha]at e;cases e;exact absurd rfl (d1 _ _)
    .have h:=(hT b q z).2.1;rw[h]at e;cases e;exact absurd rfl (d2 _)
  have Pp:∀{b:Ye}{m:XS},s₁.heap.Ns b m->(tL s₁.heap H).Ns b m:=λ{b m} ⟨o,es,ep,e,d,r⟩=>⟨o,es,ep,uD e (FH e (λ_ _ z=>by rw[d]at z;cases z) λ_ z=>by rw[d]at z;cases z),d,r⟩;have SF:K.In (tL s₁.heap H):=λb o e=>uD (KX b o e) (by
   cases q:H b with
   | none=>rfl
   | some u=>
    rcases Hs b u q with ⟨z,g⟩ | ⟨q,z,_⟩
    .subst z;rw[hK (by rw[g];simp)]at e;cases e
    .rw[(hT b q z).2.2]at e;cases e)
  have hM:Mod K mg (tL s₁.heap H):=by
   obtain⟨bm,o,b1,b2,b4,b5,b6,b7⟩:=hbm;refine⟨SF,Pp Cz,⟨mb,Pp hb,QX⟩,let ⟨mc,h1,h2⟩:=hlim;⟨mc,Pp h1,h2⟩,bm,o,b1,b2,λz=>?_,uD b4 (FH b4 (λ_ _ z=>by rw[b7]at z;cases z) λ_ z=>by rw[b7]at z;cases z),b5,b6,b7⟩;obtain⟨o',es,ep,e,hd,_⟩:=Cz;rw[z,e]at b4;cases b4;rw[hd]at b7;cases b7
  have e0:Ie P w K mg (tL s₁.heap H) callerA [] s₁ H:=⟨rfl,hM,λb o e=>G9 e,Nat.le_of_eq (Bc _ _),trivial,λb hb=>absurd (show b∈([]:X0)from hb) (by simp),hok,.of_eq hg,Ht⟩;refine WA ((F _ SF (Pp Cz)).run callerA [] s₁ H ⟨[.ref a],[]⟩ [.ref a] [.ref a] _ _ hr e0 (hbind s₁ (.ref a)) (.cons rfl .nil) (Cv H hO (hS H Ha))) λr s' h=>?_;cases r with
  | error e=>exact(hCX H e s' h).elim
  | ok fl=>
   cases fl with
   | next=>exact False.elim h
   | brk=>exact False.elim h
   | cont=>exact False.elim h
   | ret u=>
    obtain⟨v,H',os,bare,un,On,r',q⟩:=h;have q':v=.bl true:=q;subst q';obtain rfl:u=Value.bool true:=r';have old:∀b o,s₁.heap.get? b=some o->s'.heap.get? b=some o\/∃q ps,tq K b=some q/\s'.heap.get? b=some (PySem.W.tabObj ps):=λb o e=>by
     cases q:H b with
     | none=>exact .inl (un.keep b o e q (by intro z;exact absurd (show b∈([]:X0)from z) (by simp)) (by simp))
     | some u=>
      rcases Hs b u q with ⟨_,z⟩ | ⟨qq,z,g⟩
      .rcases hG with g | ⟨ob,xs,g⟩
       .rw[g]at z;cases z
       .rw[g]at z;cases z;have z2:=un.frzs b ob _ q;obtain⟨e1,_⟩:=hok b _ q;obtain⟨e2,_⟩:=On b _ z2;rw[e]at e1;cases e1;exact .inl e2
      .subst g;obtain⟨ps,e2,_⟩:=On b _ (un.tbls b qq q);exact .inr ⟨qq,ps,z,e2⟩
    refine⟨rfl,⟨λb o e=>?_,λb o e=>?_⟩,os,bare⟩
    .rcases old b o e with z | ⟨q,ps,z,e2⟩
     .exact .inl z
     .obtain⟨⟨c,hc⟩,h2,_⟩:=hT b q z;rw[h2]at e;cases e;exact .inr (.inl ⟨(hc.tab h2).isCodeTable,rfl,#[],ps,rfl,by rw[Array.empty_append];exact e2⟩)
    .rcases old b o e with z | ⟨q,ps,z,e2⟩
     .exact⟨o,z⟩
     .exact⟨_,e2⟩
 cases hk:K.lookup a with
 | some o=>
  have e:=KX a o hk;rw[ha]at e;cases e;exact core none (.inl rfl) (λH _=>.inr ⟨_,vs.toArray,_,hk,rfl,rfl,rfl,by rw[r_,lenV];exact hl,by simpa using rv⟩) (λH o z=>by cases z) λz=>absurd rfl z
 | none=>
  refine core (some (.frz {cls:=.type "list",data:=.seq vs.toArray} (.lst (ns.map V.int)))) (.inr ⟨_,_,rfl⟩) (λH e=>.inl (.inr ⟨_,e⟩)) (λH o z=>?_) λ_=>hk;cases z;exact⟨ha,by rw[c_];exact hl,vs,_,rv,ha⟩
def gi(s:Yg):Arguments:=match s with
 | .FunctionDef _ a _ _ _ _ _ _ _ _=>a
 | _=>{posonlyargs:=[],args:=[],vararg:=none,kwonlyargs:=[],kw_defaults:=[],kwarg:=none,defaults:=[]}
def b0(s:Yg):X2:=match s with
 | .FunctionDef _ _ b _ _ _ _ _ _ _=>b
 | _=>[]
def aO(s:Yg):Yd:=match s with
 | .FunctionDef _ _ _ _ _ _ sc _ _ _=>sc
 | _=>{kind:=.function,names:=[],isGenerator:=false,isCoroutine:=false}
abbrev uM:CXT:=λ_ _ _ _ _ _=>False
abbrev E0:XK:=λ_ _ _=>False
theorem Ng{X:Cx}:yW uM X E0:=λ_ _ _ _ _ _ _ h=>h.elim
structure Fn(K:PySem.W.Frag)(x qual:Str)(st:Stmt)(f:Addr)(fd:FuncData):Prop where
 ex:∃(oc:Value)(od:Option Addr)(kV doc pm:Value)(an:Option Addr)(eC ct:Value)(FI:Array (Option Value)),
  fd=PySem.W.fnOf x qual (gi st) (b0 st) (aO st) .none kV doc pm an eC ct/\K.lookup f=some ⟨oc,od,.func fd,FI⟩/\PySem.W.codeIn K eC qual=true
 kp:PySem.W.keepIn K (.ref f)=true
section
variable {P:X9}{w:Yb}{K:X6}{mg:XS}{base:Ya}
theorem Fn.ok{x qual:Str}{st:Yg}{f:Ye}{fd:Yc}{N ps:XZ}{k:Nat}{sp:Sp}(F:Fn K x qual st f fd)(S:fu N ps (aO st))(len:∀vs H Q E,sp vs H Q E->vs.length=ps.length)
  (hbody:∀(eC:X7)(A:X_)(outer:List Env)(s:X8)(H:Hp)(vs:Yn)(Q:VK)(E:XK),bM k (A.deeper (envOfC qual (aO st) s.heap.objs.size f eC))->sp vs H Q E->
   ∃t,qg (nv uM P w K mg base N qual (aO st) f eC A outer s H E).nox (b0 st) t/\t {nx:=λ_ H'=>Q .non H',rt:=Q} (start N vs) H):jS P w K mg base uM (k+1) f fd ps sp:=by
 obtain⟨oc,od,kV,doc,pm,an,eC,ct,FI,rfl,lk,lV⟩:=F.ex;refine IX lk lV S len λA outer s H vs Q E hr Cv=>?_;obtain⟨t,h,q⟩:=hbody eC A outer s H vs Q E hr Cv;exact⟨t,h.nox,q⟩
theorem Fn.binds{x qual:Str}{st:Yg}{f:Ye}{fd:Yc}{ps:XZ}(F:Fn K x qual st f fd)
  (h:∀(kV doc pm:X7)(an:XY)(eC ct:X7)(us:XX),us.length=ps.length->bindArgs (PySem.W.fnOf x qual (gi st) (b0 st) (aO st) .none kV doc pm an eC ct) ⟨us,[]⟩=pure (ps.zip us)):Binds K fd ps []:=by
 obtain⟨oc,od,kV,doc,pm,an,eC,ct,FI,rfl,lk,lV⟩:=F.ex;exact .all (h kV doc pm an eC ct)
theorem CU{x qual:Str}{st:Yg}{f:Ye}{oc:X7}{od an:XY}{FI:XR}{kV doc pm eC ct:X7}(l:K.lookup f=some ⟨oc,od,.func (PySem.W.fnOf x qual (gi st) (b0 st) (aO st) .none kV doc pm an eC ct),FI⟩)
  (c:PySem.W.codeIn K eC qual=true) (k:PySem.W.keepIn K (.ref f)=true):Fn K x qual st f (PySem.W.fnOf x qual (gi st) (b0 st) (aO st) .none kV doc pm an eC ct):=⟨⟨oc,od,kV,doc,pm,an,eC,ct,FI,rfl,l,c⟩,k⟩
end
theorem jl{A:X_}{k:Nat}(hr:bM k A):A.units+1<cLine:=Xg (Nat.add_le_add_left (by decide:1<=64) _) hr.units
theorem rH{n:Nat}(h:n<=1000):n<sizeLine:=Xg h (by decide)
section
variable {X:Cx}
end
theorem yT{A B:Prop}(h:B):if false=true then A else B:=by
 rw[h_ J_];exact h
theorem yr{A B:Prop}(h:A):if true=true then A else B:=by
 rw[j_ rfl];exact h
def aF(H H':Hp):Prop:=∀b o,H b=some o->H' b=some o
theorem aF.refl(H:Hp):aF H H:=λ_ _ h=>h
theorem aF.trans{H H1 H2:Hp}(a:aF H H1)(b:aF H1 H2):aF H H2:=λc o h=>b c o (a c o h)
theorem aF.free{H H':Hp}(e:aF H H'){l:Ye}(h:H' l=Option.none):H l=Option.none:=by
 cases q:H l with
 | none=>rfl
 | some o=>
  rw[e l o q]at h;cases h
theorem aF.seq{K:X6}{H H':Hp}{a:Ye}{xs:Yn}(e:aF H H')(h:cJ K H a xs):cJ K H' a xs:=by
 rcases h with (h | ⟨o,h⟩) | h
 .exact .inl (.inl (e _ _ h))
 .exact .inl (.inr ⟨o,e _ _ h⟩)
 .exact .inr h
section
variable {κ:Type}[DecidableEq κ]
end
theorem M8{P:X9}{w:Yb}{k:Key}{u:X7}(r:RelV (kV k) u):(aH P w).is k u=true:=by
 cases k with
 | inl i=>obtain⟨t,e⟩:=(show ∃t,u=Value.int i t from r);subst e;exact uV P w i t
 | inr x=>obtain⟨t,e⟩:=(show ∃t,u=Value.str x t from r);subst e;exact vB P w x t
theorem mw{P:X9}{w:Yb}:∀{ks:Yi}{us:XX},ax (ks.map kV) us->ItemsAre (aH P w) ks us
 | [],_,r=>by rw[XE]at r;cases r;exact .nil
 | k::ks,_,r=>by
  rw[A_]at r;cases r with
  | cons h t=>exact .cons (M8 h) (mw t)
section
variable {P:X9}{w:Yb}{H:Hp}{h:Ya}{a:Ye}
end
section
variable {X:Cx}{pins:XQ}{σ:St}{H:Hp}{s:X8}{a:Ye}{y v:V}{u r:X7}{o:Option V}{A:X_}{E:XO}
theorem Inv.big(I:Inv X pins σ H s):sysModules<s.heap.objs.size:=by
 have h:mainGlobals<s.heap.objs.size:=(I.mod.glob.keeps I.bk).lt;exact W8 (by decide) h
end
section
variable {X:Cx}{pins:XQ}{σ:St}{H:Hp}{s:X8}{a:Ye}{jR:List (Key×V)}{k:Key}{u:X7}{A:X_}{E:XO}
end
def KW(i:Yf):Prop:=∀ov iv,subscripted i false ov iv=operate [ov,iv] (getItem ov iv)
theorem GS{prog:X9}{w:Yb}{A:X_}{E:XO}{s:X8}{env:Env}{value slice:Yf}{pos:Pos}{T id:String}{Q:XO}
  (hl:typeLookup (.type T) "__getitem__"=pure (some (.builtin id))) (hs:KW slice)
  (h:wpAny (model prog w) A (eval value env) (λo s₁=>wpAny (model prog w) A (eval slice env) (λi s₂=>s₂.TypeIs o T/\wpAny (model prog w) A (getItem o i) Q E s₂) E s₁) E s) :
  wpAny (model prog w) A (eval (.Subscript value slice pos) env) Q E s:=by
 refine Subscript_ (Ur h (λo s₁ h₁=>Ur h₁ (λi s₂ h₂=>?_) λ_ _ x=>x) λ_ _ x=>x);obtain⟨hT,h₂⟩:=h₂;unfold subscriptTail;refine b_ ?_;rw[getitemInPython_of_ne hT.not_modules];refine b_ (Vn hT hl ?_);have fin:wpAny (model prog w) A (subscripted slice false o i) (λr s₃=>wpAny (model prog w) A (letTemporaryGo value o r >>= λ_=>pure r) Q E s₃) E s₂:=by
  rw[hs o i];exact wpAny_operating (Ur h₂ (λr s₃ h₃=>b_ (wpAny_letTemporaryGo (d_ h₃))) λ_ _ x=>x)
 first
  | exact d_ (b_ fin)
  | exact b_ (d_ (b_ fin))
  | exact b_ fin
section
variable {X:Cx}{o i e value:Yf}{pos pos' tpos:Pos}{td ty tv:TE}
end
section
variable {X:Cx}{pos:Pos}
end
structure M1(X:Cx)(o:Expr)(m:Str)(apos:Pos)(e:Expr)(bU:Pos):Prop where
 base:attributeBase o m X.env (eval o X.env)=eval o X.env
 few:((backTo bU (starEach [e] X.env)).all (λx=>!x.1)&&(backToKw bU (keywordEach [] X.env)).all (λx=>x.1.isSome)
  && decide (([e]:List Expr).length+([]:List Keyword).length+(if([]:List Keyword).isEmpty then 0 else 1)<30))=true
 line:(apos.endLine==bU.line)=true
 trees:backTo bU (starEach [e] X.env)=[(false,eval e X.env)]
structure M2(X:Cx)(o:Expr)(m:Str)(apos:Pos)(e f:Expr)(bU:Pos):Prop where
 base:attributeBase o m X.env (eval o X.env)=eval o X.env
 few:((backTo bU (starEach [e,f] X.env)).all (λx=>!x.1)&&(backToKw bU (keywordEach [] X.env)).all (λx=>x.1.isSome)
  && decide (([e,f]:List Expr).length+([]:List Keyword).length+(if([]:List Keyword).isEmpty then 0 else 1)<30))=true
 line:(apos.endLine==bU.line)=true
 trees:backTo bU (starEach [e,f] X.env)=[(false,eval e X.env),(false,eval f X.env)]
def PY(H:Hp)(a:Ye):Prop:=(∃jR,Rd H a (.dK jR))\/∃jR,Rd H a (.dT jR)
section
variable {X:Cx}{pins:XQ}{σ:St}{H:Hp}{s:X8}{a:Ye}{y d:V}{u r:X7}{o:Option V}{A:X_}{E:XO}
end
section
variable {X:Cx}{o e f:Yf}{apos bU:Pos}{td ty tx:TE}
end
section
variable {X:Cx}{pins:XQ}{σ:St}{H:Hp}{s:X8}{a:Ye}{jR:List (Key×V)}{A:X_}{E:XO}
end
section
variable {X:Cx}{pins:XQ}{σ:St}{H:Hp}{s:X8}{a:Ye}{y:V}{u:X7}{A:X_}{E:XO}
end
end L2
namespace St
open PySem L2
theorem Hw(n:Nat)(h:carriedByValue v=true):ofAClassStatement n v=pure false:=by
 cases v with
 | ref a=>simp[carriedByValue]at h
 | _=>first | rfl | (unfold ofAClassStatement;rfl) | (cases n<;>rfl)
theorem Hq(n:Nat)(h:pT k v=true):∃b,hashByValue n v=pure b:=by
 rcases bJ h with ⟨i,t,rfl,rfl⟩ | ⟨x,t,rfl,rfl⟩
 .exact⟨true,by cases n<;>simp[hashByValue]⟩
 .exact⟨false,by cases n<;>simp[hashByValue]⟩
theorem oB:SK (tupleKind (aH prog w)) where
 cls:=λ{A E s k a Q} hk h=>by
  have hT:s.TypeIs (.ref a) "tuple":=IsTupleKey.typeIs hk;obtain⟨o,items,n,ho,_,hd,hi⟩:=hk;unfold ofAClassStatement;refine b_ (wpAny_typeOf hT ?_);dsimp only;simp only[XB,Vi];refine b_ (d_ ?_);simp only[WX,E_,Uu];refine b_ (VQ ho hd ?_);dsimp only;refine b_ ?_;rw[<- Array.forIn_toList];refine VO _ (λrest r s'=>r.1=none/\s'=s/\∀v∈rest,carriedByValue v=true) _ ?_ ?_ _ _ ⟨rfl,rfl,hi.byValue⟩
  .rintro v rest r s' ⟨hr,rfl,lT⟩;rw[Hw _ (lT v g_)];refine b_ (d_ ?_);simp only[E_,Uu];exact d_ ⟨rfl,rfl,λu Fp=>lT u (f_ _ Fp)⟩
  .rintro⟨r1,r2⟩ s' ⟨hr,rfl,_⟩;simp only at hr;subst hr;exact d_ h
 hbv:=λ{A E s k a Q} hk h=>by
  have hT:s.TypeIs (.ref a) "tuple":=IsTupleKey.typeIs hk;obtain⟨o,items,n,ho,_,hd,hi⟩:=hk;unfold hashByValue;refine b_ (Vn hT F.slot_tuple_hash.lookup ?_);dsimp only;refine b_ (VQ ho hd ?_);refine b_ ?_;show wpAny _ _ (forIn items _ _) _ _ s;rw[<- Array.forIn_toList];refine VO _ (λrest r s'=>r.1=none/\s'=s/\∃ks,ItemsAre (aH prog w) ks rest) _ ?_ ?_ _ _ ⟨rfl,rfl,_,hi⟩
  .rintro v rest r s' ⟨hr,rfl,ks,Ii⟩;cases Ii with
   | cons h1 Pi=>
    obtain⟨b,hb⟩:=Hq 7 h1;rw[hb];refine b_ (d_ ?_);cases b with
    | true=>
     simp only[WX,E_,Uu];exact d_ ⟨rfl,rfl,_,Pi⟩
    | false=>
     simp only[Bool.not_false,Vi];exact d_ (d_ (h _))
  .rintro⟨r1,r2⟩ s' ⟨hr,rfl,_⟩;simp only at hr;subst hr;exact d_ (h _)
theorem uR(x:(tupleKind (aH prog w)).is h ks a)(k:∀o,h.get? a=some o->h'.get? a=some o):(tupleKind (aH prog w)).is h' ks a:=by
 obtain⟨o,items,n,ho,hc,hd,hi⟩:=x;exact⟨o,items,n,k o ho,hc,hd,hi⟩
theorem c8.keep{prog:X9}{w:Yb}{K:Type}[DecidableEq K]{knd:HeapKind prog w K}{h h':Ya}{a:Ye}{xs:List (K×Ye)}(x:c8 knd a xs h)(k:∀o,h.get? a=some o->h'.get? a=some o):c8 knd a xs h':=by
 obtain⟨o,es,ep,t,ho,rest⟩:=x;exact⟨o,es,ep,t,k o ho,rest⟩
def jO[DecidableEq K](xs:List (K×Ye))(x:K×Ye):List (K×Ye):=if x.1∈xs.map (·.1)then xs else xs++[x]
section
variable {prog:X9}{w:Yb}{A:X_}{E:XO}{s:X8}{R:Result->X8->Prop}
theorem DM(xs:List (Yi×Ye))(x:Yi×Ye):(jO xs x).length<=xs.length+1:=by unfold jO;split<;>simp
theorem Ej{xs:List (Yi×Ye)}{x y:Yi×Ye}(h:y∈jO xs x):y∈xs\/y=x:=by
 unfold jO at h
 split at h
 .exact .inl h
 .simpa using h
theorem BM(hu:A.units<cLine)(hS:c8 (tupleKind (aH prog w)) a xs s.heap)(wW:∀x∈xs,(tupleKind (aH prog w)).is s.heap x.1 x.2)(fX:(tupleKind (aH prog w)).is s.heap k b)(hl:xs.length+1<=4914)
  (h:∀r h' tk,Heap.SameBut a s.heap h'->c8 (tupleKind (aH prog w)) a (jO xs (k,b)) h'->Q r {s with heap:=h',toks:=tk}):wpAny (model prog w) A (setAdd a (.ref b)) Q E s:=by
 unfold setAdd;refine F_ ?_;refine b_ ((tupleKind (aH prog w)).pyHash (show(tupleKind (aH prog w)).room A from hu) fX ?_);refine Gk (s:={s with toks:=s.toks+(tupleKind (aH prog w)).draws k}) oB (show(tupleKind (aH prog w)).room A from hu) hS wW fX hl (λhk=>?_) (λhk h' hsb Oo=>?_)
 .have e:jO xs (k,b)=xs:=by unfold jO;rw[j_ hk]
  exact h false s.heap _ ⟨rfl,λ_ _=>rfl⟩ (by rw[e];exact hS)
 .have e:jO xs (k,b)=xs++[(k,b)]:=by unfold jO;rw[h_ hk]
  exact h true h' _ hsb (by rw[e];exact Oo)
theorem wJ(hh:A.in1.handled=none)(hu:A.in1.units<cLine){h0:Ya}{N d it l:Nat}(Pq:d≠it)(SG:N<=d)(QY:N<=it){items:Array X7}(hl:h0.IsList l items)(QZ:l<N){ks:List (Yi×Ye)}(hit:items.toList=ks.map λx=>Value.ref x.2)
  (Ii:∀x∈ks,x.2<N/\(tupleKind (aH prog w)).is h0 x.1 x.2) (hlen:ks.length<=4900) :
  ∀(rest pre:List (Yi×Ye))(s:X8)(xs:List (Yi×Ye)),ks=pre++rest->(∀b o,b<N->h0.get? b=some o->s.heap.get? b=some o)->s.heap.IsListIter it l pre.length->c8 (tupleKind (aH prog w)) d xs s.heap->(∀x∈xs,x∈ks)->xs.length<=pre.length->
   (∀h' tk,(∀b o,b<N->h0.get? b=some o->h'.get? b=some o)->c8 (tupleKind (aH prog w)) d (rest.foldl jO xs) h'->R (.ok (.ret .none)) {s with heap:=h',toks:=tk})->
   codeAny (model prog w) A (.builtin "set.update.loop" ⟨[.ref d,.ref it],[]⟩) R s
 | [],pre,s,xs,hk,hold,hi,hS,hx,hxl,hR=>by
  refine Vb Wk ?_;rw[Vk Vs _];have Jj:s.heap.IsList l items:=by obtain⟨o,ho,r⟩:=hl;exact⟨o,hold l o QZ ho,r⟩
  show wpAny _ A.in1 (pyNext (.ref it) >>= _) _ _ s;refine b_ (V8 hh hi Jj (by
   rw[<- VC,hit,hk];simp) λh' hb=>?_)
  show wpAny _ A.in1 (ret Value.none) _ _ _;refine d_ (hR h' s.toks (λb o hbN e=>hb b o (B_ (Q_ hbN QY)) (hold b o hbN e)) (hS.keep λo e=>hb d o Pq e))
 | x::rest,pre,s,xs,hk,hold,hi,hS,hx,hxl,hR=>by
  refine Vb Wk ?_;rw[Vk Vs _];have Jj:s.heap.IsList l items:=by obtain⟨o,ho,r⟩:=hl;exact⟨o,hold l o QZ ho,r⟩
  have SH:x∈ks:=by rw[hk];simp
  obtain⟨xN,xk⟩:=Ii x SH;have hlk:pre.length+1<=ks.length:=by rw[hk];simp
  show wpAny _ A.in1 (pyNext (.ref it) >>= _) _ _ s;refine b_ (Vt hi Jj (x:=.ref x.2) (by
   rw[<- VC,hit,hk];simp) λh1 Ob hsb1=>?_)
  have Fq:∀b o,b<N->h0.get? b=some o->h1.get? b=some o:=λb o hbN e=>by
   rw[hsb1.2 b (B_ (Q_ hbN QY))];exact hold b o hbN e
  have hS1:c8 (tupleKind (aH prog w)) d xs h1:=hS.keep λo e=>by rw[hsb1.2 d Pq];exact e
  show wpAny _ A.in1 (holding [Value.ref x.2] (setAdd d (.ref x.2)) >>= _) _ _ {s with heap:=h1};refine b_ (F_ (BM (s:={s with heap:=h1}) hu hS1 (λy hy=>?_) (k:=x.1) (uR xk λo e=>Fq _ o xN e) (by lia) λr h2 tk hsb2 Q0=>?_))
  .obtain⟨yN,yk⟩:=Ii y (hx y hy);exact uR yk λo e=>Fq _ o yN e
  .refine d_ ⟨WZ Vs _,?_⟩;have hold2:∀b o,b<N->h0.get? b=some o->h2.get? b=some o:=λb o hbN e=>by
    rw[hsb2.2 b (B_ (Q_ hbN SG))];exact Fq b o hbN e
   have Q2:h2.IsListIter it l (pre++[x]).length:=by
    rw[x_,UG];obtain⟨o,ho,r⟩:=Ob;exact⟨o,by rw[hsb2.2 it (UB Pq)];exact ho,r⟩
   have:=DM xs x;exact wJ hh hu Pq SG QY hl QZ hit Ii hlen rest (pre++[x]) {s with heap:=h2,toks:=tk} (jO xs x) (by rw[hk];simp) hold2 Q2 Q0 (λy hy=>by
    rcases Ej hy with h | h
    .exact hx y h
    .exact h▸SH) (by rw[x_,UG];lia) hR
theorem EF(led:Bool)(e:h.get? a=some {cls:=.type "set",dict:=none,data:=.set #[] 0 (.fresh 0 0 led)}):c8 (tupleKind (aH prog w)) a [] h:=by
 refine⟨_,#[],0,_,e,⟨rfl,rfl,rfl⟩,rfl,⟨by simp,⟨rfl,⟨3,rfl⟩,by simp[SetTable.fresh],λx hx=>?_,rfl,by simp[SetTable.fresh],λq hq=>?_⟩,by simp[SetTable.fresh,fA],by simp[SetTable.fresh]⟩,VR⟩
 .simp[SetTable.fresh]at hx
 .simp[SetTable.fresh]at hq
theorem qC{l:Ye}{items:Array X7}{ks:List (Yi×Ye)}{Q:XO}(hh:A.handled=none)(hu:A.units+4<cLine)(hl:s.heap.IsList l items)(hit:items.toList=ks.map λx=>Value.ref x.2)
  (Ii:∀x∈ks,(tupleKind (aH prog w)).is s.heap x.1 x.2) (hlen:ks.length<=4900)
  (h:∀(h':Ya)(tk:Nat),c8 (tupleKind (aH prog w)) s.sz (ks.foldl jO []) h'->(∀b o,b<s.sz->s.heap.get? b=some o->h'.get? b=some o)->Q (.ref s.sz) {s with heap:=h',toks:=tk}) :
  wpAny (model prog w) A (call (.type "set") [.ref l]) Q E s:=by
 obtain⟨c,tl,hmro⟩:=VZ.mro;have hmade:=VZ.made;have hsub:=VZ.sub;refine wpAny_call (codeAny_of_tree ?_);show wpAny _ _ (callAny (.type "set") _) _ _ _;refine d_ ⟨Code.quiet_builtin _ (by decide +kernel),Vb F.entry_type_call ?_⟩;rw[Around.under_plain (weight_type_call_type "set" [.ref l] []) rfl];have h1:=VZ.notType;have h2:=VZ.canCreate;have hct:=F.typeCall_set_1 (.ref l)
 repeat (any_goals (first | assumption | wp_step))
 refine WA (code_set_new_1 (.ref l) (E:=E) (Q₁:=λobj s₁=>∃led:Bool,obj=.ref s.sz/\s₁={s with heap:=s.heap.push {cls:=.type "set",dict:=none,data:=.set #[] 0 (.fresh 0 0 led)}}) λled=>⟨led,rfl,rfl⟩) λr s₁ hr=>?_;cases r with
 | error e=>exact hr
 | ok fl=>
  cases fl with
  | ret obj=>
   obtain⟨led,rfl,rfl⟩:=hr;have hS:(s.heap.push {cls:=.type "set",dict:=none,data:=.set #[] 0 (.fresh 0 0 led)}).get? s.sz=some {cls:=.type "set",dict:=none,data:=.set #[] 0 (.fresh 0 0 led)}:=n_ _ rfl;have hT:Shared.TypeIs {s with heap:=s.heap.push {cls:=.type "set",dict:=none,data:=.set #[] 0 (.fresh 0 0 led)}} (.ref s.sz) "set":=⟨_,hS,rfl⟩;have hli:=VZ.init.lookup;have hbi:=VZ.init.bind (.ref s.sz)
   repeat (any_goals (first | assumption | wp_step))
   refine WA (codeAny_call_builtin (R:=wants (λr s₂=>r=.none/\∃h' tk,s₂={s with heap:=h',toks:=tk}/\
     c8 (tupleKind (aH prog w)) s.sz (ks.foldl jO []) h'/\
     (∀b o,b<s.sz->s.heap.get? b=some o->h'.get? b=some o)) E) VZ.init.plain F.entry_set_init (check_set_init_1 hT ?_)) λr₂ s₂ hr₂=>?_
   .obtain⟨ol,FJ,gv,nl,HX⟩:=id hl;obtain⟨ocls,odict,odata,oslots⟩:=ol;simp only at gv HX;subst gv;subst HX;have hol':(s.heap.push {cls:=.type "set",dict:=none,data:=.set #[] 0 (.fresh 0 0 led)}).get? l=some {cls:=.type "list",dict:=odict,data:=.seq items nl,slots:=oslots}:=e_ _ FJ;have hsls:=F.sub_list_set;have hslf:=F.sub_list_frozenset;have hne:(Value.type "list"==Value.type "dict")=false:=by decide
    have hl1:(s.heap.push {cls:=.type "set",dict:=none,data:=.set #[] 0 (.fresh 0 0 led)}).IsList l items:=⟨_,hol',rfl,nl,rfl⟩;unfold Builtin.«set.__init__» noKeywords Builtin.Frozenset.updateFrom;generalize hPI:pyIter=PI
    wp_walk
    subst hPI;refine U9 hl1 ?_;refine b_ (wpAny_runValue ?_);have Pr:l<s.sz:=q_ FJ;have hsz:(s.heap.push {cls:=.type "set",dict:=none,data:=.set #[] 0 (.fresh 0 0 led)}).objs.size=s.sz+1:=U0 _ _;refine wJ (h0:=s.heap) (N:=s.sz) (ks:=ks) (items:=items) (by simp[hh]) ?Q3 (by rw[hsz];exact B_ (Wh _)) (m_ _) (by rw[hsz];exact VW _) hl Pr hit (λx hx=>⟨?_,Ii x hx⟩) hlen ks [] _ [] rfl (λb o _ e=>e_ _ (e_ _ e)) ⟨_,n_ _ rfl,rfl,rfl⟩ (EF led (e_ _ hS)) (λx hx=>by cases hx) (m_ _) λh' tk hold Oo=>?_
    case Q3=>simp only[Around.in1];first | lia | (simp[Around.in1];lia)
    .obtain⟨o,_,_,ho,_⟩:=Ii x hx;exact q_ ho
    .show wpAny _ _ _ _ _ _;refine d_ ?_;show wpAny _ _ (ret Value.none) _ _ _;exact d_ ⟨rfl,h',tk,rfl,Oo,hold⟩
   .cases r₂ with
    | error e=>exact hr₂
    | ok fl₂=>
     cases fl₂ with
     | ret r=>
      obtain⟨rfl,h',tk,rfl,Oo,hk'⟩:=hr₂
      repeat (any_goals (first | assumption | wp_step))
      exact h _ _ Oo hk'
     | _=>exact hr₂.elim
  | _=>exact hr.elim
end
section
variable {prog:X9}{w:Yb}{A:X_}{E:XO}{s:X8}{R:Result->X8->Prop}
section
variable {K:Type}[DecidableEq K]{knd:HeapKind prog w K}
end
end
end St
namespace Mi
open PySem PySem.Spec PyProof.Rows L2
inductive D where
 | non | bl (b:Bool) | int (i:Int) | str (x:Str) | tup (ds:List D) | lst (ds:List D) | dct (ks:List (Int×Int))
  | st (ps:List (Int×Int)) | ln (n:Nat)
  | mp (th:Str->Int) (ks:List (List Key)) (ds:List D)
 deriving Inhabited
abbrev Ym:=Option D
abbrev Yl:=List D
abbrev Yk:=Option Yl
def kk(p:X5):Yi:=[.inl p.1,.inl p.2]
abbrev Fg:=X6
def Mc(x:X5×Ye):Int×X7:=(reduceHash (Builtin.Tuple.tupleHashOf [hashInt x.1.1,hashInt x.1.2]),.ref x.2)
def kn(a:Ye)(ps:XU)(bs:X0)(h:Ya):Prop:=
 ∃o es ep t,h.get? a=some o/\o.ExactSet/\o.data=.set es ep t/\es.toList.Perm ((ps.zip bs).map Mc)/\St.Ok t (es.toList.map (·.1))/\t.mask∈St.fA/\t.place.size*5<t.mask*3/\ps.Nodup
def PU(x:X5×Ye):DictEntry:=⟨reduceHash (Builtin.Tuple.tupleHashOf [hashInt x.1.1,hashInt x.1.2]),.ref x.2,.bool true⟩
def Kx(a:Ye)(ps:XU)(bs:X0)(h:Ya):Prop:=
 ∃o es ep,h.get? a=some o/\o.ExactDict/\o.data=.dict es ep/\es.toList=(ps.zip bs).map PU/\ps.Nodup/\(a==sysModules)=false/\ps.length<=16000000
def jN(K:Fg)(H:Hp)(ps:XU)(bs:X0):Prop:=bs.length=ps.length/\∀(i:Nat) p b,ps[i]?=some p->bs[i]?=some b->cM K H b [.int p.1,.int p.2]
def Bm(K:Fg)(Z H:Hp)(a:Ye)(ks:XU):Prop:=∃bs,H a=some (.ext (Kx a ks bs))/\jN K Z ks bs
def NP(a:Ye)(n:Nat)(h:Ya):Prop:=∃o es ep,h.get? a=some o/\o.ExactDict/\o.data=.dict es ep/\es.size=n/\(a==sysModules)=false
def hK(th:Str->Int):Key->Int
 | .inl k=>hashInt k
 | .inr x=>th x
def Cr(th:Str->Int)(x:Yi×Ye×X7):DictEntry:=⟨reduceHash (Builtin.Tuple.tupleHashOf (x.1.map (hK th))),.ref x.2.1,x.2.2⟩
def dP(ks:Yh)(bs:X0)(us:XX):List (Yi×Ye×X7):=ks.zip (bs.zip us)
def bP(th:Str->Int)(a:Ye)(ks:Yh)(bs:X0)(vs:Yn)(h:Ya):Prop:=
 ∃o es ep us,h.get? a=some o/\o.ExactDict/\o.data=.dict es ep/\ax vs us/\es.toList=(dP ks bs us).map (Cr th)/\ks.Nodup/\(a==sysModules)=false/\ks.length<=16000000/\bs.length=ks.length/\us.length=ks.length
def et(K:Fg)(H:Hp)(ks:Yh)(bs:X0):Prop:=∀(i:Nat) k b,ks[i]?=some k->bs[i]?=some b->cM K H b (k.map kV)
mutual
def Rep(K:Fg)(H:Hp):D->V->Prop
 | .non,v=>v=.non
 | .bl b,v=>v=.bl b
 | .int i,v=>v=.int i
 | .str x,v=>v=.str x/\PyData.strOk x=true
 | .tup ds,v=>∃a vs,v=.ref a/\cM K H a vs/\ar K H ds vs
 | .lst ds,v=>∃a vs,v=.ref a/\cJ K H a vs/\ar K H ds vs
 | .dct ks,v=>∃a,v=.ref a/\Bm K H H a ks
 | .st ps,v=>∃a bs,v=.ref a/\bs.length=ps.length/\H a=some (.ext (kn a ps bs))/\∀(i:Nat) p b,ps[i]?=some p->bs[i]?=some b->cM K H b [.int p.1,.int p.2]
 | .ln n,v=>∃a,v=.ref a/\H a=some (.ext (NP a n))
 | .mp th ks ds,v=>∃a bs vs,v=.ref a/\H a=some (.ext (bP th a ks bs vs))/\et K H ks bs/\ar K H ds vs
def ar(K:Fg)(H:Hp):Yl->Yn->Prop
 | [],vs=>vs=[]
 | d::ds,vs=>∃v r,vs=v::r/\Rep K H d v/\ar K H ds r
end
theorem dA{K:Fg}{H H':Hp}{a:Ye}{xs:Yn}(e:aF H H')(h:cM K H a xs):cM K H' a xs:=by
 rcases h with (h | ⟨o,h⟩) | h
 .exact .inl (.inl (e _ _ h))
 .exact .inl (.inr ⟨o,e _ _ h⟩)
 .exact .inr h
theorem et.mono{K:Fg}{H H':Hp}(s:aF H H'){ks:Yh}{bs:X0}(h:et K H ks bs):et K H' ks bs:=λi k b h1 h2=>dA s (h i k b h1 h2)
theorem jN.mono{K:Fg}{H H':Hp}(s:aF H H'){ps:XU}{bs:X0}(h:jN K H ps bs):jN K H' ps bs:=⟨h.1,λi p b h1 h2=>dA s (h.2 i p b h1 h2)⟩
theorem Bm.mono{K:Fg}{Z Z' H H':Hp}(z:aF Z Z')(s:aF H H'){a:Ye}{ks:XU}(h:Bm K Z H a ks):Bm K Z' H' a ks:=let ⟨bs,e,r⟩:=h;⟨bs,s _ _ e,r.mono z⟩
mutual
theorem Rep.mono{K:Fg}{H H':Hp}(s:aF H H'):∀(d:D){v:V},Rep K H d v->Rep K H' d v
 | .non,_,h=>h
 | .bl _,_,h=>h
 | .int _,_,h=>h
 | .str _,_,h=>h
 | .tup ds,_,⟨a,vs,e,q,r⟩=>⟨a,vs,e,dA s q,ar.mono s ds r⟩
 | .lst ds,_,⟨a,vs,e,q,r⟩=>⟨a,vs,e,s.seq q,ar.mono s ds r⟩
 | .dct ks,_,⟨a,e,q⟩=>⟨a,e,q.mono s s⟩
 | .st ps,_,⟨a,bs,e,l,q,r⟩=>⟨a,bs,e,l,s _ _ q,λi p b h1 h2=>dA s (r i p b h1 h2)⟩
 | .ln n,_,⟨a,e,q⟩=>⟨a,e,s _ _ q⟩
 | .mp th ks ds,_,⟨a,bs,vs,e,q,r,t⟩=>⟨a,bs,vs,e,s _ _ q,r.mono s,ar.mono s ds t⟩
theorem ar.mono{K:Fg}{H H':Hp}(s:aF H H'):∀(ds:Yl){vs:Yn},ar K H ds vs->ar K H' ds vs
 | [],_,h=>h
 | d::ds,_,⟨v,r,e,h,q⟩=>⟨v,r,e,Rep.mono s d h,ar.mono s ds q⟩
end
theorem ar.len{K:Fg}{H:Hp}:∀{ds:Yl}{vs:Yn},ar K H ds vs->ds.length=vs.length
 | [],_,h=>by cases(show _=[]from h);rfl
 | d::ds,_,⟨v,r,e,_,q⟩=>by subst e;simp[ar.len q]
theorem ar.get{K:Fg}{H:Hp}:∀{ds:Yl}{vs:Yn}{i:Nat}{d:D},ar K H ds vs->ds[i]?=some d->∃v,vs[i]?=some v/\Rep K H d v
 | [],_,_,_,_,e=>by simp at e
 | d::ds,_,0,_,⟨v,r,e,h,q⟩,e2=>by subst e;simp at e2;subst e2;exact⟨v,rfl,h⟩
 | d::ds,_,i+1,_,⟨v,r,e,h,q⟩,e2=>by subst e;simpa using ar.get (i:=i) q (by simpa using e2)
theorem ar.getV{K:Fg}{H:Hp}{ds:Yl}{vs:Yn}{i:Nat}{v:V}(h:ar K H ds vs)(e:vs[i]?=some v):∃d,ds[i]?=some d/\Rep K H d v:=by
 have hl:=h.len;have hi:i<vs.length:=(k_.mp e).1;have hd:ds[i]?=some (ds[i]'(by lia)):=by simp[hl,hi]
 obtain⟨w,e2,r⟩:=h.get hd;rw[e]at e2;cases e2;exact⟨_,hd,r⟩
theorem ar.app{K:Fg}{H:Hp}:∀{ds es:Yl}{vs us:Yn},ar K H ds vs->ar K H es us->ar K H (ds++es) (vs++us)
 | [],_,_,_,h,q=>by cases(show _=[]from h);exact q
 | d::ds,_,_,_,⟨v,r,e,h,q⟩,q2=>by subst e;exact⟨v,_,rfl,h,ar.app q q2⟩
theorem ar.one{K:Fg}{H:Hp}{d:D}{v:V}(h:Rep K H d v):ar K H [d] [v]:=⟨v,[],rfl,h,rfl⟩
theorem ar.cons{K:Fg}{H:Hp}{d:D}{v:V}{ds:Yl}{vs:Yn}(h:Rep K H d v)(r:ar K H ds vs):ar K H (d::ds) (v::vs):=⟨v,vs,rfl,h,r⟩
theorem ar.drop{K:Fg}{H:Hp}:∀{ds:Yl}{vs:Yn}(n:Nat),ar K H ds vs->ar K H (ds.drop n) (vs.drop n)
 | _,_,0,q=>q
 | [],_,_+1,q=>by cases(show _=[]from q);rfl
 | _::_,_,n+1,⟨w,r,e,z,q⟩=>by subst e;exact ar.drop n q
theorem ar.take{K:Fg}{H:Hp}:∀{ds:Yl}{vs:Yn}(n:Nat),ar K H ds vs->ar K H (ds.take n) (vs.take n)
 | _,_,0,q=>rfl
 | [],_,_+1,q=>by cases(show _=[]from q);rfl
 | _::_,_,n+1,⟨w,r,e,z,q⟩=>by subst e;exact⟨w,_,rfl,z,ar.take n q⟩
theorem ar.rev{K:Fg}{H:Hp}:∀{ds:Yl}{vs:Yn},ar K H ds vs->ar K H ds.reverse vs.reverse
 | [],_,q=>by cases(show _=[]from q);rfl
 | _::_,_,⟨w,r,e,z,q⟩=>by subst e;simp only[Xs];exact(ar.rev q).app (ar.one z)
theorem ar.ints{K:Fg}{H:Hp}:∀(ns:X4),ar K H (ns.map D.int) (ns.map V.int)
 | []=>rfl
 | n::ns=>⟨_,_,rfl,rfl,ar.ints ns⟩
abbrev Nf(Z Z':Hp):Prop:=∀a ob u,Z' a=some (.frz ob u)->Z a=some (.frz ob u)
abbrev NF(o:HO):Prop:=∀ob u,o≠.frz ob u
theorem LY:NF (.lst xs):=λ_ _ z=>by cases z
theorem T6:NF (.tup xs):=λ_ _ z=>by cases z
theorem N6:NF (.ext φ):=λ_ _ z=>by cases z
theorem mV(n:Nf Z Z')(hf:NF o):Nf Z (upd Z' p o):=λa ob u e=>by
 by_cases hb:a=p
 .subst hb;rw[ay]at e;cases e;exact absurd rfl (hf ob u)
 .rw[aB hb]at e;exact n a ob u e
structure Ex(Z H Z' H':Hp):Prop where
 h:aF H H'
 z:aF Z Z'
 zh:aF Z' H'
 fr:∀a,H a≠none->Z a=none->Z' a=none
 nf:Nf Z Z'
theorem Ex.refl(s:aF Z H):Ex Z H Z H:=⟨aF.refl _,aF.refl _,s,λ_ _ h=>h,λ_ _ _ h=>h⟩
theorem mr(s:aF H H')(h:H a≠none):H' a≠none:=by
 cases e:H a with
 | none=>exact absurd e h
 | some o=>rw[s a o e];simp
theorem Ex.trans(x:Ex Z H Z1 H1)(y:Ex Z1 H1 Z2 H2):Ex Z H Z2 H2:=
 ⟨x.h.trans y.h,x.z.trans y.z,y.zh,λa h e=>y.fr a (mr x.h h) (x.fr a h e),λa o u h=>x.nf a o u (y.nf a o u h)⟩
theorem Ex.transB(x:Ex Z B Z1 H1)(y:Ex Z1 B Z2 H2):Ex Z B Z2 H2:=
 ⟨y.h,x.z.trans y.z,y.zh,λa h e=>y.fr a h (x.fr a h e),λa o u h=>x.nf a o u (y.nf a o u h)⟩
theorem Ex.part(b:aF B H)(x:Ex Z H Z' H'):Ex Z B Z' H':=⟨b.trans x.h,x.z,x.zh,λa h e=>x.fr a (mr b h) e,x.nf⟩
theorem df(h:H p=none):aF H (upd H p o):=λb u e=>by rw[aB (bj e h)];exact e
theorem Ld(s:aF Z H)(h:H p=none):aF (upd Z p o) (upd H p o):=λb u e=>by
 by_cases hb:b=p
 .subst hb;rw[ay]at e ⊢;exact e
 .rw[aB hb]at e ⊢;exact s b u e
theorem c6(s:aF Z H)(h:Z p=none):aF Z (upd H p o):=λb u e=>by
 rw[aB (bj e h)];exact s b u e
theorem mh(s:aF Z H)(h:H p=some o):aF (upd Z p o) H:=λb u e=>by
 by_cases hb:b=p
 .subst hb;rw[ay]at e;cases e;exact h
 .rw[aB hb]at e;exact s b u e
theorem Ex.new(s:aF Z H)(h:H p=none)(hf:NF o:=by first | exact T6 | exact LY | exact N6):Ex Z H (upd Z p o) (upd H p o):=
 ⟨df h,df (s.free h),Ld s h,λa ha e=>by rw[aB (λz=>ha (by rw[z];exact h))];exact e,mV (λ_ _ _ h=>h) hf⟩
theorem Ex.newL(s:aF Z H)(h:H p=none):Ex Z H Z (upd H p o):=
 ⟨df h,aF.refl _,c6 s (s.free h),λ_ _ e=>e,λ_ _ _ h=>h⟩
def yY(K:Fg)(Z H:Hp)(a:Ye)(th:Str->Int)(ks:Yh)(ds:Yl):Prop:=∃bs vs,H a=some (.ext (bP th a ks bs vs))/\et K Z ks bs/\ar K Z ds vs
theorem yY.mono{K:Fg}{Z Z' H H':Hp}(z:aF Z Z')(s:aF H H'){a:Ye}{th:Str->Int}{ks:Yh}{ds:Yl}(h:yY K Z H a th ks ds):yY K Z' H' a th ks ds:=let ⟨bs,vs,e,r,t⟩:=h;⟨bs,vs,s _ _ e,r.mono z,ar.mono z ds t⟩
inductive Gr where | pk | cl | nw | nd | nm
def Gd(K:Fg)(Z' H H':Hp):Gr->D->V->Prop
 | .pk,d,v=>Rep K Z' d v\/(∃a vs ds,v=.ref a/\d=.lst ds/\H' a=some (.lst vs)/\ar K Z' ds vs)\/(∃a ks,v=.ref a/\d=.dct ks/\Bm K Z' H' a ks)\/∃a th ks ds,v=.ref a/\d=.mp th ks ds/\yY K Z' H' a th ks ds
 | .cl,d,v=>Rep K Z' d v
 | .nw,d,v=>∃a vs ds,v=.ref a/\d=.lst ds/\H a=none/\H' a=some (.lst vs)/\Z' a=none/\ar K Z' ds vs
 | .nd,d,v=>∃a ks,v=.ref a/\d=.dct ks/\H a=none/\Bm K Z' H' a ks/\Z' a=none
 | .nm,d,v=>∃a th ks ds,v=.ref a/\d=.mp th ks ds/\H a=none/\yY K Z' H' a th ks ds/\Z' a=none
section
variable {K:Fg}{Z Z' H H':Hp}{g:Gr}{d:D}{v:V}
theorem Gd.pk(h:Gd K Z' H H' g d v):Gd K Z' H3 H' .pk d v:=by
 cases g with
 | pk=>exact h
 | cl=>exact .inl h
 | nw=>obtain⟨a,vs,ds,e1,e2,_,e3,_,r⟩:=h;exact .inr (.inl ⟨a,vs,ds,e1,e2,e3,r⟩)
 | nd=>obtain⟨a,ks,e1,e2,_,e3,_⟩:=h;exact .inr (.inr (.inl ⟨a,ks,e1,e2,e3⟩))
 | nm=>obtain⟨a,th,ks,ds,e1,e2,_,e3,_⟩:=h;exact .inr (.inr (.inr ⟨a,th,ks,ds,e1,e2,e3⟩))
theorem Gd.rep(s:aF Z' H')(h:Gd K Z' H H' g d v):Rep K H' d v:=by
 rcases(h.pk (H3:=H))with h | ⟨a,vs,ds,rfl,rfl,e,r⟩ | ⟨a,ks,rfl,rfl,e⟩ | ⟨a,th,ks,ds,rfl,rfl,bs,vs,e,r,t⟩
 .exact Rep.mono s d h
 .exact⟨a,vs,rfl,cJ.of e,ar.mono s ds r⟩
 .exact⟨a,rfl,e.mono s (aF.refl _)⟩
 .exact⟨a,bs,vs,rfl,e,r.mono s,ar.mono s ds t⟩
theorem Gd.lst{ds:Yl}(s:aF Z' H')(h:Gd K Z' H H' g (.lst ds) v):∃a vs,v=.ref a/\cJ K H' a vs/\ar K Z' ds vs:=by
 rcases(h.pk (H3:=H))with ⟨a,vs,e,q,r⟩ | ⟨a,vs,ds',rfl,e,e2,r⟩ | ⟨_,_,_,e,_⟩ | ⟨_,_,_,_,_,e,_⟩
 .exact⟨a,vs,e,s.seq q,r⟩
 .cases e;exact⟨a,vs,rfl,cJ.of e2,r⟩
 .cases e
 .cases e
theorem Gd.mp(s:aF Z' H')(h:Gd K Z' H H' g (.mp th ks ds) v):∃a,v=.ref a/\yY K Z' H' a th ks ds:=by
 rcases(h.pk (H3:=H))with ⟨a,bs,vs,e,q,r,t⟩ | ⟨_,_,_,_,e,_⟩ | ⟨_,_,_,e,_⟩ | ⟨a,FK,ju,ds',rfl,e,q⟩
 .exact⟨a,e,bs,vs,s _ _ q,r,t⟩
 .cases e
 .cases e
 .cases e;exact⟨a,rfl,q⟩
theorem Gd.tup{ds:Yl}(s:aF Z' H')(h:Gd K Z' H H' g (.tup ds) v):∃a vs,v=.ref a/\cM K H' a vs/\ar K Z' ds vs:=by
 rcases(h.pk (H3:=H))with ⟨a,vs,e,q,r⟩ | ⟨a,vs,ds',rfl,e,e2,r⟩ | ⟨_,_,_,e,_⟩ | ⟨_,_,_,_,_,e,_⟩
 .exact⟨a,vs,e,dA s q,r⟩
 .cases e
 .cases e
 .cases e
theorem Gd.int{i:Int}(h:Gd K Z' H H' g (.int i) v):v=.int i:=by
 rcases(h.pk (H3:=H))with h | ⟨_,_,_,_,e,_⟩ | ⟨_,_,_,e,_⟩ | ⟨_,_,_,_,_,e,_⟩
 .exact h
 .cases e
 .cases e
 .cases e
theorem Gd.bl(h:Gd K Z' H H' g (.bl b) v):v=.bl b:=by
 rcases(h.pk (H3:=H))with h | ⟨_,_,_,_,e,_⟩ | ⟨_,_,_,e,_⟩ | ⟨_,_,_,_,_,e,_⟩
 .exact h
 .cases e
 .cases e
 .cases e
theorem Gd.later(x:Ex Z' H' Z2 H2)(h:Gd K Z' H H' g d v):Gd K Z2 H3 H2 .pk d v:=by
 rcases(h.pk (H3:=H))with h | ⟨a,vs,ds,e1,e2,e3,r⟩ | ⟨a,ks,e1,e2,e3⟩ | ⟨a,th,ks,ds,e1,e2,e3⟩
 .exact .inl (Rep.mono x.z d h)
 .exact .inr (.inl ⟨a,vs,ds,e1,e2,x.h _ _ e3,ar.mono x.z ds r⟩)
 .exact .inr (.inr (.inl ⟨a,ks,e1,e2,e3.mono x.z x.h⟩))
 .exact .inr (.inr (.inr ⟨a,th,ks,ds,e1,e2,e3.mono x.z x.h⟩))
end
inductive uE where
 | L (ds:List D) | T (ks:List (Int×Int)) | M (th:Str->Int) (ks:List (List Key)) (ds:List D)
def de(K:Fg)(Z:Hp)(a:Ye):uE->HO->Prop
 | .L ds,o=>∃vs,o=.lst vs/\ar K Z ds vs
 | .T ks,o=>∃bs,o=.ext (Kx a ks bs)/\jN K Z ks bs
 | .M th ks ds,o=>∃bs vs,o=.ext (bP th a ks bs vs)/\et K Z ks bs/\ar K Z ds vs
def uE.d:uE->D
 | .L ds=>.lst ds
 | .T ks=>.dct ks
 | .M th ks ds=>.mp th ks ds
theorem de.l{K:Fg}{Z:Hp}{a:Ye}{ds:Yl}{vs:Yn}(h:ar K Z ds vs):de K Z a (.L ds) (.lst vs):=⟨vs,rfl,h⟩
theorem de.mono{K:Fg}{Z Z':Hp}(s:aF Z Z'){a:Ye}{w:uE}{o:HO}(h:de K Z a w o):de K Z' a w o:=by
 cases w with
 | L ds=>obtain⟨vs,e,r⟩:=h;exact⟨vs,e,ar.mono s ds r⟩
 | T ks=>obtain⟨bs,e,r⟩:=h;exact⟨bs,e,r.mono s⟩
 | M th ks ds=>obtain⟨bs,vs,e,r,t⟩:=h;exact⟨bs,vs,e,r.mono s,ar.mono s ds t⟩
theorem de.rep{K:Fg}{Z:Hp}{w:uE}{o:HO}{a:Ye}(h:de K Z a w o)(e:Z a=some o):Rep K Z w.d (.ref a):=by
 cases w with
 | L ds=>obtain⟨vs,rfl,r⟩:=h;exact⟨a,vs,rfl,cJ.of e,r⟩
 | T ks=>obtain⟨bs,rfl,r⟩:=h;exact⟨a,rfl,bs,e,r⟩
 | M th ks ds=>obtain⟨bs,vs,rfl,r,t⟩:=h;exact⟨a,bs,vs,rfl,e,r,t⟩
theorem de.nf{K:Fg}{Z:Hp}{w:uE}{o:HO}{a:Ye}(h:de K Z a w o):NF o:=by
 cases w with
 | L ds=>obtain⟨vs,rfl,r⟩:=h;exact LY
 | T ks=>obtain⟨bs,rfl,r⟩:=h;exact N6
 | M th ks ds=>obtain⟨bs,vs,rfl,r,t⟩:=h;exact N6
inductive Slot where
 | un | F (d:D) | O (w:uE)
def sM(K:Fg)(Z H:Hp):Slot->Option V->Prop
 | .un,_=>True
 | .F d,x=>∃v,x=some v/\Rep K Z d v
 | .O w,x=>∃a o,x=some (.ref a)/\H a=some o/\Z a=none/\de K Z a w o
abbrev En:=List Slot
abbrev Yj:=En->Yk
structure Rl(K:Fg)(B Z H:Hp)(env:En)(σ:L2.St):Prop where
 bh:aF B H
 zh:aF Z H
 len:env.length=σ.length
 sl:∀(i:Nat) s,env[i]?=some s->∃x,σ[i]?=some x/\sM K Z H s x
 ob:∀(i:Nat) ds a,env[i]?=some (.O ds)->σ[i]?=some (some (.ref a))->B a=none
 ap:∀(i j:Nat) ds es a,i≠j->env[i]?=some (.O ds)->env[j]?=some (.O es)->σ[i]?=some (some (.ref a))->σ[j]?≠some (some (.ref a))
section
variable {K:Fg}{B Z H Z' H':Hp}{env:En}{σ:L2.St}
theorem sM.ext(e:Ex Z H Z' H')(h:sM K Z H s x):sM K Z' H' s x:=by
 cases s with
 | un=>trivial
 | F d=>obtain⟨v,e1,r⟩:=h;exact⟨v,e1,Rep.mono e.z d r⟩
 | O w=>obtain⟨a,o,e1,e2,e3,r⟩:=h;exact⟨a,o,e1,e.h _ _ e2,e.fr a (by rw[e2];simp) e3,r.mono e.z⟩
theorem Rl.ext(R:Rl K B Z H env σ)(e:Ex Z H Z' H'):Rl K B Z' H' env σ:=
 ⟨R.bh.trans e.h,e.zh,R.len,λi s h=>let ⟨x,h1,h2⟩:=R.sl i s h;⟨x,h1,h2.ext e⟩,R.ob,R.ap⟩
theorem Rl.setF(R:Rl K B Z H env σ)(i:Nat)(r:Rep K Z d v):Rl K B Z H (env.set i (.F d)) (σ.set i (some v)):=by
 refine⟨R.bh,R.zh,by simp[R.len],λj s h=>?_,λj ds a h h2=>?_,λj k ds es a hne h1 h2 h3 h4=>?_⟩
 .by_cases hj:i=j
  .subst hj
   by_cases hl:i<env.length
   .rw[t_ hl]at h;cases h;exact⟨some v,t_ (by rw[<- R.len];exact hl),v,rfl,r⟩
   .rw[T9 (by simpa using Ve hl)]at h;cases h
  .rw[i_ hj]at h ⊢;exact R.sl j s h
 .by_cases hj:i=j
  .subst hj
   by_cases hl:i<env.length
   .rw[t_ hl]at h;cases h
   .rw[T9 (by simpa using Ve hl)]at h;cases h
  .rw[i_ hj]at h h2;exact R.ob j ds a h h2
 .have Ij:∀{j:Nat}{ds:uE},(env.set i (.F d))[j]?=some (.O ds)->i≠j:=λ{j ds} h z=>by
   subst z
   by_cases hl:i<env.length
   .rw[t_ hl]at h;cases h
   .rw[T9 (by simpa using Ve hl)]at h;cases h
  have n1:=Ij h1;have n2:=Ij h2;rw[i_ n1]at h1 h3;rw[i_ n2]at h2 h4;exact R.ap j k ds es a hne h1 h2 h3 h4
theorem Rl.setO(R:Rl K B Z H env σ)(i:Nat)(hb:B a=none)(hz:Z a=none)(hh:H a=some vs)(r:de K Z a ds vs)
  (hn:∀(j:Nat) es,j≠i->env[j]?=some (.O es)->σ[j]?≠some (some (.ref a))):Rl K B Z H (env.set i (.O ds)) (σ.set i (some (.ref a))):=by
 have atI:∀{s:Slot},(env.set i (.O ds))[i]?=some s->s=.O ds/\(σ.set i (some (V.ref a)))[i]?=some (some (.ref a)):=λ{s} h=>by
  by_cases hl:i<env.length
  .rw[t_ hl]at h;cases h;exact⟨rfl,t_ (by rw[<- R.len];exact hl)⟩
  .rw[T9 (by simpa using Ve hl)]at h;cases h
 refine⟨R.bh,R.zh,by simp[R.len],λj s h=>?_,λj es b h h2=>?_,λj k es fs b hne h1 h2 h3 h4=>?_⟩
 .by_cases hj:i=j
  .subst hj;obtain⟨e1,e2⟩:=atI h;subst e1;exact⟨_,e2,a,vs,rfl,hh,hz,r⟩
  .rw[i_ hj]at h ⊢;exact R.sl j s h
 .by_cases hj:i=j
  .subst hj;obtain⟨_,e2⟩:=atI h;rw[e2]at h2;cases h2;exact hb
  .rw[i_ hj]at h h2;exact R.ob j es b h h2
 .by_cases hj:i=j
  .subst hj;obtain⟨_,e2⟩:=atI h1;rw[e2]at h3;cases h3;rw[i_ hne]at h2 h4;exact hn k fs (UB hne) h2 h4
  .by_cases hk:i=k
   .subst hk;obtain⟨_,e2⟩:=atI h2;rw[e2]at h4;cases h4;rw[i_ hj]at h1 h3;exact hn j es (UB hj) h1 h3
   .rw[i_ hj]at h1 h3;rw[i_ hk]at h2 h4;exact R.ap j k es fs b hne h1 h2 h3 h4
theorem Rl.wr(R:Rl K B Z H env σ)(hi:env[i]?=some (.O ds))(ha:σ[i]?=some (some (.ref a)))(r:de K Z a es vs) :
  Rl K B Z (upd H a vs) (env.set i (.O es)) σ/\Ex Z B Z (upd H a vs):=by
 have hb:=R.ob i ds a hi ha;obtain⟨x,e1,b,us,e2,e3,hz,_⟩:=R.sl i _ hi;rw[ha]at e1;cases e1;cases e2;have hl:i<env.length:=(k_.mp hi).1;have sb:aF B (upd H a vs):=c6 R.bh hb;have sz:aF Z (upd H a vs):=c6 R.zh hz;refine⟨⟨sb,sz,by simp[R.len],λj s h=>?_,λj fs b h h2=>?_,λj k fs gs b hne h1 h2 h3 h4=>?_⟩,⟨sb,aF.refl _,sz,λ_ _ e=>e,λ_ _ _ h=>h⟩⟩
 .by_cases hj:i=j
  .subst hj;rw[t_ hl]at h;cases h;exact⟨_,ha,a,vs,rfl,ay,hz,r⟩
  .rw[i_ hj]at h;obtain⟨x,e1,q⟩:=R.sl j s h;refine⟨x,e1,?_⟩;cases s with
   | un=>trivial
   | F d=>exact q
   | O fs=>
    obtain⟨b,CH,e4,e5,e6,q⟩:=q;refine⟨b,CH,e4,?_,e6,q⟩;rw[aB (λz=>?_)]
    .exact e5
    .subst z;subst e4;exact R.ap i j ds fs b hj hi h ha e1
 .by_cases hj:i=j
  .subst hj;rw[ha]at h2;cases h2;exact hb
  .rw[i_ hj]at h;exact R.ob j fs b h h2
 .have old:∀{j:Nat}{fs:uE},(env.set i (.O es))[j]?=some (.O fs)->∃Of,env[j]?=some (.O Of):=λ{j fs} h=>by
   by_cases hj:i=j
   .subst hj;exact⟨ds,hi⟩
   .rw[i_ hj]at h;exact⟨fs,h⟩
  obtain⟨Of,Lr⟩:=old h1;obtain⟨gs',h2'⟩:=old h2;exact R.ap j k Of gs' b hne Lr h2' h3 h4
theorem Rl.frz{ds:uE}(R:Rl K B Z H env σ){i:Nat}(hi:env[i]?=some (.O ds)):∃Z',Rl K B Z' H (env.set i (.F ds.d)) σ/\Ex Z B Z' H:=by
 obtain⟨x,e1,a,vs,e2,e3,hz,r⟩:=R.sl i _ hi;subst e2;have hb:=R.ob i ds a hi e1;have hl:i<env.length:=(k_.mp hi).1;have s1:aF Z (upd Z a vs):=df hz;have s2:aF (upd Z a vs) H:=mh R.zh e3;refine⟨upd Z a vs,⟨R.bh,s2,by simp[R.len],λj s h=>?_,λj fs b h h2=>?_,λj k fs gs b hne h1 h2 h3 h4=>?_⟩,⟨R.bh,s1,s2,λb hbn e=>?_,mV (λ_ _ _ h=>h) r.nf⟩⟩
 .by_cases hj:i=j
  .subst hj;rw[t_ hl]at h;cases h;exact⟨_,e1,_,rfl,(r.mono s1).rep ay⟩
  .rw[i_ hj]at h;obtain⟨y,e4,q⟩:=R.sl j s h;refine⟨y,e4,?_⟩;cases s with
   | un=>trivial
   | F d=>obtain⟨v,e5,q⟩:=q;exact⟨v,e5,Rep.mono s1 d q⟩
   | O fs=>
    obtain⟨b,CH,e5,e6,e7,q⟩:=q;refine⟨b,CH,e5,e6,?_,q.mono s1⟩;rw[aB (λz=>?_)]
    .exact e7
    .subst z;subst e5;exact R.ap i j ds fs b hj hi h e1 e4
 .by_cases hj:i=j
  .subst hj;rw[t_ hl]at h;cases h
  .rw[i_ hj]at h;exact R.ob j fs b h h2
 .have Ij:∀{j:Nat}{es:uE},(env.set i (.F ds.d))[j]?=some (.O es)->i≠j:=λ{j es} h z=>by
   subst z;rw[t_ hl]at h;cases h
  have n1:=Ij h1;have n2:=Ij h2;rw[i_ n1]at h1;rw[i_ n2]at h2;exact R.ap j k fs gs b hne h1 h2 h3 h4
 .rw[aB (λz=>hbn (by rw[z];exact hb))];exact e
end
abbrev Fe:=En->Ym
abbrev Fb:=En->Option Bool
abbrev Yt:Fb:=λ_=>some true
abbrev Fes:=En->Yk
def T(K:Fg)(g:Gr)(f:Fe):TE:=λσ H Q=>∃env B Z d,Rl K B Z H env σ/\f env=some d/\∀v Z' H',Ex Z H Z' H'->Gd K Z' H H' g d v->Q v H'
def TB(K:Fg)(f:Fb):TT:=λσ H Q=>∃env B Z b,Rl K B Z H env σ/\f env=some b/\∀Z' H',Ex Z H Z' H'->Q b H'
def TL(K:Fg)(f:Fes):TA:=λσ H Q=>∃env B Z ds,Rl K B Z H env σ/\f env=some ds/\∀vs Z' H',Ex Z H Z' H'->ar K Z' ds vs->Q vs H'
def PD(X:Cx)(g:Gr)(e:Yf)(f:Fe):Prop:=PE X e (T X.K g f)
def PB(X:Cx)(e:Yf)(f:Fb):Prop:=PT X e (TB X.K f)
def KD(X:Cx)(e:Yf)(f:Fb):Prop:=PW X e (TB X.K f)
structure PL(X:Cx)(es:List Expr)(f:Fes):Prop where
 p:PA X es (TL X.K f)
 l:∀env ds,f env=some ds->ds.length=es.length
section
variable {X:Cx}
theorem PE.imp(h:PE X e t)(i:∀σ H Q,t' σ H Q->t σ H Q):PE X e t':=λpins s σ H Q I q=>h pins s σ H Q I (i σ H Q q)
theorem PT.imp(h:PT X e t)(i:∀σ H Q,t' σ H Q->t σ H Q):PT X e t':=λpins s σ H Q I q=>h pins s σ H Q I (i σ H Q q)
theorem PW.imp(h:PW X e t)(i:∀σ H Q,t' σ H Q->t σ H Q):PW X e t':=λwh pins s σ H Q I q=>h wh pins s σ H Q I (i σ H Q q)
theorem PA.imp(h:PA X e t)(i:∀σ H Q,t' σ H Q->t σ H Q):PA X e t':=λpos pins s σ H Q I q=>h pos pins s σ H Q I (i σ H Q q)
def fC(d:D):Fe:=λ_=>some d
abbrev Ys:Fe:=fC (.int 4)
abbrev Yr:Fe:=fC (.int 3)
abbrev Yq:Fe:=fC (.int 2)
abbrev Yp:Fe:=fC (.int 1)
abbrev Yo:Fe:=fC (.int 0)
theorem GP{K:Fg}{g:D}{v:V}{σ:L2.St}{H:Hp}{Q:VK}(h:T K .cl (fC g) σ H Q)(r:∀Z,Rep K Z g v):Q v H:=by
 obtain⟨env,B,Z,d,R,e,k⟩:=h;cases e;exact k v Z H (Ex.refl R.zh) (r Z)
theorem ai{i j pos}:PD X .cl (.Constant (.int i) j pos) (fC (.int i)):=PE.imp DS λ_ _ _ h=>GP h λ_=>rfl
theorem mH{b j pos}:PD X .cl (.Constant (.bool b) j pos) (fC (.bl b)):=PE.imp NC λ_ _ _ h=>GP h λ_=>rfl
theorem cq{x j pos}(hk:PyData.strOk x=true:=by decide +kernel):PD X .cl (.Constant (.str x) j pos) (fC (.str x)):=PE.imp KH λ_ _ _ h=>GP h λ_=>⟨rfl,hk⟩
theorem xE(hm:X.mg x=some u)(rv:RelV v u)(r:∀Z,Rep X.K Z d v)(hg:Gl X x:=by rfl)(hd:(x==("__debug__":Str))=false:=by decide) :
  PD X .cl (.Name x pos) (fC d):=PE.imp (HA hg hm rv hd) λ_ _ _ h=>GP h r
def cy(env:En)(i:Nat):Ym:=match env[i]? with | some (.F d)=>some d | _=>none
def CN(env:En)(i:Nat):Ym:=match env[i]? with | some (.F d)=>some d | some (.O w)=>some w.d | _=>none
theorem aa(i:Nat)(hN:X.N[i]?=some x:=by rfl)(hv:uL X.env.scope x:=by first | exact Or.inl rfl | exact Or.inr (Or.inl rfl) | exact Or.inr (Or.inr rfl))(hd:(x==("__debug__":Str))=false:=by decide)
  (lV:(x==("__classdict__":Str))=false:=by decide):PD X .cl (.Name x pos) (λenv=>cy env i):=PE.imp (du hN hv hd lV) λσ H Q h=>by
 obtain⟨env,B,Z,d,R,e,k⟩:=h;dsimp only[cy]at e
 split at e
 .rename_i d' h1;cases e;obtain⟨x,h2,v,h3,r⟩:=R.sl i _ h1;subst h3;exact⟨v,h2,k v Z H (Ex.refl R.zh) r⟩
 .cases e
theorem PX(i:Nat)(hN:X.N[i]?=some x:=by rfl)(hv:uL X.env.scope x:=by first | exact Or.inl rfl | exact Or.inr (Or.inl rfl) | exact Or.inr (Or.inr rfl))(hd:(x==("__debug__":Str))=false:=by decide)
  (lV:(x==("__classdict__":Str))=false:=by decide):PD X .pk (.Name x pos) (λenv=>CN env i):=PE.imp (du hN hv hd lV) λσ H Q h=>by
 obtain⟨env,B,Z,d,R,e,k⟩:=h;dsimp only[CN]at e
 split at e
 .rename_i d' h1;cases e;obtain⟨x,h2,v,h3,r⟩:=R.sl i _ h1;subst h3;exact⟨v,h2,k v Z H (Ex.refl R.zh) (.inl r)⟩
 .rename_i ds h1;cases e;obtain⟨x,h2,a,vs,h3,h4,h5,r⟩:=R.sl i _ h1;subst h3;refine⟨_,h2,k _ Z H (Ex.refl R.zh) ?_⟩;cases ds with
  | L ds=>obtain⟨us,rfl,r⟩:=r;exact .inr (.inl ⟨a,us,ds,rfl,rfl,h4,r⟩)
  | T ks=>obtain⟨bs,rfl,r⟩:=r;exact .inr (.inr (.inl ⟨a,ks,rfl,rfl,bs,h4,r⟩))
  | M th ks ds=>obtain⟨bs,vs,rfl,r,t⟩:=r;exact .inr (.inr (.inr ⟨a,th,ks,ds,rfl,rfl,bs,vs,h4,r,t⟩))
 .cases e
theorem bT(h:PD X .nw e f):PD X .cl e f:=PE.imp h λσ H Q aG=>by
 obtain⟨env,B,Z,d,R,e,k⟩:=aG;refine⟨env,B,Z,d,R,e,λv Z' H' x g=>?_⟩;obtain⟨a,vs,ds,rfl,rfl,h1,h2,h3,r⟩:=g;have s1:aF Z' (upd Z' a (.lst vs)):=df h3;exact k _ (upd Z' a (.lst vs)) H' ⟨x.h,x.z.trans s1,mh x.zh h2,λb hb e=>by rw[aB (λz=>hb (by rw[z];exact h1))];exact x.fr b hb e,mV x.nf LY⟩ ⟨a,vs,rfl,cJ.of ay,ar.mono s1 ds r⟩
theorem EI(h:PD X .nm e f):PD X .cl e f:=PE.imp h λσ H Q aG=>by
 obtain⟨env,B,Z,d,R,e,k⟩:=aG;refine⟨env,B,Z,d,R,e,λv Z' H' x g=>?_⟩;obtain⟨a,th,ks,ds,rfl,rfl,h1,⟨bs,vs,h2,hp,r⟩,h3⟩:=g;have s1:aF Z' (upd Z' a (.ext (bP th a ks bs vs))):=df h3;exact k _ (upd Z' a (.ext (bP th a ks bs vs))) H' ⟨x.h,x.z.trans s1,mh x.zh h2,λb hb e=>by rw[aB (λz=>hb (by rw[z];exact h1))];exact x.fr b hb e,mV x.nf N6⟩ ⟨a,bs,vs,rfl,ay,hp.mono s1,ar.mono s1 ds r⟩
def fNil:Fes:=λ_=>some []
def ab(f:Fe)(fs:Fes):Fes:=λenv=>(f env).bind λd=>(fs env).bind λds=>some (d::ds)
theorem ao:PL X [] fNil:=⟨PA.imp dX λσ H Q ⟨env,B,Z,ds,R,e,k⟩=>by cases e;exact k [] Z H (Ex.refl R.zh) rfl,λenv ds e=>by cases e;rfl⟩
theorem pC(h:ab f fs env=some ds):∃d r,f env=some d/\fs env=some r/\ds=d::r:=by
 unfold ab at h;refine cC λ_ kq=>?_;obtain⟨d,h1,h2⟩:=a_.mp h;obtain⟨r,h3,h4⟩:=a_.mp h2;cases h4;exact kq (⟨d,r,h1,h3,rfl⟩)
theorem ae(h:PD X .cl e f)(hs:PL X es fs)(hst:starEach (e::es) X.env=(false,eval e X.env)::starEach es X.env:=by rfl):PL X (e::es) (ab f fs):=by
 refine⟨PA.imp (bL h hs.p hst) λσ H Q ⟨env,B,Z,ds,R,e,k⟩=>?_,λenv ds e=>?_⟩
 .obtain⟨d,r,h1,h2,rfl⟩:=pC e;refine⟨env,B,Z,d,R,h1,λv Z1 H1 x1 g1=>⟨env,B,Z1,r,R.ext x1,h2,λvs Z2 H2 x2 g2=>?_⟩⟩;exact k (v::vs) Z2 H2 (x1.trans x2) ⟨v,vs,rfl,Rep.mono x2.z d g1,g2⟩
 .obtain⟨d,r,h1,h2,rfl⟩:=pC e;simp[hs.l env r h2]
def bq(fs:Fes):Fe:=λenv=>(fs env).bind λds=>some (.tup ds)
def b8(fs:Fes):Fe:=λenv=>(fs env).bind λds=>some (.lst ds)
theorem a6{x1 pos}(h:PL X es fs)(hl:es.length<=1000:=by decide):PD X .cl (.Tuple es x1 pos) (bq fs):=PE.imp (Lb h.p) λσ H Q aG=>by
 refine cC λ_ kq=>?_;obtain⟨env,B,Z,d,R,e,k⟩:=aG;obtain⟨ds,h1,h2⟩:=a_.mp e;cases h2;refine kq (⟨env,B,Z,ds,R,h1,λvs Z1 H1 x1 r=>⟨?_,λp hp=>?_⟩⟩)
 all_goals clear kq
 .rw[<- r.len,h.l env ds h1];exact VY (rH hl)
 .have s1:aF Z1 (upd Z1 p (.tup vs)):=df (x1.zh.free hp);exact k _ (upd Z1 p (.tup vs)) _ (x1.trans (Ex.new x1.zh hp)) ⟨p,vs,rfl,cM.of ay,ar.mono s1 ds r⟩
theorem cg{pos}(h:PL X es fs)(hl:es.length<=1000:=by decide):PD X .nw (.List es pos) (b8 fs):=PE.imp (Jx h.p) λσ H Q aG=>by
 refine cC λ_ kq=>?_;obtain⟨env,B,Z,d,R,e,k⟩:=aG;obtain⟨ds,h1,h2⟩:=a_.mp e;cases h2;refine kq (⟨env,B,Z,ds,R,h1,λvs Z1 H1 x1 r=>⟨?_,λp hp=>?_⟩⟩)
 all_goals clear kq
 .rw[<- r.len,h.l env ds h1];exact VY (rH hl)
 .exact k _ Z1 _ (x1.trans (Ex.newL x1.zh hp)) ⟨p,vs,ds,rfl,rfl,x1.h.free hp,ay,x1.zh.free hp,r⟩
theorem nz[Decidable c](h:(if c then some a else none)=some d):c/\a=d:=by
 by_cases hc:c
 .rw[j_ hc]at h;exact⟨hc,Option.some.inj h⟩
 .rw[h_ hc]at h;cases h
def aq(b:D->D->Ym)(fa fb:Fe):Fe:=λenv=>(fa env).bind λx=>(fb env).bind λy=>b x y
theorem oN(h:aq b fa fb env=some d):∃x y,fa env=some x/\fb env=some y/\b x y=some d:=by
 unfold aq at h;refine cC λ_ kq=>?_;obtain⟨x,h1,h2⟩:=a_.mp h;obtain⟨y,h3,h4⟩:=a_.mp h2;exact kq (⟨x,y,h1,h3,h4⟩)
theorem Gd.frm{K:Fg}{Z' H0 H H':Hp}{g:Gr}{d:D}{v:V}(s:aF H0 H)(h:Gd K Z' H H' g d v):Gd K Z' H0 H' g d v:=by
 cases g with
 | pk=>exact h
 | cl=>exact h
 | nw=>obtain⟨a,vs,ds,e1,e2,e3,e4⟩:=h;exact⟨a,vs,ds,e1,e2,s.free e3,e4⟩
 | nd=>obtain⟨a,ks,e1,e2,e3,e4⟩:=h;exact⟨a,ks,e1,e2,s.free e3,e4⟩
 | nm=>obtain⟨a,th,ks,ds,e1,e2,e3,e4⟩:=h;exact⟨a,th,ks,ds,e1,e2,s.free e3,e4⟩
def cU(K:Fg)(g:Gr)(b:D->D->Ym)(r:R2):Prop:=
 ∀{Z H:Hp}{x y:V}{dx dy d:D}{Q:VK},aF Z H->Gd K Z H H .pk dx x->Gd K Z H H .pk dy y->b dx dy=some d->(∀v Z' H',Ex Z H Z' H'->Gd K Z' H H' g d v->Q v H')->r x y H Q
theorem jE{K:Fg}{g ga gb:Gr}{b:D->D->Ym}{r:R2}(hb:cU K g b r){fa fb:Fe}{σ:L2.St}{H:Hp}{Q:VK}(h:T K g (aq b fa fb) σ H Q):LV r (T K ga fa) (T K gb fb) σ H Q:=by
 refine cC λ_ kq=>?_;obtain⟨env,B,Z,d,R,e,k⟩:=h;obtain⟨dx,dy,h1,h2,h3⟩:=oN e;refine kq (⟨env,B,Z,dx,R,h1,λv Z1 H1 x1 g1=>⟨env,B,Z1,dy,R.ext x1,h2,λu Z2 H2 x2 g2=>?_⟩⟩)
 all_goals clear kq
 refine hb x2.zh (g1.later x2) (show Gd K Z2 H2 H2 .pk dy u from g2.pk) h3 λw Z3 H3 x3 g3=>?_;exact k w Z3 H3 ((x1.trans x2).trans x3) (Gd.frm (x1.h.trans x2.h) g3)
theorem vf(ho:jw X (binaryOp op) r)(hd:cU X.K g b r)(ha:PD X ga l fa)(hb:PD X gb rr fb) :
  PD X g (.BinOp l op rr pos) (aq b fa fb):=PE.imp (Je ho ha hb) λ_ _ _ h=>jE hd h
theorem r9(ho:jw X (compareOp op) r)(hd:cU X.K g b r)(ha:PD X ga l fa)(hb:PD X gb rr fb)(hm:behindInMarks op rr=false:=by rfl) :
  PD X g (.Compare l [op] [rr] pos) (aq b fa fb):=PE.imp (FW ho ha hb hm) λ_ _ _ h=>jE hd h
def So:D->Option Bool
 | .bl b=>some b
 | _=>none
def fB(f:Fe):Fb:=λenv=>(f env).bind So
theorem De(h:So d=some b):d=.bl b:=by
 cases d<;>cases h;rfl
theorem IK{K:Fg}{g:Gr}{f:Fe}{σ:L2.St}{H:Hp}{Q:Bool->Hp->Prop}(h:TB K (fB f) σ H Q):T K g f σ H (λx H'=>∃k,x=.bl k/\Q k H'):=by
 refine cC λ_ kq=>?_;obtain⟨env,B,Z,b,R,e,k⟩:=h;obtain⟨d,h1,h2⟩:=a_.mp e;cases De h2;exact kq (⟨env,B,Z,_,R,h1,λv Z' H' x g=>⟨b,g.bl,k Z' H' x⟩⟩)
theorem ja(ho:jw X (compareOp op) r)(hd:cU X.K .cl b r)(ha:PD X ga l fa)(hb:PD X gb rr fb)(hm:behindInMarks op rr=false:=by rfl) :
  PB X (.Compare l [op] [rr] pos) (fB (aq b fa fb)):=PT.imp (FV ho ha hb hm) λ_ _ _ h=>jE hd (IK h)
theorem gW(h:PD X g e f)(he:∀whole,isTrue e X.env whole=(do let v <- whole;standAt e.pos;holding [v] (truthy v)):=by intro _;rfl):PB X e (fB f):=
 PT.imp (J6 h he) λ_ _ _ h=>IK h
def iF(g:Int->Int->D):D->D->Ym
 | .int i,.int j=>some (g i j)
 | _,_=>none
theorem k6{K:Fg}{g:Int->Int->V}{g':Int->Int->D}(hg:∀Z i j,Rep K Z (g' i j) (g i j)):cU K .cl (iF g') (B4 g):=λ{Z H x y dx dy d Q} s h1 h2 e k=>by
 cases dx<;>try cases e
 all_goals (cases dy<;>cases e)
 exact⟨_,_,h1.int,h2.int,k _ Z H (Ex.refl s) (hg _ _ _)⟩
def Nl(c:Int->Int->Bool)(g:Int->Int->D):D->D->Ym
 | .int i,.int j=>if c i j then some (g i j)else none
 | _,_=>none
theorem ua{K:Fg}{C:Int->Int->Prop}{c:Int->Int->Bool}{g:Int->Int->V}{g':Int->Int->D}(hc:∀i j,c i j=true->C i j)(hg:∀Z i j,Rep K Z (g' i j) (g i j)):cU K .cl (Nl c g') (rI C g):=λ{Z H x y dx dy d Q} s h1 h2 e k=>by
 cases dx<;>try cases e
 all_goals (cases dy<;>try cases e)
 rename_i i j;have e':(if c i j=true then some (g' i j)else none)=some d:=e
 by_cases AK:c i j=true
 .rw[j_ AK]at e';cases e';exact⟨_,_,h1.int,h2.int,hc _ _ AK,k _ Z H (Ex.refl s) (hg _ _ _)⟩
 .rw[h_ AK]at e';cases e'
abbrev addI:=iF λi j=>.int (i+j)
abbrev subI:=iF λi j=>.int (i-j)
abbrev ltI:=iF λi j=>.bl (decide (i<j))
abbrev leI:=iF λi j=>.bl (decide (i<=j))
abbrev gtI:=iF λi j=>.bl (decide (j<i))
def big(i:Int):Bool:=decide (i.natAbs<2 ^ 4096)
abbrev mulI:=Nl (λi j=>(big i&&big j)) λi j=>.int (i*j)
abbrev fdivI:=Nl (λ_ j=>decide (0<j/\j<1073741824)) λi j=>.int (i/j)
abbrev modI:=Nl (λ_ j=>decide (0<j)) λi j=>.int (i%j)
abbrev powI:=Nl (λi j=>big i&&decide (0<=j/\j<=1000)) λi j=>.int (i ^ j.toNat)
theorem Nt{K:Fg}:cU K .cl addI (B4 λi j=>.int (i+j)):=k6 (by intro _ _ _;rfl)
theorem NI{K:Fg}:cU K .cl subI (B4 λi j=>.int (i-j)):=k6 (by intro _ _ _;rfl)
theorem JB{K:Fg}:cU K .cl ltI (B4 λi j=>.bl (decide (i<j))):=k6 (by intro _ _ _;rfl)
theorem BC{K:Fg}:cU K .cl leI (B4 λi j=>.bl (decide (i<=j))):=k6 (by intro _ _ _;rfl)
theorem MV{K:Fg}:cU K .cl gtI (B4 λi j=>.bl (decide (j<i))):=k6 (by intro _ _ _;rfl)
theorem Kt{K:Fg}:cU K .cl fdivI (rI Ny λi j=>.int (i/j)):=ua (λi j h=>Uj h) (by intro _ _ _;rfl)
theorem Md{K:Fg}:cU K .cl modI (rI (λ_ j=>0<j) λi j=>.int (i%j)):=ua (λi j h=>Uj h) (by intro _ _ _;rfl)
theorem oD(h:big i=true):Builtin.Int.intBits i<=4096:=by
 have h':i.natAbs<2 ^ 4096:=Uj h;unfold Builtin.Int.intBits
 split
 .lia
 .rename_i hz;have hn:i.natAbs≠0:=by simpa using hz
  have:=(Nat.log2_lt hn).mpr h'
  lia
def IW(i j:Int):Prop:=big i=true/\big j=true
theorem FM:jw X (binaryOp .Mult) (rI IW λi j=>.int (i*j)):=Pc λ_ _ _ _ _ _ _ hc q=>mul_int q (.of_bits (G_ (oD hc.1) (by decide)) (G_ (oD hc.2) (by decide)))
theorem MZ{K:Fg}:cU K .cl mulI (rI IW λi j=>.int (i*j)):=ua (λi j h=>by
 simp only[C_]at h;exact h) (by intro _ _ _;rfl)
def Iw(i j:Int):Prop:=big i=true/\0<=j/\j<=1000
theorem Gy:jw X (binaryOp .Pow) (rI Iw λi j=>.int (i ^ j.toNat)):=Pc λi j _ _ _ _ _ hc q=>pow_int hc.2.1 (by
 have h1:(Builtin.Int.intBits i:Int)<=4096:=by have:=oD hc.1;lia
 have h2:(Builtin.Int.intBits i:Int)*j<=4096*1000:=Int.mul_le_mul h1 hc.2.2 hc.2.1 (by decide);exact WD h2 (by decide)) q
theorem Nq{K:Fg}:cU K .cl powI (rI Iw λi j=>.int (i ^ j.toNat)):=ua (λi j h=>by
 simp only[C_,w_]at h;exact⟨h.1,h.2.1,h.2.2⟩) (by intro _ _ _;rfl)
variable {l r c:Yf}{fa fb fc:Fe}{ga gb gc:Gr}{pos:Pos}
theorem be(ha:PD X ga l fa)(hb:PD X gb r fb):PD X .cl (.BinOp l .Add r pos) (aq addI fa fb):=vf Kn Nt ha hb
theorem iH(ha:PD X ga l fa)(hb:PD X gb r fb):PD X .cl (.BinOp l .Sub r pos) (aq subI fa fb):=vf Js NI ha hb
theorem rY(ha:PD X ga l fa)(hb:PD X gb r fb):PD X .cl (.BinOp l .Mult r pos) (aq mulI fa fb):=vf FM MZ ha hb
theorem Do(ha:PD X ga l fa)(hb:PD X gb r fb):PD X .cl (.BinOp l .FloorDiv r pos) (aq fdivI fa fb):=vf Gu Kt ha hb
theorem cV(ha:PD X ga l fa)(hb:PD X gb r fb):PD X .cl (.BinOp l .Mod r pos) (aq modI fa fb):=vf K4 Md ha hb
theorem zX(ha:PD X ga l fa)(hb:PD X gb r fb):PD X .cl (.BinOp l .Pow r pos) (aq powI fa fb):=vf Gy Nq ha hb
theorem M4(ha:PD X ga l fa)(hb:PD X gb r fb):PD X .cl (.Compare l [.LtE] [r] pos) (aq leI fa fb):=r9 rp BC ha hb (eQ _)
theorem Hy(ha:PD X ga l fa)(hb:PD X gb r fb):PD X .cl (.Compare l [.Gt] [r] pos) (aq gtI fa fb):=r9 IH MV ha hb (eQ _)
theorem Qt(ha:PD X ga l fa)(hb:PD X gb r fb):PB X (.Compare l [.Lt] [r] pos) (fB (aq ltI fa fb)):=ja Dn JB ha hb (eQ _)
theorem MH(ha:PD X ga l fa)(hb:PD X gb r fb):PB X (.Compare l [.LtE] [r] pos) (fB (aq leI fa fb)):=ja rp BC ha hb (eQ _)
theorem P7(ha:PD X ga l fa)(hb:PD X gb r fb):PB X (.Compare l [.Gt] [r] pos) (fB (aq gtI fa fb)):=ja IH MV ha hb (eQ _)
def bC(g:D->Ym)(f:Fe):Fe:=λenv=>(f env).bind g
def nB:D->Ym
 | .int i=>some (.int (-i))
 | _=>none
theorem m7(ha:PD X ga l fa):PD X .cl (.UnaryOp .USub l pos) (bC nB fa):=PE.imp (IM DW ha) λσ H Q aG=>by
 refine cC λ_ kq=>?_;obtain⟨env,B,Z,d,R,e,k⟩:=aG;obtain⟨x,h1,h2⟩:=a_.mp e;refine kq (⟨env,B,Z,x,R,h1,λv Z1 H1 x1 g1=>?_⟩)
 all_goals clear kq
 cases x<;>cases h2;exact⟨_,g1.int,k _ Z1 H1 x1 rfl⟩
def me(f g:Fe):Fe:=λenv=>(f env).bind λx=>match x with | .bl true=>g env | .bl false=>some (.bl false) | _=>none
def K8(f g:Fe):Fe:=λenv=>(f env).bind λx=>match x with | .bl true=>some (.bl true) | .bl false=>g env | _=>none
def Nd:D->Ym
 | .bl b=>some (.bl !b)
 | _=>none
variable {rest:X1}{fr:Fe}{gr:Gr}
theorem oO{op}(ha:PD X ga l fa):PD X ga (.BoolOp op [l] pos) fa:=JX ha
theorem mQ(ha:PD X ga l fa)(hb:PD X .cl (.BoolOp .And (r::rest) pos) fr):PD X .cl (.BoolOp .And (l::r::rest) pos) (me fa fr):=PE.imp (Kf ha hb) λσ H Q aG=>by
 refine cC λ_ kq=>?_;obtain⟨env,B,Z,d,R,e,k⟩:=aG;obtain⟨x,h1,h2⟩:=a_.mp e;refine kq (⟨env,B,Z,x,R,h1,λv Z1 H1 x1 g1=>?_⟩)
 all_goals clear kq
 cases x with
 | bl b=>
  refine⟨b,g1.bl,?_⟩;cases b with
  | true=>exact yr ⟨env,B,Z1,d,R.ext x1,h2,λu Z2 H2 x2 g2=>k u Z2 H2 (x1.trans x2) g2⟩
  | false=>cases h2;exact yT (k _ Z1 H1 x1 rfl)
 | _=>cases h2
theorem M9(ha:PD X ga l fa)(hb:PD X .cl (.BoolOp .Or (r::rest) pos) fr):PD X .cl (.BoolOp .Or (l::r::rest) pos) (K8 fa fr):=PE.imp (N' ha hb) λσ H Q aG=>by
 refine cC λ_ kq=>?_;obtain⟨env,B,Z,d,R,e,k⟩:=aG;obtain⟨x,h1,h2⟩:=a_.mp e;refine kq (⟨env,B,Z,x,R,h1,λv Z1 H1 x1 g1=>?_⟩)
 all_goals clear kq
 cases x with
 | bl b=>
  refine⟨b,g1.bl,?_⟩;cases b with
  | false=>exact yT ⟨env,B,Z1,d,R.ext x1,h2,λu Z2 H2 x2 g2=>k u Z2 H2 (x1.trans x2) g2⟩
  | true=>cases h2;exact yr (k _ Z1 H1 x1 rfl)
 | _=>cases h2
theorem NY(ha:PD X ga l fa):PD X .cl (.UnaryOp .Not l pos) (bC Nd fa):=PE.imp (JD ha) λσ H Q aG=>by
 refine cC λ_ kq=>?_;obtain⟨env,B,Z,d,R,e,k⟩:=aG;obtain⟨x,h1,h2⟩:=a_.mp e;refine kq (⟨env,B,Z,x,R,h1,λv Z1 H1 x1 g1=>?_⟩)
 all_goals clear kq
 cases x<;>cases h2;exact⟨_,g1.bl,k _ Z1 H1 x1 rfl⟩
def tP(f g:Fb):Fb:=λenv=>(f env).bind λx=>if x=true then g env else some false
def CG(f g:Fb):Fb:=λenv=>(f env).bind λx=>if x=true then some true else g env
def kF(f:Fb):Fb:=λenv=>(f env).bind λx=>some !x
variable {ta tb:Fb}
theorem yS(ha:PB X l ta):KD X (.BoolOp .And [l] pos) ta:=HB ha
theorem zy(ha:PB X l ta):KD X (.BoolOp .Or [l] pos) ta:=JM ha
theorem w_and(ha:PB X l ta)(hb:KD X (.BoolOp .And (r::rest) pos) tb):KD X (.BoolOp .And (l::r::rest) pos) (tP ta tb):=PW.imp (Kl ha hb) λσ H Q aG=>by
 refine cC λ_ kq=>?_;obtain⟨env,B,Z,d,R,e,k⟩:=aG;obtain⟨x,h1,h2⟩:=a_.mp e;refine kq (⟨env,B,Z,x,R,h1,λZ1 H1 x1=>?_⟩)
 all_goals clear kq
 cases x with
 | true=>rw[j_ rfl]at h2;exact yr ⟨env,B,Z1,d,R.ext x1,h2,λZ2 H2 x2=>k Z2 H2 (x1.trans x2)⟩
 | false=>rw[h_ (by simp)]at h2;cases h2;exact yT (k Z1 H1 x1)
theorem w_or(ha:PB X l ta)(hb:KD X (.BoolOp .Or (r::rest) pos) tb):KD X (.BoolOp .Or (l::r::rest) pos) (CG ta tb):=PW.imp (Ms ha hb) λσ H Q aG=>by
 refine cC λ_ kq=>?_;obtain⟨env,B,Z,d,R,e,k⟩:=aG;obtain⟨x,h1,h2⟩:=a_.mp e;refine kq (⟨env,B,Z,x,R,h1,λZ1 H1 x1=>?_⟩)
 all_goals clear kq
 cases x with
 | false=>rw[h_ (by simp)]at h2;exact yT ⟨env,B,Z1,d,R.ext x1,h2,λZ2 H2 x2=>k Z2 H2 (x1.trans x2)⟩
 | true=>rw[j_ rfl]at h2;cases h2;exact yr (k Z1 H1 x1)
theorem Kc(h:KD X l ta):PB X l ta:=PW.pt h
theorem k8(ha:PB X l ta):PB X (.UnaryOp .Not l pos) (kF ta):=PT.imp (KN ha) λσ H Q aG=>by
 refine cC λ_ kq=>?_;obtain⟨env,B,Z,d,R,e,k⟩:=aG;obtain⟨x,h1,h2⟩:=a_.mp e;cases h2;exact kq (⟨env,B,Z,x,R,h1,λZ1 H1 x1=>k Z1 H1 x1⟩)
def iteFn(t:Fb)(f g:Fe):Fe:=λenv=>(t env).bind λb=>if b=true then f env else g env
theorem v9(ht:PB X t ta)(ha:PD X g l fa)(hb:PD X g r fb):PD X g (.IfExp t l r pos) (iteFn ta fa fb):=PE.imp (uY ht ha hb) λσ H Q aG=>by
 refine cC λ_ kq=>?_;obtain⟨env,B,Z,d,R,e,k⟩:=aG;obtain⟨x,h1,h2⟩:=a_.mp e;refine kq (⟨env,B,Z,x,R,h1,λZ1 H1 x1=>?_⟩)
 all_goals clear kq
 cases x with
 | true=>rw[j_ rfl]at h2;exact yr ⟨env,B,Z1,d,R.ext x1,h2,λv Z2 H2 x2 g2=>k v Z2 H2 (x1.trans x2) (g2.frm x1.h)⟩
 | false=>rw[h_ (by simp)]at h2;exact yT ⟨env,B,Z1,d,R.ext x1,h2,λv Z2 H2 x2 g2=>k v Z2 H2 (x1.trans x2) (g2.frm x1.h)⟩
def KB(b b':D->D->Ym)(fa fb fc:Fe):Fe:=λenv=>(fa env).bind λx=>(fb env).bind λy=>(b x y).bind λz=>match z with
 | .bl true=>(fc env).bind λw=>b' y w
 | .bl false=>some (.bl false)
 | _=>none
theorem Hf{K:Fg}{b b':D->D->Ym}{r r':R2}(hb:cU K .cl b r)(uF:cU K .cl b' r'){σ:L2.St}{H:Hp}{Q:VK}(h:T K .cl (KB b b' fa fb fc) σ H Q):EH r r' (T K ga fa) (T K gb fb) (T K gc fc) σ H Q:=by
 refine cC λ_ kq=>?_;obtain⟨env,B,Z,d,R,e,k⟩:=h;obtain⟨dx,h1,e⟩:=a_.mp e;obtain⟨dy,h2,e⟩:=a_.mp e;obtain⟨dz,h3,e⟩:=a_.mp e;refine kq (⟨env,B,Z,dx,R,h1,λv Z1 H1 x1 g1=>⟨env,B,Z1,dy,R.ext x1,h2,λu Z2 H2 x2 g2=>?_⟩⟩)
 all_goals clear kq
 refine hb x2.zh (g1.later x2) (show Gd K Z2 H2 H2 .pk dy u from g2.pk) h3 λz Z3 H3 x3 g3=>?_;cases dz with
 | bl t=>
  refine⟨t,g3.bl,?_⟩;cases t with
  | false=>cases e;exact yT (k _ Z3 H3 ((x1.trans x2).trans x3) rfl)
  | true=>
   obtain⟨dw,h4,h5⟩:=a_.mp e;refine yr ⟨env,B,Z3,dw,((R.ext x1).ext x2).ext x3,h4,λw Z4 H4 x4 g4=>?_⟩;refine uF x4.zh (show Gd K Z4 H4 H4 .pk dy u from Gd.later x4 (Gd.later (H3:=H3) x3 g2)) (show Gd K Z4 H4 H4 .pk dw w from g4.pk) h5 λq Z5 H5 x5 g5=>?_;exact k q Z5 H5 (((x1.trans x2).trans x3).trans (x4.trans x5)) g5
 | _=>cases e
theorem uy(ho:jw X (compareOp op) r1)(Fl:jw X (compareOp op') r2)(hd:cU X.K .cl b r1)(H9:cU X.K .cl b' r2)(ha:PD X ga l fa)(hb:PD X gb r fb)(hc:PD X gc c fc)
  (hm:lastMarks [op,op'] [r,c]=false:=by with_unfolding_all rfl):PD X .cl (.Compare l [op,op'] [r,c] pos) (KB b b' fa fb fc):=PE.imp (D2 ho Fl ha hb hc hm) λ_ _ _ h=>Hf hd H9 h
end
section
variable {X:Cx}{l r c:Yf}{fa fb fc:Fe}{ga gb gc:Gr}{pos p:Pos}
def aK:D->D->Ym
 | .lst ds,.int i=>atI ds i
 | .tup ds,.int i=>atI ds i
 | _,_=>none
theorem ar.atI{K:Fg}{H:Hp}{ds:Yl}{vs:Yn}{i:Int}{d:D}(h:ar K H ds vs)(e:L2.atI ds i=some d):∃v,L2.atI vs i=some v/\Rep K H d v:=by
 unfold L2.atI at e ⊢;rw[<- h.len];refine cC λ_ kq=>?_;obtain⟨j,h1,h2⟩:=a_.mp e;obtain⟨v,h3,h4⟩:=h.get h2;exact kq (⟨v,by rw[h1];exact h3,h4⟩)
theorem Nz{K:Fg}:cU K .cl aK (λx y H Q=>M7 K x y H Q\/M5 K x y H Q):=λ{Z H x y dx dy d Q} s h1 h2 e k=>by
 cases dx<;>try cases e
 all_goals (cases dy<;>try cases e)
 .rename_i ds i;refine cC λ_ kq=>?_;obtain⟨a,vs,rfl,hq,rr⟩:=h1.tup s;obtain⟨v,e1,e2⟩:=rr.atI e;exact kq (.inr ⟨a,vs,i,v,rfl,h2.int,hq,e1,k v Z H (Ex.refl s) e2⟩)
 .rename_i ds i;refine cC λ_ kq=>?_;obtain⟨a,vs,rfl,hq,rr⟩:=h1.lst s;obtain⟨v,e1,e2⟩:=rr.atI e;exact kq (.inl ⟨a,vs,i,v,rfl,h2.int,hq,e1,k v Z H (Ex.refl s) e2⟩)
theorem aQ(ha:PD X ga l fa)(hb:PD X gb r fb)(hs:tm r:=by intro _ _;rfl):PD X .cl (.Subscript l r pos) (aq aK fa fb):=PE.imp (IY (zJ.or Kb) ha hb hs) λ_ _ _ h=>jE Nz h
abbrev Fo:=En->Option (Option Int)
def TK(K:Fg)(f:Fo):TO:=λσ H Q=>∃env B Z o,Rl K B Z H env σ/\f env=some o/\∀Z' H',Ex Z H Z' H'->Q o H'
def Pd(X:Cx)(e:Option Yf)(f:Fo):Prop:=PO X e (TK X.K f)
theorem PO.imp(h:PO X e t)(i:∀σ H Q,t' σ H Q->t σ H Q):PO X e t':=λpins s σ H Q I q=>h pins s σ H Q I (i σ H Q q)
def oNone:Fo:=λ_=>some none
def fJ(f:Fe):Fo:=λenv=>(f env).bind λd=>match d with | .int i=>some (some i) | _=>none
theorem uk:Pd X none oNone:=PO.imp GH λσ H Q ⟨env,B,Z,o,R,e,k⟩=>by cases e;exact k Z H (Ex.refl R.zh)
theorem uc(h:PD X ga l fa):Pd X (some l) (fJ fa):=PO.imp (AA h) λσ H Q aG=>by
 refine cC λ_ kq=>?_;obtain⟨env,B,Z,o,R,e,k⟩:=aG;obtain⟨d,h1,h2⟩:=a_.mp e;refine kq (⟨env,B,Z,d,R,h1,λv Z' H' x g=>?_⟩)
 all_goals clear kq
 cases d<;>cases h2;exact⟨_,g.int,k Z' H' x⟩
def cutD(ds:Yl)(lo hi:Option Int):Yl:=(ds.drop (HT.qS ds.length 0 lo)).take (HT.qS ds.length ds.length hi-HT.qS ds.length 0 lo)
theorem ar.cut{K:Fg}{H:Hp}{ds:Yl}{vs:Yn}(h:ar K H ds vs)(lo hi:Option Int):ar K H (cutD ds lo hi) (Bp vs lo hi):=by
 unfold cutD Bp;rw[<- h.len];exact(h.drop _).take _
def yq(b:D->Option Int->Option Int->Ym)(f:Fe)(lo hi:Fo):Fe:=λenv=>(f env).bind λx=>(lo env).bind λi=>(hi env).bind λj=>b x i j
def ee:D->Option Int->Option Int->Ym
 | .lst ds,lo,hi=>some (.lst (cutD ds lo hi))
 | _,_,_=>none
variable {lo hi:Option Yf}{fl fh:Fo}{p2:Pos}
theorem z8(ha:PD X ga l fa)(hl:Pd X lo fl)(hh:Pd X hi fh):PD X .nw (.Subscript l (.Slice lo hi none p2) pos) (yq ee fa fl fh):=PE.imp (Ei HP ha hl hh) λσ H Q aG=>by
 refine cC λ_ kq=>?_;obtain⟨env,B,Z,d,R,e,k⟩:=aG;obtain⟨x,h1,e⟩:=a_.mp e;obtain⟨i,h2,e⟩:=a_.mp e;obtain⟨j,h3,e⟩:=a_.mp e;cases x<;>cases e;rename_i ds;refine kq (⟨env,B,Z,_,R,h1,λv Z1 H1 x1 g1=>⟨env,B,Z1,i,R.ext x1,h2,λZ2 H2 x2=>⟨env,B,Z2,j,(R.ext x1).ext x2,h3,λZ3 H3 x3=>?_⟩⟩⟩)
 all_goals clear kq
 obtain⟨a,vs,rfl,hq,rr⟩:=Gd.lst x3.zh (Gd.later (H3:=H3) x3 (Gd.later (H3:=H3) x2 g1));refine⟨a,vs,rfl,hq,λq hp=>?_⟩;have x0:=(x1.trans x2).trans x3;exact k _ Z3 _ (x0.trans (Ex.newL x3.zh hp)) ⟨q,_,_,rfl,rfl,x0.h.free hp,ay,x3.zh.free hp,rr.cut i j⟩
def uf:D->D->Ym
 | .lst xs,.lst ys=>if xs.length+ys.length<=16000000 then some (.lst (xs++ys))else none
 | _,_=>none
theorem KA(h:n<=16000000):n<=sizeLine:=by rw[Um];lia
theorem Ki{K:Fg}:cU K .nw uf (λx y H Q=>∃l b xs zs,x=.ref l/\y=.ref b/\cJ K H l xs/\cJ K H b zs/\xs.length+zs.length<=sizeLine/\∀p,H p=none->Q (.ref p) (upd H p (.lst (xs++zs)))):=λ{Z H x y dx dy d Q} s h1 h2 e k=>by
 cases dx<;>try cases e
 all_goals (cases dy<;>try cases e)
 rename_i xs ys;obtain⟨hl,rfl⟩:=nz e
 .obtain⟨a,vs,rfl,q1,r1⟩:=h1.lst s;obtain⟨b,us,rfl,q2,r2⟩:=h2.lst s;refine⟨a,b,vs,us,rfl,rfl,q1,q2,by rw[<- r1.len,<- r2.len];exact KA hl,λp hp=>?_⟩;exact k _ Z _ (Ex.newL s hp) ⟨p,_,_,rfl,rfl,hp,ay,s.free hp,r1.app r2⟩
def fL(K:Fg)(g:Gr)(b:D->Ym)(r:Yn->Hp->VK->Prop):Prop:=
 ∀{Z H:Hp}{x:V}{dx d:D}{Q:VK},aF Z H->Gd K Z H H .pk dx x->b dx=some d->(∀v Z' H',Ex Z H Z' H'->Gd K Z' H H' g d v->Q v H')->r [x] H Q
theorem nX{K:Fg}{g:Gr}{b:D->Ym}{rr:Yn->Hp->VK->Prop}(hb:fL K g b rr){σ:L2.St}{H:Hp}{Q:VK}(h:T K g (bC b fa) σ H Q):OX rr (zo (T K ga fa) tNil) σ H Q:=by
 refine cC λ_ kq=>?_;obtain⟨env,B,Z,d,R,e,k⟩:=h;obtain⟨x,h1,h2⟩:=a_.mp e;refine kq (⟨env,B,Z,x,R,h1,λv Z1 H1 x1 g1=>?_⟩)
 all_goals clear kq
 exact hb x1.zh (show Gd K Z1 H1 H1 .pk x v from g1.pk) h2 λw Z2 H2 x2 g2=>k w Z2 H2 (x1.trans x2) (g2.frm x1.h)
variable {x:Str}{id TT:String}{g:Gr}{b:D->Ym}{rr:Yn->Hp->VK->Prop}
theorem mR(hc:cS X (.builtin id) rr)(hd:fL X.K g b rr)(hv:bootBuiltins x=some (.builtin id))(hm:X.mg x=none)(ha:PD X ga l fa)(hn:x≠"__name__":=by decide)(nU:(x==("__debug__":Str))=false:=by decide)(hg:Gl X x:=by rfl)
  (he:starEach [l] X.env=[(false,eval l X.env)]:=by rfl):PD X g (.Call (.Name x p) [l] [] pos) (bC b fa):=PE.imp (k9 hc hg hm hv (bL ha dX he) hn nU he rfl) λ_ _ _ h=>nX hd h
theorem zV(hc:cS X (.type TT) rr)(hd:fL X.K g b rr)(hv:bootBuiltins x=some (.type TT))(hm:X.mg x=none)(ha:PD X ga l fa)(hn:x≠"__name__":=by decide)(nU:(x==("__debug__":Str))=false:=by decide)(hg:Gl X x:=by rfl)
  (he:starEach [l] X.env=[(false,eval l X.env)]:=by rfl):PD X g (.Call (.Name x p) [l] [] pos) (bC b fa):=PE.imp (B6 hc hg hm hv (bL ha dX he) hn nU he rfl) λ_ _ _ h=>nX hd h
def eM:D->Ym
 | .lst ds=>some (.int ds.length)
 | .tup ds=>some (.int ds.length)
 | _=>none
theorem MP{K:Fg}:fL K .cl eM (λxs H Q=>∃p ys,xs=[.ref p]/\(cJ K H p ys\/cM K H p ys)/\Q (.int ys.length) H):=λ{Z H x dx d Q} s h e k=>by
 cases dx<;>cases e
 .obtain⟨a,vs,rfl,q,r⟩:=h.tup s;exact⟨a,vs,rfl,.inr q,k _ Z H (Ex.refl s) (by rw[r.len];rfl)⟩
 .obtain⟨a,vs,rfl,q,r⟩:=h.lst s;exact⟨a,vs,rfl,.inl q,k _ Z H (Ex.refl s) (by rw[r.len];rfl)⟩
theorem jb(hm:X.mg "len"=none)(ha:PD X ga l fa)(hg:Gl X "len":=by rfl)(he:starEach [l] X.env=[(false,eval l X.env)]:=by rfl):PD X .cl (.Call (.Name "len" p) [l] [] pos) (bC eM fa):=
 mR sH MP PySem.boot_len hm ha (by decide) (by decide) hg he
def mF:D->Ym
 | .lst ds=>some (.tup ds)
 | .tup ds=>some (.tup ds)
 | _=>none
theorem Hl{K:Fg}:fL K .cl mF (λxs H Q=>∃p ys,xs=[.ref p]/\((cJ K H p ys/\∀l,H l=none->Q (.ref l) (upd H l (.tup ys)))\/(cM K H p ys/\Q (.ref p) H))):=λ{Z H x dx d Q} s h e k=>by
 cases dx<;>cases e
 .rename_i ds;rcases h with h | ⟨_,_,_,_,e,_⟩ | ⟨_,_,_,e,_⟩ | ⟨_,_,_,_,_,e,_⟩
  .obtain⟨a,vs,rfl,q,r⟩:=id h;exact⟨a,vs,rfl,.inr ⟨dA s q,k _ Z H (Ex.refl s) h⟩⟩
  .cases e
  .cases e
  .cases e
 .obtain⟨a,vs,rfl,q,r⟩:=h.lst s;refine⟨a,vs,rfl,.inl ⟨q,λp hp=>?_⟩⟩;have s1:aF Z (upd Z p (.tup vs)):=df (s.free hp);exact k _ _ _ (Ex.new s hp) ⟨p,_,rfl,cM.of ay,ar.mono s1 _ r⟩
theorem HL(hm:X.mg "tuple"=none)(ha:PD X ga l fa)(hg:Gl X "tuple":=by rfl)(he:starEach [l] X.env=[(false,eval l X.env)]:=by rfl):PD X .cl (.Call (.Name "tuple" p) [l] [] pos) (bC mF fa):=
 zV qG Hl PyProof.Rows.boot_tuple hm ha (by decide) (by decide) hg he
def intD:D->Ym
 | .int i=>some (.int i)
 | .bl b=>some (.int (if b then 1 else 0))
 | _=>none
theorem MS{K:Fg}:fL K .cl intD (λxs H Q=>(∃i,xs=[.int i]/\Q (.int i) H)\/∃k,xs=[.bl k]/\Q (.int (if k then 1 else 0)) H):=λ{Z H x dx d Q} s h e k=>by
 cases dx<;>cases e
 .cases h.bl;exact .inr ⟨_,rfl,k _ Z H (Ex.refl s) rfl⟩
 .cases h.int;exact .inl ⟨_,rfl,k _ Z H (Ex.refl s) rfl⟩
theorem DD(hm:X.mg "int"=none)(ha:PD X ga l fa)(hg:Gl X "int":=by rfl)(he:starEach [l] X.env=[(false,eval l X.env)]:=by rfl):PD X .cl (.Call (.Name "int" p) [l] [] pos) (bC intD fa):=
 zV Bh MS PyProof.Rows.boot_int hm ha (by decide) (by decide) hg he
def Ap(K:Fg)(g:Gr)(b:D->D->Ym)(r:Yn->Hp->VK->Prop):Prop:=cU K g b (λx y H Q=>r [x,y] H Q)
theorem xv{K:Fg}{g:Gr}{b:D->D->Ym}{rr:Yn->Hp->VK->Prop}(hb:Ap K g b rr){σ:L2.St}{H:Hp}{Q:VK}(h:T K g (aq b fa fb) σ H Q):OX rr (zo (T K ga fa) (zo (T K gb fb) tNil)) σ H Q:=jE hb h
variable {b2:D->D->Ym}
theorem IT(hc:cS X (.builtin id) rr)(hd:Ap X.K g b2 rr)(hv:bootBuiltins x=some (.builtin id))(hm:X.mg x=none)(ha:PD X ga l fa)(hb:PD X gb r fb)(hn:x≠"__name__":=by decide)(nU:(x==("__debug__":Str))=false:=by decide)(hg:Gl X x:=by rfl)
  (he:starEach [l,r] X.env=(false,eval l X.env)::starEach [r] X.env:=by rfl) (wY:starEach [r] X.env=[(false,eval r X.env)]:=by rfl) (j8:(backTo pos (starEach [r] X.env)).any (·.1)=false:=by rfl):PD X g (.Call (.Name x p) [l,r] [] pos) (aq b2 fa fb):=
 PE.imp (k9 hc hg hm hv (bL ha (bL hb dX wY) he) hn nU he j8) λ_ _ _ h=>xv hd h
abbrev maxI:=iF λi j=>.int (if j>i then j else i)
abbrev minI:=iF λi j=>.int (if j<i then j else i)
theorem NR{K:Fg}:Ap K .cl maxI (λxs H Q=>∃i j,xs=[.int i,.int j]/\Q (.int (if j>i then j else i)) H):=λ{Z H x y dx dy d Q} s h1 h2 e k=>by
 cases dx<;>try cases e
 all_goals (cases dy<;>cases e)
 cases h1.int;cases h2.int;exact⟨_,_,rfl,k _ Z H (Ex.refl s) rfl⟩
theorem My{K:Fg}:Ap K .cl minI (λxs H Q=>∃i j,xs=[.int i,.int j]/\Q (.int (if j<i then j else i)) H):=λ{Z H x y dx dy d Q} s h1 h2 e k=>by
 cases dx<;>try cases e
 all_goals (cases dy<;>cases e)
 cases h1.int;cases h2.int;exact⟨_,_,rfl,k _ Z H (Ex.refl s) rfl⟩
theorem MY(hm:X.mg "max"=none)(a7:X.calm=true)(ha:PD X ga l fa)(hb:PD X gb r fb)(hg:Gl X "max":=by rfl)(he:starEach [l,r] X.env=(false,eval l X.env)::starEach [r] X.env:=by rfl)(wY:starEach [r] X.env=[(false,eval r X.env)]:=by rfl)(j8:(backTo pos (starEach [r] X.env)).any (·.1)=false:=by rfl) :
  PD X .cl (.Call (.Name "max" p) [l,r] [] pos) (aq maxI fa fb):=IT (B2 a7) NR WL hm ha hb (by decide) (by decide) hg he wY j8
theorem Mp(hm:X.mg "min"=none)(a7:X.calm=true)(ha:PD X ga l fa)(hb:PD X gb r fb)(hg:Gl X "min":=by rfl)(he:starEach [l,r] X.env=(false,eval l X.env)::starEach [r] X.env:=by rfl)(wY:starEach [r] X.env=[(false,eval r X.env)]:=by rfl)(j8:(backTo pos (starEach [r] X.env)).any (·.1)=false:=by rfl) :
  PD X .cl (.Call (.Name "min" p) [l,r] [] pos) (aq minI fa fb):=IT (BY a7) My WM hm ha hb (by decide) (by decide) hg he wY j8
def FF(K:Fg)(n:Nat)(g:Gr)(m:Yl->Ym):Sp:=λvs H Q _=>∃Z ds d,ds.length=n/\aF Z H/\ar K Z ds vs/\m ds=some d/\∀v Z' H',Ex Z H Z' H'->Gd K Z' H H' g d v->Q v H'
structure Oq(P:Program)(w:World)(K:Fg)(mg:Str->Option Value)(base:Heap)(k:Nat)(x:Str)(n:Nat)(g:Gr)(m:List D->Option D):Prop where
 ex:∃f fd ps,ps.length=n/\jS P w K mg base uM k f fd ps (FF K n g m)/\mg x=some (.ref f)/\PySem.W.keepIn K (.ref f)=true/\Binds K fd ps []
variable {m:Yl->Ym}{k n:Nat}{es:X1}{fs:Fes}
theorem ER(C:Oq X.prog X.w X.K X.mg X.base k x n g m)(hr:bM k X.A)(hl:PL X (l::es) fs)(hn:(l::es).length=n:=by rfl)(hg:Gl X x:=by rfl)(nU:(x==("__debug__":Str))=false:=by decide)
  (he:starEach (l::es) X.env=(false,eval l X.env)::starEach es X.env:=by rfl) (j8:(backTo pos (starEach es X.env)).any (·.1)=false:=by rfl):PD X g (.Call (.Name x p) (l::es) [] pos) (λenv=>(fs env).bind m):=by
 obtain⟨f,fd,ps,hps,F,hm,hk,hb⟩:=C.ex;refine PE.imp (GX F hr hg hm hk hb .nil Ng hl.p nU he j8) λσ H Q aG=>?_;refine cC λ_ kq=>?_;obtain⟨env,B,Z,d,R,e,kk⟩:=aG;obtain⟨ds,h1,h2⟩:=a_.mp e;refine kq (⟨env,B,Z,ds,R,h1,λvs Z1 H1 x1 r=>?_⟩)
 all_goals clear kq
 show FF X.K n g m (vs++[]) H1 Q E0;rw[Uz];exact⟨Z1,ds,d,by rw[hl.l env ds h1];exact hn,x1.zh,r,h2,λv Z' H' x2 g2=>kk v Z' H' (x1.trans x2) (g2.frm x1.h)⟩
end
inductive Out where
 | nx (env:En) | rt (d:D) | bk (env:En) | ct (env:En)
abbrev Fs:=En->Option Out
def zM(K:Fg)(rg:Gr)(B Z:Hp)(E:Ends):Out->Prop
 | .nx env'=>∀σ' Z' H',Ex Z B Z' H'->Rl K B Z' H' env' σ'->E.nx σ' H'
 | .bk env'=>∀σ' Z' H',Ex Z B Z' H'->Rl K B Z' H' env' σ'->E.bk σ' H'
 | .ct env'=>∀σ' Z' H',Ex Z B Z' H'->Rl K B Z' H' env' σ'->E.ct σ' H'
 | .rt d=>∀v Z' H',Ex Z B Z' H'->Gd K Z' B H' rg d v->E.rt v H'
def Ml(K:Fg)(rg:Gr)(f:Fs):TS:=λE σ H=>∃env B Z o,Rl K B Z H env σ/\f env=some o/\zM K rg B Z E o
def SD(X:Cx)(rg:Gr)(st:Yg)(f:Fs):Prop:=PS X st (Ml X.K rg f)
def wO(X:Cx)(rg:Gr)(st:X2)(f:Fs):Prop:=qg X st (Ml X.K rg f)
section
variable {X:Cx}{rg:Gr}{st:Yg}{L0:X2}{f g:Fs}{pos:Pos}
theorem PS.imp(h:PS X st t)(i:∀E σ H,t' E σ H->t E σ H):PS X st t':=λpins s σ H E I q=>h pins s σ H E I (i E σ H q)
theorem qg.imp(h:qg X L0 t)(i:∀E σ H,t' E σ H->t E σ H):qg X L0 t':=λpins s σ H E I q=>h pins s σ H E I (i E σ H q)
theorem zM.later{K:Fg}{B Z Z1 H1:Hp}{E:Ends}{o:Out}(x:Ex Z B Z1 H1)(h:zM K rg B Z E o):zM K rg B Z1 E o:=by
 cases o with
 | nx e=>exact λσ' Z' H' y=>h σ' Z' H' (x.transB y)
 | bk e=>exact λσ' Z' H' y=>h σ' Z' H' (x.transB y)
 | ct e=>exact λσ' Z' H' y=>h σ' Z' H' (x.transB y)
 | rt e=>exact λv Z' H' y=>h v Z' H' (x.transB y)
def nxF:Fs:=λenv=>some (.nx env)
def az(f g:Fs):Fs:=λenv=>(f env).bind λo=>match o with | .nx e=>g e | o=>some o
theorem bO:wO X rg [] nxF:=qg.imp F9 λE σ H ⟨env,B,Z,o,R,e,k⟩=>by cases e;exact k σ Z H ⟨R.bh,aF.refl _,R.zh,λ_ _ h=>h,λ_ _ _ h=>h⟩ R
theorem aj(h1:SD X rg st f)(h2:wO X rg L0 g):wO X rg (st::L0) (az f g):=qg.imp (lS h1 h2) λE σ H aG=>by
 refine cC λ_ kq=>?_;obtain⟨env,B,Z,o,R,e,k⟩:=aG;obtain⟨o1,e1,e2⟩:=a_.mp e;refine kq (⟨env,B,Z,o1,R,e1,?_⟩)
 all_goals clear kq
 cases o1 with
 | nx env1=>exact λσ' Z' H' x R'=>⟨env1,B,Z',o,R',e2,k.later x⟩
 | rt d=>cases e2;exact k
 | bk d=>cases e2;exact k
 | ct d=>cases e2;exact k
theorem aw(h1:SD X rg st f):wO X rg [st] f:=jH h1
def BG(i:Nat):Fs:=λenv=>match env[i]? with
 | some (.O w)=>some (.nx (env.set i (.F w.d)))
 | some (.F d)=>some (.nx env)
 | _=>none
theorem zN(i:Nat)(h:wO X rg L0 g):wO X rg L0 (az (BG i) g):=qg.imp h λE σ H aG=>by
 obtain⟨env,B,Z,o,R,e,k⟩:=aG;obtain⟨o1,e1,e2⟩:=a_.mp e;unfold BG at e1
 split at e1
 .rename_i ds hi;cases e1;obtain⟨Z',R',x⟩:=R.frz hi;exact⟨_,B,Z',o,R',e2,k.later x⟩
 .cases e1;exact⟨env,B,Z,o,R,e2,k⟩
 .cases e1
def bt(f:Fe):Fs:=λenv=>(f env).bind λd=>some (.rt d)
theorem aZ{e:Yf}{f:Fe}(h:PD X rg e f):SD X rg (.Return (some e) pos) (bt f):=PS.imp (tj h) λE σ H aG=>by
 refine cC λ_ kq=>?_;obtain⟨env,B,Z,o,R,e,k⟩:=aG;obtain⟨d,e1,e2⟩:=a_.mp e;cases e2;exact kq (⟨env,B,Z,d,R,e1,λv Z' H' x g=>k v Z' H' (x.part R.bh) (g.frm R.bh)⟩)
def vY(i:Nat):Fs:=λenv=>match env[i]? with
 | some (.O (.L ds))=>some (.rt (.lst ds))
 | _=>none
theorem l9(i:Nat)(hN:X.N[i]?=some x:=by rfl)(hv:uL X.env.scope x:=by first | exact Or.inl rfl | exact Or.inr (Or.inl rfl) | exact Or.inr (Or.inr rfl))(hd:(x==("__debug__":Str))=false:=by decide)
  (lV:(x==("__classdict__":Str))=false:=by decide):SD X .nw (.Return (some (.Name x p)) pos) (vY i):=PS.imp (tj (du hN hv hd lV)) λE σ H aG=>by
 obtain⟨env,B,Z,o,R,e,k⟩:=aG;unfold vY at e
 split at e
 .rename_i ds hi;cases e;obtain⟨y,e1,a,o,e2,e3,e4,vs,rfl,r⟩:=R.sl i _ hi;subst e2;exact⟨_,e1,k _ Z H ⟨R.bh,aF.refl _,R.zh,λ_ _ h=>h,λ_ _ _ h=>h⟩ ⟨a,vs,ds,rfl,rfl,R.ob i _ a hi e1,e3,e4,r⟩⟩
 .cases e
def gC(t:Fb)(f g:Fs):Fs:=λenv=>(t env).bind λb=>if b=true then f env else g env
theorem dk(hc:PB X c t)(ha:wO X rg a f)(hb:wO X rg b g):SD X rg (.If c a b pos) (gC t f g):=PS.imp (Mf hc ha hb) λE σ H aG=>by
 refine cC λ_ kq=>?_;obtain⟨env,B,Z,o,R,e,k⟩:=aG;obtain⟨x,e1,e2⟩:=a_.mp e;refine kq (⟨env,B,Z,x,R,e1,λZ1 H1 x1=>?_⟩)
 all_goals clear kq
 cases x with
 | true=>rw[j_ rfl]at e2;exact yr ⟨env,B,Z1,o,R.ext x1,e2,k.later (x1.part R.bh)⟩
 | false=>rw[h_ (by simp)]at e2;exact yT ⟨env,B,Z1,o,R.ext x1,e2,k.later (x1.part R.bh)⟩
def setF(i:Nat)(f:Fe):Fs:=λenv=>(f env).bind λd=>some (.nx (env.set i (.F d)))
def setO(i:Nat)(f:Fe):Fs:=λenv=>(f env).bind λd=>match d with | .lst ds=>some (.nx (env.set i (.O (.L ds)))) | _=>none
theorem E9{f:Fe}{i:Nat}{E:Ends}{σ:L2.St}{H:Hp}(h:Ml X.K rg (setF i f) E σ H):DZ (T X.K .cl f) (rR i) E σ H:=by
 refine cC λ_ kq=>?_;obtain⟨env,B,Z,o,R,e,k⟩:=h;obtain⟨d,e1,e2⟩:=a_.mp e;cases e2;exact kq (⟨env,B,Z,d,R,e1,λv Z' H' x g=>k _ Z' H' (x.part R.bh) ((R.ext x).setF i g)⟩)
theorem Bn{f:Fe}{i:Nat}{E:Ends}{σ:L2.St}{H:Hp}(h:Ml X.K rg (setO i f) E σ H):DZ (T X.K .nw f) (rR i) E σ H:=by
 refine cC λ_ kq=>?_;obtain⟨env,B,Z,o,R,e,k⟩:=h;obtain⟨d,e1,e2⟩:=a_.mp e;cases d<;>cases e2;rename_i ds;refine kq (⟨env,B,Z,_,R,e1,λv Z' H' x g=>?_⟩)
 all_goals clear kq
 obtain⟨a,vs,ds',rfl,e3,h1,h2,h3,r⟩:=g;cases e3;refine k _ Z' H' (x.part R.bh) ((R.ext x).setO i (R.bh.free h1) h3 h2 ⟨vs,rfl,r⟩ λj es hj hje Ls=>?_);obtain⟨y,e4,b,us,e5,e6,_⟩:=R.sl j _ hje;rw[Ls]at e4;cases e4;cases e5;rw[h1]at e6;cases e6
section
variable {x:Str}{e:Yf}{fe:Fe}{pos':Pos}
theorem a0(i:Nat)(he:PD X .cl e fe)(hN:X.N.Nodup)(hi:X.N[i]?=some x:=by rfl)(hx:Loc X.env.scope x:=by first | exact Or.inl rfl | exact Or.inr rfl)(hs:swapsWith e (some (.Name x pos')) pos.line X.env=pure false:=by rfl)
  (hf:X.fn x=true\/X.env.scope.names.lookup x=some .local:=by first | exact .inl rfl | exact .inr rfl | assumption):SD X rg (.Assign [.Name x pos'] e pos) (setF i fe):=PS.imp (sg hN hi hx he hs hf) λE σ H h=>E9 h
theorem jo(i:Nat)(he:PD X .nw e fe)(hN:X.N.Nodup)(hi:X.N[i]?=some x:=by rfl)(hx:Loc X.env.scope x:=by first | exact Or.inl rfl | exact Or.inr rfl)(hs:swapsWith e (some (.Name x pos')) pos.line X.env=pure false:=by rfl)
  (hf:X.fn x=true\/X.env.scope.names.lookup x=some .local:=by first | exact .inl rfl | exact .inr rfl | assumption):SD X rg (.Assign [.Name x pos'] e pos) (setO i fe):=PS.imp (sg hN hi hx he hs hf) λE σ H h=>Bn h
end
def kA(i:Nat)(f:Fe):Fs:=λenv=>match env[i]? with
 | some (.O (.L ds))=>(f env).bind λd=>if ds.length<16000000 then some (.nx (env.set i (.O (.L (ds++[d])))))else none
 | _=>none
theorem pj(i:Nat)(he:PD X .cl e fe)(hN:X.N[i]?=some x:=by rfl)(hv:uL X.env.scope x:=by first | exact Or.inl rfl | exact Or.inr (Or.inl rfl) | exact Or.inr (Or.inr rfl))
  (hd:(x==("__debug__":Str))=false:=by decide) (lV:(x==("__classdict__":Str))=false:=by decide) (hst:starEach [e] X.env=[(false,eval e X.env)]:=by rfl)
  (hZ:attributeBase (.Name x px) "append" X.env (eval (.Name x px) X.env)=eval (.Name x px) X.env:=by rfl)
  (uC:((backTo bU (starEach [e] X.env)).all (λx=>!x.1)&&(backToKw bU (keywordEach [] X.env)).all (λx=>x.1.isSome)
   && decide (([e]:X1).length+([]:List Keyword).length+(if([]:List Keyword).isEmpty then 0 else 1)<30))=true:=by rfl)
  (ib:(apos.endLine==bU.line)=true:=by rfl)
  (hs:swapsWith (.Call (.Attribute (.Name x px) "append" apos) [e] [] bU) none pos.line X.env=pure false:=by rfl) :
  SD X rg (.Expr (.Call (.Attribute (.Name x px) "append" apos) [e] [] bU) pos) (kA i fe):=by
 refine PS.imp (nJ (AI VS PySem.F.slot_list_append PySem.F.type_list_append md (du hN hv hd lV) (bL he dX hst) hZ uC ib hst rfl) hs) λE σ H aG=>?_;obtain⟨env,B,Z,o,R,e,k⟩:=aG;unfold kA at e
 split at e
 .rename_i ds hi;obtain⟨d,e1,e2⟩:=a_.mp e;obtain⟨hl,rfl⟩:=nz e2
  .obtain⟨y,e3,a,o,e4,e5,e6,vs,rfl,r⟩:=R.sl i _ hi;subst e4;refine⟨_,e3,.inl ⟨rfl,vs,cJ.of e5⟩,env,B,Z,d,R,e1,λv Z1 H1 x1 g1=>?_⟩;have R1:=R.ext x1;have r1:=ar.mono x1.z ds r;have ha:=x1.h _ _ e5;refine⟨a,vs,v,rfl,rfl,ha,by rw[<- r.len,Um];lia,?_⟩;obtain⟨R2,x2⟩:=R1.wr hi e3 (de.l (r1.app (ar.one g1)));exact k σ Z1 _ ((x1.part R.bh).transB x2) R2
 .cases e
end
abbrev Ft:=D->En->Option En
def TR(K:Fg)(t:Ft):TG:=λv σ H Q=>∃env B Z d env',Rl K B Z H env σ/\Rep K Z d v/\t d env=some env'/\∀σ',Rl K B Z H env' σ'->Q σ' H
def GD(X:Cx)(tg:Yf)(t:Ft):Prop:=PG X tg (TR X.K t)
section
variable {X:Cx}{rg:Gr}
theorem PG.imp(h:PG X e t)(i:∀v σ H Q,t' v σ H Q->t v σ H Q):PG X e t':=λpins s σ H v u Q I r q=>h pins s σ H v u Q I r (i v σ H Q q)
def bw(i:Nat):Ft:=λd env=>some (env.set i (.F d))
theorem aJ(i:Nat)(hN:X.N.Nodup)(hi:X.N[i]?=some x:=by rfl)(hx:Loc X.env.scope x:=by first | exact Or.inl rfl | exact Or.inr rfl)
  (hf:X.fn x=true\/X.env.scope.names.lookup x=some .local:=by first | exact .inl rfl | exact .inr rfl | assumption):GD X (.Name x pos) (bw i):=PG.imp (jB hN hi hx hf) λv σ H Q aG=>by
 obtain⟨env,B,Z,d,env',R,r,e,k⟩:=aG;cases e;exact k _ (R.setF i r)
def fD:X3->Yl->En->Option En
 | [],[],env=>some env
 | i::is,d::ds,env=>fD is ds (env.set i (.F d))
 | _,_,_=>none
def P'(K:Fg)(is:X3):TGs:=λvs σ H Q=>∃env B Z ds env',Rl K B Z H env σ/\ar K Z ds vs/\fD is ds env=some env'/\∀σ',Rl K B Z H env' σ'->Q σ' H
def J5(X:Cx)(Os:X1)(is:X3):Prop:=BB X Os (P' X.K is)
theorem BB.imp(h:BB X e t)(i:∀v σ H Q,t' v σ H Q->t v σ H Q):BB X e t':=λpins s σ H v u Q I r q=>h pins s σ H v u Q I r (i v σ H Q q)
theorem bI:J5 X [] []:=BB.imp sY λv σ H Q aG=>by
 obtain⟨env,B,Z,ds,env',R,r,e,k⟩:=aG;cases ds with
 | nil=>cases e;exact⟨r,k _ R⟩
 | cons d ds=>cases e
theorem au(i:Nat)(hN:X.N.Nodup)(h:J5 X Os is)(hi:X.N[i]?=some x:=by rfl)(hx:Loc X.env.scope x:=by first | exact Or.inl rfl | exact Or.inr rfl)
  (hf:X.fn x=true\/X.env.scope.names.lookup x=some .local:=by first | exact .inl rfl | exact .inr rfl | assumption)
  (hs:(assignEach (.Name x pos::Os) X.env).map (·.2)=assign (.Name x pos) X.env::(assignEach Os X.env).map (·.2):=by rfl):J5 X (.Name x pos::Os) (i::is):=BB.imp (gT (jB hN hi hx hf) h hs) λv σ H Q aG=>by
 obtain⟨env,B,Z,ds,env',R,r,e,k⟩:=aG;cases ds with
 | nil=>cases e
 | cons d ds=>
  obtain⟨w,rr,e1,r1,r2⟩:=r;exact⟨w,rr,e1,env.set i (.F d),B,Z,ds,env',R.setF i r1,r2,e,k⟩
def lU(is:X3):Ft:=λd env=>match d with
 | .tup ds=>fD is ds env
 | _=>none
theorem kH:∀{is:X3}{ds:Yl}{env env':En},fD is ds env=some env'->ds.length=is.length
 | [],[],_,_,_=>rfl
 | i::is,d::ds,_,_,h=>by simp[kH (ds:=ds) h]
 | [],_::_,_,_,h=>by cases h
 | _::_,[],_,_,h=>by cases h
theorem gp(hc:X.calm=true)(h:J5 X es is)(hn:(assignEach es X.env).length=is.length:=by rfl)(hst:(assignEach es X.env).findIdx? (·.1)=none:=by rfl):GD X (.Tuple es k pos) (lU is):=
 PG.imp (xT hc h hn hst) λv σ H Q aG=>by
  refine cC λ_ kq=>?_;obtain⟨env,B,Z,d,env',R,r,e,k⟩:=aG;cases d<;>try cases e
  rename_i ds;obtain⟨a,vs,e1,hq,rr⟩:=r;exact kq (⟨a,vs,e1,dA R.zh hq,by rw[<- rr.len];exact kH e,env,B,Z,ds,env',R,rr,e,k⟩)
def cK(t:Ft)(body:Fs):Yl->Fs
 | [],env=>some (.nx env)
 | d::ds,env=>(t d env).bind λe1=>(body e1).bind λo=>match o with
  | .nx e2=>cK t body ds e2
  | .ct e2=>cK t body ds e2
  | .bk e2=>some (.nx e2)
  | .rt d=>some (.rt d)
abbrev Fi:=En->Yk
def Walk(K:Fg)(Z1:Hp)(ds:Yl)(J:It):Prop:=∀(Z' H':Hp),aF Z1 Z'->aF Z' H'->∀i,
 (i<ds.length->J.go i H'/\∀x H'',J.yld i H' x H''->∃Z'' d,Ex Z' H' Z'' H''/\ds[i]?=some d/\Rep K Z'' d x)/\(ds.length<=i->J.stop i H')
def T7(K:Fg)(f:Fi):TI:=λσ H R=>∃env B Z ds,Rl K B Z H env σ/\f env=some ds/\∀J Z1 H1,Ex Z H Z1 H1->Walk K Z1 ds J->R J H1
def ID(X:Cx)(tg iter:Yf)(f:Fi):Prop:=PI X tg iter (T7 X.K f)
theorem PI.imp(h:PI X tg e t)(i:∀σ H R,t' σ H R->t σ H R):PI X tg e t':=λpins s σ H R I q=>h pins s σ H R I (i σ H R q)
def cF(f:Fe):Fi:=λenv=>(f env).bind λd=>match d with | .lst ds=>some ds | _=>none
def AY(f:Fe):Fi:=λenv=>(f env).bind λd=>match d with | .tup ds=>some ds | _=>none
theorem BR{K:Fg}{Z1:Hp}{a:Ye}{vs:Yn}{ds:Yl}(q:cJ K Z1 a vs)(rr:ar K Z1 ds vs):Walk K Z1 ds (P1 K a):=λZ' H' s1 s2 i=>by
 have q':=(s1.trans s2).seq q;refine⟨λhi=>⟨⟨vs,vs[i]'(by rw[<- rr.len];exact hi),q',by simp[<- rr.len,hi]⟩,λx H'' y=>?_⟩,λhi=>⟨vs,q',by rw[<- rr.len];exact hi⟩⟩;refine cC λ_ kq=>?_;obtain⟨e,y⟩:=y;obtain⟨d,h1,h2⟩:=rr.getV (y vs q');subst e;exact kq (⟨Z',d,Ex.refl s2,h1,Rep.mono s1 d h2⟩)
theorem EA{K:Fg}{Z1:Hp}{a:Ye}{vs:Yn}{ds:Yl}(q:cM K Z1 a vs)(rr:ar K Z1 ds vs):Walk K Z1 ds (Qf K a):=λZ' H' s1 s2 i=>by
 have q':=dA (s1.trans s2) q;refine⟨λhi=>⟨⟨vs,vs[i]'(by rw[<- rr.len];exact hi),q',by simp[<- rr.len,hi]⟩,λx H'' y=>?_⟩,λhi=>⟨vs,q',by rw[<- rr.len];exact hi⟩⟩;refine cC λ_ kq=>?_;obtain⟨e,y⟩:=y;obtain⟨d,h1,h2⟩:=rr.getV (y vs q');subst e;exact kq (⟨Z',d,Ex.refl s2,h1,Rep.mono s1 d h2⟩)
theorem aU(h:PD X .cl l f):ID X tg l (cF f):=PI.imp (GB h) λσ H R aG=>by
 refine cC λ_ kq=>?_;obtain⟨env,B,Z,ds,Rr,e,k⟩:=aG;obtain⟨d,e1,e2⟩:=a_.mp e;cases d<;>cases e2;refine kq (⟨env,B,Z,_,Rr,e1,λv Z1 H1 x1 g1=>?_⟩)
 all_goals clear kq
 obtain⟨a,vs,e,q,r⟩:=g1;exact⟨a,e,⟨vs,x1.zh.seq q⟩,k _ Z1 H1 x1 (BR q r)⟩
theorem rq(h:PD X .cl l f):ID X tg l (AY f):=PI.imp (K0 h) λσ H R aG=>by
 refine cC λ_ kq=>?_;obtain⟨env,B,Z,ds,Rr,e,k⟩:=aG;obtain⟨d,e1,e2⟩:=a_.mp e;cases d<;>cases e2;refine kq (⟨env,B,Z,_,Rr,e1,λv Z1 H1 x1 g1=>?_⟩)
 all_goals clear kq
 obtain⟨a,vs,e,q,r⟩:=g1;exact⟨a,e,⟨vs,dA x1.zh q⟩,k _ Z1 H1 x1 (EA q r)⟩
def aM(lo:Int)(n:Nat):Yl:=(List.range n).map λi=>.int (lo+(i:Nat))
theorem ES{K:Fg}{Z1:Hp}(lo:Int)(n:Nat):Walk K Z1 (aM lo n) (O' lo n):=λZ' H' s1 s2 i=>by
 have hl:(aM lo n).length=n:=by simp[aM]
 rw[hl];refine⟨λhi=>⟨hi,λx H'' y=>?_⟩,λh=>h⟩;obtain⟨e,y⟩:=y;subst e;subst y;exact⟨Z',.int (lo+i),Ex.refl s2,by simp[aM,hi],rfl⟩
def Fh(j:Int):Bool:=decide (-4000000000000000000<j/\j<4000000000000000000)
def iP(f:Fe):Fi:=λenv=>(f env).bind λd=>match d with
 | .int j=>if Fh j then some (aM 0 j.toNat)else none
 | _=>none
theorem bW(hm:X.mg "range"=none)(h:PD X ga l f)(hg:Gl X "range":=by rfl)(hs:starEach [l] X.env=[(false,eval l X.env)]:=by rfl):ID X tg (.Call (.Name "range" p) [l] [] pos) (iP f):=
 PI.imp (BU hg hm (bL h dX hs) hs) λσ H R aG=>by
  obtain⟨env,B,Z,ds,Rr,e,k⟩:=aG;obtain⟨d,e1,e2⟩:=a_.mp e;cases d<;>try cases e2
  rename_i j;obtain⟨hj,rfl⟩:=nz e2
  .have hj':=Uj hj;refine⟨env,B,Z,_,Rr,e1,λv Z1 H1 x1 g1=>⟨j,by rw[g1.int],by omega,by omega,k _ Z1 H1 x1 (ES 0 j.toNat)⟩⟩
def ed(fi:Fi)(t:Ft)(body:Fs):Fs:=λenv=>(fi env).bind λds=>cK t body ds env
theorem cA(hp:PassesOwn (model X.prog X.w) X.A X.env X.xe)(hc:X.calm=true)(hi:ID X tg iter fi)(hg:GD X tg t)(hb:wO X rg body fb)
  (hs:∀x,foldedSetIterable iter X.env x=pure x:=by intro _;rfl):SD X rg (.For tg iter body [] pos) (ed fi t fb):=PS.imp (sS hp hc hi hg hb hs) λE σ H aG=>by
 refine cC λ_ kq=>?_;obtain⟨env,B,Z,o,R,e,k⟩:=aG;obtain⟨ds,e1,e2⟩:=a_.mp e;refine kq (⟨env,B,Z,ds,R,e1,λJ Z1 H1 x1 wk=>?_⟩)
 all_goals clear kq
 let In:Nat->L2.St->Hp->Prop:=λi σ H=>∃env' Z',Ex Z B Z' H/\aF Z1 Z'/\Rl X.K B Z' H env' σ/\cK t fb (ds.drop i) env'=some o
 refine⟨λi m σ H=>m=ds.length-i/\i<=ds.length/\In i σ H,⟨ds.length,by simp,UY _,env,Z1,x1.part R.bh,aF.refl _,R.ext x1,by simpa using e2⟩,?_⟩;rintro i m σ2 H2 ⟨rfl,hi,env',Z',x2,s2,R2,e3⟩;obtain⟨w1,w2⟩:=wk Z' H2 s2 R2.zh i
 by_cases hlt:i<ds.length
 .obtain⟨go,yl⟩:=w1 hlt;refine .inr ⟨go,In (i+1),λσ' H' n=>⟨ds.length-(i+1),by omega,rfl,hlt,n⟩,λx H3 y=>?_⟩;refine cC λ_ kq=>?_;obtain⟨Z3,d,x3,hd,r3⟩:=yl x H3 y;have Lu:ds.drop i=d::ds.drop (i+1):=by
   obtain⟨h1,h2⟩:=k_.mp hd;rw[Uy h1,h2]
  rw[Lu]at e3;unfold cK at e3;obtain⟨SI,e4,e5⟩:=a_.mp e3;obtain⟨o1,e6,e7⟩:=a_.mp e5;have R3:=R2.ext x3;have x4:=x2.transB (x3.part R2.bh);refine kq (⟨env',B,Z3,d,SI,R3,r3,e4,λσ4 R4=>⟨SI,B,Z3,o1,R4,e6,?_⟩⟩)
  all_goals clear kq
  cases o1 with
  | nx Pu=>exact λσ5 Z5 H5 x5 R5=>⟨Pu,Z5,x4.transB x5,(s2.trans x3.z).trans x5.z,R5,e7⟩
  | ct Pu=>exact λσ5 Z5 H5 x5 R5=>⟨Pu,Z5,x4.transB x5,(s2.trans x3.z).trans x5.z,R5,e7⟩
  | bk Pu=>cases e7;exact λσ5 Z5 H5 x5 R5=>k σ5 Z5 H5 (x4.transB x5) R5
  | rt d=>cases e7;exact λv Z5 H5 x5 g5=>k v Z5 H5 (x4.transB x5) g5
 .refine .inl ⟨w2 (by omega),?_⟩;rw[Vu (by omega)]at e3;cases e3;exact k σ2 Z' H2 x2 R2
def zu(is:X3)(f:Fe):Fs:=λenv=>(f env).bind λd=>(lU is d env).bind λe=>some (.nx e)
theorem qt(hc:X.calm=true)(he:PD X .cl e fe)(h:J5 X es is)(hn:(assignEach es X.env).length=is.length:=by rfl)(hst:(assignEach es X.env).findIdx? (·.1)=none:=by rfl)
  (hs:swapsWithSole [.Tuple es k p2] e pos.line X.env=pure false:=by rfl) (hw:swappedStores [.Tuple es k p2] e X.env=pure none:=by rfl) (h1:(assignEach [.Tuple es k p2] X.env).map (·.2)=[assign (.Tuple es k p2) X.env]:=by rfl) :
  SD X rg (.Assign [.Tuple es k p2] e pos) (zu is fe):=PS.imp (xR he (gp hc h hn hst) hs hw h1) λE σ H aG=>by
 refine cC λ_ kq=>?_;obtain⟨env,B,Z,o,R,e,k⟩:=aG;obtain⟨d,e1,e⟩:=a_.mp e;obtain⟨en,e2,e⟩:=a_.mp e;cases e;refine kq (⟨env,B,Z,d,R,e1,λv Z1 H1 x1 g1=>⟨env,B,Z1,d,en,R.ext x1,g1,e2,λσ' R'=>k σ' Z1 H1 (x1.part R.bh) R'⟩⟩)
def cQ(n:Nat)(ds:Yl):En:=ds.map .F++List.replicate (n-ds.length) .un
def bx(f:Fs)(n:Nat)(ds:Yl):Ym:=(f (cQ n ds)).bind λo=>match o with | .rt d=>some d | _=>none
theorem Rl.start{K:Fg}{Z H:Hp}{N:XZ}{ds:Yl}{vs:Yn}(s:aF Z H)(r:ar K Z ds vs):Rl K H Z H (cQ N.length ds) (start N vs):=by
 have hl:=r.len;have noO:∀(i:Nat)(es:uE),(cQ N.length ds)[i]?≠some (.O es):=λi es h=>by
  unfold cQ at h
  by_cases hi:i<ds.length
  .rw[S_ (by simpa using hi),o_]at h;cases q:ds[i]? with
   | none=>rw[q]at h;cases h
   | some d=>rw[q]at h;cases h
  .rw[R_ (by simpa using hi),US]at h
   split at h<;>cases h
 refine⟨aF.refl _,s,by simp[cQ,L2.start,hl],λi sl h=>?_,λi es a h=>absurd h (noO i es),λi j es _ a _ h=>absurd h (noO i es)⟩;unfold cQ at h;unfold L2.start
 by_cases hi:i<ds.length
 .rw[S_ (by simpa using hi),o_]at h;cases q:ds[i]? with
  | none=>rw[q]at h;cases h
  | some d=>
   rw[q]at h;cases h;obtain⟨v,h1,h2⟩:=r.get q;exact⟨some v,by rw[S_ (by simpa [<- hl]using hi),o_,h1];rfl,v,rfl,h2⟩
 .rw[R_ (by simpa using hi),US]at h
  split at h
  .rename_i hk;cases h;refine⟨none,?_,trivial⟩;rw[R_ (by simpa [<- hl]using hi),US,j_ (by simpa [hl]using hk)]
  .cases h
end
section
variable {P:X9}{w:Yb}{K:Fg}{mg:XS}{base:Ya}
theorem Su{x qual:Str}{st:Yg}{f:Ye}{fd:Yc}{N ps:XZ}{k:Nat}{g:Gr}{m:Yl->Ym}{fb:Fs}(F:Fn K x qual st f fd)(S:fu N ps (aO st))
  (hb:∀(eC:X7)(A:X_)(outer:List Env)(s:X8)(H:Hp)(E:XK),bM k (A.deeper (envOfC qual (aO st) s.sz f eC))->wO (nv uM P w K mg base N qual (aO st) f eC A outer s H E).nox g (b0 st) fb)
  (hm:∀ds d,ds.length=ps.length->m ds=some d->bx fb N.length ds=some d):jS P w K mg base uM (k+1) f fd ps (FF K ps.length g m):=by
 refine F.ok S (λvs H Q E ⟨Z,ds,d,hl,_,r,_⟩=>by rw[<- r.len];exact hl) λeC A outer s H vs Q E hr aG=>?_;obtain⟨Z,ds,d,hl,s1,r,e,kk⟩:=aG;refine⟨_,hb eC A outer s H E hr,?_⟩;obtain⟨o,e1,e2⟩:=a_.mp (hm ds d hl e);refine⟨_,H,Z,o,Rl.start s1 r,e1,?_⟩;cases o with
 | rt d'=>cases e2;exact kk
 | nx _=>cases e2
 | bk _=>cases e2
 | ct _=>cases e2
end
mutual
def toPy:D->PyData
 | .non=>.none
 | .bl b=>.bool b
 | .int i=>.int i
 | .str x=>.str x
 | .tup ds=>.tuple (eB ds)
 | .lst ds=>.list (eB ds)
 | .dct _=>.none
 | .st _=>.none
 | .ln _=>.none
 | .mp _ _ _=>.none
def eB:Yl->List PyData
 | []=>[]
 | d::ds=>toPy d::eB ds
end
mutual
def pl:D->Bool
 | .tup ds=>iy ds
 | .lst ds=>iy ds
 | .dct _=>false
 | .st _=>false
 | .ln _=>false
 | .mp _ _ _=>false
 | _=>true
def iy:Yl->Bool
 | []=>true
 | d::ds=>pl d&&iy ds
end
mutual
def eT:D->D->Bool
 | .non,.non=>true
 | .bl a,.bl b=>a==b
 | .bl a,.int j=>(if a then 1 else 0)==j
 | .int i,.bl b=>i==(if b then 1 else 0)
 | .int i,.int j=>i==j
 | .str x,.str y=>x==y
 | .tup xs,.tup ys=>lB xs ys
 | .lst xs,.lst ys=>lB xs ys
 | _,_=>false
def lB:Yl->Yl->Bool
 | [],[]=>true
 | x::xs,y::ys=>eT x y&&lB xs ys
 | _,_=>false
end
mutual
theorem lM:∀(d e:D),pl d=true->pl e=true->PyData.eqv (toPy d) (toPy e)=eT d e
 | .non,e,_,h=>by cases e<;>first | (simp[pl]at h;done) | simp[toPy,PyData.eqv,eT]
 | .bl b,e,_,h=>by cases e<;>first | (simp[pl]at h;done) | simp[toPy,PyData.eqv,eT]
 | .int i,e,_,h=>by cases e<;>first | (simp[pl]at h;done) | simp[toPy,PyData.eqv,eT]
 | .str x,e,_,h=>by cases e<;>first | (simp[pl]at h;done) | simp[toPy,PyData.eqv,eT]
 | .tup ds,e,h1,h=>by
  unfold pl at h1;cases e
  case tup es=>unfold pl at h;simp[toPy,PyData.eqv,eT,iU ds es h1 h]
  case lst es=>unfold pl at h;simp[toPy,PyData.eqv,eT,iU ds es h1 h]
  all_goals first | (simp[pl]at h;done) | simp[toPy,PyData.eqv,eT]
 | .lst ds,e,h1,h=>by
  unfold pl at h1;cases e
  case tup es=>unfold pl at h;simp[toPy,PyData.eqv,eT,iU ds es h1 h]
  case lst es=>unfold pl at h;simp[toPy,PyData.eqv,eT,iU ds es h1 h]
  all_goals first | (simp[pl]at h;done) | simp[toPy,PyData.eqv,eT]
theorem iU:∀(ds es:Yl),iy ds=true->iy es=true->PyData.eqvAll (eB ds) (eB es)=lB ds es
 | [],es,_,_=>by cases es<;>simp[eB,PyData.eqvAll,lB]
 | d::ds,es,h1,h2=>by
  unfold iy at h1;rw[C_]at h1;cases es with
  | nil=>simp[eB,PyData.eqvAll,lB]
  | cons e es=>
   unfold iy at h2;rw[C_]at h2;simp[eB,PyData.eqvAll,lB,lM d e h1.1 h2.1,iU ds es h1.2 h2.2]
end
mutual
def eJ:D->Nat
 | .tup ds=>oq ds+1
 | .lst ds=>oq ds+1
 | _=>0
def oq:Yl->Nat
 | []=>0
 | d::ds=>max (eJ d) (oq ds)
end
mutual
theorem dR:∀(d:D),(toPy d).depth=eJ d
 | .non=>by simp[toPy,PyData.depth,eJ]
 | .bl b=>by simp[toPy,PyData.depth,eJ]
 | .int i=>by simp[toPy,PyData.depth,eJ]
 | .str x=>by simp[toPy,PyData.depth,eJ]
 | .tup ds=>by simp[toPy,PyData.depth,eJ,kh ds]
 | .lst ds=>by simp[toPy,PyData.depth,eJ,kh ds]
 | .dct ks=>by simp[toPy,PyData.depth,eJ]
 | .st ks=>by simp[toPy,PyData.depth,eJ]
 | .ln ks=>by simp[toPy,PyData.depth,eJ]
 | .mp _ _ _=>by simp[toPy,PyData.depth,eJ]
theorem kh:∀(ds:Yl),PyData.depthAll (eB ds)=oq ds
 | []=>by simp[eB,PyData.depthAll,oq]
 | d::ds=>by simp[eB,PyData.depthAll,oq,dR d,kh ds]
end
section
variable {X:Cx}{pins:XQ}{σ:L2.St}{H:Hp}{s:X8}
mutual
theorem dq(I:Inv X pins σ H s):∀(d:D){x:V}{v:X7},pl d=true->Rep X.K H d x->RelV x v->∃as,Reads s.heap v (toPy d) as
 | .non,_,_,_,h,r=>by cases(show _=V.non from h);cases r;exact⟨_,.none⟩
 | .bl b,_,_,_,h,r=>by cases(show _=V.bl b from h);cases r;exact⟨_,.bool b⟩
 | .int i,_,_,_,h,r=>by cases(show _=V.int i from h);obtain⟨t,rfl⟩:=r;exact⟨_,.int i t⟩
 | .str y,_,_,_,h,r=>by obtain⟨h,_⟩:=h;subst h;obtain⟨t,rfl⟩:=r;exact⟨_,.str y t⟩
 | .tup ds,_,_,hp,h,r=>by
  unfold pl at hp;refine cC λ_ kq=>?_;obtain⟨a,vs,e,q,rr⟩:=h;subst e;cases r;obtain⟨a5,rv,⟨o,ho,hc,n,hd⟩,_⟩:=I.tuple q;obtain⟨as,ra⟩:=mG I ds hp rr rv;exact kq (⟨as,.tuple ho hc hd (by simpa [toPy]using ra)⟩)
 | .lst ds,_,_,hp,h,r=>by
  unfold pl at hp;refine cC λ_ kq=>?_;obtain⟨a,vs,e,q,rr⟩:=h;subst e;cases r;obtain⟨a5,rv,pl,_⟩:=I.list q;obtain⟨o,ho,hc,n,hd⟩:=pl.isList;obtain⟨as,ra⟩:=mG I ds hp rr rv;exact kq (⟨_,.list ho hc hd (by simpa [toPy]using ra)⟩)
 | .dct ks,_,_,hp,_,_=>by unfold pl at hp;cases hp
 | .st ks,_,_,hp,_,_=>by unfold pl at hp;cases hp
 | .ln ks,_,_,hp,_,_=>by unfold pl at hp;cases hp
 | .mp _ _ _,_,_,hp,_,_=>by unfold pl at hp;cases hp
theorem mG(I:Inv X pins σ H s):∀(ds:Yl){vs:Yn}{us:XX},iy ds=true->ar X.K H ds vs->ax vs us->∃as,ReadsAll s.heap us (eB ds) as
 | [],_,_,_,h,r=>by cases(show _=[]from h);cases r;exact⟨_,by simpa [eB]using ReadsAll.nil⟩
 | d::ds,_,_,hp,h,r=>by
  unfold iy at hp;rw[C_]at hp;obtain⟨v,vr,e,h1,h2⟩:=h;subst e;cases r with
  | cons r1 r2=>
   refine cC λ_ kq=>?_;obtain⟨as,q1⟩:=dq I d hp.1 h1 r1;obtain⟨bs,q2⟩:=mG I ds hp.2 h2 r2;exact kq (⟨_,by simpa [eB]using ReadsAll.cons q1 q2⟩)
end
mutual
theorem gw:∀(d:D){x:V},Rep X.K H d x->(toPy d).canLay0=true
 | .non,_,_=>by simp[toPy,PyData.canLay0]
 | .bl b,_,_=>by simp[toPy,PyData.canLay0]
 | .int i,_,_=>by simp[toPy,PyData.canLay0]
 | .str y,_,h=>by simp[toPy,PyData.canLay0,h.2]
 | .tup ds,_,⟨a,vs,e,q,rr⟩=>by simp[toPy,PyData.canLay0,sR ds rr]
 | .lst ds,_,⟨a,vs,e,q,rr⟩=>by simp[toPy,PyData.canLay0,sR ds rr]
 | .dct ks,_,_=>by simp[toPy,PyData.canLay0]
 | .st ks,_,_=>by simp[toPy,PyData.canLay0]
 | .ln ks,_,_=>by simp[toPy,PyData.canLay0]
 | .mp _ _ _,_,_=>by simp[toPy,PyData.canLay0]
theorem sR:∀(ds:Yl){vs:Yn},ar X.K H ds vs->PyData.canLayAll0 (eB ds)=true
 | [],_,_=>by simp[eB,PyData.canLayAll0]
 | d::ds,_,⟨v,vr,e,h1,h2⟩=>by simp[eB,PyData.canLayAll0,gw d h1,sR ds h2]
end
def gQ(d e:D):Bool:=(pl d&&pl e)&&(decide (eJ d<=60)||decide (eJ e<=60))
def Ge(K:Fg)(neg:Bool):R2:=λx y H Q=>∃dx dy,Rep K H dx x/\Rep K H dy y/\gQ dx dy=true/\Q (.bl (if neg then !eT dx dy else eT dx dy)) H
theorem yD(h:u+64<cLine)(h2:a<=60\/b<=60):u+min a b<cLine:=by lia
theorem uX(h:gQ d e=true):eJ d<=60\/eJ e<=60:=by unfold gQ at h;rw[C_]at h;simpa using h.2
theorem u4(h:gQ d e=true):pl d=true/\pl e=true:=by unfold gQ at h;rw[C_,C_]at h;exact h.1
theorem Em(hu:X.A.units+64<cLine):jw X (compareOp .Eq) (Ge X.K false):=by
 intro pins s σ H x y v u Q I rx ry h;refine cC λ_ kq=>?_;obtain⟨dx,dy,h1,h2,hd,q⟩:=h;obtain⟨p1,p2⟩:=u4 hd;obtain⟨as,r1⟩:=dq I dx p1 h1 rx;obtain⟨bs,r2⟩:=dq I dy p2 h2 ry;refine kq (SeqAt.compareEq_reads r1 r2 (gw dx h1) (gw dy h2) (by rw[dR,dR];exact yD hu (uX hd)) ?_)
 all_goals clear kq
 rw[lM _ _ p1 p2];exact⟨.bl _,H,I,rfl,q⟩
theorem EZ(hu:X.A.units+64<cLine):jw X (compareOp .NotEq) (Ge X.K true):=by
 intro pins s σ H x y v u Q I rx ry h;refine cC λ_ kq=>?_;obtain⟨dx,dy,h1,h2,hd,q⟩:=h;obtain⟨p1,p2⟩:=u4 hd;obtain⟨as,r1⟩:=dq I dx p1 h1 rx;obtain⟨bs,r2⟩:=dq I dy p2 h2 ry;refine kq (SeqAt.compareNe_reads r1 r2 (gw dx h1) (gw dy h2) (by rw[dR,dR];exact yD hu (uX hd)) ?_)
 all_goals clear kq
 rw[lM _ _ p1 p2];exact⟨.bl _,H,I,rfl,q⟩
def fV:D->D->Ym:=λa b=>if gQ a b=true then some (.bl (eT a b))else none
def rD:D->D->Ym:=λa b=>if gQ a b=true then some (.bl !eT a b)else none
theorem MI{K:Fg}:cU K .cl fV (Ge K false):=λ{Z H x y dx dy d Q} s h1 h2 e k=>by
 obtain⟨hd,rfl⟩:=nz e;exact⟨dx,dy,h1.rep s,h2.rep s,hd,k _ Z H (Ex.refl s) rfl⟩
theorem Ni{K:Fg}:cU K .cl rD (Ge K true):=λ{Z H x y dx dy d Q} s h1 h2 e k=>by
 obtain⟨hd,rfl⟩:=nz e;exact⟨dx,dy,h1.rep s,h2.rep s,hd,k _ Z H (Ex.refl s) rfl⟩
variable {l r c:Yf}{fa fb fc:Fe}{ga gb gc:Gr}{pos p p2:Pos}{k:Nat}
theorem yu(hr:bM k X.A)(ha:PD X ga l fa)(hb:PD X gb r fb):PD X .cl (.Compare l [.Eq] [r] pos) (aq fV fa fb):=r9 (Em hr.units) MI ha hb (eQ _)
theorem Qb(hr:bM k X.A)(ha:PD X ga l fa)(hb:PD X gb r fb):PD X .cl (.Compare l [.NotEq] [r] pos) (aq rD fa fb):=r9 (EZ hr.units) Ni ha hb (eQ _)
theorem iV(hr:bM k X.A)(ha:PD X ga l fa)(hb:PD X gb r fb):PB X (.Compare l [.Eq] [r] pos) (fB (aq fV fa fb)):=ja (Em hr.units) MI ha hb (eQ _)
theorem Bj(hr:bM k X.A)(ha:PD X ga l fa)(hb:PD X gb r fb):PB X (.Compare l [.NotEq] [r] pos) (fB (aq rD fa fb)):=ja (EZ hr.units) Ni ha hb (eQ _)
def inD(d:D)(es:Yl):Bool:=es.any λe=>eT e d
def mK(neg:Bool):D->D->Ym
 | d,.lst es=>if eJ d<=60/\(pl d&&iy es)=true then some (.bl (if neg then !inD d es else inD d es))else none
 | d,.tup es=>if eJ d<=60/\(pl d&&iy es)=true then some (.bl (if neg then !inD d es else inD d es))else none
 | _,_=>none
def MW(K:Fg)(neg:Bool):R2:=λx y H Q=>∃dx es p ys,Rep K H dx x/\y=.ref p/\(cJ K H p ys\/cM K H p ys)/\ar K H es ys/\(eJ dx<=60/\(pl dx&&iy es)=true)/\Q (.bl (if neg then !inD dx es else inD dx es)) H
noncomputable def dQ(h:Ya)(d:PyData)(y:X7):Bool:=@decide (∃e as,Reads h y e as/\e.canLay0=true/\PyData.eqv e d=true) (Classical.propDecidable _)
theorem pQ(r:Reads h y e as)(c:e.canLay0=true):dQ h d y=PyData.eqv e d:=by
 unfold dQ;cases q:PyData.eqv e d with
 | true=>exact @v_ _ (Classical.propDecidable _) ⟨e,as,r,c,q⟩
 | false=>
  refine @L_ _ (Classical.propDecidable _) λaG=>?_;obtain⟨e',as',r',c',q'⟩:=aG;rw[SeqAt.Reads.unique e' e y as' as c' r' r]at q';rw[q]at q';cases q'
theorem ml(I:Inv X pins σ H s)(dx:D)(hx:pl dx=true):∀{es:Yl}{ys:Yn}{us:XX},iy es=true->ar X.K H es ys->ax ys us->us.any (dQ s.heap (toPy dx))=inD dx es
 | [],_,_,_,h,r=>by cases(show _=[]from h);cases r;rfl
 | e::es,_,_,hp,h,r=>by
  unfold iy at hp;rw[C_]at hp;obtain⟨v,vr,z,h1,h2⟩:=h;subst z;cases r with
  | cons r1 r2=>
   obtain⟨as,q⟩:=dq I e hp.1 h1 r1;have ih:=ml I dx hx hp.2 h2 r2;unfold inD at ih ⊢;rw[List.any_cons,List.any_cons,ih,pQ q (gw e h1),lM _ _ hp.1 hx]
theorem lJ(I:Inv X pins σ H s)(hx:Rep X.K H dx x)(rx:RelV x v)(hu:A.units+64<cLine)(hd:eJ dx<=60)(FL:pl dx=true):∀{es:Yl}{ys:Yn}{us:XX},iy es=true->ar X.K H es ys->ax ys us->
  ∀u∈us,SeqAt.EqAt A s u v (dQ s.heap (toPy dx) u)
 | [],_,_,_,h,r,u,hm=>by cases(show _=[]from h);cases r;cases hm
 | e::es,_,_,hp,h,r,u,hm=>by
  unfold iy at hp;rw[C_]at hp;obtain⟨w,vr,z,h1,h2⟩:=h;subst z;cases r with
  | cons r1 r2=>
   rcases p_.mp hm with rfl | hm
   .obtain⟨as,q⟩:=dq I e hp.1 h1 r1;obtain⟨bs,q2⟩:=dq I dx FL hx rx;rw[pQ q (gw e h1)];exact SeqAt.eqAt_reads _ _ A s _ _ as bs q q2 (gw e h1) (gw dx hx) (by rw[dR,dR];exact yD hu (.inr hd))
   .exact lJ I hx rx hu hd FL hp.2 h2 r2 u hm
theorem yo(hu:X.A.units+66<cLine)(neg:Bool):jw X (compareOp (if neg then .NotIn else .In)) (MW X.K neg):=by
 intro pins s σ H x y v u Q I rx ry h;obtain⟨dx,es,p,ys,h1,rfl,h2,rr,⟨hd,Ot⟩,q⟩:=h;rw[C_]at Ot;obtain⟨FL,Lv⟩:=Ot;cases ry;have Fp:X.A.in1.units+64<cLine:=by show X.A.units+1+64<cLine;lia
 rcases h2 with h2 | h2
 .obtain⟨a5,r',pl,hz⟩:=I.list h2;have ha:=ml I dx FL Lv rr r';have lT:∀y,y∈a5.toArray->SeqAt.EqAt X.A.in1 s y v (dQ s.heap (toPy dx) y):=λy hy=>lJ I h1 rx Fp hd FL Lv rr r' y (by simpa using hy);have fin:EP X pins σ Q (.bool (if neg then !a5.toArray.any (dQ s.heap (toPy dx))else a5.toArray.any (dQ s.heap (toPy dx)))) s:=⟨_,H,I,(by rw[List.any_toArray,ha]<;>rfl),q⟩;cases neg with
  | false=>exact SeqAt.in_listAt _ pl.isList lT fin
  | true=>exact SeqAt.notIn_listAt _ pl.isList lT fin
 .obtain⟨a5,r',pl,hz⟩:=I.tuple h2;have ha:=ml I dx FL Lv rr r';have lT:∀y,y∈a5.toArray->SeqAt.EqAt X.A.in1 s y v (dQ s.heap (toPy dx) y):=λy hy=>lJ I h1 rx Fp hd FL Lv rr r' y (by simpa using hy);have fin:EP X pins σ Q (.bool (if neg then !a5.toArray.any (dQ s.heap (toPy dx))else a5.toArray.any (dQ s.heap (toPy dx)))) s:=⟨_,H,I,(by rw[List.any_toArray,ha]<;>rfl),q⟩;cases neg with
  | false=>exact SeqAt.in_tupleAt _ (show s.heap.IsTuple p a5.toArray from pl) lT fin
  | true=>exact SeqAt.notIn_tupleAt _ (show s.heap.IsTuple p a5.toArray from pl) lT fin
theorem K6{K:Fg}{neg:Bool}:cU K .cl (mK neg) (MW K neg):=λ{Z H x y dx dy d Q} s h1 h2 e k=>by
 cases dy<;>try cases e
 .obtain⟨hd,rfl⟩:=nz e;obtain⟨a,vs,rfl,q,r⟩:=h2.tup s;exact⟨dx,_,a,vs,h1.rep s,rfl,.inr q,ar.mono s _ r,hd,k _ Z H (Ex.refl s) rfl⟩
 .obtain⟨hd,rfl⟩:=nz e;obtain⟨a,vs,rfl,q,r⟩:=h2.lst s;exact⟨dx,_,a,vs,h1.rep s,rfl,.inl q,ar.mono s _ r,hd,k _ Z H (Ex.refl s) rfl⟩
theorem ly(r:bM k A):A.units+66<cLine:=by have:=r.un;lia
theorem QE(hr:bM k X.A)(ha:PD X ga l fa)(hb:PD X gb r fb)(hm:behindInMarks .In r=false:=by rfl):PD X .cl (.Compare l [.In] [r] pos) (aq (mK false) fa fb):=r9 (yo (ly hr) false) K6 ha hb hm
theorem CP(hr:bM k X.A)(ha:PD X ga l fa)(hb:PD X gb r fb)(hm:behindInMarks .In r=false:=by rfl):PB X (.Compare l [.In] [r] pos) (fB (aq (mK false) fa fb)):=ja (yo (ly hr) false) K6 ha hb hm
theorem IQ(hr:bM k X.A)(ha:PD X ga l fa)(hb:PD X gb r fb)(hm:behindInMarks .NotIn r=false:=by rfl):PB X (.Compare l [.NotIn] [r] pos) (fB (aq (mK true) fa fb)):=ja (yo (ly hr) true) K6 ha hb hm
inductive Ty where | int | bool | str | tuple | list
def Ty.nm:Ty->String
 | .int=>"int" | .bool=>"bool" | .str=>"str" | .tuple=>"tuple" | .list=>"list"
def O4:Ty->D->Bool
 | .int,.int _=>true
 | .int,.bl _=>true
 | .bool,.bl _=>true
 | .str,.str _=>true
 | .tuple,.tup _=>true
 | .list,.lst _=>true
 | _,_=>false
def TC:D->String
 | .non=>"NoneType" | .bl _=>"bool" | .int _=>"int" | .str _=>"str" | .tup _=>"tuple" | .lst _=>"list" | .dct _=>"dict" | .st _=>"set" | .ln _=>"dict" | .mp _ _ _=>"dict"
theorem Gh{K:Fg}(T:Ty)(d:D):PySem.W.kitOne K (.type (TC d)) (.type T.nm)=some (O4 T d):=by
 cases T<;>cases d<;>rfl
theorem ET(T:Ty):cS X (.builtin "isinstance") (λxs H Q=>∃x d,xs=[x,.ty T.nm]/\Rep X.K H d x/\Q (.bl (O4 T d)) H):=by
 intro pins s σ H xs us Q I r h;obtain⟨x,d,rfl,hd,q⟩:=h;obtain⟨u,w,rfl,rx,rt⟩:=r.two;cases(show w=Value.type T.nm from rt);have e:=Gh (K:=X.K) T d;have fin:∀tk,EP X pins σ Q (.bool (O4 T d)) {s with toks:=tk}:=λtk=>⟨.bl _,H,I.tok tk,rfl,q⟩;cases d with
 | non=>cases(show x=V.non from hd);cases(show u=Value.none from rx);exact U2 PySem.W.kitx_none I.kIn True.intro e (λz=>nomatch z) fin
 | bl b=>cases(show x=V.bl b from hd);cases(show u=Value.bool b from rx);exact U2 PySem.W.kitx_bool I.kIn True.intro e (λz=>nomatch z) fin
 | int i=>cases(show x=V.int i from hd);obtain⟨t,z⟩:=(show ∃t,u=Value.int i t from rx);cases z;exact U2 PySem.W.kitx_int I.kIn True.intro e (λz=>nomatch z) fin
 | str y=>obtain⟨hd,_⟩:=hd;subst hd;obtain⟨t,z⟩:=(show ∃t,u=Value.str y t from rx);cases z;exact U2 PySem.W.kitx_str I.kIn True.intro e (λz=>nomatch z) fin
 | tup ds=>
  refine cC λ_ kq=>?_;obtain⟨a,vs,e1,hq,rr⟩:=hd;subst e1;cases(show u=Value.ref a from rx);obtain⟨a5,_,⟨o,h1,h2,_⟩,_⟩:=I.tuple hq;exact kq (U2 PySem.W.kitx_tuple I.kIn ⟨o,h1,h2⟩ e (λz=>nomatch z) fin)
 | lst ds=>
  refine cC λ_ kq=>?_;obtain⟨a,vs,e1,hq,rr⟩:=hd;subst e1;cases(show u=Value.ref a from rx);obtain⟨a5,_,pl,_⟩:=I.list hq;obtain⟨o,h1,h2,_⟩:=pl.isList;exact kq (U2 PySem.W.kitx_list I.kIn ⟨o,h1,h2⟩ e (λz=>nomatch z) fin)
 | dct ks=>
  refine cC λ_ kq=>?_;obtain⟨a,e1,hq⟩:=hd;subst e1;cases(show u=Value.ref a from rx);obtain⟨bs,hq,_⟩:=hq;obtain⟨⟨o,es,ep,h1,h2,_⟩,_⟩:=(show bE X.prog X.w H s.heap a (.ext (Kx a ks bs))from I.hok a _ hq);exact kq (U2 Xt I.kIn ⟨o,h1,h2.1⟩ e (λz=>nomatch z) fin)
 | st ps=>
  refine cC λ_ kq=>?_;obtain⟨a,bs,e1,_,hq,_⟩:=hd;subst e1;cases(show u=Value.ref a from rx);obtain⟨⟨o,es,ep,t,h1,h2,_⟩,_⟩:=(show bE X.prog X.w H s.heap a (.ext (kn a ps bs))from I.hok a _ hq);exact kq (U2 PySem.W.kitx_set I.kIn ⟨o,h1,h2.1⟩ e (λz=>nomatch z) fin)
 | ln n=>
  refine cC λ_ kq=>?_;obtain⟨a,e1,hq⟩:=hd;subst e1;cases(show u=Value.ref a from rx);obtain⟨⟨o,es,ep,h1,h2,_⟩,_⟩:=(show bE X.prog X.w H s.heap a (.ext (NP a n))from I.hok a _ hq);exact kq (U2 Xt I.kIn ⟨o,h1,h2.1⟩ e (λz=>nomatch z) fin)
 | mp th ks ds=>
  refine cC λ_ kq=>?_;obtain⟨a,bs,vs,e1,hq,_⟩:=hd;subst e1;cases(show u=Value.ref a from rx);obtain⟨⟨o,es,ep,us,h1,h2,_⟩,_⟩:=(show bE X.prog X.w H s.heap a (.ext (bP th a ks bs vs))from I.hok a _ hq);exact kq (U2 Xt I.kIn ⟨o,h1,h2.1⟩ e (λz=>nomatch z) fin)
def GN(T:Ty):D->Ym:=λd=>some (.bl (O4 T d))
theorem HM(T:Ty):bootBuiltins (Str.ofString T.nm)=some (.type T.nm):=by
 cases T
 .exact PyProof.Rows.boot_int
 .exact PyProof.Rows.boot_bool
 .exact PyProof.Rows.boot_str
 .exact PyProof.Rows.boot_tuple
 .exact PyProof.Rows.boot_list
theorem Fc(T:Ty)(hm:X.mg "isinstance"=none)(hm2:X.mg (Str.ofString T.nm)=none)(ha:PD X ga l fa)(hg:Gl X "isinstance":=by rfl)(hg2:Gl X (Str.ofString T.nm):=by rfl)
  (hn:(Str.ofString T.nm)≠"__name__":=by decide) (nU:((Str.ofString T.nm)==("__debug__":Str))=false:=by decide)
  (he:starEach [l,.Name (Str.ofString T.nm) p2] X.env=(false,eval l X.env)::starEach [.Name (Str.ofString T.nm) p2] X.env:=by rfl) :
  PD X .cl (.Call (.Name "isinstance" p) [l,.Name (Str.ofString T.nm) p2] [] pos) (bC (GN T) fa):=by
 refine PE.imp (k9 (ET T) hg hm PyProof.Rows.boot_isinstance (bL ha (bL (HG hg2 hm2 (HM T) (show RelV (.ty T.nm) (.type T.nm)from rfl) hn nU) dX rfl) he) (by decide) (by decide) he rfl) λσ H Q aG=>?_;refine cC λ_ kq=>?_;obtain⟨env,B,Z,d,R,e,k⟩:=aG;obtain⟨x,h1,h2⟩:=a_.mp e;cases h2;exact kq (⟨env,B,Z,x,R,h1,λv Z1 H1 x1 g1=>⟨v,x,rfl,g1.rep x1.zh,k _ Z1 H1 x1 rfl⟩⟩)
end
section
variable {elt:Yf}{gens:XW}{scope:Yd}{pos:Pos}{d:Nat}{tg iter:Yf}{ifs:X1}{it acc:X7}{env:Env}
def AG(ce tg iter:Yf)(ifs:X1)(d:Nat)(it acc:X7)(env:Env)(em:Sem Unit):Sem Fin:=do
  standAt iter.pos
  match <- pyNext it with
  | none=>pure (.done .next)
  | some v=>
   letOwnedTupleGo tg it v
   assign tg env v
   let ok <- forIn ifs true λc r=>if r=true then do let ok <- isTrue c env (eval c env);pure (ForInStep.yield ok)else pure (ForInStep.yield r)
   if ok then em
   again (.compLoop ce d it acc env)
def z9(ce tg iter cx:Yf)(ifs:X1)(d:Nat)(it acc:X7)(env:Env):Sem Fin:=do
  standAt iter.pos
  match <- pyNext it with
  | none=>pure (.done .next)
  | some v=>
   letOwnedTupleGo tg it v
   assign tg env v
   let ok <- forIn ifs true λc r=>if r=true then do let ok <- isTrue c env (eval c env);pure (ForInStep.yield ok)else pure (ForInStep.yield r)
   if ok=true then(do
    let x <- eval cx env
    standAt cx.pos
    let x <- foldedSetIterable cx env x
    let i' <- holding [x] (pyIter x)
    let _ <- runOwn (.compStart ce (d+1) i' acc env) env
    again (.compLoop ce d it acc env))
   else again (.compLoop ce d it acc env)
theorem rn(h:gens[d]?=some ⟨tg,iter,ifs,0⟩)(h2:gens[d+1]?=none):compTurn (.ListComp elt gens scope pos) d it acc env=AG (.ListComp elt gens scope pos) tg iter ifs d it acc env (do let _ <- call (.builtin "list.append") [acc,<- eval elt env]):=by
 unfold compTurn;simp only[h,h2]
 rfl
theorem Ci(h:gens[d]?=some ⟨tg,iter,ifs,0⟩)(h2:gens[d+1]?=some ⟨zc,cx,nE,0⟩):compTurn (.ListComp elt gens scope pos) d it acc env=z9 (.ListComp elt gens scope pos) tg iter cx ifs d it acc env:=by
 unfold compTurn;simp only[h,h2]
 rfl
end
def iO(lk:Str->XY):List (Str×NameKind)->XT->Option XT
 | [],acc=>some acc
 | (n,k)::r,acc=>if(k==.free)=true then(lk n).bind λc=>iO lk r ((n,c)::acc)else iO lk r acc
theorem mB:∀(names:List (Str×NameKind))(acc cl:XT),iO (λx=>env.cells.lookup x) names acc=some cl->
  (forIn names acc λ(x:Str×NameKind) (r:XT)=>(do if x.2==.free then(do let c <- cellOf env x.1;pure (ForInStep.yield ((x.1,c)::r)))else pure (ForInStep.yield r)):Sem XT)=pure cl
 | [],acc,cl,h=>by cases h;rfl
 | (n,k)::r,acc,cl,h=>by
  rw[List.forIn_cons];unfold iO at h
  by_cases hk:(k==NameKind.free)=true
  .rw[j_ hk]at h;obtain⟨c,h1,h2⟩:=a_.mp h;have Lr:cellOf env n=pure c:=by unfold cellOf;rw[show env.cells.lookup n=some c from h1]
   simp only[hk,Vi,Lr,pure_bind];exact mB r _ cl h2
  .rw[h_ hk]at h;simp only[hk,Uu,pure_bind];exact mB r _ cl h
theorem iB(h:iO (λx=>env.cells.lookup x) scope.names []=some cl):closureFor scope env=pure cl:=by
 have:=mB scope.names [] cl h;unfold closureFor;simp only;rw[this]
 rfl
theorem g0:∀{names:List (Str×NameKind)}{acc cl:XT},iO lk names acc=some cl->(∀p∈acc,lk p.1=some p.2)->∀p∈cl,lk p.1=some p.2
 | [],acc,cl,h,ha=>by cases h;exact ha
 | (n,k)::r,acc,cl,h,ha=>by
  unfold iO at h
  split at h
  .obtain⟨c,h1,h2⟩:=a_.mp h;exact g0 h2 λp hp=>by
    rcases p_.mp hp with rfl | hp
    .exact h1
    .exact ha p hp
  .exact g0 h ha
theorem gZ:∀{names:List (Str×NameKind)}{acc cl:XT},iO lk names acc=some cl->∀x,((x,NameKind.free)∈names\/∃c,(x,c)∈acc)->∃c,(x,c)∈cl
 | [],acc,cl,h,x,hx=>by
  cases h;rcases hx with hx | hx
  .cases hx
  .exact hx
 | (n,k)::r,acc,cl,h,x,hx=>by
  unfold iO at h
  split at h
  .rename_i hk;obtain⟨c,h1,h2⟩:=a_.mp h;refine gZ h2 x ?_;rcases hx with hx | ⟨c',hx⟩
   .rcases p_.mp hx with e | hx
    .cases e;exact .inr ⟨c,g_⟩
    .exact .inl hx
   .exact .inr ⟨c',f_ _ hx⟩
  .rename_i hk;refine gZ h x ?_;rcases hx with hx | hx
   .rcases p_.mp hx with e | hx
    .cases e;exact absurd rfl hk
    .exact .inl hx
   .exact .inr hx
theorem cT:∀{cl:XT},(x,c)∈cl->∃c',cl.lookup x=some c'
 | [],h=>by cases h
 | (y,b)::r,h=>by
  by_cases e:(x==y)=true
  .exact⟨b,by simp[U5,e]⟩
  .rcases p_.mp h with z | z
   .cases z;exact absurd (XB x) e
   .obtain⟨c',h'⟩:=cT z;exact⟨c',by simp[U5,e,h']⟩
theorem eo{scope:Yd}{env:Env}:∀{names:List (Str×NameKind)}{x:Str}{k:NameKind},
  (names.map λ(n,k)=>if(k==NameKind.free&&env.scope.kind==.function&&env.kindOf n==some .cell)then(n,NameKind.cell)else(n,k)).lookup x=some k->k=.cell\/k=.free->(x,NameKind.free)∈names\/(x,NameKind.cell)∈names
 | [],x,k,h,_=>by simp at h
 | (n,q)::r,x,k,h,hk=>by
  simp only[A_]at h
  by_cases hc:(q==NameKind.free&&env.scope.kind==.function&&env.kindOf n==some .cell)=true
  .rw[j_ hc]at h;simp only[U5]at h;cases e:x==n with
   | true=>
    have e':=eq_of_beq e;subst e';simp only[C_,Xh]at hc;exact .inl (by rw[hc.1.1];exact g_)
   | false=>
    rw[e]at h;rcases eo (scope:=scope) h hk with z | z
    .exact .inl (f_ _ z)
    .exact .inr (f_ _ z)
  .rw[h_ hc]at h;simp only[U5]at h;cases e:x==n with
   | true=>
    rw[e]at h;have e':=eq_of_beq e;subst e';cases h;rcases hk with rfl | rfl
    .exact .inr g_
    .exact .inl g_
   | false=>
    rw[e]at h;rcases eo (scope:=scope) h hk with z | z
    .exact .inl (f_ _ z)
    .exact .inr (f_ _ z)
def fF(X:Cx)(scope:Yd)(cl:XT)(Nc:XZ)(C:Ye)(s:X8)(H:Hp)(ex:X0)(pn:XQ):Cx:=
 {X with N:=Nc,s₀:=s,H₀:=H,env:=compEnvC scope cl C X.env,outer:=X.stack,stack:=X.stack,ex:=ex,fn:=λ_=>false,pn:=pn,xe:=λ_ _=>False}
def nu(n:Nat)(caps:X3)(σ:L2.St):L2.St:=List.replicate n none++caps.map λj=>(σ[j]?).getD none
def dj(n:Nat)(caps:X3)(env:En):En:=List.replicate n .un++caps.map λj=>match env[j]? with | some (.F d)=>.F d | _=>.un
def kU(X:Cx)(scope:Yd)(caps:X3):Bool:=caps.all λj=>match X.N[j]? with
 | some x=>(X.env.scope.names.lookup x==some .cell||X.env.scope.names.lookup x==some .free)&&scope.names.lookup x==some .free
 | none=>false
theorem ij{env:Env}:∀{names:List (Str×NameKind)}{x:Str},names.lookup x=some .free->
  (names.map λ(n,k)=>if(k==NameKind.free&&env.scope.kind==.function&&env.kindOf n==some .cell)then(n,NameKind.cell)else(n,k)).lookup x=some .free\/
  (names.map λ(n,k)=>if(k==NameKind.free&&env.scope.kind==.function&&env.kindOf n==some .cell)then(n,NameKind.cell)else(n,k)).lookup x=some .cell
 | [],x,h=>by simp at h
 | (n,q)::r,x,h=>by
  simp only[A_];simp only[U5]at h;cases e:x==n with
  | true=>
   rw[e]at h;cases h
   by_cases hc:(NameKind.free==NameKind.free&&env.scope.kind==.function&&env.kindOf n==some .cell)=true
   .rw[j_ hc];simp[U5,e]
   .rw[h_ hc];simp[U5,e]
  | false=>
   rw[e]at h
   by_cases hc:(q==NameKind.free&&env.scope.kind==.function&&env.kindOf n==some .cell)=true
   .rw[j_ hc];simp only[U5,e];exact ij h
   .rw[h_ hc];simp only[U5,e];exact ij h
section
variable {X:Cx}{pins:XQ}{σ:L2.St}{H:Hp}{s:X8}{scope:Yd}{cl:XT}{Nc own:XZ}{caps:X3}{fp:X0}
theorem g9(I:Inv X pins σ H s)(h1:b≠X.env.locals)(h2:b∉X.fs):b∉xn X.stack:=λhb=>(p_.mp (I.stkSub b hb)).elim h1 h2
theorem wt{h1:Ya}{tk:Nat}{m:XS}(I:Inv X pins σ H s)(gv:iO (λx=>X.env.cells.lookup x) scope.names []=some cl)(ck:scope.kind=.function)(hnc:∀y∈scope.names,y.2≠.cell)
  (hfp:∀b∈fp,cf X pins H b) (w6:∀b∈fp,b<s.sz) (hN:Nc.map some=own.map some++caps.map (λj=>X.N[j]?)) (iD:kU X scope caps=true)
  (Cz:h1.Ns s.sz m) (hk:∀b o,s.heap.get? b=some o->h1.get? b=some o) :
  Inv (fF X scope cl Nc s.sz s H fp (X.pn++pins)) [] (nu own.length caps σ) H {s with heap:=h1,toks:=tk}:=by
 have mem:=g0 gv (λp hp=>by cases hp);have low:∀x c,cl.lookup x=some c->X.env.cells.lookup x=some c:=λx c h=>mem (x,c) (Uo h);have cellAt:∀x c,cl.lookup x=some c->c<s.sz:=λx c h=>by
  obtain⟨v,q⟩:=I.cell x c (low x c h);exact q.lt
 refine⟨⟨I.ok.mod,ck,I.ok.glob,I.ok.blt,m_ _,λx y c h1 h2=>I.ok.inj x y c (low x c h1) (low y c h2),λx hx=>?_,λx c hf _=>absurd (show false=true from hf) J_,I.ok.hd,I.ok.frames,.inl rfl,λb hb=>⟨B_ (w6 b hb),λx c h=>(hfp b hb).2.2.2.2.1 x c (low x c h)⟩,
   I.bs,G_ I.ok.bsz I.sz,λb o e hb=>?_,λb hb hf=>g9 I (hfp b hb).2.1 (hfp b hb).2.2.1 hf,I.stack,I.stkFree,I.tb⟩,
  rfl,I.bare,Un.kept hk,⟨m,Cz,λi x v e1 e2 e3=>?_⟩,λx c h=>?_,I.hok.fresh (m_ _),λx c h=>I.freeC x c (low x c h),λp hp=>?_,I.hok.kept hk,?_⟩
 .have uO:(relabel scope X.env).names.lookup x=some .cell\/(relabel scope X.env).names.lookup x=some .free:=hx;have Fu:(x,NameKind.free)∈scope.names:=by
   rcases uO with h | h
   .rcases eo (scope:=scope) h (.inl rfl)with z | z
    .exact z
    .exact absurd rfl (hnc _ z)
   .rcases eo (scope:=scope) h (.inr rfl)with z | z
    .exact z
    .exact absurd rfl (hnc _ z)
  obtain⟨c,hc⟩:=gZ gv x (.inl Fu);exact cT hc
 .rcases(hfp b hb).2.2.2.1 with z | z
  .exact I.ok.noex b o e z
  .exact absurd (Q_ (q_ e) (G_ I.ok.bsz z)) (VJ _)
 .have Jk:own.length<=i:=by
   by_cases hi:i<own.length
   .unfold nu at e2;rw[S_ (by simpa using hi),US,j_ hi]at e2;cases e2
   .lia
  unfold nu at e2;rw[R_ (by simpa using Jk),o_]at e2;simp only[VB]at e2;cases hj:caps[i-own.length]? with
  | none=>rw[hj]at e2;cases e2
  | some j=>
   rw[hj]at e2;have w8:(σ[j]?).getD none=some v:=Option.some.inj e2;have hσ:σ[j]?=some (some v):=by
    cases q:σ[j]? with
    | none=>rw[q]at w8;cases w8
    | some o=>rw[q]at w8;exact UW some w8
   have hx:X.N[j]?=some x:=by
    have h1:(Nc.map some)[i]?=some (some x):=by rw[o_,show Nc[i]?=some x from e1];rfl
    rw[hN,R_ (by simpa using Jk),o_]at h1;simp only[c_]at h1;rw[hj]at h1;exact Option.some.inj h1
   have hc1:=D_.mp iD j (I_ hj);rw[hx]at hc1;simp only[C_,XH,Xh]at hc1;obtain⟨hc1,qK⟩:=hc1;obtain⟨m0,Q4,Q5⟩:=I.loc;obtain⟨u,ru,lk⟩:=Q5 j x v hx hσ (.inr hc1);refine⟨u,ru,.inr ?_⟩;have Q6:∃c,X.env.cells.lookup x=some c/\s.heap.IsCell c (some u):=by
    rcases lk with ⟨h1,_⟩ | ⟨_,c,h1,h2⟩
    .have Lr:X.env.scope.names.lookup x=some .local:=h1;rcases hc1 with z | z<;>· rw[Lr]at z;cases z
    .exact⟨c,h1,h2⟩
   obtain⟨c,Q7,Q8⟩:=Q6;obtain⟨c',hc'⟩:=gZ gv x (.inl (Uo qK));obtain⟨Q9,Fv⟩:=cT hc';have e4:=low x Q9 Fv;rw[Q7]at e4;cases e4;refine⟨?_,c,Fv,?_⟩
   .rcases ij (env:=X.env) qK with z | z
    .exact .inr z
    .exact .inl z
   .obtain⟨o,ho,hd⟩:=Q8;exact⟨o,hk c o ho,hd⟩
 .obtain⟨v,o,ho,hd⟩:=I.cell x c (low x c h);exact⟨v,o,hk c o ho,hd⟩
 .have Pv:p∈X.pn++pins:=by simpa [fF]using hp
  obtain⟨h1,h2,h3,h4,h5⟩:=I.pin p Pv;exact⟨hk _ _ h1,h2,B_ (q_ h1),g9 I h3 h4,h5⟩
 .have:=UW List.length hN;simp only[c_,x_]at this;simp only[nu,x_,VB,c_];exact this.symm
end
def dH(is:X3)(env:En):Bool:=is.all λi=>match env[i]? with | some .un=>true | _=>false
def fW(t:Ft)(c:Fb)(k:Yj)(env:En):Yl->Yk
 | []=>some []
 | d::ds=>(t d env).bind λe1=>(c e1).bind λb=>(if b=true then k e1 else some []).bind λxs=>(fW t c k env ds).bind λys=>some (xs++ys)
structure qb(is:List Nat)(t:Ft):Prop where
 len:∀{d:D}{env env':En},t d env=some env'->env'.length=env.length
 oth:∀{d:D}{env env':En},t d env=some env'->∀(j:Nat),j∉is->env'[j]?=env[j]?
 noO:∀{d:D}{env env':En},t d env=some env'->∀(j:Nat)(ds:uE),env'[j]?=some (.O ds)->env[j]?=some (.O ds)
theorem Ay{env:En}{i:Nat}{d:D}{j:Nat}{ds:uE}(h:(env.set i (.F d))[j]?=some (.O ds)):env[j]?=some (.O ds):=by
 by_cases e:i=j
 .subst e
  by_cases hl:i<env.length
  .rw[t_ hl]at h;cases h
  .rw[T9 (by simpa using Ve hl)]at h;cases h
 .rw[i_ e]at h;exact h
theorem bg(i:Nat):qb [i] (bw i):=⟨λh=>by cases h;simp,λh j hj=>by cases h;exact i_ (λz=>hj (by simp[z])),λh j ds hj=>by cases h;exact Ay hj⟩
theorem jF:∀{is:X3}{ds:Yl}{env env':En},fD is ds env=some env'->env'.length=env.length/\(∀(j:Nat),j∉is->env'[j]?=env[j]?)/\∀(j:Nat)(es:uE),env'[j]?=some (.O es)->env[j]?=some (.O es)
 | [],[],env,env',h=>by cases h;exact⟨rfl,λ_ _=>rfl,λ_ _ h=>h⟩
 | i::is,d::ds,env,env',h=>by
  obtain⟨h1,h2,h3⟩:=jF (ds:=ds) h;refine⟨by simpa using h1,λj hj=>?_,λj es hj=>Ay (h3 j es hj)⟩;rw[h2 j λz=>hj (f_ _ z)];exact i_ λz=>hj (by simp[z])
 | [],_::_,_,_,h=>by cases h
 | _::_,[],_,_,h=>by cases h
theorem tK(h:lU is d env=some env'):∃ds,fD is ds env=some env':=by
 cases d with
 | tup ds=>exact⟨ds,h⟩
 | _=>cases h
theorem kJ(is:X3):qb is (lU is):=
 ⟨λh=>let ⟨_,q⟩:=tK h;(jF q).1,λh=>let ⟨_,q⟩:=tK h;(jF q).2.1,λh=>let ⟨_,q⟩:=tK h;(jF q).2.2⟩
theorem Rl.forget{K:Fg}{B Z H:Hp}{e1 env:En}{σ:L2.St}{is:X3}(R:Rl K B Z H e1 σ)(hl:e1.length=env.length)(ho:∀(j:Nat),j∉is->e1[j]?=env[j]?)(hu:dH is env=true):Rl K B Z H env σ:=by
 have key:∀(j:Nat) s,env[j]?=some s->s=.un\/e1[j]?=some s:=λj s h=>by
  by_cases hj:j∈is
  .have:=D_.mp hu j hj;rw[h]at this;cases s with
   | un=>exact .inl rfl
   | F d=>cases this
   | O ds=>cases this
  .exact .inr ((ho j hj).trans h)
 have Lw:∀(j:Nat) ds,env[j]?=some (.O ds)->e1[j]?=some (.O ds):=λj ds h=>by
  rcases key j _ h with z | z
  .cases z
  .exact z
 refine⟨R.bh,R.zh,hl.symm.trans R.len,λj s h=>?_,λj ds a h=>R.ob j ds a (Lw j ds h),λi j ds es a hne h1 h2=>R.ap i j ds es a hne (Lw i ds h1) (Lw j es h2)⟩;rcases key j s h with rfl | z
 .have hj:j < σ.length:=by rw[<- R.len,hl];exact(k_.mp h).1
  exact⟨σ[j],by simp[hj],trivial⟩
 .exact R.sl j s z
theorem Rl.other{K:Fg}{B Z H:Hp}{env:En}{σ:L2.St}{a:Ye}{o:HO}(R:Rl K B Z H env σ)(hb:B a=none)(hz:Z a=none)(nO:∀(i:Nat) ds,env[i]?≠some (.O ds)):Rl K B Z (upd H a o) env σ:=
 ⟨c6 R.bh hb,c6 R.zh hz,R.len,λj s h=>by
  obtain⟨x,e,q⟩:=R.sl j s h;refine⟨x,e,?_⟩;cases s with
  | un=>trivial
  | F d=>exact q
  | O ds=>exact absurd h (nO j ds),R.ob,R.ap⟩
abbrev Qv:=Ye->Hp->Hp->Yl->Yn->Prop
def QT:Qv:=λ_ _ _ _ _=>True
structure Ou(qv:Qv):Prop where
 nil:∀{a B H},qv a B H [] []
 mon:∀{a B H H' pre vs},(∀b o,b≠a->H b=some o->H' b=some o)->qv a B H pre vs->qv a B H' pre vs
 base:∀{a B B' H pre vs},aF B B'->qv a B' H pre vs->qv a B H pre vs
theorem JC:Ou QT:=⟨trivial,λ_ _=>trivial,λ_ _=>trivial⟩
abbrev Qa:=Hp->Hp->Hp->Yl->Prop
structure Ik(a:Addr)(qa:Qa):Prop where
 ne:∀{B Z H pre},qa B Z H pre->H a≠none
 mon:∀{B Z H Z' H' pre},Ex Z H Z' H'->qa B Z H pre->qa B Z' H' pre
structure Ac(X:Cx)(qa:Qa)(pins:List (Addr×Obj))(a:Addr)(B Z H:Hp)(env:En)(σ:L2.St)(pre:List D)(s:Shared):Prop where
 I:Inv X pins σ H s
 R:Rl X.K B Z H env σ
 nO:∀(i:Nat) ds,env[i]?≠some (.O ds)
 hb:B a=none
 hz:Z a=none
 ac:qa B Z H pre
abbrev qL(K:Fg)(qv:Qv)(a:Ye):Qa:=λB Z H pre=>∃vs,H a=some (.lst vs)/\ar K Z pre vs/\qv a B H pre vs
theorem IC{K:Fg}{qv:Qv}{a:Ye}(qo:Ou qv):Ik a (qL K qv a):=⟨λ⟨vs,h,_⟩ z=>(by rw[z]at h;cases h),λx ⟨vs,h,r,q⟩=>⟨vs,x.h _ _ h,ar.mono x.z _ r,qo.mon (λb o _ h=>x.h b o h) q⟩⟩
abbrev QD(X:Cx)(qv:Qv)(pins:XQ)(a:Ye)(B Z H:Hp)(env:En)(σ:L2.St)(pre:Yl)(s:X8):Prop:=Ac X (qL X.K qv a) pins a B Z H env σ pre s
abbrev BdT:=(X8->Prop)->XO->X8->Prop
def Bu(X:Cx)(qa:Qa)(a:Ye)(Bd:BdT)(k:Yj):Prop:=∀(pins:XQ)(s:X8)(σ:L2.St)(H B Z:Hp)(env:En)(pre xs:Yl)(P:X8->Prop)(E:XO),
 Ac X qa pins a B Z H env σ pre s->k env=some xs->pre.length+xs.length<=16000000->(∀s' σ' H' Z',Ac X qa pins a B Z' H' env σ' (pre++xs) s'->Ex Z B Z' H'->P s')->Bd P E s
abbrev Act(X:Cx)(qv:Qv)(a:Ye)(Bd:BdT)(k:Yj):Prop:=Bu X (qL X.K qv a) a Bd k
def P8(X:Cx)(em:Sem Unit):BdT:=λP E s=>wpAny (model X.prog X.w) X.A em (λ_ s'=>P s') E s
structure Fw(P:Program)(w:World)(ce:Expr):Prop where
 lp:∀{A:Around}{d:Nat}{it acc:Value}{env:Env}{Q:Fin->Shared->Prop}{E:Value->Shared->Prop}{s:Shared},wpAny (model P w) A ((compTurn ce d it acc env).onRaise (λx=>do noteFrame x env;theTreesLotGoes x)) Q E s->wpAny (model P w) (A.under (.compLoop ce d it acc env)) ((model P w).den (.compLoop ce d it acc env)) Q E s
 st:∀{A:Around}{d:Nat}{it acc:Value}{env:Env}{Q:Fin->Shared->Prop}{E:Value->Shared->Prop}{s:Shared},wpAny (model P w) A ((compStart ce d it acc env).onRaise (λx=>do noteFrame x env;standAt theWindowsPlace)) Q E s->wpAny (model P w) (A.under (.compStart ce d it acc env)) ((model P w).den (.compStart ce d it acc env)) Q E s
theorem Qe{P:X9}{w:Yb}{elt:Yf}{gens:XW}{scope:Yd}{pos:Pos}:Fw P w (.ListComp elt gens scope pos):=⟨λh=>h,λh=>h⟩
def Tw(X:Cx)(ce:Yf)(d:Nat)(it:Ye)(acc:X7)(tg:Yf)(ifs:X1)(Bd:BdT):Prop:=∀(s:X8)(Q:Fin->X8->Prop)(E:XO),
   wpAny (model X.prog X.w) X.A (pyNext (.ref it)) (λr s1=>match r with
    | none=>Q (.done .next) s1
    | some v=>wpAny (model X.prog X.w) X.A (letOwnedTupleGo tg (.ref it) v) (λ_ s2=>wpAny (model X.prog X.w) X.A (assign tg X.env v) (λ_ s3=>
      wpAny (model X.prog X.w) X.A (forIn ifs true λc r=>if r=true then do let ok <- isTrue c X.env (eval c X.env);pure (ForInStep.yield ok)else pure (ForInStep.yield r)) (λok s4=>
       if ok=true then Bd (λs5=>Q (.again (.compLoop ce d (.ref it) acc X.env)) s5) E s4 else Q (.again (.compLoop ce d (.ref it) acc X.env)) s4) E s3) E s2) E s1) E s->
   wpAny (model X.prog X.w) X.A (compTurn ce d (.ref it) acc X.env) Q E s
section
variable {X:Cx}{a:Ye}{elt:Yf}{fe:Fe}
def aC(f:Fe):Yj:=λenv=>(f env).bind λd=>some [d]
abbrev EE(X:Cx)(a:Ye)(elt:Yf):BdT:=P8 X (do let _ <- call (.builtin "list.append") [.ref a,<- eval elt X.env])
theorem Ec(hx:∀e s,¬X.xe e s)(h:PD X .cl elt fe):Act X QT a (EE X a elt) (aC fe):=by
 intro pins s σ H B Z env pre xs P E A e hl hP;refine cC λ_ kq=>?_;obtain⟨d,e1,e2⟩:=a_.mp e;cases e2;obtain⟨vs,hv,rr,_⟩:=A.ac;refine kq (b_ (Ur (h pins s σ H _ A.I ⟨env,B,Z,d,A.R,e1,λv Z1 H1 x1 g1=>(show ∃Z1,Ex Z H Z1 H1/\Rep X.K Z1 d v from⟨Z1,x1,g1⟩)⟩) (λu s1 aG=>?_) λe s z=>(hx e s z).elim))
 all_goals clear kq
 obtain⟨v,H1,I1,r1,Z1,x1,g1⟩:=aG;have hne:H a≠none:=by rw[hv];simp
 refine b_ (Ur (md pins s1 σ H1 (.ref a) [v] (.ref a) [u] (λy H2=>H2=upd H1 a (.lst (vs++[v]))) I1 rfl (.cons r1 .nil) ⟨a,vs,v,rfl,rfl,x1.h _ _ hv,by rw[<- rr.len,Um];simp at hl;lia,rfl⟩) (λw s2 aG=>?_) λe s z=>(hx e s z).elim);obtain⟨y,H2,I2,r2,q⟩:=aG;subst q;have hz1:=x1.fr a hne A.hz;have R1:=A.R.ext x1;refine d_ (hP s2 σ _ Z1 ⟨I2,R1.other A.hb hz1 A.nO,A.nO,A.hb,hz1,vs++[v],ay,(ar.mono x1.z pre rr).app (ar.one g1),trivial⟩ ?_);exact⟨c6 R1.bh A.hb,x1.z,c6 R1.zh hz1,λb hb e=>x1.fr b (mr A.R.bh hb) e,x1.nf⟩
def Es(X:Cx)(ifs:X1)(c:Fb):Prop:=∀(pins:XQ)(s:X8)(σ:L2.St)(H:Hp)(Q:Bool->Hp->Prop)(E:XO),Inv X pins σ H s->TB X.K c σ H Q->
 wpAny (model X.prog X.w) X.A (forIn ifs true λc r=>if r=true then do let ok <- isTrue c X.env (eval c X.env);pure (ForInStep.yield ok)else pure (ForInStep.yield r)) (TP X pins σ Q) E s
theorem bD:Es X [] Yt:=λpins s σ H Q E I aG=>by
 obtain⟨env,B,Z,b,R,e,k⟩:=aG;cases e;exact wpAny_tests_nil ⟨H,I,k Z H (Ex.refl R.zh)⟩
theorem fN(hx:∀e s,¬X.xe e s)(h:PB X c f):Es X [c] f:=λpins s σ H Q E I q=>
 wpAny_tests_one (Ur (h pins s σ H Q I q) (λ_ _ z=>z) λe s z=>(hx e s z).elim)
theorem mL{ce:Yf}{qa:Qa}(co:Fw X.prog X.w ce)(qo:Ik a qa)
  (hx:∀e s,¬X.xe e s) (a7:X.calm=true) (T:Turn X.prog X.w X.K tg J fp it tn) (hg:GD X tg t) (ht:qb is t) (CA:Es X ifs c) (qd:Bu X qa a Bd k)
  (Fx:Tw X ce dd it acc tg ifs Bd) (A:Ac X qa pins a B Z H env σ pre s) (hfp:∀b∈fp,cf X pins H b) (htn:tn 0 s.heap) (hw:Walk X.K Z ds J) (hu:dH is env=true)
  (Fy:fW t c k env ds=some xs) (hl:pre.length+xs.length<=16000000) (hR:∀s' σ' H' Z',Ac X qa pins a B Z' H' env σ' (pre++xs) s'->Ex Z B Z' H'->(∀b∈fp,H' b=none)->R (.ok .next) s') :
  codeAny (model X.prog X.w) X.A (.compLoop ce dd (.ref it) acc X.env) R s:=by
 have zb:∀{H':Hp},(∀b∈fp,H' b=none)->∀b∈fp,cf X pins H' b:=λhn b hb=>⟨hn b hb,(hfp b hb).2⟩;refine codeAny_loop rfl (λn s'=>∃i σ' H' Z' pre' rest,Ac X qa pins a B Z' H' env σ' pre' s'/\tn i s'.heap/\(∀b∈fp,H' b=none)/\n=ds.length-i/\i<=ds.length/\Ex Z B Z' H'/\fW t c k env (ds.drop i)=some rest/\pre'++rest=pre++xs)
  (λn s1 hI=>?_) ds.length ⟨0,σ,H,Z,pre,xs,A,htn,λb hb=>(hfp b hb).1,by simp,UY _,⟨A.R.bh,aF.refl _,A.R.zh,λ_ _ h=>h,λ_ _ _ h=>h⟩,by simpa using Fy,rfl⟩
 obtain⟨i,σ1,H1,Z1,Il,rest,A1,SJ,Ra,rfl,hi,x1,CB,gF⟩:=hI;refine co.lp (wpAny_noted (Fx s1 _ _ ?_));obtain⟨w1,w2⟩:=hw Z1 H1 x1.z A1.R.zh i
 by_cases hlt:i<ds.length
 .obtain⟨go,yl⟩:=w1 hlt;refine bF (T.item X rfl rfl rfl a7 i pins s1 σ1 H1 _ A1.I (zb Ra) SJ go) λr s2 aG=>?_;obtain⟨u,hr,h2⟩:=aG;subst hr;refine bF h2 λ_ s3 aG=>?_;refine cC λ_ kq=>?_;obtain⟨x,H3,I3,r3,y3,Rb,Po⟩:=aG;obtain⟨Z3,d,x3,hd,rep3⟩:=yl x H3 y3;have Lu:ds.drop i=d::ds.drop (i+1):=by
   obtain⟨h1,h2⟩:=k_.mp hd;rw[Uy h1,h2]
  rw[Lu]at CB;unfold fW at CB;obtain⟨e1,g1,CB⟩:=a_.mp CB;obtain⟨b,g2,CB⟩:=a_.mp CB;obtain⟨ys,g3,CB⟩:=a_.mp CB;obtain⟨zs,g4,CB⟩:=a_.mp CB;cases CB;have I3':=I3.pinned (zb Po) (T.obj _ _ Rb);have hne:=qo.ne A1.ac;have hz3:=x3.fr a hne A1.hz;have R3:=A1.R.ext x3;refine kq (Ur (hg _ s3 σ1 H3 x u (λσ4 H4=>H4=H3/\Rl X.K B Z3 H3 e1 σ4) I3' r3 ⟨env,B,Z3,d,e1,R3,rep3,g1,λσ4 R4=>⟨rfl,R4⟩⟩) (λ_ s4 aG=>?_) λe s z=>(hx e s z).elim)
  all_goals clear kq
  obtain⟨σ4,H4,I4,h4,R4⟩:=aG;subst h4;have Jl:∀(s7:X8)(σ7:L2.St)(H7 Z7:Hp)(Im:Yl),Ac X qa (pins++mz fp s3.heap) a B Z7 H7 e1 σ7 Im s7->Ex Z B Z7 H7->Im++zs=pre++xs->
    ∃m,m<ds.length-i/\∃i σ' H' Z' pre' rest,Ac X qa pins a B Z' H' env σ' pre' s7/\tn i s7.heap/\(∀b∈fp,H' b=none)/\m=ds.length-i/\i<=ds.length/\Ex Z B Z' H'/\fW t c k env (ds.drop i)=some rest/\pre'++rest=pre++xs:=by
   intro s7 σ7 H7 Z7 Im A7 x7 h7;have Ov:∀b∈fp,∀o,s3.heap.get? b=some o->s7.heap.get? b=some o/\H7 b=none:=λb hb o e=>
    let q:=A7.I.pin (b,o) (N_ _ (N_ _ (ku hb e)))
    ⟨q.1,q.2.1⟩
   refine⟨ds.length-(i+1),by lia,i+1,σ7,H7,Z7,Im,zs,⟨A7.I.unpinned,A7.R.forget (ht.len g1) (ht.oth g1) hu,A1.nO,A7.hb,A7.hz,A7.ac⟩,T.keep _ _ _ Rb λb hb o e=>(Ov b hb o e).1,λb hb=>?_,rfl,hlt,x7,g4,h7⟩;obtain⟨o,e,_⟩:=T.obj _ _ Rb b hb;exact(Ov b hb o e).2
  refine bF (CA _ s4 σ4 H4 (λb' H5=>b'=b/\∃Z5,Ex Z3 H4 Z5 H5) _ I4 ⟨e1,B,Z3,b,R4,g2,λZ5 H5 x5=>⟨rfl,Z5,x5⟩⟩) λok s5 aG=>?_;obtain⟨H5,I5,hok,Z5,x5⟩:=aG;subst hok;have hne4:H4 a≠none:=mr x3.h hne;have hz5:=x5.fr a hne4 hz3;have x35:=x3.trans x5;have A5:Ac X qa (pins++mz fp s3.heap) a B Z5 H5 e1 σ4 Il s5:=⟨I5,R4.ext x5,λj es h=>A1.nO j es (ht.noO g1 j es h),A1.hb,hz5,qo.mon x35 A1.ac⟩;have xB:Ex Z B Z5 H5:=x1.transB (x35.part A1.R.bh);cases ok with
  | false=>
   rw[h_ (by simp)]at g3;cases g3;rw[h_ (by simp)];exact⟨rfl,Jl s5 σ4 H5 Z5 Il A5 xB (by simpa using gF)⟩
  | true=>
   rw[j_ rfl]at g3;rw[j_ rfl];have hlen:=UW List.length gF;simp only[x_]at hlen;exact qd _ s5 σ4 H5 B Z5 e1 Il ys _ _ A5 g3 (by lia) λs7 σ7 H7 Z7 A7 x7=>⟨rfl,Jl s7 σ7 H7 Z7 (Il++ys) A7 (xB.transB x7) (by rw[U8];exact gF)⟩
 .have hii:i=ds.length:=by lia
  subst hii;rw[Vu (by lia)]at CB;cases CB;rw[Uz]at gF;refine bF (T.done X rfl rfl rfl a7 _ pins s1 σ1 H1 _ A1.I (zb Ra) SJ (w2 (m_ _))) λr s2 aG=>?_;obtain⟨hr,I2⟩:=aG;subst hr;exact hR s2 σ1 H1 Z1 ⟨I2,A1.R,A1.nO,A1.hb,A1.hz,by rw[<- gF];exact A1.ac⟩ x1 Ra
end
section
variable {P:X9}{w:Yb}{A:X_}{elt:Yf}{gens:XW}{scope:Yd}{pos:Pos}{d:Nat}{tg iter:Yf}{ifs:X1}{it acc:X7}{env:Env}{R:Result->X8->Prop}{s:X8}
theorem tN{ce:Yf}(co:Fw P w ce)(hc:(clausesOf ce)[d]?=some ⟨tg,iter,ifs,0⟩)(h0:codeAny (model P w) A (.compLoop ce d it acc env) R s)
    (h1:wpAny (model P w) A (pyIter it) (λRc s'=>codeAny (model P w) A (.compLoop ce d Rc acc env) R s') (notedBy (model P w) A env λx s'=>R (.error x) s') s) :
    codeAny (model P w) A (.compStart ce d it acc env) R s:=by
  refine codeAny_of_tree (co.st (wpAny_notedAt ?_));unfold compStart;rw[hc];show wpAny (model P w) A (ask >>= _) _ _ s;refine b_ (wpAny_askSetting (wpAny_ite ?_))<;>skip
  split
  . first
      | exact b_ (d_ (d_ ⟨rfl,h0⟩))
      | exact d_ ⟨rfl,h0⟩
  . refine b_ (WR ?_)
    first
      | exact b_ (Vj (b_ (Ur h1 (λRc s' q=>d_ ⟨rfl,q⟩) λ_ _ x=>x)))
      | (show wpAny (model P w) A (standAt iter.pos >>= _) _ _ s
         exact b_ (Vj (b_ (Ur h1 (λRc s' q=>d_ ⟨rfl,q⟩) λ_ _ x=>x))))
end
section
variable {X:Cx}{a:Ye}{elt:Yf}{gens:XW}{scope:Yd}{pos:Pos}{d:Nat}{tg iter zc cx:Yf}{ifs nE:X1}{it:Ye}
theorem sV{ce:Yf}{em:Sem Unit}(ht:compTurn ce d (.ref it) (.ref a) X.env=AG ce tg iter ifs d (.ref it) (.ref a) X.env em):Tw X ce d it (.ref a) tg ifs (P8 X em):=by
 intro s Q E hw;rw[ht];unfold AG;refine b_ (Vj (b_ (bF hw λr s1 q1=>?_)));cases r with
 | none=>exact d_ q1
 | some v=>
  refine b_ (bF q1 λ_ s2 q2=>b_ (bF q2 λ_ s3 q3=>b_ (bF q3 λok s4 q4=>?_)));cases ok with
  | false=>exact d_ (show Q (.again (.compLoop ce d (.ref it) (.ref a) X.env)) s4 from by rw[h_ (by simp)]at q4;exact q4)
  | true=>
   rw[j_ rfl]at q4;exact b_ (bF q4 λ_ s5 q5=>d_ q5)
def El(X:Cx)(a:Ye)(ce:Yf)(d:Nat)(cx:Yf):BdT:=λP E s=>
 wpAny (model X.prog X.w) X.A (eval cx X.env) (λx s5=>wpAny (model X.prog X.w) X.A (pyIter x) (λi' s6=>
  codeAny (model X.prog X.w) X.A (.compStart ce (d+1) i' (.ref a) X.env) (λr s7=>match r with | .ok _=>P s7 | .error e=>cameBackBy (model X.prog X.w) X.A X.env E e s7) s6) E s5) E s
theorem Am{ce:Yf}(ht:compTurn ce d (.ref it) (.ref a) X.env=z9 ce tg iter cx ifs d (.ref it) (.ref a) X.env)(hs:∀x,foldedSetIterable cx X.env x=pure x):Tw X ce d it (.ref a) tg ifs (El X a ce d cx):=by
 intro s Q E hw;rw[ht];unfold z9;refine b_ (Vj (b_ (bF hw λr s1 q1=>?_)));cases r with
 | none=>exact d_ q1
 | some v=>
  refine b_ (bF q1 λ_ s2 q2=>b_ (bF q2 λ_ s3 q3=>b_ (bF q3 λok s4 q4=>?_)));cases ok with
  | false=>exact d_ (show Q (.again (.compLoop ce d (.ref it) (.ref a) X.env)) s4 from by rw[h_ (by simp)]at q4;exact q4)
  | true=>
   rw[j_ rfl]at q4;refine b_ (bF q4 λx s5 q5=>b_ (Vj (b_ (We (hs x) (b_ (F_ (bF q5 λi' s6 q6=>?_)))))));refine b_ (wpAny_runOwn (WA q6 λr s7 q7=>?_));cases r with
   | ok f=>exact d_ q7
   | error e=>exact q7
def hW(fi:Fi)(is:X3)(t:Ft)(c:Fb)(k:Yj):Yj:=λenv=>(fi env).bind λds=>if dH is env=true then fW t c k env ds else none
theorem vp{ce:Yf}{qa:Qa}(co:Fw X.prog X.w ce)(qo:Ik a qa)(hx:∀e s,¬X.xe e s)(a7:X.calm=true)(h2:(clausesOf ce)[d+1]?=some ⟨zc,cx,nE,0⟩)
  (hi:ID X zc cx fi) (hg:GD X zc t) (ht:qb is t) (CA:Es X nE c) (qd:Bu X qa a Bd k)
  (Fx:∀it,Tw X ce (d+1) it (.ref a) zc nE Bd) :
  Bu X qa a (El X a ce d cx) (hW fi is t c k):=by
 intro pins s σ H B Z env pre xs P E Aq e hl hP;obtain⟨ds,e1,e2⟩:=a_.mp e;have hu:dH is env=true:=by
  by_cases hu:dH is env=true
  .exact hu
  .rw[h_ hu]at e2;cases e2
 rw[j_ hu]at e2;refine Ur (hi pins s σ H (λJ H1=>∃Z1,Ex Z H Z1 H1/\Walk X.K Z1 ds J) Aq.I ⟨env,B,Z,ds,Aq.R,e1,λJ Z1 H1 x1 wk=>⟨Z1,x1,wk⟩⟩) (λx s5 q5=>?_) λe s z=>(hx e s z).elim;refine Ur q5 (λi' s6 aG=>?_) λe s z=>(hx e s z).elim;obtain⟨it,fp,tn,J,H6,hit,I6,T,SL,fp6,Z6,x6,wk⟩:=aG;subst hit;have A6:Ac X qa pins a B Z6 H6 env σ pre s6:=⟨I6,Aq.R.ext x6,Aq.nO,Aq.hb,x6.fr a (qo.ne Aq.ac) Aq.hz,qo.mon x6 Aq.ac⟩;have go:=mL co qo (a:=a) hx a7 T hg ht CA qd (Fx it) A6 fp6 SL wk hu e2 hl
  (R:=λr s7=>match r with | .ok _=>P s7 | .error e=>cameBackBy (model X.prog X.w) X.A X.env E e s7)
  λs' σ' H' Z' A' x' _=>hP s' σ' H' Z' A' ((x6.part Aq.R.bh).transB x')
 exact tN co h2 go (T.self _ 0 _ _ _ SL go)
end
structure Ow(X:Cx)(qa:Qa)(a:Addr)(ce:Expr)(d:Nat)(tg:Expr)(ifs:List Expr)(t:Ft)(c:Fb)(k:En->Option (List D)):Prop where
 g:GD X tg t
 ts:Es X ifs c
 ex:∃Bd,Bu X qa a Bd k/\∀it,Tw X ce d it (.ref a) tg ifs Bd
abbrev IP(X:Cx)(qv:Qv)(a:Ye)(elt:Yf)(gens:XW)(scope:Yd)(pos:Pos)(d:Nat)(tg:Yf)(ifs:X1)(t:Ft)(c:Fb)(k:Yj):Prop:=Ow X (qL X.K qv a) a (.ListComp elt gens scope pos) d tg ifs t c k
section
variable {X:Cx}{a:Ye}{elt:Yf}{gens:XW}{scope:Yd}{pos:Pos}{d:Nat}{tg iter zc cx:Yf}{ifs nE:X1}{t t':Ft}{c c':Fb}{k:Yj}{fe:Fe}{fi:Fi}{is:X3}{qv:Qv}
theorem aN(hx:∀e s,¬X.xe e s)(hg:GD X tg t)(CA:Es X ifs c)(he:PD X .cl elt fe)(h:gens[d]?=some ⟨tg,iter,ifs,0⟩:=by rfl)(h2:gens[d+1]?=none:=by rfl):IP X QT a elt gens scope pos d tg ifs t c (aC fe):=
 ⟨hg,CA,_,Ec hx he,λ_=>sV (rn h h2)⟩
theorem vn(hx:∀e s,¬X.xe e s)(a7:X.calm=true)(hg:GD X tg t)(CA:Es X ifs c)(hi:ID X zc cx fi)(ht:qb is t')(b:IP X QT a elt gens scope pos (d+1) zc nE t' c' k)
  (h:gens[d]?=some ⟨tg,iter,ifs,0⟩:=by rfl) (h2:gens[d+1]?=some ⟨zc,cx,nE,0⟩:=by rfl) (hs:∀x,foldedSetIterable cx X.env x=pure x:=by intro _;rfl):IP X QT a elt gens scope pos d tg ifs t c (hW fi is t' c' k):=by
 obtain⟨Bd,qd,Fx⟩:=b.ex;exact⟨hg,CA,_,vp Qe (IC JC) hx a7 h2 hi b.g ht b.ts qd Fx,λ_=>Am (Ci h h2) hs⟩
end
def aP(fi:Fi)(is:X3)(t:Ft)(c:Fb)(k:Yj)(n:Nat)(caps:X3):Fe:=λenv=>(fi env).bind λds=>if dH is (dj n caps env)=true then(fW t c k (dj n caps env) ds).bind λxs=>if xs.length<=16000000 then some (.lst xs)else none else none
theorem ot(h:aP fi is t c k n caps env=some d) :
  ∃ds xs,fi env=some ds/\dH is (dj n caps env)=true/\fW t c k (dj n caps env) ds=some xs/\xs.length<=16000000/\d=.lst xs:=by
 obtain⟨ds,e1,e2⟩:=a_.mp h
 by_cases hu:dH is (dj n caps env)=true
 .rw[j_ hu]at e2;refine cC λ_ kq=>?_;obtain⟨xs,e3,e4⟩:=a_.mp e2;obtain⟨e5,e6⟩:=nz e4;exact kq (⟨ds,xs,e1,hu,e3,e5,e6.symm⟩)
 .rw[h_ hu]at e2;cases e2
theorem lN(n:Nat)(caps:X3)(env:En):∀(i:Nat) ds,(dj n caps env)[i]?≠some (.O ds):=λi ds h=>by
 unfold dj at h
 by_cases hi:i<n
 .rw[S_ (by simpa using hi),US,j_ hi]at h;cases h
 .rw[R_ (by simpa using hi),o_]at h;cases q:caps[i-(List.replicate n Slot.un).length]? with
  | none=>rw[q]at h;cases h
  | some j=>
   rw[q]at h;simp only[Option.map_some,Option.some.injEq]at h
   split at h<;>cases h
theorem Rl.cap{K:Fg}{B Z H H':Hp}{env:En}{σ:L2.St}(R:Rl K B Z H env σ)(n:Nat)(caps:X3)(s1:aF H H')(s2:aF Z H'):Rl K H Z H' (dj n caps env) (nu n caps σ):=by
 refine⟨s1,s2,by simp[dj,nu],λi s h=>?_,λi ds a h=>absurd h (lN n caps env i ds),λi j ds es a _ h=>absurd h (lN n caps env i ds)⟩;unfold dj at h;unfold nu
 by_cases hi:i<n
 .rw[S_ (by simpa using hi),US,j_ hi]at h ⊢;cases h;exact⟨none,rfl,trivial⟩
 .rw[R_ (by simpa using hi),o_]at h ⊢;simp only[VB]at h ⊢;cases q:caps[i-n]? with
  | none=>rw[q]at h;cases h
  | some j=>
   rw[q]at h;simp only[Option.map_some,Option.some.injEq]at h ⊢;refine⟨_,rfl,?_⟩
   split at h
   .rename_i dd hj;subst h;obtain⟨x,h1,v,h2,r⟩:=R.sl j _ hj;rw[h1,h2];exact⟨v,rfl,r⟩
   .subst h;trivial
section
variable {X:Cx}{elt:Yf}{rest:XW}{scope:Yd}{pos:Pos}{tg iter:Yf}{ifs:X1}{t:Ft}{c:Fb}{k:Yj}{fi:Fi}{is caps:X3}{cl:XT}{Nc own:XZ}
theorem qQ{qv:Qv}(qo:Ou qv)(ht:qb is t)(a7:X.calm=true)(gv:iO (λx=>X.env.cells.lookup x) scope.names []=some cl)(ck:scope.kind=.function)(hnc:∀y∈scope.names,y.2≠.cell)
  (hN:Nc.map some=own.map some++caps.map (λj=>X.N[j]?)) (iD:kU X scope caps=true)
  (hb:∀C s H ex pn a,IP (fF X scope cl Nc C s H ex pn) qv a elt (⟨tg,iter,ifs,0⟩::rest) scope pos 0 tg ifs t c k)
  {pins:XQ} {σ:L2.St} {s2:X8} {H2 B Z2:Hp} {env:En} {ds xs:Yl} {E:XO} {RR:X7->Ye->Result->X8->Prop} {it:Ye} {fp:X0} {tn:Nat->Ya->Prop} {J:It}
  (I2:Inv X pins σ H2 s2) (R2:Rl X.K B Z2 H2 env σ) (T:Turn X.prog X.w X.K tg J fp it tn) (Fz:tn 0 s2.heap) (uG:∀b∈fp,cf X pins H2 b) (wk:Walk X.K Z2 ds J) (hu:dH is (dj own.length caps env)=true)
  (Fy:fW t c k (dj own.length caps env) ds=some xs) (hl:xs.length<=16000000)
  (Re:∀a C H' Z' s' vs m,Inv X pins σ H' s'->s'.heap.Ns C m->cf X pins H' C->Ex Z2 H2 Z' H'->H2 a=none->H' a=some (.lst vs)->Z' a=none->ar X.K Z' xs vs->qv a H2 H' xs vs->RR (.ref a) C (.ok .next) s') :
  wpAny (model X.prog X.w) X.A (newList []) (λacc s₃=>wpAny (model X.prog X.w) X.A (newFunctionEnv scope X.env.globals cl [] X.env.qual none .none (some X.env)) (λLx s₄=>
   codeAny (model X.prog X.w) X.A (.compStart (.ListComp elt (⟨tg,iter,ifs,0⟩::rest) scope pos) 0 (.ref it) acc {Lx with scope:=relabel scope X.env}) (RR acc Lx.locals) s₄) E s₃) E s2:=by
 refine UC ?_ (by size_fits);have hf:H2 s2.sz=none:=I2.hok.fresh (m_ _);have I3:Inv X pins σ (upd H2 s2.sz (.lst [])) {s2 with heap:=s2.heap.push {cls:=.type "list",dict:=none,data:=.seq ([]:XX).toArray}}:=
  I2.laid (λb u e=>e_ _ e) (m_ _) (show bE X.prog X.w _ _ _ (.lst [])from⟨by simp,[],0,.nil,n_ _ rfl⟩)
 generalize hs3:({s2 with heap:=s2.heap.push {cls:=.type "list",dict:=none,data:=.seq ([]:XX).toArray}}:X8)=s3 at I3 ⊢;have Ox:∀b o,s2.heap.get? b=some o->s3.heap.get? b=some o:=λb o e=>by rw[<- hs3];exact e_ _ e
 have Oy:s3.sz=s2.sz+1:=by rw[<- hs3];exact U0 _ _
 have w6:∀b∈fp,b<s2.sz:=λb hb=>let ⟨o,e,_⟩:=T.obj _ _ Fz b hb;q_ e;have Oz:∀b∈fp,cf X pins (upd H2 s2.sz (.lst [])) b:=λb hb=>⟨by rw[aB (B_ (w6 b hb))];exact(uG b hb).1,(uG b hb).2⟩;refine W3 hnc (by intro y hy;simp at hy) (λh1 Cz hsb=>?_) ck;have OA:∀b o,s3.heap.get? b=some o->h1.get? b=some o:=λb o e=>hsb.extBut b o (B_ (q_ e)) (e_ _ e);have I4:=wt (tk:=s3.toks+([]:List (Str×X7)).length) I3 gv ck hnc Oz (λb hb=>by rw[Oy];exact UR (w6 b hb)) hN iD Cz OA;generalize hXc:fF X scope cl Nc s3.sz s3 (upd H2 s2.sz (.lst [])) fp (X.pn++pins)=Xc at I4;have bb:IP Xc qv s2.sz elt (⟨tg,iter,ifs,0⟩::rest) scope pos 0 tg ifs t c k:=by rw[<- hXc];exact hb _ _ _ _ _ _
 obtain⟨Bd,qd,Fx⟩:=bb.ex;have eP:Xc.prog=X.prog:=by rw[<- hXc];rfl
 have eW:Xc.w=X.w:=by rw[<- hXc];rfl
 have eK:Xc.K=X.K:=by rw[<- hXc];rfl
 have eA:Xc.A=X.A:=by rw[<- hXc];rfl
 have eE:Xc.env=compEnvC scope cl s3.sz X.env:=by rw[<- hXc];rfl
 have hx:∀e s,¬Xc.xe e s:=λe s z=>by rw[<- hXc]at z;exact z
 have AK:Xc.calm=true:=by rw[<- hXc];exact a7
 have T':Turn Xc.prog Xc.w Xc.K tg J fp it tn:=by rw[eP,eW,eK];exact T
 have A4:QD Xc qv [] s2.sz H2 Z2 (upd H2 s2.sz (.lst [])) (dj own.length caps env) (nu own.length caps σ) [] {s3 with heap:=h1,toks:=s3.toks+([]:List (Str×X7)).length}:=
  ⟨I4,by rw[eK];exact R2.cap _ _ (df hf) (c6 R2.zh (R2.zh.free hf)),lN _ _ _,hf,R2.zh.free hf,[],ay,rfl,qo.nil⟩
 have Rf:∀b∈fp,cf Xc [] (upd H2 s2.sz (.lst [])) b:=λb hb=>by
  obtain⟨f1,f2,f3,f4,f5,f6⟩:=Oz b hb;have mem:=g0 gv (λp hp=>by cases hp);rw[<- hXc];refine⟨f1,?_,g9 I3 f2 f3,.inl hb,λx c h=>f5 x c (mem (x,c) (Uo h)),λp hp=>f6 p (by simpa [fF]using hp)⟩;show b≠s3.sz;rw[Oy];exact B_ (UR (w6 b hb))
 have OB:tn 0 ({s3 with heap:=h1,toks:=s3.toks+([]:List (Str×X7)).length}:X8).heap:=T.keep _ _ _ Fz λb _ o e=>OA b o (Ox b o e);have go:=mL Qe (IC qo) hx AK T' bb.g ht bb.ts qd (Fx it) A4 Rf OB (by rw[eK];exact wk) hu Fy (by simpa using hl) λs' σ' H' Z' A' x' fr'=>by
  obtain⟨vs,hv,rr,qq⟩:=A'.ac;have base:=A'.I.base;obtain⟨mC,OC,_⟩:=A'.I.loc;have hok:=A'.I.hok;have hos:=A'.I.os;have free:=A'.I.free;rw[eE]at OC free;rw[eP,eW]at hok;rw[eK]at rr;have u1:Un (xn X.stack) fp H2 (upd H2 s2.sz (.lst [])) s2.heap s3.heap:=Un.laid Ox (m_ _) hf;have u2:Un (xn X.stack) fp (upd H2 s2.sz (.lst [])) H' s3.heap s'.heap:=by rw[<- hXc]at base;exact base
  have Ly:s'.os=s2.os:=by rw[<- hXc]at hos;exact hos.trans (by rw[<- hs3];rfl)
  have I':Inv X pins σ H' s':=I2.call' Ly (u1.trans u2) hok A'.I.bare λb hb=>⟨(uG b hb).2.2.2.1,(uG b hb).2.1,(uG b hb).2.2.2.2.1,(uG b hb).2.2.2.2.2⟩;exact Re s2.sz s3.sz H' Z' s' vs mC I' OC (I3.fpOk (m_ _) free) x' hf hv A'.hz (by simpa using rr) (by simpa using qq)
 rw[eP,eW,eA,eE]at go;exact tN Qe rfl go (T.self _ 0 _ _ _ OB go)
theorem bN(ht:qb is t)(a7:X.calm=true)(hi:ID X tg iter fi)(gv:iO (λx=>X.env.cells.lookup x) scope.names []=some cl)(hN:Nc.map some=own.map some++caps.map (λj=>X.N[j]?))
  (hb:∀C s H ex pn a,IP (fF X scope cl Nc C s H ex pn) QT a elt (⟨tg,iter,ifs,0⟩::rest) scope pos 0 tg ifs t c k)
  (iD:kU X scope caps=true:=by rfl) (ck:scope.kind=.function:=by rfl) (hnc:∀y∈scope.names,y.2≠.cell:=by decide +kernel) (OD:∀x∈scope.names,x.2=.local->scope.names.lookup x.1=some .local:=by decide +kernel)
  (hs:∀x,foldedSetIterable iter X.env x=pure x:=by intro _;rfl) :
  PD X .nw (.ListComp elt (⟨tg,iter,ifs,0⟩::rest) scope pos) (aP fi is t c k own.length caps):=by
 intro pins s σ H Q I hT;obtain⟨env,B,Z,d,R,e,kk⟩:=hT;obtain⟨ds,xs,e1,hu,Fy,hl,rfl⟩:=ot e;rw[eval_ListComp];refine Wn rfl hs (iB gv) ck OD ?_;refine bF (hi pins s σ H (λJ H1=>∃Z1,Ex Z H Z1 H1/\Walk X.K Z1 ds J) I ⟨env,B,Z,ds,R,e1,λJ Z1 H1 x1 wk=>⟨Z1,x1,wk⟩⟩) λx s1 q1=>bF q1 λOi s2 aG=>?_;obtain⟨it,fp,tn,J,H2,hit,I2,T,Fz,uG,Z2,x2,wk⟩:=aG;subst hit;refine qQ JC ht a7 gv ck hnc hN iD hb I2 (R.ext x2) T Fz uG wk hu Fy hl λa C H' Z' s' vs m I' ns fpC x' hf hv hz rr _=>?_;refine⟨m,ns,λh' hs'=>?_⟩;obtain⟨f1,f2,f3,f4,f5,f6⟩:=fpC;refine⟨.ref a,H',I'.turned (λb o hb e=>hs'.extBut b o hb e) f1 f2.symm.symm f4 f5 f6,rfl,kk _ Z' H' (x2.trans x') ⟨a,vs,xs,rfl,rfl,x2.h.free hf,hv,hz,rr⟩⟩
end
section
variable {P:X9}{w:Yb}{A:X_}{E:XO}
theorem Jc(hne:l≠it):∀(n i:Nat)(s:X8)(Q:XX->X8->Prop),s.heap.IsListIter it l i->s.heap.IsList l items->i+n<=items.size->
  (∀h',h'.IsListIter it l (i+n)->Heap.SameBut it s.heap h'->Q ((items.toList.drop i).take n) {s with heap:=h'})->wpAny (model P w) A (draw (.ref it) n) Q E s:=by
 intro n
 induction n with
 | zero=>intro i s Q hit hl hle hQ;exact d_ (show Q [] s from by simpa using hQ s.heap (by simpa using hit) (Heap.SameBut.refl ..))
 | succ n ih=>
  intro i s Q hit hl hle hQ;have hlt:i<items.size:=by lia
  refine(show wpAny (model P w) A (pyNext (.ref it) >>= _) Q E s from b_ (Vt hit hl (x:=items[i]) (by simp[hlt]) λh1 Lz OE=>?_));refine b_ (F_ (ih (i+1) _ _ Lz (hl.extBut OE.extBut hne) (by lia) λh2 LA OF=>d_ ?_));have q:=hQ h2 (by rw[show i+(n+1)=i+1+n by lia];exact LA) (OE.trans OF);have hd:items.toList.drop i=items[i]::items.toList.drop (i+1):=by simp[Uy,hlt]
  rw[hd,W6]at q;exact q
theorem GY(hh:A.handled=none)(hl:s.heap.IsList l items)(hQ:∀h',Heap.ExtBut s.sz s.heap h'->Q items.toList {s with heap:=h'}) :
  wpAny (model P w) A (unpackItems (.ref l) items.size none) Q E s:=by
 have hlt:l≠s.sz:=by obtain⟨o,ho,_⟩:=hl;exact B_ (q_ ho)
 unfold unpackItems;refine b_ ?_
 .unfold notIterableAtAll;refine b_ (Vn hl.typeIs PySem.slot_list_iter.lookup (d_ ?_));simp only[E_,Uu];have hl1:(s.heap.push {cls:=.type "list_iterator",data:=.fields #[.ref l,rawInt 0]}).IsList l items:=by obtain⟨o,ho,r⟩:=hl;exact⟨o,e_ _ ho,r⟩
  refine b_ (F_ (U9 hl (b_ (F_ (Jc hlt items.size 0 _ _ ⟨_,n_ _ rfl,rfl,rfl⟩ hl1 (by lia) λh1 Lz OE=>?_)))));have lT:((items.toList.drop 0).take items.size)=items.toList:=by rw[List.drop_zero];exact V0 (by simp)
  rw[lT,h_ (by simp)];refine b_ (F_ (V8 hh Lz (hl1.extBut OE.extBut hlt) (by simp) λh2 wY=>?_));simp only[Option.isSome_none,E_,Uu];exact d_ (hQ h2 λb o hb e=>wY b o hb (OE.extBut b o hb (e_ _ e)))
end
section
variable {X:Cx}{rg:Gr}
def QC(K:X6)(n:Nat)(t:TGs):TG:=λv σ H Q=>∃a xs,v=.ref a/\cJ K H a xs/\xs.length=n/\t xs σ H Q
theorem JS(hc:X.calm=true)(h:BB X es t)(hn:(assignEach es X.env).length=n:=by rfl)(hst:(assignEach es X.env).findIdx? (·.1)=none:=by rfl):PG X (.Tuple es k pos) (QC X.K n t):=by
 intro pins s σ H v u Q I r hw;obtain⟨a,xs,e1,hq,hl,hw⟩:=hw;subst e1;cases r;obtain⟨a5,rv,pl,hz⟩:=I.list hq;have hlen:=rv.length;rw[Xp];refine b_ (Vj ?_);unfold unpack;rw[hst,hn,show n=a5.toArray.size by rw[r_];lia];refine b_ (F_ (GY (I.ok.hd hc) pl.isList λh' hx=>?_));have I1:Inv X pins σ H {s with heap:=h'}:=I.kept λb o e=>hx b o (B_ (q_ e)) e;exact h pins _ σ H xs _ Q I1 (by simpa using rv) hw
def Sm(is:X3):Ft:=λd env=>match d with
 | .lst ds=>fD is ds env
 | _=>none
theorem Oa(hc:X.calm=true)(h:J5 X es is)(hn:(assignEach es X.env).length=is.length:=by rfl)(hst:(assignEach es X.env).findIdx? (·.1)=none:=by rfl):GD X (.Tuple es k pos) (Sm is):=
 PG.imp (JS hc h hn hst) λv σ H Q aG=>by
  refine cC λ_ kq=>?_;obtain⟨env,B,Z,d,env',R,r,e,k⟩:=aG;cases d<;>try cases e
  rename_i ds;obtain⟨a,vs,e1,hq,rr⟩:=r;exact kq (⟨a,vs,e1,R.zh.seq hq,by rw[<- rr.len];exact kH e,env,B,Z,ds,env',R,rr,e,k⟩)
def ME(is:X3)(f:Fe):Fs:=λenv=>(f env).bind λd=>(Sm is d env).bind λe=>some (.nx e)
theorem NM(hc:X.calm=true)(he:PD X .cl e fe)(h:J5 X es is)(hn:(assignEach es X.env).length=is.length:=by rfl)(hst:(assignEach es X.env).findIdx? (·.1)=none:=by rfl)
  (hs:swapsWithSole [.Tuple es k p2] e pos.line X.env=pure false:=by rfl) (hw:swappedStores [.Tuple es k p2] e X.env=pure none:=by rfl) (h1:(assignEach [.Tuple es k p2] X.env).map (·.2)=[assign (.Tuple es k p2) X.env]:=by rfl) :
  SD X rg (.Assign [.Tuple es k p2] e pos) (ME is fe):=PS.imp (xR he (Oa hc h hn hst) hs hw h1) λE σ H aG=>by
 refine cC λ_ kq=>?_;obtain⟨env,B,Z,o,R,e,k⟩:=aG;obtain⟨d,e1,e⟩:=a_.mp e;obtain⟨en,e2,e⟩:=a_.mp e;cases e;refine kq (⟨env,B,Z,d,R,e1,λv Z1 H1 x1 g1=>⟨env,B,Z1,d,en,R.ext x1,g1,e2,λσ' R'=>k σ' Z1 H1 (x1.part R.bh) R'⟩⟩)
variable {l r:Yf}{fa fb:Fe}{ga gb:Gr}{pos p:Pos}
theorem Gq:jw X (binaryOp .Add) (λx y H Q=>∃l b xs zs,x=.ref l/\y=.ref b/\cJ X.K H l xs/\cJ X.K H b zs/\xs.length+zs.length<=sizeLine/\∀p,H p=none->Q (.ref p) (upd H p (.lst (xs++zs)))):=by
 intro pins s σ H x y v u Q I rx ry h;refine cC λ_ kq=>?_;obtain⟨l,b,xs,zs,rfl,rfl,hH,hB,hz,q⟩:=h;cases rx;cases ry;obtain⟨a5,r,⟨o,n,e,c1,c2,c3⟩,_⟩:=I.list hH;obtain⟨uB,r2,⟨o2,n2,e2,d1,d2,d3⟩,_⟩:=I.list hB;obtain⟨cls,dd,dt,sl⟩:=o;obtain⟨Ig,Cw,dt2,AM⟩:=o2;simp only at c1 c2 c3 d1 d2 d3;subst c1 c2 c3 d1 d2 d3;have h1:=r.length;have h2:=r2.length;have hsz:a5.toArray.size+uB.toArray.size<=sizeLine:=by simp only[r_];lia
 refine kq (concat_meets ⟨_,e,rfl⟩ ⟨_,e2,rfl⟩ noFill_list_add seq_list_add PySem.F.slot_list_add PySem.F.entry_list_add (PySem.F.args_list_add_2 _ _) (list_addW l b a5.toArray uB.toArray n n2 none none sl AM hsz) ⟨e,e2,?_⟩)
 all_goals clear kq
 rw[show a5.toArray++uB.toArray=(a5++uB).toArray by simp];exact⟨.ref _,_,I.lnew (r.append r2) (by rw[x_];lia),rfl,q _ I.fresh⟩
theorem nW(ha:PD X ga l fa)(hb:PD X gb r fb):PD X .nw (.BinOp l .Add r pos) (aq uf fa fb):=vf Gq Ki ha hb
end
section
variable {X:Cx}{rg:Gr}{elt:Yf}{rest:XW}{scope:Yd}{pos spos py:Pos}{tg iter:Yf}{ifs:X1}{t:Ft}{c:Fb}{k:Yj}{fi:Fi}{is caps:X3}{cl:XT}{Nc own:XZ}{y:Str}
structure FA(X:Cx)(qv:Qv)(e:Expr)(f:Fe):Prop where
 ex:∀(y:Str)(py spos:Pos)(i:Nat),swapsWith e (some (.Name y py)) spos.line X.env=pure true->X.N.Nodup->X.N[i]?=some y->Loc X.env.scope y->(X.fn y=true\/X.env.scope.names.lookup y=some .local)->
  ∀(pins:List (Addr×Obj))(s:Shared)(σ:L2.St)(H:Hp)(E:Ends),Inv X pins σ H s->(∃env B Z d,Rl X.K B Z H env σ/\f env=some d/\∀v Z' H',Ex Z H Z' H'->Gd X.K Z' H H' .nw d v->(∃a xs vs,v=.ref a/\d=.lst xs/\H' a=some (.lst vs)/\qv a H H' xs vs)->E.nx (σ.set i (some v)) H')->
   wpAny (model X.prog X.w) X.A (exec (.Assign [.Name y py] e spos) X.env) (SP X pins E) X.xe s
abbrev D5(X:Cx)(e:Yf)(f:Fe):Prop:=FA X QT e f
theorem jh(ht:qb is t)(a7:X.calm=true)(hi:ID X tg iter fi)(gv:iO (λx=>X.env.cells.lookup x) scope.names []=some cl)(hN:Nc.map some=own.map some++caps.map (λj=>X.N[j]?))
  (hb:∀C s H ex pn a,IP (fF X scope cl Nc C s H ex pn) qv a elt (⟨tg,iter,ifs,0⟩::rest) scope pos 0 tg ifs t c k)
  (iD:kU X scope caps=true:=by rfl) (ck:scope.kind=.function:=by rfl) (hnc:∀y∈scope.names,y.2≠.cell:=by decide +kernel) (OD:∀x∈scope.names,x.2=.local->scope.names.lookup x.1=some .local:=by decide +kernel)
  (hs:∀x,foldedSetIterable iter X.env x=pure x:=by intro _;rfl) (qo:Ou qv:=by exact JC) :
  FA X qv (.ListComp elt (⟨tg,iter,ifs,0⟩::rest) scope pos) (aP fi is t c k own.length caps):=by
 refine⟨λy py spos j LB hNd hj hy hf pins s σ H E I hT=>?_⟩;obtain⟨env,B,Z,d,R,e,kk⟩:=hT;obtain⟨ds,xs,e1,hu,Fy,hl,rfl⟩:=ot e;rw[exec_Assign_Name_used _ _ _ _ LB];refine b_ (Vj (b_ ?_));refine(show wpAny (model X.prog X.w) X.A (comprehension (.ListComp elt (⟨tg,iter,ifs,0⟩::rest) scope pos) scope X.env (firstIterPos (⟨tg,iter,ifs,0⟩::rest) pos) (newList []) false (eval iter X.env) (some (assign (.Name y py) X.env)) >>= λ_=>pure ()) _ _ s from ?_);refine b_ (bF (Wn rfl hs (iB gv) ck OD ?_) λ_ s' hq=>d_ (d_ hq));refine bF (hi pins s σ H (λJ H1=>∃Z1,Ex Z H Z1 H1/\Walk X.K Z1 ds J) I ⟨env,B,Z,ds,R,e1,λJ Z1 H1 x1 wk=>⟨Z1,x1,wk⟩⟩) λx s1 q1=>bF q1 λOi s2 aG=>?_;obtain⟨it,fp,tn,J,H2,hit,I2,T,Fz,uG,Z2,x2,wk⟩:=aG;subst hit;refine qQ qo ht a7 gv ck hnc hN iD hb I2 (R.ext x2) T Fz uG wk hu Fy hl λa C H' Z' s' vs m I' ns fpC x' QR hv hz rr qq=>?_;refine(show wpAny (model X.prog X.w) X.A (assign (.Name y py) X.env (.ref a)) _ _ s' from wpAny_assign_Name (rW I' hNd hj hy (show RelV (.ref a) (.ref a)from rfl) (λs2' I2' aG=>?_) hf));refine cC λ_ kq=>?_;obtain⟨b,hsb,QX⟩:=aG;obtain⟨f1,f2,f3,f4,f5,f6⟩:=fpC;have hCb:C≠b:=λz=>by
  rcases QX with z2 | z2
  .exact f2 (z.trans z2)
  .exact f5 y b z2 z.symm
 refine kq (⟨m,ns.sameBut hsb hCb,λh' hs'=>?_⟩)
 all_goals clear kq
 exact⟨_,H',I2'.turned (λb o hb e=>hs'.extBut b o hb e) f1 f2 f4 f5 f6,kk _ Z' H' (x2.trans x') ⟨a,vs,xs,rfl,rfl,x2.h.free QR,hv,hz,rr⟩ ⟨a,xs,vs,rfl,rfl,hv,qo.base x2.h qq⟩⟩
variable {e:Yf}{fe:Fe}
theorem kE(i:Nat)(h:D5 X e fe)(hN:X.N.Nodup)(hi:X.N[i]?=some y:=by rfl)(hx:Loc X.env.scope y:=by first | exact Or.inl rfl | exact Or.inr rfl)(LB:swapsWith e (some (.Name y py)) spos.line X.env=pure true:=by rfl)
  (hf:X.fn y=true\/X.env.scope.names.lookup y=some .local:=by first | exact .inl rfl | exact .inr rfl | assumption):SD X rg (.Assign [.Name y py] e spos) (setF i fe):=λpins s σ H E I hw=>by
 refine cC λ_ kq=>?_;obtain⟨env,B,Z,o,R,e0,kk⟩:=hw;obtain⟨d,e1,e2⟩:=a_.mp e0;cases e2;refine kq (h.ex y py spos i LB hN hi hx hf pins s σ H E I ⟨env,B,Z,d,R,e1,λv Z' H' x g _=>?_⟩)
 all_goals clear kq
 obtain⟨a,vs,ds,rfl,rfl,h1,h2,h3,r⟩:=g;have s1:aF Z' (upd Z' a (.lst vs)):=df h3;have x2:Ex Z H (upd Z' a (.lst vs)) H':=⟨x.h,x.z.trans s1,mh x.zh h2,λb hb e=>by rw[aB (λz=>hb (by rw[z];exact h1))];exact x.fr b hb e,mV x.nf LY⟩;exact kk _ _ H' (x2.part R.bh) ((R.ext x2).setF i ⟨a,vs,rfl,cJ.of ay,ar.mono s1 ds r⟩)
end
section
variable {X:Cx}{rg:Gr}
end
end Mi
namespace Mi
open PySem L2
theorem oo(n:Nat)(h:i.natAbs<=n)(hn:n<2 ^ 4096:=by decide +kernel):big i=true:=v_ (Xg h hn)
theorem sD(h1:-1000000000<=i)(h2:i<=1000000000):big i=true:=oo 1000000000 (by omega)
theorem pS(h1:-1000000000<=i)(h2:i<=1000000000)(h3:-1000000000<=j)(h4:j<=1000000000):mulI (.int i) (.int j)=some (.int (i*j)):=by
 show(if(big i&&big j)=true then _ else _)=_;rw[sD h1 h2,sD h3 h4];rfl
theorem ji(h:0<j):modI (.int i) (.int j)=some (.int (i%j)):=by
 show(if decide (0<j)=true then _ else _)=_;rw[v_ h];rfl
theorem zL(h:0<j)(h2:j<1073741824):fdivI (.int i) (.int j)=some (.int (i/j)):=by
 show(if decide (0<j/\j<1073741824)=true then _ else _)=_;rw[v_ (And.intro h h2)];rfl
theorem tV(h:big i=true)(h2:0<=j)(h3:j<=1000):powI (.int i) (.int j)=some (.int (i ^ j.toNat)):=by
 show(if(big i&&decide (0<=j/\j<=1000))=true then _ else _)=_;rw[h,v_ (And.intro h2 h3)];rfl
theorem F4(h:big i=true)(h2:big j=true):mulI (.int i) (.int j)=some (.int (i*j)):=by
 show(if(big i&&big j)=true then _ else _)=_;rw[h,h2];rfl
theorem gO(i j:Int):addI (.int i) (.int j)=some (.int (i+j)):=rfl
theorem IE(i j:Int):subI (.int i) (.int j)=some (.int (i-j)):=rfl
theorem CW(i j:Int):ltI (.int i) (.int j)=some (.bl (decide (i<j))):=rfl
theorem wm(i j:Int):leI (.int i) (.int j)=some (.bl (decide (i<=j))):=rfl
theorem KJ(i j:Int):gtI (.int i) (.int j)=some (.bl (decide (j<i))):=rfl
theorem Ko(i j:Int):fV (.int i) (.int j)=some (.bl (i==j)):=rfl
theorem QI(i j:Int):rD (.int i) (.int j)=some (.bl !(i==j)):=rfl
theorem aX(h1:f env=some x)(h2:g env=some y):aq b f g env=b x y:=by
 unfold aq;rw[h1,h2];rfl
theorem kS(h1:f env=some x):bC b f env=b x:=by
 unfold bC;rw[h1];rfl
theorem Gz{x:Int}(n k:Nat)(h1:x.natAbs<=n):(x ^ k).natAbs<=n ^ k:=by
 rw[Int.natAbs_pow];exact Nat.pow_le_pow_left h1 k
theorem Ho{x y:Int}(n m:Nat)(h1:x.natAbs<=n)(h2:y.natAbs<=m):(x+y).natAbs<=n+m:=by omega
theorem vg(I:En->Prop):∀(ds:Yl)(env:En),I env->(∀d∈ds,∀e,I e->∃e1,(t d e).bind body=some (.nx e1)/\I e1)->∃e2,cK t body ds env=some (.nx e2)/\I e2
 | [],env,h,_=>⟨env,rfl,h⟩
 | d::ds,env,h,hb=>by
  obtain⟨e1,h1,h2⟩:=hb d g_ env h;obtain⟨e2,h3,h4⟩:=vg I ds e1 h2 λd' hd=>hb d' (f_ _ hd);refine⟨e2,?_,h4⟩;obtain⟨e0,h5,h6⟩:=a_.mp h1;show(t d env).bind (λe1=>(body e1).bind _)=_;rw[h5];show(body e0).bind _=_;rw[h6];exact h3
theorem fq(I:Nat->En->Prop):∀(ds:Yl)(n:Nat)(env:En),I n env->(∀i d e,ds[i]?=some d->I (n+i) e->∃e1,(t d e).bind body=some (.nx e1)/\I (n+i+1) e1)->∃e2,cK t body ds env=some (.nx e2)/\I (n+ds.length) e2
 | [],n,env,h,_=>⟨env,rfl,h⟩
 | d::ds,n,env,h,hb=>by
  obtain⟨e1,h1,h2⟩:=hb 0 d env rfl h;obtain⟨e2,h3,h4⟩:=fq I ds (n+1) e1 h2 λi d' e hd he=>by
   have:=hb (i+1) d' e (by simpa using hd) (by rw[show n+(i+1)=n+1+i by omega];exact he);rw[show n+1+i+1=n+(i+1)+1 by omega];exact this
  refine⟨e2,?_,by rw[show n+(d::ds).length=n+1+ds.length by simp;omega];exact h4⟩;obtain⟨e0,h5,h6⟩:=a_.mp h1;show(t d env).bind (λe1=>(body e1).bind _)=_;rw[h5];show(body e0).bind _=_;rw[h6];exact h3
theorem cZ{α:Type}{xs:List α}{k:Nat}{x:α}(h:xs[k]?=some x):L2.atI xs (k:Int)=some x:=by
 have hk:=(k_.mp h).1;unfold L2.atI L2.GG;rw[j_ (by omega),j_ (by omega)];simpa using h
theorem zZ(h:(aM 0 n)[i]?=some d):d=.int i/\i<n:=by
 unfold aM at h;rw[o_]at h;cases e:(List.range n)[i]? with
 | none=>rw[e]at h;cases h
 | some j=>
  rw[e]at h;have hi:=(k_.mp e).1;rw[Vm]at hi;rw[Vp hi]at e;cases e;cases h;exact⟨by simp,hi⟩
end Mi
namespace Mi
theorem K5(d:D)(env:En):cy (.F d::env) 0=some d:=rfl
theorem Kz(s:Slot)(env:En)(i:Nat):cy (s::env) (i+1)=cy env i:=rfl
theorem mZ(h:env[i]?=some (.O (.L ds)))(hf:f env=some d)(hl:ds.length<16000000):kA i f env=some (.nx (env.set i (.O (.L (ds++[d]))))):=by
 unfold kA;rw[h];show(f env).bind _=_;rw[hf];show(if ds.length<16000000 then _ else _)=_;rw[j_ hl]
theorem ak(h:f env=some (.nx e)):az f g env=g e:=by unfold az;rw[h];rfl
theorem aV(h:f env=some d):setF i f env=some (.nx (env.set i (.F d))):=by unfold setF;rw[h];rfl
theorem bG(h:f env=some d):bt f env=some (.rt d):=by unfold bt;rw[h];rfl
theorem c7(h:t env=some true):gC t f g env=f env:=by unfold gC;rw[h];rfl
theorem br(h:t env=some false):gC t f g env=g env:=by unfold gC;rw[h];rfl
theorem bY(h:fi env=some ds):ed fi t b env=cK t b ds env:=by unfold ed;rw[h];rfl
theorem cG(h:f env=some (.bl b)):fB f env=some b:=by unfold fB;rw[h];rfl
theorem N0(h:f env=some true):CG f g env=some true:=by unfold CG;rw[h];rfl
theorem I9(h:f env=some false):CG f g env=g env:=by unfold CG;rw[h];rfl
theorem vq(h:f env=some b):kF f env=some !b:=by unfold kF;rw[h];rfl
theorem call_v{fs:Fes}{m:Yl->Ym}{env:En}{ds:Yl}(h:fs env=some ds):(fs env).bind m=m ds:=by rw[h];rfl
theorem af(h:f env=some d)(h2:fs env=some ds):ab f fs env=some (d::ds):=by unfold ab;rw[h,h2];rfl
theorem aA:fNil env=some []:=rfl
theorem aY(h:f (cQ n ds)=some (.rt d)):bx f n ds=some d:=by unfold bx;rw[h];rfl
theorem eO(h:f env=some (.int (n:Int)))(h2:n<=1000000000):iP f env=some (aM 0 n):=by
 have hr:Fh (n:Int)=true:=by
  simp only[Fh,w_];omega
 unfold iP;rw[h,UO];dsimp only;rw[j_ hr,UQ]
theorem jV(h:f env=some (.lst ds)):bC eM f env=some (.int (ds.length:Int)):=by unfold bC;rw[h];rfl
theorem gR(h:f env=some (.lst ds))(h2:g env=some (.int i))(h3:L2.atI ds i=some d):aq aK f g env=some d:=(aX h h2).trans h3
theorem ie(h:f env=some (.tup ds))(h2:g env=some (.int i))(h3:L2.atI ds i=some d):aq aK f g env=some d:=(aX h h2).trans h3
theorem Mu(h:f env=some (.lst ds))(h2:fD is ds env=some e):ME is f env=some (.nx e):=by
 unfold ME;rw[h];show(fD is ds env).bind _=_;rw[h2];rfl
theorem j0(h:f env=some (.tup ds))(h2:fD is ds env=some e):zu is f env=some (.nx e):=by
 unfold zu;rw[h];show(fD is ds env).bind _=_;rw[h2];rfl
theorem bp(h:f env=some (.lst ds)):cF f env=some ds:=by unfold cF;rw[h];rfl
theorem wy(h:f env=some (.tup ds)):AY f env=some ds:=by unfold AY;rw[h];rfl
theorem iZ(h:f env=some (.rt d)):az f g env=some (.rt d):=by unfold az;rw[h];rfl
theorem rV(ns:Yl)(k:Nat):cutD ns none (some (k:Int))=ns.take k:=by
 unfold cutD;rw[HT.uS,HT.AB,List.drop_zero,Nat.sub_zero]
 by_cases h:ns.length<=k
 .rw[Nat.min_eq_right h,UI,V0 h]
 .rw[XI (by omega)]
end Mi
namespace Mi
open PySem PySem.Spec PyProof.Rows L2
def B0:Yl->Option (List Bool)
 | []=>some []
 | .bl b::r=>(B0 r).bind λbs=>some (b::bs)
 | _=>none
theorem Ar:∀{ds:Yl}{bs:List Bool},B0 ds=some bs->ds=bs.map .bl
 | [],bs,h=>by cases h;rfl
 | d::r,bs,h=>by
  cases d<;>try cases h
  rename_i b;obtain⟨cs,h1,h2⟩:=a_.mp h;cases h2;rw[Ar h1];rfl
def Gf:D->Ym
 | .lst ds=>(B0 ds).bind λbs=>some (.bl (bs.all id))
 | _=>none
theorem ar.bls{K:Fg}{H:Hp}:∀{bs:List Bool}{vs:Yn},ar K H (bs.map .bl) vs->vs=bs.map .bl
 | [],vs,h=>h
 | b::bs,vs,⟨v,r,e,h1,h2⟩=>by subst e;cases(show v=V.bl b from h1);rw[ar.bls h2];rfl
theorem ax.bls:∀{bs:List Bool}{us:XX},ax (bs.map V.bl) us->us=bs.map .bool
 | [],us,h=>by cases h;rfl
 | b::bs,us,h=>by
  cases h with
  | cons p q=>cases(show _=Value.bool b from p);rw[ax.bls q];rfl
theorem F3(bs:List Bool):(List.range bs.length).all (λi=>bs.getD i false)=bs.all id:=by
 rw[Uh];simp only[D_,UA,id_eq];constructor
 .intro h b hb;obtain⟨i,hi,rfl⟩:=VN hb;simpa [List.getD,hi]using h i hi
 .intro h i hi;simpa [List.getD,hi]using h _ (Ut hi)
section
variable {X:Cx}{l r:Yf}{fa fb:Fe}{ga gb:Gr}{pos p p2 p3 p4:Pos}
theorem DE{A:X_}{pins:XQ}{σ:L2.St}{H:Hp}{s:X8}{a:Ye}{bs:List Bool}{E:XO}{Q:XO}{g:List Bool->Bool}{r2:X3->(Nat->Bool)->Bool}
  (hh:A.handled=none) (I:Inv X pins σ H s) (hq:cJ X.K H a (bs.map V.bl)) (hg:∀n,n=bs.length->r2 (List.range n) (λi=>bs.getD i false)=g bs) (q:∀s',Inv X pins σ H s'->Q (.bool (g bs)) s') :
  wpAny (model X.prog X.w) A.in1 (pyIter (.ref a)) (λit s₂=>∃I fp wr n P St tr,it=.ref I/\Walks X.prog X.w A.in1 I fp wr n P St/\St 0 s₂.heap/\TruthOf X.prog X.w A.in1 P tr/\
   ∀h' tk,(∀b o,b∉wr->s₂.heap.get? b=some o->h'.get? b=some o)->Q (.bool (r2 (List.range n) tr)) {s₂ with heap:=h',toks:=tk}) E s:=by
 obtain⟨a5,rv,pl,hz⟩:=I.list hq;cases ax.bls rv;have hlt:a<s.sz:=by obtain⟨o,ho,_⟩:=pl.isList;exact q_ ho
 refine U9 pl.isList ?_;refine⟨s.sz,_,_,_,_,_,λi=>bs.getD i false,rfl,Walks.list (show A.in1.handled=none from hh) s.sz a (B_ hlt) (bs.map Value.bool).toArray,⟨⟨_,n_ _ rfl,rfl,rfl⟩,pl.isList.push _⟩,λi v s1 Q1 E1 hv hQ=>?_,λh' tk hk=>?_⟩
 .have uH:(bs.map Value.bool)[i]?=some v:=by simpa using hv
  rw[o_]at uH;cases e:bs[i]? with
  | none=>rw[e]at uH;cases uH
  | some b=>
   rw[e]at uH;cases uH;have hb:bs.getD i false=b:=by simp[List.getD,e]
   have hQ:Q1 (bs.getD i false) s1:=hQ;rw[hb]at hQ;exact UL hQ
 .rw[hg _ (by simp)];refine q _ (I.kept λb o e=>hk b o (λhb=>?_) (e_ _ e));have:b=s.sz:=by simpa using hb
  exact B_ (q_ e) this
theorem Br(hc:X.calm=true):cS X (.builtin "all") (λxs H Q=>∃(a:Ye)(bs:List Bool),xs=[.ref a]/\cJ X.K H a (bs.map V.bl)/\Q (.bl (bs.all id)) H):=by
 intro pins s σ H xs us Q I rs h;obtain⟨a,bs,rfl,hq,q⟩:=h;obtain⟨u,rfl,rx⟩:=vals1 rs;cases rx;exact call_all_walk (DE (g:=λbs=>bs.all id) (I.ok.hd hc) I hq (λn e=>by subst e;exact F3 bs) λs' I'=>⟨.bl _,H,I',rfl,q⟩)
theorem MQ{K:Fg}:fL K .cl Gf (λxs H Q=>∃(a:Ye)(bs:List Bool),xs=[.ref a]/\cJ K H a (bs.map V.bl)/\Q (.bl (bs.all id)) H):=λ{Z H x dx d Q} s h e k=>by
 cases dx<;>try cases e
 obtain⟨bs,h1,h2⟩:=a_.mp e;cases h2;cases Ar h1;obtain⟨a,vs,rfl,q,rr⟩:=h.lst s;cases ar.bls rr;exact⟨a,bs,rfl,q,k _ Z H (Ex.refl s) rfl⟩
theorem Cs:bootBuiltins "all"=some (.builtin "all"):=by decide +kernel
theorem NL(hm:X.mg "all"=none)(a7:X.calm=true)(ha:PD X ga l fa)(hg:Gl X "all":=by rfl)(he:starEach [l] X.env=[(false,eval l X.env)]:=by rfl):PD X .cl (.Call (.Name "all" p) [l] [] pos) (bC Gf fa):=
 mR (Br a7) MQ Cs hm ha (by decide) (by decide) hg he
theorem Av:∀(l:List α),(∀x∈l,f x=some (g x))->l.filterMap f=l.map g
 | [],_=>rfl
 | a::l,h=>by
  rw[Wj,h a g_,A_];exact UW _ (Av l λx hx=>h x (f_ _ hx))
theorem EC(a5:XX):slicePick a5.toArray none none (some (-1))=a5.reverse.toArray:=by
 unfold slicePick sliceBounds sliceRange;simp only[Option.getD_some,r_,show ¬((-1:Int)>0) by decide,Uu];congr 1;have hc:(if(a5.length:Int)-1 > -1 then((a5.length:Int)-1 - -1 - -1-1)/(- -1)else 0).toNat=a5.length:=by
  split
  .rw[show(- -1:Int)=1 by decide,Int.ediv_one];lia
  .lia
 rw[hc];apply Wc;intro i;rw[List.filterMap_map];have key:(List.range a5.length).filterMap ((λx=>a5.toArray[x]?) ∘ λ(k:Nat)=>((a5.length:Int)-1+-1*(k:Int)).toNat)=(List.range a5.length).map λk=>a5.getD (a5.length-1-k) .none:=by
  refine Av _ λk hk=>?_;have hk':k<a5.length:=by simpa using hk
  simp only[Function.comp];rw[show((a5.length:Int)-1+-1*(k:Int)).toNat=a5.length-1-k by lia];simp[List.getD,show a5.length-1-k<a5.length by lia]
 rw[key,o_]
 by_cases hi:i<a5.length
 .rw[Vp hi,List.getElem?_reverse hi];simp[List.getD,show a5.length-1-i<a5.length by lia]
 .rw[T9 (by simpa using hi),T9 (by simpa using hi)];rfl
def DU:D->Ym
 | .lst ds=>some (.lst ds.reverse)
 | _=>none
theorem ax.rev:∀{xs:Yn}{us:XX},ax xs us->ax xs.reverse us.reverse
 | [],us,h=>by cases h;exact .nil
 | x::xs,us,h=>by
  cases h with
  | cons p q=>rw[Xs,Xs];exact(ax.rev q).append (.cons p .nil)
def QN(K:Fg)(te:TE):TE:=λσ H Q=>te σ H λx H1=>∃a xs,x=.ref a/\cJ K H1 a xs/\∀q,H1 q=none->Q (.ref q) (upd H1 q (.lst xs.reverse))
theorem K2{e:Yf}{te:TE}{i j:Int}{k:Nat}(he:PE X e te):PE X (.Subscript e (.Slice none none (some (.UnaryOp .USub (.Constant (.int 1) k p3) p4)) p2) pos) (QN X.K te):=by
 intro pins s σ H Q I h;refine Subscript_ (bF (he pins s σ H _ I h) λv s1 aG=>?_);obtain⟨x,H1,I1,r1,q1⟩:=aG;obtain⟨a,xs,e1,hx,q⟩:=q1;subst e1;cases r1;refine wpAny_Slice ?_;rw[evalPart_none];refine d_ (d_ ?_);refine bF (AA (IM DW DS) pins s1 σ H1 (λo H2=>o=some (-1)/\H2=H1) I1 ⟨_,rfl,_,rfl,rfl,rfl⟩) λSM s2 aG=>?_;obtain⟨o,H2,I2,ps,e2,e3⟩:=aG;subst e2;subst e3;have I4:Inv X pins σ H2 {s2 with heap:=s2.heap.push {cls:=.type "slice",data:=.fields #[.none,.none,SM]}}:=I2.kept λb ob z=>e_ _ z;obtain⟨a5,rv,ht,hz⟩:=I4.list hx;have hlen:=rv.length;show wpAny (model X.prog X.w) X.A (subscriptTail e (.Slice none none (some (.UnaryOp .USub (.Constant (.int 1) k p3) p4)) p2) (.ref a) (.ref s2.sz)) (EP X pins σ Q) X.xe {s2 with heap:=s2.heap.push {cls:=.type "slice",data:=.fields #[.none,.none,SM]}};refine tail_any ht.isList.typeIs Xr.lookup ?_ (by with_unfolding_all rfl);refine wpAny_getItem_list_slice ht.isList (Heap.IsSliceOf.new ..) .none .none ps (by simp) ?_ (by rw[r_]<;>lia);rw[EC];exact⟨.ref _,_,I4.laid (o:=.lst xs.reverse) (λb ob z=>e_ _ z) (m_ _) ⟨by rw[List.length_reverse];exact hz,_,0,ax.rev rv,n_ _ rfl⟩,rfl,q _ (I4.hok.fresh (m_ _))⟩
theorem NS{k:Nat}(ha:PD X ga l fa):PD X .nw (.Subscript l (.Slice none none (some (.UnaryOp .USub (.Constant (.int 1) k p3) p4)) p2) pos) (bC DU fa):=PE.imp (K2 (i:=0) (j:=0) ha) λσ H Q aG=>by
 obtain⟨env,B,Z,d,R,e,kk⟩:=aG;obtain⟨x,h1,h2⟩:=a_.mp e;cases x<;>try cases h2
 rename_i ds;refine⟨env,B,Z,_,R,h1,λv Z1 H1 x1 g1=>?_⟩;obtain⟨a,vs,rfl,q,rr⟩:=(show Gd X.K Z1 H1 H1 .pk (.lst ds) v from g1.pk).lst x1.zh;exact⟨a,vs,rfl,q,λp hp=>kk _ Z1 _ (x1.trans (Ex.newL x1.zh hp)) ⟨p,_,_,rfl,rfl,x1.h.free hp,ay,x1.zh.free hp,ar.rev rr⟩⟩
end
def insI(x:Int):X4->X4
 | []=>[x]
 | y::r=>if x<=y then x::y::r else y::insI x r
def mI:X4->X4
 | []=>[]
 | x::r=>insI x (mI r)
theorem insI_perm(x:Int):∀l,(insI x l).Perm (x::l)
 | []=>.refl _
 | y::r=>by
  unfold insI
  split
  .exact .refl _
  .exact((insI_perm x r).cons y).trans (List.Perm.swap x y r)
theorem jx:∀l,(mI l).Perm l
 | []=>.refl _
 | x::r=>(insI_perm x _).trans ((jx r).cons x)
theorem zW(x:Int):∀{l:X4},l.Pairwise (·<=·)->(insI x l).Pairwise (·<=·)
 | [],_=>by simp[insI]
 | y::r,h=>by
  obtain⟨h1,h2⟩:=Ue.mp h;unfold insI
  split
  .rename_i hx;exact Ue.mpr ⟨λz hz=>by
    rcases p_.mp hz with rfl | hz
    .exact hx
    .exact WD hx (h1 z hz),h⟩
  .rename_i hx;refine Ue.mpr ⟨λz hz=>?_,zW x h2⟩;rcases p_.mp ((insI_perm x r).mem_iff.mp hz)with rfl | hz
   .lia
   .exact h1 z hz
theorem tX:∀l,(mI l).Pairwise (·<=·)
 | []=>.nil
 | x::r=>zW x (tX r)
theorem rL:∀{l m:X4},l.Perm m->l.Pairwise (·<=·)->m.Pairwise (·<=·)->l=m
 | [],m,p,_,_=>(List.Perm.nil_eq p)
 | x::l,[],p,_,_=>absurd p.symm (by intro h;exact absurd (List.Perm.nil_eq h) (by simp))
 | x::l,y::m,p,h1,h2=>by
  obtain⟨a1,a2⟩:=Ue.mp h1;obtain⟨b1,b2⟩:=Ue.mp h2;have e:x=y:=by
   have hx:x∈y::m:=p.mem_iff.mp g_;have hy:y∈x::l:=p.mem_iff.mpr g_;rcases p_.mp hx with e | hx
   .exact e
   .rcases p_.mp hy with e | hy
    .exact e.symm
    .have:=b1 x hx;have:=a1 y hy;lia
  subst e;rw[rL ((List.perm_cons x).mp p) a2 b2]
theorem F5(p:m.Perm l)(h:m.Pairwise (·<=·)):m=mI l:=rL (p.trans (jx l).symm) h (tX l)
theorem wN(l:X4):(mI l).length=l.length:=(jx l).length_eq
section
variable {prog:X9}{w:Yb}{A:X_}{E:XO}{s:X8}
theorem vH(ho:s.heap.get? a=some o)(hc:o.cls=.type "list"\/o.cls=.type "tuple")(hd:o.data=.seq vs.toArray n)
    (q:Q vs {s with heap:=(s.heap.push (seqObj "list" #[] 0)).update s.sz (Obj.mapSeq (·++vs.toArray))}) (hz:vs.length<=sizeLine):wpAny (model prog w) A (collect (.ref a)) Q E s:=by
  unfold collect;refine b_ (wpAny_runValue (Vb PyProof.Rows.entry_proto_collect' (show wpAny _ _ (newList [] >>= λz=>again (.builtin "list.__iadd__" ⟨[z,.ref a],[]⟩)) _ _ s from
    b_ (W0 (d_ ⟨Code.quiet_builtin _ (by decide +kernel),Vb PyProof.Rows.entry_list_iadd' ?_⟩)))))
  have e1:(s.heap.push (seqObj "list" #[] 0)).get? a=some o:=e_ _ ho;have e2:(s.heap.push (seqObj "list" #[] 0)).get? s.sz=some (seqObj "list" #[] 0):=n_ _ rfl;obtain⟨T,hT,ht⟩:∃T:String,o.cls=.type T/\(Value.type T==Value.type "list"||Value.type T==Value.type "tuple")=true:=by
    rcases hc with h | h
    . exact⟨"list",h,rfl⟩
    . exact⟨"tuple",h,rfl⟩
  show wpAny _ _ (Builtin.List.listExtendWith (.ref s.sz) (.ref a) (.ref s.sz)) _ _ {s with heap:=s.heap.push (seqObj "list" #[] 0)};unfold Builtin.List.listExtendWith;refine b_ (wpAny_typeOf ⟨o,e1,hT⟩ ?_);rw[j_ (by rw[Bool.or_assoc,ht,Bool.or_true])];refine b_ (listItems_at e1 hd (b_ (listItems_at e2 rfl ?_)));rw[h_ (by simp)];refine b_ (listUpdate_at e2 rfl (d_ ?_) (UY _) (by simp only[Array.size_append,r_,Ui];lia));show wpAny (model prog w) A (load s.sz >>= λo=>match o.data with | .seq xs _=>pure xs.toList | _=>unsupported "internal:collect") Q E {s with heap:=(s.heap.push (seqObj "list" #[] 0)).update s.sz (Obj.mapSeq (·++vs.toArray))};refine b_ (wpAny_load (W4 e2 _) ?_);show wpAny _ _ (pure ((#[]:Array X7)++vs.toArray).toList) Q E _;rw[show((#[]:Array X7)++vs.toArray).toList=vs by simp];exact d_ q
theorem sortedS(ho:s.heap.get? a=some o)(hc:o.cls=.type "list"\/o.cls=.type "tuple")(hd:o.data=.seq vs.toArray n)(hI:IntsAre vs ns)(hz:vs.length<64)
  (q:∀(out:Array X7)(nk:X4),IntsAre out.toList nk->nk.Perm ns->nk.Pairwise (·<=·)->Q (.ref (s.sz+1)) {s with heap:=sortedAll s.heap vs out}):wpAny (model prog w) A (call (.builtin "sorted") [.ref a]) Q E s:=by
 refine Calls.call_function_entry PyProof.Rows.kind_sorted plain_sorted entry_sorted (args_sorted1 _) ?_;unfold Builtin.«sorted»;refine b_ (d_ (b_ (vH ho hc hd (b_ (W0 ?_)) (by have:=Um;lia))));have z1:((s.heap.push (seqObj "list" #[] 0)).update s.sz (Obj.mapSeq (·++vs.toArray))).objs.size=s.sz+1:=by rw[WS,size_push']
 have z2:(((s.heap.push (seqObj "list" #[] 0)).update s.sz (Obj.mapSeq (·++vs.toArray))).push (seqObj "list" vs.toArray 0)).get? (s.sz+1)=some (seqObj "list" vs.toArray 0):=by
  rw[<- z1];exact n_ _ rfl
 show wpAny _ _ _ _ _ {s with heap:=((s.heap.push (seqObj "list" #[] 0)).update s.sz (Obj.mapSeq (·++vs.toArray))).push (seqObj "list" vs.toArray 0)};rw[z1];exact b_ (F_ (Ug slot_list_sort ⟨_,z2,rfl⟩ entry_list_sort (list_sort_tree z2 hI hz λout nk a1 a2 a3=>⟨_,rfl,d_ ⟨_,rfl,q out nk a1 a2 a3⟩⟩) (args_list_sort _)))
end
def hU:Yl->Option X4
 | []=>some []
 | .int i::r=>(hU r).bind λbs=>some (i::bs)
 | _=>none
theorem fR:∀{ds:Yl}{bs:X4},hU ds=some bs->ds=bs.map .int
 | [],bs,h=>by cases h;rfl
 | d::r,bs,h=>by
  cases d<;>try cases h
  obtain⟨cs,h1,h2⟩:=a_.mp h;cases h2;rw[fR h1];rfl
theorem jG:∀(ns:X4),hU (ns.map .int)=some ns
 | []=>rfl
 | n::ns=>by show(hU (ns.map .int)).bind _=_;rw[jG ns];rfl
theorem ar.intsV{K:Fg}{H:Hp}:∀{bs:X4}{vs:Yn},ar K H (bs.map .int) vs->vs=bs.map .int
 | [],vs,h=>h
 | b::bs,vs,⟨v,r,e,h1,h2⟩=>by subst e;cases(show v=V.int b from h1);rw[ar.intsV h2];rfl
theorem ax.ints:∀{bs:X4}{us:XX},ax (bs.map V.int) us->IntsAre us bs
 | [],us,h=>by cases h;exact .nil
 | b::bs,us,h=>by
  cases h with
  | cons p q=>obtain⟨t,rfl⟩:=(show ∃t,_=Value.int b t from p);exact .cons b t (ax.ints q)
theorem ax.ofInts:∀{bs:X4}{us:XX},IntsAre us bs->ax (bs.map V.int) us
 | [],us,h=>by cases h;exact .nil
 | b::bs,us,h=>by
  cases h with
  | cons n t q=>exact .cons ⟨t,rfl⟩ (ax.ofInts q)
def sortI:D->Ym
 | .lst ds=>(hU ds).bind λns=>if ns.length<64 then some (.lst ((mI ns).map .int))else none
 | .tup ds=>(hU ds).bind λns=>if ns.length<64 then some (.lst ((mI ns).map .int))else none
 | _=>none
section
variable {X:Cx}{l r:Yf}{fa fb:Fe}{ga gb:Gr}{pos p:Pos}
theorem tG:cS X (.builtin "sorted") (λxs H Q=>∃(a:Ye)(ns:X4),xs=[.ref a]/\(cJ X.K H a (ns.map V.int)\/cM X.K H a (ns.map V.int))/\ns.length<64/\∀q,H q=none->Q (.ref q) (upd H q (.lst ((mI ns).map V.int)))):=by
 intro pins s σ H xs us Q I rs h;obtain⟨a,ns,rfl,hq,hl,q⟩:=h;obtain⟨u,rfl,rx⟩:=vals1 rs;cases rx;have fin:∀(a5:XX)(out:Array X7)(nk:X4),IntsAre out.toList nk->nk.Perm ns->nk.Pairwise (·<=·)->EP X pins σ Q (.ref (s.sz+1)) {s with heap:=sortedAll s.heap a5 out}:=λa5 out nk a1 a2 a3=>by
  cases F5 a2 a3;obtain⟨e,he⟩:=sortedAll_at s.heap a5 out;refine⟨.ref _,_,I.laid (o:=.lst ((mI ns).map V.int)) (λb o z=>sortedAll_old z) (VW _) ⟨?_,out.toList,e,ax.ofInts a1,by simpa using he⟩,rfl,q _ (I.hok.fresh (VW _))⟩;have:=Um;rw[c_,wN];lia
 rcases hq with hq | hq
 .obtain⟨a5,rv,pl,hz⟩:=I.list hq;have hlen:=rv.length;obtain⟨o,ho,hc,n,hd⟩:=pl.isList;exact sortedS ho (.inl hc) hd (ax.ints rv) (by rw[<- hlen,c_];exact hl) (fin a5)
 .obtain⟨a5,rv,pl,hz⟩:=I.tuple hq;have hlen:=rv.length;obtain⟨o,ho,hc,n,hd⟩:=pl;exact sortedS ho (.inr hc) hd (ax.ints rv) (by rw[<- hlen,c_];exact hl) (fin a5)
theorem Ee{K:Fg}:fL K .nw sortI (λxs H Q=>∃(a:Ye)(ns:X4),xs=[.ref a]/\(cJ K H a (ns.map V.int)\/cM K H a (ns.map V.int))/\ns.length<64/\∀q,H q=none->Q (.ref q) (upd H q (.lst ((mI ns).map V.int)))):=λ{Z H x dx d Q} s h e k=>by
 cases dx<;>try cases e
 .obtain⟨ns,h1,h2⟩:=a_.mp e;obtain⟨hl,rfl⟩:=nz h2;cases fR h1;obtain⟨a,vs,rfl,q,rr⟩:=h.tup s;cases ar.intsV rr;exact⟨a,ns,rfl,.inr q,hl,λp hp=>k _ Z _ (Ex.newL s hp) ⟨p,_,_,rfl,rfl,hp,ay,s.free hp,ar.ints _⟩⟩
 .obtain⟨ns,h1,h2⟩:=a_.mp e;obtain⟨hl,rfl⟩:=nz h2;cases fR h1;obtain⟨a,vs,rfl,q,rr⟩:=h.lst s;cases ar.intsV rr;exact⟨a,ns,rfl,.inl q,hl,λp hp=>k _ Z _ (Ex.newL s hp) ⟨p,_,_,rfl,rfl,hp,ay,s.free hp,ar.ints _⟩⟩
theorem DG(hm:X.mg "sorted"=none)(ha:PD X ga l fa)(hg:Gl X "sorted":=by rfl)(he:starEach [l] X.env=[(false,eval l X.env)]:=by rfl):PD X .nw (.Call (.Name "sorted" p) [l] [] pos) (bC sortI fa):=
 mR tG Ee PyProof.Rows.boot_sorted hm ha (by decide) (by decide) hg he
end
structure Src(prog:Program)(w:World)(i l:Addr)(it:Nat->Heap->Prop)(at_:List Value->Heap->Prop):Prop where
 nxt:∀{A:Around}{E:Value->Shared->Prop}{s:Shared}{k:Nat}{xs:List Value}{x:Value}{Q:Value->Shared->Prop},it k s.heap->at_ xs s.heap->xs[k]?=some x->(∀h',it (k+1) h'->Heap.SameBut i s.heap h'->Q x {s with heap:=h'})->
  wpAny (model prog w) A (Builtin.SmallTypes.nextOf (.ref i)) Q E s
 fin:∀{A:Around}{E:Value->Shared->Prop}{s:Shared}{k:Nat}{xs:List Value}{Q:Value->Shared->Prop},A.handled=none->it k s.heap->at_ xs s.heap->xs[k]?=none->
  (∀h' e,Heap.ExtBut i s.heap h'->(∃o,h'.get? e=some o/\o.cls=.type "StopIteration")->E (.ref e) {s with heap:=h'})->wpAny (model prog w) A (Builtin.SmallTypes.nextOf (.ref i)) Q E s
 itx:∀{k:Nat}{h h':Heap},it k h->(∀o,h.get? i=some o->h'.get? i=some o)->it k h'
 atx:∀{xs:List Value}{h h':Heap},at_ xs h->(∀o,h.get? l=some o->h'.get? l=some o)->at_ xs h'
 obj:∀{k:Nat}{h:Heap},it k h->∃o,h.get? i=some o/\∀v,o.data≠.cell v
 lt:∀{xs:List Value}{h:Heap},at_ xs h->∃o,h.get? l=some o
section
variable {prog:X9}{w:Yb}
theorem yR(hit:s.heap.IsTupleIter i t k)(ht:s.heap.IsTuple t items)(hx:items[k]?=some x)
  (hQ:∀h',h'.IsTupleIter i t (k+1)->Heap.SameBut i s.heap h'->Q x {s with heap:=h'}):wpAny (model prog w) A (Builtin.SmallTypes.nextOf (.ref i)) Q E s:=by
 obtain⟨o,ho,hc,hd⟩:=id hit;obtain⟨ol,FJ,_,nl,HX⟩:=ht;unfold Builtin.SmallTypes.nextOf;refine b_ (Uv hit.typeIs VA (Ug VA hit.typeIs F.entry_tuple_iterator_next ?_ (F.args_tuple_iterator_next_1 _)));show wpAny _ _ (field (.ref i) 0 >>= _) _ _ s;refine b_ (U6 ho hd rfl (show wpAny _ _ (if(Value.ref t==Value.none)=true then _ else _) _ _ s from ?_));rw[h_ (show ¬((Value.ref t==Value.none)=true)from J_)];refine(show wpAny _ _ (field (.ref i) 1 >>= _) _ _ s from b_ (U6 ho hd rfl (show wpAny _ _ (seqItems? (.ref t) >>= _) _ _ s from b_ (VQ FJ HX ?_))));simp only[UQ,hx];refine b_ (WE ho hd (by simp) (d_ ⟨x,rfl,d_ (hQ _ ?_ (UH ..))⟩));exact⟨_,V7 _ ho (Obj.isFreed_of_fields (Wt hd _)),(Obj.cls_mapFields ..).trans hc,by rw[Wt hd];simp[rawInt]⟩
theorem Cd(hh:A.handled=none)(hit:s.heap.IsTupleIter i t k)(ht:s.heap.IsTuple t items)(hx:items[k]?=none)
  (hE:∀h' e,Heap.ExtBut i s.heap h'->(∃o,h'.get? e=some o/\o.cls=.type "StopIteration")->E (.ref e) {s with heap:=h'}):wpAny (model prog w) A (Builtin.SmallTypes.nextOf (.ref i)) Q E s:=by
 obtain⟨o,ho,hc,hd⟩:=id hit;obtain⟨ol,FJ,_,nl,HX⟩:=ht;unfold Builtin.SmallTypes.nextOf;refine b_ (Uv hit.typeIs VA (Ug VA hit.typeIs F.entry_tuple_iterator_next ?_ (F.args_tuple_iterator_next_1 _)));show wpAny _ _ (field (.ref i) 0 >>= _) _ _ s;refine b_ (U6 ho hd rfl (show wpAny _ _ (if(Value.ref t==Value.none)=true then _ else _) _ _ s from ?_));rw[h_ (show ¬((Value.ref t==Value.none)=true)from J_)];refine(show wpAny _ _ (field (.ref i) 1 >>= _) _ _ s from b_ (U6 ho hd rfl (show wpAny _ _ (seqItems? (.ref t) >>= _) _ _ s from b_ (VQ FJ HX ?_))));simp only[UQ,hx];refine b_ (WR (b_ (WE ho hd (by simp) ?_)));refine(show wpAny _ _ (newExc (.type "StopIteration") [] >>= _) _ _ _ from b_ ?_);simp only[newExc,newTuple];refine b_ (UC (b_ (We (by first | rfl | (simp only[firstArgMember];rfl)) ?_)) (by size_fits));refine UC ?_ (by size_fits);simp only[raiseNew];refine b_ (wpAny_handled ?_)
 first | rw[show A.in1.handled=none from hh] | rw[hh]
 exact b_ (d_ (wpAny_throw (hE _ _ (((UH ..).extBut.push _).push _) ⟨_,n_ _ rfl,rfl⟩)))
theorem QJ(i l:Ye):Src prog w i l (λk h=>h.IsTupleIter i l k) (λxs h=>h.IsTuple l xs.toArray) where
 nxt:=λh1 h2 h3 h4=>yR h1 h2 (by simpa using h3) h4
 fin:=λhh h1 h2 h3 h4=>Cd hh h1 h2 (by simpa using h3) h4
 itx:=λh1 h2=>h1.at h2
 atx:=λ⟨o,h1,h2⟩ h3=>⟨o,h3 o h1,h2⟩
 obj:=λ⟨o,e,c,d⟩=>⟨o,e,λv z=>by rw[d]at z;cases z⟩
 lt:=λ⟨o,h1,_⟩=>⟨o,h1⟩
theorem P4(i l:Ye):Src prog w i l (λk h=>h.IsListIter i l k) (λxs h=>h.IsList l xs.toArray) where
 nxt:=λh1 h2 h3 h4=>wpAny_nextOf_list_item h1 h2 (by simpa using h3) h4
 fin:=λhh h1 h2 h3 h4=>wpAny_nextOf_list_end hh h1 h2 (by simpa using h3) h4
 itx:=λh1 h2=>h1.at h2
 atx:=λh1 h2=>h1.at h2
 obj:=λ⟨o,e,c,d⟩=>⟨o,e,λv z=>by rw[d]at z;cases z⟩
 lt:=λ⟨o,h1,_⟩=>⟨o,h1⟩
variable {A:X_}{E:XO}{s:X8}{z TI TO i1 i2 l1 l2:Ye}{k1 k2:Nat}{xs ys:XX}{x y a b:X7}{SN it2:Nat->Ya->Prop}{at1 at2:XX->Ya->Prop}
theorem LX(hs:Heap.ExtBut e h h')(n:c≠e):∀o,h.get? c=some o->h'.get? c=some o:=λo q=>hs c o n q
end
section
variable {X:Cx}{pins:XQ}{σ:L2.St}{H:Hp}{s:X8}{h':Ya}
theorem jz{t':Nat}{ch:X0}(I:L2.Inv X pins σ H s)(hf:∀b∈ch,cf X pins H b)(k:∀b o,b∉ch->s.heap.get? b=some o->h'.get? b=some o):L2.Inv X pins σ H {s with heap:=h',toks:=t'}:=by
 have Oh:∀b u,H b=some u->b∉ch:=λb u e z=>by rw[(hf b z).1]at e;cases e
 refine I.step (λb hb=>?_) (λb o _ _ hc e _=>k b o hc e) (λb o _ _ hc e _=>⟨o.slots,k b o hc e⟩) (λ_ _ _ _ n=>n)
  (λb o hc e=>⟨o,k b o hc e⟩) (λ_ _ e=>e) (λ_ _ _ e=>e) (λ_ _ e=>e) (λm hm=>?_) (λb u e=>?_) I.bare
 .obtain⟨f0,f1,f2,f3,f4,f5⟩:=hf b hb;exact⟨f3,f1,f4,f5⟩
 .obtain⟨o,es,ep,ho,r⟩:=hm;exact⟨o,es,ep,k _ o (λz=>(hf _ z).2.1 rfl) ho,r⟩
 .refine(I.hok b u e).stay (λc v hc q=>k c v ?_ q) (λ_ q=>q) (λ_ _ q=>q) λ_ _ q=>q;rcases hc with z | z
  .rw[z];exact Oh b u e
  .exact Oh c _ z
end
structure Rg(K:Fg)(l:Addr)(S:Hp->List V->Prop)(at_:List Value->Heap->Prop):Prop where
 get:∀{X:Cx}{pins:List (Addr×Obj)}{σ:L2.St}{H:Hp}{s:Shared}{xs:List V},X.K=K->L2.Inv X pins σ H s->S H xs->∃a5,ax xs a5/\at_ a5 s.heap
 inj:∀{X:Cx}{pins:List (Addr×Obj)}{σ:L2.St}{H:Hp}{s:Shared}{xs ys:List V},X.K=K->L2.Inv X pins σ H s->S H xs->S H ys->xs=ys
theorem QL{K:Fg}(l:Ye):Rg K l (λH xs=>cM K H l xs) (λxs h=>h.IsTuple l xs.toArray):=
 ⟨λe I h=>by subst e;obtain⟨a5,rv,p,hz⟩:=I.tuple h;exact⟨a5,rv,p⟩,λe I h1 h2=>by subst e;exact I.tuple_inj h1 h2⟩
theorem Qj{K:Fg}(l:Ye):Rg K l (λH xs=>cJ K H l xs) (λxs h=>h.IsList l xs.toArray):=
 ⟨λe I h=>by subst e;obtain⟨a5,rv,p,hz⟩:=I.list h;exact⟨a5,rv,p.isList⟩,λe I h1 h2=>by subst e;exact I.list_inj h1 h2⟩
abbrev O6(c:String)(h:Ya)(l:Ye):Ya:=h.push {cls:=.type c,data:=.fields #[.ref l,.int 0 0]}
section
variable {X:Cx}{es:X1}{kk:Nat}{tp:Pos}
end
end Mi
namespace Mi
open PySem L2
theorem Ax(h1:f env=some (.bl p))(h2:p=true->g env=some (.bl q)):me f g env=some (.bl (p&&q)):=by
 unfold me;rw[h1];cases p with
 | true=>exact h2 rfl
 | false=>rfl
theorem JH(h1:f env=some (.bl p))(h2:p=false->g env=some (.bl q)):K8 f g env=some (.bl (p||q)):=by
 unfold K8;rw[h1];cases p with
 | false=>exact h2 rfl
 | true=>rfl
theorem yA(h1:f env=some p)(h2:p=true->g env=some q):tP f g env=some (p&&q):=by
 unfold tP;rw[h1];cases p with
 | true=>exact h2 rfl
 | false=>rfl
theorem AE(h1:f env=some p)(h2:p=false->g env=some q):CG f g env=some (p||q):=by
 unfold CG;rw[h1];cases p with
 | false=>exact h2 rfl
 | true=>rfl
theorem CQ(hx:fa env=some x)(hy:fb env=some y)(hw:fc env=some w)(h1:b x y=some (.bl p))(h2:b' y w=some (.bl q)):KB b b' fa fb fc env=some (.bl (p&&q)):=by
 unfold KB;rw[hx];show(fb env).bind _=_;rw[hy];show(b x y).bind _=_;rw[h1];cases p with
 | true=>show(fc env).bind _=_;rw[hw];exact h2
 | false=>rfl
theorem bf(h1:fi env=some ds)(h2:dH is (dj n caps env)=true)(h3:fW t c k (dj n caps env) ds=some xs)(hl:xs.length<=16000000):aP fi is t c k n caps env=some (.lst xs):=by
 unfold aP;rw[h1];show(if dH is (dj n caps env)=true then _ else _)=_;rw[j_ h2,h3];show(if xs.length<=16000000 then _ else _)=_;rw[j_ hl]
theorem Eu(p:D->Bool)(g:D->D):∀(ds:Yl),(∀d∈ds,∃e1,t d env=some e1/\c e1=some (p d)/\(p d=true->k e1=some [g d]))->fW t c k env ds=some ((ds.filter p).map g)
 | [],_=>rfl
 | d::ds,h=>by
  obtain⟨e1,h1,h2,h3⟩:=h d g_;have ih:=Eu p g ds λx hx=>h x (f_ _ hx);unfold fW;rw[h1];show(c e1).bind _=_;rw[h2];cases hp:p d with
  | true=>
   show(if true=true then k e1 else some []).bind _=_;rw[j_ rfl,h3 hp];show(fW t c k env ds).bind _=_;rw[ih,Ua,j_ hp];rfl
  | false=>
   simp only[UO,E_,Uu,ih,Ud,Ua,hp]
theorem gA(h:f env=some d):aC f env=some [d]:=by unfold aC;rw[h];rfl
theorem jn(I:Yl->En->Prop)(g:D->Yl)(B M:Nat):∀(ds:Yl)(acc:Yl)(env:En),I acc env->acc.length+B*ds.length<=M->(∀d∈ds,(g d).length<=B/\∀acc e,I acc e->acc.length+B<=M->∃e1,(t d e).bind body=some (.nx e1)/\I (acc++g d) e1)->
  ∃e2,cK t body ds env=some (.nx e2)/\I (acc++ds.flatMap g) e2
 | [],acc,env,h,_,_=>⟨env,rfl,by simpa using h⟩
 | d::ds,acc,env,h,hl,hb=>by
  obtain⟨b1,b2⟩:=hb d g_;rw[z_,XG]at hl;obtain⟨e1,h1,h2⟩:=b2 acc env h (by lia);obtain⟨e2,h3,h4⟩:=jn I g B M ds (acc++g d) e1 h2 (by rw[x_];lia) λd' hd=>hb d' (f_ _ hd);refine⟨e2,?_,by rw[UD,<- U8];exact h4⟩;obtain⟨e0,h5,h6⟩:=a_.mp h1;show(t d env).bind (λe1=>(body e1).bind _)=_;rw[h5];show(body e0).bind _=_;rw[h6];exact h3
theorem vA{g:D->Yl}{B:Nat}:∀(ds:Yl),(∀d∈ds,(g d).length<=B)->(ds.flatMap g).length<=B*ds.length
 | [],_=>by simp
 | d::ds,h=>by
  rw[UD,x_,z_,XG];have:=h d g_;have:=vA ds λx hx=>h x (f_ _ hx)
  lia
theorem iu:d∈aM 0 n↔∃i:Nat,i<n/\d=.int i:=by
 unfold aM;simp only[u_,UA];constructor
 .rintro⟨i,h,rfl⟩;exact⟨i,h,by simp⟩
 .rintro⟨i,h,rfl⟩;exact⟨i,h,by simp⟩
theorem eX(n:Nat):(aM 0 n).length=n:=by simp[aM]
theorem tH:∀{ds:Yl},(∀d∈ds,eJ d<=n)->oq ds<=n
 | [],_=>by unfold oq;lia
 | d::ds,h=>by
  unfold oq;have:=h d g_;have:=tH λx hx=>h x (f_ _ hx)
  lia
theorem tZ(h:∀d∈ds,eJ d<=n):eJ (.tup ds)<=n+1:=by unfold eJ;have:=tH h;lia
theorem GU(h:∀d∈ds,eJ d<=n):eJ (.lst ds)<=n+1:=by unfold eJ;have:=tH h;lia
theorem uo(i:Int):eJ (.int i)=0:=by unfold eJ;rfl
theorem Ai(x:Str):eJ (.str x)=0:=by unfold eJ;rfl
theorem P6(h1:f env=some d)(h2:g env=some (.lst es))(h3:eJ d<=60)(hb:inD d es=b)(h4:(pl d&&iy es)=true:=by rfl):aq (mK false) f g env=some (.bl b):=by
 rw[aX h1 h2];show(if eJ d<=60/\(pl d&&iy es)=true then _ else _)=_;rw[j_ ⟨h3,h4⟩,<- hb];rfl
theorem M3(h1:f env=some d)(h2:g env=some (.lst es))(h3:eJ d<=60)(hb:inD d es=b)(h4:(pl d&&iy es)=true:=by rfl):aq (mK true) f g env=some (.bl !b):=by
 rw[aX h1 h2];show(if eJ d<=60/\(pl d&&iy es)=true then _ else _)=_;rw[j_ ⟨h3,h4⟩,<- hb];rfl
theorem GM(h1:f env=some d)(h2:g env=some e)(h3:gQ d e=true)(hb:eT d e=b):aq fV f g env=some (.bl b):=by
 rw[aX h1 h2];unfold fV;rw[j_ h3,hb]
theorem K'(h1:f env=some d)(h2:g env=some e)(h3:gQ d e=true)(hb:eT d e=b):aq rD f g env=some (.bl !b):=by
 rw[aX h1 h2];unfold rD;rw[j_ h3,hb]
theorem D7(h:eJ d<=60)(h2:(pl d&&pl e)=true):gQ d e=true:=by unfold gQ;rw[h2,v_ h];rfl
theorem Np(h:eJ e<=60)(h2:(pl d&&pl e)=true):gQ d e=true:=by unfold gQ;rw[h2,v_ h,Bool.or_true];rfl
theorem zp(xs:Yl):eT (.lst xs) (.lst [])=xs.isEmpty:=by
 cases xs<;>(unfold eT;rfl)
theorem iI(h:fs env=some ds):bq fs env=some (.tup ds):=by unfold bq;rw[h];rfl
theorem DP(h:fs env=some ds):b8 fs env=some (.lst ds):=by unfold b8;rw[h];rfl
theorem NO(h:t env=some b)(h1:b=true->f env=some d)(h2:b=false->g env=some d):iteFn t f g env=some d:=by
 unfold iteFn;rw[h];cases b with
 | true=>exact h1 rfl
 | false=>exact h2 rfl
theorem Kh{α:Type}{xs:List α}{i:Int}(h0:0<=i)(h1:i<xs.length):∃x,L2.atI xs i=some x/\x∈xs:=by
 obtain⟨n,rfl⟩:=Up h0;have hn:n<xs.length:=by lia
 exact⟨xs[n],cZ (l_ hn),Ut hn⟩
theorem BQ(ns:Yl)(k:Nat):cutD ns (some (k:Int)) none=ns.drop k:=by
 unfold cutD;rw[HT.uS,HT.AB]
 by_cases h:k<=ns.length
 .rw[XI h,V0 (by rw[VP];lia)]
 .rw[Nat.min_eq_right (by lia),WO,List.drop_of_length_le (by lia)];simp
theorem Ea(h:f env=some (.lst ds)):bC mF f env=some (.tup ds):=by unfold bC;rw[h];rfl
theorem yZ(h:f env=some (.lst xs))(h2:g env=some (.lst ys))(hl:xs.length+ys.length<=16000000):aq uf f g env=some (.lst (xs++ys)):=by
 rw[aX h h2];show(if xs.length+ys.length<=16000000 then _ else _)=_;rw[j_ hl]
theorem wI:∀(bs:List Bool),B0 (bs.map .bl)=some bs
 | []=>rfl
 | b::bs=>by show(B0 (bs.map .bl)).bind _=_;rw[wI bs];rfl
theorem N1{f:Fe}{env:En}{bs:List Bool}(h:f env=some (.lst (bs.map .bl))):bC Gf f env=some (.bl (bs.all id)):=by
 rw[kS h];show(B0 (bs.map .bl)).bind _=_;rw[wI];rfl
theorem kI(h:f env=some (.lst ds)):setO i f env=some (.nx (env.set i (.O (.L ds)))):=by unfold setO;rw[h];rfl
end Mi
namespace Mi
theorem we(h1:f env=some (.bl true)):me f g env=g env:=by unfold me;rw[h1];rfl
theorem fQ{t:Ft}{d:D}{e e0:En}{b:Fs}{o:Out}(h:t d e=some e0)(h2:b e0=some o):(t d e).bind b=some o:=by rw[h];exact h2
theorem ix(g:D->D)(ds:Yl)(h:∀d∈ds,∃e1,t d env=some e1/\k e1=some [g d]):fW t Yt k env ds=some (ds.map g):=by
 have:=Eu (t:=t) (c:=λ_=>some true) (k:=k) (env:=env) (λ_=>true) g ds λd hd=>by
  obtain⟨e1,h1,h2⟩:=h d hd;exact⟨e1,h1,rfl,λ_=>h2⟩
 rwa [List.filter_eq_self.mpr (λ_ _=>rfl)]at this
end Mi
namespace Mi
open PySem PySem.Spec PyProof.Rows L2
def mo(ks:XU)(p:X5):XU:=if p∈ks then ks else ks++[p]
theorem yH(h:kk p=kk q):p=q:=by
 obtain⟨a,b⟩:=p;obtain⟨c,d⟩:=q;unfold kk at h;simp at h;exact Prod.ext h.1 h.2
theorem lP:∀{xs:List α}{ys:List β},xs.length=ys.length->(xs.zip ys).map (·.1)=xs
 | [],[],_=>rfl
 | [],_::_,h=>by simp at h
 | _::_,[],h=>by simp at h
 | x::xs,y::ys,h=>by rw[U4,A_,lP (by simpa using h)]
theorem Co{α β:Type}{f:α->β}(hf:∀x y,f x=f y->x=y){l:List α}:(l.map f).Nodup↔l.Nodup:=by
 unfold List.Nodup;rw[UK];exact⟨λh=>h.imp λhne e=>hne (by rw[e]),λh=>h.imp λhne e=>hne (hf _ _ e)⟩
def kd(x:X5×Ye):Yi×Ye×X7:=(kk x.1,x.2,.bool true)
theorem jN.zip{K:Fg}{H:Hp}{ps:XU}{bs:X0}(h:jN K H ps bs):∀x∈ps.zip bs,cM K H x.2 [.int x.1.1,.int x.1.2]:=λx hx=>by
 obtain⟨i,hi⟩:=UF.mp hx;obtain⟨h1,h2⟩:=UX.mp hi;exact h.2 i _ _ h1 h2
section
variable {P:X9}{w:Yb}{a:Ye}{ps:XU}{bs:X0}{h:Ya}
end
section
variable {X:Cx}{rg:Gr}{l r:Yf}{fa fb:Fe}{ga gb:Gr}{pos p:Pos}{k:Nat}
theorem tW{pins σ H s}(I:Inv X pins σ H s)(hq:cM X.K H b [.int m,.int n]):(tupleKind (aH X.prog X.w)).is s.heap (kk (m,n)) b:=by
 obtain⟨a5,rv,⟨o,h1,h2,n',h3⟩,_⟩:=I.tuple hq;exact⟨o,a5.toArray,n',h1,h2,h3,by simpa using mw (ks:=kk (m,n)) rv⟩
end
section
variable {X:Cx}{rg:Gr}{pos:Pos}
def uw(i:Nat)(f:Fe):Fs:=λenv=>match env[i]? with
 | some (.O (.L ds))=>(f env).bind λd=>match d with
  | .lst es=>if ds.length+es.length<=16000000 then some (.nx (env.set i (.O (.L (ds++es)))))else none
  | _=>none
 | _=>none
theorem NZ(i:Nat)(he:PD X .nw e fe)(hN:X.N[i]?=some x:=by rfl)(hv:uL X.env.scope x:=by first | exact Or.inl rfl | exact Or.inr (Or.inl rfl) | exact Or.inr (Or.inr rfl))
  (hd:(x==("__debug__":Str))=false:=by decide) (lV:(x==("__classdict__":Str))=false:=by decide) (hst:starEach [e] X.env=[(false,eval e X.env)]:=by rfl)
  (hZ:attributeBase (.Name x px) "extend" X.env (eval (.Name x px) X.env)=eval (.Name x px) X.env:=by rfl)
  (uC:((backTo bU (starEach [e] X.env)).all (λx=>!x.1)&&(backToKw bU (keywordEach [] X.env)).all (λx=>x.1.isSome)
   && decide (([e]:X1).length+([]:List Keyword).length+(if([]:List Keyword).isEmpty then 0 else 1)<30))=true:=by rfl)
  (ib:(apos.endLine==bU.line)=true:=by rfl)
  (hs:swapsWith (.Call (.Attribute (.Name x px) "extend" apos) [e] [] bU) none pos.line X.env=pure false:=by rfl) :
  SD X rg (.Expr (.Call (.Attribute (.Name x px) "extend" apos) [e] [] bU) pos) (uw i fe):=by
 refine PS.imp (nJ (AI VS PySem.F.slot_list_extend PySem.F.type_list_extend Bv (du hN hv hd lV) (bL he dX hst) hZ uC ib hst rfl) hs) λE σ H aG=>?_;obtain⟨env,B,Z,o,R,e,k⟩:=aG;unfold uw at e
 split at e
 .rename_i ds hi;obtain⟨d,e1,e2⟩:=a_.mp e;cases d<;>try cases e2
  rename_i es;obtain⟨hl,rfl⟩:=nz e2;obtain⟨y,e3,a,o,e4,e5,e6,vs,rfl,r⟩:=R.sl i _ hi;subst e4;refine⟨_,e3,.inl ⟨rfl,vs,cJ.of e5⟩,env,B,Z,_,R,e1,λv Z1 H1 x1 g1=>?_⟩;obtain⟨b,us,es',rfl,e7,h1,h2,h3,r2⟩:=g1;cases e7;have R1:=R.ext x1;have r1:=ar.mono x1.z ds r;refine⟨a,b,vs,us,rfl,rfl,x1.h _ _ e5,h2,by rw[<- r.len,<- r2.len,Um];omega,?_⟩;obtain⟨R2,x2⟩:=R1.wr hi e3 (de.l (r1.app r2));exact k σ Z1 _ ((x1.part R.bh).transB x2) R2
 .cases e
def insAt(xs:List α)(k:Nat)(y:α):List α:=xs.take k++y::xs.drop k
theorem ax.insAt(r:ax xs us)(ru:RelV y u)(k:Nat):ax (Mi.insAt xs k y) (Mi.insAt us k u):=(r.take k).append (.cons ru (r.drop k))
theorem ar.insAt{K:Fg}{H:Hp}{ds:Yl}{vs:Yn}{d:D}{v:V}(r:ar K H ds vs)(rd:Rep K H d v)(k:Nat):ar K H (Mi.insAt ds k d) (Mi.insAt vs k v):=(r.take k).app (ar.cons rd (r.drop k))
theorem Bw(xs:List α)(k:Nat)(y:α):(insAt xs k y).length=xs.length+1:=by
 unfold insAt;rw[x_,z_,Vw,VP];omega
def rInsert:V->Yn->Hp->VK->Prop:=λx vs H Q=>∃(l:Ye)(xs:Yn)(k:Nat)(y:V),x=.ref l/\vs=[.int (k:Int),y]/\H l=some (.lst xs)/\k<=xs.length/\xs.length<sizeLine/\Q .non (upd H l (.lst (insAt xs k y)))
theorem BO:Qi X "list.insert" rInsert:=by
 intro pins s σ H x vs v us Q I rx rv h;obtain⟨l,xs,k,y,rfl,rfl,hH,hk,hz,q⟩:=h;cases rx;obtain⟨u,w,rfl,ru,Ol⟩:=rv.two;obtain⟨t,rfl⟩:=ru;obtain⟨z,a5,n,r,hl,e⟩:=I.lstM hH;have hb:=Um;have hf:¬(!Builtin.List.listFitsIndex (k:Int))=true:=by
  rw[fitsIndex_both (by omega) (by omega)];exact J_
 have hsz:a5.toArray.size<=sizeLine:=by rw[r_];omega
 generalize HZ:(k:Int)=kz at hf ⊢;have M:=AutoListH.list_insert_list_int_val_1 l a5.toArray n kz t w hf hsz;refine WQ F.slot_list_insert ⟨_,e,rfl⟩ F.entry_list_insert (F.args_list_insert_3 _ _ _) M ⟨e,?_⟩;subst HZ;refine⟨.non,_,I.lset hH e ?_ (ax.insAt r Ol k) (by rw[Bw];omega),rfl,q⟩;simp only[r_];rw[h_ (by omega),UQ,XI (by omega)];simp[insAt,List.push_toArray,List.extract_toArray,V0]
def Du(i:Nat)(fk f:Fe):Fs:=λenv=>match env[i]? with
 | some (.O (.L ds))=>(fk env).bind λkd=>(f env).bind λd=>match kd with
  | .int j=>if 0<=j/\j<=ds.length/\ds.length<16000000 then some (.nx (env.set i (.O (.L (insAt ds j.toNat d)))))else none
  | _=>none
 | _=>none
theorem NN(i:Nat)(hk:PD X .cl ke fk)(he:PD X .cl e fe)(hN:X.N[i]?=some x:=by rfl)(hv:uL X.env.scope x:=by first | exact Or.inl rfl | exact Or.inr (Or.inl rfl) | exact Or.inr (Or.inr rfl))
  (hd:(x==("__debug__":Str))=false:=by decide) (lV:(x==("__classdict__":Str))=false:=by decide) (hst:starEach [ke,e] X.env=(false,eval ke X.env)::starEach [e] X.env:=by rfl) (hst2:starEach [e] X.env=[(false,eval e X.env)]:=by rfl)
  (hZ:attributeBase (.Name x px) "insert" X.env (eval (.Name x px) X.env)=eval (.Name x px) X.env:=by rfl)
  (uC:((backTo bU (starEach [ke,e] X.env)).all (λx=>!x.1)&&(backToKw bU (keywordEach [] X.env)).all (λx=>x.1.isSome)
   && decide (([ke,e]:X1).length+([]:List Keyword).length+(if([]:List Keyword).isEmpty then 0 else 1)<30))=true:=by rfl)
  (ib:(apos.endLine==bU.line)=true:=by rfl) (j8:(backTo bU (starEach [e] X.env)).any (·.1)=false:=by rfl)
  (hs:swapsWith (.Call (.Attribute (.Name x px) "insert" apos) [ke,e] [] bU) none pos.line X.env=pure false:=by rfl) :
  SD X rg (.Expr (.Call (.Attribute (.Name x px) "insert" apos) [ke,e] [] bU) pos) (Du i fk fe):=by
 refine PS.imp (nJ (AI VS PySem.F.slot_list_insert PySem.F.type_list_insert BO (du hN hv hd lV) (bL hk (bL he dX hst2) hst) hZ uC ib hst j8) hs) λE σ H aG=>?_;obtain⟨env,B,Z,o,R,e,kq⟩:=aG;unfold Du at e
 split at e
 .rename_i ds hi;obtain⟨kd,e1,e⟩:=a_.mp e;obtain⟨d,e2,e⟩:=a_.mp e;cases kd<;>try cases e
  rename_i j _;obtain⟨⟨h0,h1,h2⟩,rfl⟩:=nz e;obtain⟨y,e3,a,o,e4,e5,e6,vs,rfl,r⟩:=R.sl i _ hi;subst e4;refine⟨_,e3,.inl ⟨rfl,vs,cJ.of e5⟩,env,B,Z,_,R,e1,λv Z1 H1 x1 g1=>⟨env,B,Z1,_,R.ext x1,e2,λu Z2 H2 x2 g2=>?_⟩⟩;have x12:=x1.trans x2;have R2:=R.ext x12;have hl:=r.len;refine⟨a,vs,j.toNat,u,rfl,by rw[g1.int,Int.toNat_of_nonneg h0],x12.h _ _ e5,by omega,by rw[Um];omega,?_⟩;obtain⟨R3,x3⟩:=R2.wr hi e3 (de.l (ar.insAt (ar.mono x12.z ds r) g2 j.toNat));exact kq σ Z2 _ ((x12.part R.bh).transB x3) R3
 .cases e
end
section
variable {X:Cx}{rg:Gr}{l r:Yf}{fa fb:Fe}{ga gb:Gr}{pos p p3:Pos}
end
section
variable {X:Cx}{tg:Yf}
end
section
variable {prog:X9}{w:Yb}{A:X_}{E:XO}{s:X8}{e i l:Ye}{k:Nat}{xs:XX}{x old:X7}{it:Nat->Ya->Prop}{at_:XX->Ya->Prop}
theorem Eg{Q:XO}(S:Src prog w i l it at_)(he:IsEnum s.heap e i k old)(hit:it k s.heap)(Jm:at_ xs s.heap)(hx:xs[k]?=some x)(hne:e≠i)
  (hQ:∀(g h':Ya),IsEnumOut h' e i ((k:Int)+1) x s.sz->it (k+1) h'->g.objs.size=s.sz->(∀b o,b≠e->b≠i->s.heap.get? b=some o->g.get? b=some o)->
   (∀b o,b≠e->(g.push {cls:=.type "tuple",data:=.seq #[.int k s.toks,x]}).get? b=some o->h'.get? b=some o)->Q (.ref s.sz) {s with heap:=h',toks:=s.toks+1}) :
  wpAny (model prog w) A (Builtin.«enumerate.__next__» ⟨[.ref e],[]⟩) (λf s'=>∃v,f=.done (.ret v)/\Q v s') E s:=by
 obtain⟨hp,gn,d,tk,os⟩:=s;refine(show wpAny _ _ (field (.ref e) 2 >>= _) _ _ _ from b_ (U6 he rfl rfl (b_ (S.nxt hit Jm hx λg1 SN s1=>?_))))
 replace s1:Heap.SameBut i hp g1:=s1
 have Rh:IsEnum g1 e i k old:=(s1.2 e hne).trans he;refine(show wpAny _ _ (field (.ref e) 3 >>= _) _ _ ⟨g1,gn,d,tk,os⟩from b_ (U6 Rh rfl rfl ?_));refine(show wpAny _ _ (field (.ref e) 4 >>= _) _ _ ⟨g1,gn,d,tk,os⟩from b_ (U6 Rh rfl rfl ?_));refine(show wpAny _ _ (mkInt k >>= _) _ _ ⟨g1,gn,d,tk,os⟩from b_ (wpAny_mkInt ?_));refine(show wpAny _ _ (setField (.ref e) 3 (rawInt ((k:Int)+1)) >>= _) _ _ ⟨g1,gn,d,tk+1,os⟩from b_ (UE Rh (by simp) λg2 wY s2=>?_))
 replace s2:Heap.SameBut e g1 g2:=s2
 replace wY:IsEnum g2 e i ((k:Int)+1) old:=wY
 refine(show wpAny _ _ (setField (.ref e) 4 .none >>= _) _ _ ⟨g2,gn,d,tk+1,os⟩from b_ (UE wY (by simp) λg3 OG s3=>?_))
 replace s3:Heap.SameBut e g2 g3:=s3
 replace OG:IsEnum g3 e i ((k:Int)+1) old:=OG
 refine(show wpAny _ _ (newTuple [.int k tk,x] >>= _) _ _ ⟨g3,gn,d,tk+1,os⟩from b_ (wpAny_newTuple ?_));have Pw:IsEnum (g3.push {cls:=.type "tuple",data:=.seq #[.int k tk,x]}) e i ((k:Int)+1) old:=e_ _ OG;have hit3:it (k+1) g3:=S.itx (S.itx SN (LX s2.extBut (UB hne))) (LX s3.extBut (UB hne));have OH:it (k+1) (g3.push {cls:=.type "tuple",data:=.seq #[.int k tk,x]}):=S.itx hit3 λo q=>e_ _ q;have hsz:g3.objs.size=hp.objs.size:=by rw[s3.1,s2.1,s1.1]
 have hk3:∀b o,b≠e->b≠i->hp.get? b=some o->g3.get? b=some o:=λb o b1 b2 q=>s3.extBut b o b1 (s2.extBut b o b1 (s1.extBut b o b2 q));generalize hh:g3.push {cls:=.type "tuple",data:=.seq #[.int k tk,x]}=g4 at Pw OH;refine(show wpAny _ _ (Builtin.SmallTypes.ownedTupleIsFree (.ref e) >>= _) _ _ ⟨g4,gn,d,tk+1,os⟩from ?_);rw[hsz];refine b_ ?_;unfold Builtin.SmallTypes.ownedTupleIsFree;refine b_ (U6 Pw rfl rfl (d_ ?_));simp only[Vi];refine b_ (WR (b_ (U6 Pw rfl rfl (b_ (UE Pw (by simp) λg5 he5 s5=>?_)))))
 replace s5:Heap.SameBut e g4 g5:=s5
 replace he5:IsEnum g5 e i ((k:Int)+1) x:=he5
 refine(show wpAny _ _ (Builtin.SmallTypes.ownedTupleHandOut (.ref e) (.ref hp.objs.size) >>= _) _ _ ⟨g5,gn,d,tk+1,os⟩from b_ ?_);unfold Builtin.SmallTypes.ownedTupleHandOut;refine b_ (UE he5 (by simp) λg6 he6 s6=>?_)
 replace s6:Heap.SameBut e g5 g6:=s6
 replace he6:IsEnumOut g6 e i ((k:Int)+1) x hp.objs.size:=he6
 refine UE he6 (by simp) λg7 he7 s7=>?_
 replace s7:Heap.SameBut e g6 g7:=s7
 replace he7:IsEnumOut g7 e i ((k:Int)+1) x hp.objs.size:=he7
 refine b_ (Wv (d_ ⟨_,rfl,hQ g3 g7 he7 (S.itx (S.itx (S.itx OH (LX s5.extBut (UB hne))) (LX s6.extBut (UB hne))) (LX s7.extBut (UB hne))) hsz hk3 λb o b1 q=>?_⟩));rw[hh]at q;exact s7.extBut b o b1 (s6.extBut b o b1 (s5.extBut b o b1 q))
theorem E3(S:Src prog w i l it at_)(he:IsEnum s.heap e i k old)(hit:it k s.heap)(Jm:at_ xs s.heap)(hx:xs[k]?=some x)(hne:e≠i)
  (hQ:∀(g h':Ya),IsEnumOut h' e i ((k:Int)+1) x s.sz->it (k+1) h'->g.objs.size=s.sz->(∀b o,b≠e->b≠i->s.heap.get? b=some o->g.get? b=some o)->
   (∀b o,b≠e->(g.push {cls:=.type "tuple",data:=.seq #[.int k s.toks,x]}).get? b=some o->h'.get? b=some o)->Q (some (.ref s.sz)) {s with heap:=h',toks:=s.toks+1}):wpAny (model prog w) A (pyNext (.ref e)) Q E s:=by
 have hT:s.TypeIs (.ref e) "enumerate":=⟨_,he,rfl⟩;unfold pyNext;exact b_ (Wo (Uv hT V9 (Ug V9 hT F.entry_enumerate_next (Eg S he hit Jm hx hne λg h' b1 b2 b3 b4 b5=>d_ (hQ g h' b1 b2 b3 b4 b5)) (F.args_enumerate_next_1 _))))
theorem E7(hh:A.handled=none)(S:Src prog w i l it at_)(he:IsEnum s.heap e i k old)(hit:it k s.heap)(Jm:at_ xs s.heap)(hx:xs[k]?=none)
  (hQ:∀h',Heap.ExtBut i s.heap h'->Q none {s with heap:=h'}):wpAny (model prog w) A (pyNext (.ref e)) Q E s:=by
 have hT:s.TypeIs (.ref e) "enumerate":=⟨_,he,rfl⟩;unfold pyNext;refine b_ (Wo (Uv hT V9 (Ug V9 hT F.entry_enumerate_next ?_ (F.args_enumerate_next_1 _))));refine(show wpAny _ _ (field (.ref e) 2 >>= _) _ _ _ from b_ (U6 he rfl rfl (b_ (S.fin hh hit Jm hx λh' y Lp hy=>?_))));obtain⟨o,ho,hc⟩:=hy;exact b_ (WT ⟨o,ho,hc⟩ isSubtype_stop (d_ (hQ _ Lp)))
theorem KO{es:X1}{x1:Nat}{pos:Pos}{n:Int}{T:Ye}{Q:Unit->X8->Prop}(he:IsEnumOut s.heap e i n x T)(hQ:∀h',IsEnum h' e i n x->Heap.SameBut e s.heap h'->Q () {s with heap:=h'}) :
  wpAny (model prog w) A (letOwnedTupleGo (.Tuple es x1 pos) (.ref e) (.ref T)) Q E s:=by
 unfold letOwnedTupleGo;refine b_ (wpAny_load he ?_);show wpAny _ _ (if(["enumerate","zip","dict_itemiterator","dict_reverseitemiterator","odict_iterator","itertools.zip_longest","itertools.pairwise"].contains "enumerate"&&(#[rawInt T,.bool false,.ref i,rawInt n,.none,x]:Array X7)[0]?==some (rawInt T))=true then _ else _) Q E s;rw[j_ (by simp)];exact b_ (WR (show wpAny _ _ (setField (.ref e) 0 .none) Q E s from UE he (by simp) λh' Lp hs'=>hQ h' Lp hs'))
end
def OZ(S:Hp->Yn->Prop):It:=
 ⟨λi H=>∃xs x,S H xs/\xs[i]?=some x,
  λi H v H'=>∃(q:Ye),H q=none/\v=.ref q/\∀xs x,S H xs->xs[i]?=some x->H'=upd H q (.tup [.int (i:Nat),x]),
  λi H=>∃xs,S H xs/\xs.length<=i⟩
theorem rQ{P:X9}{w:Yb}{K:Fg}{es:X1}{k:Nat}{pos:Pos}{e i l:Ye}{it:Nat->Ya->Prop}{at_:XX->Ya->Prop}{S:Hp->Yn->Prop}(W:Src P w i l it at_)(K1:Rg K l S at_)(hne:e≠i) :
  Turn P w K (.Tuple es k pos) (OZ S) [e,i] e (λn h=>(∃old,IsEnum h e i (n:Nat) old)/\it n h) where
 mem:=by simp
 obj:=λn h ⟨⟨old,he⟩,h1⟩ c hc=>by
  simp only[p_,Ul,Vq]at hc;rcases hc with rfl | rfl
  .exact⟨_,he,λv q=>by cases q⟩
  .exact W.obj h1
 keep:=λn h h' ⟨⟨old,he⟩,h1⟩ kk=>⟨⟨old,kk e (by simp) _ he⟩,W.itx h1 λo q=>kk i (by simp) o q⟩
 item:=by
  intro X hP hw hK hc n pins s σ H E I hf st hg;subst hP hw;obtain⟨⟨old,he⟩,h1⟩:=st;obtain⟨xs,x,q1,hx⟩:=hg;obtain⟨us,r1,m1⟩:=K1.get hK I q1;obtain⟨u,hu,ru⟩:=r1.get hx;refine E3 W he h1 m1 hu hne λg g' b1 b2 b3 b4 b5=>?_;have hT:H s.sz=none:=I.hok.fresh (m_ _);have ne:∀c∈[e,i],c<s.sz:=λc hc=>by
   simp only[p_,Ul,Vq]at hc;rcases hc with rfl | rfl
   .exact q_ he
   .obtain⟨o,ho,_⟩:=W.obj h1;exact q_ ho
  have I1:L2.Inv X pins σ H {s with heap:=g,toks:=s.toks+1}:=jz I hf λc o hc q=>b4 c o (λz=>hc (by simp[z])) (λz=>hc (by simp[z])) q;have I2:L2.Inv X pins σ (upd H g.objs.size (.tup [.int n,x])) {s with heap:=g.push {cls:=.type "tuple",data:=.seq #[.int n s.toks,u]},toks:=s.toks+1}:=
   I1.laid (λc o q=>e_ _ q) (m_ _) (show bE X.prog X.w _ _ _ (.tup [.int n,x])from⟨by have:=Um;simp;lia,[.int n s.toks,u],.cons ⟨_,rfl⟩ (.cons ru .nil),IsTup.new _ _⟩)
  rw[b3]at I2;have fz:∀c∈[e,i],cf X pins (upd H s.sz (.tup [.int n,x])) c:=λc hc=>⟨by rw[aB (B_ (ne c hc))];exact(hf c hc).1,(hf c hc).2⟩;have I3:L2.Inv X pins σ (upd H s.sz (.tup [.int n,x])) {s with heap:=g',toks:=s.toks+1}:=jz (s:={s with heap:=g.push {cls:=.type "tuple",data:=.seq #[.int n s.toks,u]},toks:=s.toks+1}) (ch:=[e]) I2 (λc hc=>fz c (by simp at hc;simp[hc])) λc o hc q=>b5 c o (λz=>hc (by simp[z])) q;refine⟨_,rfl,KO b1 λg2 wY s2=>?_⟩;have I4:L2.Inv X pins σ (upd H s.sz (.tup [.int n,x])) {s with heap:=g2,toks:=s.toks+1}:=jz (s:={s with heap:=g',toks:=s.toks+1}) (ch:=[e]) I3 (λc hc=>fz c (by simp at hc;simp[hc])) λc o hc q=>s2.extBut c o (λz=>hc (by simp[z])) q;refine⟨.ref s.sz,_,I4,rfl,⟨s.sz,hT,rfl,λSO x' p1 uO=>?_⟩,⟨⟨u,wY⟩,W.itx b2 (LX s2.extBut (UB hne))⟩,λc hc=>(fz c hc).1⟩;cases K1.inj hK I q1 p1;rw[hx]at uO;cases uO
  rfl
 done:=by
  intro X hP hw hK hc n pins s σ H E I hf st hg;subst hP hw;obtain⟨⟨old,he⟩,h1⟩:=st;obtain⟨xs,q1,hl⟩:=hg;obtain⟨us,r1,m1⟩:=K1.get hK I q1;have e1:=r1.length;refine E7 (I.ok.hd hc) W he h1 m1 (T9 (by lia)) λg' kk=>⟨rfl,?_⟩;exact jz (ch:=[i]) I (λc hc=>hf c (by simp at hc;simp[hc])) λc o hc q=>kk c o (λz=>hc (by simp[z])) q
 self:=λ_ n _ _ _ ⟨⟨_,he⟩,_⟩ h=>Xu he h
abbrev Sk(c:String)(h:Ya)(l:Ye):Ya:=(O6 c h l).push {cls:=.type "enumerate",data:=.fields #[.none,.bool false,.ref h.objs.size,rawInt 0,.none,.none]}
theorem Bo(l:Ye)(items:Array X7)(n:Nat)(dct:XY)(sl:XR):Meets (Builtin.«enumerate.__new__» ⟨[.type "enumerate",.ref l],[]⟩) (λ_ R s=>s.heap.get? l=some {cls:=.type "tuple",dict:=dct,data:=.seq items n,slots:=sl}/\
   R (.ok (.ret (.ref (O6 "tuple_iterator" s.heap l).objs.size))) {s with heap:=Sk "tuple_iterator" s.heap l}):=
 .of_wp λprog w A R s h=>by
  obtain⟨hp,g,d,tk,os⟩:=s;obtain⟨hl,h⟩:=h;have hsub:=sub_enumerate;have hL:Heap.IsTuple (Shared.heap ⟨hp,g,d,tk,os⟩) l items:=⟨_,hl,rfl,n,rfl⟩
  wp_walk using VL hl
  refine wpAny_stack_any λst=>d_ ?_
  split
  .rename_i c _ _ _ _ _;cases(c==Value.type "enumerate")
   .wp_walk using VL hl,Vz hL
    exact⟨_,rfl,h⟩
   .wp_walk using VL hl,Vz hL
    exact⟨_,rfl,h⟩
  .wp_walk using VL hl,Vz hL
   exact⟨_,rfl,h⟩
theorem yO(hL:s.heap.IsTuple l items)
  (h:∀h',IsEnum h' (s.sz+1) s.sz 0 .none->h'.IsTupleIter s.sz l 0->(∀b o,s.heap.get? b=some o->h'.get? b=some o)->Q (.ref (s.sz+1)) {s with heap:=h'}) :
  wpAny (model prog w) A (call (.type "enumerate") [.ref l]) Q E s:=by
 obtain⟨⟨c,dct,dt,sl⟩,hl,hc,n,hd⟩:=hL
 replace hc:c=.type "tuple":=hc
 replace hd:dt=.seq items n:=hd
 subst hc hd;refine callType_new F.called_enumerate (by decide) (F.typeCall_enumerate_1 _) (F.newCall_enumerate_1 _) (λobj=>F.args_object_init_2 obj _) F.entry_enumerate_new (Bo l items n dct sl) ⟨hl,?_⟩;have hz:(O6 "tuple_iterator" s.heap l).objs.size=s.sz+1:=U0 ..;show _/\_;rw[hz];have he:IsEnum (Sk "tuple_iterator" s.heap l) (s.sz+1) s.sz 0 .none:=by
  have:=n_ (O6 "tuple_iterator" s.heap l) (o:={cls:=.type "enumerate",data:=.fields #[.none,.bool false,.ref s.sz,rawInt 0,.none,.none]}) rfl;rw[hz]at this;exact this
 exact⟨⟨_,he,rfl⟩,h _ he ⟨_,e_ _ (n_ _ rfl),rfl,rfl⟩ λb o x=>e_ _ (e_ _ x)⟩
section
variable {X:Cx}{es:X1}{kk:Nat}{tp:Pos}
theorem ya:bootBuiltins "enumerate"=some (.type "enumerate"):=by decide +kernel
def NH(K:Fg)(ta:TA):TI:=λσ H R=>ta σ H λvs H1=>∃(l:Ye)(xs:Yn),vs=[.ref l]/\((cM K H1 l xs/\R (OZ (λH xs=>cM K H l xs)) H1)\/(cJ K H1 l xs/\R (OZ (λH xs=>cJ K H l xs)) H1))
theorem FY(hg:Gl X "enumerate")(hm:X.mg "enumerate"=none)(ha:PA X [a] ta)(hs:starEach [a] X.env=[(false,eval a X.env)]:=by rfl):PI X (.Tuple es kk tp) (.Call (.Name "enumerate" p) [a] [] pos) (NH X.K ta):=by
 intro pins s σ H R I h;refine Call_ (lX I hg hm ya (Wa (bF (ha pos pins s σ H _ I h) λus s1 aG=>?_) hs rfl));obtain⟨vs,H1,I1,r1,q1⟩:=aG;obtain⟨l,xs,e,q⟩:=q1;subst e;obtain⟨u,rfl,ru⟩:=vals1 r1;cases ru;have fp:∀b∈[s1.sz+1,s1.sz],cf X pins H1 b:=λb hb=>by
  have uF:s1.sz<=b:=by
   simp only[p_,Ul,Vq]at hb;rcases hb with rfl | rfl
   .exact VW _
   .exact m_ _
  exact I1.fpOk uF (I1.hok.fresh uF)
 rcases q with ⟨m,q⟩ | ⟨m,q⟩
 .obtain⟨us,_,p1,_⟩:=I1.tuple m;refine yO (show s1.heap.IsTuple l us.toArray from p1) λh' he hi old=>Xu he ?_;exact⟨s1.sz+1,_,_,_,H1,rfl,I1.kept old,rQ (QJ _ _) (QL l) (XC _),⟨⟨_,he⟩,hi⟩,fp,q⟩
 .obtain⟨us,_,p1,_⟩:=I1.list m;refine call_enumerate_list p1.isList λh' he hi _ old=>Xu he ?_;exact⟨s1.sz+1,_,_,_,H1,rfl,I1.kept old,rQ (P4 _ _) (Qj l) (XC _),⟨⟨_,he⟩,hi⟩,fp,q⟩
def kP:Nat->Yl->Yl
 | _,[]=>[]
 | n,d::ds=>.tup [.int (n:Int),d]::kP (n+1) ds
theorem gU:∀(n:Nat)(ds:Yl),(kP n ds).length=ds.length
 | _,[]=>rfl
 | n,d::ds=>by simp[kP,gU (n+1) ds]
theorem lK:∀{n:Nat}{ds:Yl}{i:Nat}{d:D},ds[i]?=some d->(kP n ds)[i]?=some (.tup [.int ((n+i:Nat):Int),d])
 | n,[],i,d,h=>by simp at h
 | n,x::ds,0,d,h=>by cases h;rfl
 | n,x::ds,i+1,d,h=>by
  show(kP (n+1) ds)[i]?=_;rw[lK (by simpa using h),show n+1+i=n+(i+1) by lia]
theorem qU{K:Fg}{Z1:Hp}{S:Hp->Yn->Prop}{vs:Yn}{xs:Yl}(m1:∀{H H'},aF H H'->S H vs->S H' vs)(q1:S Z1 vs)(r1:ar K Z1 xs vs):Walk K Z1 (kP 0 xs) (OZ S):=λZ' H' s1 s2 i=>by
 have l1:=r1.len;have w1:=m1 (s1.trans s2) q1;rw[gU];refine⟨λhi=>?_,λhi=>⟨vs,w1,by lia⟩⟩;have h1:i<vs.length:=by lia
 refine⟨⟨vs,vs[i],w1,l_ h1⟩,λx H'' ⟨q,hq,e,hy⟩=>?_⟩;subst e;have e2:=hy vs _ w1 (l_ h1);subst e2;obtain⟨d1,e1,p1⟩:=r1.getV (l_ h1);have s3:aF Z' (upd Z' q (.tup [.int (i:Nat),vs[i]])):=df (s2.free hq);exact⟨_,_,Ex.new s2 hq,lK e1,q,_,rfl,cM.of ay,ar.mono s3 _ ⟨_,_,rfl,by rw[Uc];rfl,_,_,rfl,Rep.mono s1 _ p1,rfl⟩⟩
def I8(f:Fe):Fi:=λenv=>(f env).bind λd=>match d with
 | .tup xs=>some (kP 0 xs)
 | .lst xs=>some (kP 0 xs)
 | _=>none
theorem yp(hm:X.mg "enumerate"=none)(h:PD X .cl l f)(hg:Gl X "enumerate":=by rfl)(hs:starEach [l] X.env=[(false,eval l X.env)]:=by rfl):ID X (.Tuple es kk tp) (.Call (.Name "enumerate" p) [l] [] pos) (I8 f):=
 PI.imp (FY hg hm (bL h dX hs) hs) λσ H R aG=>by
  obtain⟨env,B,Z,ds,Rr,e,k⟩:=aG;obtain⟨d,e1,e2⟩:=a_.mp e;cases d<;>cases e2
  .refine⟨env,B,Z,_,Rr,e1,λv Z1 H1 x1 g1=>?_⟩;obtain⟨l1,vs,rfl,w1,r1⟩:=g1;exact⟨l1,vs,rfl,.inl ⟨dA x1.zh w1,k _ Z1 H1 x1 (qU (λs q=>dA s q) w1 r1)⟩⟩
  .refine⟨env,B,Z,_,Rr,e1,λv Z1 H1 x1 g1=>?_⟩;obtain⟨l1,vs,rfl,w1,r1⟩:=g1;exact⟨l1,vs,rfl,.inr ⟨x1.zh.seq w1,k _ Z1 H1 x1 (qU (λs q=>s.seq q) w1 r1)⟩⟩
end
end Mi
namespace Mi
open PySem PySem.Spec PyProof.Rows L2
section
variable {X:Cx}{l r:Yf}{fa fb:Fe}{ga gb:Gr}{pos p:Pos}{k:Nat}
def Iu(K:Fg):R2:=λx y H Q=>∃a b xs ys,x=.ref a/\y=.ref b/\cM K H a xs/\cM K H b ys/\xs.length+ys.length<=sizeLine/\(xs=[]->Q (.ref b) H)/\(xs≠[]->ys=[]->Q (.ref a) H)/\(xs≠[]->ys≠[]->∀p,H p=none->Q (.ref p) (upd H p (.tup (xs++ys))))
theorem Gp:jw X (binaryOp .Add) (Iu X.K):=by
 intro pins s σ H x y v u Q I rx ry h;obtain⟨a,b,xs,ys,rfl,rfl,ha,hb,hz,q0,q1,q2⟩:=h
 by_cases hx:xs=[]
 .cases rx;cases ry;obtain⟨a5,r1,p1,_⟩:=I.tuple ha;obtain⟨uB,r2,p2,_⟩:=I.tuple hb;obtain⟨⟨cls,dd,data,sl⟩,ho,hc,n,hd⟩:=id p1;obtain⟨⟨Ig,Cw,data2,AM⟩,Cy,qK,n2,hd2⟩:=id p2;simp only at hc hd qK hd2;subst hc hd qK hd2;have hi:a5=[]:=r1.nil_iff.mpr hx;exact concat_meets ⟨_,ho,rfl⟩ ⟨_,Cy,rfl⟩ noFill_tuple_add seq_tuple_add WB Wu (Wm _ _) (tuple_addW0 a b a5.toArray uB.toArray n n2 dd Cw sl AM (by simp[hi])) ⟨ho,Cy,⟨.ref b,H,I,rfl,q0 hx⟩⟩
 .exact Gg pins s σ H _ _ v u Q I rx ry ⟨a,b,xs,ys,rfl,rfl,ha,hb,hx,hz,q1 hx,q2 hx⟩
def BH:D->D->Ym
 | .tup xs,.tup ys=>if xs.length+ys.length<=16000000 then some (.tup (xs++ys))else none
 | _,_=>none
theorem ar.nil_iff{K:Fg}{H:Hp}{ds:Yl}{vs:Yn}(h:ar K H ds vs):vs=[]↔ds=[]:=by
 have:=h.len;cases ds<;>cases vs<;>simp at this ⊢
theorem Kk{K:Fg}:cU K .cl BH (Iu K):=λ{Z H x y dx dy d Q} s h1 h2 e kq=>by
 cases dx<;>try cases e
 all_goals (cases dy<;>try cases e)
 rename_i xs ys;obtain⟨hl,rfl⟩:=nz e;rcases h1 with h1 | ⟨_,_,_,_,e1,_⟩ | ⟨_,_,_,e1,_⟩ | ⟨_,_,_,_,_,e1,_⟩
 .rcases h2 with h2 | ⟨_,_,_,_,e1,_⟩ | ⟨_,_,_,e1,_⟩ | ⟨_,_,_,_,_,e1,_⟩
  .obtain⟨a,vs,rfl,q1,r1⟩:=id h1;obtain⟨b,us,rfl,q2,r2⟩:=id h2;refine⟨a,b,vs,us,rfl,rfl,dA s q1,dA s q2,by rw[<- r1.len,<- r2.len,Um];lia,λz=>?_,λz1 z=>?_,λz1 z2 p hp=>?_⟩
   .have hx:=r1.nil_iff.mp z;subst hx;exact kq _ Z H (Ex.refl s) h2
   .have hy:=r2.nil_iff.mp z;subst hy;rw[Uz]at kq;exact kq _ Z H (Ex.refl s) h1
   .have s1:aF Z (upd Z p (.tup (vs++us))):=df (s.free hp);exact kq _ _ _ (Ex.new s hp) ⟨p,_,rfl,cM.of ay,ar.mono s1 _ (r1.app r2)⟩
  .cases e1
  .cases e1
  .cases e1
 .cases e1
 .cases e1
 .cases e1
theorem DK(ha:PD X ga l fa)(hb:PD X gb r fb):PD X .cl (.BinOp l .Add r pos) (aq BH fa fb):=vf Gp Kk ha hb
end
def Di:Key->Key->Option Bool
 | .inl a,.inl b=>some (decide (a<b))
 | .inr a,.inr b=>some (decide (a.cps.toList<b.cps.toList))
 | _,_=>none
def dO:Yi->Yi->Option Bool
 | [],[]=>some false
 | [],_::_=>some true
 | _::_,[]=>some false
 | x::xs,y::ys=>if x=y then dO xs ys else Di x y
inductive bS:List Value->List Key->Prop
 | nil:bS [] []
 | int (n:Int) (t:Tok) {vs ks}:bS vs ks->bS (.int n t::vs) (.inl n::ks)
 | str (x:Str) (t:Tok) {vs ks}:bS vs ks->bS (.str x t::vs) (.inr x::ks)
theorem bS.length:∀{vs:XX}{ks:Yi},bS vs ks->vs.length=ks.length
 | _,_,.nil=>rfl
 | _,_,.int _ _ h=>by simp[bS.length h]
 | _,_,.str _ _ h=>by simp[bS.length h]
theorem bS.of:∀{ks:Yi}{us:XX},ax (ks.map kV) us->bS us ks
 | [],_,r=>by rw[XE]at r;cases r;exact .nil
 | .inl n::ks,_,r=>by
  rw[A_]at r;cases r with
  | cons h t=>obtain⟨tk,rfl⟩:=(show ∃t,_=Value.int n t from h);exact .int n tk (bS.of t)
 | .inr x::ks,_,r=>by
  rw[A_]at r;cases r with
  | cons h t=>obtain⟨tk,rfl⟩:=(show ∃t,_=Value.str x t from h);exact .str x tk (bS.of t)
theorem wB(A:X_)(s:X8)(a:Str)(t:Tok)(c:Str)(u:Tok)(prog:X9)(w:Yb)(E:XO)(Q:XO)(h:Q (.bool (decide (a.cps.toList<c.cps.toList))) s) :
  wpAny (model prog w) A (richCompare .Lt (.str a t) (.str c u)) Q E s:=
 (PyProof.Rows.lt_str h:wpAny (model prog w) A (compareOp .Lt (.str a t) (.str c u)) Q E s)
section
open PySem.SeqAt
open PySem.AutoSeq1 (wpAny_loadPart')
open PySem.MeetsSeq PySem.MeetsSeq2 PySem.MeetsSeq3
theorem FP(hv:bS (y::vs) ns)(hw:bS (x::ws) ms):∃a c nk qN,ns=a::nk/\ms=c::qN/\bS vs nk/\bS ws qN/\
  ∀(A:X_)(s:X8)(q:Bool),(if a=c then dO nk qN else Di a c)=some q->∃e,SeqAt.EqAt A s y x e/\(e=true↔a=c)/\(e=false->∀(prog:X9)(w:Yb)(E:XO)(Q:XO),Q (.bool q) s->wpAny (model prog w) A (richCompare .Lt y x) Q E s):=by
 cases hv with
 | int n t uH=>
  cases hw with
  | int m u zd=>
   refine⟨_,_,_,_,rfl,rfl,uH,zd,λA s q hq=>⟨(n==m),Xi n t m u,by simp,λhe=>?_⟩⟩;have hne:n≠m:=by simpa using he
   rw[h_ (λz=>hne (Sum.inl.inj z))]at hq;cases hq;exact λprog w E Q h=>HT.wL A s n t m u prog w E Q h
  | str y u zd=>
   refine⟨_,_,_,_,rfl,rfl,uH,zd,λA s q hq=>?_⟩;rw[h_ (λz=>nomatch z)]at hq;cases hq
 | str a t uH=>
  cases hw with
  | int m u zd=>
   refine⟨_,_,_,_,rfl,rfl,uH,zd,λA s q hq=>?_⟩;rw[h_ (λz=>nomatch z)]at hq;cases hq
  | str b u zd=>
   refine⟨_,_,_,_,rfl,rfl,uH,zd,λA s q hq=>⟨(a==b),Xj a t b u,by simp,λhe=>?_⟩⟩;have hne:a≠b:=by simpa using he
   rw[h_ (λz=>hne (Sum.inr.inj z))]at hq;cases hq;exact λprog w E Q h=>wB A s a t b u prog w E Q h
theorem qz(l b:Ye)(items items2:Array X7)(n n2:Nat)(dd Cw:XY)(sl AM:XR)(ns ms:Yi)(q:Bool)(hi:bS items.toList ns)(hj:bS items2.toList ms)(hq:dO ns ms=some q) :
  Meets (Builtin.«tuple.__lt__» ⟨[.ref l,.ref b],[]⟩)
   (λ_ R s=>s.heap.get? l=some {cls:=.type "tuple",dict:=dd,data:=.seq items n,slots:=sl}/\s.heap.get? b=some {cls:=.type "tuple",dict:=Cw,data:=.seq items2 n2,slots:=AM}/\R (.ok (.ret (.bool q))) s):=
 .of_wp λprog w A R s h=>by
  obtain⟨hp,g,d,tk,os⟩:=s;obtain⟨hl,hb,h⟩:=h;have f2:=AutoSeq1.sub_tuple_tuple;have z1:items.size=ns.length:=by rw[<- hi.length];simp
  have z2:items2.size=ms.length:=by rw[<- hj.length];simp
  wp_walk using W5 hl,W5 hb,VO _ (λrest b s'=>b.1=none/\s'=⟨hp,g,d,tk,os⟩/\∃(vs ws:XX)(nk qN:Yi),rest=vs.zip ws/\
   bS vs nk/\bS ws qN/\nk.length+items2.size=qN.length+items.size/\dO nk qN=some q) _
  case turn=>
   rintro⟨y,x⟩ rest b s' ⟨uF,rfl,vs,ws,nk,qN,hz,LC,OI,hlen,hR⟩;cases vs with
   | nil=>rw[List.zip_nil_left]at hz;cases hz
   | cons v vs=>
    cases ws with
    | nil=>rw[List.zip_nil_right]at hz;cases hz
    | cons w' ws=>
     rw[U4]at hz
     injection hz with Ri w9
     injection Ri with hy hx
     subst hy hx;obtain⟨a,c,OJ,LD,rfl,rfl,Rj,Rk,ask⟩:=FP LC OI;have LF:(if a=c then dO OJ LD else Di a c)=some q:=hR;obtain⟨e,he,hiff,hlt⟩:=ask A.in1 ⟨hp,g,d,tk,os⟩ q LF;simp only[z_]at hlen;refine b_ (he prog w _ _ ?_);cases e with
     | true=>
      rw[j_ (hiff.mp rfl)]at LF
      wp_walk
      exact⟨rfl,rfl,_,_,_,_,w9,Rj,Rk,by lia,LF⟩
     | false=>
      have hri:=hlt rfl prog w
      wp_walk using hri
      exact⟨_,rfl,by simpa using h⟩
  case fin=>
   rintro⟨b1,b2⟩ s' ⟨uF,rfl,vs,ws,nk,qN,hz,LC,OI,hlen,hR⟩;simp only at uF;subst uF;have l1:=LC.length;have l2:=OI.length;have hv:q=decide (items.size<items2.size):=by
    cases nk with
    | nil=>
     cases qN with
     | nil=>
      simp only[Ui]at hlen;cases hR;exact(L_ (by lia)).symm
     | cons c LD=>
      simp only[Ui,z_]at hlen;cases hR;exact(v_ (by lia)).symm
    | cons a OJ=>
     cases qN with
     | nil=>
      simp only[Ui,z_]at hlen;cases hR;exact(L_ (by lia)).symm
     | cons c LD=>
      cases vs with
      | nil=>simp at l1
      | cons v vs=>
       cases ws with
       | nil=>simp at l2
       | cons w' ws=>rw[U4]at hz;cases hz
   rw[hv]at h
   wp_walk
   exact⟨_,rfl,by simpa [Builtin.Tuple.tupleCompareSizes]using h⟩
  case h=>
   exact⟨rfl,rfl,items.toList,items2.toList,ns,ms,rfl,hi,hj,by lia,hq⟩
end
section
variable {X:Cx}{l r:Yf}{fa fb:Fe}{ga gb:Gr}{pos p:Pos}{k:Nat}
def MX(K:Fg):R2:=λx y H Q=>∃a b ns ms q,x=.ref a/\y=.ref b/\cM K H a (ns.map kV)/\cM K H b (ms.map kV)/\dO ns ms=some q/\Q (.bl q) H
theorem KQ(hu:X.A.units<cLine):jw X (compareOp .Lt) (MX X.K):=by
 intro pins s σ H x y v u Q I rx ry h;obtain⟨a,b,ns,ms,c,rfl,rfl,ha,hb,hc,q⟩:=h;cases rx;cases ry;obtain⟨a5,r1,p1,_⟩:=I.tuple ha;obtain⟨uB,r2,p2,_⟩:=I.tuple hb;obtain⟨⟨cls,dd,data,sl⟩,ho,gv,n,hd⟩:=id p1;obtain⟨⟨Ig,Cw,data2,AM⟩,Cy,qK,n2,hd2⟩:=id p2;simp only at gv hd qK hd2;subst gv hd qK hd2;exact richCompare_meets_room (op:=.Lt) ⟨_,ho,rfl⟩ ⟨_,Cy,rfl⟩ PySem.F.slot_tuple_lt PySem.F.entry_tuple_lt (PySem.F.args_tuple_lt_2 _ _) (qz a b a5.toArray uB.toArray n n2 dd Cw sl AM ns ms c (by simpa using bS.of r1) (by simpa using bS.of r2) hc)
  ⟨ho,Cy,show Value.bool c≠Value.notImplemented/\EP X pins σ Q (.bool c) s from⟨(λz=>nomatch z),⟨.bl c,H,I,rfl,q⟩⟩⟩ hu
def lC:Yl->Option Yi
 | []=>some []
 | .int i::r=>(lC r).bind λks=>some (.inl i::ks)
 | .str x::r=>(lC r).bind λks=>some (.inr x::ks)
 | _=>none
theorem dY{K:Fg}{H:Hp}:∀{ds:Yl}{ks:Yi}{vs:Yn},lC ds=some ks->ar K H ds vs->vs=ks.map kV
 | [],ks,vs,h,r=>by cases h;exact r
 | d::ds,ks,vs,h,r=>by
  obtain⟨v,rr,e,h1,h2⟩:=r;subst e;cases d<;>try cases h
  .obtain⟨ju,e1,e2⟩:=a_.mp h;cases e2;cases(show v=_ from h1);rw[dY e1 h2];rfl
  .obtain⟨ju,e1,e2⟩:=a_.mp h;cases e2;cases(show v=_ from h1.1);rw[dY e1 h2];rfl
def Mg:D->D->Ym
 | .tup xs,.tup ys=>(lC xs).bind λns=>(lC ys).bind λms=>(dO ns ms).bind λq=>some (.bl q)
 | _,_=>none
theorem MO{K:Fg}:cU K .cl Mg (MX K):=λ{Z H x y dx dy d Q} s h1 h2 e kq=>by
 cases dx<;>try cases e
 all_goals (cases dy<;>try cases e)
 obtain⟨ns,e1,e⟩:=a_.mp e;obtain⟨ms,e2,e⟩:=a_.mp e;obtain⟨q,e3,e⟩:=a_.mp e;cases e;obtain⟨a,vs,rfl,q1,r1⟩:=h1.tup s;obtain⟨b,us,rfl,q2,r2⟩:=h2.tup s;cases dY e1 r1;cases dY e2 r2;exact⟨a,b,ns,ms,q,rfl,rfl,q1,q2,e3,kq _ Z H (Ex.refl s) rfl⟩
theorem MD(hr:bM k X.A)(ha:PD X ga l fa)(hb:PD X gb r fb):PD X .cl (.Compare l [.Lt] [r] pos) (aq Mg fa fb):=r9 (KQ (by have:=hr.un;lia)) MO ha hb (eQ _)
end
end Mi
namespace Mi
open PySem PySem.Spec PyProof.Rows L2
section
variable {prog:X9}{w:Yb}{A:X_}{E:XO}{s:X8}{z TI TO i1 i2 l1 l2 T:Ye}{k1 k2:Nat}{xs ys:XX}{x y:X7}{oT:Obj}{bz:Bool}
end
section
variable {prog:X9}{w:Yb}{A:X_}{E:XO}{s:X8}{z TI TO i1 i2 l1 l2:Ye}{xs ys:XX}
end
section
variable {X:Cx}{l r:Yf}{fa fb:Fe}{pos pos2 p p2:Pos}
end
section
variable {X:Cx}
theorem B1(hc:X.calm=true):cS X (.builtin "max") (λxs H Q=>∃i j k,xs=[.int i,.int j,.int k]/\Q (.int (if j>i then(if k>j then k else j)else(if k>i then k else i))) H):=by
 intro pins s σ H xs us Q I r h;obtain⟨i,j,k,rfl,q⟩:=h;cases r with
 | cons h1 r=>
  cases r with
  | cons h2 r=>
   cases r with
   | cons h3 r=>
    cases r;obtain⟨t1,rfl⟩:=(show ∃t,_=Value.int i t from h1);obtain⟨t2,rfl⟩:=(show ∃t,_=Value.int j t from h2);obtain⟨t3,rfl⟩:=(show ∃t,_=Value.int k t from h3);refine max_three_ints (I.ok.hd hc) λh' tk kk=>⟨_,H,I.kept kk,?_,q⟩
    by_cases hj:j>i
    .rw[j_ hj,j_ hj]
     by_cases hk:k>j
     .rw[j_ hk,j_ hk];exact⟨_,rfl⟩
     .rw[h_ hk,h_ hk];exact⟨_,rfl⟩
    .rw[h_ hj,h_ hj]
     by_cases hk:k>i
     .rw[j_ hk,j_ hk];exact⟨_,rfl⟩
     .rw[h_ hk,h_ hk];exact⟨_,rfl⟩
def P3(b:D->D->D->Ym)(fa fb fc:Fe):Fe:=λenv=>(fa env).bind λx=>(fb env).bind λy=>(fc env).bind λz=>b x y z
def Dw:D->D->D->Ym
 | .int i,.int j,.int k=>some (.int (if j>i then(if k>j then k else j)else(if k>i then k else i)))
 | _,_,_=>none
variable {l r q:Yf}{fa fb fc:Fe}{ga gb gc:Gr}{pos p:Pos}
theorem EV(hm:X.mg "max"=none)(a7:X.calm=true)(ha:PD X ga l fa)(hb:PD X gb r fb)(hc:PD X gc q fc)(hg:Gl X "max":=by rfl)
  (he:starEach [l,r,q] X.env=(false,eval l X.env)::starEach [r,q] X.env:=by rfl) (wY:starEach [r,q] X.env=(false,eval r X.env)::starEach [q] X.env:=by rfl) (OG:starEach [q] X.env=[(false,eval q X.env)]:=by rfl) (j8:(backTo pos (starEach [r,q] X.env)).any (·.1)=false:=by rfl) :
  PD X .cl (.Call (.Name "max" p) [l,r,q] [] pos) (P3 Dw fa fb fc):=
 PE.imp (k9 (B1 a7) hg hm WL (bL ha (bL hb (bL hc dX OG) wY) he) (by decide) (by decide) he j8) λσ H Q aG=>by
  obtain⟨env,B,Z,d,R,e,k⟩:=aG;obtain⟨x,h1,e⟩:=a_.mp e;obtain⟨y,h2,e⟩:=a_.mp e;obtain⟨z,h3,e⟩:=a_.mp e;cases x<;>try cases e
  cases y<;>try cases e
  cases z<;>try cases e
  refine⟨env,B,Z,_,R,h1,λv Z1 H1 x1 g1=>⟨env,B,Z1,_,R.ext x1,h2,λu Z2 H2 x2 g2=>⟨env,B,Z2,_,(R.ext x1).ext x2,h3,λw Z3 H3 x3 g3=>?_⟩⟩⟩;cases g1.int;cases g2.int;cases g3.int;exact⟨_,_,_,rfl,k _ Z3 H3 ((x1.trans x2).trans x3) rfl⟩
end
def zK:Yi->Bool
 | .inl _::_=>true
 | _=>false
section
variable {prog:X9}{w:Yb}{A:X_}{E:XO}{s:X8}
theorem Lc:∀{xs ys:XX}{ks js:Yi}{q:Bool}{i:Nat},bS xs ks->bS ys js->dO ks js=some q->(i=0->zK ks=true/\zK js=true)->Q q s->
  PySem.W.KatLex prog w A true (decide (xs.length<ys.length)) Q (xs.zip ys) i s
 | _,_,_,_,q,i,.nil,.nil,h,_,hq=>by
  cases h;exact Wr (by simpa using hq)
 | _,_,_,_,q,i,.nil,.int _ _ r,h,_,hq=>by cases h;exact Wr (by simpa using hq)
 | _,_,_,_,q,i,.nil,.str _ _ r,h,_,hq=>by cases h;exact Wr (by simpa using hq)
 | _,_,_,_,q,i,.int _ _ r,.nil,h,_,hq=>by cases h;exact Wr (by simpa using hq)
 | _,_,_,_,q,i,.str _ _ r,.nil,h,_,hq=>by cases h;exact Wr (by simpa using hq)
 | _,_,_,_,q,i,.int n t r1,.str y u r2,h,_,hq=>by
  have h':(if(Sum.inl n:Key)=.inr y then _ else Di (.inl n) (.inr y))=some q:=h;rw[h_ (λz=>nomatch z)]at h';cases h'
 | _,_,_,_,q,i,.str x t r1,.int m u r2,h,_,hq=>by
  have h':(if(Sum.inr x:Key)=.inl m then _ else Di (.inr x) (.inl m))=some q:=h;rw[h_ (λz=>nomatch z)]at h';cases h'
 | _,_,_,_,q,i,@bS.int n t xs ks r1,@bS.int m u ys js r2,h,h0,hq=>by
  have h':(if(Sum.inl n:Key)=.inl m then dO ks js else Di (.inl n) (.inl m))=some q:=h;refine PySem.W.kat_cons (Xi n t m u prog w _ _ ?_)
  by_cases e:n=m
  .subst e;rw[j_ rfl]at h';rw[show(n==n)=true by simp];refine PySem.W.kat_yes ?_;have:=Lc (i:=i+1) r1 r2 h' (λz=>by lia) hq;rw[show ∀(a b:X7),decide ((a::xs).length<(b::ys).length)=decide (xs.length<ys.length)from λa b=>by simp];exact this
  .rw[h_ (λz=>e (Sum.inl.inj z))]at h';cases h';rw[show(n==m)=false by simpa using e];refine PySem.W.kat_no ?_
   by_cases hi:i=0
   .subst hi;exact oneLt_int hq
   .rw[show(true&&i==0)=false by simp[hi]];exact PySem.W.kat_one _ _ (HT.wL A s n t m u prog w _ _ hq)
 | _,_,_,_,q,i,@bS.str x t xs ks r1,@bS.str y u ys js r2,h,h0,hq=>by
  have h':(if(Sum.inr x:Key)=.inr y then dO ks js else Di (.inr x) (.inr y))=some q:=h;have hi:i≠0:=λz=>by have:=(h0 z).1;cases this
  refine PySem.W.kat_cons (Xj x t y u prog w _ _ ?_)
  by_cases e:x=y
  .subst e;rw[j_ rfl]at h';rw[show(x==x)=true by simp];refine PySem.W.kat_yes ?_;have:=Lc (i:=i+1) r1 r2 h' (λz=>by lia) hq;rw[show ∀(a b:X7),decide ((a::xs).length<(b::ys).length)=decide (xs.length<ys.length)from λa b=>by simp];exact this
  .rw[h_ (λz=>e (Sum.inr.inj z))]at h';cases h';rw[show(x==y)=false by simpa using e];refine PySem.W.kat_no ?_;rw[show(true&&i==0)=false by simp[hi]];exact PySem.W.kat_one _ _ (wB A s x t y u prog w _ _ hq)
end
def dD(h:Ya):XX->Yh->Prop
 | [],[]=>True
 | v::vs,ks::kss=>(∃a o xs n,v=.ref a/\h.get? a=some o/\o.cls=.type "tuple"/\o.data=.seq xs n/\bS xs.toList ks)/\dD h vs kss
 | _,_=>False
theorem dD.keeps(k:∀a o,h.get? a=some o->o.cls=.type "tuple"->h'.get? a=some o):∀{vs:XX}{kss:Yh},dD h vs kss->dD h' vs kss
 | [],[],t=>t
 | [],_::_,t=>t.elim
 | _::_,[],t=>t.elim
 | _::_,_::_,⟨⟨a,o,xs,n,e,ho,hc,hd,r⟩,t⟩=>⟨⟨a,o,xs,n,e,k a o ho hc,hc,hd,r⟩,dD.keeps k t⟩
theorem dD.at:∀{vs:XX}{kss:Yh}{i:Nat}{v:X7},dD h vs kss->vs[i]?=some v->∃a o xs n ks,v=.ref a/\h.get? a=some o/\o.cls=.type "tuple"/\o.data=.seq xs n/\kss[i]?=some ks/\bS xs.toList ks
 | [],[],i,v,_,e=>by simp at e
 | [],_::_,_,_,t,_=>t.elim
 | _::_,[],_,_,t,_=>t.elim
 | w::vs,ks::kss,0,v,⟨⟨a,o,xs,n,e,ho,hc,hd,r⟩,t⟩,e2=>by simp at e2;subst e2;exact⟨a,o,xs,n,ks,e,ho,hc,hd,rfl,r⟩
 | w::vs,ks::kss,i+1,v,⟨_,t⟩,e2=>by
  obtain⟨a,o,xs,n,ju,g⟩:=dD.at (i:=i) t (by simpa using e2);exact⟨a,o,xs,n,ju,by simpa using g⟩
theorem dD.firsts:∀{vs:XX}{kss:Yh},dD h vs kss->kss.all zK=true->∃fs,PySem.W.KatTups h vs fs/\fs.length=vs.length/\∀f∈fs,∃n t,f=Value.int n t
 | [],[],_,_=>⟨[],trivial,rfl,λ_ h=>by cases h⟩
 | [],_::_,t,_=>t.elim
 | _::_,[],t,_=>t.elim
 | w::vs,ks::kss,⟨⟨a,o,xs,n,e,ho,hc,hd,r⟩,t⟩,hh=>by
  rw[V6,C_]at hh;obtain⟨fs,h1,h2,h3⟩:=dD.firsts t hh.2;subst e;obtain⟨xs⟩:=xs;cases r with
  | nil=>cases hh.1
  | str x t r=>cases hh.1
  | int m tk r=>
   refine⟨.int m tk::fs,PySem.W.KatTups.cons ho hc hd (by simp) h1,by simp[h2],λf hf=>?_⟩;rcases p_.mp hf with rfl | hf
   .exact⟨_,_,rfl⟩
   .exact h3 f hf
section
variable {prog:X9}{w:Yb}{A:X_}{E:XO}{s:X8}
end
def l':Yl->Option Yh
 | []=>some []
 | .tup xs::r=>(lC xs).bind λks=>(l' r).bind λkss=>some (ks::kss)
 | _=>none
section
variable {X:Cx}{l r:Yf}{fa fb:Fe}{ga gb:Gr}{pos p:Pos}
def xl(K:Fg)(H:Hp):Yn->Yh->Prop
 | [],[]=>True
 | v::vs,ks::kss=>(∃a,v=.ref a/\cM K H a (ks.map kV))/\xl K H vs kss
 | _,_=>False
theorem xl.of{K:Fg}{Z:Hp}:∀{ds:Yl}{vs:Yn}{kss:Yh},l' ds=some kss->ar K Z ds vs->xl K Z vs kss
 | [],vs,kss,h,r=>by cases h;cases(show vs=[]from r);trivial
 | d::ds,vs,kss,h,r=>by
  obtain⟨v,rr,e,h1,h2⟩:=r;subst e;cases d<;>try cases h
  obtain⟨ks,e1,h⟩:=a_.mp h;obtain⟨kss',e2,h⟩:=a_.mp h;cases h;obtain⟨a,us,rfl,q,r1⟩:=h1;cases dY e1 r1;exact⟨⟨a,rfl,q⟩,xl.of e2 h2⟩
theorem xl.mono{K:Fg}{H H':Hp}(s:aF H H'):∀{vs:Yn}{kss:Yh},xl K H vs kss->xl K H' vs kss
 | [],[],t=>t
 | [],_::_,t=>t.elim
 | _::_,[],t=>t.elim
 | _::_,_::_,⟨⟨a,e,q⟩,t⟩=>⟨⟨a,e,dA s q⟩,xl.mono s t⟩
theorem xl.heap{pins σ H s}(I:Inv X pins σ H s):∀{vs:Yn}{us:XX}{kss:Yh},xl X.K H vs kss->ax vs us->dD s.heap us kss
 | [],_,[],t,r=>by cases r;trivial
 | [],_,_::_,t,_=>t.elim
 | _::_,_,[],t,_=>t.elim
 | _::_,_,_::_,⟨⟨a,e,q⟩,t⟩,r=>by
  subst e;cases r with
  | cons h r=>
   cases(show _=Value.ref a from h);obtain⟨a5,rv,⟨o,h1,h2,n',h3⟩,_⟩:=I.tuple q;exact⟨⟨a,o,a5.toArray,n',rfl,h1,h2,h3,by simpa using bS.of rv⟩,xl.heap I t r⟩
end
end Mi
namespace Mi
open PySem L2
mutual
theorem lq:∀(d:D),pl d=true->eT d d=true
 | .non,_=>by simp[eT]
 | .bl b,_=>by simp[eT]
 | .int i,_=>by simp[eT]
 | .str x,_=>by simp[eT]
 | .tup ds,h=>by unfold eT;exact l6 ds (by unfold pl at h;exact h)
 | .lst ds,h=>by unfold eT;exact l6 ds (by unfold pl at h;exact h)
 | .dct _,h=>by unfold pl at h;cases h
 | .st _,h=>by unfold pl at h;cases h
 | .ln _,h=>by unfold pl at h;cases h
 | .mp _ _ _,h=>by unfold pl at h;cases h
theorem l6:∀(ds:Yl),iy ds=true->lB ds ds=true
 | [],_=>by simp[lB]
 | d::ds,h=>by
  unfold iy at h;rw[C_]at h;unfold lB;rw[lq d h.1,l6 ds h.2];rfl
end
theorem Ek:∀(xs:Yl),(∀x∈xs,pl x=true)->iy xs=true
 | [],_=>by simp[iy]
 | x::xs,h=>by
  unfold iy;rw[h x g_,Ek xs λy hy=>h y (f_ _ hy)];rfl
theorem F'(h:f env=some (.lst xs))(hp:iy xs=true):aq fV f (b8 fNil) env=some (.bl xs.isEmpty):=
 GM h rfl (Np (by unfold eJ oq;lia) (by unfold pl;rw[hp];rfl)) (zp xs)
end Mi
namespace Mi
open PySem PySem.Spec PyProof.Rows L2
theorem EN:∀(l:List (α×β)),(l.map (·.1)).zip (l.map (·.2))=l
 | []=>rfl
 | (a,b)::l=>by rw[A_,A_,U4,EN l]
theorem zj:∀{xs:List α}{ys:List β},xs.length=ys.length->(xs.zip ys).map (·.2)=ys
 | [],[],_=>rfl
 | [],_::_,h=>by simp at h
 | _::_,[],h=>by simp at h
 | x::xs,y::ys,h=>by rw[U4,A_,zj (by simpa using h)]
def kx(x:X5×Ye):Yi×Ye:=(kk x.1,x.2)
theorem vR(hl:bs.length=ps.length):kn a ps bs h↔St.c8 (tupleKind (aH P w)) a ((ps.zip bs).map kx) h:=by
 have e1:(ps.zip bs).map Mc=((ps.zip bs).map kx).map (St.ent (tupleKind (aH P w))):=by rw[K_];rfl
 have e2:(((ps.zip bs).map kx).map (·.1)).Nodup↔ps.Nodup:=by
  rw[K_,show((λx:Yi×Ye=>x.1) ∘ kx)=kk ∘ (λx:X5×Ye=>x.1)from rfl,<- K_,lP hl.symm];exact Co λx y=>yH
 constructor
 .rintro⟨o,es,ep,t,h1,h2,h3,h4,h5,h6,h7,h8⟩;exact⟨o,es,ep,t,h1,h2,h3,⟨by rw[<- e1];exact h4,h5,h6,h7⟩,e2.mpr h8⟩
 .rintro⟨o,es,ep,t,h1,h2,h3,⟨h4,h5,h6,h7⟩,h8⟩;exact⟨o,es,ep,t,h1,h2,h3,by rw[e1];exact h4,h5,h6,h7,e2.mp h8⟩
theorem xQ(a:Ye)(ps:XU)(bs:X0):∀h1 h2:Ya,kn a ps bs h1->(∀o,h1.get? a=some o->h2.get? a=some o)->kn a ps bs h2:=λh1 h2 ⟨o,es,ep,t,e,r⟩ k=>⟨o,es,ep,t,k o e,r⟩
def An(ps:XU):XU:=ps.foldl mo []
def jd(xs:List (X5×Ye))(x:X5×Ye):List (X5×Ye):=if x.1∈xs.map (·.1)then xs else xs++[x]
theorem FQ(xs:List (X5×Ye))(x:X5×Ye):(jd xs x).map kx=St.jO (xs.map kx) (kx x):=by
 unfold jd St.jO;have e:(kx x).1∈(xs.map kx).map (·.1)↔x.1∈xs.map (·.1):=by
  rw[K_,u_,u_];constructor
  .rintro⟨y,hy,e⟩;exact⟨y,hy,yH e⟩
  .rintro⟨y,hy,e⟩;exact⟨y,hy,by show kk y.1=kk x.1;rw[e]⟩
 by_cases h:x.1∈xs.map (·.1)
 .rw[j_ h,j_ (e.mpr h)]
 .rw[h_ h,h_ (λz=>h (e.mp z)),H_];rfl
theorem qX:∀(l xs:List (X5×Ye)),(l.foldl jd xs).map kx=(l.map kx).foldl St.jO (xs.map kx)
 | [],xs=>rfl
 | x::l,xs=>by rw[V3,qX l,FQ];rfl
theorem pz:∀(l xs:List (X5×Ye)),(l.foldl jd xs).map (·.1)=(l.map (·.1)).foldl mo (xs.map (·.1))
 | [],xs=>rfl
 | x::l,xs=>by
  rw[V3,pz l,A_,V3];congr 1;unfold jd mo
  by_cases h:x.1∈xs.map (·.1)
  .rw[j_ h,j_ h]
  .rw[h_ h,h_ h,H_];rfl
theorem uQ:∀{l xs:List (X5×Ye)}{y:X5×Ye},y∈l.foldl jd xs->y∈xs\/y∈l
 | [],xs,y,h=>.inl h
 | x::l,xs,y,h=>by
  rcases uQ (l:=l) h with h | h
  .unfold jd at h
   split at h
   .exact .inl h
   .rcases Ub.mp h with h | h
    .exact .inl h
    .exact .inr (by rw[y_.mp h];exact g_)
  .exact .inr (f_ _ h)
theorem jN.of_zip{K:Fg}{H:Hp}(l:List (X5×Ye))(h:∀x∈l,cM K H x.2 [.int x.1.1,.int x.1.2]):jN K H (l.map (·.1)) (l.map (·.2)):=by
 refine⟨by simp,λi p b h1 h2=>?_⟩;rw[o_]at h1 h2;obtain⟨x,hx,rfl⟩:=T_.mp h1;rw[hx]at h2;cases h2;exact h x (I_ hx)
section
variable {X:Cx}{l r:Yf}{fa fb:Fe}{ga gb:Gr}{pos p:Pos}{k:Nat}
theorem u5:∀{bs:X0}{us:XX},ax (bs.map V.ref) us->us=bs.map Value.ref
 | [],us,h=>by cases h;rfl
 | b::bs,us,h=>by
  cases h with
  | cons h1 h2=>cases(show _=Value.ref b from h1);rw[u5 h2];rfl
def tI:Yl->Option XU
 | []=>some []
 | .tup [.int a,.int b]::r=>(tI r).bind λps=>some ((a,b)::ps)
 | _=>none
theorem wK{K:Fg}{Z:Hp}:∀{ds:Yl}{vs:Yn}{ps:XU},tI ds=some ps->ar K Z ds vs->∃bs,vs=bs.map V.ref/\jN K Z ps bs
 | [],vs,ps,h,r=>by cases h;cases(show vs=[]from r);exact⟨[],rfl,rfl,λi p b h=>by simp at h⟩
 | d::ds,vs,ps,h,r=>by
  unfold tI at h
  split at h
  .rename_i heq;exact absurd heq (by simp)
  .rename_i a b r' e;cases e;obtain⟨ps',e1,h⟩:=a_.mp h;cases h;obtain⟨v,rr,e,h1,h2⟩:=r;subst e;obtain⟨c,us,rfl,q,r1⟩:=h1;cases ar.intsV (bs:=[a,b]) r1;obtain⟨bs,rfl,hp⟩:=wK e1 h2;refine⟨c::bs,rfl,by simp[hp.1],λi p b' h1 h2=>?_⟩;cases i with
   | zero=>simp at h1 h2;subst h1;subst h2;exact q
   | succ i=>exact hp.2 i p b' (by simpa using h1) (by simpa using h2)
  .cases h
def EL:D->Ym
 | .lst ds=>(tI ds).bind λps=>if ps.length<=4900 then some (.st (An ps))else none
 | _=>none
theorem N5{K:Fg}:fL K .cl EL (λxs H Q=>∃(a:Ye)(ps:XU)(bs:X0),xs=[.ref a]/\cJ K H a (bs.map V.ref)/\jN K H ps bs/\ps.length<=4900/\
  ∀q,H q=none->Q (.ref q) (upd H q (.ext (kn q (An ps) ((((ps.zip bs).foldl jd []).map (·.2))))))):=λ{Z H x dx d Q} s h e k=>by
 cases dx<;>try cases e
 obtain⟨ps,h1,h2⟩:=a_.mp e;obtain⟨hl,rfl⟩:=nz h2;obtain⟨a,vs,rfl,q,rr⟩:=h.lst s;obtain⟨bs,rfl,hp⟩:=wK h1 rr;refine⟨a,ps,bs,rfl,q,hp.mono s,hl,λc hc=>?_⟩;have QQ:jN K Z (An ps) (((ps.zip bs).foldl jd []).map (·.2)):=by
  have:=jN.of_zip ((ps.zip bs).foldl jd []) λx hx=>by
   rcases uQ hx with h | h
   .cases h
   .exact hp.zip x h
  rw[pz,lP hp.1.symm]at this;exact this
 have s1:aF Z (upd Z c (.ext (kn c (An ps) (((ps.zip bs).foldl jd []).map (·.2))))):=df (s.free hc);exact k _ _ _ (Ex.new s hc) ⟨c,_,rfl,QQ.1,ay,λi p b g1 g2=>dA s1 (QQ.2 i p b g1 g2)⟩
theorem BL(hc:X.calm=true)(hu:X.A.units+66<cLine):cS X (.type "set") (λxs H Q=>∃(a:Ye)(ps:XU)(bs:X0),xs=[.ref a]/\cJ X.K H a (bs.map V.ref)/\jN X.K H ps bs/\ps.length<=4900/\
  ∀q,H q=none->Q (.ref q) (upd H q (.ext (kn q (An ps) ((((ps.zip bs).foldl jd []).map (·.2))))))):=by
 intro pins s σ H xs us Q I rs h;obtain⟨a,ps,bs,rfl,hq,hp,hl,q⟩:=h;obtain⟨u,rfl,rx⟩:=vals1 rs;cases rx;obtain⟨a5,rv,pl,hz⟩:=I.list hq;have hits:=u5 rv;subst hits;refine St.qC (I.ok.hd hc) (by lia) pl.isList (ks:=(ps.zip bs).map kx) ?_ (λx hx=>?_) (by simp;lia) λh' tk hS hold=>?_
 .rw[K_];show bs.map Value.ref=(ps.zip bs).map (Value.ref ∘ (·.2));rw[<- K_,zj hp.1.symm]
 .obtain⟨y,hy,rfl⟩:=u_.mp hx;exact tW I (hp.zip y hy)
 .have Q0:St.c8 (tupleKind (aH X.prog X.w)) s.sz (((ps.zip bs).foldl jd []).map kx) h':=by
   rw[qX];exact hS
  have hfst:((ps.zip bs).foldl jd []).map (·.1)=An ps:=by rw[pz,lP hp.1.symm];rfl
  have Rm:kn s.sz (((ps.zip bs).foldl jd []).map (·.1)) (((ps.zip bs).foldl jd []).map (·.2)) h':=by
   rw[vR (by simp),EN];exact Q0
  rw[hfst]at Rm;have hfr:=I.hok.fresh (m_ s.sz);refine⟨.ref _,_,I.laid (o:=.ext (kn s.sz (An ps) (((ps.zip bs).foldl jd []).map (·.2)))) (λb o e=>hold b o (q_ e) e) (m_ _) ⟨Rm,?_,xQ _ _ _⟩,rfl,q _ hfr⟩;obtain⟨o,_,_,_,e,_⟩:=Rm;exact⟨o,e⟩
theorem BZ:bootBuiltins "set"=some (.type "set"):=by first | rfl | decide +kernel | kernel_rfl
theorem Jt(hm:X.mg "set"=none)(hc:X.calm=true)(hr:bM k X.A)(ha:PD X ga l fa)(hg:Gl X "set":=by rfl)(he:starEach [l] X.env=[(false,eval l X.env)]:=by rfl):PD X .cl (.Call (.Name "set" p) [l] [] pos) (bC EL fa):=
 zV (BL hc (ly hr)) N5 BZ hm ha (by decide) (by decide) hg he
theorem Gd.st{K:Fg}{Z' H H':Hp}{g:Gr}{v:V}{ps:XU}(s:aF Z' H')(h:Gd K Z' H H' g (.st ps) v):∃a bs,v=.ref a/\H' a=some (.ext (kn a ps bs))/\jN K H' ps bs:=by
 rcases(h.pk (H3:=H))with ⟨a,bs,e,l,q,r⟩ | ⟨_,_,_,_,e,_⟩ | ⟨_,_,_,e,_⟩ | ⟨_,_,_,_,_,e,_⟩
 .exact⟨a,bs,e,s _ _ q,l,λi p b h1 h2=>dA s (r i p b h1 h2)⟩
 .cases e
 .cases e
 .cases e
def O9(neg:Bool):D->D->Ym
 | .tup [.int a,.int b],.st ps=>some (.bl (if neg then !decide ((a,b)∈ps)else decide ((a,b)∈ps)))
 | _,_=>none
def Me(K:Fg)(neg:Bool):R2:=λx y H Q=>∃(b c:Ye)(ps:XU)(bs:X0)(m n:Int),x=.ref b/\cM K H b [.int m,.int n]/\y=.ref c/\H c=some (.ext (kn c ps bs))/\jN K H ps bs/\Q (.bl (if neg then !decide ((m,n)∈ps)else decide ((m,n)∈ps))) H
theorem Kd{ps:XU}{bs:X0}(hl:bs.length=ps.length)(m n:Int):(kk (m,n)∈((ps.zip bs).map kx).map (·.1))↔(m,n)∈ps:=by
 rw[K_,show((λx:Yi×Ye=>x.1) ∘ kx)=kk ∘ (λx:X5×Ye=>x.1)from rfl,<- K_,lP hl.symm,u_];constructor
 .rintro⟨q,hq,e⟩;rw[<- yH e];exact hq
 .intro h;exact⟨_,h,rfl⟩
theorem Kw(hu:X.A.units+1<cLine)(neg:Bool):jw X (compareOp (if neg then .NotIn else .In)) (Me X.K neg):=by
 intro pins s σ H x y v u Q I rx ry h;obtain⟨b,c,ps,bs,m,n,rfl,hq,rfl,hc,hp,q⟩:=h;cases rx;cases ry;have hS:kn c ps bs s.heap:=(show bE X.prog X.w H s.heap c (.ext (kn c ps bs))from I.hok c _ hc).1;rw[vR hp.1]at hS;have wW:∀x∈(ps.zip bs).map kx,(tupleKind (aH X.prog X.w)).is s.heap x.1 x.2:=λx hx=>by
  obtain⟨y,hy,rfl⟩:=u_.mp hx;exact tW I (hp.zip y hy)
 have hd:∀(inst:Decidable (kk (m,n)∈((ps.zip bs).map kx).map (·.1))),@decide _ inst=decide ((m,n)∈ps):=λinst=>decide_eq_decide.mpr (Kd hp.1 m n);cases neg with
 | false=>
  refine St.N9 St.oB (UU hu) hS wW (tW I hq) λtk=>?_;rw[hd];exact⟨.bl _,H,I.tok _,rfl,q⟩
 | true=>
  refine St.DO St.oB (UU hu) hS wW (tW I hq) λtk=>?_;rw[hd];exact⟨.bl _,H,I.tok _,rfl,q⟩
theorem Mx{K:Fg}{neg:Bool}:cU K .cl (O9 neg) (Me K neg):=λ{Z H x y dx dy d Q} s h1 h2 e kq=>by
 unfold O9 at e
 split at e
 .rename_i m n ps;cases e;obtain⟨b,vs,rfl,q,rr⟩:=h1.tup s;cases ar.intsV (bs:=[m,n]) rr;obtain⟨c,bs,rfl,qc,hp⟩:=h2.st s;exact⟨b,c,ps,bs,m,n,rfl,q,rfl,qc,hp,kq _ Z H (Ex.refl s) rfl⟩
 .cases e
theorem JE(hr:bM k X.A)(ha:PD X ga l fa)(hb:PD X gb r fb)(hm:behindInMarks .NotIn r=false:=by rfl):PB X (.Compare l [.NotIn] [r] pos) (fB (aq (O9 true) fa fb)):=ja (Kw (jl hr) true) Mx ha hb hm
end
section
variable {prog:X9}{w:Yb}{A:X_}{E:XO}{s:X8}
theorem EM{Q:XO}(hd:(d==sysModules)=false)(ho:s.heap.get? d=some o)(hc:o.ExactDict)(CC:o.data=.dict es ep)(Ih:(es.size:Int)<2 ^ 63)
  (h:∀t tk,Q (.int es.size t) {s with toks:=tk}):wpAny (model prog w) A.in1 (Builtin.«len» ⟨[.ref d],[]⟩) (λfin s'=>∃r,fin=.done (.ret r)/\Q r s') E s:=by
 have hT:s.TypeIs (.ref d) "dict":=⟨o,ho,hc.1⟩;unfold Builtin.«len»;refine b_ (m:=oneArg "len" _) (d_ ?_);refine b_ (m:=callSpecial? (.ref d) "__len__") (Uv (name:="__len__") hT PySem.F.slot_dict_len
  (Ug PySem.F.slot_dict_len hT PySem.F.entry_dict_len ?_ (PySem.F.args_dict_len_1 _)))
 show wpAny _ _ (dictSize d >>= _) _ _ s;unfold dictSize;refine b_ (b_ (UM ho CC (d_ ?_)));show wpAny _ _ (Builtin.Dict.pendingCount d >>= _) _ _ s;refine b_ (wpAny_pendingCount_other hd ?_);rw[show((es.size:Int)+((0:Nat):Int))=(es.size:Int) by lia];unfold retInt;refine b_ (wpAny_mkInt (d_ ⟨_,rfl,?_⟩));refine b_ (F_ (d_ ?_));refine b_ (Wv ?_);show wpAny _ _ (if((es.size:Nat):Int)<0 then _ else _) _ _ _;rw[h_ (by lia)];show wpAny _ _ (if((es.size:Nat):Int)>=2 ^ 63 then _ else _) _ _ _;rw[h_ (by lia)];exact b_ (wpAny_mkInt (d_ ⟨_,rfl,h _ _⟩))
end
theorem TV:((2:Int) ^ 63)=9223372036854775808:=by decide
section
variable {X:Cx}{l r:Yf}{fa fb:Fe}{ga gb:Gr}{pos p:Pos}{k:Nat}
end
theorem v7(hf:∀p,f p=.tup [.int p.1,.int p.2]):∀(ps:XU),tI (ps.map f)=some ps
 | []=>rfl
 | p::ps=>by rw[A_,hf];show(tI (ps.map f)).bind _=_;rw[v7 hf ps];rfl
theorem KM(h:f env=some (.lst ds))(h2:tI ds=some ps)(hl:ps.length<=4900):bC EL f env=some (.st (An ps)):=by
 rw[kS h];show(tI ds).bind _=_;rw[h2];show(if ps.length<=4900 then _ else _)=_;rw[j_ hl]
end Mi
namespace St
open PySem L2
section
variable {prog:X9}{w:Yb}{A:X_}{E:XO}{s:X8}
end
end St
namespace Mi
open PySem PySem.Spec PyProof.Rows L2
section
variable {elt:Yf}{gens:XW}{scope:Yd}{pos:Pos}{d:Nat}{tg iter:Yf}{ifs:X1}{it acc:X7}{env:Env}
end
structure SQ(X:Cx)(pins:List (Addr×Obj))(a:Addr)(B Z H:Hp)(env:En)(σ:L2.St)(pre:List D)(s:Shared):Prop where
 I:Inv X pins σ H s
 R:Rl X.K B Z H env σ
 nO:∀(i:Nat) ds,env[i]?≠some (.O ds)
 hb:B a=none
 hz:Z a=none
 ac:∃(ps:List (Int×Int))(xs:List ((Int×Int)×Addr)),tI pre=some ps/\xs.map (·.1)=An ps/\H a=some (.ext (kn a (xs.map (·.1)) (xs.map (·.2))))/\∀x∈xs,cM X.K Z x.2 [.int x.1.1,.int x.1.2]
def Qr(X:Cx)(a:Ye)(Bd:BdT)(k:Yj):Prop:=∀(pins:XQ)(s:X8)(σ:L2.St)(H B Z:Hp)(env:En)(pre xs:Yl)(P:X8->Prop)(E:XO),
 SQ X pins a B Z H env σ pre s->k env=some xs->pre.length+xs.length<=4900->(∀s' σ' H' Z',SQ X pins a B Z' H' env σ' (pre++xs) s'->Ex Z B Z' H'->P s')->Bd P E s
section
variable {X:Cx}{a:Ye}{elt:Yf}{fe:Fe}
end
section
variable {P:X9}{w:Yb}{A:X_}{elt:Yf}{gens:XW}{scope:Yd}{pos:Pos}{d:Nat}{tg iter:Yf}{ifs:X1}{it acc:X7}{env:Env}{R:Result->X8->Prop}{s:X8}
end
section
variable {X:Cx}{a:Ye}{elt:Yf}{gens:XW}{scope:Yd}{pos:Pos}{d:Nat}{tg iter zc cx:Yf}{ifs nE:X1}{it:Ye}
end
structure BlkS(X:Cx)(a:Addr)(elt:Expr)(gens:List Comprehension)(scope:Scope)(pos:Pos)(d:Nat)(tg:Expr)(ifs:List Expr)(t:Ft)(c:Fb)(k:En->Option (List D)):Prop where
 g:GD X tg t
 ts:Es X ifs c
 ex:∃Bd,Qr X a Bd k/\∀(it:Addr)(s:Shared)(Q:Fin->Shared->Prop)(E:Value->Shared->Prop),
   wpAny (model X.prog X.w) X.A (pyNext (.ref it)) (λr s1=>match r with
    | none=>Q (.done .next) s1
    | some v=>wpAny (model X.prog X.w) X.A (letOwnedTupleGo tg (.ref it) v) (λ_ s2=>wpAny (model X.prog X.w) X.A (assign tg X.env v) (λ_ s3=>
      wpAny (model X.prog X.w) X.A (forIn ifs true λc r=>if r=true then do let ok <- isTrue c X.env (eval c X.env);pure (ForInStep.yield ok)else pure (ForInStep.yield r)) (λok s4=>
       if ok=true then Bd (λs5=>Q (.again (.compLoop (.SetComp elt gens scope pos) d (.ref it) (.ref a) X.env)) s5) E s4 else Q (.again (.compLoop (.SetComp elt gens scope pos) d (.ref it) (.ref a) X.env)) s4) E s3) E s2) E s1) E s->
   wpAny (model X.prog X.w) X.A (compTurn (.SetComp elt gens scope pos) d (.ref it) (.ref a) X.env) Q E s
section
variable {X:Cx}{a:Ye}{elt:Yf}{gens:XW}{scope:Yd}{pos:Pos}{d:Nat}{tg iter:Yf}{ifs:X1}{t:Ft}{c:Fb}{fe:Fe}
end
section
variable {X:Cx}{elt:Yf}{rest:XW}{scope:Yd}{pos:Pos}{tg iter:Yf}{ifs:X1}{t:Ft}{c:Fb}{k:Yj}{fi:Fi}{is caps:X3}{cl:XT}{Nc own:XZ}
end
end Mi
namespace St
open PySem L2
section
variable {prog:X9}{w:Yb}{K:Type}[DecidableEq K](knd:KeyKind prog w K)
inductive LG(h:Heap):List (List K)->List Value->Prop
 | nil:LG h [] []
 | cons {k:List K} {b:Addr} {ks:List (List K)} {vs:List Value}:(tupleKind knd).is h k b->LG h ks vs->LG h (k::ks) (.ref b::vs)
variable {knd}
variable {A:X_}{E:XO}{s:X8}
end
section
variable {prog:X9}{w:Yb}{K:Type}[DecidableEq K]{knd:KeyKind prog w K}{A:X_}{E:XO}{s:X8}
end
end St
namespace Mi
open PySem PySem.Spec PyProof.Rows L2
section
variable {K:Type}[DecidableEq K]
end
section
variable {X:Cx}{rg:Gr}{l r:Yf}{fa fb:Fe}{ga gb:Gr}{pos p:Pos}{k:Nat}
end
section
variable {X:Cx}{rg:Gr}{l r:Yf}{fa fb:Fe}{ga gb:Gr}{pos p:Pos}{k:Nat}
end
section
variable {X:Cx}{rg:Gr}{pos:Pos}
end
section
variable {X:Cx}{i:Yf}{fi:Fe}{pos p0 p1 p2 p3 p4:Pos}{k j1 j2 j3 j4:Nat}
end
end Mi
namespace Mi
open PySem PySem.Spec PyProof.Rows L2
def Pe:Key->Key->Option Bool
 | .inl a,.inl b=>some (decide (a<=b))
 | .inr a,.inr b=>some (!decide (b.cps.toList<a.cps.toList))
 | _,_=>none
def qE:Yi->Yi->Option Bool
 | [],[]=>some true
 | [],_::_=>some true
 | _::_,[]=>some false
 | x::xs,y::ys=>if x=y then qE xs ys else Pe x y
theorem Df(A:X_)(s:X8)(a:Str)(t:Tok)(c:Str)(u:Tok)(prog:X9)(w:Yb)(E:XO)(Q:XO)(h:Q (.bool (!decide (c.cps.toList<a.cps.toList))) s) :
  wpAny (model prog w) A (richCompare .LtE (.str a t) (.str c u)) Q E s:=
 (PySem.P.le_str h:wpAny (model prog w) A (compareOp .LtE (.str a t) (.str c u)) Q E s)
section
open PySem.SeqAt
open PySem.AutoSeq1 (wpAny_loadPart')
open PySem.MeetsSeq PySem.MeetsSeq2 PySem.MeetsSeq3
theorem E'(hv:bS (y::vs) ns)(hw:bS (x::ws) ms):∃a c nk qN,ns=a::nk/\ms=c::qN/\bS vs nk/\bS ws qN/\
  ∀(A:X_)(s:X8)(q:Bool),(if a=c then qE nk qN else Pe a c)=some q->∃e,SeqAt.EqAt A s y x e/\(e=true↔a=c)/\(e=false->∀(prog:X9)(w:Yb)(E:XO)(Q:XO),Q (.bool q) s->wpAny (model prog w) A (richCompare .LtE y x) Q E s):=by
 cases hv with
 | int n t uH=>
  cases hw with
  | int m u zd=>
   refine⟨_,_,_,_,rfl,rfl,uH,zd,λA s q hq=>⟨(n==m),Xi n t m u,by simp,λhe=>?_⟩⟩;have hne:n≠m:=by simpa using he
   rw[h_ (λz=>hne (Sum.inl.inj z))]at hq;cases hq;exact λprog w E Q h=>(PyProof.Rows.le_int h:wpAny (model prog w) A (compareOp .LtE (.int n t) (.int m u)) Q E s)
  | str y u zd=>
   refine⟨_,_,_,_,rfl,rfl,uH,zd,λA s q hq=>?_⟩;rw[h_ (λz=>nomatch z)]at hq;cases hq
 | str a t uH=>
  cases hw with
  | int m u zd=>
   refine⟨_,_,_,_,rfl,rfl,uH,zd,λA s q hq=>?_⟩;rw[h_ (λz=>nomatch z)]at hq;cases hq
  | str b u zd=>
   refine⟨_,_,_,_,rfl,rfl,uH,zd,λA s q hq=>⟨(a==b),Xj a t b u,by simp,λhe=>?_⟩⟩;have hne:a≠b:=by simpa using he
   rw[h_ (λz=>hne (Sum.inr.inj z))]at hq;cases hq;exact λprog w E Q h=>Df A s a t b u prog w E Q h
theorem qu(l b:Ye)(items items2:Array X7)(n n2:Nat)(dd Cw:XY)(sl AM:XR)(ns ms:Yi)(q:Bool)(hi:bS items.toList ns)(hj:bS items2.toList ms)(hq:qE ns ms=some q) :
  Meets (Builtin.«tuple.__le__» ⟨[.ref l,.ref b],[]⟩)
   (λ_ R s=>s.heap.get? l=some {cls:=.type "tuple",dict:=dd,data:=.seq items n,slots:=sl}/\s.heap.get? b=some {cls:=.type "tuple",dict:=Cw,data:=.seq items2 n2,slots:=AM}/\R (.ok (.ret (.bool q))) s):=
 .of_wp λprog w A R s h=>by
  obtain⟨hp,g,d,tk,os⟩:=s;obtain⟨hl,hb,h⟩:=h;have f2:=AutoSeq1.sub_tuple_tuple;have z1:items.size=ns.length:=by rw[<- hi.length];simp
  have z2:items2.size=ms.length:=by rw[<- hj.length];simp
  wp_walk using W5 hl,W5 hb,VO _ (λrest b s'=>b.1=none/\s'=⟨hp,g,d,tk,os⟩/\∃(vs ws:XX)(nk qN:Yi),rest=vs.zip ws/\
   bS vs nk/\bS ws qN/\nk.length+items2.size=qN.length+items.size/\qE nk qN=some q) _
  case turn=>
   rintro⟨y,x⟩ rest b s' ⟨uF,rfl,vs,ws,nk,qN,hz,LC,OI,hlen,hR⟩;cases vs with
   | nil=>rw[List.zip_nil_left]at hz;cases hz
   | cons v vs=>
    cases ws with
    | nil=>rw[List.zip_nil_right]at hz;cases hz
    | cons w' ws=>
     rw[U4]at hz
     injection hz with Ri w9
     injection Ri with hy hx
     subst hy hx;obtain⟨a,c,OJ,LD,rfl,rfl,Rj,Rk,ask⟩:=E' LC OI;have LF:(if a=c then qE OJ LD else Pe a c)=some q:=hR;obtain⟨e,he,hiff,hlt⟩:=ask A.in1 ⟨hp,g,d,tk,os⟩ q LF;simp only[z_]at hlen;refine b_ (he prog w _ _ ?_);cases e with
     | true=>
      rw[j_ (hiff.mp rfl)]at LF
      wp_walk
      exact⟨rfl,rfl,_,_,_,_,w9,Rj,Rk,by lia,LF⟩
     | false=>
      have hri:=hlt rfl prog w
      wp_walk using hri
      exact⟨_,rfl,by simpa using h⟩
  case fin=>
   rintro⟨b1,b2⟩ s' ⟨uF,rfl,vs,ws,nk,qN,hz,LC,OI,hlen,hR⟩;simp only at uF;subst uF;have l1:=LC.length;have l2:=OI.length;have hv:q=decide (items.size<=items2.size):=by
    cases nk with
    | nil=>
     cases qN with
     | nil=>
      simp only[Ui]at hlen;cases hR;exact(v_ (by lia)).symm
     | cons c LD=>
      simp only[Ui,z_]at hlen;cases hR;exact(v_ (by lia)).symm
    | cons a OJ=>
     cases qN with
     | nil=>
      simp only[Ui,z_]at hlen;cases hR;exact(L_ (by lia)).symm
     | cons c LD=>
      cases vs with
      | nil=>simp at l1
      | cons v vs=>
       cases ws with
       | nil=>simp at l2
       | cons w' ws=>rw[U4]at hz;cases hz
   rw[hv]at h
   wp_walk
   exact⟨_,rfl,by simpa [Builtin.Tuple.tupleCompareSizes]using h⟩
  case h=>
   exact⟨rfl,rfl,items.toList,items2.toList,ns,ms,rfl,hi,hj,by lia,hq⟩
end
section
variable {X:Cx}{l r:Yf}{fa fb:Fe}{ga gb:Gr}{pos p:Pos}{k:Nat}
def NQ(K:Fg):R2:=λx y H Q=>∃a b ns ms q,x=.ref a/\y=.ref b/\cM K H a (ns.map kV)/\cM K H b (ms.map kV)/\qE ns ms=some q/\Q (.bl q) H
theorem Kj(hu:X.A.units<cLine):jw X (compareOp .LtE) (NQ X.K):=by
 intro pins s σ H x y v u Q I rx ry h;obtain⟨a,b,ns,ms,c,rfl,rfl,ha,hb,hc,q⟩:=h;cases rx;cases ry;obtain⟨a5,r1,p1,_⟩:=I.tuple ha;obtain⟨uB,r2,p2,_⟩:=I.tuple hb;obtain⟨⟨cls,dd,data,sl⟩,ho,gv,n,hd⟩:=id p1;obtain⟨⟨Ig,Cw,data2,AM⟩,Cy,qK,n2,hd2⟩:=id p2;simp only at gv hd qK hd2;subst gv hd qK hd2;exact richCompare_meets_room (op:=.LtE) ⟨_,ho,rfl⟩ ⟨_,Cy,rfl⟩ PySem.F.slot_tuple_le PySem.F.entry_tuple_le (PySem.F.args_tuple_le_2 _ _) (qu a b a5.toArray uB.toArray n n2 dd Cw sl AM ns ms c (by simpa using bS.of r1) (by simpa using bS.of r2) hc)
  ⟨ho,Cy,show Value.bool c≠Value.notImplemented/\EP X pins σ Q (.bool c) s from⟨(λz=>nomatch z),⟨.bl c,H,I,rfl,q⟩⟩⟩ hu
def MA:D->D->Ym
 | .tup xs,.tup ys=>(lC xs).bind λns=>(lC ys).bind λms=>(qE ns ms).bind λq=>some (.bl q)
 | _,_=>none
theorem N8{K:Fg}:cU K .cl MA (NQ K):=λ{Z H x y dx dy d Q} s h1 h2 e kq=>by
 cases dx<;>try cases e
 all_goals (cases dy<;>try cases e)
 obtain⟨ns,e1,e⟩:=a_.mp e;obtain⟨ms,e2,e⟩:=a_.mp e;obtain⟨q,e3,e⟩:=a_.mp e;cases e;obtain⟨a,vs,rfl,q1,r1⟩:=h1.tup s;obtain⟨b,us,rfl,q2,r2⟩:=h2.tup s;cases dY e1 r1;cases dY e2 r2;exact⟨a,b,ns,ms,q,rfl,rfl,q1,q2,e3,kq _ Z H (Ex.refl s) rfl⟩
theorem M'(hr:bM k X.A)(ha:PD X ga l fa)(hb:PD X gb r fb):PB X (.Compare l [.LtE] [r] pos) (fB (aq MA fa fb)):=ja (Kj (by have:=hr.un;lia)) N8 ha hb (eQ _)
end
end Mi
namespace Mi
open PySem PySem.Spec PyProof.Rows L2
section
variable {X:Cx}{rg:Gr}{pos:Pos}
end
def aI:Yh->List α->Yi->Option α
 | k::ks,d::ds,q=>if k=q then some d else aI ks ds q
 | _,_,_=>none
def bA:Yh->List α->Yi->α->List α
 | k::ks,d::ds,q,x=>(if k=q then x else d)::bA ks ds q x
 | _,ds,_,_=>ds
instance decK(q:Yi)(ks:Yh):Decidable (q∈ks):=decidable_of_iff ((ks.any λk=>decide (k=q))=true) (by simp)
def iR(ks:Yh)(q:Yi):Yh:=if q∈ks then ks else ks++[q]
def m6(ks:Yh)(ds:List α)(q:Yi)(x:α):List α:=if q∈ks then bA ks ds q x else ds++[x]
def FG(ks:Yh)(bs:X0)(q:Yi)(b:Ye):X0:=if q∈ks then bs else bs++[b]
theorem sq(ks:Yh)(q:Yi):(iR ks q).length<=ks.length+1:=by unfold iR;split<;>simp
theorem l4(q:Yi)(x:α):∀(ks:Yh)(ds:List α),(bA ks ds q x).length=ds.length
 | [],ds=>by cases ds<;>simp[bA]
 | _::_,[]=>by simp[bA]
 | k::ks,d::ds=>by simp[bA,l4 q x ks ds]
theorem sF(h:ds.length=ks.length)(q:Yi)(x:α):(m6 ks ds q x).length=(iR ks q).length:=by
 unfold m6 iR;split<;>simp[l4,h]
theorem zE(h:bs.length=ks.length)(q:Yi)(b:Ye):(FG ks bs q b).length=(iR ks q).length:=by
 unfold FG iR;split<;>simp[h]
theorem gN:∀{ks:Yh}{ds:List α},q∉ks->aI ks ds q=none
 | [],ds,_=>by cases ds<;>simp[aI]
 | _::_,[],_=>by simp[aI]
 | k::ks,d::ds,h=>by
  have h1:¬k=q:=λe=>h (by rw[e];exact g_);unfold aI;rw[h_ h1];exact gN λh2=>h (f_ _ h2)
theorem vZ:∀{ks:Yh}{ds:List α},ds.length=ks.length->q∈ks->∃d,aI ks ds q=some d
 | [],_,_,h=>nomatch h
 | _::_,[],h,_=>by simp at h
 | k::ks,d::ds,hl,h=>by
  unfold aI
  by_cases e:k=q
  .exact⟨d,j_ e⟩
  .rw[h_ e];exact vZ (by simpa using hl) ((p_.mp h).resolve_left λz=>e z.symm)
theorem Hi(hl:ds.length=ks.length):(aI ks ds q).isSome=decide (q∈ks):=by
 by_cases h:q∈ks
 .obtain⟨d,e⟩:=vZ hl h;rw[e,v_ h];rfl
 .rw[gN h,L_ h];rfl
theorem ar.look{K:Fg}{H:Hp}{q:Yi}:∀{ks:Yh}{ds:Yl}{vs:Yn}{d:D},ar K H ds vs->aI ks ds q=some d->∃v,aI ks vs q=some v/\Rep K H d v
 | [],ds,_,_,_,e=>by cases ds<;>simp[aI]at e
 | _::_,[],_,_,_,e=>by simp[aI]at e
 | k::ks,d::ds,_,d',⟨v,r,e1,h,t⟩,e=>by
  subst e1;unfold aI at e ⊢
  by_cases z:k=q
  .rw[j_ z]at e ⊢;cases e;exact⟨v,rfl,h⟩
  .rw[h_ z]at e ⊢;exact ar.look t e
theorem ar.repl{K:Fg}{H:Hp}{q:Yi}{x:D}{y:V}(hx:Rep K H x y):∀{ks:Yh}{ds:Yl}{vs:Yn},ar K H ds vs->ar K H (bA ks ds q x) (bA ks vs q y)
 | [],ds,vs,h=>by
  have e1:bA [] ds q x=ds:=by cases ds<;>rfl
  have e2:bA [] vs q y=vs:=by cases vs<;>rfl
  rw[e1,e2];exact h
 | _::_,[],vs,h=>by cases(show vs=[]from h);exact h
 | k::ks,d::ds,_,⟨v,r,e1,h,t⟩=>by
  subst e1;unfold bA
  by_cases z:k=q
  .rw[j_ z,j_ z];exact⟨y,_,rfl,hx,ar.repl hx t⟩
  .rw[h_ z,h_ z];exact⟨v,_,rfl,h,ar.repl hx t⟩
theorem ar.put{K:Fg}{H:Hp}{q:Yi}{x:D}{y:V}(hx:Rep K H x y){ks:Yh}{ds:Yl}{vs:Yn}(h:ar K H ds vs):ar K H (m6 ks ds q x) (m6 ks vs q y):=by
 unfold m6
 split
 .exact ar.repl hx h
 .exact h.app (ar.one hx)
theorem ax.look:∀{ks:Yh}{vs:Yn}{us:XX}{v:V},ax vs us->aI ks vs q=some v->∃u,aI ks us q=some u/\RelV v u
 | [],vs,_,_,_,e=>by cases vs<;>simp[aI]at e
 | _::_,_,_,_,.nil,e=>by simp[aI]at e
 | k::ks,_,_,v,.cons r t,e=>by
  unfold aI at e ⊢
  by_cases z:k=q
  .rw[j_ z]at e ⊢;cases e;exact⟨_,rfl,r⟩
  .rw[h_ z]at e ⊢;exact ax.look t e
theorem ax.look0:∀{ks:Yh}{vs:Yn}{us:XX},ax vs us->aI ks vs q=none->aI ks us q=none
 | [],_,us,_,_=>by cases us<;>simp[aI]
 | _::_,_,_,.nil,_=>by simp[aI]
 | k::ks,_,_,.cons r t,e=>by
  unfold aI at e ⊢
  by_cases z:k=q
  .rw[j_ z]at e;cases e
  .rw[h_ z]at e ⊢;exact ax.look0 t e
theorem ax.repl(hx:RelV y u):∀{ks:Yh}{vs:Yn}{us:XX},ax vs us->ax (bA ks vs q y) (bA ks us q u)
 | [],vs,us,h=>by
  have e1:bA [] vs q y=vs:=by cases vs<;>rfl
  have e2:bA [] us q u=us:=by cases us<;>rfl
  rw[e1,e2];exact h
 | _::_,_,_,.nil=>.nil
 | k::ks,_,_,.cons r t=>by
  unfold bA
  by_cases z:k=q
  .rw[j_ z,j_ z];exact .cons hx (ax.repl hx t)
  .rw[h_ z,h_ z];exact .cons r (ax.repl hx t)
theorem q8(hx:RelV y u):∀{vs:Yn}{us:XX},ax vs us->ax (vs++[y]) (us++[u])
 | _,_,.nil=>.cons hx .nil
 | _,_,.cons r t=>.cons r (q8 hx t)
theorem ax.put(hx:RelV y u)(h:ax vs us):ax (m6 ks vs q y) (m6 ks us q u):=by
 unfold m6
 split
 .exact ax.repl hx h
 .exact q8 hx h
theorem gY(k:Yi)(ks:Yh)(b:Ye)(bs:X0)(u:X7)(us:XX):dP (k::ks) (b::bs) (u::us)=(k,b,u)::dP ks bs us:=rfl
theorem lh:∀{ks:Yh}{bs:X0}{us:XX},bs.length=ks.length->us.length=ks.length->(dP ks bs us).map (·.1)=ks
 | [],_,_,_,_=>rfl
 | _::_,[],_,h,_=>by simp at h
 | _::_,_::_,[],_,h=>by simp at h
 | k::ks,b::bs,u::us,h1,h2=>by rw[gY,A_,lh (by simpa using h1) (by simpa using h2)]
theorem lH(h1:bs.length=ks.length)(h2:us.length=ks.length):(dP ks bs us).length=ks.length:=by
 have:=UW List.length (lh h1 h2);simpa using this
theorem oC(q:Yi):∀{ks:Yh}{bs:X0}{us:XX},bs.length=ks.length->us.length=ks.length->(atKey (dP ks bs us) q).map (·.2)=aI ks us q
 | [],_,us,_,_=>by cases us<;>rfl
 | _::_,[],_,h,_=>by simp at h
 | _::_,_::_,[],_,h=>by simp at h
 | k::ks,b::bs,u::us,h1,h2=>by
  have ih:=oC q (by simpa using h1) (by simpa using h2);rw[gY];unfold atKey at ih ⊢;unfold aI;rw[List.find?_cons]
  by_cases e:k=q
  .rw[j_ e,show decide ((k,b,u).1=q)=true by simpa using e];rfl
  .rw[h_ e,show decide ((k,b,u).1=q)=false by simpa using e];exact ih
theorem ub(q:Yi)(h1:bs.length=ks.length)(h2:us.length=ks.length):(atKey (dP ks bs us) q).isSome=decide (q∈ks):=by
 rw[<- Hi h2,<- oC q h1 h2,Option.isSome_map]
theorem vV(q:Yi)(u':X7):∀{ks:Yh}{bs:X0}{us:XX},bs.length=ks.length->us.length=ks.length->(dP ks bs us).map (putAt q u')=dP ks bs (bA ks us q u')
 | [],_,us,_,_=>by cases us<;>rfl
 | _::_,[],_,h,_=>by simp at h
 | _::_,_::_,[],_,h=>by simp at h
 | k::ks,b::bs,u::us,h1,h2=>by
  rw[gY,A_,vV q u' (by simpa using h1) (by simpa using h2)];rw[show bA (k::ks) (u::us) q u'=(if k=q then u' else u)::bA ks us q u' from rfl,gY];congr 1;unfold putAt
  by_cases e:k=q
  .rw[j_ e,j_ e]
  .rw[h_ e,h_ e]
theorem vU(q:Yi)(b':Ye)(u':X7):∀{ks:Yh}{bs:X0}{us:XX},bs.length=ks.length->us.length=ks.length->dP (ks++[q]) (bs++[b']) (us++[u'])=dP ks bs us++[(q,b',u')]
 | [],[],[],_,_=>rfl
 | [],_::_,_,h,_=>by simp at h
 | [],[],_::_,_,h=>by simp at h
 | _::_,[],_,h,_=>by simp at h
 | _::_,_::_,[],_,h=>by simp at h
 | k::ks,b::bs,u::us,h1,h2=>by
  rw[Vv,Vv,Vv,gY,gY,Vv,vU q b' u' (by simpa using h1) (by simpa using h2)]
theorem oZ(q:Yi)(b:Ye)(u:X7)(h1:bs.length=ks.length)(h2:us.length=ks.length):storedH (dP ks bs us) q b u=dP (iR ks q) (FG ks bs q b) (m6 ks us q u):=by
 unfold storedH iR FG m6;rw[ub q h1 h2]
 by_cases h:q∈ks
 .rw[v_ h,j_ rfl,j_ h,j_ h,j_ h,vV q u h1 h2]
 .rw[L_ h,h_ (by simp),h_ h,h_ h,h_ h,vU q b u h1 h2]
theorem FU(h:x∈dP ks bs us):∃i:Nat,ks[i]?=some x.1/\bs[i]?=some x.2.1:=by
 obtain⟨i,hi⟩:=UF.mp h;obtain⟨a1,a2⟩:=UX.mp hi;exact⟨i,a1,(UX.mp a2).1⟩
theorem et.put{K:Fg}{H:Hp}{ks:Yh}{bs:X0}(r:et K H ks bs)(hl:bs.length=ks.length){q:Yi}{b:Ye}(hq:cM K H b (q.map kV)):et K H (iR ks q) (FG ks bs q b):=λi k b' h1 h2=>by
 unfold iR at h1;unfold FG at h2
 split at h1
 .rw[j_ ‹_›]at h2;exact r i k b' h1 h2
 .rw[h_ ‹_›]at h2
  by_cases hi:i<ks.length
  .rw[S_ hi]at h1;rw[S_ (by rw[hl];exact hi)]at h2;exact r i k b' h1 h2
  .rw[R_ (by lia)]at h1;rw[R_ (by rw[hl];lia)]at h2;have hz:i-ks.length=0:=by
    have:=(k_.mp h1).1;simp at this;lia
   rw[hz]at h1;rw[hl,hz]at h2;cases h1;cases h2;exact hq
theorem E8(P:X9)(w:Yb):Cr (hashStr w)=entryOfKey (tupleKind (aH P w)):=by
 funext x;unfold Cr entryOfKey;congr 1
section
variable {P:X9}{w:Yb}{a:Ye}{ks:Yh}{bs:X0}{vs:Yn}{h:Ya}
theorem zR(d:h.DictOfH (tupleKind (aH P w)) a (dP ks bs us))(hv:ax vs us)(h1:bs.length=ks.length)(h2:us.length=ks.length)(hs:(a==sysModules)=false)(hz:ks.length<=16000000):bP (hashStr w) a ks bs vs h:=by
 obtain⟨o,es,ep,e1,e2,e3,e4,_,e6⟩:=d;rw[lh h1 h2]at e6;exact⟨o,es,ep,us,e1,e2,e3,hv,by rw[e4,E8 P w],e6,hs,hz,h1,h2⟩
theorem iz(th:Str->Int)(a:Ye)(ks:Yh)(bs:X0)(vs:Yn):∀h1 h2:Ya,bP th a ks bs vs h1->(∀o,h1.get? a=some o->h2.get? a=some o)->bP th a ks bs vs h2:=λh1 h2 ⟨o,es,ep,us,e,r⟩ k=>⟨o,es,ep,us,k o e,r⟩
end
section
variable {X:Cx}{rg:Gr}{l r:Yf}{fa fb:Fe}{ga gb:Gr}{pos p:Pos}{k:Nat}
theorem gm{pins σ H s}(I:Inv X pins σ H s)(hq:cM X.K H b (q.map kV)):(tupleKind (aH X.prog X.w)).is s.heap q b:=by
 obtain⟨a5,rv,⟨o,h1,h2,n',h3⟩,_⟩:=I.tuple hq;exact⟨o,a5.toArray,n',h1,h2,h3,by simpa using mw rv⟩
theorem ip{pins σ H s}(I:Inv X pins σ H s)(hc:H c=some (.ext (bP (hashStr X.w) c ks bs vs)))(hp:et X.K H ks bs) :
  ∃us,ax vs us/\bs.length=ks.length/\us.length=ks.length/\s.heap.DictOfH (tupleKind (aH X.prog X.w)) c (dP ks bs us)/\(c==sysModules)=false/\ks.length<=16000000:=by
 have hS:bP (hashStr X.w) c ks bs vs s.heap:=(show bE X.prog X.w H s.heap c (.ext (bP (hashStr X.w) c ks bs vs))from I.hok c _ hc).1;obtain⟨o,es,ep,us,e1,e2,e3,hv,e4,e5,e6,e7,h1,h2⟩:=hS;refine⟨us,hv,h1,h2,⟨o,es,ep,e1,e2,e3,by rw[e4,E8 X.prog X.w],λx hx=>?_,by rw[lh h1 h2];exact e5⟩,e6,e7⟩;obtain⟨i,a1,a2⟩:=FU hx;exact gm I (hp i _ _ a1 a2)
def Pa:Yl->Option Yi
 | []=>some []
 | .int i::ds=>(Pa ds).map (.inl i::·)
 | .str x::ds=>(Pa ds).map (.inr x::·)
 | _=>none
theorem jj{K:Fg}{H:Hp}:∀{ds:Yl}{vs:Yn}{q:Yi},ar K H ds vs->Pa ds=some q->vs=q.map kV
 | [],vs,_,h,e=>by cases e;exact h
 | .int i::ds,_,_,⟨v,r,e1,h,t⟩,e=>by
  obtain⟨q',e2,rfl⟩:=T_.mp e;rw[e1,jj t e2,show v=V.int i from h];rfl
 | .str x::ds,_,_,⟨v,r,e1,h,t⟩,e=>by
  obtain⟨q',e2,rfl⟩:=T_.mp e;rw[e1,jj t e2,show v=V.str x from h.1];rfl
 | .non::_,_,_,_,e=>by cases e
 | .bl _::_,_,_,_,e=>by cases e
 | .tup _::_,_,_,_,e=>by cases e
 | .lst _::_,_,_,_,e=>by cases e
 | .dct _::_,_,_,_,e=>by cases e
 | .st _::_,_,_,_,e=>by cases e
 | .ln _::_,_,_,_,e=>by cases e
 | .mp _ _ _::_,_,_,_,e=>by cases e
def fj:D->Option Yi
 | .tup ts=>Pa ts
 | _=>none
theorem jC{K:Fg}{Z H H0:Hp}{g:Gr}{d:D}{v:V}{q:Yi}(s:aF Z H)(h:Gd K Z H0 H g d v)(e:fj d=some q):∃b,v=.ref b/\cM K H b (q.map kV):=by
 cases d<;>try cases e
 obtain⟨b,vs,rfl,hq,rr⟩:=h.tup s;rw[jj rr e]at hq;exact⟨b,rfl,hq⟩
open Classical in
noncomputable def rh(th:Str->Int):D->Option (Yh×Yl)
 | .mp FK ks ds=>if FK=th then some (ks,ds)else none
 | _=>none
open Classical in
theorem ez(h:rh th d=some x):d=.mp th x.1 x.2:=by
 cases d<;>try cases h
 unfold rh at h;obtain⟨rfl,rfl⟩:=nz h
 rfl
open Classical in
theorem lR(th:Str->Int)(ks:Yh)(ds:Yl):rh th (.mp th ks ds)=some (ks,ds):=by show(if th=th then some (ks,ds)else none)=_;rw[j_ rfl]
noncomputable def getM(th:Str->Int)(x y:D):Ym:=(rh th x).bind λm=>(fj y).bind λq=>aI m.1 m.2 q
def Iv(K:Fg)(th:Str->Int):R2:=λx y H Q=>∃(a b:Ye)(ks:Yh)(bs:X0)(vs:Yn)(q:Yi)(v:V),x=.ref a/\H a=some (.ext (bP th a ks bs vs))/\et K H ks bs/\y=.ref b/\cM K H b (q.map kV)/\aI ks vs q=some v/\Q v H
theorem GT(hu:X.A.units+1<cLine)(ho:PE X o td)(hi:PE X i ty)(hs:KW i):PE X (.Subscript o i pos) (LV (Iv X.K (hashStr X.w)) td ty):=by
 intro pins s σ H Q I h;refine GS PySem.F.slot_dict_getitem.lookup hs (bF (ho pins s σ H _ I h) λu s1 ⟨x,H1,I1,rx,q1⟩=>bF (hi pins s1 σ H1 _ I1 q1) λiv s2 aG=>?_);obtain⟨y,H2,I2,ry,a,b,ks,bs,vs,q,v,ex,hc,hp,ey,hq,hl,q2⟩:=aG;subst ex ey;obtain rfl:u=Value.ref a:=rx;obtain rfl:iv=Value.ref b:=ry;obtain⟨us,hv,h1,h2,dd,wX,hz⟩:=ip I2 hc hp;obtain⟨w',e1,e2⟩:=ax.look hv hl;rw[<- oC q h1 h2]at e1;obtain⟨pr,e3,e4⟩:=T_.mp e1;exact⟨dd.typeIs,wpAny_getItem_heap (UU hu) (gm I2 hq) dd e3 (by rw[e4];exact⟨v,H2,I2.tok _,e2,q2⟩)⟩
theorem KY{K:Fg}{th:Str->Int}:cU K .cl (getM th) (Iv K th):=λ{Z H x y dx dy d Q} s h1 h2 e kq=>by
 obtain⟨m,e1,e⟩:=a_.mp e;obtain⟨q,e2,e3⟩:=a_.mp e;cases ez e1;obtain⟨a,rfl,bs,vs,hc,hp,rr⟩:=h1.mp s;obtain⟨b,rfl,hq⟩:=jC s h2 e2;obtain⟨v,e4,e5⟩:=rr.look e3;exact⟨a,b,m.1,bs,vs,q,v,rfl,hc,hp.mono s,rfl,hq,e4,kq v Z H (Ex.refl s) e5⟩
theorem jk(hw:th=hashStr X.w)(hr:bM k X.A)(ha:PD X ga l fa)(hb:PD X gb r fb)(hs:KW r:=by intro _ _;rfl):PD X .cl (.Subscript l r pos) (aq (getM th) fa fb):=by
 subst hw;exact PE.imp (GT (jl hr) ha hb hs) λ_ _ _ h=>jE KY h
noncomputable def IU(th:Str->Int)(neg:Bool)(x y:D):Ym:=(fj x).bind λq=>(rh th y).bind λm=>some (.bl (if neg then !decide (q∈m.1)else decide (q∈m.1)))
def Mz(K:Fg)(th:Str->Int)(neg:Bool):R2:=λx y H Q=>∃(b c:Ye)(ks:Yh)(bs:X0)(vs:Yn)(q:Yi),x=.ref b/\cM K H b (q.map kV)/\y=.ref c/\H c=some (.ext (bP th c ks bs vs))/\et K H ks bs/\Q (.bl (if neg then !decide (q∈ks)else decide (q∈ks))) H
theorem J8(hu:X.A.units+1<cLine)(neg:Bool):jw X (compareOp (if neg then .NotIn else .In)) (Mz X.K (hashStr X.w) neg):=by
 intro pins s σ H x y v u Q I rx ry h;obtain⟨b,c,ks,bs,vs,q,rfl,hq,rfl,hc,hp,qq⟩:=h;cases rx;cases ry;obtain⟨us,hv,h1,h2,dd,wX,hz⟩:=ip I hc hp;cases neg with
 | false=>
  refine wpAny_in_heap (UU hu) (gm I hq) wX dd ?_;rw[ub q h1 h2];exact⟨.bl _,H,I.tok _,rfl,qq⟩
 | true=>
  refine wpAny_notIn_heap (UU hu) (gm I hq) wX dd ?_;rw[ub q h1 h2];exact⟨.bl _,H,I.tok _,rfl,qq⟩
theorem N7{K:Fg}{th:Str->Int}{neg:Bool}:cU K .cl (IU th neg) (Mz K th neg):=λ{Z H x y dx dy d Q} s h1 h2 e kq=>by
 obtain⟨q,e1,e⟩:=a_.mp e;obtain⟨m,e2,e3⟩:=a_.mp e;cases e3;cases ez e2;obtain⟨b,rfl,hq⟩:=jC s h1 e1;obtain⟨c,rfl,bs,vs,hc,hp,rr⟩:=h2.mp s;exact⟨b,c,m.1,bs,vs,q,rfl,hq,rfl,hc,hp.mono s,kq _ Z H (Ex.refl s) rfl⟩
theorem IV(hw:th=hashStr X.w)(hr:bM k X.A)(ha:PD X ga l fa)(hb:PD X gb r fb)(hm:behindInMarks .In r=false:=by rfl):PB X (.Compare l [.In] [r] pos) (fB (aq (IU th false) fa fb)):=by
 subst hw;exact ja (J8 (jl hr) false) N7 ha hb hm
end
section
variable {X:Cx}{rg:Gr}{l r:Yf}{fa fb:Fe}{ga gb:Gr}{pos p:Pos}{k:Nat}
theorem yL(hw:th=hashStr X.w):PD X .nm (.Dict [] [] pos) (fC (.mp th [] [])):=λpins s σ H Q I hT=>by
 subst hw;obtain⟨env,B,Z,d,R,e,k⟩:=hT;cases e;have hf:=I.hok.fresh (m_ s.sz);have hd:bP (hashStr X.w) s.sz [] [] [] (s.heap.push {cls:=.type "dict",data:=.dict #[]}):=⟨_,#[],0,[],n_ _ rfl,⟨rfl,rfl,rfl⟩,rfl,.nil,rfl,VR,by have:=I.big;simpa using (XF this),by simp,rfl,rfl⟩;exact wpAny_Dict_empty ⟨.ref s.sz,_,I.laid (o:=.ext (bP (hashStr X.w) s.sz [] [] [])) (λ_ _ q=>e_ _ q) (m_ _) ⟨hd,⟨_,n_ _ rfl⟩,iz _ _ _ _ _⟩,rfl,
  k _ Z _ (Ex.newL R.zh hf) ⟨s.sz,_,[],[],rfl,rfl,hf,⟨[],[],ay,λi p b h=>by simp at h,rfl⟩,R.zh.free hf⟩⟩
def setM(i:Nat)(f:Fe):Fs:=λenv=>(f env).bind λd=>match d with | .mp th ks ds=>some (.nx (env.set i (.O (.M th ks ds)))) | _=>none
theorem BV(h:Ml X.K rg (setM i f) E σ H):DZ (T X.K .nm f) (rR i) E σ H:=by
 refine cC λ_ kq=>?_;obtain⟨env,B,Z,o,R,e,k⟩:=h;obtain⟨d,e1,e2⟩:=a_.mp e;cases d<;>cases e2;rename_i th ks ds;refine kq (⟨env,B,Z,_,R,e1,λv Z' H' x g=>?_⟩)
 all_goals clear kq
 obtain⟨a,FK,ju,ds',rfl,e3,h1,⟨bs,vs,h2,hp,rr⟩,h3⟩:=g;cases e3;refine k _ Z' H' (x.part R.bh) ((R.ext x).setO i (R.bh.free h1) h3 h2 (show de X.K Z' a (.M th ks ds) _ from⟨bs,vs,rfl,hp,rr⟩) λj es hj hje Ls=>?_);obtain⟨y,e4,b,us,e5,e6,_⟩:=R.sl j _ hje;rw[Ls]at e4;cases e4;cases e5;rw[h1]at e6;cases e6
theorem pR(i:Nat)(he:PD X .nm e fe)(hN:X.N.Nodup)(hi:X.N[i]?=some x:=by rfl)(hx:Loc X.env.scope x:=by first | exact Or.inl rfl | exact Or.inr rfl)(hs:swapsWith e (some (.Name x pos')) pos.line X.env=pure false:=by rfl)
  (hf:X.fn x=true\/X.env.scope.names.lookup x=some .local:=by first | exact .inl rfl | exact .inr rfl | assumption):SD X rg (.Assign [.Name x pos'] e pos) (setM i fe):=PS.imp (sg hN hi hx he hs hf) λE σ H h=>BV h
def BN(i:Nat):Fs:=λenv=>match env[i]? with
 | some (.O (.M th ks ds))=>some (.rt (.mp th ks ds))
 | _=>none
theorem yM(i:Nat)(hN:X.N[i]?=some x:=by rfl)(hv:uL X.env.scope x:=by first | exact Or.inl rfl | exact Or.inr (Or.inl rfl) | exact Or.inr (Or.inr rfl))(hd:(x==("__debug__":Str))=false:=by decide)
  (lV:(x==("__classdict__":Str))=false:=by decide):SD X .nm (.Return (some (.Name x p)) pos) (BN i):=PS.imp (tj (du hN hv hd lV)) λE σ H aG=>by
 obtain⟨env,B,Z,o,R,e,k⟩:=aG;unfold BN at e
 split at e
 .rename_i th ks ds hi;cases e;obtain⟨y,e1,a,o,e2,e3,e4,r⟩:=R.sl i _ hi;obtain⟨bs,vs,rfl,hp,rr⟩:=r;subst e2;exact⟨_,e1,k _ Z H ⟨R.bh,aF.refl _,R.zh,λ_ _ h=>h,λ_ _ _ h=>h⟩ ⟨a,th,ks,ds,rfl,rfl,R.ob i _ a hi e1,⟨bs,vs,e3,hp,rr⟩,e4⟩⟩
 .cases e
def NK(K:Fg)(th:Str->Int)(td ty tv:TE):TS:=λD σ H=>tv σ H λv H1=>td σ H1 λx H2=>ty σ H2 λy H3=>∃(a b:Ye)(ks:Yh)(bs:X0)(vs:Yn)(q:Yi),x=.ref a/\y=.ref b/\H3 a=some (.ext (bP th a ks bs vs))/\et K H3 ks bs/\cM K H3 b (q.map kV)/\ks.length<16000000/\
 (bs.length=ks.length->D.nx σ (upd H3 a (.ext (bP th a (iR ks q) (FG ks bs q b) (m6 ks vs q v)))))
theorem map_set{pins σ H s}(hu:A.units+1<cLine)(I:Inv X pins σ H s)
  (hc:H a=some (.ext (bP (hashStr X.w) a ks bs vs))) (hp:et X.K H ks bs) (hq:cM X.K H b (q.map kV)) (hl:ks.length<16000000) (rv:RelV v u)
  (h:∀s',bs.length=ks.length->Inv X pins σ (upd H a (.ext (bP (hashStr X.w) a (iR ks q) (FG ks bs q b) (m6 ks vs q v)))) s'->Q () s'):wpAny (model X.prog X.w) A (setItem (.ref a) (.ref b) u) Q E s:=by
 obtain⟨us,hv,h1,h2,dd,wX,hz⟩:=ip I hc hp;refine wpAny_setItem_heap (hsz:=by rw[lH h1 h2,Um];lia) (UU hu) (gm I hq) dd λh' LH hs'=>?_;rw[oZ q b u h1 h2]at LH;have hnew:=zR LH (ax.put rv hv) (zE h1 q b) (sF h2 q u) wX (by have:=sq ks q;lia);have he:∃u,h'.get? a=some u:=by obtain⟨o,_,_,_,e,_⟩:=hnew;exact⟨o,e⟩
 exact h _ h1 (I.write (by rw[hc];exact True.intro) (.inl rfl) (λb u hb z=>(hs'.2 b hb).trans z) he ⟨hnew,he,iz _ _ _ _ _⟩)
theorem Gx(hu:X.A.units+1<cLine)(ho:PE X o td)(hi:PE X i ty)(hv:PE X value tv)(hs:swapsWith value (some (.Subscript o i pos')) pos.line X.env=pure false) :
  PS X (.Assign [.Subscript o i pos'] value pos) (NK X.K (hashStr X.w) td ty tv):=by
 intro pins s σ H D I h;refine wpAny_Assign_Subscript (bF (hv pins s σ H _ I h) λr s1 ⟨v,H1,I1,rv,q1⟩=>bF (ho pins s1 σ H1 _ I1 q1) λu s2 ⟨x,H2,I2,rx,q2⟩=>bF (hi pins s2 σ H2 _ I2 q2) λiv s3 aG=>?_) hs;obtain⟨y,H3,I3,ry,a,b,ks,bs,vs,q,ex,ey,hc,hp,hq,hl,q3⟩:=aG;subst ex ey;cases(show u=Value.ref a from rx);cases(show iv=Value.ref b from ry);exact map_set hu I3 hc hp hq hl rv λs4 z I4=>⟨σ,_,I4,q3 z⟩
open Classical in
noncomputable def xM(th:Str->Int)(i:Nat)(fv fk:Fe):Fs:=λenv=>(fv env).bind λd=>(fk env).bind λkd=>(fj kd).bind λq=>match env[i]? with
 | some (.O (.M FK ks ds))=>if FK=th/\ks.length<16000000 then some (.nx (env.set i (.O (.M th (iR ks q) (m6 ks ds q d)))))else none
 | _=>none
open Classical in
theorem xF(i:Nat)(hw:th=hashStr X.w)(hr:bM k X.A)(hv:PD X .cl value fv)(hk:PD X .cl key fk)(hN:X.N[i]?=some x:=by rfl)(LC:uL X.env.scope x:=by first | exact Or.inl rfl | exact Or.inr (Or.inl rfl) | exact Or.inr (Or.inr rfl))
  (hd:(x==("__debug__":Str))=false:=by decide) (lV:(x==("__classdict__":Str))=false:=by decide)
  (hs:swapsWith value (some (.Subscript (.Name x px) key p2)) pos.line X.env=pure false:=by rfl) :
  SD X rg (.Assign [.Subscript (.Name x px) key p2] value pos) (xM th i fv fk):=by
 subst hw;refine PS.imp (Gx (jl hr) (du hN LC hd lV) hk hv hs) λE σ H aG=>?_;obtain⟨env,B,Z,o,R,e,kq⟩:=aG;obtain⟨d,e1,e⟩:=a_.mp e;obtain⟨kd,e2,e⟩:=a_.mp e;obtain⟨q,e7,e⟩:=a_.mp e;refine⟨env,B,Z,d,R,e1,λv Z1 H1 x1 g1=>?_⟩
 split at e
 .rename_i FK ks ds hi;obtain⟨⟨rfl,hlen⟩,rfl⟩:=nz e;have R1:=R.ext x1;obtain⟨y,e3,c,o,e4,e5,e6,bs,vs,rfl,hp,rr⟩:=R1.sl i _ hi;subst e4;refine⟨_,e3,env,B,Z1,kd,R1,e2,λkv Z2 H2 x2 g2=>?_⟩;have R2:=R1.ext x2;obtain⟨b,rfl,hq⟩:=jC x2.zh (show Gd X.K Z2 H1 H2 .cl kd kv from g2) e7;have Rn:cM X.K Z2 b (q.map kV):=by
   cases kd<;>try cases e7
   obtain⟨b',SR,e8,Cu,OK⟩:=(show Rep X.K Z2 (.tup _) _ from g2);cases e8;rw[jj OK e7]at Cu;exact Cu
  refine⟨c,b,ks,bs,vs,q,rfl,rfl,x2.h _ _ e5,(hp.mono x2.z).mono x2.zh,hq,hlen,λhl=>?_⟩;obtain⟨R3,x3⟩:=R2.wr hi e3 (show de X.K _ c (.M _ (iR ks q) (m6 ks ds q d)) _ from⟨_,_,rfl,et.put (hp.mono x2.z) hl Rn,ar.put (Rep.mono x2.z d g1) (ar.mono x2.z ds rr)⟩);exact kq σ _ _ (((x1.trans x2).part R.bh).transB x3) R3
 .cases e
end
section
variable {X:Cx}{rg:Gr}{l r:Yf}{fa fb:Fe}{ga gb:Gr}{pos p:Pos}{k:Nat}
def Sn(K:Fg)(th:Str->Int)(H:Hp)(a:Ye):Prop:=∃ks bs vs,H a=some (.ext (bP th a ks bs vs))/\et K H ks bs
theorem Dd{pins σ H s}(I:Inv X pins σ H s)(d:Sn X.K (hashStr X.w) H a):s.TypeIs (.ref a) "dict"/\(∀b,Value.ref a=.ref b->∃ob,s.heap.get? b=some ob/\ob.dict=none):=by
 obtain⟨ks,bs,vs,hc,hp⟩:=d;obtain⟨us,hv,h1,h2,dd,wX,hz⟩:=ip I hc hp;refine⟨dd.typeIs,λb q=>?_⟩;cases q;obtain⟨ob,_,_,e1,e2,_⟩:=dd;exact⟨ob,e1,e2.2.1⟩
def JO(K:Fg)(th:Str->Int)(td ty tx:TE):TE:=λσ H Q=>td σ H λx H1=>∃a,x=.ref a/\Sn K th H1 a/\ty σ H1 λy H2=>tx σ H2 λz H3=>∃(b:Ye)(ks:Yh)(bs:X0)(vs:Yn)(q:Yi),H3 a=some (.ext (bP th a ks bs vs))/\et K H3 ks bs/\y=.ref b/\cM K H3 b (q.map kV)/\Q ((aI ks vs q).getD z) H3
theorem Eb(hu:X.A.units+1<cLine)(ho:PE X o td)(he:PE X e ty)(hf:PE X f tx)(m:M2 X o "get" apos e f bU):PE X (.Call (.Attribute o "get" apos) [e,f] [] bU) (JO X.K (hashStr X.w) td ty tx):=by
 intro pins s σ H Q I h;refine wpAny_Call_method m.base m.few m.line PySem.F.plainAttrs_dict PySem.F.slot_dict_get PySem.F.type_dict_get (bF (ho pins s σ H _ I h) λu s1 aG=>?_);obtain⟨x,H1,I1,rx,a,ex,d,q1⟩:=aG;subst ex;obtain rfl:u=Value.ref a:=rx;obtain⟨t1,t2⟩:=Dd I1 d;refine⟨t1,t2,?_⟩;rw[m.trees];refine WC rfl (Calls.evalArgs_plain (Xf (bF (he pins s1 σ H1 _ I1 q1) λiv s2 ⟨y,H2,I2,ry,q2⟩=>Xf (bF (hf pins s2 σ H2 _ I2 q2) λfv s3 ⟨z,H3,I3,rz,b,ks,bs,vs,q,hc,hp,ey,hq,q3⟩=>Calls.spliced_nil ?_))));subst ey;obtain rfl:iv=Value.ref b:=ry;obtain⟨us,hv,h1,h2,dd,wX,hz⟩:=ip I3 hc hp;refine call_meetsIn PySem.F.slot_dict_get dd.typeIs PySem.F.entry_dict_get (PySem.F.args_dict_get_3 _ _ _) (meetsH_dict_get_default (tupleKind (aH X.prog X.w)) a b wX fv) ⟨UU hu,q,_,gm I3 hq,dd,⟨_,H3,I3.tok _,?_,q3⟩⟩;rw[oC q h1 h2];cases e:aI ks vs q with
 | none=>rw[ax.look0 hv e];exact rz
 | some v=>
  obtain⟨w',e1,e2⟩:=ax.look hv e;rw[e1];exact e2
noncomputable def Au(th:Str->Int)(fa fk fx:Fe):Fe:=λenv=>(fa env).bind λd=>(fk env).bind λkd=>(fx env).bind λx=>(rh th d).bind λm=>(fj kd).bind λq=>some ((aI m.1 m.2 q).getD x)
theorem F2(hw:th=hashStr X.w)(hr:bM k X.A)(ha:PD X ga o fa)(hk:PD X gb e fk)(hx:PD X .cl f fx)
  (h1:attributeBase o "get" X.env (eval o X.env)=eval o X.env:=by rfl) (h2:((backTo bU (starEach [e,f] X.env)).all (λx=>!x.1)&&(backToKw bU (keywordEach [] X.env)).all (λx=>x.1.isSome)
   && decide (([e,f]:X1).length+([]:List Keyword).length+(if([]:List Keyword).isEmpty then 0 else 1)<30))=true:=by rfl) (h3:(apos.endLine==bU.line)=true:=by rfl)
  (h4:backTo bU (starEach [e,f] X.env)=[(false,eval e X.env),(false,eval f X.env)]:=by rfl):PD X .cl (.Call (.Attribute o "get" apos) [e,f] [] bU) (Au th fa fk fx):=by
 subst hw;refine PE.imp (Eb (jl hr) ha hk hx ⟨h1,h2,h3,h4⟩) λσ H Q aG=>?_;obtain⟨env,B,Z,d,R,e,kq⟩:=aG;obtain⟨dm,e1,e⟩:=a_.mp e;obtain⟨kd,e2,e⟩:=a_.mp e;obtain⟨xd,e3,e⟩:=a_.mp e;obtain⟨m,e4,e⟩:=a_.mp e;obtain⟨q,e5,e⟩:=a_.mp e;cases e;cases ez e4;refine⟨env,B,Z,_,R,e1,λv Z1 H1 x1 g1=>?_⟩;obtain⟨a,rfl,bs,vs,hc,hp,rr⟩:=g1.mp x1.zh;refine⟨a,rfl,⟨m.1,bs,vs,hc,hp.mono x1.zh⟩,env,B,Z1,kd,R.ext x1,e2,λy Z2 H2 x2 g2=>⟨env,B,Z2,xd,(R.ext x1).ext x2,e3,λz Z3 H3 x3 g3=>?_⟩⟩;obtain⟨b,rfl,hq⟩:=jC x3.zh (Gd.later (H3:=H3) x3 g2) e5;refine⟨b,m.1,bs,vs,q,x3.h _ _ (x2.h _ _ hc),((hp.mono x2.z).mono x3.z).mono x3.zh,rfl,hq,?_⟩;have x0:=(x1.trans x2).trans x3;cases e6:aI m.1 m.2 q with
 | none=>
  have e7:aI m.1 vs q=none:=by
   cases e8:aI m.1 vs q with
   | none=>rfl
   | some v=>
    exfalso;have hm:q∈m.1:=by
     by_cases h:q∈m.1
     .exact h
     .rw[gN h]at e8;cases e8
    have hl:m.2.length=vs.length:=rr.len;have:∀{ks:Yh}{ds:Yl}{vs:Yn},ds.length=vs.length->aI ks ds q=none->aI ks vs q=none:=by
     intro ks
     induction ks with
     | nil=>intro ds vs _ _;cases vs<;>rfl
     | cons k0 ks ih=>
      intro ds vs hl h;cases ds with
      | nil=>cases vs with
       | nil=>rfl
       | cons _ _=>simp at hl
      | cons d0 ds=>cases vs with
       | nil=>simp at hl
       | cons v0 vs=>
        unfold aI at h ⊢
        by_cases z:k0=q
        .rw[j_ z]at h;cases h
        .rw[h_ z]at h ⊢;exact ih (by simpa using hl) h
    rw[this hl e6]at e8;cases e8
  rw[e6]at kq;rw[e7];exact kq z Z3 H3 x0 g3
 | some d=>
  obtain⟨v,e7,e8⟩:=rr.look e6;rw[e6]at kq;rw[e7];exact kq v Z3 H3 x0 (Rep.mono (x2.z.trans x3.z) d e8)
end
def era(Z:Hp)(a:Ye):Hp:=λb=>if b=a then none else Z b
theorem ou:era Z a a=none:=j_ rfl
theorem ir(h:b≠a):era Z a b=Z b:=h_ h
theorem GZ{K:Fg}{Z:Hp}{a b:Ye}{φ:Ya->Prop}{vs:Yn}(ha:Z a=some (.ext φ))(h:cM K Z b vs):cM K (era Z a) b vs:=by
 have ne:∀{o:HO},Z b=some o->(∀ψ,o≠.ext ψ)->b≠a:=λ{o} e n z=>by subst z;rw[ha]at e;cases e;exact n _ rfl
 rcases h with (h | ⟨o,h⟩) | h
 .exact .inl (.inl (by rw[ir (ne h (λ_ z=>by cases z))];exact h))
 .exact .inl (.inr ⟨o,by rw[ir (ne h (λ_ z=>by cases z))];exact h⟩)
 .exact .inr h
theorem HD{K:Fg}{Z:Hp}{a b:Ye}{φ:Ya->Prop}{vs:Yn}(ha:Z a=some (.ext φ))(h:cJ K Z b vs):cJ K (era Z a) b vs:=by
 have ne:∀{o:HO},Z b=some o->(∀ψ,o≠.ext ψ)->b≠a:=λ{o} e n z=>by subst z;rw[ha]at e;cases e;exact n _ rfl
 rcases h with (h | ⟨o,h⟩) | h
 .exact .inl (.inl (by rw[ir (ne h (λ_ z=>by cases z))];exact h))
 .exact .inl (.inr ⟨o,by rw[ir (ne h (λ_ z=>by cases z))];exact h⟩)
 .exact .inr h
mutual
theorem Hx{K:Fg}{Z:Hp}{a:Ye}{φ:Ya->Prop}(ha:Z a=some (.ext φ)):∀(d:D){v:V},pl d=true->Rep K Z d v->Rep K (era Z a) d v
 | .non,_,_,h=>h
 | .bl _,_,_,h=>h
 | .int _,_,_,h=>h
 | .str _,_,_,h=>h
 | .tup ds,_,hp,⟨b,vs,e,q,r⟩=>⟨b,vs,e,GZ ha q,lG ha ds (by unfold pl at hp;exact hp) r⟩
 | .lst ds,_,hp,⟨b,vs,e,q,r⟩=>⟨b,vs,e,HD ha q,lG ha ds (by unfold pl at hp;exact hp) r⟩
 | .dct _,_,hp,_=>by unfold pl at hp;cases hp
 | .st _,_,hp,_=>by unfold pl at hp;cases hp
 | .ln _,_,hp,_=>by unfold pl at hp;cases hp
 | .mp _ _ _,_,hp,_=>by unfold pl at hp;cases hp
theorem lG{K:Fg}{Z:Hp}{a:Ye}{φ:Ya->Prop}(ha:Z a=some (.ext φ)):∀(ds:Yl){vs:Yn},iy ds=true->ar K Z ds vs->ar K (era Z a) ds vs
 | [],_,_,h=>h
 | d::ds,_,hp,⟨v,r,e,h,q⟩=>by
  unfold iy at hp;rw[C_]at hp;exact⟨v,r,e,Hx ha d hp.1 h,lG ha ds hp.2 q⟩
end
theorem Rl.frzX{K:Fg}{B Z H:Hp}{env:En}{σ:L2.St}{w:uE}(R:Rl K B Z H env σ){i:Nat}{a:Ye}{o:HO}(hi:env[i]?=some (.O w))(hs:σ[i]?=some (some (.ref a)))(ho:H a=some o)(hz:Z a=none)(r:de K Z a w o):Rl K B (upd Z a o) H (env.set i (.F w.d)) σ:=by
 have hb:=R.ob i w a hi hs;have hl:i<env.length:=(k_.mp hi).1;have s1:aF Z (upd Z a o):=df hz;have s2:aF (upd Z a o) H:=mh R.zh ho;have Ij:∀{j:Nat}{es:uE},(env.set i (.F w.d))[j]?=some (.O es)->i≠j:=λ{j es} h z=>by
  subst z;rw[t_ hl]at h;cases h
 refine⟨R.bh,s2,by simp[R.len],λj s h=>?_,λj fs b h h2=>?_,λj k fs gs b hne h1 h2 h3 h4=>?_⟩
 .by_cases hj:i=j
  .subst hj;rw[t_ hl]at h;cases h;exact⟨_,hs,_,rfl,(r.mono s1).rep ay⟩
  .rw[i_ hj]at h;obtain⟨y,e4,q⟩:=R.sl j s h;refine⟨y,e4,?_⟩;cases s with
   | un=>trivial
   | F d=>obtain⟨v,e5,q⟩:=q;exact⟨v,e5,Rep.mono s1 d q⟩
   | O fs=>
    obtain⟨b,CH,e5,e6,e7,q⟩:=q;refine⟨b,CH,e5,e6,?_,q.mono s1⟩;rw[aB (λz=>?_)]
    .exact e7
    .subst z;subst e5;exact R.ap i j w fs b hj hi h hs e4
 .have n:=Ij h;rw[i_ n]at h;exact R.ob j fs b h h2
 .have n1:=Ij h1;have n2:=Ij h2;rw[i_ n1]at h1;rw[i_ n2]at h2;exact R.ap j k fs gs b hne h1 h2 h3 h4
theorem Ex.unfrz(hz:Z a=none)(ha:H a=some o)(x:Ex (upd Z a o) H Z' H'):Ex Z H (era Z' a) H':=by
 refine⟨x.h,λb u e=>?_,λb u e=>?_,λb hb e=>?_,λb ob u e=>?_⟩
 .have hne:b≠a:=λz=>by subst z;rw[hz]at e;cases e
  rw[ir hne];exact x.z b u (by rw[aB hne];exact e)
 .by_cases hne:b=a
  .subst hne;rw[ou]at e;cases e
  .rw[ir hne]at e;exact x.zh b u e
 .by_cases hne:b=a
  .subst hne;exact ou
  .rw[ir hne];exact x.fr b hb (by rw[aB hne];exact e)
 .have hne:b≠a:=λz=>by subst z;rw[ou]at e;cases e
  rw[ir hne]at e;have q:=x.nf b ob u e;rw[aB hne]at q;exact q
section
variable {X:Cx}{e:Yf}{f:Fe}
def GR(i:Nat)(f:Fe):Fe:=λenv=>match env[i]? with
 | some (.O (.M th ks ds))=>(f (env.set i (.F (.mp th ks ds)))).bind λd=>if pl d=true then some d else none
 | _=>none
end
section
variable {prog:X9}{w:Yb}{A:X_}{E:XO}{s:X8}{it d:Ye}{i n ep:Nat}{es:Array DictEntry}{od:Obj}{y z:X7}
theorem CM(hi:IsItemIter s.heap it d i n ep y z)(h1:s.heap.get? d=some od)(h2:od.data=.dict es ep)(hn:es.size=n)(hx:es[i]?=some en)
  (k:∀g,IsItemIterOut g it d (i+1) n ep en.key en.val s.sz->g.get? s.sz=some {cls:=.type "tuple",data:=.seq #[en.key,en.val]}->g.objs.size=s.sz+1->
   (∀b o,b≠it->s.heap.get? b=some o->g.get? b=some o)->Q (some (.ref s.sz)) {s with heap:=g}):wpAny (model prog w) A (pyNext (.ref it)) Q E s:=by
 subst hn;obtain⟨h0,gs,dr,tk,os⟩:=s;have ty:∀{g:Ya}{j:Nat}{u v:X7},IsItemIter g it d j es.size ep u v->Shared.TypeIs ⟨g,gs,dr,tk,os⟩ (.ref it) "dict_itemiterator":=λq=>⟨_,q,rfl⟩;have own:Builtin.Dict_items.ownsTuple "dict_itemiterator"=true:=by decide
 have lt:i<es.size:=(Vx.mp hx).1;unfold pyNext;refine b_ (Wo (Uv (ty hi) UN (Ug UN (ty hi) F.entry_dict_itemiterator_next (b_ (d_ (b_ (b_ ?_)))) (WK _))))
 first | refine b_ (Vf (ty hi) (d_ (b_ (Wf hi rfl ?_)))) | refine b_ (VE (ty hi) (d_ (b_ (Wf hi rfl ?_))))
 simp only[own,Vi];show wpAny _ _ (if(Value.ref d==Value.none)=true then _ else _) _ _ _;rw[h_ (show ¬((Value.ref d==Value.none)=true)from by intro q;cases q)];refine b_ (d_ (b_ (UM h1 h2 ?_)));rw[h_ (by simp)];refine b_ (d_ (b_ (Vo h1 h2 ?_)));rw[h_ (by simp)];refine d_ ?_;simp only[show ¬((i:Int)<0)from by lia,Uu,UQ,hx];refine b_ ?_
 first | refine b_ (Vf (ty hi) (d_ (b_ (V1 (ty hi) ?_)))) | refine b_ (VE (ty hi) (d_ (b_ (V1 (ty hi) ?_))))
 show wpAny _ _ (setField (.ref it) 3 (rawInt ((i:Int)+1)) >>= _) _ _ ⟨h0,gs,dr,tk,os⟩;refine b_ (UE hi (by simp) λg1 e1 s1=>?_);have j1:IsItemIter g1 it d (i+1) es.size ep y z:=by
  have q:((i+1:Nat):Int)=(i:Int)+1:=by lia
  unfold IsItemIter;rw[q];simpa [rawInt]using e1
 have z1:g1.objs.size=h0.objs.size:=s1.1;have k1:∀b o,b≠it->h0.get? b=some o->g1.get? b=some o:=λb o hb q=>s1.extBut b o hb q;clear e1 s1;refine b_ (F_ (b_ (V1 (ty j1) (b_ (V1 (ty j1) ?_)))));show wpAny _ _ (Builtin.Dict_items.pairFromOwner (.ref it) 6 en.key en.val) _ _ ⟨g1,gs,dr,tk,os⟩;unfold Builtin.Dict_items.pairFromOwner;refine b_ (wpAny_newTuple ?_);have il:it<h0.objs.size:=q_ hi;have ne:h0.objs.size≠it:=XF il;have j2:IsItemIter (g1.push {cls:=.type "tuple",data:=.seq #[en.key,en.val]}) it d (i+1) es.size ep y z:=e_ _ j1;have t2:=n_ g1 (o:={cls:=.type "tuple",data:=.seq #[en.key,en.val]}) rfl;have z2:(g1.push {cls:=.type "tuple",data:=.seq #[en.key,en.val]}).objs.size=h0.objs.size+1:=by rw[U0,z1]
 have k2:∀b o,b≠it->h0.get? b=some o->(g1.push {cls:=.type "tuple",data:=.seq #[en.key,en.val]}).get? b=some o:=λb o hb q=>e_ _ (k1 b o hb q);rw[z1]at t2;show wpAny _ _ (Builtin.Dict_items.ownedTupleIsFree (.ref it) >>= _) _ _ ⟨g1.push {cls:=.type "tuple",data:=.seq #[en.key,en.val]},gs,dr,tk,os⟩;rw[z1];generalize g1.push {cls:=.type "tuple",data:=.seq #[en.key,en.val]}=g2 at j2 t2 z2 k2 ⊢;unfold Builtin.Dict_items.ownedTupleIsFree;refine b_ (b_ (U6 j2 rfl rfl (d_ ?_)));simp only[Vi];refine b_ (U6 j2 rfl rfl (b_ (U6 j2 rfl rfl (b_ (UE j2 (by simp) λg3 e3 s3=>?_)))));have j3:IsItemIter g3 it d (i+1) es.size ep en.key z:=e3;refine b_ (UE j3 (by simp) λg4 e4 s4=>?_);have j4:IsItemIter g4 it d (i+1) es.size ep en.key en.val:=e4;refine b_ (UE j4 (by simp) λg5 e5 s5=>?_);have j5:IsItemIterOut g5 it d (i+1) es.size ep en.key en.val h0.objs.size:=e5;refine b_ (UE j5 (by simp) λg6 e6 s6=>?_);have up:∀b o,b≠it->g2.get? b=some o->g6.get? b=some o:=λb o hb q=>s6.extBut b o hb (s5.extBut b o hb (s4.extBut b o hb (s3.extBut b o hb q)));have zz:g6.objs.size=h0.objs.size+1:=by rw[s6.1,s5.1,s4.1,s3.1];exact z2
 exact b_ (Wv (d_ (d_ ⟨_,rfl,d_ (k g6 e6 (up _ _ ne t2) zz λb o hb q=>up b o hb (k2 b o hb q))⟩)))
theorem Ds(hh:A.handled=none)(hi:IsItemIter s.heap it d i n ep y z)(h1:s.heap.get? d=some od)(h2:od.data=.dict es ep)(hn:es.size=n)(hx:es.size<=i)
  (k:∀g,Heap.ExtBut it s.heap g->Q none {s with heap:=g}):wpAny (model prog w) A (pyNext (.ref it)) Q E s:=by
 subst hn;have ty:s.TypeIs (.ref it) "dict_itemiterator":=⟨_,hi,rfl⟩;have own:Builtin.Dict_items.ownsTuple "dict_itemiterator"=true:=by decide
 unfold pyNext;refine b_ (Wo (Uv ty UN (Ug UN ty F.entry_dict_itemiterator_next (b_ (d_ (b_ (b_ ?_)))) (WK _))))
 first | refine b_ (Vf ty (d_ (b_ (Wf hi rfl ?_)))) | refine b_ (VE ty (d_ (b_ (Wf hi rfl ?_))))
 simp only[own,Vi];show wpAny _ _ (if(Value.ref d==Value.none)=true then _ else _) _ _ s;rw[h_ (show ¬((Value.ref d==Value.none)=true)from by intro q;cases q)];refine b_ (d_ (b_ (UM h1 h2 ?_)));rw[h_ (by simp)];refine b_ (d_ (b_ (Vo h1 h2 ?_)));rw[h_ (by simp)];refine d_ ?_;simp only[show ¬((i:Int)<0)from by lia,Uu,UQ,V2 hx];refine b_ ?_
 first | refine b_ (Vf ty (d_ ?_)) | refine b_ (VE ty (d_ ?_))
 show wpAny _ _ (setField (.ref it) 2 .none >>= _) _ _ s;refine b_ (WE hi rfl (by simp) ?_);show wpAny _ _ (newExc (.type "StopIteration") [] >>= _) _ _ _;simp only[newExc,newTuple];refine b_ (b_ (UC (b_ (We (by first | rfl | (simp only[firstArgMember];rfl)) (UC ?_ (by size_fits)))) (by size_fits)));simp only[raiseNew];refine b_ (wpAny_handled ?_);rw[show A.in1.handled=none from hh];refine b_ (d_ (wpAny_throw ?_));exact b_ (WT ⟨_,n_ _ rfl,rfl⟩ isSubtype_stop (d_ (k _ (((UH ..).extBut.push _).push _))))
theorem DV(hd:(d==sysModules)=false)(h1:s.heap.get? d=some od)(hx:od.ExactDict)
  (k:Q (.ref s.sz) {s with heap:=s.heap.push {cls:=.type "dict_items",data:=.fields #[.ref d]}}):wpAny (model prog w) A (call (.builtin "dict.items") [.ref d]) Q E s:=by
 have ty:s.TypeIs (.ref d) "dict":=⟨od,h1,hx.1⟩;refine Ug F.slot_dict_items ty F.entry_dict_items ?_ (F.args_dict_items_1 _);unfold Builtin.«dict.items» Builtin.Dict.noArgs;refine b_ (b_ (WN ty ?_));show wpAny _ _ (pure d) _ _ s;refine d_ ?_;show wpAny _ _ (Builtin.Dict.showsAll d >>= _) _ _ s;unfold Builtin.Dict.showsAll;rw[h_ (by rw[hd];exact J_)];exact b_ (d_ (b_ (UC (d_ ⟨_,rfl,k⟩))))
theorem Dc(hv:s.heap.IsItemsView v d)(h1:s.heap.get? d=some od)(h2:od.data=.dict es ep)
  (k:Q (.ref s.sz) {s with heap:=s.heap.push {cls:=.type "dict_itemiterator",data:=.fields #[.none,.bool false,.ref d,.int 0 0,.int es.size 0,.int ep 0,.none,.none]}}):wpAny (model prog w) A (pyIter (.ref v)) Q E s:=by
 obtain⟨ov,e1,_,e2⟩:=id hv;refine Xv hv.typeIs F.slot_dict_items_iter (Ug F.slot_dict_items_iter hv.typeIs F.entry_dict_items_iter ?_ (F.args_dict_items_iter_1 _));unfold Builtin.«dict_items.__iter__» Builtin.Dict_items.dictOf Builtin.Dict_items.newIterator;refine b_ (d_ (b_ (b_ (U6 e1 e2 rfl (d_ (b_ (b_ (UM h1 h2 (b_ (Vo h1 h2 ?_))))))))));have own:Builtin.Dict_items.ownsTuple "dict_itemiterator"=true:=by decide
 simp only[own,Vi];refine UC (d_ ⟨_,rfl,"dict_itemiterator",_,⟨_,n_ _ rfl,rfl⟩,UN.lookup,?_⟩)
  (by simp only[sizeOk,Builtin.Dict_items.ownedTupleFields,r_,x_,z_,Ui,Um];lia)
 simpa [rawInt,Builtin.Dict_items.ownedTupleFields]using k
end
def oG(th:Str->Int)(a:Ye)(ep:Nat)(ks:Yh)(bs:X0)(vs:Yn)(h:Ya):Prop:=
 ∃o es us,h.get? a=some o/\o.ExactDict/\o.data=.dict es ep/\ax vs us/\es.toList=(dP ks bs us).map (Cr th)/\bs.length=ks.length/\us.length=ks.length
theorem ye(th:Str->Int)(a:Ye)(ep:Nat)(ks:Yh)(bs:X0)(vs:Yn):∀h1 h2:Ya,oG th a ep ks bs vs h1->(∀o,h1.get? a=some o->h2.get? a=some o)->oG th a ep ks bs vs h2:=λh1 h2 ⟨o,es,us,e,r⟩ k=>⟨o,es,us,k o e,r⟩
def Itm(o0:HO)(a:Ye)(bs:X0)(vs:Yn):It:=
 ⟨λi H=>H a=some o0/\i<bs.length,λi H x H'=>∃q,H q=none/\x=.ref q/\∀b v,bs[i]?=some b->vs[i]?=some v->H'=upd H q (.tup [.ref b,v]),λi H=>H a=some o0/\bs.length<=i⟩
theorem GA{ks:Yh}{bs:X0}{us:XX}(h1:bs.length=ks.length)(h2:us.length=ks.length){i:Nat}{b:Ye}{u:X7}(hb:bs[i]?=some b)(hu:us[i]?=some u):∃k,ks[i]?=some k/\(dP ks bs us)[i]?=some (k,b,u):=by
 have hi:i<ks.length:=by rw[<- h1];exact(k_.mp hb).1
 refine⟨ks[i],by simp[hi],?_⟩;exact UX.mpr ⟨by simp[hi],UX.mpr ⟨hb,hu⟩⟩
theorem BJ:entryFor table "dict_itemiterator.__iter__"=some Builtin.«dict_keyiterator.__iter__»:=entryFor_alias (id':="dict_keyiterator.__iter__") (by kernel_rfl) rfl (by decide +kernel) (by kernel_rfl)
theorem BS{h:Ya}{o o':Obj}{c:Ye}(q:(h.push o).get? c=some o')(hc:c≠h.objs.size):h.get? c=some o':=by
 have hl:c<h.objs.size+1:=by have:=q_ q;rwa [U0]at this
 have hlt:c<h.objs.size:=Nat.lt_of_le_of_ne (Nat.le_of_lt_succ hl) hc;unfold Heap.get? Heap.push at q;unfold Heap.get?;simpa [Array.getElem?_push_lt hlt,Ux hlt]using q
theorem yb{P:X9}{w:Yb}{K:Fg}{xs:X1}{kk:Nat}{pos:Pos}{it a:Ye}{th:Str->Int}{ep:Nat}{ks:Yh}{bs:X0}{vs:Yn} :
  Turn P w K (.Tuple xs kk pos) (Itm (.ext (oG th a ep ks bs vs)) a bs vs) [it] it (λn h=>∃y z,IsItemIter h it a n ks.length ep y z) where
 mem:=by simp
 obj:=λn h ⟨y,z,he⟩ c hc=>by
  simp only[p_,Ul,Vq]at hc;subst hc;exact⟨_,he,λv q=>by cases q⟩
 keep:=λn h h' ⟨y,z,he⟩ kk=>⟨y,z,kk it (by simp) _ he⟩
 item:=by
  intro X hP hw hK hc n pins s σ H E I hf st hg;subst hP hw;refine cC λ_ kq=>?_;obtain⟨y,z,he⟩:=st;obtain⟨ha,hn⟩:=hg;obtain⟨⟨od,es,us,e1,e2,e3,hv,e4,l1,l2⟩,_⟩:=(show bE X.prog X.w H s.heap a (.ext (oG th a ep ks bs vs))from I.hok a _ ha);have lv:=ax.length hv;have hb:bs[n]?=some bs[n]:=by simp[hn]
  have hu:us[n]?=some (us[n]'(by lia)):=by simp[show n<us.length by lia]
  have SS:vs[n]?=some (vs[n]'(by lia)):=by simp[show n<vs.length by lia]
  obtain⟨k,hk,hrow⟩:=GA l1 l2 hb hu;obtain⟨u',Fp,ru⟩:=ax.get hv SS;rw[hu]at Fp;have hsz:es.size=ks.length:=by rw[<- Uk,e4,c_,lH l1 l2]
  have hen:es[n]?=some (Cr th (k,bs[n],us[n]'(by lia))):=by rw[<- VC,e4,o_,hrow];rfl
  have hT:H s.sz=none:=I.hok.fresh (m_ _);have ne:it<s.sz:=q_ he;refine kq (CM he e1 e3 hsz hen λg b1 b2 b3 b4=>⟨_,rfl,wpAny_letOwnedTupleGo_items b1 λg2 c1 c2=>?_⟩)
  all_goals clear kq
  have I1:L2.Inv X pins σ (upd H s.sz (.tup [.ref bs[n],vs[n]'(by lia)])) {s with heap:=s.heap.push {cls:=.type "tuple",data:=.seq #[.ref bs[n],us[n]'(by lia)]},toks:=s.toks}:=
   I.laid (λc o q=>e_ _ q) (m_ _) (show bE X.prog X.w _ _ _ (.tup [.ref bs[n],vs[n]'(by lia)])from⟨by have:=Um;simp;lia,[.ref bs[n],us[n]'(by lia)],.cons rfl (.cons (by cases Fp;exact ru) .nil),IsTup.new _ _⟩)
  have fz:∀c∈[it],cf X pins (upd H s.sz (.tup [.ref bs[n],vs[n]'(by lia)])) c:=λc hc=>by
   have hc':c=it:=by simpa using hc
   exact⟨by rw[hc',aB (B_ ne)];exact(hf it (by simp)).1,(hf c hc).2⟩
  have I2:L2.Inv X pins σ (upd H s.sz (.tup [.ref bs[n],vs[n]'(by lia)])) {s with heap:=g2,toks:=s.toks}:=jz (s:={s with heap:=s.heap.push {cls:=.type "tuple",data:=.seq #[.ref bs[n],us[n]'(by lia)]},toks:=s.toks}) I1 fz λc o hc q=>by
   have SU:c≠it:=λz=>hc (by simp[z]);refine c2.extBut c o SU ?_
   by_cases hcs:c=s.sz
   .subst hcs;have e5:=n_ s.heap (o:={cls:=.type "tuple",data:=.seq #[.ref bs[n],us[n]'(by lia)]}) rfl;rw[e5]at q;cases q;exact b2
   .exact b4 c o SU (BS q hcs)
  refine⟨.ref s.sz,_,I2,rfl,⟨s.sz,hT,rfl,λb v p1 p2=>?_⟩,⟨_,_,c1⟩,λc hc=>(fz c hc).1⟩;rw[hb]at p1;cases p1;rw[SS]at p2;cases p2
  rfl
 done:=by
  intro X hP hw hK hc n pins s σ H E I hf st hg;subst hP hw;refine cC λ_ kq=>?_;obtain⟨y,z,he⟩:=st;obtain⟨ha,hn⟩:=hg;obtain⟨⟨od,es,us,e1,e2,e3,hv,e4,l1,l2⟩,_⟩:=(show bE X.prog X.w H s.heap a (.ext (oG th a ep ks bs vs))from I.hok a _ ha);have hsz:es.size=ks.length:=by rw[<- Uk,e4,c_,lH l1 l2]
  refine kq (Ds (I.ok.hd hc) he e1 e3 hsz (by lia) λg kk=>⟨rfl,?_⟩)
  all_goals clear kq
  exact jz I hf λc o hc q=>kk c o (λz=>hc (by simp[z])) q
 self:=λA n s Q E ⟨y,z,he⟩ h=>by
  have ty:s.TypeIs (.ref it) "dict_itemiterator":=⟨_,he,rfl⟩;refine Xv ty F.slot_dict_itemiterator_iter (Ug F.slot_dict_itemiterator_iter ty BJ ?_ (F.args_dict_itemiterator_iter_1 _));show wpAny _ _ (ret (.ref it)) _ _ s;exact d_ ⟨_,rfl,"dict_itemiterator",_,ty,UN.lookup,h⟩
section
variable {X:Cx}{es:X1}{kk:Nat}{tp:Pos}
def Qc(K:Fg)(th:Str->Int)(td:TE):TI:=λσ H R=>td σ H λx H1=>∃(a:Ye)(ks:Yh)(bs:X0)(vs:Yn),x=.ref a/\H1 a=some (.ext (bP th a ks bs vs))/\et K H1 ks bs/\(bs.length=ks.length->∀ep,R (Itm (.ext (oG th a ep ks bs vs)) a bs vs) (upd H1 a (.ext (oG th a ep ks bs vs))))
theorem DY{o:Yf}{td:TE}{apos bU:Pos}(ho:PE X o td)(hZ:attributeBase o "items" X.env (eval o X.env)=eval o X.env:=by rfl)(ib:(apos.endLine==bU.line)=true:=by rfl):PI X (.Tuple es kk tp) (.Call (.Attribute o "items" apos) [] [] bU) (Qc X.K (hashStr X.w) td):=by
 intro pins s σ H R I h;refine wpAny_Call_method0_late hZ ib (bF (ho pins s σ H _ I h) λu s1 aG=>?_);refine cC λ_ kq=>?_;obtain⟨x,H1,I1,rx,a,ks,bs,vs,ex,hc,hp,q1⟩:=aG;subst ex;obtain rfl:u=Value.ref a:=rx;obtain⟨t1,t2⟩:=Dd I1 ⟨ks,bs,vs,hc,hp⟩;obtain⟨o1,es1,ep,us,e1,e2,e3,hv,e4,e5,e6,e7,l1,l2⟩:=(show bE X.prog X.w H1 s1.heap a (.ext (bP (hashStr X.w) a ks bs vs))from I1.hok a _ hc).1;have hE:oG (hashStr X.w) a ep ks bs vs s1.heap:=⟨o1,es1,us,e1,e2,e3,hv,e4,l1,l2⟩;refine kq (⟨"dict","dict.items",PySem.F.plainAttrs_dict,PySem.F.slot_dict_items,PySem.F.type_dict_items,t1,t2,WC rfl (PySem.evalArgs_none (DV e6 e1 e2 ?_))⟩)
 all_goals clear kq
 have hz:es1.size=ks.length:=by rw[<- Uk,e4,c_,lH l1 l2]
 refine Dc ⟨_,n_ _ rfl,rfl,rfl⟩ (e_ _ e1) e3 ?_;have I2:Inv X pins σ (upd H1 a (.ext (oG (hashStr X.w) a ep ks bs vs))) {s1 with heap:=s1.heap,toks:=s1.toks}:=I1.write (by rw[hc];exact True.intro) (.inl rfl) (λb u _ z=>z) ⟨o1,e1⟩ ⟨hE,⟨o1,e1⟩,ye _ _ _ _ _ _⟩;have up:∀b o,s1.heap.get? b=some o->((s1.heap.push {cls:=.type "dict_items",data:=.fields #[.ref a]}).push {cls:=.type "dict_itemiterator",data:=.fields #[.none,.bool false,.ref a,.int 0 0,.int es1.size 0,.int ep 0,.none,.none]}).get? b=some o:=λb o e=>e_ _ (e_ _ e);have I3:=I2.kept (t':=s1.toks) up;have sz:(s1.heap.push {cls:=.type "dict_items",data:=.fields #[.ref a]}).objs.size=s1.sz+1:=U0 ..;refine⟨_,[(s1.heap.push {cls:=.type "dict_items",data:=.fields #[.ref a]}).objs.size],_,_,_,rfl,I3,yb,⟨.none,.none,?_⟩,λb hb=>?_,q1 l1 ep⟩
 .have:=n_ (s1.heap.push {cls:=.type "dict_items",data:=.fields #[.ref a]}) (o:={cls:=.type "dict_itemiterator",data:=.fields #[.none,.bool false,.ref a,.int 0 0,.int es1.size 0,.int ep 0,.none,.none]}) rfl;rw[hz]at this ⊢;exact this
 .have uF:b=(s1.heap.push {cls:=.type "dict_items",data:=.fields #[.ref a]}).objs.size:=by simpa using hb
  have hle:s1.sz<=b:=by rw[uF,sz];exact VW _
  exact I2.fpOk hle (I2.hok.fresh hle)
end
def kD:Key->D
 | .inl i=>.int i
 | .inr x=>.str x
def z0(k:Yi):Bool:=k.all λx=>match x with | .inl _=>true | .inr x=>PyData.strOk x
theorem nK{K:Fg}{H:Hp}:∀{k:Yi},z0 k=true->ar K H (k.map kD) (k.map kV)
 | [],_=>rfl
 | .inl i::k,h=>⟨_,_,rfl,rfl,nK (k:=k) (by unfold z0 at h ⊢;simpa using h)⟩
 | .inr x::k,h=>by
  unfold z0 at h;rw[V6,C_]at h;exact⟨_,_,rfl,⟨rfl,h.1⟩,nK (k:=k) h.2⟩
def fG:Yh->Yl->Yl
 | k::ks,d::ds=>.tup [.tup (k.map kD),d]::fG ks ds
 | _,_=>[]
theorem oM:∀{ks:Yh}{ds:Yl},ds.length=ks.length->(fG ks ds).length=ks.length
 | [],[],_=>rfl
 | [],_::_,h=>by simp at h
 | _::_,[],h=>by simp at h
 | k::ks,d::ds,h=>by simp[fG,oM (ks:=ks) (ds:=ds) (by simpa using h)]
theorem pP:∀{ks:Yh}{ds:Yl}{i:Nat}{k:Yi}{d:D},ks[i]?=some k->ds[i]?=some d->(fG ks ds)[i]?=some (.tup [.tup (k.map kD),d])
 | [],_,_,_,_,h,_=>by simp at h
 | _::_,[],_,_,_,_,h=>by simp at h
 | k::ks,d::ds,0,_,_,h1,h2=>by cases h1;cases h2;rfl
 | k::ks,d::ds,i+1,_,_,h1,h2=>by
  show(fG ks ds)[i]?=_;exact pP (by simpa using h1) (by simpa using h2)
noncomputable def Mr(th:Str->Int)(f:Fe):Fi:=λenv=>(f env).bind λd=>(rh th d).bind λm=>if(m.1.all z0&&decide (m.2.length=m.1.length))=true then some (fG m.1 m.2)else none
theorem yx{K:Fg}{Z1:Hp}{o0:HO}{a:Ye}{ks:Yh}{bs:X0}{ds:Yl}{vs:Yn}(ho:Z1 a=some o0)(hp:et K Z1 ks bs)(hl:bs.length=ks.length)(hd:ds.length=ks.length)(r:ar K Z1 ds vs)(hk:ks.all z0=true) :
  Walk K Z1 (fG ks ds) (Itm o0 a bs vs):=λZ' H' s1 s2 i=>by
 have ha:=(s1.trans s2) _ _ ho;rw[oM hd];refine⟨λhi=>⟨⟨ha,by lia⟩,λx H'' aG=>?_⟩,λhi=>⟨ha,by lia⟩⟩;obtain⟨q,hq,e,hy⟩:=aG;subst e;have hb:bs[i]?=some (bs[i]'(by lia)):=by simp[show i<bs.length by lia]
 have HZ:ks[i]?=some ks[i]:=by simp[hi]
 have Jn:ds[i]?=some (ds[i]'(by lia)):=by simp[show i<ds.length by lia]
 obtain⟨v,e1,r1⟩:=r.get Jn;have e2:=hy _ _ hb e1;subst e2;have s3:aF Z' (upd Z' q (.tup [.ref (bs[i]'(by lia)),v])):=df (s2.free hq);have ok:z0 ks[i]=true:=D_.mp hk _ (Ut hi);refine⟨_,_,Ex.new s2 hq,pP HZ Jn,q,_,rfl,cM.of ay,ar.mono s3 _ ⟨_,_,rfl,⟨_,_,rfl,dA s1 (hp i _ _ HZ hb),nK ok⟩,_,_,rfl,Rep.mono s1 _ r1,rfl⟩⟩
section
variable {X:Cx}{es:X1}{kk:Nat}{tp:Pos}
theorem z7(hw:th=hashStr X.w)(h:PD X .nm o f)(hZ:attributeBase o "items" X.env (eval o X.env)=eval o X.env:=by rfl)(ib:(apos.endLine==bU.line)=true:=by rfl) :
  ID X (.Tuple es kk tp) (.Call (.Attribute o "items" apos) [] [] bU) (Mr th f):=by
 subst hw;refine PI.imp (DY h hZ ib) λσ H R aG=>?_;obtain⟨env,B,Z,ds,Rr,e,k⟩:=aG;obtain⟨d,e1,e⟩:=a_.mp e;obtain⟨m,e2,e⟩:=a_.mp e;obtain⟨hk,rfl⟩:=nz e;rw[C_,w_]at hk;cases ez e2;refine⟨env,B,Z,_,Rr,e1,λv Z1 H1 x1 g1=>?_⟩;obtain⟨a,FK,ju,ds',rfl,e3,h1,⟨bs,vs,h2,hp,r⟩,h3⟩:=g1;cases e3;refine⟨a,m.1,bs,vs,rfl,h2,hp.mono x1.zh,λhl ep=>?_⟩;have s1:aF Z1 (upd Z1 a (.ext (oG (hashStr X.w) a ep m.1 bs vs))):=df h3;refine k _ (upd Z1 a (.ext (oG (hashStr X.w) a ep m.1 bs vs))) _ ⟨λb u q=>?_,x1.z.trans s1,λb u q=>?_,λb hb q=>?_,mV x1.nf N6⟩ (yx ay (hp.mono s1) hl hk.2 (ar.mono s1 _ r) hk.1)
 .rw[aB (λz=>by subst z;rw[h1]at q;cases q)];exact x1.h b u q
 .by_cases z:b=a
  .subst z;rw[ay]at q ⊢;exact q
  .rw[aB z]at q ⊢;exact x1.zh b u q
 .rw[aB (λz=>hb (by rw[z];exact h1))];exact x1.fr b hb q
end
def yg(m:Yh×Yl)(q:Yi)(d:D):Yh×Yl:=(iR m.1 q,m6 m.1 m.2 q d)
def foldM(m:Yh×Yl):Yl->Option (Yh×Yl)
 | []=>some m
 | .tup [k,v]::r=>(fj k).bind λq=>foldM (yg m q v) r
 | _::_=>none
theorem rB:∀{xs:Yl}{m m':Yh×Yl}{k v:D}{q:Yi},foldM m xs=some m'->fj k=some q->foldM m (xs++[.tup [k,v]])=some (yg m' q v)
 | [],m,m',k,v,q,h,hk=>by
  cases h;show(fj k).bind _=_;rw[hk];rfl
 | x::r,m,m',k,v,q,h,hk=>by
  unfold foldM at h
  split at h
  .rename_i e;cases e
  .rename_i k' v' r' e;cases e;obtain⟨q',h1,h2⟩:=a_.mp h;show(fj k').bind _=_;rw[h1];exact rB h2 hk
  .cases h
section
variable {kx vx:Yf}{gens:XW}{scope:Yd}{pos:Pos}{d:Nat}{tg iter:Yf}{ifs:X1}{it:X7}{a:Ye}{env:Env}
theorem yh(h:gens[d]?=some ⟨tg,iter,ifs,0⟩)(h2:gens[d+1]?=none):compTurn (.DictComp kx vx gens scope pos) d it (.ref a) env=AG (.DictComp kx vx gens scope pos) tg iter ifs d it (.ref a) env (do let kv <- eval kx env;let vv <- holding [kv] (eval vx env);standAt {kx.pos with endLine:=vx.pos.endLine,endCol:=vx.pos.endCol};holding [kv,vv] (dictSet a kv vv)):=by
 unfold compTurn;simp only[h,h2]
 rfl
theorem xY(h:gens[d]?=some ⟨tg,iter,ifs,0⟩)(h2:gens[d+1]?=some ⟨zc,cx,nE,0⟩):compTurn (.DictComp kx vx gens scope pos) d it (.ref a) env=z9 (.DictComp kx vx gens scope pos) tg iter cx ifs d it (.ref a) env:=by
 unfold compTurn;simp only[h,h2]
 rfl
theorem PV{P:X9}{w:Yb}:Fw P w (.DictComp kx vx gens scope pos):=⟨λh=>h,λh=>h⟩
end
abbrev qM(K:Fg)(w:Yb)(a:Ye):Qa:=λ_ Z H pre=>∃m bs vs,foldM ([],[]) pre=some m/\m.1.length<=pre.length/\H a=some (.ext (bP (hashStr w) a m.1 bs vs))/\et K Z m.1 bs/\ar K Z m.2 vs
theorem Iy{K:Fg}{w:Yb}{a:Ye}:Ik a (qM K w a):=⟨λ⟨_,_,_,_,_,h,_⟩ z=>(by rw[z]at h;cases h),λx ⟨m,bs,vs,h1,h2,h3,h4,h5⟩=>⟨m,bs,vs,h1,h2,x.h _ _ h3,h4.mono x.z,ar.mono x.z _ h5⟩⟩
section
variable {X:Cx}{a:Ye}{kx vx:Yf}{fk fv:Fe}
def fZ(fk fv:Fe):Yj:=λenv=>(fk env).bind λk=>(fv env).bind λv=>(fj k).bind λ_=>some [.tup [k,v]]
abbrev GI(X:Cx)(a:Ye)(kx vx:Yf):BdT:=P8 X (do let kv <- eval kx X.env;let vv <- holding [kv] (eval vx X.env);standAt {kx.pos with endLine:=vx.pos.endLine,endCol:=vx.pos.endCol};holding [kv,vv] (dictSet a kv vv))
theorem Bx(hu:X.A.units+1<cLine)(hx:∀e s,¬X.xe e s)(h:PD X .cl kx fk)(h':PD X .cl vx fv):Bu X (qM X.K X.w a) a (GI X a kx vx) (fZ fk fv):=by
 intro pins s σ H B Z env pre xs P E A e hl hP;refine cC λ_ kq=>?_;obtain⟨k,e1,e⟩:=a_.mp e;obtain⟨v,e2,e⟩:=a_.mp e;obtain⟨q,e3,e⟩:=a_.mp e;cases e;obtain⟨m,bs,vs,hm,QO,hv,hp,rr⟩:=A.ac;refine kq (b_ (Ur (h pins s σ H _ A.I ⟨env,B,Z,k,A.R,e1,λv Z1 H1 x1 g1=>(show ∃Z1,Ex Z H Z1 H1/\Rep X.K Z1 k v from⟨Z1,x1,g1⟩)⟩) (λu s1 aG=>?_) λe s z=>(hx e s z).elim))
 all_goals clear kq
 obtain⟨y,H1,I1,r1,Z1,x1,g1⟩:=aG;refine b_ (F_ (Ur (h' pins s1 σ H1 _ I1 ⟨env,B,Z1,v,A.R.ext x1,e2,λw Z2 H2 x2 g2=>(show ∃Z2,Ex Z1 H1 Z2 H2/\Rep X.K Z2 v w from⟨Z2,x2,g2⟩)⟩) (λu2 s2 aG=>?_) λe s z=>(hx e s z).elim));refine cC λ_ kq=>?_;obtain⟨w,H2,I2,r2,Z2,x2,g2⟩:=aG;have x0:=x1.trans x2;have hne:H a≠none:=by rw[hv];simp
 have hv2:=x0.h _ _ hv;have hz2:=x0.fr a hne A.hz;have R2:=A.R.ext x0;obtain⟨b,rfl,hq⟩:=jC x2.zh (show Gd X.K Z2 H2 H2 .cl k y from Rep.mono x2.z k g1) e3;have Rn:cM X.K Z2 b (q.map kV):=by
  cases k<;>try cases e3
  obtain⟨b',SR,e8,Cu,OK⟩:=(show Rep X.K Z2 (.tup _) _ from Rep.mono x2.z _ g1);cases e8;rw[jj OK e3]at Cu;exact Cu
 cases(show u=Value.ref b from r1);have hp2:=hp.mono x0.z;obtain⟨us,Ro,l1,l2,dd,wX,hz⟩:=ip I2 hv2 (hp2.mono x0.zh);refine kq (b_ (Vj (F_ ?_)))
 all_goals clear kq
 refine wpAny_dictSet_heap (hsz:=by rw[lH l1 l2,Um];simp at hl;lia) (show(tupleKind (aH X.prog X.w)).room X.A from Nat.lt_of_succ_lt hu) (gm I2 hq) dd λh2 LH hs'=>?_;rw[oZ q b u2 l1 l2]at LH;have hkl:=sq m.1 q;have hnew:=zR LH (ax.put r2 Ro) (zE l1 q b) (sF l2 q u2) wX (by simp at hl;lia);have he:∃u,h2.get? a=some u:=by obtain⟨o,_,_,_,e,_⟩:=hnew;exact⟨o,e⟩
 have I3:=I2.write (t':=s2.toks+(tupleKind (aH X.prog X.w)).draws q) (o:=.ext (bP (hashStr X.w) a (iR m.1 q) (FG m.1 bs q b) (m6 m.1 vs q w))) (by rw[hv2];exact True.intro) (.inl rfl) (λb u hb z=>(hs'.2 b hb).trans z) he ⟨hnew,he,iz _ _ _ _ _⟩;refine hP _ σ _ Z2 ⟨I3,R2.other A.hb hz2 A.nO,A.nO,A.hb,hz2,yg m q v,_,_,rB hm e3,?_,ay,et.put hp2 l1 Rn,ar.put g2 (ar.mono x0.z _ rr)⟩ ⟨c6 R2.bh A.hb,x0.z,c6 R2.zh hz2,λb hb e=>x0.fr b (mr A.R.bh hb) e,x0.nf⟩;show(iR m.1 q).length<=_;simp;lia
end
abbrev Cm(X:Cx)(a:Ye)(kx vx:Yf)(gens:XW)(scope:Yd)(pos:Pos)(d:Nat)(tg:Yf)(ifs:X1)(t:Ft)(c:Fb)(k:Yj):Prop:=Ow X (qM X.K X.w a) a (.DictComp kx vx gens scope pos) d tg ifs t c k
section
variable {X:Cx}{a:Ye}{kx vx:Yf}{gens:XW}{scope:Yd}{pos:Pos}{d:Nat}{tg iter zc cx:Yf}{ifs nE:X1}{t t':Ft}{c c':Fb}{k:Yj}{fe fk:Fe}{fi:Fi}{is:X3}
theorem jJ(hu:X.A.units+1<cLine)(hx:∀e s,¬X.xe e s)(hg:GD X tg t)(CA:Es X ifs c)(hk:PD X .cl kx fk)(he:PD X .cl vx fe)(h:gens[d]?=some ⟨tg,iter,ifs,0⟩:=by rfl)(h2:gens[d+1]?=none:=by rfl):Cm X a kx vx gens scope pos d tg ifs t c (fZ fk fe):=
 ⟨hg,CA,_,Bx hu hx hk he,λ_=>sV (yh h h2)⟩
theorem B3(hx:∀e s,¬X.xe e s)(a7:X.calm=true)(hg:GD X tg t)(CA:Es X ifs c)(hi:ID X zc cx fi)(ht:qb is t')(b:Cm X a kx vx gens scope pos (d+1) zc nE t' c' k)
  (h:gens[d]?=some ⟨tg,iter,ifs,0⟩:=by rfl) (h2:gens[d+1]?=some ⟨zc,cx,nE,0⟩:=by rfl) (hs:∀x,foldedSetIterable cx X.env x=pure x:=by intro _;rfl):Cm X a kx vx gens scope pos d tg ifs t c (hW fi is t' c' k):=by
 obtain⟨Bd,qd,Fx⟩:=b.ex;exact⟨hg,CA,_,vp PV Iy hx a7 h2 hi b.g ht b.ts qd Fx,λ_=>Am (xY h h2) hs⟩
end
def gx(th:Str->Int)(fi:Fi)(is:X3)(t:Ft)(c:Fb)(k:Yj)(n:Nat)(caps:X3):Fe:=λenv=>(fi env).bind λds=>if dH is (dj n caps env)=true then(fW t c k (dj n caps env) ds).bind λxs=>if xs.length<=16000000 then(foldM ([],[]) xs).bind λm=>some (.mp th m.1 m.2)else none else none
theorem wF(h:gx th fi is t c k n caps env=some d) :
  ∃ds xs m,fi env=some ds/\dH is (dj n caps env)=true/\fW t c k (dj n caps env) ds=some xs/\xs.length<=16000000/\foldM ([],[]) xs=some m/\d=.mp th m.1 m.2:=by
 obtain⟨ds,e1,e2⟩:=a_.mp h
 by_cases hu:dH is (dj n caps env)=true
 .rw[j_ hu]at e2;obtain⟨xs,e3,e4⟩:=a_.mp e2
  by_cases hl:xs.length<=16000000
  .rw[j_ hl]at e4;obtain⟨m,e5,e6⟩:=a_.mp e4;cases e6;exact⟨ds,xs,m,e1,hu,e3,hl,e5,rfl⟩
  .rw[h_ hl]at e4;cases e4
 .rw[h_ hu]at e2;cases e2
section
variable {X:Cx}{kx vx:Yf}{rest:XW}{scope:Yd}{pos:Pos}{tg iter:Yf}{ifs:X1}{t:Ft}{c:Fb}{k:Yj}{fi:Fi}{is caps:X3}{cl:XT}{Nc own:XZ}
theorem yj(ht:qb is t)(a7:X.calm=true)(gv:iO (λx=>X.env.cells.lookup x) scope.names []=some cl)(ck:scope.kind=.function)(hnc:∀y∈scope.names,y.2≠.cell)
  (hN:Nc.map some=own.map some++caps.map (λj=>X.N[j]?)) (iD:kU X scope caps=true)
  (hb:∀C s H ex pn a,Cm (fF X scope cl Nc C s H ex pn) a kx vx (⟨tg,iter,ifs,0⟩::rest) scope pos 0 tg ifs t c k)
  {pins:XQ} {σ:L2.St} {s2:X8} {H2 B Z2:Hp} {env:En} {ds xs:Yl} {E:XO} {RR:X7->Ye->Result->X8->Prop} {it:Ye} {fp:X0} {tn:Nat->Ya->Prop} {J:It}
  (I2:Inv X pins σ H2 s2) (R2:Rl X.K B Z2 H2 env σ) (T:Turn X.prog X.w X.K tg J fp it tn) (Fz:tn 0 s2.heap) (uG:∀b∈fp,cf X pins H2 b) (wk:Walk X.K Z2 ds J) (hu:dH is (dj own.length caps env)=true)
  (Fy:fW t c k (dj own.length caps env) ds=some xs) (hl:xs.length<=16000000)
  (Re:∀(a C:Ye)(H' Z':Hp)(s':X8)(mm:Yh×Yl)(bs:X0)(vs:Yn) m,Inv X pins σ H' s'->s'.heap.Ns C m->cf X pins H' C->Ex Z2 H2 Z' H'->H2 a=none->foldM ([],[]) xs=some mm->H' a=some (.ext (bP (hashStr X.w) a mm.1 bs vs))->Z' a=none->et X.K Z' mm.1 bs->ar X.K Z' mm.2 vs->RR (.ref a) C (.ok .next) s') :
  wpAny (model X.prog X.w) X.A (newDict) (λacc s₃=>wpAny (model X.prog X.w) X.A (newFunctionEnv scope X.env.globals cl [] X.env.qual none .none (some X.env)) (λLx s₄=>
   codeAny (model X.prog X.w) X.A (.compStart (.DictComp kx vx (⟨tg,iter,ifs,0⟩::rest) scope pos) 0 (.ref it) acc {Lx with scope:=relabel scope X.env}) (RR acc Lx.locals) s₄) E s₃) E s2:=by
 refine UC ?_;have hf:H2 s2.sz=none:=I2.hok.fresh (m_ _);have I3:Inv X pins σ (upd H2 s2.sz (.ext (bP (hashStr X.w) s2.sz [] [] []))) {s2 with heap:=s2.heap.push {cls:=.type "dict",dict:=none,data:=.dict #[]}}:=
  I2.laid (λb u e=>e_ _ e) (m_ _) (show bE X.prog X.w _ _ _ (.ext (bP (hashStr X.w) s2.sz [] [] []))from⟨⟨_,#[],0,[],n_ _ rfl,⟨rfl,rfl,rfl⟩,rfl,.nil,rfl,VR,by have:=I2.big;simpa using (XF this),by simp,rfl,rfl⟩,⟨_,n_ _ rfl⟩,iz _ _ _ _ _⟩)
 generalize hs3:({s2 with heap:=s2.heap.push {cls:=.type "dict",dict:=none,data:=.dict #[]}}:X8)=s3 at I3 ⊢;have Ox:∀b o,s2.heap.get? b=some o->s3.heap.get? b=some o:=λb o e=>by rw[<- hs3];exact e_ _ e
 have Oy:s3.sz=s2.sz+1:=by rw[<- hs3];exact U0 _ _
 have w6:∀b∈fp,b<s2.sz:=λb hb=>let ⟨o,e,_⟩:=T.obj _ _ Fz b hb;q_ e;have Oz:∀b∈fp,cf X pins (upd H2 s2.sz (.ext (bP (hashStr X.w) s2.sz [] [] []))) b:=λb hb=>⟨by rw[aB (B_ (w6 b hb))];exact(uG b hb).1,(uG b hb).2⟩;refine W3 hnc (by intro y hy;simp at hy) (λh1 Cz hsb=>?_) ck;have OA:∀b o,s3.heap.get? b=some o->h1.get? b=some o:=λb o e=>hsb.extBut b o (B_ (q_ e)) (e_ _ e);have I4:=wt (tk:=s3.toks+([]:List (Str×X7)).length) I3 gv ck hnc Oz (λb hb=>by rw[Oy];exact UR (w6 b hb)) hN iD Cz OA;generalize hXc:fF X scope cl Nc s3.sz s3 (upd H2 s2.sz (.ext (bP (hashStr X.w) s2.sz [] [] []))) fp (X.pn++pins)=Xc at I4;have bb:Cm Xc s2.sz kx vx (⟨tg,iter,ifs,0⟩::rest) scope pos 0 tg ifs t c k:=by rw[<- hXc];exact hb _ _ _ _ _ _
 obtain⟨Bd,qd,Fx⟩:=bb.ex;have eP:Xc.prog=X.prog:=by rw[<- hXc];rfl
 have eW:Xc.w=X.w:=by rw[<- hXc];rfl
 have eK:Xc.K=X.K:=by rw[<- hXc];rfl
 have eA:Xc.A=X.A:=by rw[<- hXc];rfl
 have eE:Xc.env=compEnvC scope cl s3.sz X.env:=by rw[<- hXc];rfl
 have hx:∀e s,¬Xc.xe e s:=λe s z=>by rw[<- hXc]at z;exact z
 have AK:Xc.calm=true:=by rw[<- hXc];exact a7
 have T':Turn Xc.prog Xc.w Xc.K tg J fp it tn:=by rw[eP,eW,eK];exact T
 have A4:Ac Xc (qM Xc.K Xc.w s2.sz) [] s2.sz H2 Z2 (upd H2 s2.sz (.ext (bP (hashStr X.w) s2.sz [] [] []))) (dj own.length caps env) (nu own.length caps σ) [] {s3 with heap:=h1,toks:=s3.toks+([]:List (Str×X7)).length}:=
  ⟨I4,by rw[eK];exact R2.cap _ _ (df hf) (c6 R2.zh (R2.zh.free hf)),lN _ _ _,hf,R2.zh.free hf,([],[]),[],[],rfl,m_ _,by rw[eW];exact ay,λi k b h=>by simp at h,rfl⟩
 have Rf:∀b∈fp,cf Xc [] (upd H2 s2.sz (.ext (bP (hashStr X.w) s2.sz [] [] []))) b:=λb hb=>by
  obtain⟨f1,f2,f3,f4,f5,f6⟩:=Oz b hb;have mem:=g0 gv (λp hp=>by cases hp);rw[<- hXc];refine⟨f1,?_,g9 I3 f2 f3,.inl hb,λx c h=>f5 x c (mem (x,c) (Uo h)),λp hp=>f6 p (by simpa [fF]using hp)⟩;show b≠s3.sz;rw[Oy];exact B_ (UR (w6 b hb))
 have OB:tn 0 ({s3 with heap:=h1,toks:=s3.toks+([]:List (Str×X7)).length}:X8).heap:=T.keep _ _ _ Fz λb _ o e=>OA b o (Ox b o e);have go:=mL PV Iy hx AK T' bb.g ht bb.ts qd (Fx it) A4 Rf OB (by rw[eK];exact wk) hu Fy (by simpa using hl) λs' σ' H' Z' A' x' fr'=>by
  obtain⟨m0,bs0,vs,Sx,_,hv,SV,rr⟩:=A'.ac;rw[eW]at hv;have base:=A'.I.base;obtain⟨mC,OC,_⟩:=A'.I.loc;have hok:=A'.I.hok;have hos:=A'.I.os;have free:=A'.I.free;rw[eE]at OC free;rw[eP,eW]at hok;rw[eK]at rr SV;have u1:Un (xn X.stack) fp H2 (upd H2 s2.sz (.ext (bP (hashStr X.w) s2.sz [] [] []))) s2.heap s3.heap:=Un.laid Ox (m_ _) hf;have u2:Un (xn X.stack) fp (upd H2 s2.sz (.ext (bP (hashStr X.w) s2.sz [] [] []))) H' s3.heap s'.heap:=by rw[<- hXc]at base;exact base
  have Ly:s'.os=s2.os:=by rw[<- hXc]at hos;exact hos.trans (by rw[<- hs3];rfl)
  have I':Inv X pins σ H' s':=I2.call' Ly (u1.trans u2) hok A'.I.bare λb hb=>⟨(uG b hb).2.2.2.1,(uG b hb).2.1,(uG b hb).2.2.2.2.1,(uG b hb).2.2.2.2.2⟩;exact Re s2.sz s3.sz H' Z' s' m0 bs0 vs mC I' OC (I3.fpOk (m_ _) free) x' hf (by simpa using Sx) hv A'.hz SV rr
 rw[eP,eW,eA,eE]at go;exact tN PV rfl go (T.self _ 0 _ _ _ OB go)
theorem nM(hw:th=hashStr X.w)(ht:qb is t)(a7:X.calm=true)(hi:ID X tg iter fi)(gv:iO (λx=>X.env.cells.lookup x) scope.names []=some cl)(hN:Nc.map some=own.map some++caps.map (λj=>X.N[j]?))
  (hb:∀C s H ex pn a,Cm (fF X scope cl Nc C s H ex pn) a kx vx (⟨tg,iter,ifs,0⟩::rest) scope pos 0 tg ifs t c k)
  (iD:kU X scope caps=true:=by rfl) (ck:scope.kind=.function:=by rfl) (hnc:∀y∈scope.names,y.2≠.cell:=by decide +kernel) (OD:∀x∈scope.names,x.2=.local->scope.names.lookup x.1=some .local:=by decide +kernel)
  (hs:∀x,foldedSetIterable iter X.env x=pure x:=by intro _;rfl) :
  PD X .nm (.DictComp kx vx (⟨tg,iter,ifs,0⟩::rest) scope pos) (gx th fi is t c k own.length caps):=by
 subst hw;intro pins s σ H Q I hT;obtain⟨env,B,Z,d,R,e,kk⟩:=hT;obtain⟨ds,xs,mm,e1,hu,Fy,hl,Sw,rfl⟩:=wF e;rw[arm_eval_DictComp];refine Wn rfl hs (iB gv) ck OD ?_;refine bF (hi pins s σ H (λJ H1=>∃Z1,Ex Z H Z1 H1/\Walk X.K Z1 ds J) I ⟨env,B,Z,ds,R,e1,λJ Z1 H1 x1 wk=>⟨Z1,x1,wk⟩⟩) λx s1 q1=>bF q1 λOi s2 aG=>?_;obtain⟨it,fp,tn,J,H2,hit,I2,T,Fz,uG,Z2,x2,wk⟩:=aG;subst hit;refine yj ht a7 gv ck hnc hN iD hb I2 (R.ext x2) T Fz uG wk hu Fy hl λa C H' Z' s' m1 bs vs m I' ns fpC x' hf hm1 hv hz hp rr=>?_;refine⟨m,ns,λh' hs'=>?_⟩;obtain⟨f1,f2,f3,f4,f5,f6⟩:=fpC;rw[Sw]at hm1;cases hm1;exact⟨.ref a,H',I'.turned (λb o hb e=>hs'.extBut b o hb e) f1 f2.symm.symm f4 f5 f6,rfl,kk _ Z' H' (x2.trans x') ⟨a,hashStr X.w,mm.1,mm.2,rfl,rfl,x2.h.free hf,⟨bs,vs,hv,hp,rr⟩,hz⟩⟩
end
theorem cm:∀{ns:X4}{us:XX},ax (ns.map V.int) us->∀(i:Nat)(v:X7),us[i]?=some v->∃t,v=Value.int (ns.getD i 0) t
 | [],_,.nil,i,v,h=>by simp at h
 | n::ns,_,.cons r t,0,v,h=>by simp at h;subst h;exact r
 | n::ns,_,.cons r t,i+1,v,h=>by
  obtain⟨t',e⟩:=cm t i v (by simpa using h);exact⟨t',by simpa using e⟩
theorem preSum_eq(ns:X4):∀n,n<=ns.length->preSum (λi=>ns.getD i 0) n=(ns.take n).sum
 | 0,_=>by simp[preSum]
 | n+1,h=>by
  have hn:n<ns.length:=h;rw[preSum,preSum_eq ns n (by lia),List.take_succ,XJ];simp[List.getD,hn]
section
variable {X:Cx}{l r:Yf}{fa fb:Fe}{ga gb:Gr}{pos p:Pos}
theorem A3(hc:X.calm=true):cS X (.builtin "sum") (λxs H Q=>∃(a:Ye)(ns:X4),xs=[.ref a]/\cJ X.K H a (ns.map V.int)/\Q (.int ns.sum) H):=by
 intro pins s σ H xs us Q I rs h;obtain⟨a,ns,rfl,hq,q⟩:=h;obtain⟨u,rfl,rx⟩:=vals1 rs;cases rx;obtain⟨a5,rv,pl,hz⟩:=I.list hq;have hlt:a<s.sz:=by obtain⟨o,ho,_⟩:=pl.isList;exact q_ ho
 have hl:=ax.length rv;rw[c_]at hl;refine call_sum_walkG (U9 pl.isList ⟨s.sz,_,_,_,_,_,λi=>ns.getD i 0,rfl,Walks.list (show X.A.in1.handled=none from I.ok.hd hc) s.sz a (B_ hlt) a5.toArray,⟨⟨_,n_ _ rfl,rfl,rfl⟩,pl.isList.push _⟩,λb hb=>?_,λi v hv=>cm rv i v (by simpa using hv),λh' tk t' hk=>?_⟩)
 .simp only[p_,Ul,Vq]at hb;rw[U0];rcases hb with rfl | rfl
  .exact Wh _
  .exact UR hlt
 .have e:preSum (λi=>ns.getD i 0) a5.toArray.size=ns.sum:=by
   rw[show a5.toArray.size=ns.length by simp[<- hl],preSum_eq ns _ (m_ _),UI]
  rw[e];refine⟨.int ns.sum,H,I.kept λb o e=>hk b o (λhb=>?_) (e_ _ e),⟨_,rfl⟩,q⟩;have:b=s.sz:=by simpa using hb
  exact B_ (q_ e) this
def HN:D->Ym
 | .lst ds=>(hU ds).bind λns=>some (.int ns.sum)
 | _=>none
theorem MU{K:Fg}:fL K .cl HN (λxs H Q=>∃(a:Ye)(ns:X4),xs=[.ref a]/\cJ K H a (ns.map V.int)/\Q (.int ns.sum) H):=λ{Z H x dx d Q} s h e k=>by
 cases dx<;>try cases e
 obtain⟨ns,h1,h2⟩:=a_.mp e;cases h2;cases fR h1;obtain⟨a,vs,rfl,q,rr⟩:=h.lst s;cases ar.intsV rr;exact⟨a,ns,rfl,q,k _ Z H (Ex.refl s) rfl⟩
theorem rJ:bootBuiltins "sum"=some (.builtin "sum"):=by decide +kernel
theorem L9(hm:X.mg "sum"=none)(a7:X.calm=true)(ha:PD X ga l fa)(hg:Gl X "sum":=by rfl)(he:starEach [l] X.env=[(false,eval l X.env)]:=by rfl):PD X .cl (.Call (.Name "sum" p) [l] [] pos) (bC HN fa):=
 mR (A3 a7) MU rJ hm ha (by decide) (by decide) hg he
variable {o e:Yf}{apos bU:Pos}
end
theorem Rl.setV{K:Fg}{B Z H:Hp}{env:En}{σ:L2.St}(R:Rl K B Z H env σ)(i:Nat)(x:Option V):Rl K B Z H (env.set i .un) (σ.set i x):=by
 have no:∀{j:Nat}{ds:uE},(env.set i .un)[j]?=some (.O ds)->i≠j:=λ{j ds} h z=>by
  subst z
  by_cases hl:i<env.length
  .rw[t_ hl]at h;cases h
  .rw[T9 (by simpa using Ve hl)]at h;cases h
 refine⟨R.bh,R.zh,by simp[R.len],λj s h=>?_,λj ds a h h2=>?_,λj k ds es a hne h1 h2 h3 h4=>?_⟩
 .by_cases hj:i=j
  .subst hj
   by_cases hl:i<env.length
   .rw[t_ hl]at h;cases h;exact⟨x,t_ (by rw[<- R.len];exact hl),trivial⟩
   .rw[T9 (by simpa using Ve hl)]at h;cases h
  .rw[i_ hj]at h ⊢;exact R.sl j s h
 .have n:=no h;rw[i_ n]at h h2;exact R.ob j ds a h h2
 .have n1:=no h1;have n2:=no h2;rw[i_ n1]at h1 h3;rw[i_ n2]at h2 h4;exact R.ap j k ds es a hne h1 h2 h3 h4
theorem Ew{α:Type}{l:List α}{i:Nat}{x:α}(h:l[i]?=some x):l.set i x=l:=by
 obtain⟨h1,h2⟩:=k_.mp h;rw[<- h2];exact List.set_getElem_self h1
def iq(ks:Yh)(ds:Yl)(n:Int):Yl->Yk
 | []=>some ds
 | c::cs=>(fj c).bind λq=>(aI ks ds q).bind λd=>match d with | .int i=>iq ks (bA ks ds q (.int (i+n))) n cs | _=>none
section
variable {X:Cx}{rg:Gr}
def Na(K:Fg)(th:Str->Int)(td ty tv:TE):TS:=λD σ H=>td σ H λx H1=>ty σ H1 λy H2=>∃(a b:Ye)(ks:Yh)(bs:X0)(vs:Yn)(q:Yi)(i:Int),x=.ref a/\y=.ref b/\H2 a=some (.ext (bP th a ks bs vs))/\et K H2 ks bs/\cM K H2 b (q.map kV)/\aI ks vs q=some (.int i)/\ks.length<16000000/\
 tv σ H2 λy2 H3=>H3=H2/\∃n,y2=.int n/\D.nx σ (upd H2 a (.ext (bP th a ks bs (bA ks vs q (.int (i+n))))))
theorem F6(hu:X.A.units+1<cLine)(ho:PE X o td)(hi:PE X i ty)(hv:PE X value tv)
  (ha:∀ov iv new,augStore i ov iv new=(do holding [new,ov,iv] (setItem ov iv new);release [new,ov,iv] [];pure .next):=by intros;rfl):PS X (.AugAssign (.Subscript o i tpos) .Add value pos) (Na X.K (hashStr X.w) td ty tv):=by
 intro pins s σ H D I h;refine wpAny_AugAssign_SubscriptAny (bF (ho pins s σ H _ I h) λu s1 ⟨x,H1,I1,rx,q1⟩=>bF (hi pins s1 σ H1 _ I1 q1) λiv s2 aG=>?_) ha;refine cC λ_ kq=>?_;obtain⟨y,H2,I2,ry,a,b,ks,bs,vs,q,j,ex,ey,hc,hp,hq,hl,hlen,q2⟩:=aG;subst ex ey;obtain rfl:u=Value.ref a:=rx;obtain rfl:iv=Value.ref b:=ry;obtain⟨us,Ro,h1,h2,dd,wX,hz⟩:=ip I2 hc hp;obtain⟨w',e1,e2⟩:=ax.look Ro hl;rw[<- oC q h1 h2]at e1;obtain⟨pr,e3,e4⟩:=T_.mp e1;have Fu:q∈ks:=by
  by_cases hm:q∈ks
  .exact hm
  .rw[gN hm]at hl;cases hl
 refine kq (wpAny_getItem_heap (UU hu) (gm I2 hq) dd e3 ?_)
 all_goals clear kq
 rw[e4];refine bF (hv pins _ σ H2 _ (I2.tok _) q2) λw2 s4 aG=>?_;obtain⟨y2,H3,I4,ry2,hH,n,ey2,q3⟩:=aG;subst hH ey2;refine bF (K9 pins s4 σ H3 (.int j) (.int n) w' w2 (λz H4=>H4=H3/\z=.int (j+n)) I4 e2 ry2 ⟨j,n,rfl,rfl,rfl,rfl⟩) λw3 s5 aG=>?_;obtain⟨z,H4,I5,rz,hH4,hz4⟩:=aG;subst hH4 hz4;refine map_set hu I5 hc hp hq hlen rz λs6 _ I6=>⟨σ,_,I6,?_⟩;have k1:iR ks q=ks:=j_ Fu;have k2:FG ks bs q b=bs:=j_ Fu;have k3:m6 ks vs q (.int (j+n))=bA ks vs q (.int (j+n)):=j_ Fu;rw[k1,k2,k3];exact q3
open Classical in
noncomputable def Bk(th:Str->Int)(ia is ih ic im iw:Nat)(t:Fb):Fs:=λenv=>(t env).bind λb=>match env[iw]?,env[im]?,env[if b then is else ih]? with
 | some (.F (.lst cs)),some (.F (.int n)),some (.O (.M FK ks ds))=>if FK=th/\ks.length<16000000/\ia<env.length/\ic<env.length then(iq ks ds n cs).bind λds'=>some (.nx (((env.set ia .un).set ic .un).set (if b then is else ih) (.O (.M th ks ds'))))else none
 | _,_,_=>none
theorem TU[Decidable c](h:(if c then a else none)=some d):c/\a=some d:=by
 by_cases hc:c
 .rw[j_ hc]at h;exact⟨hc,h⟩
 .rw[h_ hc]at h;cases h
theorem wC(h:iq ks ds n (c::cs)=some ds'):∃q i,fj c=some q/\aI ks ds q=some (.int i)/\iq ks (bA ks ds q (.int (i+n))) n cs=some ds':=by
 unfold iq at h;refine cC λ_ kq=>?_;obtain⟨q,h1,h⟩:=a_.mp h;obtain⟨d,h2,h⟩:=a_.mp h;cases d<;>try cases h
 exact kq (⟨q,_,h1,h2,h⟩)
open Classical in
theorem N3{th:Str->Int}(hw:th=hashStr X.w)(ia is ih ic im iw:Nat){k:Nat}{xa xs xh xc xm xw:Str}{te:Yf}{t:Fb}{pa p1 p2 p3 p4 pc pw p5 p6 p7 p8 p9 p10:Pos}(hr:bM k X.A)(hp:PassesOwn (model X.prog X.w) X.A X.env X.xe)(hcm:X.calm=true)(hN:X.N.Nodup)(ht:PB X te t)
  (hne:ia≠ic/\ia≠is/\ia≠ih/\ic≠is/\ic≠ih/\im≠ia/\im≠ic/\iw≠ia/\im≠is/\im≠ih:=by decide)
  (na:X.N[ia]?=some xa:=by rfl) (ns:X.N[is]?=some xs:=by rfl) (nh:X.N[ih]?=some xh:=by rfl) (nc:X.N[ic]?=some xc:=by rfl) (nm:X.N[im]?=some xm:=by rfl) (nw:X.N[iw]?=some xw:=by rfl)
  (va:uL X.env.scope xa:=by first | exact Or.inl rfl | exact Or.inr (Or.inl rfl) | exact Or.inr (Or.inr rfl)) (vs:uL X.env.scope xs:=by first | exact Or.inl rfl | exact Or.inr (Or.inl rfl) | exact Or.inr (Or.inr rfl)) (vh:uL X.env.scope xh:=by first | exact Or.inl rfl | exact Or.inr (Or.inl rfl) | exact Or.inr (Or.inr rfl))
  (vc:uL X.env.scope xc:=by first | exact Or.inl rfl | exact Or.inr (Or.inl rfl) | exact Or.inr (Or.inr rfl)) (vm:uL X.env.scope xm:=by first | exact Or.inl rfl | exact Or.inr (Or.inl rfl) | exact Or.inr (Or.inr rfl)) (vw:uL X.env.scope xw:=by first | exact Or.inl rfl | exact Or.inr (Or.inl rfl) | exact Or.inr (Or.inr rfl))
  (da:(xa==("__debug__":Str))=false/\(xa==("__classdict__":Str))=false:=by decide) (ds:(xs==("__debug__":Str))=false/\(xs==("__classdict__":Str))=false:=by decide) (dh:(xh==("__debug__":Str))=false/\(xh==("__classdict__":Str))=false:=by decide)
  (dc:(xc==("__debug__":Str))=false/\(xc==("__classdict__":Str))=false:=by decide) (dm:(xm==("__debug__":Str))=false/\(xm==("__classdict__":Str))=false:=by decide) (dw:(xw==("__debug__":Str))=false/\(xw==("__classdict__":Str))=false:=by decide)
  (la:Loc X.env.scope xa:=by first | exact Or.inl rfl | exact Or.inr rfl) (lc:Loc X.env.scope xc:=by first | exact Or.inl rfl | exact Or.inr rfl)
  (SW:X.fn xa=true\/X.env.scope.names.lookup xa=some .local:=by first | exact .inl rfl | exact .inr rfl | assumption) (hfc:X.fn xc=true\/X.env.scope.names.lookup xc=some .local:=by first | exact .inl rfl | exact .inr rfl | assumption)
  (OE:swapsWith (.IfExp te (.Name xs p1) (.Name xh p2) p3) (some (.Name xa pa)) p4.line X.env=pure false:=by rfl) (OF:∀x,foldedSetIterable (.Name xw pw) X.env x=pure x:=by intro _;rfl) :
  wO X rg [.Assign [.Name xa pa] (.IfExp te (.Name xs p1) (.Name xh p2) p3) p4,.For (.Name xc pc) (.Name xw pw) [.AugAssign (.Subscript (.Name xa p5) (.Name xc p6) p7) .Add (.Name xm p8) p9] [] p10] (Bk th ia is ih ic im iw t):=by
 subst hw;refine cC λ_ kq=>?_;obtain⟨n1,n2,n3,n4,n5,n6,n7,n8,n9,n10⟩:=hne;refine kq (qg.imp (lS (sg hN na la (uY ht (du ns vs ds.1 ds.2) (du nh vh dh.1 dh.2)) OE SW) (jH (sS hp hcm (aU (aa iw nw vw dw.1 dw.2)) (jB hN nc lc hfc) (jH (F6 (jl hr) (du na va da.1 da.2) (du nc vc dc.1 dc.2) (du nm vm dm.1 dm.2))) OF))) λE σ H aG=>?_);clear kq;refine cC λ_ kq=>?_;obtain⟨env,B,Z,o,R,e,kk⟩:=aG;obtain⟨b,e1,e⟩:=a_.mp e;refine kq (⟨env,B,Z,b,R,e1,λZ1 H1 x1=>?_⟩);clear kq;refine cC λ_ kq=>?_
 split at e
 .rename_i cs n FK ks d0 hw hm hj;obtain⟨⟨rfl,hlen,L1,hlc⟩,e'⟩:=TU e;obtain⟨dF,hF,e'⟩:=a_.mp e';cases e';clear e;have Ls:ia≠(if b then is else ih):=by cases b;exact n3;exact n2
  have OL:ic≠(if b then is else ih):=by cases b;exact n5;exact n4
  have SX:im≠(if b then is else ih):=by cases b;exact n10;exact n9
  have pick:∀Q:VK,DI (if b then is else ih) σ H1 Q->(if b=true then DI is σ H1 Q else DI ih σ H1 Q):=λQ q=>by cases b<;>exact q
  generalize (if b then is else ih)=j at hj Ls OL SX pick kk;have R1:=R.ext x1;obtain⟨y,e3,a,o,e4,e5,e6,_⟩:=R1.sl j _ hj;subst e4;refine kq (pick _ ⟨.ref a,e3,?_⟩);clear kq;have R2:=R1.setV ia (some (.ref a));refine⟨env.set ia .un,B,Z1,cs,R2,?_,λJ Z2 H2 x2 wk=>?_⟩
  .show(cy (env.set ia .un) iw).bind _=_;unfold cy;rw[i_ (UB n8),hw]
   rfl
  .have lσ:(σ.set ia (some (V.ref a))).length=env.length:=by rw[V4,R.len]
   let e2:En:=(env.set ia .un).set ic .un
   have j2:e2[j]?=some (.O (.M (hashStr X.w) ks d0)):=by
    show((env.set ia .un).set ic .un)[j]?=_;rw[i_ OL,i_ Ls];exact hj
   have m2:e2[im]?=some (.F (.int n)):=by
    show((env.set ia .un).set ic .un)[im]?=_;rw[i_ (UB n7),i_ (UB n6)];exact hm
   let In:Nat->L2.St->Hp->Prop:=λi σ H=>∃di Z',Ex Z B Z' H/\aF Z2 Z'/\(∀x,Rl X.K B Z' H (e2.set j (.O (.M (hashStr X.w) ks di))) (σ.set ic x))/\σ[ia]?=some (some (.ref a))/\σ[j]?=some (some (.ref a))/\iq ks di n (cs.drop i)=some dF
   refine⟨λi m σ H=>m=cs.length-i/\i<=cs.length/\In i σ H,⟨cs.length,by simp,UY _,d0,Z2,(x1.trans x2).part R.bh,aF.refl _,λx=>?_,?_,?_,by simpa using hF⟩,?_⟩
   .rw[Ew j2];exact(R2.ext x2).setV ic x
   .rw[t_ (by rw[<- R.len];exact L1)]
   .rw[i_ Ls];exact e3
   .rintro i m σ2 H3 ⟨rfl,hi,di,Z',x3,s3,R3,q1,q2,q3⟩;obtain⟨w1,w2⟩:=wk Z' H3 s3 (R3 none).zh i;have SY:(e2.set j (.O (.M (hashStr X.w) ks di)))[j]?=some (.O (.M (hashStr X.w) ks di)):=t_ (k_.mp j2).1
    by_cases hlt:i<cs.length
    .obtain⟨go,yl⟩:=w1 hlt;refine .inr ⟨go,In (i+1),λσ' H' nn=>⟨cs.length-(i+1),by omega,rfl,hlt,nn⟩,λx H4 y=>?_⟩;refine cC λ_ kq=>?_;obtain⟨Z4,c,x4,hd,r4⟩:=yl x H4 y;have Lu:cs.drop i=c::cs.drop (i+1):=by
      obtain⟨h1,h2⟩:=k_.mp hd;rw[Uy h1,h2]
     rw[Lu]at q3;obtain⟨q,v0,k1,k2,k3⟩:=wC q3;have R4:=(R3 (some x)).ext x4;obtain⟨y1,f1,a1,o1,f2,f3,f4,bs,SZ,rfl,f5,f6⟩:=R4.sl j _ SY;subst f2;have S0:σ2[j]?=some (some (.ref a1)):=by rw[i_ OL]at f1;exact f1
     rw[q2]at S0;cases S0;obtain⟨bk,hbk,hq⟩:=jC x4.zh (show Gd X.K Z4 H4 H4 .cl c x from r4) k1;subst hbk;obtain⟨vv,g1,g2⟩:=f6.look k2;cases(show vv=V.int v0 from g2);obtain⟨y2,m3,vm2,m4,m5⟩:=R4.sl im (.F (.int n)) (by rw[i_ (UB SX)];exact m2);subst m4;cases(show vm2=V.int n from m5);have LI:ic < σ2.length:=by have:=R4.len;simp[e2]at this;omega
     refine kq (⟨.ref a,by rw[i_ (UB n1)];exact q1,.ref bk,by rw[t_ LI],a,bk,ks,bs,SZ,q,v0,rfl,rfl,f3,f5.mono x4.zh,hq,g1,hlen,.int n,m3,rfl,n,rfl,?_⟩)
     all_goals clear kq
     obtain⟨R5,x5⟩:=R4.wr SY f1 (show de X.K Z4 a (.M (hashStr X.w) ks (bA ks di q (.int (v0+n)))) (.ext (bP (hashStr X.w) a ks bs (bA ks SZ q (.int (v0+n)))))from⟨bs,_,rfl,f5,ar.repl (show Rep X.K Z4 (.int (v0+n)) (.int (v0+n))from rfl) f6⟩);refine⟨bA ks di q (.int (v0+n)),Z4,?_,s3.trans x4.z,λz=>?_,?_,?_,k3⟩
     .exact(x3.transB (x4.part (R3 none).bh)).transB x5
     .have R6:=R5.setV ic z;rw[List.set_set,List.set_set]at R6;have u2:(e2.set j (.O (.M (hashStr X.w) ks (bA ks di q (.int (v0+n))))))[ic]?=some .un:=by
       rw[i_ (UB OL)];show((env.set ia .un).set ic .un)[ic]?=_;rw[t_ (by simpa using hlc)]
      rw[Ew u2]at R6;rw[List.set_set];exact R6
     .rw[i_ (UB n1)];exact q1
     .rw[i_ OL];exact q2
    .refine .inl ⟨w2 (by omega),?_⟩;rw[Vu (by omega)]at q3;cases q3;have LI:ic < σ2.length:=by have:=(R3 none).len;simp[e2]at this;omega
     have R5:=R3 σ2[ic];rw[List.set_getElem_self LI]at R5;exact kk σ2 Z' H3 x3 R5
 .cases e
end
class Th where
 h:Str->Int
theorem NG(i0:Nat)(h:D5 X e f):D5 X e (GR i0 f):=⟨λy py spos j LB hNd hj hy hf pins s σ H E I hT=>by
 refine h.ex y py spos j LB hNd hj hy hf pins s σ H E I ?_;obtain⟨env,B,Z,d,R,e,k⟩:=hT;unfold GR at e
 split at e
 .rename_i th ks ds hi;obtain⟨d',e1,e2⟩:=a_.mp e;obtain⟨hp,rfl⟩:=nz e2;obtain⟨y,e3,a,o,e4,e5,e6,r⟩:=R.sl i0 _ hi;subst e4;have R1:=R.frzX hi e3 e5 e6 r;obtain⟨bs,vs,rfl,_⟩:=r;refine⟨_,B,_,d',R1,e1,λv Z' H' x g=>?_⟩;have ha:Z' a=some (.ext (bP th a ks bs vs)):=x.z _ _ ay;obtain⟨b,us,es,rfl,rfl,g1,g2,g3,g4⟩:=g;have hne:b≠a:=λz=>by subst z;rw[e5]at g1;cases g1
  exact k _ (era Z' a) H' (x.unfrz e6 e5) ⟨b,us,es,rfl,rfl,g1,g2,by rw[ir hne];exact g3,lG ha es (by unfold pl at hp;exact hp) g4⟩
 .cases e⟩
theorem OY{α:Type}{p:List α->Prop}(h:∀a,p [a]):∀us:List α,us.length=1->p us
 | [a],_=>h a
theorem O5{α:Type}{p:List α->Prop}(h:∀a b,p [a,b]):∀us:List α,us.length=2->p us
 | [a,b],_=>h a b
theorem O7{α:Type}{p:List α->Prop}(h:∀a b c,p [a,b,c]):∀us:List α,us.length=3->p us
 | [a,b,c],_=>h a b c
theorem O3{α:Type}{p:List α->Prop}(h:∀a b c d,p [a,b,c,d]):∀us:List α,us.length=4->p us
 | [a,b,c,d],_=>h a b c d
theorem O1{α:Type}{p:List α->Prop}(h:∀a b c d e,p [a,b,c,d,e]):∀us:List α,us.length=5->p us
 | [a,b,c,d,e],_=>h a b c d e
abbrev eG(K:Fg)(x:Str)(st:Yg)(f:Ye):Prop:=∃(oc kV dc pm cd ct:X7)(od an:XY)(sl:XR),PySem.W.nsIn K mainGlobals x=some (some (.ref f))/\K.lookup f=some ⟨oc,od,.func (PySem.W.fnOf x x (gi st) (b0 st) (aO st) .none kV dc pm an cd ct),sl⟩/\PySem.W.codeIn K cd x=true/\PySem.W.keepIn K (.ref f)=true
section
variable {K:Fg}{h:Ya}{mg:XS}{x:Str}{st:Yg}{f:Ye}
theorem eG.fn(A:eG K x st f)(X:K.In h)(G:h.Ns mainGlobals mg):∃fd,Fn K x x st f fd/\PySem.W.keepIn K (.ref f)=true/\mg x=some (.ref f):=by
 obtain⟨_,_,_,_,_,_,_,_,_,a,l,c,k⟩:=A;exact⟨_,CU l c k,k,PySem.W.mg_of X G a⟩
theorem Mh{oc kV dc pm cd ct:X7}{od an:XY}{sl:XR}(a:PySem.W.nsIn K mainGlobals x=some (some (.ref f)))(l:K.lookup f=some ⟨oc,od,.func (PySem.W.fnOf x x (gi st) (b0 st) (aO st) .none kV dc pm an cd ct),sl⟩)(c:PySem.W.codeIn K cd x=true)(k:PySem.W.keepIn K (.ref f)=true):eG K x st f:=⟨_,_,_,_,_,_,_,_,_,a,l,c,k⟩
variable {P:X9}{w:Yb}{base:Ya}{d n:Nat}{g:Gr}{m:Yl->Ym}{fd:Yc}{ps:XZ}
theorem xK(O:jS P w K mg base uM d f fd ps (FF K n g m))(hk:PySem.W.keepIn K (.ref f)=true)(hm:mg x=some (.ref f))(hb:Binds K fd ps [])(hn:ps.length=n:=by rfl):∀j,d<=j->Oq P w K mg base j x n g m:=
 λ_ hj=>⟨f,fd,ps,hn,O.mono hj,hm,hk,hb⟩
end
end Mi
namespace Mi
open PySem
end Mi
namespace Mi
open PySem PySem.Spec PyProof.Rows L2
theorem EY(ha:s.TypeIs a "list")(hb:s.TypeIs b "list")
  (hc:wpAny M A (call (.builtin "list.__iadd__") [a,b]) Q E s):wpAny M A (inplaceOp .Add a b) Q E s:=by
 unfold inplaceOp;refine F_ ?_;have hl:typeLookup (.type "list") (dunderI "add")=pure (some (.builtin "list.__iadd__")):=PySem.F.slot_list_iadd.lookup;have Px:isSeqSlot (some (.builtin "list.__iadd__"))=true:=by decide +kernel
 have hfi:fillsInplaceSlot (.type "list") "add" (Operator.Add==.Add)=pure false:=by
  unfold fillsInplaceSlot;show(typeLookup (.type "list") (dunderI "add") >>= λfi=>pure (fi.isSome&&!isSeqSlot fi))=pure false;rw[hl];show(pure ((some (Value.builtin "list.__iadd__")).isSome&&!isSeqSlot (some (.builtin "list.__iadd__"))):Sem Bool)=pure false;rw[Px];rfl
 refine b_ (wpAny_typeOf ha (b_ (We hfi ?_)));show wpAny M A (if false=true then _ else _) Q E s;rw[h_ J_];refine b_ (PyProof.Rows.binaryOp1_none ha hb noFill_list_add ?_);refine b_ (We (PySem.seqSlot_of hl Px) ?_);exact b_ (WR hc)
section
variable {X:Cx}{rg:Gr}{pos px:Pos}{x:Str}{e:Yf}
def ipL:TIp:=λx y H Q=>∃l b xs zs,x=.ref l/\y=.ref b/\H l=some (.lst xs)/\H b=some (.lst zs)/\xs.length+zs.length<=sizeLine/\Q (.ref l) (upd H l (.lst (xs++zs)))
theorem F8:Pb X .Add ipL:=by
 intro pins s σ H x y v u Q I rx ry h;obtain⟨l,b,xs,zs,rfl,rfl,hH,hB,hz,q⟩:=h;cases(show v=Value.ref l from rx);cases(show u=Value.ref b from ry);obtain⟨z,a5,n,r,hl,e⟩:=I.lstM hH;obtain⟨z2,uB,n2,r2,hl2,e2⟩:=I.lstM hB;have hsz:a5.toArray.size+uB.toArray.size<=sizeLine:=by rw[r_,r_];omega
 have w5:¬(!a5.toArray.isEmpty&&Builtin.List.listTooLong (a5.toArray.size+uB.toArray.size))=true:=by
  rw[pq hsz,Xe];exact J_
 refine EY ⟨_,e,rfl⟩ ⟨_,e2,rfl⟩ (WQ PySem.F.slot_list_iadd ⟨_,e,rfl⟩ PySem.F.entry_list_iadd (PySem.F.args_list_iadd_2 _ _)
  (AutoSeq1.list___iadd___list_list_0 l a5.toArray n b uB.toArray n2 w5 (by rw[r_];omega) (by omega)) ⟨e,e2,?_⟩)
 refine⟨.ref l,_,I.lset hH e (by simp) (r.append r2) ?_,rfl,q⟩;rw[x_];omega
theorem set_same{σ:L2.St}{i:Nat}{v:V}(h:σ[i]?=some (some v)):σ.set i (some v)=σ:=by
 apply Wc;intro j
 by_cases z:i=j
 .subst z;rw[t_ (k_.mp h).1,h]
 .rw[i_ z]
theorem NV(i:Nat){fe:Fe}(he:PD X .nw e fe)(hN:X.N.Nodup)(hi:X.N[i]?=some x:=by rfl)(hx:Loc X.env.scope x:=by first | exact Or.inl rfl | exact Or.inr rfl)(hf:X.fn x=true\/X.env.scope.names.lookup x=some .local:=by first | exact .inl rfl | exact .inr rfl | assumption) :
  SD X rg (.AugAssign (.Name x px) .Add e pos) (uw i fe):=by
 refine PS.imp (Ju hN hi hx he F8 hf) λE σ H aG=>?_;obtain⟨env,B,Z,o,R,e,k⟩:=aG;unfold uw at e
 split at e
 .rename_i ds hi;obtain⟨d,e1,e2⟩:=a_.mp e;cases d<;>try cases e2
  rename_i es;obtain⟨hl,rfl⟩:=nz e2;obtain⟨y,e3,a,o,e4,e5,e6,vs,rfl,r⟩:=R.sl i _ hi;subst e4;refine⟨_,e3,env,B,Z,_,R,e1,λv Z1 H1 x1 g1=>?_⟩;obtain⟨b,us,es',rfl,e7,h1,h2,h3,r2⟩:=g1;cases e7;have R1:=R.ext x1;have r1:=ar.mono x1.z ds r;refine⟨a,b,vs,us,rfl,rfl,x1.h _ _ e5,h2,by rw[<- r.len,<- r2.len,Um];omega,?_⟩;obtain⟨R2,x2⟩:=R1.wr hi e3 (de.l (r1.app r2));rw[set_same e3];exact k σ Z1 _ ((x1.part R.bh).transB x2) R2
 .cases e
end
theorem GE(hh:A.handled=none)(hl:s.heap.IsList l (x::xs).toArray)(hz:xs.length+1<=sizeLine)
  (hQ:∀(h':Ya)(tk:Nat),(∀b o,s.heap.get? b=some o->h'.get? b=some o)->Q [x,.ref h'.objs.size] {s with heap:=h'.push {cls:=.type "list",data:=.seq xs.toArray},toks:=tk}):wpAny (model P w) A (unpackItems (.ref l) 2 (some 1)) Q E s:=by
 have hlt:l≠s.sz:=by obtain⟨o,ho,_⟩:=hl;exact B_ (q_ ho)
 have hl1:(s.heap.push {cls:=.type "list_iterator",data:=.fields #[.ref l,rawInt 0]}).IsList l (x::xs).toArray:=by obtain⟨o,ho,r⟩:=hl;exact⟨o,e_ _ ho,r⟩
 unfold unpackItems;refine b_ ?_;unfold notIterableAtAll;refine b_ (Vn hl.typeIs PySem.slot_list_iter.lookup (d_ ?_));simp only[E_,Uu];refine b_ (F_ (U9 hl ?_));refine b_ (F_ (Jc hlt 1 0 _ _ ⟨_,n_ _ rfl,rfl,rfl⟩ hl1 (by simp) λh₁ LJ hs₁=>?_));have S1:h₁.IsList l (x::xs).toArray:=hl1.extBut hs₁.extBut hlt;rw[Uc]at LJ;have hit₁':=LJ;obtain⟨oi,hoi,_⟩:=hit₁';have hl₁':=S1;obtain⟨ol,FJ,_⟩:=hl₁';rw[show(((x::xs).toArray.toList.drop 0).take 1)=[x]from rfl,h_ (show ¬([x].length<1) by simp)];refine b_ (F_ (PySem.W.kun_collect (.inr (.inr (.inl rfl))) (Walks.list (A:=A.in1) hh s.sz l hlt (x::xs).toArray) (λj u st=>st.1.typeIs) (by simp) ⟨LJ,S1⟩ (q_ hoi) (q_ FJ) (λh₂ tk hk=>?_) (by simpa using hz)));rw[show((x::xs).toArray.toList.drop 1)=xs from rfl];show wpAny _ _ (if xs.length<0 then _ else _) _ _ _;rw[h_ (by lia)];show wpAny _ _ (newList (xs.take (xs.length-0)) >>= λd=>pure ([x]++[d]++xs.drop (xs.length-0))) _ _ _;rw[Nat.sub_zero,UI,WO];have he:Heap.ExtBut s.sz s.heap h₂:=λb o hb e=>hk b o hb (hs₁.extBut b o hb (e_ _ e));exact b_ (UC (d_ (hQ h₂ tk λb o e=>he b o (B_ (q_ e)) e)) (by show xs.toArray.size<=sizeLine;rw[r_];lia))
section
variable {X:Cx}{rg:Gr}
def Nx(K:X6)(t:TGs):TG:=λv σ H Q=>∃a x xs,v=.ref a/\cJ K H a (x::xs)/\∀p,H p=none->t [x,.ref p] σ (upd H p (.lst xs)) Q
theorem F1(hc:X.calm=true)(h:BB X es t)(hn:(assignEach es X.env).length=2:=by rfl)(hst:(assignEach es X.env).findIdx? (·.1)=some 1:=by rfl):PG X (.Tuple es k pos) (Nx X.K t):=by
 intro pins s σ H v u Q I r hw;obtain⟨a,x,xs,e1,hq,hw⟩:=hw;subst e1;cases r;obtain⟨a5,rv,pl,hz⟩:=I.list hq;cases rv with
 | @cons _ u0 _ us r0 rr=>
 have hlen:=rr.length;rw[Xp];refine b_ (Vj ?_);unfold unpack;rw[hst,hn];have hz2:us.length+1<=sizeLine:=by simp only[z_]at hz;lia
 refine b_ (F_ (GE (I.ok.hd hc) pl.isList hz2 λh' tk hx=>?_));have I1:Inv X pins σ H {s with heap:=h',toks:=tk}:=I.kept hx;have I2:=I1.lnew (t':=tk) rr (by lia);exact h pins _ σ _ _ _ Q I2 (.cons r0 (.cons (show L2.RelV (.ref h'.objs.size) (Value.ref h'.objs.size)from rfl) .nil)) (hw _ I1.fresh)
theorem Eo(h1:PG X e t)(hs:(assignEach [.Starred e p] X.env).map (·.2)=[assign e X.env]:=by rfl):BB X [.Starred e p] (IJ t gNil):=by
 intro pins s σ H vs us Q I r h;obtain⟨v,vr,e1,h⟩:=h;subst e1;cases r with
 | cons r rr=>
  rw[hs];refine assignInOrder_cons (bF (h1 pins s σ H _ _ _ I r h) λ_ s1 aG=>?_);obtain⟨σ1,H1,I1,q1⟩:=aG;obtain⟨rfl,q1⟩:=q1;cases rr;exact assignInOrder_nil ⟨σ1,H1,I1,q1⟩
def IS(i j:Nat)(f:Fe):Fs:=λenv=>(f env).bind λd=>match d with
 | .lst (d::ds)=>some (.nx ((env.set i (.F d)).set j (.F (.lst ds))))
 | _=>none
theorem Li(i j:Nat)(hc:X.calm=true)(he:PD X .cl e fe)(hN:X.N.Nodup)(hi:X.N[i]?=some x:=by rfl)(hj:X.N[j]?=some y:=by rfl)
  (hx:Loc X.env.scope x:=by first | exact Or.inl rfl | exact Or.inr rfl) (hy:Loc X.env.scope y:=by first | exact Or.inl rfl | exact Or.inr rfl)
  (hf:X.fn x=true\/X.env.scope.names.lookup x=some .local:=by first | exact .inl rfl | exact .inr rfl | assumption) (hf2:X.fn y=true\/X.env.scope.names.lookup y=some .local:=by first | exact .inl rfl | exact .inr rfl | assumption)
  (ha:(assignEach [.Name x p1,.Starred (.Name y p3) p4] X.env).map (·.2)=assign (.Name x p1) X.env::(assignEach [.Starred (.Name y p3) p4] X.env).map (·.2):=by rfl)
  (Rp:(assignEach [.Starred (.Name y p3) p4] X.env).map (·.2)=[assign (.Name y p3) X.env]:=by rfl)
  (hn:(assignEach [.Name x p1,.Starred (.Name y p3) p4] X.env).length=2:=by rfl) (hst:(assignEach [.Name x p1,.Starred (.Name y p3) p4] X.env).findIdx? (·.1)=some 1:=by rfl)
  (hs:swapsWithSole [.Tuple [.Name x p1,.Starred (.Name y p3) p4] k p2] e pos.line X.env=pure false:=by rfl) (hw:swappedStores [.Tuple [.Name x p1,.Starred (.Name y p3) p4] k p2] e X.env=pure none:=by rfl) (h1:(assignEach [.Tuple [.Name x p1,.Starred (.Name y p3) p4] k p2] X.env).map (·.2)=[assign (.Tuple [.Name x p1,.Starred (.Name y p3) p4] k p2) X.env]:=by rfl) :
  SD X rg (.Assign [.Tuple [.Name x p1,.Starred (.Name y p3) p4] k p2] e pos) (IS i j fe):=
 PS.imp (xR he (F1 hc (gT (jB hN hi hx hf) (Eo (jB hN hj hy hf2) Rp) ha) hn hst) hs hw h1) λE σ H aG=>by
 obtain⟨env,B,Z,o,R,e,k⟩:=aG;obtain⟨d,e1,e⟩:=a_.mp e;cases d<;>try cases e
 rename_i ds;cases ds with
 | nil=>cases e
 | cons d ds=>
  cases e;refine⟨env,B,Z,_,R,e1,λv Z1 H1 x1 g1=>?_⟩;obtain⟨a,vs,rfl,hq,rr⟩:=g1;obtain⟨v0,vr,rfl,r0,r1⟩:=rr;refine⟨a,v0,vr,rfl,x1.zh.seq hq,λp hp=>?_⟩;have x2:Ex Z1 H1 (upd Z1 p (.lst vr)) (upd H1 p (.lst vr)):=by
   refine⟨df hp,df (x1.zh.free hp),λb ob hb=>?_,λb h1 h2=>?_,mV (λ_ _ _ h=>h) LY⟩
   .by_cases z:b=p
    .subst z;rw[ay]at hb ⊢;exact hb
    .rw[aB z]at hb ⊢;exact x1.zh _ _ hb
   .rw[aB (λz=>h1 (by rw[z];exact hp))];exact h2
  refine⟨v0,_,rfl,.ref p,_,rfl,rfl,?_⟩;have s1:aF Z1 (upd Z1 p (.lst vr)):=x2.z;have R2:=(((R.ext x1).ext x2).setF i (Rep.mono s1 d r0)).setF (d:=.lst ds) j ⟨p,vr,rfl,cJ.of ay,ar.mono s1 ds r1⟩;exact k _ _ _ ((x1.trans x2).part R.bh) R2
end
section
variable {X:Cx}{rg:Gr}{pins:XQ}{s:X8}{σ:L2.St}{H:Hp}
theorem qO(I:Inv X pins σ H s)(dx:D)(hx:pl dx=true):∀{es:Yl}{ys:Yn}{us:XX},iy es=true->ar X.K H es ys->ax ys us->us.map (dQ s.heap (toPy dx))=es.map λe=>eT e dx
 | [],_,_,_,h,r=>by cases(show _=[]from h);cases r;rfl
 | e::es,_,_,hp,h,r=>by
  unfold iy at hp;rw[C_]at hp;obtain⟨v,vr,z,h1,h2⟩:=h;subst z;cases r with
  | cons r1 r2=>
   obtain⟨as,q⟩:=dq I e hp.1 h1 r1;have ih:=qO I dx hx hp.2 h2 r2;rw[A_,A_,ih,pQ q (gw e h1),lM _ _ hp.1 hx]
def Cg:D->D->Ym
 | .lst es,d=>if eJ d<=60/\(pl d&&iy es)=true/\inD d es=true then some (.int (es.findIdx λe=>eT e d))else none
 | _,_=>none
def K7(K:Fg):V->Yn->Hp->VK->Prop:=λx vs H Q=>∃dx es p ys y,x=.ref p/\vs=[y]/\Rep K H dx y/\cJ K H p ys/\ar K H es ys/\(eJ dx<=60/\(pl dx&&iy es)=true/\inD dx es=true)/\Q (.int (es.findIdx λe=>eT e dx)) H
theorem Ey(hu:X.A.units+66<cLine):Sq X "list.index" (K7 X.K):=by
 intro pins s σ H x xs v us Q I rx rv h;obtain⟨dx,es,p,ys,y,rfl,rfl,h1,h2,rr,⟨hd,Ot,xq⟩,q⟩:=h;rw[C_]at Ot;obtain⟨FL,Lv⟩:=Ot;cases rx;obtain⟨u,rfl,ru⟩:=rv.one;have Fp:X.A.in1.units+64<cLine:=by show X.A.units+1+64<cLine;lia
 obtain⟨a5,r',pl,hz⟩:=I.list h2;have hm:=qO I dx FL Lv rr r';have lT:∀y,y∈a5.toArray->SeqAt.EqAt X.A.in1 s y u (dQ s.heap (toPy dx) y):=λy hy=>lJ I h1 ru Fp hd FL Lv rr r' y (by simpa using hy);have hj:es.findIdx (λe=>eT e dx)<es.length:=List.findIdx_lt_length_of_exists (by unfold inD at xq;rw[VT]at xq;exact xq);have hl1:=rr.len;have hl2:=r'.length;obtain⟨⟨cls,dd,data,sl⟩,n,ho,c1,c2,c3⟩:=pl;simp only at c1 c2 c3;subst c1 c2 c3;have at_:∀m (h1:m<a5.length) (h2:m<es.length),dQ s.heap (toPy dx) a5[m]=eT es[m] dx:=λm h1 h2=>by
  have e1:(a5.map (dQ s.heap (toPy dx)))[m]'(by simpa using h1)=dQ s.heap (toPy dx) a5[m]:=by simp
  have e2:(es.map λe=>eT e dx)[m]'(by simpa using h2)=eT es[m] dx:=by simp
  rw[<- e1,<- e2];simp only[hm]
 refine WQ PySem.F.slot_list_index ⟨_,ho,rfl⟩ PySem.F.entry_list_index (PySem.F.args_list_index_2 _ _)
  (PySem.SeqAt.list_indexAt p a5.toArray n _ sl u (dQ s.heap (toPy dx)) (es.findIdx λe=>eT e dx) (by rw[r_];lia) (by rw[Um]at hz;lia) ?_ ?_) ⟨ho,lT,⟨.int _,H,I.kept (t':=s.toks+1) (λ_ _ e=>e),⟨_,rfl⟩,q⟩⟩
 .show dQ s.heap (toPy dx) a5[es.findIdx λe=>eT e dx]=true;rw[at_ _ (by lia) hj];exact List.findIdx_getElem (p:=λe=>eT e dx)
 .intro m hms hlt;show dQ s.heap (toPy dx) a5[m]=false;rw[r_]at hms;rw[at_ m hms (by lia)];exact Xw.mpr (by simpa using List.not_of_lt_findIdx (p:=λe=>eT e dx) hlt)
variable {o e:Yf}{fa fb:Fe}{apos bU:Pos}{k:Nat}
theorem zm(hr:bM k X.A)(ha:PD X .cl o fa)(hb:PD X .cl e fb)(hZ:attributeBase o "index" X.env (eval o X.env)=eval o X.env:=by rfl)
  (uC:((backTo bU (starEach [e] X.env)).all (λx=>!x.1)&&(backToKw bU (keywordEach [] X.env)).all (λx=>x.1.isSome)
   && decide ([e].length+([]:List Keyword).length+(if([]:List Keyword).isEmpty then 0 else 1)<30))=true:=by rfl)
  (ib:(apos.endLine==bU.line)=true:=by rfl) (hst:starEach [e] X.env=(false,eval e X.env)::starEach [] X.env:=by rfl) :
  PD X .cl (.Call (.Attribute o "index" apos) [e] [] bU) (aq Cg fa fb):=
 PE.imp (AI VS PySem.F.slot_list_index PySem.F.type_list_index (Ey (ly hr)) ha (bL hb dX hst) hZ uC ib hst rfl) λσ H Q aG=>by
 obtain⟨env,B,Z,d,R,e,kq⟩:=aG;obtain⟨da,e1,e⟩:=a_.mp e;obtain⟨db,e2,e⟩:=a_.mp e;cases da<;>try cases e
 rename_i es _;obtain⟨hc,rfl⟩:=nz e;refine⟨env,B,Z,_,R,e1,λv Z1 H1 x1 g1=>?_⟩;obtain⟨a,vs,rfl,hq,rr⟩:=g1;refine⟨.inl ⟨rfl,vs,x1.zh.seq hq⟩,env,B,Z1,db,R.ext x1,e2,λv2 Z2 H2 x2 g2=>?_⟩;exact⟨db,es,a,vs,v2,rfl,rfl,Rep.mono x2.zh _ g2,x2.h.seq (x1.zh.seq hq),ar.mono x2.zh _ (ar.mono x2.z _ rr),hc,kq _ Z2 H2 (x1.trans x2) rfl⟩
end
end Mi
namespace Mi
open PySem PySem.Spec PyProof.Rows L2
inductive se(A:Around)(s:Shared)(q:Bool):List Value->List Value->Prop
 | nil:q=false->se A s q [] []
 | less {w:Value} {ws:List Value}:q=true->se A s q [] (w::ws)
 | more {v:Value} {vs:List Value}:q=false->se A s q (v::vs) []
 | same {v w:Value} {vs ws:List Value}:SeqAt.EqAt A s v w true->se A s q vs ws->se A s q (v::vs) (w::ws)
 | apart {v w:Value} {vs ws:List Value}:SeqAt.EqAt A s v w false->(∀(prog:Program)(wd:World)(E:Value->Shared->Prop)(Q:Value->Shared->Prop),Q (.bool q) s->wpAny (model prog wd) A (richCompare .Lt v w) Q E s)->se A s q (v::vs) (w::ws)
section
open PySem.SeqAt
open PySem.AutoSeq1 (wpAny_loadPart')
open PySem.MeetsSeq PySem.MeetsSeq2 PySem.MeetsSeq3
end
section
variable {X:Cx}{pins:XQ}{s:X8}{σ:L2.St}{H:Hp}
variable {l r:Yf}{fa fb:Fe}{ga gb:Gr}{pos p:Pos}{k:Nat}
end
end Mi
namespace Mi
open PySem PySem.Spec PyProof.Rows L2
def TN:D->Option Bool
 | .lst ds=>some !ds.isEmpty
 | _=>none
def fT(f:Fe):Fb:=λenv=>(f env).bind TN
theorem I0(h:PD X .cl e f)(he:∀whole,isTrue e X.env whole=(do let v <- whole;standAt e.pos;holding [v] (truthy v)):=by intro _;rfl):PB X e (fT f):=
 PT.imp (EX h he) λσ H Q aG=>by
  obtain⟨env,B,Z,b,R,e,k⟩:=aG;obtain⟨d,h1,h2⟩:=a_.mp e;cases d<;>cases h2;rename_i ds;refine⟨env,B,Z,_,R,h1,λv Z' H' x g=>?_⟩;obtain⟨a,vs,rfl,hq,rr⟩:=g;have hl:=rr.len;have:(!ds.isEmpty)=!vs.isEmpty:=by cases ds<;>cases vs<;>first | rfl | (simp at hl)
  exact⟨_,.inl ⟨vs,x.zh.seq hq,rfl⟩,by rw[<- this];exact k Z' H' x⟩
theorem nN{X:Cx}{rg:Gr}{st:Yg}:SD X rg st (λ_=>none):=λpins s σ H E I ⟨_,_,_,_,_,e,_⟩=>by cases e
theorem D9{P:X9}{w:Yb}{K:Fg}{mg:XS}{base:Ya}{k n:Nat}{f:Ye}{fd:Yc}{ps:XZ}{g:Gr}:jS P w K mg base uM k f fd ps (FF K n g λ_=>none):=
 ⟨λvs H Q E ⟨_,_,_,_,_,_,e,_⟩=>(by cases e),λA outer s H args us vs Q E _ _ _ _ ⟨_,_,_,_,_,_,e,_⟩=>(by cases e)⟩
structure Wd where
 P:Program
 w:World
 K:Fg
 mg:Str->Option Value
 base:Heap
abbrev Wd.Q(W:Wd)(d:Nat)(x:Str)(n:Nat)(g:Gr)(m:Yl->Ym):Prop:=∀j,d<=j->Oq W.P W.w W.K W.mg W.base j x n g m
abbrev Wd.At(W:Wd)(x:Str)(st:Yg):Prop:=∃f fd,Fn W.K x x st f fd/\PySem.W.keepIn W.K (.ref f)=true/\W.mg x=some (.ref f)
theorem eG.at{K:Fg}{h:Ya}{mg:XS}{x:Str}{st:Yg}{f:Ye}(X:K.In h)(G:h.Ns mainGlobals mg)(A:eG K x st f):∃f fd,Fn K x x st f fd/\PySem.W.keepIn K (.ref f)=true/\mg x=some (.ref f):=
 let ⟨fd,a⟩:=A.fn X G
 ⟨f,fd,a⟩
abbrev Bi(x:Str)(st:Yg)(ps:XZ):Prop:=∀(kV doc pm:X7)(an:XY)(eC ct:X7)(us:XX),us.length=ps.length->bindArgs (PySem.W.fnOf x x (gi st) (b0 st) (aO st) .none kV doc pm an eC ct) ⟨us,[]⟩=pure (ps.zip us)
variable {W:Wd}{x:Str}{st:Yg}{k:Nat}{g:Gr}{fb:Fs}
theorem gM(N:XZ)(n:Nat)(h:W.At x st)
  (hb:∀(eC:X7)(A:X_)(outer:List Env)(s:X8)(H:Hp)(E:XK)(f:Ye),bM k (A.deeper (envOfC x (aO st) s.sz f eC))->N.Nodup->wO (nv uM W.P W.w W.K W.mg W.base N x (aO st) f eC A outer s H E).nox g (b0 st) fb)
  (S:fu N (N.take n) (aO st):=by exact⟨rfl,rfl,rfl,by decide +kernel,rfl,by decide +kernel,by decide +kernel⟩)
  (hB:Bi x st (N.take n):=by intro _ _ _ _ _ _;first | exact OY λ_=>rfl | exact O5 λ_ _=>rfl | exact O7 λ_ _ _=>rfl | exact O3 λ_ _ _ _=>rfl | exact O1 λ_ _ _ _ _=>rfl):W.Q (k+1) x (N.take n).length g (bx fb N.length):=by
 obtain⟨f,fd,F,hk,hm⟩:=h;exact xK (Su F S (λeC A outer s H E hr=>hb eC A outer s H E f hr S.nd) (λ_ _ _ e=>e)) hk hm (F.binds hB)
theorem T4(N:XZ)(n:Nat)(F:Fn W.K x x st f fd)
  (hb:∀(eC:X7)(A:X_)(outer:List Env)(s:X8)(H:Hp)(E:XK)(f:Ye),bM k (A.deeper (envOfC x (aO st) s.sz f eC))->N.Nodup->wO (nv uM W.P W.w W.K W.mg W.base N x (aO st) f eC A outer s H E).nox g (b0 st) fb)
  (S:fu N (N.take n) (aO st):=by exact⟨rfl,rfl,rfl,by decide +kernel,rfl,by decide +kernel,by decide +kernel⟩):jS W.P W.w W.K W.mg W.base uM (k+1) f fd (N.take n) (FF W.K (N.take n).length g (bx fb N.length)):=
 Su F S (λeC A outer s H E hr=>hb eC A outer s H E f hr S.nd) λ_ _ _ e=>e
theorem T5{m:Nat->Yl->Ym}{fb:Nat->Fs}(N:XZ)(n i:Nat)(h:W.At x st)(h0:m 0=λ_=>none)(h1:∀i,m (i+1)=bx (fb i) N.length)
  (hb:∀i,Oq W.P W.w W.K W.mg W.base (k+i) x (N.take n).length g (m i)->∀(eC:X7)(A:X_)(outer:List Env)(s:X8)(H:Hp)(E:XK)(f:Ye),bM (k+i) (A.deeper (envOfC x (aO st) s.sz f eC))->N.Nodup->wO (nv uM W.P W.w W.K W.mg W.base N x (aO st) f eC A outer s H E).nox g (b0 st) (fb i))
  (S:fu N (N.take n) (aO st):=by exact⟨rfl,rfl,rfl,by decide +kernel,rfl,by decide +kernel,by decide +kernel⟩)
  (hB:Bi x st (N.take n):=by intro _ _ _ _ _ _;first | exact OY λ_=>rfl | exact O5 λ_ _=>rfl | exact O7 λ_ _ _=>rfl | exact O3 λ_ _ _ _=>rfl | exact O1 λ_ _ _ _ _=>rfl):W.Q (k+i) x (N.take n).length g (m i):=by
 induction i with
 | zero=>
  obtain⟨f,fd,F,hk,hm⟩:=h;exact λj _=>⟨f,fd,_,rfl,by rw[h0];exact D9,hm,hk,F.binds hB⟩
 | succ i c=>
  rw[h1];exact gM N n h (hb i (c (k+i) (m_ _))) S hB
section
variable {X:Cx}{k d n:Nat}{l:Yf}{es:X1}{fs:Fes}{m:Yl->Ym}{p pos:Pos}
theorem aE(C:∀j,d<=j->Oq X.prog X.w X.K X.mg X.base j x n g m)(hr:bM k X.A)(hl:PL X (l::es) fs)(hd:d<=k:=by first | decide | omega)(hn:(l::es).length=n:=by rfl)(hg:Gl X x:=by rfl)(nU:(x==("__debug__":Str))=false:=by decide)
  (he:starEach (l::es) X.env=(false,eval l X.env)::starEach es X.env:=by rfl) (j8:(backTo pos (starEach es X.env)).any (·.1)=false:=by rfl):PD X g (.Call (.Name x p) (l::es) [] pos) (λenv=>(fs env).bind m):=ER (C k hd) hr hl hn hg nU he j8
end
def Aj(f:Fe):Fs:=λenv=>(f env).bind λ_=>some (.nx env)
theorem Km{X:Cx}{g rg:Gr}{e:Yf}{f:Fe}{pos:Pos}(he:PD X g e f)(hs:swapsWith e none pos.line X.env=pure false:=by rfl):SD X rg (.Expr e pos) (Aj f):=λpins s σ H E I ⟨env,B,Z,o,R,e1,k⟩=>by
 refine nJ he hs pins s σ H E I ?_;obtain⟨d,e2,e3⟩:=a_.mp e1;cases e3;exact⟨env,B,Z,d,R,e2,λv Z' H' x gd=>k σ Z' H' (x.part R.bh) (R.ext x)⟩
def runN(f:Fs)(n:Nat)(ds:Yl):Ym:=(f (cQ n ds)).bind λo=>match o with | .nx _=>some .non | _=>none
theorem T2{W:Wd}{x:Str}{st:Yg}{k:Nat}{fb:Fs}(N:XZ)(n:Nat)(h:W.At x st)
  (hb:∀(eC:X7)(A:X_)(outer:List Env)(s:X8)(H:Hp)(E:XK)(f:Ye),bM k (A.deeper (envOfC x (aO st) s.sz f eC))->N.Nodup->wO (nv uM W.P W.w W.K W.mg W.base N x (aO st) f eC A outer s H E).nox .cl (b0 st) fb)
  (S:fu N (N.take n) (aO st):=by exact⟨rfl,rfl,rfl,by decide +kernel,rfl,by decide +kernel,by decide +kernel⟩)
  (hB:Bi x st (N.take n):=by intro _ _ _ _ _ _;first | exact OY λ_=>rfl | exact O5 λ_ _=>rfl | exact O7 λ_ _ _=>rfl | exact O3 λ_ _ _ _=>rfl | exact O1 λ_ _ _ _ _=>rfl):W.Q (k+1) x (N.take n).length .cl (runN fb N.length):=by
 obtain⟨f,fd,F,hk,hm⟩:=h;refine xK (F.ok S (λvs H Q E ⟨Z,ds,d,hl,_,r,_⟩=>by rw[<- r.len];exact hl) λeC A outer s H vs Q E hr ⟨Z,ds,d,hl,s1,r,e,kk⟩=>?_) hk hm (F.binds hB);refine⟨_,hb eC A outer s H E f hr S.nd,?_⟩;obtain⟨o,e1,e2⟩:=a_.mp e;refine⟨_,H,Z,o,Rl.start s1 r,e1,?_⟩;cases o with
 | nx _=>cases e2;exact λσ' Z' H' x R=>kk .non Z' H' x rfl
 | rt _=>cases e2
 | bk _=>cases e2
 | ct _=>cases e2
end Mi
namespace Lm
open PySem PySem.Spec PyProof.Rows L2
theorem Bg{pos:Pos}{a b:Int}{c v:X7}(l:XX)(h:TriplesOk l):codeAmong pos (l++[rawInt a,rawInt b,c])=some v->codeAmong pos l=some v\/v=c:=by
 fun_induction TriplesOk l with
 | case1=>
  intro z;simp only[Ud,codeAmong,rawInt]at z
  split at z
  .cases z;exact .inr rfl
  .cases z
 | case2 a' t b' u x rest ih=>
  intro z;simp only[Vv,codeAmong]at z ⊢
  split at z
  .rename_i hc;rw[j_ hc];exact .inl z
  .rename_i hc;rw[h_ hc];exact ih h z
 | case3 l h1 h2=>exact h.elim
def xS(f:Ye)(mk:X7->Yc)(h:Ya):Prop:=∃ctv,h.get? f=some {cls:=.type "function",data:=.func (mk ctv)}
theorem oV(f:Ye)(mk:X7->Yc):∀h1 h2:Ya,xS f mk h1->(∀o,h1.get? f=some o->h2.get? f=some o)->xS f mk h2:=λ_ _ ⟨c,e⟩ k=>⟨c,k _ e⟩
section
variable {X:Cx}{pins:XQ}{σ:L2.St}{H:Hp}{s:X8}{h':Ya}{P c:Ye}{q:Str}{ps:Array X7}{a b:Int}{mk:X7->Yc}{ctv:X7}{t':Tok}
theorem lam(I:L2.Inv X pins σ H s)(hP:H P=some (.tab q))(hps:s.heap.get? P=some {cls:=.none,data:=.fields ps})(ht:TriplesOk ps.toList)
  (hx:Heap.ExtBut P s.heap h') (h1:s.heap.objs.size<=c) (h2:c<h'.objs.size) (hc:h'.CodeRec (.ref c) q) (hn:h'.get? P=some {cls:=.none,data:=.fields (ps++#[rawInt a,rawInt b,.ref c])}) :
  L2.Inv X pins σ (upd (upd H c (.cod q)) h'.objs.size (.ext (xS h'.objs.size mk))) {s with heap:=h'.push {cls:=.type "function",data:=.func (mk ctv)},toks:=t'}:=by
 have fc:H c=none:=I.hok.fresh h1;have ff:H h'.objs.size=none:=I.hok.fresh (G_ h1 (VY h2));have ncf:c≠h'.objs.size:=B_ h2;have up:∀{b:Ye}{o:HO},H b=some o->upd (upd H c (.cod q)) h'.objs.size (.ext (xS h'.objs.size mk)) b=some o:=λ{b o} e=>by
  rw[aB (bj e ff),aB (bj e fc)];exact e
 have kp:∀b o,b≠P->s.heap.get? b=some o->(h'.push {cls:=.type "function",data:=.func (mk ctv)}).get? b=some o:=λb o hb e=>e_ _ (hx b o hb e);have nP:∀{b:Ye},H b=none->b≠P:=λ{b} n z=>by rw[z,hP]at n;cases n
 refine I.step (g':=s.gens) (d':=s.drawn) (t':=t') (ch:=[]) (λ_ z=>nomatch z) (λb o _ _ _ e n=>kp b o (nP n) e) (λb o _ _ _ e n=>⟨o.slots,kp b o (nP n) e⟩) (λb o _ e n=>?_) (λb o _ e=>?_)
  (λb xs e=>up e) (λb o u e=>up e) (λb ps e=>up e) (λm hm=>?_) (λb u e=>?_) I.bare
 .have lt:=q_ e;rw[aB (B_ (Q_ lt (G_ h1 (VY h2)))),aB (B_ (Q_ lt h1))];exact n
 .by_cases hb:b=P
  .subst hb;exact⟨_,e_ _ hn⟩
  .exact⟨o,kp b o hb e⟩
 .obtain⟨o,es,ep,ho,r⟩:=hm;exact⟨o,es,ep,kp _ o (nP I.free) ho,r⟩
 .by_cases hf:b=h'.objs.size
  .subst hf;rw[ay]at e;cases e;have z:(h'.push {cls:=.type "function",data:=.func (mk ctv)}).get? h'.objs.size=some {cls:=.type "function",data:=.func (mk ctv)}:=n_ _ rfl;exact⟨⟨ctv,z⟩,⟨_,z⟩,oV _ _⟩
  .rw[aB hf]at e
   by_cases hbc:b=c
   .subst hbc;rw[ay]at e;cases e;obtain⟨c2,oc,vs,t,e2,Ia,hd,hv⟩:=hc;cases e2;exact⟨oc,vs,t,e_ _ Ia,hd,hv⟩
   .rw[aB hbc]at e
    by_cases hbP:b=P
    .subst hbP;rw[hP]at e;cases e;obtain⟨ps0,e0,_,LK⟩:=(show bE X.prog X.w H s.heap b (.tab q)from I.hok b _ hP);rw[hps]at e0;cases e0;refine⟨_,e_ _ hn,?_,λpos v z=>?_⟩
     .rw[Array.toList_append];exact TriplesOk_snoc _ _ _ _ ht
     .rw[Array.toList_append]at z;rcases Bg _ ht z with z | z
      .obtain⟨c0,z1,z2⟩:=LK pos v z;exact⟨c0,z1,up z2⟩
      .exact⟨c,z,by rw[aB ncf,ay]⟩
    .refine(I.hok b u e).stay (λd v hd r=>kp d v ?_ r) (λd r=>up r) (λd xs r=>up r) λd xs r=>up r;rcases hd with z | z
     .rw[z];exact hbP
     .exact λw=>by rw[w,hP]at z;cases z
theorem JU(I:L2.Inv X pins σ H s)(hk:∀b o,s.heap.get? b=some o->h'.get? b=some o)(hs:s.heap.objs.size<=h'.objs.size) :
  L2.Inv X pins σ (upd H h'.objs.size (.ext (xS h'.objs.size mk))) {s with heap:=h'.push {cls:=.type "function",data:=.func (mk ctv)},toks:=t'}:=by
 have z:(h'.push {cls:=.type "function",data:=.func (mk ctv)}).get? h'.objs.size=some {cls:=.type "function",data:=.func (mk ctv)}:=n_ _ rfl;exact I.laid (t':=t') (λb u e=>e_ _ (hk b u e)) hs ⟨⟨ctv,z⟩,⟨_,z⟩,oV _ _⟩
end
section
variable {X:Cx}{pins:XQ}{σ:L2.St}{H:Hp}{s:X8}{P c0:Ye}{params:Arguments}{body:Yf}{scope:Yd}{pos:Pos}{CD:XT}
abbrev xO(X:Cx):Str:=X.env.qual++"<lambda>"
abbrev Cc(X:Cx)(params:Arguments)(body:Yf)(scope:Yd)(CD:XT)(c:Ye)(ctv:X7):Yc:=
 PySem.W.kla_fn "<lambda>" (xO X) params body scope CD ((X.mg "__name__").getD .none) (.ref c) ctv
theorem KR{Q:XO}{E:XO}(I:L2.Inv X pins σ H s)(hP:H P=some (.tab (xO X)))(AN:X.env.code=.ref c0)(C:PySem.W.CodeHd X.base c0 P)
  (hB:∃bm o,X.mg "__builtins__"=some (.ref bm)/\bm≠builtinsNs/\bm≠mainGlobals/\X.base.get? bm=some o/\o.cls=.type "module"/\o.dict=some builtinsNs/\o.data=.plain)
  (gv:closureFor scope X.env=pure CD) (LL:defaultsOf params X.env=([],[]))
  (k:∀f c H' s',L2.Inv X pins σ H' s'->aF H H'->H f=none->H' c=some (.cod (xO X))->H' f=some (.ext (xS f (Cc X params body scope CD c)))->Q (.ref f) s') :
  wpAny (model X.prog X.w) X.A (eval (.Lambda params body scope pos) X.env) Q E s:=by
 have kb:∀b o,X.base.get? b=some o->s.heap.get? b=some o:=λb o e=>(I.bs b o e).1;obtain⟨ps,e1,ht,LK⟩:=(show bE X.prog X.w H s.heap P (.tab (xO X))from I.hok P _ hP);have hg:s.heap.Ns mainGlobals X.mg:=by
  obtain⟨o,es,ep,e,r⟩:=I.ok.mod.glob;exact⟨o,es,ep,kb _ _ e,r⟩
 have nP:∀b o,X.base.get? b=some o->b≠P:=λb o e z=>by
  have:=(I.bs b o e).2;rw[z,hP]at this;cases this
 have hgP:mainGlobals≠P:=by
  obtain⟨o,es,ep,e,r⟩:=I.ok.mod.glob;exact nP _ _ e
 have hb:s.heap.BuiltinsAt X.mg P:=by
  obtain⟨bm,o,b1,b2,b3,b4,b5⟩:=hB;exact⟨bm,o,b1,b2,b3,nP _ _ b4,kb _ _ b4,b5⟩
 refine PySem.W.kla_eval LL ?_;cases hn:codeAmong pos ps.toList with
 | none=>
  refine PySem.W.kla_makeFunction gv I.ok.glob hg AN (C.keeps kb) e1 ht hn hgP hb λc' ctv h' tk hx Io hlt hrec htb=>?_;have I':=lam (mk:=Cc X params body scope CD c') (ctv:=ctv) (t':=tk) I hP e1 ht hx Io hlt hrec htb;have fc:H c'=none:=I.hok.fresh Io;have ff:H h'.objs.size=none:=I.hok.fresh (G_ Io (VY hlt));exact k _ c' _ _ I' (λb o e=>by rw[aB (bj e ff),aB (bj e fc)];exact e) ff (by rw[aB (B_ hlt),ay]) ay
 | some cv=>
  obtain⟨c',rfl,hc'⟩:=LK pos cv hn;refine PySem.W.kla_makeFunctionHit gv I.ok.glob hg AN (C.keeps kb) e1 ht hn hb λctv h' tk hk hsz=>?_;have I':=JU (mk:=Cc X params body scope CD c') (ctv:=ctv) (t':=tk) I hk hsz;have ff:H h'.objs.size=none:=I.hok.fresh hsz;exact k _ c' _ _ I' (λb o e=>by rw[aB (bj e ff)];exact e) ff (by rw[aB (bj hc' ff)];exact hc') ay
end
end Lm
namespace Lm
open PySem PySem.Spec PyProof.Rows L2 Mi
abbrev ui(X:Cx)(scope:Yd)(cl:XT)(f c L:Ye):Env:=newEnv scope L mainGlobals cl (xO X++".<locals>.") (some f) (.ref c) none builtinsNs
def vE(X:Cx)(A:X_)(scope:Yd)(cl:XT)(Nc:XZ)(f c:Ye)(s:X8)(H:Hp)(pn:XQ):Cx:=
 {X with A:=A.deeper (ui X scope cl f c s.sz),N:=Nc,s₀:=s,H₀:=H,env:=ui X scope cl f c s.sz,outer:=X.stack,stack:=ui X scope cl f c s.sz::X.stack,ex:=[],fn:=λ_=>false,calm:=true,pn:=pn,xe:=λ_ _=>False}
section
variable {X:Cx}{A:X_}{pins:XQ}{σ:L2.St}{H:Hp}{s:X8}{scope:Yd}{cl:XT}{Nc:XZ}{caps:X3}{f c:Ye}{x0:Str}{v:V}{u:X7}
theorem HF{h1:Ya}{tk:Nat}(I:Inv X pins σ H s)(hd:A.handled=none)(hfr:A.frames=some X.stack)(gv:iO (λx=>X.env.cells.lookup x) scope.names []=some cl)(ck:scope.kind=.function)(hnc:∀y∈scope.names,y.2≠.cell)
  (hN:Nc.map some=some x0::caps.map (λj=>X.N[j]?)) (iD:kU X scope caps=true) (h0:scope.names.lookup x0=some .local) (r:RelV v u)
  (Cz:h1.Ns s.sz (λx=>[(x0,u)].reverse.lookup x)) (hk:∀b o,s.heap.get? b=some o->h1.get? b=some o) :
  Inv (vE X A scope cl Nc f c s H (X.pn++pins)) [] ((nu 1 caps σ).set 0 (some v)) H {s with heap:=h1,toks:=tk}:=by
 have mem:=g0 gv (λp hp=>by cases hp);have low:∀x c,cl.lookup x=some c->X.env.cells.lookup x=some c:=λx c h=>mem (x,c) (Uo h);have FH:∀b:Ye,b∉(vE X A scope cl Nc f c s H (X.pn++pins)).ex:=λb z=>absurd (show b∈([]:X0)from z) (by simp);refine⟨⟨I.ok.mod,ck,rfl,rfl,m_ _,λx y c h1 h2=>I.ok.inj x y c (low x c h1) (low y c h2),λx hx=>?_,λx c hf _=>absurd (show false=true from hf) J_,λ_=>hd,Around.frames_deeper hfr,.inr ⟨rfl,rfl⟩,λb z=>absurd z (FH b),
   I.bs,G_ I.ok.bsz I.sz,λb _ _=>FH b,λb z=>absurd z (FH b),I.stack,I.stkFree,I.tb⟩,
  rfl,I.bare,Un.kept hk,⟨_,Cz,λi x v' e1 e2 e3=>?_⟩,λx c h=>?_,I.hok.fresh (m_ _),λx c h=>I.freeC x c (low x c h),λp hp=>?_,I.hok.kept hk,?_⟩
 .have uO:scope.names.lookup x=some .cell\/scope.names.lookup x=some .free:=hx;rcases uO with h | h
  .exact absurd rfl (hnc _ (Uo h))
  .obtain⟨c,hc⟩:=gZ gv x (.inl (Uo h));exact cT hc
 .cases i with
  | zero=>
   have w8:some (some v)=some (some v'):=e2;cases w8;have h1:(Nc.map some)[0]?=some (some x):=by rw[o_,show Nc[0]?=some x from e1];rfl
   rw[hN]at h1;have h2:some (some x0)=some (some x):=h1;cases h2;exact⟨u,r,.inl ⟨h0,by simp⟩⟩
  | succ i=>
   have w8:(caps.map λj=>(σ[j]?).getD none)[i]?=some (some v'):=e2;rw[o_]at w8;cases hj:caps[i]? with
   | none=>rw[hj]at w8;cases w8
   | some j=>
    rw[hj]at w8;have w8:(σ[j]?).getD none=some v':=Option.some.inj w8;have hσ:σ[j]?=some (some v'):=by
     cases q:σ[j]? with
     | none=>rw[q]at w8;cases w8
     | some o=>rw[q]at w8;exact UW some w8
    have hx:X.N[j]?=some x:=by
     have h1:(Nc.map some)[i+1]?=some (some x):=by rw[o_,show Nc[i+1]?=some x from e1];rfl
     rw[hN]at h1;have h2:(caps.map (λj=>X.N[j]?))[i]?=some (some x):=h1;rw[o_,hj]at h2;exact Option.some.inj h2
    have hc1:=D_.mp iD j (I_ hj);rw[hx]at hc1;simp only[C_,XH,Xh]at hc1;obtain⟨hc1,qK⟩:=hc1;obtain⟨m0,Q4,Q5⟩:=I.loc;obtain⟨u,ru,lk⟩:=Q5 j x v' hx hσ (.inr hc1);refine⟨u,ru,.inr ?_⟩;have Q6:∃c,X.env.cells.lookup x=some c/\s.heap.IsCell c (some u):=by
     rcases lk with ⟨h1,_⟩ | ⟨_,c,h1,h2⟩
     .have Lr:X.env.scope.names.lookup x=some .local:=h1;rcases hc1 with z | z<;>· rw[Lr]at z;cases z
     .exact⟨c,h1,h2⟩
    obtain⟨c,Q7,Q8⟩:=Q6;obtain⟨c',hc'⟩:=gZ gv x (.inl (Uo qK));obtain⟨Q9,Fv⟩:=cT hc';have e4:=low x Q9 Fv;rw[Q7]at e4;cases e4;obtain⟨o,ho,hd⟩:=Q8;exact⟨.inr qK,c,Fv,o,hk c o ho,hd⟩
 .obtain⟨v,o,ho,hd⟩:=I.cell x c (low x c h);exact⟨v,o,hk c o ho,hd⟩
 .have Pv:p∈X.pn++pins:=by simpa [vE]using hp
  obtain⟨h1,h2,h3,h4,h5⟩:=I.pin p Pv;exact⟨hk _ _ h1,h2,B_ (q_ h1),g9 I h3 h4,h5⟩
 .have:=UW List.length hN;simp only[c_,z_]at this;simp only[nu,V4,x_,VB,c_];rw[Nat.add_comm];exact this.symm
def Nv(X:Cx)(pins:XQ)(σ:L2.St)(Z H:Hp)(n:Int)(y:X7)(s':X8):Prop:=∃t H' Z',y=.int n t/\Inv X pins σ H' s'/\Ex Z H Z' H'
theorem EJ{params:Arguments}{body:Yf}{fl:Fe}{B Z:Hp}{env:En}{d:D}{n:Int}(I:Inv X pins σ H s)(R:Rl X.K B Z H env σ)(hfr:A.frames=some X.stack)(hr:bM k A)
  (hf:H f=some (.ext (xS f (Cc X params body scope cl c)))) (hc:H c=some (.cod (xO X)))
  (hb:∀ctv u,bindArgs (Cc X params body scope cl c ctv) ⟨[u],[]⟩=pure [(x0,u)]) (hco:scope.isCoroutine=false) (LM:scope.isGenerator=false)
  (gv:iO (λx=>X.env.cells.lookup x) scope.names []=some cl) (ck:scope.kind=.function) (hnc:∀y∈scope.names,y.2≠.cell)
  (hN:Nc.map some=some x0::caps.map (λj=>X.N[j]?)) (iD:kU X scope caps=true) (h0:scope.names.lookup x0=some .local)
  (hbody:∀s H pn,PD (vE X A scope cl Nc f c s H pn) .cl body fl) (r:RelV v u) (hv:Rep X.K Z d v) (w6:fl ((dj 1 caps env).set 0 (.F d))=some (.int n)) :
  wpAny (model X.prog X.w) A (call (.ref f) [u]) (Nv X pins σ Z H n) (λ_ _=>False) s:=by
 obtain⟨⟨ctv,hF⟩,_⟩:=(show bE X.prog X.w H s.heap f (.ext _)from I.hok f _ hf);obtain⟨oc,vs,t,h1,h2,h3⟩:=(show bE X.prog X.w H s.heap c (.cod _)from I.hok c _ hc);refine wpAny_call (PySem.W.kla_callFunE hr.depth hF rfl hco LM rfl ⟨c,oc,vs,t,rfl,h1,h2,h3⟩ ?_);refine We (hb ctv u) ?_;refine W3 hnc (by intro y hy;rw[y_.mp hy];exact h0) (λh1 Cz hsb=>?_) ck;have k:∀b o,s.heap.get? b=some o->h1.get? b=some o:=λb o e=>hsb.extBut b o (B_ (q_ e)) (e_ _ e);refine⟨I.nolimit.keeps k,PySem.W.kla_codeExpr ?_⟩;have J:=HF (f:=f) (c:=c) (tk:=s.toks+[(x0,u)].length) I hr.hd hfr gv ck hnc hN iD h0 r Cz k;have R':Rl X.K H Z H ((dj 1 caps env).set 0 (.F d)) ((nu 1 caps σ).set 0 (some v)):=(R.cap 1 caps (aF.refl _) R.zh).setF 0 hv;refine Ur (hbody s H (X.pn++pins) [] _ _ H (λw H'=>∃Z',Ex Z H Z' H'/\Rep X.K Z' (.int n) w) J ⟨_,H,Z,_,R',w6,λw Z' H' x g=>⟨Z',x,g⟩⟩) (λy s' hy=>?_) λe s' he=>he.elim;obtain⟨w,H',J',rw_,Z',x,g⟩:=hy;cases(show w=.int n from g);obtain⟨t,rfl⟩:=rw_;exact⟨t,H',Z',rfl,I.call' (ch:=[]) J'.os J'.base J'.hok J'.bare (λb z=>absurd z (by simp)),x⟩
end
section
variable {X:Cx}{A:X_}{pins:XQ}{σ:L2.St}{Z H:Hp}{l q I S:Ye}{xs:Yn}{kf:Nat->Int}{R:Result->X8->Prop}
abbrev IG(X:Cx)(A:X_)(σ:L2.St)(Z H:Hp)(q:Ye)(xs:Yn)(kf:Nat->Int):Prop:=∀(i:Nat)(v:V)(u:X7),xs[i]?=some v->RelV v u->∀(pins:XQ)(s:X8)(Z1 H1:Hp),Inv X pins σ H1 s->Ex Z H Z1 H1->
 wpAny (model X.prog X.w) A (call (.ref q) [u]) (Nv X pins σ Z1 H1 (kf i)) (λ_ _=>False) s
theorem NB{H1:Hp}{s:X8}{oS oI:Obj}(J:Inv X pins σ H1 s)(fS:cf X pins H1 S)(fI:cf X pins H1 I)(gS:s.heap.get? S=some oS)(gI:s.heap.get? I=some oI)(dS:∀v,oS.data≠.cell v)(dI:∀v,oI.data≠.cell v):Inv X (pins++[(S,oS),(I,oI)]) σ H1 s:=
 J.pins_of λp hp=>(Ub.mp hp).elim (λz=>J.pin p (N_ _ z)) λz=>by
  rcases p_.mp z with rfl | z
  .exact⟨gS,fS.1,fS.2.1,fS.2.2.1,dS⟩
  .rw[y_.mp z];exact⟨gI,fI.1,fI.2.1,fI.2.2.1,dI⟩
theorem cf.at{H1 H2:Hp}{b:Ye}(f:cf X pins H1 b)(h:H2 b=none):cf X pins H2 b:=⟨h,f.2⟩
theorem EG(hh:A.handled=none)(hS:cJ X.K H l xs)(S4:l≠I)(Pr:l≠S)(OM:S≠I)(turn:IG X A.in1 σ Z H q xs kf)
  (hR:∀i v u s' Z' H',xs[i]?=some v->RelV v u->(∀j,j<xs.length->kf i<=kf j/\(j<i->kf i<kf j))->Inv X pins σ H' s'->Ex Z H Z' H'->R (.ok (.ret u)) s') :
  ∀(r j i:Nat)(s:X8)(Z1 H1:Hp)(v:V)(vb:X7)(tb:Tok)(c:Nat),xs.length-(j+1)=r->j+1<=xs.length->Inv X pins σ H1 s->Ex Z H Z1 H1->cf X pins H1 S->cf X pins H1 I->
   s.heap.get? S=some (seqObj "list" #[vb,.int (kf i) tb] c)->s.heap.IsListIter I l (j+1)->xs[i]?=some v->RelV v vb->i<=j->(∀j',j'<=j->kf i<=kf j'/\(j'<i->kf i<kf j'))->
   codeAny (model X.prog X.w) A (.builtin "min.loop" ⟨[.ref I,.ref q,.ref S],[]⟩) R s:=by
 have xg:(toString "min"++toString ".loop":String)="min.loop":=by decide
 intro r
 induction r with
 | zero=>
  intro j i s Z1 H1 v vb tb c hr hj J x fS fI gS hit hv rv hij hbest;obtain⟨a5,ri,p,_⟩:=J.list (x.h.seq hS);have xq:a5.length=j+1:=by have:=ri.length;lia
  refine Vb WG ?_;rw[Vk UV _];show wpAny _ A.in1 (seqItems? (.ref S) >>= _) _ _ _;refine b_ (VQ gS rfl ?_);show wpAny _ A.in1 (tryCatch (pyNext (.ref I)) _ >>= _) _ _ _;refine b_ (Vy (V8 hh hit p.isList (by simp[xq]) λh' eb=>?_));have gS':=eb S _ OM gS;have J1:Inv X pins σ H1 {s with heap:=h'}:=J.turned (t':=s.toks) (λb o hb e=>eb b o hb e) fI.1 fI.2.1 fI.2.2.2.1 fI.2.2.2.2.1 fI.2.2.2.2.2;have s1:=UH h' S (Obj.mapSeq λ_=>(#[]:Array X7));show wpAny _ A.in1 (updateSeq S (λ_=>#[]) >>= _) _ _ _;refine b_ ?_;refine wpAny_updateSeq gS' rfl (b_ (Wv (d_ ?_)));exact hR i v vb _ _ _ hv rv (λj' hj'=>hbest j' (by lia)) (J1.turned (t':=s.toks) (λb o hb e=>(s1.2 b hb).trans e) fS.1 fS.2.1 fS.2.2.2.1 fS.2.2.2.2.1 fS.2.2.2.2.2) x
 | succ r ih=>
  intro j i s Z1 H1 v vb tb c hr hj J x fS fI gS hit hv rv hij hbest;have hlt:j+1<xs.length:=by lia
  obtain⟨a5,ri,p,_⟩:=J.list (x.h.seq hS);have hx:xs[j+1]?=some xs[j+1]:=l_ hlt;obtain⟨u,hu,ru⟩:=ri.get hx;refine Vb WG ?_;rw[Vk UV _];show wpAny _ A.in1 (seqItems? (.ref S) >>= _) _ _ _;refine b_ (VQ gS rfl ?_);show wpAny _ A.in1 (tryCatch (pyNext (.ref I)) _ >>= _) _ _ _;refine b_ (Vy (Vt hit p.isList (x:=u) (by simpa using hu) λh' wZ sb=>?_));have J1:Inv X pins σ H1 {s with heap:=h'}:=J.turned (t':=s.toks) (λb o hb e=>(sb.2 b hb).trans e) fI.1 fI.2.1 fI.2.2.2.1 fI.2.2.2.2.1 fI.2.2.2.2.2;obtain⟨Py,LN,Ia,CJ⟩:=id wZ;have gS1:=(sb.2 S OM).trans gS;have J2:=NB J1 fS fI gS1 LN (λv z=>by cases z) (λv z=>by rw[CJ]at z;cases z);show wpAny _ A.in1 (tryCatch (holding [u] (call (.ref q) [u])) _ >>= _) _ _ _;refine b_ (Vy (F_ (Ur (turn (j+1) _ u hx ru _ _ Z1 H1 J2 x) (λy s2 he=>?_) λ_ _ hF=>hF.elim)));obtain⟨t2,H2,Z2,rfl,J3,x2⟩:=he;have nS:=J3.pin (S,_) (N_ _ (N_ _ (.head _)));have nI:=J3.pin (I,_) (N_ _ (N_ _ (.tail _ (.head _))));have J4:=J3.unpinned;have LA:s2.heap.IsListIter I l (j+1+1):=⟨Py,nI.1,Ia,CJ⟩;show wpAny _ A.in1 (tryCatch (holding [u,.int (kf (j+1)) t2] (richCompare .Lt (.int (kf (j+1)) t2) (.int (kf i) tb) >>= _)) _ >>= _) _ _ _;refine b_ (Vy (F_ (b_ (CmpOf.ints_lt (prog:=X.prog) (w:=X.w) (A:=A.in1) (P:=λi v=>∃t,v=.int (kf i) t) kf (λi v h=>h) (j+1) i _ _ _ _ _ ⟨t2,rfl⟩ ⟨tb,rfl⟩ ?_))));refine b_ (F_ (UL ?_));refine b_ (Wv (d_ ?_));have AO:cf X pins H2 S:=cf.at fS nS.2.1;have Pz:cf X pins H2 I:=cf.at fI nI.2.1
  by_cases uF:kf (j+1)<kf i
  .have s1:=UH s2.heap S (Obj.mapSeq λ_=>#[u,.int (kf (j+1)) t2]);obtain⟨c2,qK⟩:∃c2,(s2.heap.update S (Obj.mapSeq λ_=>#[u,.int (kf (j+1)) t2])).get? S=some (seqObj "list" #[u,.int (kf (j+1)) t2] c2):=⟨_,W4 nS.1 λ_=>#[u,.int (kf (j+1)) t2]⟩;simp only[uF,decide_true,Vi];refine b_ ?_;refine wpAny_updateSeq nS.1 rfl (b_ (Wv ?_));rw[xg];refine d_ ⟨WZ UV _,ih (j+1) (j+1) _ Z2 H2 _ u t2 c2 (by lia) hlt (J4.turned (t':=s2.toks) (λb o hb e=>(s1.2 b hb).trans e) AO.1 AO.2.1 AO.2.2.2.1 AO.2.2.2.2.1 AO.2.2.2.2.2) (x.trans x2) AO Pz qK
    ⟨Py,(s1.2 I OM.symm).trans nI.1,Ia,CJ⟩ hx ru (m_ _) λj' hj'=>?_⟩
   by_cases e:j'=j+1
   .subst e;exact⟨by lia,λ_=>by lia⟩
   .have hb1:=hbest j' (by lia);have hb2:=hb1.1;exact⟨by lia,λ_=>by lia⟩
  .simp only[uF,decide_false,E_,Uu];refine b_ (Wv ?_);rw[xg];refine d_ ⟨WZ UV _,ih (j+1) i s2 Z2 H2 v vb tb c (by lia) hlt J4 (x.trans x2) AO Pz nS.1 LA hv rv (by lia) λj' hj'=>?_⟩
   by_cases e:j'=j+1
   .subst e;exact⟨by lia,λ_=>by lia⟩
   .exact hbest j' (by lia)
theorem HK{s:X8}{Q:XO}{E:XO}(hh:A.handled=none)(hS:cJ X.K H l xs)(J:Inv X pins σ H s)(zh:aF Z H)(hne:0<xs.length)(turn:IG X A.in1 σ Z H q xs kf)
  (hQ:∀i v u s' Z' H',xs[i]?=some v->RelV v u->(∀j,j<xs.length->kf i<=kf j/\(j<i->kf i<kf j))->Inv X pins σ H' s'->Ex Z H Z' H'->Q u s') :
  wpAny (model X.prog X.w) A (call (.builtin "min") [.ref l] [("key",.ref q)]) Q E s:=by
 have xg:(toString "min"++toString ".loop":String)="min.loop":=by decide
 obtain⟨a5,ri,p,_⟩:=J.list hS;have hll:=p.lt;refine kmk_tree PySem.F.kind_min PySem.F.plain_min PySem.F.entry_min (kmk_min_key _ _) ?_;show wpAny _ A.in1 (Builtin.Builtins.bindParams "min" ["key","default"] 0 ⟨[],[("key",.ref q)]⟩ >>= _) _ _ s;refine b_ (We (show Builtin.Builtins.bindParams "min" ["key","default"] 0 ⟨[],[("key",.ref q)]⟩=pure [some (.ref q),none]from rfl) ?_);refine b_ (d_ ?_);refine b_ (U9 p.isList ?_);refine b_ (W0 ?_ (UY _));rw[xg];have sI:(s.heap.push {cls:=.type "list_iterator",data:=.fields #[.ref l,.int 0 0]}).objs.size=s.heap.objs.size+1:=size_push' ..;rw[sI];have gI:((s.heap.push {cls:=.type "list_iterator",data:=.fields #[.ref l,.int 0 0]}).push (seqObj "list" #[] 0)).get? s.heap.objs.size=some {cls:=.type "list_iterator",data:=.fields #[.ref l,.int 0 0]}:=
  e_ _ (n_ _ rfl)
 have gS:((s.heap.push {cls:=.type "list_iterator",data:=.fields #[.ref l,.int 0 0]}).push (seqObj "list" #[] 0)).get? (s.heap.objs.size+1)=some (seqObj "list" #[] 0):=by rw[<- sI];exact n_ _ rfl
 have kk:∀b o,s.heap.get? b=some o->((s.heap.push {cls:=.type "list_iterator",data:=.fields #[.ref l,.int 0 0]}).push (seqObj "list" #[] 0)).get? b=some o:=λb o e=>e_ _ (e_ _ e);have fI:cf X pins H s.heap.objs.size:=J.fpOk (m_ _) (J.hok.fresh (m_ _));have fS:cf X pins H (s.heap.objs.size+1):=J.fpOk (VW _) (J.hok.fresh (VW _));have OM:s.heap.objs.size+1≠s.heap.objs.size:=XC _;have S4:l≠s.heap.objs.size:=B_ hll;have Pr:l≠s.heap.objs.size+1:=B_ (UR hll);have J0:Inv X pins σ H {s with heap:=(s.heap.push {cls:=.type "list_iterator",data:=.fields #[.ref l,.int 0 0]}).push (seqObj "list" #[] 0)}:=J.kept (t':=s.toks) kk;generalize hh2:(s.heap.push {cls:=.type "list_iterator",data:=.fields #[.ref l,.int 0 0]}).push (seqObj "list" #[] 0)=h2 at gI gS J0 kk;refine d_ ⟨WZ UV _,?_⟩;have hx:xs[0]?=some xs[0]:=l_ hne;obtain⟨uB,ri2,p2,_⟩:=J0.list hS;obtain⟨u,hu,ru⟩:=ri2.get hx;refine Vb WG ?_;rw[Vk UV _];show wpAny _ A.in1 (seqItems? (.ref _) >>= _) _ _ _;refine b_ (VQ gS rfl ?_);show wpAny _ A.in1 (tryCatch (pyNext (.ref s.heap.objs.size)) _ >>= _) _ _ _;refine b_ (Vy (Vt ⟨_,gI,rfl,rfl⟩ p2.isList (x:=u) (by simpa using hu) λh' wZ sb=>?_));have J1:Inv X pins σ H {s with heap:=h'}:=J0.turned (t':=s.toks) (λb o hb e=>(sb.2 b hb).trans e) fI.1 fI.2.1 fI.2.2.2.1 fI.2.2.2.2.1 fI.2.2.2.2.2;obtain⟨Py,LN,Ia,CJ⟩:=id wZ;have gS1:=(sb.2 _ OM).trans gS;have J2:=NB J1 fS fI gS1 LN (λv z=>by cases z) (λv z=>by rw[CJ]at z;cases z);show wpAny _ A.in1 (tryCatch (holding [u] (call (.ref q) [u])) _ >>= _) _ _ _;refine b_ (Vy (F_ (Ur (turn 0 _ u hx ru _ _ Z H J2 (Ex.refl zh)) (λy s2 he=>?_) λ_ _ hF=>hF.elim)));obtain⟨t2,H2,Z2,rfl,J3,x2⟩:=he;have nS:=J3.pin (_,_) (N_ _ (N_ _ (.head _)));have nI:=J3.pin (_,_) (N_ _ (N_ _ (.tail _ (.head _))));have J4:=J3.unpinned;have AO:cf X pins H2 (s.heap.objs.size+1):=cf.at fS nS.2.1;have Pz:cf X pins H2 s.heap.objs.size:=cf.at fI nI.2.1;have s1:=UH s2.heap (s.heap.objs.size+1) (Obj.mapSeq λ_=>#[u,.int (kf 0) t2]);obtain⟨c2,qK⟩:∃c2,(s2.heap.update (s.heap.objs.size+1) (Obj.mapSeq λ_=>#[u,.int (kf 0) t2])).get? (s.heap.objs.size+1)=some (seqObj "list" #[u,.int (kf 0) t2] c2):=⟨_,W4 nS.1 λ_=>#[u,.int (kf 0) t2]⟩;show wpAny _ A.in1 (updateSeq (s.heap.objs.size+1) (λ_=>#[u,.int (kf 0) t2]) >>= _) _ _ _;refine b_ ?_;refine wpAny_updateSeq nS.1 rfl ?_;rw[xg];refine d_ ⟨WZ UV _,EG hh hS S4 Pr OM turn (λi v u s' Z' H' h1 h2 h3 h4 h5=>hQ i v u s' Z' H' h1 h2 h3 h4 h5) _ 0 0 _ Z2 H2 _ u t2 c2 rfl hne
  (J4.turned (t':=s2.toks) (λb o hb e=>(s1.2 b hb).trans e) AO.1 AO.2.1 AO.2.2.2.1 AO.2.2.2.2.1 AO.2.2.2.2.2) x2 AO Pz qK ⟨Py,(s1.2 _ OM.symm).trans nI.1,Ia,CJ⟩ hx ru (m_ _) λj' hj'=>?_⟩
 have e:j'=0:=by lia
 subst e;exact⟨by lia,λh=>absurd h (VJ _)⟩
end
end Lm
namespace Mi
open PySem PySem.Spec PyProof.Rows L2
def Nw:Qv:=λ(a:Ye) (B H:Hp) (pre:Yl) (vs:Yn)=>∃bs:X0,vs=bs.map V.ref/\bs.Nodup/\bs.length=pre.length/\∀(i:Nat)(b:Ye),bs[i]?=some b->b≠a/\B b=none/\∃ns:X4,pre[i]?=some (D.lst (ns.map D.int))/\H b=some (.lst (ns.map V.int))
theorem P9:Ou Nw:=by
 refine⟨⟨[],rfl,VR,rfl,λi b h=>by simp at h⟩,λhm ⟨bs,e,hn,hl,h⟩=>⟨bs,e,hn,hl,λi b hb=>?_⟩,λs ⟨bs,e,hn,hl,h⟩=>⟨bs,e,hn,hl,λi b hb=>?_⟩⟩
 .obtain⟨h1,h2,ns,h3,h4⟩:=h i b hb;exact⟨h1,h2,ns,h3,hm b _ h1 h4⟩
 .obtain⟨h1,h2,ns,h3,h4⟩:=h i b hb;exact⟨h1,s.free h2,ns,h3,h4⟩
theorem qR{K:Fg}{Z:Hp}:∀{ns:X4}{vs:Yn},ar K Z (ns.map .int) vs->vs=ns.map V.int
 | [],vs,h=>h
 | n::ns,vs,⟨v,r,e,h,q⟩=>by rw[e,A_,qR q,show v=V.int n from h]
section
variable {X:Cx}{a:Ye}{elt:Yf}{fe:Fe}
theorem Ca(hx:∀e s,¬X.xe e s)(h:PD X .nw elt fe)(hz:∀env d,fe env=some d->∃ns:X4,d=.lst (ns.map .int)):Act X Nw a (EE X a elt) (aC fe):=by
 intro pins s σ H B Z env pre xs P E A e hl hP;obtain⟨d,e1,e2⟩:=a_.mp e;cases e2;obtain⟨ns,rfl⟩:=hz env d e1;obtain⟨vs,hv,rr,bs,ebs,bn,bl,bh⟩:=A.ac;refine b_ (Ur (h pins s σ H _ A.I ⟨env,B,Z,_,A.R,e1,λv Z1 H1 x1 g1=>(show ∃Z1,Ex Z H Z1 H1/\Gd X.K Z1 H H1 .nw (.lst (ns.map .int)) v from⟨Z1,x1,g1⟩)⟩) (λu s1 aG=>?_) λe s z=>(hx e s z).elim);obtain⟨v,H1,I1,r1,Z1,x1,g1⟩:=aG;obtain⟨b,us,ds,rfl,e3,ON,hb1,hb2,r⟩:=g1;cases e3;cases qR r;have hne:H a≠none:=by rw[hv];simp
 have S5:b≠a:=λz=>by subst z;exact hne ON
 refine b_ (Ur (md pins s1 σ H1 (.ref a) [.ref b] (.ref a) [u] (λy H2=>H2=upd H1 a (.lst (vs++[.ref b]))) I1 rfl (.cons r1 .nil) ⟨a,vs,.ref b,rfl,rfl,x1.h _ _ hv,by rw[<- rr.len,Um];simp at hl;lia,rfl⟩) (λw s2 aG=>?_) λe s z=>(hx e s z).elim);obtain⟨y,H2,I2,r2,q⟩:=aG;subst q;have s1':aF Z1 (upd Z1 b (.lst (ns.map V.int))):=df hb2;have xf:Ex Z H (upd Z1 b (.lst (ns.map V.int))) H1:=⟨x1.h,x1.z.trans s1',mh x1.zh hb1,λc hc e=>by rw[aB (λz=>hc (by rw[z];exact ON))];exact x1.fr c hc e,mV x1.nf LY⟩;have hz1:=xf.fr a hne A.hz;have R1:=A.R.ext xf;have rb:Rep X.K (upd Z1 b (.lst (ns.map V.int))) (.lst (ns.map .int)) (.ref b):=⟨b,_,rfl,cJ.of ay,ar.ints ns⟩;refine d_ (hP s2 σ _ _ ⟨I2,R1.other A.hb hz1 A.nO,A.nO,A.hb,hz1,vs++[.ref b],ay,(ar.mono xf.z pre rr).app (ar.one rb),bs++[b],by rw[ebs,H_];rfl,?_,by simp[bl],λi c hc=>?_⟩ ?_)
 .refine List.nodup_append.mpr ⟨bn,by simp,λc hc c' hc' e=>?_⟩;rw[y_.mp hc']at e;subst e;obtain⟨i,hi⟩:=UF.mp hc;obtain⟨_,_,_,_,h4⟩:=bh i c hi;rw[ON]at h4;cases h4
 .rw[List.getElem?_append]at hc
  split at hc
  .rename_i hlt;obtain⟨h1,h2,ms,h3,h4⟩:=bh i c hc;exact⟨h1,h2,ms,by rw[S_ (by lia)];exact h3,by rw[aB h1];exact x1.h _ _ h4⟩
  .rename_i Io;have hi:i-bs.length=0:=by
    rcases Nat.eq_zero_or_pos (i-bs.length)with z | z
    .exact z
    .rw[T9 (by simp;lia)]at hc;cases hc
   rw[hi]at hc;cases hc;refine⟨S5,A.R.bh.free ON,ns,?_,by rw[aB S5];exact hb1⟩;rw[R_ (by lia),show i-pre.length=0 by lia]
   rfl
 .exact⟨c6 R1.bh A.hb,xf.z,c6 R1.zh hz1,λc hc e=>xf.fr c (mr A.R.bh hc) e,xf.nf⟩
theorem B5(hx:∀e s,¬X.xe e s)(hg:GD X tg t)(CA:Es X ifs c)(he:PD X .nw elt fe)(hz:∀env d,fe env=some d->∃ns:X4,d=.lst (ns.map .int))(h:gens[d]?=some ⟨tg,iter,ifs,0⟩:=by rfl)(h2:gens[d+1]?=none:=by rfl):IP X Nw a elt gens scope pos d tg ifs t c (aC fe):=
 ⟨hg,CA,_,Ca hx he hz,λ_=>sV (rn h h2)⟩
end
def Hc:D->D->Ym
 | .lst xs,.int k=>if 0<=k/\xs.length*k.toNat<=16000000/\k<1000000000 then some (.lst (List.replicate k.toNat xs).flatten)else none
 | _,_=>none
theorem ar.rep{K:Fg}{Z:Hp}{ds:Yl}{vs:Yn}(h:ar K Z ds vs):∀(k:Nat),ar K Z (List.replicate k ds).flatten (List.replicate k vs).flatten
 | 0=>rfl
 | k+1=>by rw[Uw,Uw,U_,U_];exact h.app (ar.rep h k)
theorem KP(ha:PD X .nw l fa)(hb:PD X gb r fb):PD X .nw (.BinOp l .Mult r pos) (aq Hc fa fb):=PE.imp (Je JR ha hb) λσ H Q aG=>by
 obtain⟨env,B,Z,d,R,e,k⟩:=aG;obtain⟨x,y,e1,e2,e3⟩:=oN e;cases x<;>try cases e3
 cases y<;>try cases e3
 rename_i ds n;obtain⟨hc,rfl⟩:=nz e3;refine⟨env,B,Z,_,R,e1,λv Z1 H1 x1 g1=>⟨env,B,Z1,_,R.ext x1,e2,λu Z2 H2 x2 g2=>?_⟩⟩;obtain⟨b,us,ds',rfl,e4,ON,hb1,hb2,rr⟩:=g1;cases e4;cases g2.int;have hl:=rr.len;refine⟨b,n,us,rfl,rfl,x2.h _ _ hb1,by lia,by lia,by rw[<- hl,Um];lia,λp hp=>?_⟩;have x12:=x1.trans x2;exact k _ Z2 _ (x12.trans (Ex.newL x12.zh hp)) ⟨p,_,_,rfl,rfl,x12.h.free hp,ay,x12.zh.free hp,(ar.mono x2.z ds rr).rep _⟩
def rGetL:V->V->Hp->VK->Prop:=λo i H Q=>∃p xs k v,o=.ref p/\i=.int k/\H p=some (.lst xs)/\0<=k/\xs[k.toNat]?=some v/\Q v H
theorem CV:MB X rGetL:=by
 intro pins s σ H o i ov iv Q I ro ri h;obtain⟨p,xs,k,v,rfl,rfl,hp,hk,hv,q⟩:=h;cases ro;obtain⟨t,rfl⟩:=ri;obtain⟨a5,r,pl,hz⟩:=I.list (cJ.of hp);obtain⟨u,e,ru⟩:=ax.get r hv;have hl:=(k_.mp hv).1;have hn:=lY;exact wpAny_getItem_list pl.isList hk (by lia) (by simpa using e) ⟨v,H,I,ru,q⟩
def KF:Yl->Option X4
 | []=>some []
 | .int n::r=>(KF r).bind λns=>some (n::ns)
 | _=>none
def IA:Yl->Option (List X4)
 | []=>some []
 | .lst ds::r=>(KF ds).bind λns=>(IA r).bind λg=>some (ns::g)
 | _=>none
theorem ug:∀(ns:X4),KF (ns.map .int)=some ns
 | []=>rfl
 | n::ns=>by show(KF (ns.map .int)).bind _=_;rw[ug ns];rfl
theorem Dy:∀{xs:Yl}{g:List X4},IA xs=some g->xs.length=g.length/\∀(i:Nat)(ns:X4),xs[i]?=some (.lst (ns.map .int))->g[i]?=some ns
 | [],_,h=>by cases h;exact⟨rfl,λi ns h=>by simp at h⟩
 | x::xs,g,h=>by
  cases x<;>try cases h
  rename_i ds;obtain⟨ms,h1,h⟩:=a_.mp h;obtain⟨g',h2,h⟩:=a_.mp h;cases h;obtain⟨l1,l2⟩:=Dy h2;refine⟨by rw[z_,z_,l1],λi ns hi=>?_⟩;cases i with
  | zero=>
   simp at hi;subst hi;rw[ug]at h1;cases h1;rfl
  | succ i=>simpa using l2 i ns (by simpa using hi)
def xr(g:List X4)(r c n:Int):Option (List X4):=if 0<=r/\0<=c then(g[r.toNat]?).bind λrow=>(row[c.toNat]?).bind λx=>some (g.set r.toNat (row.set c.toNat (x+n)))else none
def FE(n:Int):Yl->List X4->Option (List X4)
 | [],g=>some g
 | .tup [.int r,.int c]::cs,g=>(xr g r c n).bind λg'=>FE n cs g'
 | _::_,_=>none
def oj(q:D->Yk):Yl->List X4->Option (List X4)
 | [],g=>some g
 | .tup [s,.int n]::ds,g=>(q s).bind λcs=>(FE n cs g).bind λg'=>oj q ds g'
 | _::_,_=>none
def gD(g:List X4):D:=.lst (g.map λns=>.lst (ns.map .int))
def noO(env:En):Bool:=env.all λs=>match s with | .O _=>false | _=>true
theorem Ka(h:noO env=true)(i:Nat)(ds:uE):env[i]?≠some (.O ds):=λe=>by
 have:=D_.mp h _ (I_ e);cases this
theorem lQ{env:En}{s:Slot}(hs:∀w,s≠.O w)(h:∀(i:Nat) ds,env[i]?≠some (.O ds))(j:Nat):∀(i:Nat) ds,(env.set j s)[i]?≠some (.O ds):=λi ds e=>by
 by_cases hj:j=i
 .subst hj;rcases W9 j env.length with hl | hl
  .rw[t_ hl]at e;cases e;exact hs ds rfl
  .rw[T9 (by simpa using hl)]at e;cases e
 .rw[i_ hj]at e;exact h i ds e
structure uI(a:Addr)(bs:List Addr)(g:List (List Int))(B Z H:Hp):Prop where
 ha:H a=some (.lst (bs.map V.ref))
 ba:B a=none
 za:Z a=none
 nd:bs.Nodup
 len:bs.length=g.length
 el:∀(i:Nat)(b:Addr),bs[i]?=some b->b≠a/\B b=none/\Z b=none/\∃ns:List Int,g[i]?=some ns/\H b=some (.lst (ns.map V.int))
theorem uI.ext(G:uI a bs g B Z H)(x:Ex Z H Z' H'):uI a bs g B Z' H':=
 ⟨x.h _ _ G.ha,G.ba,x.fr a (by rw[G.ha];simp) G.za,G.nd,G.len,λi b hb=>by
  obtain⟨h1,h2,h3,ns,h4,h5⟩:=G.el i b hb;exact⟨h1,h2,x.fr b (by rw[h5];simp) h3,ns,h4,x.h _ _ h5⟩⟩
theorem uI.add(G:uI a bs g B Z H)(h:xr g r c n=some g'):∃(b:Ye)(ns:X4)(x:Int),0<=r/\0<=c/\bs[r.toNat]?=some b/\B b=none/\Z b=none/\H b=some (.lst (ns.map V.int))/\ns[c.toNat]?=some x/\
  uI a bs g' B Z (upd H b (.lst ((ns.map V.int).set c.toNat (.int (x+n))))):=by
 unfold xr at h
 split at h
 case isFalse=>cases h
 rename_i hrc;obtain⟨row,h1,h⟩:=a_.mp h;obtain⟨x,h2,h⟩:=a_.mp h;cases h;have hl:r.toNat<bs.length:=by rw[G.len];exact(k_.mp h1).1
 have hb:bs[r.toNat]?=some bs[r.toNat]:=l_ hl;obtain⟨e1,e2,e3,ns,e4,e5⟩:=G.el _ _ hb;rw[h1]at e4;cases e4;refine⟨bs[r.toNat],row,x,hrc.1,hrc.2,hb,e2,e3,e5,h2,?_⟩;refine⟨by rw[aB (UB e1)];exact G.ha,G.ba,G.za,G.nd,by rw[V4];exact G.len,λi b hbi=>?_⟩;obtain⟨d1,d2,d3,ms,d4,d5⟩:=G.el i b hbi;refine⟨d1,d2,d3,?_⟩
 by_cases hi:r.toNat=i
 .subst hi;rw[hb]at hbi;cases hbi;rw[h1]at d4;cases d4;exact⟨row.set c.toNat (x+n),t_ (by rw[<- G.len];exact hl),by rw[ay,List.map_set]⟩
 .refine⟨ms,by rw[i_ hi];exact d4,?_⟩;rw[aB (λz=>hi ?_)]
  .exact d5
  .obtain⟨l2,z2⟩:=k_.mp hbi;exact((XA G.nd).mp (z2.trans z)).symm
def FZ(Z:Hp)(l:X0):Hp:=λa=>if a∈l then none else Z a
def z5(i js jm jr jc:Nat)(fc:Fe)(Jo:Fi)(q:D->Yk):Fs:=λenv=>(fc env).bind λd=>match d with
 | .lst xs=>if noO env=true/\i<env.length/\js<env.length/\jm<env.length/\jr<env.length/\jc<env.length then(IA xs).bind λg=>(Jo (env.set i .un)).bind λds=>(oj q ds g).bind λg'=>some (.rt (gD g'))else none
 | _=>none
theorem QM{α:Type}{P:α->Prop}{a b c d e:α}(h1:P a)(h2:P b)(h3:P c)(h4:P d)(h5:P e):∀x∈[a,b,c,d,e],P x:=by simp only[List.forall_mem_cons];exact⟨h1,h2,h3,h4,h5,λ_ h=>nomatch h⟩
section
variable {X:Cx}{comp iter1 iter2:Yf}{fc:Fe}{Jo fi2:Fi}{q:D->Yk}{tb sh mn rw cn:Str}{k1 k2:Nat}{pt p1 p2 p3 p4 p5 p6 p7 p8 p9 pa pb pc pd pe pf pg ph spos:Pos}
theorem Gw(i js jm jr jc:Nat)(hp:PassesOwn (model X.prog X.w) X.A X.env X.xe)(a7:X.calm=true)(hN:X.N.Nodup)(hc:FA X Nw comp fc)
  (Ob:ID X (.Tuple [.Name sh p1,.Name mn p2] k1 p3) iter1 Jo) (Q2:ID X (.Tuple [.Name rw p4,.Name cn p5] k2 p6) iter2 fi2) (hq:∀env s,cy env js=some s->fi2 env=q s)
  (hd:i≠js/\i≠jm/\i≠jr/\i≠jc/\js≠jm/\js≠jr/\js≠jc/\jm≠jr/\jm≠jc/\jr≠jc:=by decide)
  (ei:X.N[i]?=some tb:=by rfl) (es:X.N[js]?=some sh:=by rfl) (em:X.N[jm]?=some mn:=by rfl) (er:X.N[jr]?=some rw:=by rfl) (ec:X.N[jc]?=some cn:=by rfl)
  (hl:∀x∈[tb,sh,mn,rw,cn],X.env.scope.names.lookup x=some .local:=by exact QM rfl rfl rfl rfl rfl)
  (nU:∀x∈[tb,sh,mn,rw,cn],(x==("__debug__":Str))=false/\(x==("__classdict__":Str))=false:=by decide +kernel)
  (LB:swapsWith comp (some (.Name tb pt)) spos.line X.env=pure true:=by rfl)
  (OE:∀x,foldedSetIterable iter1 X.env x=pure x:=by intro _;rfl) (OF:∀x,foldedSetIterable iter2 X.env x=pure x:=by intro _;rfl)
  (hn1:(assignEach [.Name sh p1,.Name mn p2] X.env).length=2:=by rfl) (ht1:(assignEach [.Name sh p1,.Name mn p2] X.env).findIdx? (·.1)=none:=by rfl)
  (ha1:(assignEach [.Name sh p1,.Name mn p2] X.env).map (·.2)=assign (.Name sh p1) X.env::(assignEach [.Name mn p2] X.env).map (·.2):=by rfl) (Rp:(assignEach [.Name mn p2] X.env).map (·.2)=assign (.Name mn p2) X.env::(assignEach [] X.env).map (·.2):=by rfl)
  (Rq:(assignEach [.Name rw p4,.Name cn p5] X.env).length=2:=by rfl) (PC:(assignEach [.Name rw p4,.Name cn p5] X.env).findIdx? (·.1)=none:=by rfl)
  (ha3:(assignEach [.Name rw p4,.Name cn p5] X.env).map (·.2)=assign (.Name rw p4) X.env::(assignEach [.Name cn p5] X.env).map (·.2):=by rfl) (ha4:(assignEach [.Name cn p5] X.env).map (·.2)=assign (.Name cn p5) X.env::(assignEach [] X.env).map (·.2):=by rfl)
  (PF:tm (.Name rw p8):=by intro _ _;rfl)
  (hst:∀ov iv new,augStore (.Name cn pa) ov iv new=(do holding [new,ov,iv] (setItem ov iv new);release [new,ov,iv] [];pure .next):=by intros;rfl) :
  wO X .cl [.Assign [.Name tb pt] comp spos,.For (.Tuple [.Name sh p1,.Name mn p2] k1 p3) iter1 [.For (.Tuple [.Name rw p4,.Name cn p5] k2 p6) iter2 [.AugAssign (.Subscript (.Subscript (.Name tb p7) (.Name rw p8) p9) (.Name cn pa) pb) .Add (.Name mn pc) pd] [] pe] [] pf,.Return (some (.Name tb pg)) ph]
   (z5 i js jm jr jc fc Jo q):=by
 have lc:∀x∈[tb,sh,mn,rw,cn],Loc X.env.scope x:=λx hx=>.inl (hl x hx);have vs:∀x∈[tb,sh,mn,rw,cn],uL X.env.scope x:=λx hx=>.inl (hl x hx);have fn:∀x∈[tb,sh,mn,rw,cn],X.fn x=true\/X.env.scope.names.lookup x=some .local:=λx hx=>.inr (hl x hx);have nm:∀{j:Nat}{x:Str}{pos:Pos},X.N[j]?=some x->x∈[tb,sh,mn,rw,cn]->PE X (.Name x pos) (DI j):=λ{j x pos} e hx=>du e (vs x hx) (nU x hx).1 (nU x hx).2;have gn:∀{j:Nat}{x:Str}{pos:Pos},X.N[j]?=some x->x∈[tb,sh,mn,rw,cn]->PG X (.Name x pos) (rR j):=λ{j x pos} e hx=>jB hN e (lc x hx) (fn x hx);have PH:tb∈[tb,sh,mn,rw,cn]:=by simp
 have msh:sh∈[tb,sh,mn,rw,cn]:=by simp
 have S6:mn∈[tb,sh,mn,rw,cn]:=by simp
 have S7:rw∈[tb,sh,mn,rw,cn]:=by simp
 have S8:cn∈[tb,sh,mn,rw,cn]:=by simp
 have S3:=sS (pos:=pf) hp a7 Ob (xT a7 (gT (gn es msh) (gT (gn em S6) sY Rp) ha1) hn1 ht1) (jH (sS (pos:=pe) hp a7 Q2 (xT a7 (gT (gn er S7) (gT (gn ec S8) sY ha4) ha3) Rq PC)
  (jH (G5 (pos:=pd) (tpos:=pb) (IY (pos:=p9) zJ (nm (pos:=p7) ei PH) (nm er S7) PF) (nm ec S8) CV (nm (pos:=pc) em S6) J9 set_list hst)) OF)) OE
 have S2:PS X (.Assign [.Name tb pt] comp spos) (λE σ H=>∃env B Z d,Rl X.K B Z H env σ/\fc env=some d/\∀v Z' H',Ex Z H Z' H'->Gd X.K Z' H H' .nw d v->(∃a xs vs,v=.ref a/\d=.lst xs/\H' a=some (.lst vs)/\Nw a H H' xs vs)->E.nx (σ.set i (some v)) H'):=
  λpins s σ H E I h=>hc.ex tb pt spos i LB hN ei (lc tb PH) (fn tb PH) pins s σ H E I h
 refine qg.imp (lS S2 (lS S3 (jH (tj (nm ei PH))))) λE σ H aG=>?_;refine cC λ_ kq=>?_;obtain⟨env,B,Z,o,R,e,kk⟩:=aG;obtain⟨d,e1,e⟩:=a_.mp e;cases d<;>try cases e
 rename_i xs;obtain⟨Jk,e⟩:(noO env=true/\i<env.length/\js<env.length/\jm<env.length/\jr<env.length/\jc<env.length)/\((IA xs).bind λg=>(Jo (env.set i .un)).bind λds=>(oj q ds g).bind λg'=>some (Out.rt (gD g')))=some o:=by
  by_cases h:noO env=true/\i<env.length/\js<env.length/\jm<env.length/\jr<env.length/\jc<env.length
  .refine⟨h,?_⟩;dsimp only at e;rw[j_ h]at e;exact e
  .dsimp only at e;rw[h_ h]at e;cases e
 obtain⟨g,u1,e⟩:=a_.mp e;obtain⟨ds,f1,e⟩:=a_.mp e;obtain⟨gf,o1,e⟩:=a_.mp e;cases e;obtain⟨gl,gat⟩:=Dy u1;obtain⟨Jk,li,ls,lm,lr,lc'⟩:=Jk;obtain⟨d1,d2,d3,d4,d5,d6,d7,d8,d9,d10⟩:=hd;refine kq ⟨env,B,Z,_,R,e1,λv Z1 H1 x1 g1 nw=>?_⟩;clear kq;refine cC λ_ kq=>?_;obtain⟨a,SO,SR,rfl,ex,hv,bs,rfl,bn,bl,bh⟩:=nw;cases ex;obtain⟨a',vs2,ds2,ea,e3,ha0,ha1',ha2',rr⟩:=g1;cases ea;cases e3;have nbs:∀b∈bs,H b=none:=λb hb=>by
  obtain⟨j,hj⟩:=UF.mp hb;exact(bh j b hj).2.1
 have xx:Ex Z H (FZ Z1 bs) H1:=⟨x1.h,λc o h=>by
   unfold FZ;rw[h_ (λhc=>by rw[R.zh.free (nbs c hc)]at h;cases h)];exact x1.z c o h,λc o h=>by
   unfold FZ at h
   split at h
   .cases h
   .exact x1.zh c o h,λc hc h=>by
   unfold FZ
   split
   .rfl
   .exact x1.fr c hc h,λc ob u h=>by
   unfold FZ at h
   split at h
   .cases h
   .exact x1.nf c ob u h⟩
 have R1:=(R.ext xx).setV i (some (.ref a));have no1:∀(j:Nat) w,(env.set i Slot.un)[j]?≠some (.O w):=lQ (λw z=>by cases z) (Ka Jk) i;have G1:uI a bs g B (FZ Z1 bs) H1:=by
  refine⟨hv,R.bh.free ha0,by unfold FZ;split;rfl;exact ha2',bn,by rw[bl];exact gl,λj b hb=>?_⟩;obtain⟨b1,b2,ns,b3,b4⟩:=bh j b hb;exact⟨b1,R.bh.free b2,by unfold FZ;rw[j_ (I_ hb)],ns,gat j ns b3,b4⟩
 have sa:(σ.set i (some (V.ref a)))[i]?=some (some (.ref a)):=t_ (by rw[<- R.len];exact li);refine kq ⟨env.set i .un,B,FZ Z1 bs,ds,R1,f1,λJ Z2 H2 x2 wk=>?_⟩;clear kq;refine⟨λk m σ H=>m=ds.length-k/\k<=ds.length/\∃env' Z' g',aF Z2 Z'/\Ex Z B Z' H/\Rl X.K B Z' H env' σ/\(∀(j:Nat) w,env'[j]?≠some (.O w))/\env'.length=env.length/\σ[i]?=some (some (.ref a))/\uI a bs g' B Z' H/\oj q (ds.drop k) g'=some gf,
  ⟨ds.length,by simp,UY _,env.set i .un,Z2,g,aF.refl _,(xx.trans x2).part R.bh,R1.ext x2,no1,by simp,sa,G1.ext x2,by simpa using o1⟩,?_⟩
 intro k m σ3 H3 hI;refine cC λ_ kq=>?_;obtain⟨rfl,hk,env3,Z3,g3,s3,x3,R3,no3,Rt,S9,G3,o3⟩:=hI;obtain⟨w1,w2⟩:=wk Z3 H3 s3 R3.zh k
 by_cases hlt:k<ds.length
 .obtain⟨go,yl⟩:=w1 hlt;refine kq (.inr ⟨go,λσ' H'=>∃env' Z' g',aF Z2 Z'/\Ex Z B Z' H'/\Rl X.K B Z' H' env' σ'/\(∀(j:Nat) w,env'[j]?≠some (.O w))/\env'.length=env.length/\σ'[i]?=some (some (.ref a))/\uI a bs g' B Z' H'/\oj q (ds.drop (k+1)) g'=some gf,λσ' H' n=>⟨ds.length-(k+1),by omega,rfl,hlt,n⟩,λx H4 y=>?_⟩);clear kq;refine cC λ_ kq=>?_;obtain⟨Z4,d,x4,H9,r4⟩:=yl x H4 y;have Lu:ds.drop k=d::ds.drop (k+1):=by
   obtain⟨h1,h2⟩:=k_.mp H9;rw[Uy h1,h2]
  rw[Lu]at o3;obtain⟨sd,n,rfl,cs,g4,q1,q2,q3⟩:∃sd n,d=.tup [sd,.int n]/\∃cs g4,q sd=some cs/\FE n cs g3=some g4/\oj q (ds.drop (k+1)) g4=some gf:=by
   unfold oj at o3
   split at o3
   .rename_i h;cases h
   .rename_i h;cases h;obtain⟨cs,q1,o3⟩:=a_.mp o3;obtain⟨g4,q2,o3⟩:=a_.mp o3;exact⟨_,_,rfl,cs,g4,q1,q2,o3⟩
   .cases o3
  obtain⟨t,tv,rfl,tq,v1,tv2,rfl,rv1,v2,tv3,rfl,rv2,rfl⟩:=r4;have rv2':v2=V.int n:=rv2;subst rv2';refine kq ⟨t,[v1,.int n],rfl,dA x4.zh tq,rfl,v1,_,rfl,.int n,_,rfl,rfl,?_⟩;clear kq;have R4:=((R3.ext x4).setF js rv1).setF jm (d:=.int n) rfl;have sl3:σ3.length=env.length:=by rw[<- R3.len];exact Rt
  have no4:∀(j:Nat) w,((env3.set js (Slot.F sd)).set jm (.F (.int n)))[j]?≠some (.O w):=lQ (λw z=>by cases z) (lQ (λw z=>by cases z) no3 js) jm;have gj:cy ((env3.set js (Slot.F sd)).set jm (.F (.int n))) js=some sd:=by
   unfold cy;rw[i_ (UB d5),t_ (by rw[Rt];exact ls)]
  have sa4:((σ3.set js (some v1)).set jm (some (V.int n)))[i]?=some (some (.ref a)):=by rw[i_ (UB d2),i_ (UB d1)];exact S9
  have sm4:((σ3.set js (some v1)).set jm (some (V.int n)))[jm]?=some (some (.int n)):=t_ (by rw[V4,sl3];exact lm);refine⟨_,B,Z4,cs,R4,(hq _ sd gj).trans q1,λJ2 Z5 H5 x5 wk2=>?_⟩;refine⟨λk2 m σ H=>m=cs.length-k2/\k2<=cs.length/\∃env' Z' g',aF Z5 Z'/\aF Z2 Z'/\Ex Z B Z' H/\Rl X.K B Z' H env' σ/\(∀(j:Nat) w,env'[j]?≠some (.O w))/\env'.length=env.length/\σ[i]?=some (some (.ref a))/\σ[jm]?=some (some (.int n))/\uI a bs g' B Z' H/\FE n (cs.drop k2) g'=some g4,
   ⟨cs.length,by simp,UY _,_,Z5,g3,aF.refl _,(s3.trans x4.z).trans x5.z,x3.transB ((x4.trans x5).part R3.bh),R4.ext x5,no4,by simp[Rt],sa4,sm4,G3.ext (x4.trans x5),by simpa using q2⟩,?_⟩
  rintro k2 m σ6 H6 ⟨rfl,hk2,env6,Z6,g6,s6,FB,x6,R6,S',Ru,Ta,sm6,G6,o6⟩;obtain⟨w3,w4⟩:=wk2 Z6 H6 s6 R6.zh k2
  by_cases OO:k2<cs.length
  .obtain⟨go2,yl2⟩:=w3 OO;refine .inr ⟨go2,λσ' H'=>∃env' Z' g',aF Z5 Z'/\aF Z2 Z'/\Ex Z B Z' H'/\Rl X.K B Z' H' env' σ'/\(∀(j:Nat) w,env'[j]?≠some (.O w))/\env'.length=env.length/\σ'[i]?=some (some (.ref a))/\σ'[jm]?=some (some (.int n))/\uI a bs g' B Z' H'/\FE n (cs.drop (k2+1)) g'=some g4,λσ' H' n'=>⟨cs.length-(k2+1),by omega,rfl,OO,n'⟩,λy7 H7 yy=>?_⟩;obtain⟨Z7,dc,x7,hdc,r7⟩:=yl2 y7 H7 yy;have hdr2:cs.drop k2=dc::cs.drop (k2+1):=by
    obtain⟨h1,h2⟩:=k_.mp hdc;rw[Uy h1,h2]
   rw[hdr2]at o6;obtain⟨r,c,rfl,g7,a1,a2⟩:∃r c,dc=.tup [.int r,.int c]/\∃g7,xr g6 r c n=some g7/\FE n (cs.drop (k2+1)) g7=some g4:=by
    unfold FE at o6
    split at o6
    .rename_i h;cases h
    .rename_i h;cases h;obtain⟨g7,a1,o6⟩:=a_.mp o6;exact⟨_,_,rfl,g7,a1,o6⟩
    .cases o6
   obtain⟨t7,tv7,rfl,tq7,v3,tv8,rfl,rv3,v4,tv9,rfl,rv4,rfl⟩:=r7;have rv3':v3=V.int r:=rv3;have rv4':v4=V.int c:=rv4;subst rv3';subst rv4';refine⟨t7,[.int r,.int c],rfl,dA x7.zh tq7,rfl,.int r,_,rfl,.int c,_,rfl,rfl,?_⟩;have R8:=((R6.ext x7).setF jr (d:=.int r) rfl).setF jc (d:=.int c) rfl;have Tb:∀(j:Nat) w,((env6.set jr (Slot.F (.int r))).set jc (.F (.int c)))[j]?≠some (.O w):=lQ (λw z=>by cases z) (lQ (λw z=>by cases z) S' jr) jc;have Tc:σ6.length=env.length:=by rw[<- R6.len];exact Ru
   have Td:((σ6.set jr (some (V.int r))).set jc (some (V.int c)))[i]?=some (some (.ref a)):=by rw[i_ (UB d4),i_ (UB d3)];exact Ta
   have Te:((σ6.set jr (some (V.int r))).set jc (some (V.int c)))[jm]?=some (some (.int n)):=by rw[i_ (UB d9),i_ (UB d8)];exact sm6
   have sr8:((σ6.set jr (some (V.int r))).set jc (some (V.int c)))[jr]?=some (some (.int r)):=by rw[i_ (UB d10)];exact t_ (by rw[Tc];exact lr)
   have sc8:((σ6.set jr (some (V.int r))).set jc (some (V.int c)))[jc]?=some (some (.int c)):=t_ (by rw[V4,Tc];exact lc');have G7:=G6.ext x7;obtain⟨b,ns,xo,r0,c0,hb,bB,bZ,bH,hx,G8⟩:=G7.add a1;have hbr:(bs.map V.ref)[r.toNat]?=some (.ref b):=by rw[o_,hb];rfl
   have hrn:((r.toNat:Nat):Int)=r:=Int.toNat_of_nonneg r0;have hxn:(ns.map V.int)[c.toNat]?=some (.int xo):=by rw[o_,hx];rfl
   have gv:c.toNat<ns.length:=(k_.mp hx).1;refine⟨.ref a,Td,.int r,sr8,a,bs.map V.ref,r,.ref b,rfl,rfl,cJ.of G7.ha,by have:=cZ hbr;rwa [hrn]at this,.int c,sc8,b,ns.map V.int,c,.int xo,rfl,rfl,bH,c0,hxn,.int n,Te,xo,n,rfl,rfl,b,ns.map V.int,c,c.toNat,rfl,rfl,bH,?_,?_⟩
   .unfold GG;rw[j_ c0,j_ (by rw[c_];omega)]
   .have xo8:Ex Z B Z7 (upd H7 b (.lst ((ns.map V.int).set c.toNat (.int (xo+n))))):=by
     have x8:=x6.transB (x7.part R6.bh);exact⟨c6 x8.h bB,x8.z,c6 x8.zh bZ,x8.fr,x8.nf⟩
    exact⟨_,Z7,g7,s6.trans x7.z,FB.trans x7.z,xo8,R8.other bB bZ Tb,Tb,by simp[Ru],Td,Te,G8,a2⟩
  .refine .inl ⟨w4 (by omega),?_⟩;rw[Vu (by omega)]at o6;cases o6;exact⟨env6,Z6,g4,FB,x6,R6,S',Ru,Ta,G6,q3⟩
 .refine kq (.inl ⟨w2 (by omega),?_⟩);clear kq;rw[Vu (by omega)]at o3;cases o3;refine⟨.ref a,S9,?_⟩;have inb:∀{c:Ye},c∈bs->B c=none/\Z3 c=none:=λ{c} hc=>by
   obtain⟨j,hj⟩:=UF.mp hc;obtain⟨_,h2,h3,_⟩:=G3.el j c hj;exact⟨h2,h3⟩
  have zf:∀c,(c=a\/c∈bs)->B c=none/\Z3 c=none:=λc hc=>by
   rcases hc with rfl | hc
   .exact⟨G3.ba,G3.za⟩
   .exact inb hc
  have s4:aF Z3 (λc=>if c=a\/c∈bs then H3 c else Z3 c):=λc o h=>by
   dsimp only;rw[h_ (λhc=>by rw[(zf c hc).2]at h;cases h)];exact h
  refine kk (.ref a) (λc=>if c=a\/c∈bs then H3 c else Z3 c) H3 ⟨x3.h,x3.z.trans s4,λc o h=>?_,λc hc h=>?_,λc ob u h=>?_⟩ ⟨a,bs.map V.ref,rfl,cJ.of (by rw[j_ (.inl rfl)];exact G3.ha),?_⟩
  .split at h
   .exact h
   .exact x3.zh c o h
  .split
   .rename_i AK;exact absurd (zf c AK).1 hc
   .exact x3.fr c hc h
  .split at h
   .rename_i AK;rcases AK with rfl | hc
    .rw[G3.ha]at h;cases h
    .obtain⟨j,hj⟩:=UF.mp hc;obtain⟨_,_,_,ns,_,e5⟩:=G3.el j c hj;rw[e5]at h;cases h
   .exact x3.nf c ob u h
  .have key:∀(l:X0)(gg:List X4),l.length=gg.length->(∀(j:Nat) b,l[j]?=some b->b∈bs/\∃ns:X4,gg[j]?=some ns/\H3 b=some (.lst (ns.map V.int)))->ar X.K (λc=>if c=a\/c∈bs then H3 c else Z3 c) (gg.map λns=>D.lst (ns.map .int)) (l.map V.ref):=by
    intro l
    induction l with
    | nil=>
     intro gg hg _;cases gg with
     | nil=>rfl
     | cons _ _=>simp at hg
    | cons b l ih=>
     intro gg hg hh;cases gg with
     | nil=>simp at hg
     | cons ns gg=>
      obtain⟨h1,ms,h2,h3⟩:=hh 0 b rfl;cases h2;refine ar.cons ⟨b,ns.map V.int,rfl,cJ.of (by rw[j_ (.inr h1)];exact h3),ar.ints ns⟩ (ih gg (by simpa using hg) λj c hc=>?_);obtain⟨k1,ms,k2,k3⟩:=hh (j+1) c (by simpa using hc);exact⟨k1,ms,by simpa using k2,k3⟩
   exact key bs gf G3.len λj b hb=>by
    obtain⟨_,_,_,ns,h4,h5⟩:=G3.el j b hb;exact⟨I_ hb,ns,h4,h5⟩
end
end Mi
namespace Mi
open PySem
theorem rep0:∀env d,aq Hc (b8 (ab Yo fNil)) f env=some d->∃ns:X4,d=.lst (ns.map .int):=λenv d h=>by
 obtain⟨x,y,h1,h2,h3⟩:=oN h;cases h1;cases y<;>try cases h3
 rename_i n;obtain⟨hc,rfl⟩:=nz h3;refine⟨List.replicate n.toNat 0,?_⟩;congr 1;generalize n.toNat=m
 induction m with
 | zero=>rfl
 | succ m ih=>rw[Uw,U_,ih,Uw,A_];rfl
def lstO:D->Yk
 | .lst ds=>some ds
 | _=>none
theorem Mv:∀(env:En)(s:D),cy env j=some s->cF (λenv=>((ab (λenv=>cy env j) fNil) env).bind m) env=(m [s]).bind lstO:=λenv s h=>by
 have e:ab (λenv=>cy env j) fNil env=some [s]:=by unfold ab;dsimp only;rw[h];rfl
 unfold cF;dsimp only;rw[e,UO];cases m [s]with
 | none=>rfl
 | some d=>cases d<;>rfl
end Mi
namespace Mi
open PySem PySem.Spec PyProof.Rows L2
section
variable {X:Cx}{l r:Yf}{fa fb:Fe}{ga gb:Gr}{pos p:Pos}
theorem BK(hc:X.calm=true):cS X (.builtin "sum") (λxs H Q=>∃(a:Ye)(ns:X4),xs=[.ref a]/\cM X.K H a (ns.map V.int)/\Q (.int ns.sum) H):=by
 intro pins s σ H xs us Q I rs h;obtain⟨a,ns,rfl,hq,q⟩:=h;obtain⟨u,rfl,rx⟩:=vals1 rs;cases rx;obtain⟨a5,rv,ht,hz⟩:=I.tuple hq;have hlt:a<s.sz:=by obtain⟨o,ho,_⟩:=ht;exact q_ ho
 have hl:=ax.length rv;rw[c_]at hl;refine call_sum_walkG (Vz ht ⟨s.sz,_,_,_,_,_,λi=>ns.getD i 0,rfl,Walks.tuple (A:=X.A.in1) (show X.A.in1.handled=none from I.ok.hd hc) s.sz a (B_ hlt) a5.toArray,⟨⟨_,n_ _ rfl,rfl,rfl⟩,ht.push _⟩,λb hb=>?_,λi v hv=>cm rv i v (by simpa using hv),λh' tk t' hk=>?_⟩)
 .simp only[p_,Ul,Vq]at hb;rw[U0];rcases hb with rfl | rfl
  .exact Wh _
  .exact UR hlt
 .have e:preSum (λi=>ns.getD i 0) a5.toArray.size=ns.sum:=by
   rw[show a5.toArray.size=ns.length by simp[<- hl],preSum_eq ns _ (m_ _),UI]
  rw[e];refine⟨.int ns.sum,H,I.kept λb o e=>hk b o (λhb=>?_) (e_ _ e),⟨_,rfl⟩,q⟩;have:b=s.sz:=by simpa using hb
  exact B_ (q_ e) this
def Gm:D->Ym
 | .tup ds=>(hU ds).bind λns=>some (.int ns.sum)
 | _=>none
theorem JI{K:Fg}:fL K .cl Gm (λxs H Q=>∃(a:Ye)(ns:X4),xs=[.ref a]/\cM K H a (ns.map V.int)/\Q (.int ns.sum) H):=λ{Z H x dx d Q} s h e k=>by
 cases dx<;>try cases e
 obtain⟨ns,h1,h2⟩:=a_.mp e;cases h2;cases fR h1;obtain⟨a,vs,rfl,q,rr⟩:=h.tup s;cases ar.intsV rr;exact⟨a,ns,rfl,q,k _ Z H (Ex.refl s) rfl⟩
theorem JV(hm:X.mg "sum"=none)(a7:X.calm=true)(ha:PD X ga l fa)(hg:Gl X "sum":=by rfl)(he:starEach [l] X.env=[(false,eval l X.env)]:=by rfl):PD X .cl (.Call (.Name "sum" p) [l] [] pos) (bC Gm fa):=
 mR (BK a7) JI rJ hm ha (by decide) (by decide) hg he
end
section
variable {prog:X9}{w:Yb}{A:X_}{E:XO}{s:X8}{it d:Ye}{i ep:Nat}{es:Array DictEntry}{od:Obj}
theorem DL(hit:s.heap.IsKeyIter it d i es.size ep)(CJ:s.heap.get? d=some od)(Jn:od.data=.dict es ep)(FC:i<es.size)
  (hQ:∀h',h'.IsKeyIter it d (i+1) es.size ep->Heap.SameBut it s.heap h'->Q (some es[i].key) {s with heap:=h'}):wpAny (model prog w) A (pyNext (.ref it)) Q E s:=by
 obtain⟨o,ho,hc,hd⟩:=id hit;unfold pyNext;refine b_ (Wo (Uv (name:="__next__") hit.typeIs U3
  (Ug U3 hit.typeIs F.entry_dict_keyiterator_next ?_ (F.args_dict_keyiterator_next_1 _))))
 refine b_ (d_ (b_ (b_ ?_)))
 first | refine b_ (Vl hit.typeIs (d_ ?_)) | refine b_ (VM hit.typeIs (d_ ?_))
 refine b_ (Wf ho hd ?_);have LO:Builtin.Dict_items.ownsTuple "dict_keyiterator"=false:=by decide
 simp only[LO,E_,Uu];show wpAny _ _ (if(Value.ref d==Value.none)=true then _ else _) _ _ s;rw[h_ (show ¬((Value.ref d==Value.none)=true)from J_)];refine b_ (d_ (b_ (UM CJ Jn ?_)));rw[h_ (by simp)];refine b_ (d_ (b_ (Vo CJ Jn ?_)));rw[h_ (by simp)];refine d_ ?_;simp only[show ¬((i:Int)<0)from by lia,Uu,UQ,Ux FC];refine b_ ?_
 first | refine b_ (Vl hit.typeIs (d_ ?_)) | refine b_ (VM hit.typeIs (d_ ?_))
 refine b_ (wpAny_isOneOf_keyiter hit.typeIs ?_);show wpAny _ _ (setField (.ref it) 1 (rawInt ((i:Int)+1)) >>= _) _ _ s;refine b_ (WE ho hd (by simp) ?_);have LP:(s.heap.update it (Obj.mapFields (·.setIfInBounds 1 (rawInt ((i:Int)+1))))).IsKeyIter it d (i+1) es.size ep:=
  ⟨_,V7 _ ho (Obj.isFreed_of_fields (Wt hd _)),(Obj.cls_mapFields ..).trans hc,by rw[Wt hd];simp[rawInt]⟩
 refine b_ (F_ ?_);refine b_ (wpAny_isOneOf_keyiter (s:={s with heap:=s.heap.update it (Obj.mapFields (·.setIfInBounds 1 (rawInt ((i:Int)+1))))}) LP.typeIs ?_);show wpAny _ _ (pure es[i].key) _ _ _;exact d_ (d_ ⟨_,rfl,d_ (hQ _ LP (UH ..))⟩)
theorem Gj(hh:A.handled=none)(hit:s.heap.IsKeyIter it d i es.size ep)(CJ:s.heap.get? d=some od)(Jn:od.data=.dict es ep)(Io:es.size<=i)
  (hQ:∀h',Heap.ExtBut it s.heap h'->Q none {s with heap:=h'}):wpAny (model prog w) A (pyNext (.ref it)) Q E s:=by
 obtain⟨o,ho,hc,hd⟩:=id hit;unfold pyNext;refine b_ (Wo (Uv (name:="__next__") hit.typeIs U3
  (Ug U3 hit.typeIs F.entry_dict_keyiterator_next ?_ (F.args_dict_keyiterator_next_1 _))))
 refine b_ (d_ (b_ (b_ ?_)))
 first | refine b_ (Vl hit.typeIs (d_ ?_)) | refine b_ (VM hit.typeIs (d_ ?_))
 refine b_ (Wf ho hd ?_);have LO:Builtin.Dict_items.ownsTuple "dict_keyiterator"=false:=by decide
 simp only[LO,E_,Uu];show wpAny _ _ (if(Value.ref d==Value.none)=true then _ else _) _ _ s;rw[h_ (show ¬((Value.ref d==Value.none)=true)from J_)];refine b_ (d_ (b_ (UM CJ Jn ?_)));rw[h_ (by simp)];refine b_ (d_ (b_ (Vo CJ Jn ?_)));rw[h_ (by simp)];refine d_ ?_;simp only[show ¬((i:Int)<0)from by lia,Uu,UQ,V2 Io];refine b_ ?_
 first | refine b_ (Vl hit.typeIs (d_ ?_)) | refine b_ (VM hit.typeIs (d_ ?_))
 show wpAny _ _ (setField (.ref it) 0 .none >>= _) _ _ s;refine b_ (WE ho hd (by simp) ?_);show wpAny _ _ (newExc (.type "StopIteration") [] >>= _) _ _ _;refine b_ ?_;simp only[newExc,newTuple];refine b_ (UC ?_ (by size_fits));refine b_ (m:=firstArgMember _ _) (We (a:=Value.none) (by first | rfl | (simp only[firstArgMember];rfl)) ?_);refine UC ?_ (by size_fits);simp only[raiseNew];refine b_ (wpAny_handled ?_);rw[show A.in1.handled=none from hh];refine b_ (d_ (wpAny_throw ?_));refine b_ (WT (T:="StopIteration") (b:=true) ⟨_,n_ _ rfl,rfl⟩ isSubtype_stop ?_);exact d_ (hQ _ (((UH ..).extBut.push _).push _))
theorem DN(hs:(d==sysModules)=false)(ho:s.heap.get? d=some od)(hc:od.ExactDict)(CC:od.data=.dict es ep)
  (hQ:Q (.ref s.heap.objs.size) {s with heap:=s.heap.push {cls:=.type "dict_keyiterator",data:=.fields #[.ref d,.int 0 0,.int es.size 0,.int ep 0]}}):wpAny (model prog w) A (pyIter (.ref d)) Q E s:=by
 have hT:s.TypeIs (.ref d) "dict":=⟨od,ho,hc.1⟩;refine Xv hT F.slot_dict_iter (Ug F.slot_dict_iter hT F.entry_dict_iter ?_ (F.args_dict_iter_1 _));unfold Builtin.«dict.__iter__»;refine b_ ?_;unfold Builtin.Dict.dictSlotNone;refine b_ (WN hT ?_);show wpAny _ _ (pure (Value.ref d)) _ _ s;refine d_ ?_;show wpAny _ _ (Builtin.Dict.showsAll d >>= _) _ _ s;unfold Builtin.Dict.showsAll;rw[h_ (by rw[hs];exact J_)];refine b_ (d_ (b_ (UM ho CC (b_ (Vo ho CC ?_)))));exact b_ (UC (d_ ⟨_,rfl,"dict_keyiterator",_,⟨_,n_ _ rfl,rfl⟩,U3.lookup,hQ⟩))
end
def PY(d:Ye)(es:Array DictEntry)(ep:Nat)(h:Ya):Prop:=∃o,h.get? d=some o/\o.ExactDict/\o.data=.dict es ep
theorem G'{prog:X9}{w:Yb}{d:Ye}{es:Array DictEntry}{ep:Nat}(lo:(d==sysModules)=false):PySem.W.KdlSrc prog w "dict" d d es.size (λi v=>∃e,es[i]?=some e/\v=e.key) (PY d es ep) where
 type:=λ_ ⟨o,h1,h2,_⟩=>⟨o,h1,h2.1⟩
 there:=λ_ ⟨o,h1,_⟩=>⟨q_ h1,q_ h1⟩
 keep:=λ_ _ ⟨o,h1,h2⟩ hk=>⟨o,hk d (.inl rfl) o h1,h2⟩
 notList:=by decide
 notTuple:=by decide
 hint:=λ_ _ _ _ ⟨o,h1,h2,_⟩ hq=>PySem.W.kdl_hint_dict ⟨o,h1,h2.1⟩ hq
 iter:=λA s hh ⟨o,h1,h2,h3⟩=>by
  have hne:d≠s.heap.objs.size:=B_ (q_ h1);refine⟨_,λi h=>h.IsKeyIter s.heap.objs.size d i es.size ep/\PY d es ep h,λ_ _ hq=>DN lo h1 h2 h3 hq,⟨λb hb=>by simp at hb;simp[hb],λ_ _ _ st hk=>⟨st.1.at λo e=>hk _ (by simp) o e,let ⟨o,e,r⟩:=st.2;⟨o,hk d (by simp) o e,r⟩⟩,λi s' Q E hi st hQ=>?_,λs' Q E st hQ=>?_,λ_ _ _ _ st hQ=>wpAny_pyIter_keyiter st.1 hQ⟩,⟨⟨_,n_ _ rfl,rfl,rfl⟩,o,e_ _ h1,h2,h3⟩⟩
  .obtain⟨hit,o,e1,e2,e3⟩:=st;exact DL hit e1 e3 hi λh' LP hs'=>hQ _ h' s'.toks ⟨_,Ux hi,rfl⟩ ⟨LP,o,hs'.extBut _ _ hne e1,e2,e3⟩ λb o hb e=>hs'.extBut b o (λh=>hb (by simp[h])) e
  .obtain⟨hit,o,e1,e2,e3⟩:=st;exact Gj hh hit e1 e3 (m_ _) λh' Lp=>hQ h' s'.toks λb o hb e=>Lp b o (λh=>hb (by simp[h])) e
section
variable {X:Cx}{l r e:Yf}{fa fb:Fe}{ga gb:Gr}{pos p:Pos}{k:Nat}{th:Str->Int}
def Dz(th:Str->Int)(xs:Yn)(H:Hp)(Q:VK):Prop:=∃(a:Ye)(ks:Yh)(bs:X0)(vs:Yn),xs=[.ref a]/\H a=some (.ext (bP th a ks bs vs))/\∀p,H p=none->bs.length=ks.length->Q (.ref p) (upd H p (.lst (bs.map V.ref)))
theorem rK:∀bs:X0,ax (bs.map V.ref) (bs.map Value.ref)
 | []=>.nil
 | _::bs=>.cons rfl (rK bs)
theorem xI(hc:X.calm=true):cS X (.type "list") (Dz th):=by
 intro pins s σ H xs us Q I rs h;obtain⟨a,ks,bs,vs,rfl,hm,q⟩:=h;obtain⟨u,rfl,rx⟩:=vals1 rs;cases rx;obtain⟨o,es,ep,us,h1,h2,h3,h4,h5,h6,h7,h8,h9,OP⟩:=(show bE X.prog X.w H s.heap a (.ext (bP th a ks bs vs))from I.hok a _ hm).1;have e1:es.toList.map (·.key)=bs.map Value.ref:=by
  rw[h5,K_];have:((λe:DictEntry=>e.key) ∘ Cr th)=Value.ref ∘ (Prod.fst ∘ Prod.snd):=rfl;unfold dP;rw[this,<- K_,<- K_,List.map_snd_zip (by rw[VH];lia),List.map_fst_zip (by lia)]
 have e2:es.size=ks.length:=by rw[<- Uk,<- c_ (f:=(·.key)),e1,c_,h9]
 refine PySem.W.kdl_call (G' (es:=es) (ep:=ep) h7) (I.ok.hd hc) ⟨o,h1,h2,h3⟩ (by rw[e2,Um];lia) λh' tk acc c hk hD hacc=>?_;have e3:acc.toList=bs.map Value.ref:=by
  rw[<- e1];refine Wc λj=>?_;rw[VC,o_,VC]
  by_cases hj:j<es.size
  .have Tf:j<acc.size:=by rw[hacc.1];exact hj
   obtain⟨e,h1,h2⟩:=hacc.2 j _ (Ux Tf);rw[h1,Ux Tf,h2];rfl
  .rw[V2 (by rw[hacc.1];lia),V2 (by lia)];rfl
 have hf:H s.sz=none:=I.hok.fresh (m_ _);refine⟨.ref s.sz,_,I.laid (t':=tk) hk (m_ _) (show bE X.prog X.w _ _ _ (.lst (bs.map V.ref))from⟨by rw[c_,h9,Um];lia,acc.toList,c,by rw[e3];exact rK bs,by rw[Array.toArray_toList];exact hD⟩),rfl,q _ hf h9⟩
theorem qP{K:Fg}{Z:Hp}:∀{ks:Yh}{bs:X0},bs.length=ks.length->et K Z ks bs->ks.all z0=true->ar K Z (ks.map λk=>.tup (k.map kD)) (bs.map V.ref)
 | [],[],_,_,_=>rfl
 | [],_::_,h,_,_=>by simp at h
 | _::_,[],h,_,_=>by simp at h
 | k::ks,b::bs,hl,h,ho=>by
  rw[V6,C_]at ho;exact⟨_,_,rfl,⟨b,_,rfl,h 0 k b rfl rfl,nK ho.1⟩,qP (by simpa using hl) (λi k b h1 h2=>h (i+1) k b h1 h2) ho.2⟩
noncomputable def vy(th:Str->Int)(x:D):Ym:=(rh th x).bind λm=>if m.1.all z0=true then some (.lst (m.1.map λk=>.tup (k.map kD)))else none
theorem Gc{K:Fg}:fL K .nw (vy th) (Dz th):=λ{Z H x dx d Q} s h e k=>by
 obtain⟨m,h1,h2⟩:=a_.mp e;obtain⟨ho,rfl⟩:=nz h2;cases ez h1;obtain⟨a,rfl,bs,vs,hm,hk,_⟩:=h.mp s;exact⟨a,m.1,bs,vs,rfl,hm,λp hp hl=>k _ Z _ (Ex.newL s hp) ⟨p,_,_,rfl,rfl,hp,ay,s.free hp,qP hl hk ho⟩⟩
theorem HS(hm:X.mg "list"=none)(a7:X.calm=true)(ha:PD X ga l fa)(hg:Gl X "list":=by rfl)(he:starEach [l] X.env=[(false,eval l X.env)]:=by rfl):PD X .nw (.Call (.Name "list" p) [l] [] pos) (bC (vy th) fa):=
 zV (xI a7) Gc PyProof.Rows.boot_list hm ha (by decide) (by decide) hg he
theorem Ep{prog:X9}{w:Yb}{A:X_}{E:XO}{s:X8}{d:Ye}{es:Array DictEntry}{ep:Nat}{o:Obj}{Q:Bool->X8->Prop}(hd:(d==sysModules)=false)(ho:s.heap.get? d=some o)(hc:o.ExactDict)(CC:o.data=.dict es ep)(Ih:(es.size:Int)<2 ^ 63)
  (h:∀tk,Q (!es.isEmpty) {s with toks:=tk}):wpAny (model prog w) A (truthy (.ref d)) Q E s:=by
 have hT:s.TypeIs (.ref d) "dict":=⟨o,ho,hc.1⟩;have hne:((es.size:Int) != 0)=!es.isEmpty:=by rw[Array.isEmpty];cases h:es.size<;>simp<;>lia
 have key:wpAny (model prog w) A (runValue (.builtin "len" ⟨[.ref d],[]⟩)) (λr s'=>∃t tk,r=.int es.size t/\s'={s with toks:=tk}) E s:=by
  refine wpAny_runValue (Vb entry_len ?_);rw[Vk plain_len _];refine Ur (EM hd ho hc CC Ih (Q:=λr s'=>∃t tk,r=.int es.size t/\s'={s with toks:=tk}) λt tk=>⟨t,tk,rfl,rfl⟩) (λfin s' h'=>by obtain⟨r,rfl,hq⟩:=h';exact hq) λ_ _ e=>e
 unfold truthy
 first
  | refine b_ (wpAny_callSpecial?_none (name:="__bool__") hT noBool_dict ?_)
  | refine b_ (d_ (b_ (wpAny_callSpecial?_none (name:="__bool__") hT noBool_dict ?_)))
 first
  | refine b_ (Vn (name:="__len__") hT F.slot_dict_len.lookup ?_)
  | refine b_ (d_ (b_ (Vn (name:="__len__") hT F.slot_dict_len.lookup ?_)))
 first
  | exact b_ (Ur key (λr s' h'=>by obtain⟨t,tk,rfl,rfl⟩:=h';exact d_ (hne▸h tk)) λ_ _ e=>e)
  | exact b_ (d_ (b_ (Ur key (λr s' h'=>by obtain⟨t,tk,rfl,rfl⟩:=h';exact d_ (hne▸h tk)) λ_ _ e=>e)))
noncomputable def PR(th:Str->Int)(x:D):Option Bool:=(rh th x).bind λm=>some !m.1.isEmpty
noncomputable def QK(th:Str->Int)(f:Fe):Fb:=λenv=>(f env).bind (PR th)
theorem Ku(h:PD X ga e fa)(he:∀whole,isTrue e X.env whole=(do let v <- whole;standAt e.pos;holding [v] (truthy v)):=by intro _;rfl):PB X e (QK th fa):=by
 intro pins s σ H Q I aG;obtain⟨env,B,Z,b,R,e1,k⟩:=aG;obtain⟨d,h1,h2⟩:=a_.mp e1;obtain⟨m,h3,h4⟩:=a_.mp h2;cases h4;cases ez h3;refine isTrue_plain (bF (h pins s σ H (λv H'=>∃Z' a,Ex Z H Z' H'/\v=.ref a/\yY X.K Z' H' a th m.1 m.2) I ⟨env,B,Z,_,R,h1,λv Z' H' x g=>?_⟩) λu s1 aG=>?_) (he _)
 .obtain⟨a,rfl,q⟩:=g.mp x.zh;exact⟨Z',a,x,rfl,q⟩
 .obtain⟨v,H',I',rv,Z',a,x,rfl,bs,vs,hm,_,_⟩:=aG;cases rv;obtain⟨o,es,ep,us,h1,h2,h3,h4,h5,h6,h7,h8,h9,OP⟩:=(show bE X.prog X.w H' s1.heap a (.ext (bP th a m.1 bs vs))from I'.hok a _ hm).1;have e2:es.size=m.1.length:=by rw[<- Uk,h5,c_];unfold dP;rw[VH,VH];lia
  refine Ep h7 h1 h2 h3 (by rw[TV,e2];lia) λtk=>⟨H',I'.tok tk,?_⟩;have e3:(!es.isEmpty)=!m.1.isEmpty:=by rw[Array.isEmpty,e2];cases m.1<;>rfl
  rw[e3];exact k Z' H' x
def B8:X4->Option Int
 | []=>none
 | n::ns=>some (ns.foldl (λa b=>if b>a then b else a) n)
theorem Az:∀{ns:X4}{m:Int},m∈ns->(∀a∈ns,a<=m)->B8 ns=some m
 | [],_,h,_=>by cases h
 | n::ns,m,h,hm=>by
  have key:∀(l:X4)(a:Int),(m=a\/m∈l)->a<=m->(∀x∈l,x<=m)->l.foldl (λa b=>if b>a then b else a) a=m:=by
   intro l
   induction l with
   | nil=>
    intro a h _ _;rcases h with h | h
    .exact h.symm
    .cases h
   | cons b l ih=>
    intro a h ha hl;have hb:=hl b (by simp);refine ih _ ?_ (by dsimp only;split<;>assumption) λx hx=>hl x (f_ _ hx);rcases h with h | h
    .left;dsimp only;split
     .lia
     .exact h
    .rcases p_.mp h with h | h
     .left;dsimp only;split<;>lia
     .exact .inr h
  exact UW some (key ns n (p_.mp h) (hm n (by simp)) λx hx=>hm x (f_ _ hx))
theorem Ce(hc:X.calm=true):cS X (.builtin "max") (λxs H Q=>∃(a:Ye)(ns:X4)(m:Int),xs=[.ref a]/\cM X.K H a (ns.map V.int)/\B8 ns=some m/\Q (.int m) H):=by
 intro pins s σ H xs us Q I rs h;obtain⟨a,ns,m,rfl,hq,hm,q⟩:=h;obtain⟨u,rfl,rx⟩:=vals1 rs;cases rx;obtain⟨a5,rv,ht,hz⟩:=I.tuple hq;have hlt:a<s.sz:=by obtain⟨o,ho,_⟩:=ht;exact q_ ho
 have hl:=ax.length rv;rw[c_]at hl;have hpos:0<ns.length:=by cases ns with
  | nil=>cases hm
  | cons n ns=>simp
 refine call_max_walk (Vz ht ⟨s.sz,_,_,_,_,_,_,rfl,Walks.tuple (A:=X.A.in1) (show X.A.in1.handled=none from I.ok.hd hc) s.sz a (B_ hlt) a5.toArray,⟨⟨_,n_ _ rfl,rfl,rfl⟩,ht.push _⟩,λb hb=>?_,by simp;lia,CmpOf.ints_gt (λi=>ns.getD i 0) (λi v hv=>cm rv i v (by simpa using hv)),λv h' tk hP hk=>?_⟩)
 .simp only[p_,Ul,Vq]at hb;rw[U0];rcases hb with rfl | rfl
  .exact Wh _
  .exact UR hlt
 .obtain⟨h1,h2⟩:=argBest_gt (λi=>ns.getD i 0) (a5.toArray.size-1);obtain⟨t,rfl⟩:=cm rv _ _ (by rw[<- List.getElem?_toArray];exact hP);have hsz:a5.toArray.size=ns.length:=by simp;lia
  have e:B8 ns=some (ns.getD (argBest (λi j=>decide (ns.getD i 0>ns.getD j 0)) (a5.toArray.size-1)) 0):=by
   refine Az ?_ λx hx=>?_
   .rw[s_,l_ (by lia)];exact Ut _
   .obtain⟨j,hj,rfl⟩:=VN hx;have:=h2 j (by lia);simpa [s_,hj]using this
  rw[hm]at e;have e':=Option.some.inj e;refine⟨.int m,H,I.kept λb o e=>hk b o (λhb=>?_) (e_ _ e),⟨t,by rw[e']⟩,q⟩;have:b=s.sz:=by simpa using hb
  exact B_ (q_ e) this
def yK:D->Ym
 | .tup ds=>(hU ds).bind λns=>(B8 ns).bind λm=>some (.int m)
 | _=>none
theorem Lg{K:Fg}:fL K .cl yK (λxs H Q=>∃(a:Ye)(ns:X4)(m:Int),xs=[.ref a]/\cM K H a (ns.map V.int)/\B8 ns=some m/\Q (.int m) H):=λ{Z H x dx d Q} s h e k=>by
 cases dx<;>try cases e
 obtain⟨ns,h1,h2⟩:=a_.mp e;obtain⟨m,h3,h4⟩:=a_.mp h2;cases h4;cases fR h1;obtain⟨a,vs,rfl,q,rr⟩:=h.tup s;cases ar.intsV rr;exact⟨a,ns,m,rfl,q,h3,k _ Z H (Ex.refl s) rfl⟩
theorem yz(hm:X.mg "max"=none)(a7:X.calm=true)(ha:PD X ga l fa)(hg:Gl X "max":=by rfl)(he:starEach [l] X.env=[(false,eval l X.env)]:=by rfl):PD X .cl (.Call (.Name "max" p) [l] [] pos) (bC yK fa):=
 mR (Ce a7) Lg WL hm ha (by decide) (by decide) hg he
end
end Mi
namespace Mi
open PySem PySem.Spec PyProof.Rows L2 Lm
def o9(g:D->Ym):Yl->Option X4
 | []=>some []
 | d::ds=>(g d).bind λx=>match x with
  | .int n=>(o9 g ds).bind λns=>some (n::ns)
  | _=>none
theorem o8{g:D->Ym}:∀{ds:Yl}{ns:X4},o9 g ds=some ns->ns.length=ds.length/\∀(i:Nat) d,ds[i]?=some d->g d=some (.int (ns.getD i 0))
 | [],ns,h=>by cases h;exact⟨rfl,λi d e=>by simp at e⟩
 | d::ds,ns,h=>by
  unfold o9 at h;obtain⟨x,h1,h2⟩:=a_.mp h;cases x<;>try cases h2
  obtain⟨r,h3,h4⟩:=a_.mp h2;cases h4;obtain⟨e1,e2⟩:=o8 h3;refine⟨by simp[e1],λi d' e=>?_⟩;cases i with
  | zero=>cases e;exact h1
  | succ i=>exact e2 i d' e
def dZ(ns:X4):Nat:=ns.findIdx λn=>ns.all λm=>decide (n<=m)
def MN(g:D->Ym):D->Ym
 | .lst ds=>(o9 g ds).bind λns=>ds[dZ ns]?
 | _=>none
def Hu(f:Fe)(caps:X3)(fl:Fe):Fe:=λenv=>(f env).bind (MN λx=>fl ((dj 1 caps env).set 0 (.F x)))
theorem DB{ns:X4}{i:Nat}(hi:i<ns.length)(h:∀j,j<ns.length->ns.getD i 0<=ns.getD j 0/\(j<i->ns.getD i 0<ns.getD j 0)):dZ ns=i:=by
 have g:∀(j:Nat)(hj:j<ns.length),ns.getD j 0=ns[j]:=λj hj=>by rw[s_,l_ hj];rfl
 refine(List.findIdx_eq hi).mpr ⟨?_,λj hj=>?_⟩
 .rw[D_];intro m hm;obtain⟨k,hk,rfl⟩:=VN hm;have:=(h k hk).1;rw[g i hi,g k hk]at this;exact v_ this
 .have hj':=W8 hj hi;have:=(h j hj').2 hj;rw[g i hi,g j hj']at this;rw[Xw];intro z;rw[D_]at z;have:=Uj (z _ (Ut hi))
  lia
theorem KC{X:Cx}{P c0:Ye}{k:Nat}{g:Gr}{e body:Yf}{params:Arguments}{scope:Yd}{x0:Str}{fe fl:Fe}{Nc:XZ}{caps:X3}{cl:XT}{p pos lpos Oj:Pos}(hr:bM (k+2) X.A)(hm:X.mg "min"=none)(a7:X.calm=true)
  (ht:tq X.K P=some (xO X)) (AN:X.env.code=.ref c0) (hC:PySem.W.codeHdIn X.K c0 P=true) (he:PD X g e fe)
  (gv:iO (λx=>X.env.cells.lookup x) scope.names []=some cl) (hN:Nc.map some=some x0::caps.map (λj=>X.N[j]?)) (iD:kU X scope caps=true)
  (hbody:∀f c s H pn,bM k (X.A.in1.deeper (ui X scope cl f c s.sz))->PD (vE X X.A.in1 scope cl Nc f c s H pn) .cl body fl)
  (h0:scope.names.lookup x0=some .local:=by rfl) (ck:scope.kind=.function:=by rfl) (hnc:∀y∈scope.names,y.2≠.cell:=by decide +kernel) (hco:scope.isCoroutine=false:=by rfl) (LM:scope.isGenerator=false:=by rfl)
  (hb:∀c ctv u,bindArgs (Cc X params body scope cl c ctv) ⟨[u],[]⟩=pure [(x0,u)]:=by intro _ _ _;rfl) (LL:defaultsOf params X.env=([],[]):=by rfl)
  (hg:Gl X "min":=by rfl) (hst:starEach [e] X.env=(false,eval e X.env)::starEach [] X.env:=by rfl)
  (h1:backTo pos (starEach [e] X.env)=(false,eval e X.env)::backTo pos (starEach [] X.env):=by rfl) (h2:(backTo pos (starEach [e] X.env)).any (·.1)=false:=by rfl) :
  PD X .cl (.Call (.Name "min" p) [e] [⟨some "key",.Lambda params body scope lpos,Oj⟩] pos) (Hu fe caps fl):=by
 intro pins s σ H Q I aG;obtain⟨env,B,Z,d,R,e1,kk⟩:=aG;obtain⟨d1,e2,e3⟩:=a_.mp e1;cases d1<;>try cases e3
 rename_i ds;obtain⟨ns,e4,e5⟩:=a_.mp e3;obtain⟨hlen,fX⟩:=o8 e4;have hpos:0<ds.length:=by
  obtain⟨z,_⟩:=k_.mp e5
  lia
 refine Ws (lX I hg hm WM ?_ (by decide) (by decide));refine callWith_kw (bF (bL he dX hst pos pins s σ H (λvs H1=>∃l xs Z1,vs=[.ref l]/\Ex Z H Z1 H1/\cJ X.K H1 l xs/\ar X.K Z1 ds xs) I ⟨env,B,Z,_,R,e2,λv Z1 H1 x1 g1=>?_⟩) λus s1 aG=>?_) h1 h2 rfl rfl
 .obtain⟨l,xs,rfl,hq,rr⟩:=g1.lst x1.zh;exact⟨l,xs,Z1,rfl,x1,hq,rr⟩
 obtain⟨vs,H1,I1,r1,l,xs,Z1,rfl,x1,hS,rr⟩:=aG;obtain⟨u,rfl,rx⟩:=vals1 r1;cases rx;show wpAny _ _ (evalAll [(do let v <- eval (.Lambda params body scope lpos) X.env;standAt pos;pure v)]) _ _ s1;refine wpAny_evalAll_cons (b_ (KR I1 (I1.tb P _ ht) AN (PySem.W.codeHd_of_K I.ok.mod.kin hC) I.ok.mod.bmod (iB gv) LL λf c H2 s2 I2 sm Pm hc hf=>b_ (Vj (d_ (wpAny_evalAll_nil ?_)))));show wpAny _ _ (call (.builtin "min") [.ref l] [("key",.ref f)]) _ _ s2;have x2:Ex Z1 H1 Z1 H2:=⟨sm,aF.refl _,x1.zh.trans sm,λ_ _ h=>h,λ_ _ _ h=>h⟩;have R2:=(R.ext x1).ext x2;have hxl:=rr.len;refine HK (kf:=λi=>ns.getD i 0) (A:=X.A) (I.ok.hd a7) (sm.seq hS) I2 x2.zh (by lia) (λi v u hv ru Fm s' Z' H' I' x'=>?_) λi v u s' Z' H' hv ru uF I' x'=>?_
 .obtain⟨d,hd,rep⟩:=rr.getV hv;exact EJ (k:=k+1) I' (R2.ext x') I.ok.frames hr.in1 (x'.h _ _ hf) (x'.h _ _ hc) (hb c) hco LM gv ck hnc hN iD h0 (λs H pn=>hbody f c s H pn (hr.in1.deeper _)) ru (Rep.mono x'.z d rep) (fX i d hd)
 .obtain⟨d',hd,rep⟩:=rr.getV hv;have hi:i<ns.length:=by rw[hlen];exact(k_.mp hd).1
  rw[DB hi λj hj=>uF j (by lia),hd]at e5;cases e5;exact⟨v,H',I',ru,kk v Z' H' ((x1.trans x2).trans x') (Rep.mono x'.z _ rep)⟩
abbrev Wd.AtC(W:Wd)(x:Str)(st:Yg)(c:Ye):Prop:=∃f fd,Fn W.K x x st f fd/\fd.code=.ref c/\PySem.W.keepIn W.K (.ref f)=true/\W.mg x=some (.ref f)
theorem eG.atC{K:Fg}{h:Ya}{mg:XS}{x:Str}{st:Yg}{f c P:Ye}(X:K.In h)(G:h.Ns mainGlobals mg)(A:eG K x st f)(ht:PySem.W.tabIn K x=some (c,P)):∃f fd,Fn K x x st f fd/\fd.code=.ref c/\PySem.W.keepIn K (.ref f)=true/\mg x=some (.ref f):=by
 obtain⟨fd,F,h1,h2⟩:=A.fn X G;refine⟨f,fd,F,?_,h1,h2⟩;obtain⟨oc,od,kV,doc,pm,an,eC,ct,FI,rfl,lk,lV⟩:=F.ex;obtain⟨_,_,_,_,_,_,_,_,_,aL,_⟩:=A;unfold PySem.W.tabIn at ht;rw[aL]at ht;dsimp only at ht;rw[lk]at ht;dsimp only[PySem.W.fnOf]at ht ⊢;cases eC<;>try cases ht
 rename_i c';dsimp only at ht
 split at ht
 .split at ht
  .cases ht;rfl
  .cases ht
 .cases ht
structure Lam(W:Wd)(x:Str)(c P:Addr):Prop where
 t:tq W.K P=some (x++".<locals>."++"<lambda>")
 c:PySem.W.codeHdIn W.K c P=true
theorem TZ{K:Fg}{c P:Ye}(h:PySem.W.tabIn K "best_in"=some (c,P)):tq K P=some (("best_in":Str)++".<locals>."++"<lambda>"):=by
 unfold tq KL;rw[W7,show PySem.W.tabIn K "best_in"=some (c,P)from h];simp only[UO,Vi]
section
variable {W:Wd}{x:Str}{st:Yg}{k:Nat}{g:Gr}{fb:Fs}{c:Ye}
theorem Qz(N:XZ)(n:Nat)(h:W.AtC x st c)
  (hb:∀(A:X_)(outer:List Env)(s:X8)(H:Hp)(E:XK)(f:Ye),bM k (A.deeper (envOfC x (aO st) s.sz f (.ref c)))->N.Nodup->wO (nv uM W.P W.w W.K W.mg W.base N x (aO st) f (.ref c) A outer s H E).nox g (b0 st) fb)
  (S:fu N (N.take n) (aO st):=by exact⟨rfl,rfl,rfl,by decide +kernel,rfl,by decide +kernel,by decide +kernel⟩)
  (hB:Bi x st (N.take n):=by intro _ _ _ _ _ _;first | exact OY λ_=>rfl | exact O5 λ_ _=>rfl | exact O7 λ_ _ _=>rfl | exact O3 λ_ _ _ _=>rfl | exact O1 λ_ _ _ _ _=>rfl):W.Q (k+1) x (N.take n).length g (bx fb N.length):=by
 obtain⟨f,fd,F,hc,hk,hm⟩:=h;refine xK ?_ hk hm (F.binds hB);obtain⟨oc,od,kV,doc,pm,an,eC,ct,FI,rfl,lk,lV⟩:=F.ex;cases(show eC=.ref c from hc);refine IX lk lV S (λvs H Q E ⟨Z,ds,d,hl,_,r,_⟩=>by rw[<- r.len];exact hl) λA outer s H vs Q E hr aG=>?_;obtain⟨Z,ds,d,hl,s1,r,e,kk⟩:=aG;refine⟨_,qg.nox (hb A outer s H E f hr S.nd),?_⟩;obtain⟨o,e1,e2⟩:=a_.mp e;refine⟨_,H,Z,o,Rl.start s1 r,e1,?_⟩;cases o with
 | rt d'=>cases e2;exact kk
 | nx _=>cases e2
 | bk _=>cases e2
 | ct _=>cases e2
end
end Mi
namespace L2
open PySem PySem.Spec PyProof.Rows
theorem CS{l:PySem.W.OpenLaw}{n k:Nat}{q:X9}{loose:XZ}{XP:XS->Ya->Prop}{YP:Yb->Ya->Prop}{d:DefRec}{K:Params->X6}{CX:Yb->CXT}{sp:Yb->Sp}{x:Str}
  (hn:l.most=some n) (Rq:n<=sizeLine) (Om:d.params.defaults=[]) (hr:bM k callerA)
  (hY:∀(w:Yb)(h:Ya),YP w h->(K w.params).In h)
  (hL:∀(w:Yb)(h:Ya),YP w h->∀P qq,tq (K w.params) P=some qq->(∃c,PySem.W.CodeHd h c P)/\h.get? P=some (PySem.W.tabObj #[])/\(K w.params).lookup P=none)
  (F:∀(w:Yb)(mg:XS)(fa:Ye)(h:Ya),(K w.params).In h->h.Ns mainGlobals mg->mg d.name=some (.ref fa)->
   ∃fd:Yc,(∀(s:X8)(u:X7),BindsTo s fd ⟨[u],[]⟩ [(x,u)])/\
    ∀base:Ya,(K w.params).In base->base.Ns mainGlobals mg->jS l.prog w (K w.params) mg base (CX w) k fa fd [x] (sp w))
  (Cv:∀(w:Yb)(H:Hp)(a:Ye)(ns:X4),ns.length<=n->Ke H->cJ (K w.params) H a (ns.map V.int)->sp w [.ref a] H (λv _=>v=.bl true) λ_ _ _=>False)
  (hCX:∀(w:Yb)(H:Hp)(s:X8)(e:X7)(s':X8),CX w [] H s (λ_ _ _=>False) e s'->False) :
  PySem.W.WalkO q loose XP YP l.row.toRowW d [] (λf vs=>PySem.call f vs):=by
 refine Att.wM hn Om λw s₀ s₁ mg mb fa o pm cd doc a vs ns G Y ho hd lV hmg Lq hints hlen hg=>?_;have KX:=hY w _ Y;obtain⟨fd,hb,hF⟩:=F w mg fa _ KX G.T.g hmg;have hbm:=G.T.bmain;refine CO KX G.T.g G.T.b G.T.builtins G.T.nolimit hg (by obtain⟨bm,ob,b1,b2,b3,b4,b5,b6⟩:=hbm;exact⟨bm,ob,b1,b2,b3,b4,b5,b6⟩) (λP qq e=>?_) Lq hints (G_ hlen Rq) hr hF hb (λH hO hS=>Cv w H a ns hlen hO hS) λH e s'=>hCX w H s₁ e s';exact hL w _ Y P qq e
theorem JP{K:X6}{h:Ya}{c P:Ye}(X:K.In h)(hc:PySem.W.codeHdIn K c P=true)(hn:PySem.W.noTabs K=true)(ho:h.get? P=some (PySem.W.tabObj #[])):(∃c,PySem.W.CodeHd h c P)/\h.get? P=some (PySem.W.tabObj #[])/\K.lookup P=none:=by
 refine⟨⟨c,PySem.W.codeHd_of_K X hc⟩,ho,?_⟩;cases hk:K.lookup P with
 | none=>rfl
 | some o=>
  have e5:=X _ _ hk;rw[ho]at e5;cases e5;have h3:=D_.mp hn _ (PySem.W.mem_of_lookupK hk);exact absurd (show false=true from h3) J_
theorem Mq{K:X6}{h:Ya}{c P0:Ye}(X:K.In h)(h1:PySem.W.tabIn K "best_in"=some (c,P0))(h2:PySem.W.tabIn K "best_shown"=none)(hc:PySem.W.codeHdIn K c P0=true)(hn:PySem.W.noTabs K=true)(ho:h.get? P0=some (PySem.W.tabObj #[])) :
  ∀P qq,tq K P=some qq->(∃c,PySem.W.CodeHd h c P)/\h.get? P=some (PySem.W.tabObj #[])/\K.lookup P=none:=λP qq e=>by
 have hP:P0=P:=by
  unfold tq KL at e;rw[W7,show PySem.W.tabIn K "best_in"=some (c,P0)from h1,W7,show PySem.W.tabIn K "best_shown"=none from h2]at e
  by_cases hP:P0=P
  .exact hP
  .simp[hP]at e
 subst hP;exact JP X hc hn ho
end L2
namespace Mi
open PySem
theorem Le{K:Fg}{x:Str}{f c P:Ye}{oc occ:X7}{od odc:XY}{fd:Yc}{vs:Array X7}{sl slc:XR}(a:PySem.W.nsIn K mainGlobals x=some (some (.ref f)))(l:K.lookup f=some ⟨oc,od,.func fd,sl⟩)(e:fd.code=.ref c)(k:K.lookup c=some ⟨occ,odc,.fields vs,slc⟩)(p:vs[11]?=some (.ref P)):PySem.W.tabIn K x=some (c,P):=by
 unfold PySem.W.tabIn;rw[a];dsimp only;rw[l];dsimp only;rw[e];dsimp only;rw[k];dsimp only;rw[p]
theorem Lf{K:Fg}{x:Str}(a:PySem.W.nsIn K mainGlobals x=some none):PySem.W.tabIn K x=none:=by
 unfold PySem.W.tabIn;rw[a]
end Mi
namespace Mi
open PySem PySem.Spec PyProof.Rows L2
section
variable {prog:X9}{w:Yb}{K:Type}[DecidableEq K]{knd:HeapKind prog w K}{A:X_}{E:XO}{s:X8}{a b:Ye}{xa xb:List (K×Ye×X7)}
theorem Bz{nm:String}{Q:Bool->X8->Prop}(hu:knd.room A)(ha:(a==sysModules)=false)(hb:(b==sysModules)=false)(da:s.heap.DictOfH knd a xa)(db:s.heap.DictOfH knd b xb)
  (va:∀x∈xa,x.2.2=.bool true) (vb:∀x∈xb,x.2.2=.bool true) (h:Q (xa.length==xb.length&&xa.all λx=>(atKey xb x.1).isSome) s):wpAny (model prog w) A (Builtin.Dict.samePairs nm a b) Q E s:=by
 obtain⟨oa,es,ep,PJ,_,PK,Tg,hka,_⟩:=da;obtain⟨ob,es',Pl,Rv,_,nU,Rw,hkb,Ti⟩:=db;have L1:es.size=xa.length:=size_of_entries Tg;have Tj:es'.size=xb.length:=size_of_entries Rw;unfold Builtin.Dict.samePairs Builtin.Dict.showsAll;rw[h_ (show ¬(a==sysModules)=true by rw[ha];exact J_),h_ (show ¬(b==sysModules)=true by rw[hb];exact J_)];refine b_ (d_ (b_ (d_ ?_)));refine b_ (UM PJ PK ?_);dsimp only;refine b_ (UM Rv nU ?_)
 by_cases hsz:es.size=es'.size
 case neg=>
  rw[j_ (by simpa using hsz)];have Pj:(xa.length==xb.length)=false:=by rw[<- L1,<- Tj];simpa using hsz
  rw[Pj,Xd]at h;exact b_ (WR (d_ h))
 case pos=>
  have h':Q (xa.all λx=>(atKey xb x.1).isSome) s:=by
   have:(xa.length==xb.length)=true:=by rw[<- L1,<- Tj,hsz];simp
   rw[this,Bool.true_and]at h;exact h
  rw[h_ (by rw[hsz];simp)];refine b_ (Vo PJ PK ?_);refine b_ ?_;rw[Std.Legacy.Range.forIn_eq_forIn_range'];simp only[Std.Legacy.Range.size,Nat.sub_zero,Nat.add_sub_cancel,Nat.div_one];refine VO _
   (λrest q s'=>s'=s/\q=(none,())/\∃i,rest=List.range' i (es.size-i)/\i<=es.size/\(xa.all λx=>(atKey xb x.1).isSome)=(xa.drop i).all λx=>(atKey xb x.1).isSome)
   _ ?_ ?_ _ _ ⟨rfl,rfl,0,by simp,UY _,rfl⟩
  .rintro x rest q s' ⟨rfl,rfl,i,hr,hi,gF⟩;have hlt:i<es.size:=by
    rcases W9 i es.size with h | h
    .exact h
    .rw[Nat.sub_eq_zero_of_le h]at hr;simp at hr
   obtain⟨rfl,w9⟩:x=i/\rest=List.range' (i+1) (es.size-(i+1)):=by
    have e:es.size-i=(es.size-(i+1))+1:=by lia
    rw[e,List.range'_succ]at hr
    injection hr with h1 h2
    exact⟨h1,h2⟩
   refine b_ (UM PJ PK ?_);have FC:x<xa.length:=by rw[<- L1];exact hlt
   have hx:=l_ FC;rw[entry_at Tg x,hx];have hm:xa[x]∈xa:=Ut FC;have hdrop:xa.drop x=xa[x]::xa.drop (x+1):=Uy FC;rw[hdrop,V6]at gF;show wpAny _ _ (holding [.ref xa[x].2.1,xa[x].2.2] _ >>= _) _ _ _;refine b_ (F_ (b_ (wpAny_dictFind_heap hu (hka _ hm) Rv nU Rw hkb Ti (λJk=>?_) λj p hj=>?_)))
   .rw[atKey_none_of_get Jk]at gF;rw[gF]at h';refine d_ ?_;show wpAny _ _ (if(!false)=true then _ else _) _ _ _;rw[j_ (by decide)];exact d_ (d_ h')
   .rw[atKey_of_get Ti hj]at gF;refine b_ (UM Rv nU ?_);rw[entry_at Rw j,hj];have e1:=va _ hm;have e2:=vb _ (I_ hj);show wpAny _ _ (holding [p.2] (eqBool xa[x].2.2 p.2)) _ _ _;rw[e1,show p.2=.bool true from e2];refine F_ ?_;unfold eqBool;refine F_ ?_;rw[j_ (by decide)];refine b_ (WR (d_ ?_));show wpAny _ _ (if(!true)=true then _ else _) _ _ _;rw[h_ (by decide)];refine b_ (Vo PJ PK ?_);rw[h_ (by simp)];exact d_ ⟨rfl,rfl,x+1,w9,hlt,by rw[gF];rfl⟩
  .rintro q s' ⟨rfl,rfl,i,hr,hi,gF⟩;have xq:i=es.size:=by
    rcases W9 i es.size with h | h
    .have e:es.size-i=(es.size-(i+1))+1:=by lia
     rw[e,List.range'_succ]at hr;exact nomatch hr
    .exact Nat.le_antisymm hi h
   refine d_ ?_;rw[xq,L1,WO]at gF;rw[gF]at h';exact h'
theorem DR{Q:XO}(hr:knd.room A.in1)(hu:A.units<cLine)(ha:(a==sysModules)=false)(hb:(b==sysModules)=false)(da:s.heap.DictOfH knd a xa)(db:s.heap.DictOfH knd b xb)
  (va:∀x∈xa,x.2.2=.bool true) (vb:∀x∈xb,x.2.2=.bool true) (h:Q (.bool (!(xa.length==xb.length&&xa.all λx=>(atKey xb x.1).isSome))) s):wpAny (model prog w) A (compareOp .NotEq (.ref a) (.ref b)) Q E s:=by
 refine wpAny_richCompare_same_room (op:=.NotEq) da.typeIs db.typeIs PySem.F.slot_dict_ne (Ug PySem.F.slot_dict_ne da.typeIs PySem.F.entry_dict_ne ?_ (PySem.F.args_dict_ne_2 _ _)) hu;show wpAny _ _ (Builtin.Dict.dictSlotArgs "__ne__" ⟨[.ref a,.ref b],[]⟩ >>= _) _ _ s;refine b_ ?_;unfold Builtin.Dict.dictSlotArgs;refine b_ (WN da.typeIs ?_);show wpAny _ _ (pure (Value.ref a,Value.ref b)) _ _ s;refine d_ ?_;refine b_ (WT (T:="dict") db.typeIs PySem.F.sub_dict_dict ?_);simp only[WX,E_,Uu];refine b_ (d_ (b_ (d_ ?_)));refine b_ (Bz hr ha hb da db va vb ?_);refine d_ ⟨_,rfl,?_,?_⟩
 .exact λx=>nomatch x
 .simpa using h
end
section
variable {X:Cx}{l r:Yf}{fa fb:Fe}{ga gb:Gr}{pos p:Pos}{k:Nat}{th:Str->Int}
def TX:D->Bool
 | .bl b=>b
 | _=>false
def uW(ds:Yl):Bool:=ds.all TX
noncomputable def LW(th:Str->Int)(x y:D):Ym:=(rh th x).bind λm=>(rh th y).bind λn=>if uW m.2&&uW n.2 then some (.bl (!(m.1.length==n.1.length&&m.1.all λq=>decide (q∈n.1))))else none
def Gv(vs:Yn):Prop:=∀v∈vs,v=V.bl true
def Nu(K:Fg)(th:Str->Int):R2:=λx y H Q=>∃(a b:Ye)(ks qs:Yh)(bs cs:X0)(vs us:Yn),x=.ref a/\y=.ref b/\H a=some (.ext (bP th a ks bs vs))/\et K H ks bs/\H b=some (.ext (bP th b qs cs us))/\et K H qs cs/\Gv vs/\Gv us/\
 Q (.bl (!(ks.length==qs.length&&ks.all λq=>decide (q∈qs)))) H
theorem vI(hv:ax vs us)(ha:Gv vs):∀x∈dP ks bs us,x.2.2=.bool true:=λx hx=>by
 have h1:=(Wq hx).2;have h2:=(Wq h1).2;obtain⟨i,hi⟩:=UF.mp h2;have hl:=ax.length hv;have Tn:i<vs.length:=by rw[hl];exact(k_.mp hi).1
 have e:=l_ Tn;obtain⟨u,e1,e2⟩:=hv.get e;rw[hi]at e1;cases e1;rw[ha _ (Ut Tn)]at e2;exact e2
theorem Jz(hu:X.A.units+1<cLine):jw X (compareOp .NotEq) (Nu X.K (hashStr X.w)):=by
 intro pins s σ H x y v u Q I rx ry h;obtain⟨a,b,ks,qs,bs,cs,vs,us,rfl,rfl,h1,h2,h3,h4,h5,h6,q⟩:=h;cases rx;cases ry;obtain⟨ws,hv,l1,l2,dd,wX,hz⟩:=ip I h1 h2;obtain⟨Rx,uH,l1',l2',LH,hsm',hz'⟩:=ip I h3 h4;refine DR (UU hu) (Nat.lt_of_succ_lt hu) wX hsm' dd LH (vI hv h5) (vI uH h6) ⟨.bl _,H,I,?_,q⟩;have e1:(dP ks bs ws).length=ks.length:=by unfold dP;rw[VH,VH];lia
 have e2:(dP qs cs Rx).length=qs.length:=by unfold dP;rw[VH,VH];lia
 have e3:((dP ks bs ws).all λx=>(atKey (dP qs cs Rx) x.1).isSome)=ks.all λq=>decide (q∈qs):=by
  have e4:(λx:Yi×Ye×X7=>(atKey (dP qs cs Rx) x.1).isSome)=(λq=>decide (q∈qs)) ∘ Prod.fst:=by
   funext x;exact ub x.1 l1' l2'
  rw[e4,<- WH,lh l1 l2]
 show Value.bool _=Value.bool _;rw[e1,e2,e3]
theorem uz{K:Fg}{Z:Hp}:∀{ds:Yl}{vs:Yn},ar K Z ds vs->uW ds=true->Gv vs
 | [],vs,h,_=>by cases(show vs=[]from h);intro v hv;cases hv
 | d::ds,_,⟨v,r,e,h,t⟩,ha=>by
  subst e;unfold uW at ha;rw[V6,C_]at ha;intro x hx;rcases p_.mp hx with rfl | hx
  .cases d<;>first | exact absurd (show false=true from ha.1) J_ | skip
   rename_i b;cases(show b=true from ha.1);exact h
  .exact uz t ha.2 x hx
theorem L8{K:Fg}:cU K .cl (LW th) (Nu K th):=λ{Z H x y dx dy d Q} s h1 h2 e kq=>by
 obtain⟨m,e1,e⟩:=a_.mp e;obtain⟨n,e2,e3⟩:=a_.mp e;obtain⟨ht,rfl⟩:=nz e3;rw[C_]at ht;cases ez e1;cases ez e2;obtain⟨a,rfl,bs,vs,hc,hp,rr⟩:=h1.mp s;obtain⟨b,rfl,cs,us,hc',Pv,OK⟩:=h2.mp s;exact⟨a,b,m.1,n.1,bs,cs,vs,us,rfl,rfl,hc,hp.mono s,hc',Pv.mono s,uz rr ht.1,uz OK ht.2,kq _ Z H (Ex.refl s) rfl⟩
theorem Ma(hw:th=hashStr X.w)(hr:bM k X.A)(ha:PD X ga l fa)(hb:PD X gb r fb):PB X (.Compare l [.NotEq] [r] pos) (fB (aq (LW th) fa fb)):=by
 subst hw;exact ja (Jz (jl hr)) L8 ha hb (eQ _)
end
end Mi
namespace Mi
open PySem PySem.Spec PyProof.Rows L2
open PySem.W (KasT kas_rev kas_asc kas_desc kas_tail3 kas_descPart kas_count kas_place kas_bin kas_sort)
def gX{α:Type}(lt:Nat->Nat->Bool):KasT α->α
 | .ret a=>a
 | .ask i j k=>gX lt (k (lt i j))
theorem gP{α β:Type}(lt:Nat->Nat->Bool)(f:α->KasT β):∀t:KasT α,gX lt (t.bind f)=gX lt (f (gX lt t))
 | .ret _=>rfl
 | .ask i j k=>gP lt f (k (lt i j))
section
variable {key:Nat->Int}{n:Nat}
def kl(key:Nat->Int):Nat->Nat->Bool:=λi j=>decide (key i<key j)
def ka(key:Nat->Int)(p:Array Nat)(i:Nat):Int:=key (p.getD i 0)
def D'(key:Nat->Int)(p:Array Nat)(b:Nat):Prop:=∀i j,i<=j->j<b->ka key p i<=ka key p j
def Qd(key:Nat->Int)(p:Array Nat)(b:Nat):Prop:=∀i j,i<=j->j<b->ka key p j<=ka key p i
def kIn(key:Nat->Int)(p:Array Nat):Prop:=∀i j,i<j->j<p.size->ka key p i≠ka key p j
theorem rS{p:Array Nat}{j:Nat}(hj:j<=p.size)(k:Nat):ka key (kas_rev p 0 j) k=if k<j then ka key p (j-1-k)else ka key p k:=by
 have e:=getElem?_mirror_all (xs:=p) (i:=0) hj k;unfold ka kas_rev;simp only[W_,e,UY,true_and,Uc]
 split<;>rfl
theorem qZ{p:Array Nat}{k l:Nat}(hs:k<p.size)(hl:l<=k)(i:Nat):ka key (bubble p k (k-l)) i=if i=l then ka key p k else if l<i/\i<=k then ka key p (i-1)else ka key p i:=by
 have e:=getElem?_bubble (xs:=p) hs (k-l) (by lia) i;rw[show k-(k-l)=l by lia]at e;unfold ka;simp only[W_,e]
 split
 .rfl
 .split<;>rfl
theorem Kp{p:Array Nat}:D' key p 1:=λi j a b=>by
 have:i=j:=by lia
 subst this;exact Ww _
theorem yc{p:Array Nat}:∀(f m:Nat),1<=m->D' key p m->m<=gX (kl key) (kas_asc p f m)/\gX (kl key) (kas_asc p f m)<=m+f/\D' key p (gX (kl key) (kas_asc p f m))/\
  (gX (kl key) (kas_asc p f m)=m+f\/ka key p (gX (kl key) (kas_asc p f m))<ka key p (gX (kl key) (kas_asc p f m)-1))
 | 0,m,h1,hu=>⟨m_ _,m_ _,hu,.inl rfl⟩
 | f+1,m,h1,hu=>by
  show _<=gX _ (if kl key (p.getD m 0) (p.getD (m-1) 0)=true then .ret m else kas_asc p f (m+1))/\gX _ (if kl key (p.getD m 0) (p.getD (m-1) 0)=true then .ret m else kas_asc p f (m+1))<=_/\D' key p (gX _ (if kl key (p.getD m 0) (p.getD (m-1) 0)=true then .ret m else kas_asc p f (m+1)))/\(gX _ (if kl key (p.getD m 0) (p.getD (m-1) 0)=true then .ret m else kas_asc p f (m+1))=_\/ka key p (gX _ (if kl key (p.getD m 0) (p.getD (m-1) 0)=true then .ret m else kas_asc p f (m+1)))<ka key p (gX _ (if kl key (p.getD m 0) (p.getD (m-1) 0)=true then .ret m else kas_asc p f (m+1))-1))
  by_cases hl:ka key p m<ka key p (m-1)
  .rw[j_ (show kl key (p.getD m 0) (p.getD (m-1) 0)=true from v_ hl)];exact⟨m_ _,by show m<=_;lia,hu,.inr hl⟩
  .rw[h_ (show ¬kl key (p.getD m 0) (p.getD (m-1) 0)=true from λz=>hl (Uj z))];have Fp:D' key p (m+1):=λi j a b=>by
    by_cases hj:j<m
    .exact hu i j a hj
    .have:j=m:=by lia
     subst this
     by_cases hi:i=j
     .subst hi;exact Ww _
     .exact WD (hu i (j-1) (by lia) (by lia)) (Int.not_lt.mp hl)
   obtain⟨a,b,c,d⟩:=yc f (m+1) (by lia) Fp;exact⟨by lia,by lia,c,d.imp (λe=>by lia) id⟩
theorem zS{p:Array Nat}(hi:kIn key p):∀(f m:Nat),1<=m->m+f<=p.size->Qd key p m->∃x,gX (kl key) (kas_desc f p m 0)=(p,x,0)/\m<=x/\x<=m+f/\Qd key p x
 | 0,m,h1,_,hd=>⟨m,rfl,m_ _,m_ _,hd⟩
 | f+1,m,h1,hz,hd=>by
  show ∃x,gX _ (if kl key (p.getD m 0) (p.getD (m-1) 0)=true then(if 0>0 then _ else kas_desc f p (m+1) 0)else KasT.ask (p.getD (m-1) 0) (p.getD m 0) λd=>if d=true then .ret (p,m,0)else kas_desc f p (m+1) (0+1))=_/\_
  by_cases hl:ka key p m<ka key p (m-1)
  .rw[j_ (show kl key (p.getD m 0) (p.getD (m-1) 0)=true from v_ hl),h_ (by lia)];have H9:Qd key p (m+1):=λi j a b=>by
    by_cases hj:j<m
    .exact hd i j a hj
    .have:j=m:=by lia
     subst this
     by_cases hij:i=j
     .subst hij;exact Ww _
     .exact WD (Xa hl) (hd i (j-1) (by lia) (by lia))
   obtain⟨x,a,b,c,d⟩:=zS hi f (m+1) (by lia) (by lia) H9;exact⟨x,a,by lia,by lia,d⟩
  .rw[h_ (show ¬kl key (p.getD m 0) (p.getD (m-1) 0)=true from λz=>hl (Uj z))];have h2:ka key p (m-1)<ka key p m:=by have:=hi (m-1) m (by lia) (by lia);lia
   show ∃x,gX _ (if kl key (p.getD (m-1) 0) (p.getD m 0)=true then _ else _)=_/\_;rw[j_ (show kl key (p.getD (m-1) 0) (p.getD m 0)=true from v_ h2)];exact⟨m,rfl,m_ _,by lia,hd⟩
theorem DC{p:Array Nat}(hi:kIn key p)(h1:1<=p.size):∃m p',gX (kl key) (kas_count p.size p)=(m,p')/\1<=m/\m<=p.size/\p'.Perm p/\D' key p' m:=by
 unfold kas_count;rw[gP];obtain⟨a,b,c,d⟩:=yc (key:=key) (p:=p) (p.size-1) 1 (m_ _) Kp;generalize gX (kl key) (kas_asc p (p.size-1) 1)=m at a b c d
 by_cases e:m=p.size
 .rw[j_ (by simpa using e)];exact⟨m,p,rfl,a,by lia,.refl _,c⟩
 .rw[h_ (by simpa using e)];have hlt:=d.resolve_left (by lia)
  by_cases hg:m>1
  .rw[j_ hg];show ∃m' p',gX _ (if kl key (p.getD 0 0) (p.getD (m-1) 0)=true then _ else _)=_/\_;have h2:ka key p 0<ka key p (m-1):=by have:=hi 0 (m-1) (by lia) (by lia);have:=c 0 (m-1) (by lia) (by lia);lia
   rw[j_ (show kl key (p.getD 0 0) (p.getD (m-1) 0)=true from v_ h2)];exact⟨m,p,rfl,a,by lia,.refl _,c⟩
  .rw[h_ hg];have:m=1:=by lia
   subst this;unfold kas_descPart;rw[gP];obtain⟨x,e1,x1,x2,x3⟩:=zS hi (p.size-(1+1)) (1+1) (by lia) (by lia) (λi j a b=>by
    by_cases hij:i=j
    .subst hij;exact Ww _
    .have e1:i=0:=by lia
     have e2:j=1:=by lia
     subst e1;subst e2;exact Xa hlt)
   rw[e1];rw[h_ (by show ¬0>0;lia)];unfold kas_tail3;rw[gP];have hu:D' key (kas_rev p 0 x) x:=λi j a b=>by
    rw[rS (by lia),rS (by lia),j_ (by lia),j_ (by lia)];exact x3 _ _ (by lia) (by lia)
   obtain⟨a',b',c',d'⟩:=yc (p.size-x) x (by lia) hu;exact⟨_,_,rfl,by show 1<=gX _ (kas_asc (kas_rev p 0 x) (p.size-x) x);lia,by show gX _ (kas_asc (kas_rev p 0 x) (p.size-x) x)<=_;lia,mirror_perm _ _ _ _,c'⟩
theorem i9{p:Array Nat}{k:Nat}(hu:D' key p k):∀(f l r:Nat),l<=r->r<=k->r-l<=f->(∀i,i<l->ka key p i<=ka key p k)->(∀i,r<=i->i<k->ka key p k<ka key p i)->
  ∃x,gX (kl key) (kas_place p k f l r)=x/\x<=k/\(∀i,i<x->ka key p i<=ka key p k)/\(∀i,x<=i->i<k->ka key p k<ka key p i)
 | 0,l,r,h1,h2,h3,h4,h5=>⟨l,rfl,by lia,h4,λi a b=>h5 i (by lia) b⟩
 | f+1,l,r,h1,h2,h3,h4,h5=>by
  unfold kas_place
  by_cases hg:l>=r
  .rw[j_ hg];exact⟨l,rfl,by lia,h4,λi a b=>h5 i (by lia) b⟩
  .rw[h_ hg];show ∃x,gX _ (if kl key (p.getD k 0) (p.getD ((l+r)/2) 0)=true then _ else _)=_/\_
   by_cases hl:ka key p k<ka key p ((l+r)/2)
   .rw[j_ (show kl key (p.getD k 0) (p.getD ((l+r)/2) 0)=true from v_ hl)];exact i9 hu f _ _ (by lia) (by lia) (by lia) h4 λi a b=>Int.lt_of_lt_of_le hl (hu _ _ a b)
   .rw[h_ (show ¬kl key (p.getD k 0) (p.getD ((l+r)/2) 0)=true from λz=>hl (Uj z))];exact i9 hu f _ _ (by lia) (by lia) (by lia) (λi a=>WD (hu i _ (by lia) (by lia)) (Int.not_lt.mp hl)) h5
theorem Dj:∀(f:Nat)(p:Array Nat)(k:Nat),k+f=p.size->D' key p k->(gX (kl key) (kas_bin f p k)).Perm p/\D' key (gX (kl key) (kas_bin f p k)) p.size
 | 0,p,k,h,hu=>⟨.refl _,by rw[<- h];exact hu⟩
 | f+1,p,k,h,hu=>by
  unfold kas_bin;rw[gP];obtain⟨x,e,x1,x2,x3⟩:=i9 hu k 0 k (UY _) (m_ _) (by lia) (λi a=>by lia) λi a b=>by lia
  rw[e];have hz:(bubble p k (k-x)).size=p.size:=bubble_size _ _ _;obtain⟨a,b⟩:=Dj f (bubble p k (k-x)) (k+1) (by lia) λi j hij hj=>by
   rw[qZ (by lia) x1,qZ (by lia) x1]
   repeat' split
   all_goals first
    | (exfalso;lia)
    | exact Ww _
    | exact x2 _ (by lia)
    | exact Xa (x3 _ (by lia) (by lia))
    | exact hu _ _ (by lia) (by lia)
  rw[hz]at b;exact⟨a.trans (bubble_perm _ _ _),b⟩
theorem Hr(hn:1<=n)(hi:∀i j,i<j->j<n->key i≠key j):(gX (kl key) (kas_sort n)).toList.Perm (List.range n)/\(gX (kl key) (kas_sort n)).toList.Pairwise λi j=>key i<=key j:=by
 have hs:(List.toArray (List.range n)).size=n:=by simp
 have hg:∀i,i<n->(List.toArray (List.range n)).getD i 0=i:=λi h=>by simp[Array.getD,h]
 have xq:kIn key (List.toArray (List.range n)):=λi j a b=>by
  rw[hs]at b;unfold ka;rw[hg i (by lia),hg j b];exact hi i j a b
 have main:(gX (kl key) (kas_sort n)).Perm (List.toArray (List.range n))/\D' key (gX (kl key) (kas_sort n)) n:=by
  unfold kas_sort;rw[gP];obtain⟨m,p',e,m1,m2,hp,hu⟩:=DC xq (by lia);rw[hs]at e m2;rw[e];have hz:p'.size=n:=by rw[hp.size_eq,hs]
  by_cases hl:m<n
  .rw[j_ (show(m,p').1<n from hl)];show(gX _ (kas_bin (n-max m 1) p' (max m 1))).Perm _/\_;rw[show max m 1=m by lia];obtain⟨a,b⟩:=Dj (n-m) p' m (by lia) hu;rw[hz]at b;exact⟨a.trans hp,b⟩
  .rw[h_ (show ¬(m,p').1<n from hl)];have:m=n:=by lia
   subst this;exact⟨hp,hu⟩
 obtain⟨hp,hu⟩:=main;refine⟨by simpa using Xk.mp hp,VD.mpr λi j h1 h2 hij=>?_⟩;have hz:(gX (kl key) (kas_sort n)).size=n:=by rw[hp.size_eq,hs]
 have:=hu i j (by lia) (by simpa [hz]using h2);unfold ka at this;simp only[Uk]at h1 h2;simpa [Array.getD,h1,h2]using this
end
end Mi
namespace Mi
open PySem PySem.Spec PyProof.Rows L2
open PySem.W (KasT kas_sort kas_ask kat_run kat_snds kas_rev kas_asc kas_desc kas_tail3 kas_descPart kas_count kas_place kas_bin)
def sA{α:Type}(n:Nat)(P:α->Prop):KasT α->Prop
 | .ret a=>P a
 | .ask i j k=>(i<n/\j<n)/\∀b,sA n P (k b)
section
variable {n:Nat}{p:Array Nat}
theorem hV{α β:Type}{f:α->KasT β}{P:α->Prop}{R:β->Prop}(h:∀a,P a->sA n R (f a)):∀{t:KasT α},sA n P t->sA n R (t.bind f)
 | .ret a,g=>h a g
 | .ask _ _ k,⟨g,q⟩=>⟨g,λb=>hV h (q b)⟩
def gd(n:Nat)(p:Array Nat):Prop:=(0<n/\p.size=n)/\∀x∈p.toList,x<n
theorem gd.at(h:gd n p)(i:Nat):p.getD i 0<n:=by
 by_cases hi:i<p.size
 .rw[show p.getD i 0=p[i] by simp[Array.getD,hi]];exact h.2 _ (by simp)
 .rw[show p.getD i 0=0 by simp[Array.getD,hi]];exact h.1.1
theorem gd.perm{q:Array Nat}(h:gd n p)(e:q.Perm p):gd n q:=⟨⟨h.1.1,e.size_eq.trans h.1.2⟩,λx hx=>h.2 x ((Xk.mp e).mem_iff.mp hx)⟩
theorem gd.rev(h:gd n p)(i j:Nat):gd n (kas_rev p i j):=h.perm (mirror_perm _ _ _ _)
theorem xu(h:gd n p):∀(f m:Nat),sA n (λ_=>True) (kas_asc p f m)
 | 0,_=>trivial
 | f+1,m=>⟨⟨h.at _,h.at _⟩,λb=>by
  cases b
  .exact xu h f (m+1)
  .trivial⟩
theorem nR:∀(f:Nat)(p:Array Nat)(m q:Nat),gd n p->sA n (λr=>gd n r.1) (kas_desc f p m q)
 | 0,_,_,_,h=>h
 | f+1,p,m,q,h=>⟨⟨h.at _,h.at _⟩,λb=>by
  cases b
  .refine⟨⟨h.at _,h.at _⟩,λb=>?_⟩;cases b
   .exact nR f p (m+1) (q+1) h
   .exact h
  .show sA n _ (if q>0 then _ else _)
   split
   .exact nR f _ _ _ (h.rev _ _)
   .exact nR f _ _ _ h⟩
theorem zw(h:gd n p)(m k:Nat):sA n (λr=>gd n r.2) (kas_tail3 m k p):=hV (n:=n) (P:=λ_=>True) (R:=λr=>gd n r.2) (f:=λx=>KasT.ret (x,kas_rev p 0 m)) (λ_ _=>h.rev 0 m) (xu (h.rev 0 m) _ _)
theorem zQ(h:gd n p)(m k:Nat):sA n (λr=>gd n r.2) (kas_descPart m k p):=hV (λa ha=>by
 show sA n _ (if a.2.2>0 then _ else _)
 split
 .exact zw (ha.rev _ _) _ _
 .exact zw ha _ _) (nR _ _ _ _ h)
theorem E6(h:gd n p)(k:Nat):sA n (λr=>gd n r.2) (kas_count k p):=hV (λa _=>by
 split
 .exact h
 .split
  .refine⟨⟨h.at _,h.at _⟩,λb=>?_⟩;cases b
   .exact zQ (h.rev _ _) _ _
   .exact h
  .exact zQ h _ _) (xu h _ _)
theorem oU(h:gd n p)(k:Nat):∀(f l r:Nat),sA n (λ_=>True) (kas_place p k f l r)
 | 0,_,_=>trivial
 | f+1,l,r=>by
  unfold kas_place
  split
  .trivial
  .refine⟨⟨h.at _,h.at _⟩,λb=>?_⟩;cases b
   .exact oU h k f _ _
   .exact oU h k f _ _
theorem D4:∀(f:Nat)(p:Array Nat)(k:Nat),gd n p->sA n (gd n) (kas_bin f p k)
 | 0,_,_,h=>h
 | f+1,p,k,h=>hV (λ_ _=>D4 f _ _ (h.perm (bubble_perm _ _ _))) (oU h k _ _ _)
theorem nT(h:0<n):sA n (gd n) (kas_sort n):=hV (λa ha=>by
 split
 .exact D4 _ _ _ ha
 .exact ha) (E6 ⟨⟨h,by simp⟩,λx hx=>by simpa using hx⟩ n)
theorem sA.out{α:Type}{P:α->Prop}{lt:Nat->Nat->Bool}:∀{t:KasT α},sA n P t->P (gX lt t)
 | .ret _,h=>h
 | .ask i j k,h=>sA.out (t:=k (lt i j)) (h.2 (lt i j))
end
theorem dD.len{h:Ya}:∀{vs:XX}{kss:Yh},dD h vs kss->vs.length=kss.length
 | [],[],_=>rfl
 | [],_::_,t=>t.elim
 | _::_,[],t=>t.elim
 | _::_,_::_,t=>by rw[z_,z_,dD.len t.2]
def Mm(kss:Yh)(i j:Nat):Bool:=(dO (kss.getD i []) (kss.getD j [])).getD false
def hJ(kss:Yh):X3:=if kss.length<2 then List.range kss.length else(gX (Mm kss) (kas_sort kss.length)).toList
def yE(kss:Yh):Bool:=kss.all zK&&kss.all λx=>kss.all λy=>(dO x y).isSome
theorem sk{kss:Yh}:∀i∈hJ kss,i<kss.length:=by
 intro i hi;unfold hJ at hi
 split at hi
 .simpa using hi
 .exact(nT (by lia)).out.2 i hi
theorem Ff(kss:Yh):(hJ kss).length=kss.length:=by
 unfold hJ
 split
 .simp
 .rw[Uk];exact(nT (by lia)).out.1.2
section
variable {prog:X9}{w:Yb}{A:X_}{E:XO}{s:X8}
theorem DX{α:Type}{n:Nat}{cmp:Nat->Nat->(Bool->X8->Prop)->X8->Prop}{lt:Nat->Nat->Bool}{s:X8}(hc:∀i j (C:Bool->X8->Prop),i<n->j<n->C (lt i j) s->cmp i j C s){P:α->Prop}{Q:α->X8->Prop}:∀{t:KasT α},sA n P t->Q (gX lt t) s->t.kasWp cmp Q s
 | .ret _,_,h=>h
 | .ask i j k,⟨g,q⟩,h=>hc i j _ g.1 g.2 (DX hc (q (lt i j)) h)
theorem ve{a:Ye}{vs:XX}{kss:Yh}{n:Nat}{P:PySem.Fin->X8->Prop}(ho:s.heap.get? a=some (seqObj "list" vs.toArray n))
  (ht:dD s.heap vs kss) (hx:yE kss=true) (PM:vs.length<64)
  (h:P (.done (.ret .none)) {s with heap:=sortedHeap s.heap a vs ((hJ kss).map λi=>vs.getD i .none).toArray}) :
  wpAny (model prog w) A (Builtin.«list.sort» ⟨[.ref a],[]⟩) P E s:=by
 rw[list_sort_plain];have ha:a<s.sz:=q_ ho;have hz:vs.length<=sizeLine:=by have:=Um;lia
 refine b_ (listItems_at ho rfl ?_);refine b_ (listUpdate_at ho rfl ?_ (by simpa using hz) (by simp));obtain⟨e1,To⟩:∃e1,(s.heap.update a (Obj.mapSeq λ_=>#[])).get? a=some (seqObj "list" #[] e1):=⟨_,W4 ho (λ_=>#[])⟩;refine b_ (seqEpoch_at To rfl ?_);refine b_ (wpAny_newTuple ?_);refine b_ (W0 ?_);refine F_ ?_;have PN:(((s.heap.update a (Obj.mapSeq λ_=>#[])).push (seqObj "tuple" vs.toArray 0)).push (seqObj "list" #[] 0)).get? a=some (seqObj "list" #[] e1):=by
  rw[Heap.get?_push_ne _ _ _ (by rw[size_push',WS];exact B_ (UR ha)),Heap.get?_push_ne _ _ _ (by rw[WS];exact B_ ha)];exact To
 show wpAny (model prog w) A _ P E {s with heap:=((s.heap.update a (Obj.mapSeq λ_=>#[])).push (seqObj "tuple" vs.toArray 0)).push (seqObj "list" #[] 0)};have PC:dD (((s.heap.update a (Obj.mapSeq λ_=>#[])).push (seqObj "tuple" vs.toArray 0)).push (seqObj "list" #[] 0)) vs kss:=ht.keeps λb o hb hc=>by
  refine e_ _ (e_ _ ?_);rw[Heap.get?_update_ne _ _ _ _ (λz=>?_)]
  .exact hb
  .subst z;rw[ho]at hb;cases hb;injection (show Value.type "list"=Value.type "tuple" from hc)with e;exact absurd e (by decide)
 dsimp only;have hsz:vs.toArray.size=vs.length:=by simp
 have hl:=ht.len;unfold yE at hx;rw[C_]at hx
 by_cases h2:vs.toArray.size<2
 .have Lo:(vs.toArray.zip vs.toArray).map (·.2)=((hJ kss).map λi=>vs.getD i .none).toArray:=by
   unfold hJ;rw[j_ (by lia),<- hl];apply Array.ext
   .simp
   .intro i h1 h2;simp at h1 h2;simp[h1]
  rw[j_ h2,j_ h2];refine b_ (d_ ?_);rw[StateT.run_pure];refine b_ (d_ ?_);dsimp only;refine b_ (seqEpoch_at PN rfl ?_);refine b_ (listUpdate_at PN rfl ?_ (hsz2:=by rw[Array.size_map];rw[Array.size_zip,hsz,Nat.min_self];lia));simp only[bne_self_eq_false,E_,Uu];refine d_ ?_;show P (.done (.ret .none)) {s with heap:=(((s.heap.update a (Obj.mapSeq λ_=>#[])).push (seqObj "tuple" vs.toArray 0)).push (seqObj "list" #[] 0)).update a (Obj.mapSeq λ_=>(vs.toArray.zip vs.toArray).map (·.2))};rw[Lo];exact h
 .rw[h_ h2,h_ h2];obtain⟨fs,f1,f2,f3⟩:=PC.firsts hx.1;refine b_ (PySem.W.kat_kind (T:=.type "int") f1 (by lia) (λv hv=>?_) (by simp) ?_)
  .obtain⟨m,t,rfl⟩:=f3 v hv;exact PySem.W.Looks.now
  rw[show(Value.type "int" != Value.type "tuple")=true by decide];have OQ:∀i,i<vs.length->∃b o xs k ks,vs.getD i Value.none=.ref b/\(((s.heap.update a (Obj.mapSeq λ_=>#[])).push (seqObj "tuple" vs.toArray 0)).push (seqObj "list" #[] 0)).get? b=some o/\o.cls=.type "tuple"/\o.data=.seq xs k/\kss[i]?=some ks/\bS xs.toList ks:=λi hi=>PC.at (i:=i) (v:=vs.getD i .none) (by rw[s_,l_ hi];rfl);refine b_ (Ur (kat_run (ks:=vs) (vs:=vs) (κ:=tuples' true) (G:=λp s'=>s'={s with heap:=((s.heap.update a (Obj.mapSeq λ_=>#[])).push (seqObj "tuple" vs.toArray 0)).push (seqObj "list" #[] 0)}/\p.toList=hJ kss)
   (Q:=λwZ s'=>s'={s with heap:=((s.heap.update a (Obj.mapSeq λ_=>#[])).push (seqObj "tuple" vs.toArray 0)).push (seqObj "list" #[] 0)}/\failedOf wZ=none/\(hJ kss).length=vs.length/\(arrOf wZ).map (·.2)=List.toArray ((hJ kss).map λi=>vs.getD i Value.none)) rfl (by lia) PM
   (λp wZ s' a1 a2 a3 a4=>⟨a4.1,a3,by rw[<- a4.2,Uk,a1],by rw[kat_snds rfl a2,a4.2]⟩) (DX (lt:=Mm kss) (λi j C hi hj hC=>?lt) (nT (by lia)) ⟨rfl,?od⟩)) ?post λ_ _ e=>e)
  case od=>unfold hJ;rw[h_ (by lia),hl]
  case lt=>
   obtain⟨b,o,xs,k,ks,e3,c1,c2,c3,c4,c5⟩:=OQ i hi;obtain⟨b',o',SO,k',ju,e4,d1,d2,d3,d4,d5⟩:=OQ j hj;show wpAny (model prog w) A (keyLt' _ (vs.getD i Value.none) (vs.getD j Value.none)) C _ _;rw[e3,e4];refine PySem.W.kat_lt c1 c3 d1 d3 ?_;have hd:decide (xs.size<SO.size)=decide (xs.toList.length<SO.toList.length):=by simp
   rw[hd];have m1:=I_ c4;have m2:=I_ d4;obtain⟨q,hq⟩:=Option.isSome_iff_exists.mp (D_.mp (D_.mp hx.2 _ m1) _ m2);refine Lc c5 d5 hq (λ_=>⟨D_.mp hx.1 _ m1,D_.mp hx.1 _ m2⟩) ?_;unfold Mm at hC;rw[s_,s_,c4,d4]at hC;dsimp only[Option.getD_some]at hC;rw[hq]at hC;exact hC
  case post=>
   rintro⟨⟨⟩,wZ⟩ s' ⟨rfl,hf,FJ,hp⟩;dsimp only at hp hf ⊢;rw[hf,hp];refine b_ (seqEpoch_at PN rfl ?_);refine b_ (listUpdate_at PN rfl ?_ (hsz2:=by rw[r_,c_,FJ];lia));simp only[bne_self_eq_false,E_,Uu];exact d_ h
theorem GJ{a:Ye}{o:Obj}{n:Nat}{vs:XX}{kss:Yh}{Q:XO}(ho:s.heap.get? a=some o)(hc:o.cls=.type "list"\/o.cls=.type "tuple")(hd:o.data=.seq vs.toArray n)
  (ht:dD s.heap vs kss) (hx:yE kss=true) (PM:vs.length<64)
  (q:Q (.ref (s.sz+1)) {s with heap:=sortedAll s.heap vs ((hJ kss).map λi=>vs.getD i .none).toArray}):wpAny (model prog w) A (call (.builtin "sorted") [.ref a]) Q E s:=by
 refine Calls.call_function_entry PyProof.Rows.kind_sorted plain_sorted entry_sorted (args_sorted1 _) ?_;unfold Builtin.«sorted»;refine b_ (m:=checkCount "sorted" 1 1 _) (d_ (b_ (vH ho hc hd (b_ (W0 ?_)) (by have:=Um;lia))));have z1:((s.heap.push (seqObj "list" #[] 0)).update s.sz (Obj.mapSeq (·++vs.toArray))).objs.size=s.sz+1:=by rw[WS,size_push']
 have z2:(((s.heap.push (seqObj "list" #[] 0)).update s.sz (Obj.mapSeq (·++vs.toArray))).push (seqObj "list" vs.toArray 0)).get? (s.sz+1)=some (seqObj "list" vs.toArray 0):=by
  rw[<- z1];exact n_ _ rfl
 show wpAny _ _ _ _ _ {s with heap:=((s.heap.push (seqObj "list" #[] 0)).update s.sz (Obj.mapSeq (·++vs.toArray))).push (seqObj "list" vs.toArray 0)};rw[z1];have PC:dD (((s.heap.push (seqObj "list" #[] 0)).update s.sz (Obj.mapSeq (·++vs.toArray))).push (seqObj "list" vs.toArray 0)) vs kss:=ht.keeps λb o hb hc=>by
  refine e_ _ ?_;rw[Heap.get?_update_ne _ _ _ _ (B_ (q_ hb))];exact e_ _ hb
 exact b_ (F_ (Ug slot_list_sort ⟨_,z2,rfl⟩ entry_list_sort (ve z2 PC hx PM ⟨_,rfl,d_ ⟨_,rfl,q⟩⟩) (args_list_sort _)))
end
def rm:D->Ym
 | .lst ds=>(l' ds).bind λkss=>if ds.length<64/\yE kss=true then some (.lst ((hJ kss).map λi=>ds.getD i .non))else none
 | _=>none
section
variable {X:Cx}{l r:Yf}{fa fb:Fe}{ga gb:Gr}{pos p:Pos}
def Dr(K:Fg):Yn->Hp->VK->Prop:=λxs H Q=>∃(a:Ye)(vs:Yn)(kss:Yh),xs=[.ref a]/\cJ K H a vs/\xl K H vs kss/\vs.length<64/\yE kss=true/\∀q,H q=none->Q (.ref q) (upd H q (.lst ((hJ kss).map λi=>vs.getD i .non)))
theorem xl.len{K:Fg}{H:Hp}:∀{vs:Yn}{kss:Yh},xl K H vs kss->vs.length=kss.length
 | [],[],_=>rfl
 | [],_::_,t=>t.elim
 | _::_,[],t=>t.elim
 | _::_,_::_,t=>by rw[z_,z_,xl.len t.2]
theorem rf{vs:Yn}{us:XX}(r:ax vs us):∀{is:X3},(∀i∈is,i<vs.length)->ax (is.map λi=>vs.getD i .non) (is.map λi=>us.getD i .none)
 | [],_=>.nil
 | i::is,h=>by
  have hi:=h i (g_ ..);obtain⟨u,h5,h6⟩:=ax.get r (l_ hi);refine .cons ?_ (rf r λj hj=>h j (f_ _ hj));dsimp only;rw[s_,s_,h5,l_ hi];exact h6
theorem uq:cS X (.builtin "sorted") (Dr X.K):=by
 intro pins s σ H xs us Q I rs h;obtain⟨a,vs,kss,rfl,hq,ht,PM,hx,q⟩:=h;obtain⟨u,rfl,rx⟩:=vals1 rs;cases rx;obtain⟨a5,rv,pl,hz⟩:=I.list hq;obtain⟨o,ho,hc,n,hd⟩:=pl.isList;have hl:=rv.length;refine GJ ho (.inl hc) hd (ht.heap I rv) hx (by lia) ?_;obtain⟨e,he⟩:=sortedAll_at s.heap a5 ((hJ kss).map λi=>a5.getD i .none).toArray;have hk:=ht.len;have v2:=rf rv (is:=hJ kss) λi hi=>by have:=sk i hi;lia
 refine⟨.ref _,_,I.laid (t':=s.toks) (o:=.lst ((hJ kss).map λi=>vs.getD i .non)) (λb o z=>sortedAll_old z) (VW _) ⟨?_,_,e,v2,by simpa using he⟩,rfl,q _ (I.hok.fresh (VW _))⟩;rw[c_,Ff];lia
theorem rT{K:Fg}{Z:Hp}{ds:Yl}{vs:Yn}(r:ar K Z ds vs):∀{is:X3},(∀i∈is,i<ds.length)->ar K Z (is.map λi=>ds.getD i .non) (is.map λi=>vs.getD i .non)
 | [],_=>rfl
 | i::is,h=>by
  have hi:=h i (g_ ..);obtain⟨u,h5,h6⟩:=r.get (l_ hi);refine ar.cons ?_ (rT r λj hj=>h j (f_ _ hj));dsimp only;rw[s_,s_,h5,l_ hi];exact h6
theorem GC{K:Fg}:fL K .nw rm (Dr K):=λ{Z H x dx d Q} s h e k=>by
 cases dx<;>try cases e
 obtain⟨kss,h1,h2⟩:=a_.mp e;obtain⟨hl,rfl⟩:=nz h2;obtain⟨a,vs,rfl,q,rr⟩:=h.lst s;have ht:=xl.of h1 rr;have hk:=ht.len;have vl:=rr.len;exact⟨a,vs,kss,rfl,q,ht.mono s,by lia,hl.2,λp hp=>k _ Z _ (Ex.newL s hp) ⟨p,_,_,rfl,rfl,hp,ay,s.free hp,rT rr λi hi=>by have:=sk i hi;lia⟩⟩
theorem zH(hm:X.mg "sorted"=none)(ha:PD X ga l fa)(hg:Gl X "sorted":=by rfl)(he:starEach [l] X.env=[(false,eval l X.env)]:=by rfl):PD X .nw (.Call (.Name "sorted" p) [l] [] pos) (bC rm fa):=
 mR uq GC PyProof.Rows.boot_sorted hm ha (by decide) (by decide) hg he
end
end Mi
namespace Mi
open PySem PySem.Spec PyProof.Rows L2
def yV(ns:X4):Option Int:=(B8 (ns.map (- ·))).map (- ·)
theorem AD{ns:X4}{m:Int}(h:m∈ns)(hm:∀a∈ns,m<=a):yV ns=some m:=by
 unfold yV;rw[Az (m:=- m) (u_.mpr ⟨m,h,rfl⟩) λa ha=>by obtain⟨b,hb,rfl⟩:=u_.mp ha;have:=hm b hb;lia];exact congrArg some (Int.neg_neg m)
section
variable {X:Cx}{l r:Yf}{fa fb:Fe}{ga gb:Gr}{pos p:Pos}
theorem A2(hc:X.calm=true):cS X (.builtin "min") (λxs H Q=>∃(a:Ye)(ns:X4)(m:Int),xs=[.ref a]/\cJ X.K H a (ns.map V.int)/\yV ns=some m/\Q (.int m) H):=by
 intro pins s σ H xs us Q I rs h;obtain⟨a,ns,m,rfl,hq,hm,q⟩:=h;obtain⟨u,rfl,rx⟩:=vals1 rs;cases rx;obtain⟨a5,rv,ht,hz⟩:=I.list hq;have hi:=ht.isList;have hlt:a<s.sz:=by obtain⟨o,ho,_⟩:=hi;exact q_ ho
 have hl:=ax.length rv;rw[c_]at hl;have hpos:0<ns.length:=by cases ns with
  | nil=>cases hm
  | cons n ns=>simp
 refine call_min_walk (U9 hi ⟨s.sz,_,_,_,_,_,_,rfl,Walks.list (A:=X.A.in1) (show X.A.in1.handled=none from I.ok.hd hc) s.sz a (B_ hlt) a5.toArray,⟨⟨_,n_ _ rfl,rfl,rfl⟩,hi.push _⟩,λb hb=>?_,by simp;lia,CmpOf.ints_lt (λi=>ns.getD i 0) (λi v hv=>cm rv i v (by simpa using hv)),λv h' tk hP hk=>?_⟩)
 .simp only[p_,Ul,Vq]at hb;rw[U0];rcases hb with rfl | rfl
  .exact Wh _
  .exact UR hlt
 .obtain⟨h1,h2⟩:=argBest_lt (λi=>ns.getD i 0) (a5.toArray.size-1);obtain⟨t,rfl⟩:=cm rv _ _ (by rw[<- List.getElem?_toArray];exact hP);have hsz:a5.toArray.size=ns.length:=by simp;lia
  have e:yV ns=some (ns.getD (argBest (λi j=>decide (ns.getD i 0<ns.getD j 0)) (a5.toArray.size-1)) 0):=by
   refine AD ?_ λx hx=>?_
   .rw[s_,l_ (by lia)];exact Ut _
   .obtain⟨j,hj,rfl⟩:=VN hx;have:=h2 j (by lia);simpa [s_,hj]using this
  rw[hm]at e;have e':=Option.some.inj e;refine⟨.int m,H,I.kept λb o e=>hk b o (λhb=>?_) (e_ _ e),⟨t,by rw[e']⟩,q⟩;have:b=s.sz:=by simpa using hb
  subst this;exact VJ _ (q_ e)
def yt:D->Ym
 | .lst ds=>(hU ds).bind λns=>(yV ns).bind λm=>some (.int m)
 | _=>none
theorem Jr{K:Fg}:fL K .cl yt (λxs H Q=>∃(a:Ye)(ns:X4)(m:Int),xs=[.ref a]/\cJ K H a (ns.map V.int)/\yV ns=some m/\Q (.int m) H):=λ{Z H x dx d Q} s h e k=>by
 cases dx<;>try cases e
 obtain⟨ns,h1,h2⟩:=a_.mp e;obtain⟨m,h3,h4⟩:=a_.mp h2;cases h4;cases fR h1;obtain⟨a,vs,rfl,q,rr⟩:=h.lst s;cases rr.intsV;exact⟨a,ns,m,rfl,q,h3,k _ Z H (Ex.refl s) rfl⟩
theorem Et(hm:X.mg "min"=none)(a7:X.calm=true)(ha:PD X ga l fa)(hg:Gl X "min":=by rfl)(he:starEach [l] X.env=[(false,eval l X.env)]:=by rfl):PD X .cl (.Call (.Name "min" p) [l] [] pos) (bC yt fa):=
 mR (A2 a7) Jr WM hm ha (by decide) (by decide) hg he
end
end Mi
namespace K15
open PySem Mi
abbrev ag:Fe:=λenv=>cy env 0
abbrev ah:Fe:=λenv=>cy env 1
abbrev aD:Fe:=λenv=>cy env 2
abbrev av:Fe:=λenv=>cy env 3
abbrev aS:Fe:=λenv=>cy env 4
abbrev bV:Fe:=λenv=>cy env 5
abbrev cE:Fe:=λenv=>cy env 6
abbrev cB:Fe:=λenv=>cy env 7
abbrev dg:Fe:=λenv=>cy env 8
abbrev bK:Fe:=λenv=>cy env 9
abbrev dC:Fe:=λenv=>cy env 10
abbrev kB:Fe:=λenv=>cy env 11
abbrev dB:Fe:=λenv=>cy env 12
abbrev kG:Fe:=λenv=>cy env 13
noncomputable section
variable [Th]
def oH:D:=(.int 8)
def sL:D:=(.tup [(.str "along"),(.str "down")])
def m8 :Fs:=(az (setF 2 (aq mulI (aq addI (aq addI (aq modI ag (aq powI (fC (.int 10)) (fC (.int 60)))) (aq mulI (fC (.int 7919)) ah)) Yp) (fC (.int 27182818284590452353602874713527)))) (az (setF 2 (aq modI aD (fC (.int 170141183460469231731687303715884105727)))) (bt (aq fdivI (aq modI (aq powI (aq addI (aq powI aD (fC (.int 5))) (aq mulI (fC (.int 48271)) ah)) Yr) (fC (.int 162259276829213363391578010288127))) (fC (.int 7))))))
def m__law_stir:=bx (m8 ) 3
def fy:Fs:=(gC (CG (fB (aq ltI ag (aq powI (fC (.int 10)) (fC (.int 18))))) (fB (aq fV av Yo))) (kA 2 (aq modI (λenv=>((ab ag (ab aS fNil)) env).bind m__law_stir) (aq aK ah aS))) (az (kA 2 (aq modI av (aq aK ah aS))) (setF 3 (aq fdivI av (aq aK ah aS)))))
def uv:Fs:=(az (setO 2 (b8 fNil)) (az (setF 3 ag) (az (ed (iP (bC eM ah)) (bw 4) fy) (vY 2))))
def m__law_drawn:=bx uv 5
def vO:Fs:=(az (ME [1,2,3,4,5,6,7] (λenv=>((ab ag (ab (b8 (ab Ys (ab Ys (ab Ys (ab Ys (ab Ys (ab Ys (ab Yr fNil)))))))) fNil)) env).bind m__law_drawn)) (az (setF 8 (aq aK (b8 (ab (bq (ab (aq addI Yp aD) (ab (aq addI Yp av) fNil))) (ab (bq (ab (aq addI Yq (aq modI aD Yr)) (ab (aq addI Yq (aq modI av Yr)) fNil))) (ab (bq (ab (aq addI Yp (aq modI aD Yr)) (ab (aq addI Yr (aq modI av Yq)) fNil))) fNil)))) (aq minI ah Yq))) (az (gC (fB (aq fV ah Yr)) (setF 8 (bq (ab Yq (ab (aq addI Yq av) fNil)))) nxF) (az (setF 9 (aq aK (b8 (ab (bq (ab (aq addI Yp aS) fNil)) (ab (bq (ab (aq addI Yp (aq modI aS Yr)) (ab (aq addI Yp (aq modI bV Yr)) fNil))) (ab (bq (ab (aq addI Yp (aq modI aS Yr)) (ab (aq addI Yp (aq modI bV Yq)) (ab (aq addI Yp (aq modI cE Yq)) fNil)))) fNil)))) (aq modI ah Yr))) (az (gC (fB (aq fV ah Yr)) (setF 9 (bq (ab (aq addI Yp (aq modI aS Yr)) (ab (aq addI Yp (aq modI bV Yr)) (ab (aq addI Yp (aq modI cE Yq)) fNil))))) nxF) (az (setF 9 (bC mF (bC DU (bC sortI bK)))) (bt (bq (ab dg (ab bK (ab (aq aK (b8 (ab (fC (.str "free")) (ab (fC (.str "sides")) (ab (fC (.str "corners")) fNil)))) cB) fNil)))))))))))
def m__law_game:=bx vO 10
def fK :Fs:=(az (gC (fB (aq leI (aq addI aS ah) (aq aK ag Yp))) (kA 2 (bq (ab av (ab aS (ab (fC (.str "along")) (ab ah fNil)))))) nxF) (gC (tP (fB (aq leI (aq addI av ah) (aq aK ag Yo))) (fB (aq gtI ah Yp))) (kA 2 (bq (ab av (ab aS (ab (fC (.str "down")) (ab ah fNil)))))) nxF))
def dv :Fs:=(ed (iP (aq aK ag Yp)) (bw 4) (fK ))
def tM :Fs:=(az (setO 2 (b8 fNil)) (az (ed (iP (aq aK ag Yo)) (bw 3) (dv )) (vY 2)))
def m__law_ships:=bx (tM ) 5
def fO :Fs:=(kA 5 (bq (ab (aq addI ah (aq mulI cE (bC intD (aq fV av (fC (.str "down")))))) (ab (aq addI aD (aq mulI cE (bC intD (aq fV av (fC (.str "along")))))) fNil))))
def sx :Fs:=(az (zu [1,2,3,4] ag) (az (setO 5 (b8 fNil)) (az (ed (iP aS) (bw 6) (fO )) (vY 5))))
def m__law_cells:=bx (sx ) 7
def j7 :Fs:=(xM Th.h 2 (fC (.bl true)) (bq (ab (aq addI aS cE) (ab (aq addI bV cB) fNil))))
def ek :Fs:=(ed (cF av) (lU [6,7]) (j7 ))
def vK:Fs:=(az (setM 2 (fC (.mp Th.h [] []))) (az (setF 3 (b8 (ab (bq (ab Yo (ab Yo fNil))) fNil))) (az (gC (fB (aq rD ag (fC (.str "free")))) (setF 3 (aq uf av (b8 (ab (bq (ab Yo (ab Yp fNil))) (ab (bq (ab Yp (ab Yo fNil))) (ab (bq (ab Yo (ab (bC nB Yp) fNil))) (ab (bq (ab (bC nB Yp) (ab Yo fNil))) fNil))))))) nxF) (az (gC (fB (aq fV ag (fC (.str "corners")))) (setF 3 (aq uf av (b8 (ab (bq (ab Yp (ab Yp fNil))) (ab (bq (ab Yp (ab (bC nB Yp) fNil))) (ab (bq (ab (bC nB Yp) (ab Yp fNil))) (ab (bq (ab (bC nB Yp) (ab (bC nB Yp) fNil))) fNil))))))) nxF) (az (ed (cF (λenv=>((ab ah fNil) env).bind m__law_cells)) (lU [4,5]) (ek )) (BN 2))))))
def m__law_halo:=bx vK 8
def jX :Fs:=(gC (fB (aq (IU Th.h false) av aD)) (bt (fC (.bl false))) nxF)
def ej :Fs:=(ed (cF ah) (bw 3) (jX ))
def wc :Fs:=(az (ed (cF ag) (bw 2) (ej )) (bt (fC (.bl true))))
def m__law_free:=bx (wc ) 4
def fg:Fs:=(az (setF 13 (K8 (aq fV aS Yo) (K8 (aq rD (aq aK ah (aq subI aS Yp)) bV) (aq Mg (aq aK dC (bC nB Yp)) (aq aK cE dB))))) (gC (tP (fB kG) (fB (λenv=>((ab kB (ab (aq aK dg dB) fNil)) env).bind m__law_free))) (kA 9 (bq (ab (aq BH dC (bq (ab (aq aK cE dB) fNil))) (ab (aq uf kB (b8 (ab (aq aK cB dB) fNil))) fNil)))) nxF))
def e9:Fs:=(ed (iP (bC eM cE)) (bw 12) fg)
def iC:Fs:=(az (setF 6 (λenv=>((ab ag (ab bV fNil)) env).bind m__law_ships)) (az (setF 7 (aP (cF cE) [0] (bw 0) Yt (aC (λenv=>((ab ah (ab ag fNil)) env).bind m__law_halo)) 1 [2])) (az (setF 8 (aP (cF cE) [0] (bw 0) Yt (aC (λenv=>((ab ag fNil) env).bind m__law_cells)) 1 [])) (az (setO 9 (b8 fNil)) (az (ed (cF av) (lU [10,11]) e9) (az (BG 9) (setF 3 bK)))))))
def xZ:Fs:=(az (setF 3 (b8 (ab (bq (ab (bq fNil) (ab (b8 fNil) fNil))) fNil))) (az (ed (I8 ah) (lU [4,5]) iC) (bt (aP (cF av) [0,1] (lU [0,1]) Yt (aC ag) 2 []))))
def m__law_all:=bx xZ 14
def qx:Fs:=(az (zu [1,2,3] (λenv=>((ab ag fNil) env).bind m__law_game)) (az (setF 4 (λenv=>((ab ah (ab aD (ab av fNil))) env).bind m__law_all)) (az (gC (fB (aq fV aS (b8 fNil))) (az (setF 2 (bq (ab Yp fNil))) (setF 4 (λenv=>((ab ah (ab aD (ab av fNil))) env).bind m__law_all))) nxF) (bt (bq (ab ah (ab aD (ab av (ab aS fNil)))))))))
def m__law_played:=bx qx 5
def jq:Fs:=(Du 2 (aq modI (λenv=>((ab ag (ab (aq addI (aq mulI Yr av) Yp) fNil)) env).bind m__law_stir) (aq addI av Yp)) aS)
def tY:Fs:=(az (setO 2 (b8 fNil)) (az (ed (I8 ah) (lU [3,4]) jq) (vY 2)))
def m__law_order:=bx tY 5
def eu :Fs:=(uw 1 (aP (iP (aq aK ag Yp)) [0] (bw 0) Yt (aC (bq (ab ah (ab ag fNil)))) 1 [2]))
def ki :Fs:=(az (setO 1 (b8 fNil)) (az (ed (iP (aq aK ag Yo)) (bw 2) (eu )) (vY 1)))
def m__law_sheet_cells:=bx (ki ) 3
def uZ :Fs:=(az (zu [1,2] ag) (bt (aP (iP ah) [0] (bw 0) Yt (hW (iP aD) [1] (bw 1) Yt (aC (bq (ab ag (ab ah fNil))))) 2 [2])))
def m_all_cells:=bx (uZ ) 3
def ql :Fs:=(bt (me (bC (GN .tuple) ag) (aq fV (bC eM ag) ah)))
def m_is_tuple_of:=bx (ql ) 2
def xG :Fs:=(bt (me (bC (GN .int) ag) (bC Nd (bC (GN .bool) ag))))
def m_is_whole:=bx (xG ) 1
def BX:Fs:=(bt (me (λenv=>((ab ag fNil) env).bind m_is_whole) (KB leI leI Yp ag (fC oH))))
def m_is_size:=bx BX 1
def AV:Fs:=(az (gC (kF (fB (λenv=>((ab ah (ab Yq fNil)) env).bind m_is_tuple_of))) (bt (fC (.bl false))) nxF) (az (zu [2,3] ah) (bt (me (λenv=>((ab aD fNil) env).bind m_is_whole) (me (λenv=>((ab av fNil) env).bind m_is_whole) (me (KB leI ltI Yo aD (aq aK ag Yo)) (KB leI ltI Yo av (aq aK ag Yp))))))))
def m_is_cell:=bx AV 4
def Bb:Fs:=(az (gC (kF (fB (λenv=>((ab ah (ab Ys fNil)) env).bind m_is_tuple_of))) (bt (fC (.bl false))) nxF) (az (zu [2,3,4,5] ah) (az (gC (CG (fB (aq (mK true) aS (fC sL))) (CG (kF (fB (λenv=>((ab bV fNil) env).bind m_is_size))) (kF (fB (λenv=>((ab ag (ab (bq (ab aD (ab av fNil))) fNil)) env).bind m_is_cell))))) (bt (fC (.bl false))) nxF) (az (gC (fB (aq fV aS (fC (.str "down")))) (bt (me (aq gtI bV Yp) (aq leI (aq addI aD bV) (aq aK ag Yo)))) nxF) (bt (aq leI (aq addI av bV) (aq aK ag Yp)))))))
def m_is_ship:=bx Bb 6
def xt:Fs:=(az (setF 2 (aP (cF (λenv=>((ab ag fNil) env).bind m_all_cells)) [0,1] (lU [0,1]) Yt (hW (AY (fC sL)) [2] (bw 2) Yt (aC (bq (ab ag (ab ah (ab aD (ab av fNil))))))) 3 [1])) (bt (aP (cF aD) [0] (bw 0) (fB (λenv=>((ab ah (ab ag fNil)) env).bind m_is_ship)) (aC ag) 1 [0])))
def m_ships_of:=bx xt 3
def y9 :Fs:=(az (zu [1,2,3,4] ag) (az (gC (fB (aq fV av (fC (.str "down")))) (bt (aP (iP aS) [0] (bw 0) Yt (aC (bq (ab (aq addI ah ag) (ab aD fNil)))) 1 [1,2])) nxF) (bt (aP (iP aS) [0] (bw 0) Yt (aC (bq (ab ah (ab (aq addI aD ag) fNil)))) 1 [1,2]))))
def m_cells_of:=bx (y9 ) 5
def cX :Fs:=(gC (fB (aq (mK false) ah av)) (bt (iteFn (fB (bC Gf (aP (cF av) [0] (bw 0) Yt (aC (aq (mK false) ag ah)) 1 [2]))) (fC (.str "sunk")) (fC (.str "hit")))) nxF)
def vi :Fs:=(az (ed (cF ag) (bw 3) (cX )) (bt (fC (.str "water"))))
def m_answer_to:=bx (vi ) 4
def si:Fs:=(az (setF 2 (aP (AY ag) [0] (bw 0) Yt (aC (λenv=>((ab ag fNil) env).bind m_cells_of)) 1 [])) (bt (aP (I8 ah) [0,1] (lU [0,1]) Yt (aC (λenv=>((ab aD (ab ah (ab (yq ee av oNone (fJ (aq addI ag Yp))) fNil))) env).bind m_answer_to)) 2 [2,1])))
def m_answers_of:=bx si 3
def tF :Fs:=(bt (aP (cF ag) [0,1] (lU [0,1]) Yt (aC ag) 2 []))
def m_shot_cells:=bx (tF ) 1
def JZ:Fs:=(bt (aq fV (λenv=>((ab ag (ab (λenv=>((ab ah fNil) env).bind m_shot_cells) fNil)) env).bind m_answers_of) (aP (cF ah) [0,1] (lU [0,1]) Yt (aC ah) 2 [])))
def m_fits:=bx JZ 2
def vo:Fs:=(az (setF 2 (λenv=>((ab ag fNil) env).bind m_cells_of)) (bt (λenv=>((ab (bq (ab ag fNil)) (ab (aP (cF ah) [0,1] (lU [0,1]) (fB (aq (mK false) ag aD)) (aC (bq (ab ag (ab ah fNil)))) 2 [2]) fNil)) env).bind m_fits)))
def m_ship_fits:=bx vo 3
def pI :Fs:=(az (setF 2 (iteFn (fB (aq fV (aq aK ag Yq) (fC (.str "down")))) (aq subI (aq addI (aq aK ag Yo) (aq aK ag Yr)) Yp) (aq aK ag Yo))) (az (setF 3 (iteFn (fB (aq fV (aq aK ah Yq) (fC (.str "down")))) (aq subI (aq addI (aq aK ah Yo) (aq aK ah Yr)) Yp) (aq aK ah Yo))) (bt (P3 Dw (aq subI (aq aK ah Yo) aD) (aq subI (aq aK ag Yo) av) Yo))))
def m_rows_between:=bx (pI ) 4
def lu :Fs:=(az (setF 2 (iteFn (fB (aq fV (aq aK ag Yq) (fC (.str "along")))) (aq subI (aq addI (aq aK ag Yp) (aq aK ag Yr)) Yp) (aq aK ag Yp))) (az (setF 3 (iteFn (fB (aq fV (aq aK ah Yq) (fC (.str "along")))) (aq subI (aq addI (aq aK ah Yp) (aq aK ah Yr)) Yp) (aq aK ah Yp))) (bt (P3 Dw (aq subI (aq aK ah Yp) aD) (aq subI (aq aK ag Yp) av) Yo))))
def m_columns_between:=bx (lu ) 4
def JK:Fs:=(az (setF 3 (λenv=>((ab ah (ab aD fNil)) env).bind m_rows_between)) (az (setF 4 (λenv=>((ab ah (ab aD fNil)) env).bind m_columns_between)) (az (gC (fB (aq fV ag (fC (.str "free")))) (bt (aq gtI (aq addI av aS) Yo)) nxF) (az (gC (fB (aq fV ag (fC (.str "sides")))) (bt (aq gtI (aq addI av aS) Yp)) nxF) (bt (aq gtI (aq maxI av aS) Yp))))))
def m_keep:=bx JK 5
def sO:Fs:=(az (gC (tP (fB (aq fV (aq aK aD Yr) (aq aK ah Yr))) (fB (aq MA aD ah))) (bt (fC (.bl false))) nxF) (bt (λenv=>((ab ag (ab ah (ab aD fNil))) env).bind m_keep)))
def m_may_follow:=bx sO 3
def gk(eR:Yl->Ym):Fs:=(az (setF 6 (aP (cF av) [0] (bw 0) Yt (aC (aP (cF ag) [0] (bw 0) (fB (λenv=>((ab ah (ab aD (ab ag fNil))) env).bind m_may_follow)) (aC ag) 1 [1,2])) 1 [0,5])) (uw 4 (aP (cF (λenv=>((ab ag (ab cE fNil)) env).bind eR)) [0] (bw 0) Yt (aC (aq BH (bq (ab ah fNil)) ag)) 1 [5])))
def cY(eR:Yl->Ym):Fs:=(az (IS 2 3 ah) (az (gC (kF (fT av)) (bt (aP (cF aD) [0] (bw 0) Yt (aC (bq (ab ag fNil))) 1 [])) nxF) (az (setO 4 (b8 fNil)) (az (ed (cF aD) (bw 5) (gk eR)) (vY 4)))))
def bc:Nat->Yl->Ym
 | 0=>λ_=>none
 | n+1=>bx (cY (bc n)) 7
def iL:Yl->Ym:=bc 4
def qy:Fs:=(az (setF 4 (aP (cF av) [0,1] (lU [0,1]) (fB (aq rD ah (fC (.str "water")))) (aC ag) 2 [])) (az (setF 5 (aP (AY ah) [0] (bw 0) Yt (aC (aP (cF (λenv=>((ab ah (ab ag fNil)) env).bind m_ships_of)) [0] (bw 0) (fB (λenv=>((ab ag (ab ah fNil)) env).bind m_ship_fits)) (aC ag) 1 [2])) 1 [0,3])) (az (setF 6 (gx Th.h (cF bV) [0] (bw 0) Yt (hW (cF ag) [1] (bw 1) Yt (fZ ah (bC eM (aP (cF (λenv=>((ab ah fNil) env).bind m_cells_of)) [0] (bw 0) (fB (aq (mK false) ag ah)) (aC ag) 1 [2])))) 2 [4])) (az (setF 7 (λenv=>((ab aD (ab bV fNil)) env).bind iL)) (bt (aP (cF cB) [0] (bw 0) (fB (aq fV (bC HN (aP (AY ag) [0] (bw 0) Yt (aC (aq (getM Th.h) ah ag)) 1 [1])) (bC eM aD))) (aC ag) 1 [6,4]))))))
def m_all_fitting:=bx qy 8
def oQ:Fs:=(bt (bC eM (λenv=>((ab ag (ab ah (ab aD (ab av fNil)))) env).bind m_all_fitting)))
def m_how_many_fit:=bx oQ 4
def cb :Fs:=(xM Th.h 1 (aq addI (Au Th.h (λenv=>CN env 1) av Yo) Yp) av)
def iM :Fs:=(ed (AY aD) (bw 3) (cb ))
def qp :Fs:=(az (setM 1 (fC (.mp Th.h [] []))) (az (ed (cF ag) (bw 2) (iM )) (BN 1)))
def m_ship_counts:=bx (qp ) 4
def tS:Fs:=(az (zu [2,3] ag) (z5 4 5 6 7 8 (aP (iP aD) [0] (bw 0) Yt (aC (aq Hc (b8 (ab Yo fNil)) ah)) 1 [3]) (Mr Th.h (λenv=>((ab ah fNil) env).bind m_ship_counts)) (λs=>(m_cells_of [s]).bind lstO)))
def m_chances_in:=bx tS 9
def pL:Fs:=(az (setF 4 (λenv=>((ab ag (ab ah (ab aD (ab av fNil)))) env).bind m_all_fitting)) (az (gC (kF (fT aS)) (λ_=>none) nxF) (bt aS)))
def m_some_fitting:=bx pL 5
def A9:Fs:=(bt (λenv=>((ab ag (ab (λenv=>((ab ag (ab ah (ab aD (ab av fNil)))) env).bind m_some_fitting) fNil)) env).bind m_chances_in))
def m_chances:=bx A9 4
def qI:Fs:=(az (gC (kF (fB (λenv=>((ab ag (ab aD fNil)) env).bind m_is_cell))) (λ_=>none) nxF) (gC (fB (aq (mK false) aD (λenv=>((ab ah fNil) env).bind m_shot_cells))) (λ_=>none) nxF))
def m_refuse_shot:=runN qI 3
def oK:Fs:=(az (setF 2 (bC EL (λenv=>((ab ah fNil) env).bind m_shot_cells))) (bt (aP (cF (λenv=>((ab ag fNil) env).bind m_all_cells)) [0] (bw 0) (fB (aq (O9 true) ag ah)) (aC ag) 1 [2])))
def m_unshot_cells:=bx oK 3
def iA:Fs:=(az (setF 8 (GR 4 (aP (cF (λenv=>((ab cE fNil) env).bind m_cells_of)) [0] (bw 0) (fB (aq (IU Th.h false) ag ah)) (aC ag) 1 [4]))) (Bk Th.h 9 5 4 10 7 8 (fB (aq fV (bC eM dg) Yp))))
def yP:Fs:=(az (setF 3 (λenv=>((ab ag (ab aD fNil)) env).bind m_unshot_cells)) (az (setM 4 (gx Th.h (cF av) [0] (bw 0) Yt (fZ ag Yo) 1 [])) (az (setM 5 (gx Th.h (cF av) [0] (bw 0) Yt (fZ ag Yo) 1 [])) (az (ed (Mr Th.h (λenv=>((ab ah fNil) env).bind m_ship_counts)) (lU [6,7]) iA) (az (BG 4) (az (BG 5) (bt (gx Th.h (cF av) [0] (bw 0) Yt (fZ ag (bq (ab (aq subI (aq subI (bC eM ah) (aq (getM Th.h) aD ag)) (aq (getM Th.h) av ag)) (ab (aq (getM Th.h) aD ag) (ab (aq (getM Th.h) av ag) fNil))))) 1 [1,4,5]))))))))
def m_parts_in:=bx yP 11
def yG:Fs:=(az (setF 5 (λenv=>((ab ag (ab ah (ab aD (ab av fNil)))) env).bind m_some_fitting)) (az (Aj (λenv=>((ab ag (ab av (ab aS fNil))) env).bind m_refuse_shot)) (bt (aq (getM Th.h) (λenv=>((ab ag (ab bV (ab av fNil))) env).bind m_parts_in) aS))))
def m_parts_of:=bx yG 6
def BI:Fs:=(az (setF 3 (λenv=>((ab ag (ab ah (ab aD fNil))) env).bind m_parts_in)) (az (gC (kF (QK Th.h av)) (λ_=>none) nxF) (az (setF 4 (Hu (bC (vy Th.h) av) [3] (bC yK (aq (getM Th.h) ah ag)))) (bt (bq (ab aS (ab (aq (getM Th.h) av aS) fNil)))))))
def m_best_in:=bx BI 5
def vP:Fs:=(bt (λenv=>((ab ag (ab (λenv=>((ab ag (ab ah (ab aD (ab av fNil)))) env).bind m_some_fitting) (ab av fNil))) env).bind m_best_in))
def m_best_shot:=bx vP 4
def cN:Fs:=(az (setF 10 (λenv=>((ab av (ab aS (ab bV (ab ah (ab bK fNil))))) env).bind m_parts_of)) (az (gC (CG (fB (aq rD (bC Gm dC) cE)) (fB (aq rD (aq addI (aq aK dC Yp) (aq aK dC Yq)) (aq aK (aq aK cB (aq aK bK Yo)) (aq aK bK Yp))))) (bt (fC (.bl false))) nxF) (kA 8 (bC yK dC))))
def lF:Fs:=(az (zu [3,4,5] ag) (az (setF 6 (λenv=>((ab av (ab aS (ab bV (ab ah fNil)))) env).bind m_how_many_fit)) (az (setF 7 (λenv=>((ab av (ab aS (ab bV (ab ah fNil)))) env).bind m_chances)) (az (setO 8 (b8 fNil)) (az (ed (cF (bC rm aD)) (bw 9) cN) (az (zu [9,10] (λenv=>((ab av (ab aS (ab bV (ab ah fNil)))) env).bind m_best_shot)) (az (BG 8) (bt (me (aq fV bK (aq aK (bC rm aD) (aq Cg dg (bC yt dg)))) (aq fV (bC yK dC) (bC yt dg)))))))))))
def m__law_step_right:=bx lF 11
def iK :Fs:=(xM Th.h 1 (fC (.bl true)) av)
def eN:Fs:=(ed (cF (λenv=>((ab aD fNil) env).bind m__law_cells)) (bw 3) (iK ))
def qj:Fs:=(az (setM 1 (fC (.mp Th.h [] []))) (az (ed (AY ag) (bw 2) eN) (BN 1)))
def m__law_ground:=bx qj 4
def ur:Fs:=(az (gC (fB (aq (mK false) bK (bq (ab Yo (ab Yr (ab (aq subI (bC eM cB) Yp) fNil)))))) (gC (kF (fB (λenv=>((ab (bq (ab aD (ab av (ab aS fNil)))) (ab dg (ab (yq ee cB (fJ bK) oNone) fNil))) env).bind m__law_step_right))) (bt (fC (.bl false))) nxF) nxF) (az (setF 10 dg) (az (setF 11 (aq aK (λenv=>((ab cE (ab (yq ee cB oNone (fJ (aq addI bK Yp))) fNil)) env).bind m_answers_of) (bC nB Yp))) (az (setF 8 (aq uf dg (b8 (ab (bq (ab (aq aK cB bK) (ab kB fNil))) fNil)))) (gC (fB (aq fV (aq modI bK Yr) Yo)) (az (setF 12 (λenv=>((ab aD (ab av (ab aS (ab dC (ab (aq aK cB bK) fNil))))) env).bind m_parts_of)) (gC (fB (aq rD (λenv=>((ab aD (ab av (ab aS (ab dg fNil)))) env).bind m_how_many_fit) (aq aK dB (aq Cg (b8 (ab (fC (.str "water")) (ab (fC (.str "hit")) (ab (fC (.str "sunk")) fNil)))) kB)))) (bt (fC (.bl false))) nxF)) nxF)))))
def tD:Fs:=(az (zu [2,3,4,5] (λenv=>((ab ah fNil) env).bind m__law_played)) (az (setF 6 (aq aK bV (aq modI (λenv=>((ab ah (ab (fC (.int 1000)) fNil)) env).bind m__law_stir) (bC eM bV)))) (az (setF 7 (λenv=>((ab ah (ab (λenv=>((ab aD fNil) env).bind m__law_sheet_cells) fNil)) env).bind m__law_order)) (az (setF 8 (b8 fNil)) (az (ed (iP (bC eM cB)) (bw 9) ur) (az (setF 13 (aP (cF bV) [0] (bw 0) (fB (λenv=>((ab ag (ab ah fNil)) env).bind m_fits)) (aC ag) 1 [8])) (gC (CG (fB (aq (mK true) cE kG)) (fB (aq rD (aP (cF kG) [0] (bw 0) (fB (aq (LW Th.h) (λenv=>((ab ag fNil) env).bind m__law_ground) (λenv=>((ab ah fNil) env).bind m__law_ground))) (aC ag) 1 [6]) (b8 fNil)))) (bt (fC (.bl false))) nxF)))))))
def MJ:Fs:=(az (ed (cF (aq uf (b8 (ab Yo fNil)) (yq ee ag oNone (fJ Yr)))) (bw 1) tD) (bt (fC (.bl true))))
def m_law:=bx MJ 14
end
end K15
namespace K15
open PySem Mi
variable [Th]
theorem tR(c k:Int)(hk:0<=k)(hk2:k<=1000):∃z,m__law_stir [.int c,.int k]=some (.int z):=by
 have p60:powI (.int 10) (.int 60)=some (.int (10 ^ 60)):=tV (sD (by decide) (by decide)) (by decide) (by decide);have Ry:(0:Int)<10 ^ 60:=by decide +kernel
 have h1:(c%10 ^ 60).natAbs<=10 ^ 60:=by
  have a:=VF c (Int.ne_of_gt Ry);have b:=Vd c Ry;have e:(10 ^ 60:Int)=((10 ^ 60:Nat):Int):=by decide +kernel
  lia
 have m1:mulI (.int 7919) (.int k)=some (.int (7919*k)):=pS (by decide) (by decide) (by lia) (by lia);have h2:(c%10 ^ 60+7919*k+1).natAbs<=10 ^ 60+7919001:=by lia
 have m2:mulI (.int (c%10 ^ 60+7919*k+1)) (.int 27182818284590452353602874713527)=some (.int ((c%10 ^ 60+7919*k+1)*27182818284590452353602874713527)):=F4 (oo _ h2) (oo 27182818284590452353602874713527 (by decide));generalize hn:(c%10 ^ 60+7919*k+1)*27182818284590452353602874713527=n at m2;have OR:modI (.int n) (.int 170141183460469231731687303715884105727)=some (.int (n%170141183460469231731687303715884105727)):=ji (by decide);have h3:(n%170141183460469231731687303715884105727).natAbs<=170141183460469231731687303715884105727:=by lia
 generalize n%170141183460469231731687303715884105727=q at OR h3;have p5:powI (.int q) (.int 5)=some (.int (q ^ 5)):=tV (oo _ h3) (by decide) (by decide);have h4:=Gz _ 5 h3;have m3:mulI (.int 48271) (.int k)=some (.int (48271*k)):=pS (by decide) (by decide) (by lia) (by lia);have h5:(q ^ 5+48271*k).natAbs<=170141183460469231731687303715884105727 ^ 5+48271000:=Ho _ _ h4 (by lia);generalize q ^ 5=t at p5 h5;have p3:powI (.int (t+48271*k)) (.int 3)=some (.int ((t+48271*k) ^ 3)):=tV (oo _ h5) (by decide) (by decide);have hmod2:modI (.int ((t+48271*k) ^ 3)) (.int 162259276829213363391578010288127)=some (.int ((t+48271*k) ^ 3%162259276829213363391578010288127)):=ji (by decide);have hd:fdivI (.int ((t+48271*k) ^ 3%162259276829213363391578010288127)) (.int 7)=some (.int ((t+48271*k) ^ 3%162259276829213363391578010288127/7)):=zL (by decide) (by decide);have hmod0:modI (.int c) (.int (10 ^ 60))=some (.int (c%10 ^ 60)):=ji Ry;refine⟨(t+48271*k) ^ 3%162259276829213363391578010288127/7,?_⟩
 .unfold m__law_stir bx m8;simp only[cQ,List.map,List.length,List.replicate,Vv,Ud,az,setF,bt,aq,fC,K5,Kz,UO,List.set,List.getElem?_cons_zero,List.getElem?_cons_succ,p60,hmod0,m1,gO,m2,OR,p5,m3,p3,hmod2,hd]
theorem JN:∃w,powI (.int 10) (.int 18)=some (.int w):=⟨_,tV (sD (by decide) (by decide)) (by decide) (by decide)⟩
theorem F7(c q:Int)(ss r:X4)(i:Nat)(s:Int)(OS:ss[i]?=some s)(hpos:0<s/\s<1073741824)(hi:i<1000)(hr:r.length=i) :
  ∃y q',fy [.F (.int c),.F (.lst (ss.map .int)),.O (.L (r.map .int)),.F (.int q),.F (.int i)]=some (.nx [.F (.int c),.F (.lst (ss.map .int)),.O (.L ((r++[y]).map .int)),.F (.int q'),.F (.int i)])/\0<=y/\y<s:=by
 obtain⟨w,p18⟩:=JN;have Jm:L2.atI (ss.map D.int) (i:Int)=some (.int s):=cZ (by rw[o_,OS];rfl);obtain⟨z,hz⟩:=tR c i (by lia) (by lia);have Tp:(r.map D.int).length<16000000:=by simp;lia
 have snoc:∀y:Int,(r++[y]).map D.int=r.map D.int++[D.int y]:=λy=>by simp
 have PF:aq aK ah aS [.F (.int c),.F (.lst (ss.map .int)),.O (.L (r.map .int)),.F (.int q),.F (.int i)]=some (.int s):=gR rfl rfl Jm;have t1:fB (aq ltI ag (aq powI (fC (.int 10)) (fC (.int 18)))) [.F (.int c),.F (.lst (ss.map .int)),.O (.L (r.map .int)),.F (.int q),.F (.int i)]=some (decide (c<w)):=cG ((aX rfl ((aX rfl rfl).trans p18)).trans (CW _ _));have t2:fB (aq fV av Yo) [.F (.int c),.F (.lst (ss.map .int)),.O (.L (r.map .int)),.F (.int q),.F (.int i)]=some (q==0):=cG ((aX rfl rfl).trans (Ko _ _));have AQ:∀{t:Fb}{g:Fs},t [.F (.int c),.F (.lst (ss.map .int)),.O (.L (r.map .int)),.F (.int q),.F (.int i)]=some true->gC t (kA 2 (aq modI (λenv=>((ab ag (ab aS fNil)) env).bind m__law_stir) (aq aK ah aS))) g [.F (.int c),.F (.lst (ss.map .int)),.O (.L (r.map .int)),.F (.int q),.F (.int i)]=some (.nx [.F (.int c),.F (.lst (ss.map .int)),.O (.L ((r++[z%s]).map .int)),.F (.int q),.F (.int i)]):=λht=>by
  rw[snoc];exact(c7 ht).trans ((mZ rfl ((aX ((call_v (af rfl (af rfl aA))).trans hz) PF).trans (ji hpos.1)) Tp))
 by_cases h1:c<w
 .rw[v_ h1]at t1;exact⟨z%s,q,AQ (N0 t1),VF _ (by lia),Vd _ hpos.1⟩
 .rw[L_ h1]at t1
  by_cases h2:q=0
  .rw[show(q==0)=true by simp[h2]]at t2;exact⟨z%s,q,AQ ((I9 t1).trans t2),VF _ (by lia),Vd _ hpos.1⟩
  .rw[show(q==0)=false by simp[h2]]at t2;refine⟨q%s,q/s,?_,VF _ (by lia),Vd _ hpos.1⟩;rw[snoc];refine(br ((I9 t1).trans t2)).trans ((ak (mZ rfl ((aX rfl PF).trans (ji hpos.1)) Tp)).trans (aV ((aX rfl (gR rfl rfl Jm)).trans (zL hpos.1 hpos.2))))
theorem DJ(c:Int)(ss:X4)(hs:∀x∈ss,0<x/\x<1073741824)(hl:ss.length<=1000) :
  ∃r:X4,m__law_drawn [.int c,.lst (ss.map .int)]=some (.lst (r.map .int))/\r.length=ss.length/\∀(i:Nat)(x s:Int),r[i]?=some x->ss[i]?=some s->0<=x/\x<s:=by
 let I:Nat->En->Prop:=λn env=>∃(r:X4)(q:Int)(s4:Slot),env=[.F (.int c),.F (.lst (ss.map .int)),.O (.L (r.map .int)),.F (.int q),s4]/\r.length=n/\∀(i:Nat)(x s:Int),r[i]?=some x->ss[i]?=some s->0<=x/\x<s
 have hrl:(aM 0 ss.length).length=ss.length:=by simp[aM]
 obtain⟨e2,h1,r,q,s4,he,hr,hx⟩:=fq (t:=bw 4) (body:=fy) I (aM 0 ss.length) 0 [.F (.int c),.F (.lst (ss.map .int)),.O (.L []),.F (.int c),.un] ⟨[],c,.un,rfl,rfl,λi x s h=>by simp at h⟩ λi d e hd aG=>by
   obtain⟨r,q,s4,he,hr,hx⟩:=aG;subst he;obtain⟨rfl,hi⟩:=zZ hd;obtain⟨s,OS⟩:∃s,ss[i]?=some s:=⟨ss[i],l_ hi⟩;have hpos:=hs s (I_ OS);obtain⟨y,q',h2,h3,h4⟩:=F7 c q ss r i s OS hpos (by lia) (by lia);refine⟨_,h2,r++[y],q',_,rfl,by simp;lia,λj x s' uO hsj=>?_⟩
   by_cases hj:j<r.length
   .rw[S_ hj]at uO;exact hx j x s' uO hsj
   .rw[R_ (by lia)]at uO;have hj0:j-r.length=0:=by
     have:=(k_.mp uO).1;simp at this
     lia
    rw[hj0]at uO;cases uO;rw[show j=i by lia,OS]at hsj;cases hsj;exact⟨h3,h4⟩
 subst he;rw[hrl]at hr;refine⟨r,?_,by lia,hx⟩;have hit:iP (bC eM ah) [.F (.int c),.F (.lst (ss.map .int)),.O (.L []),.F (.int c),.un]=some (aM 0 ss.length):=by
  rw[<- c_ (f:=D.int) (as:=ss)];exact eO (jV rfl) (by rw[c_];lia)
 exact aY ((ak rfl).trans ((ak rfl).trans ((ak ((bY hit).trans h1)).trans rfl)))
abbrev qh:Str:="along"
abbrev sDn:Str:="down"
abbrev LU:Str:="free"
abbrev LS:Str:="sides"
abbrev O0:Str:="corners"
def cO(r:Str):Prop:=r=LU\/r=LS\/r=O0
structure Sh where
 a:Int
 b:Int
 dn:Bool
 n:Nat
 deriving DecidableEq
def Sh.w(s:Sh):Str:=if s.dn=true then sDn else qh
def Sh.d(s:Sh):D:=.tup [.int s.a,.int s.b,.str s.w,.int s.n]
def Sh.at(s:Sh)(i:Int):X5:=if s.dn=true then(s.a+i,s.b)else(s.a,s.b+i)
def Sh.cs(s:Sh):XU:=(List.range s.n).map λ(i:Nat)=>s.at i
def cel(p:X5):D:=.tup [.int p.1,.int p.2]
theorem sf(n:Nat):(aM 0 n).map g=(List.range n).map λ(i:Nat)=>g (.int i):=by
 unfold aM;simp[K_,Xx]
theorem pO(n:Nat):(aM 0 n).flatMap g=(List.range n).flatMap λ(i:Nat)=>g (.int i):=by
 unfold aM;rw[WU];simp
theorem Jd:∀(ds:Yl),(ds.flatMap λd=>[g d])=ds.map g
 | []=>rfl
 | d::ds=>by rw[UD,Jd ds];rfl
theorem ux(g:D->Yl):∀(ds:Yl),(∀d∈ds,∃e1,t d env=some e1/\c e1=some true/\k e1=some (g d))->fW t c k env ds=some (ds.flatMap g)
 | [],_=>rfl
 | d::ds,h=>by
  obtain⟨e1,h1,h2,h3⟩:=h d g_;have ih:=ux g ds λx hx=>h x (f_ _ hx);unfold fW;rw[h1];show(c e1).bind _=_;rw[h2];show(if true=true then k e1 else some []).bind _=_;rw[j_ rfl,h3];show(fW t c k env ds).bind _=_;rw[ih];rfl
theorem Dx(h1:fi env=some ds)(h2:dH is env=true)(h3:fW t c k env ds=some xs):hW fi is t c k env=some xs:=by
 unfold hW;rw[h1];show(if dH is env=true then _ else _)=_;rw[j_ h2,h3]
def O8(s:Sh):D->D
 | .int i=>cel (s.at i)
 | _=>.non
theorem yw(s:Sh):(aM 0 s.n).map (O8 s)=s.cs.map cel:=by
 rw[sf];unfold Sh.cs;rw[K_];rfl
theorem sC(s:Sh):s.cs.length=s.n:=by unfold Sh.cs;simp
theorem JJ(s:Sh)(s0:Slot)(i:Nat)(hi:i<1000)(acc:Yl)(hl:acc.length<16000) :
  fO [s0,.F (.int s.a),.F (.int s.b),.F (.str s.w),.F (.int s.n),.O (.L acc),.F (.int i)]=some (.nx [s0,.F (.int s.a),.F (.int s.b),.F (.str s.w),.F (.int s.n),.O (.L (acc++[cel (s.at i)])),.F (.int i)]):=by
 obtain⟨a,b,dn,n⟩:=s;have m0:mulI (.int i) (.int 0)=some (.int 0):=by rw[pS (by lia) (by lia) (by decide) (by decide),Int.mul_zero]
 have m1:mulI (.int i) (.int 1)=some (.int i):=by rw[pS (by lia) (by lia) (by decide) (by decide),Int.mul_one]
 cases dn
 .have e0:bC intD (aq fV av (fC (.str "down"))) [s0,.F (.int a),.F (.int b),.F (.str qh),.F (.int n),.O (.L acc),.F (.int i)]=some (.int 0):=rfl;have e1:bC intD (aq fV av (fC (.str "along"))) [s0,.F (.int a),.F (.int b),.F (.str qh),.F (.int n),.O (.L acc),.F (.int i)]=some (.int 1):=rfl;refine mZ (d:=cel (a,b+i)) rfl (iI (af ((aX (y:=.int 0) rfl ((aX rfl e0).trans m0)).trans ?_) (af ((aX (y:=.int i) rfl ((aX rfl e1).trans m1)).trans (gO _ _)) aA))) (by lia);rw[gO,WI]
 .have e0:bC intD (aq fV av (fC (.str "along"))) [s0,.F (.int a),.F (.int b),.F (.str sDn),.F (.int n),.O (.L acc),.F (.int i)]=some (.int 0):=rfl;have e1:bC intD (aq fV av (fC (.str "down"))) [s0,.F (.int a),.F (.int b),.F (.str sDn),.F (.int n),.O (.L acc),.F (.int i)]=some (.int 1):=rfl;refine mZ (d:=cel (a+i,b)) rfl (iI (af ((aX (y:=.int i) rfl ((aX rfl e1).trans m1)).trans (gO _ _)) (af ((aX (y:=.int 0) rfl ((aX rfl e0).trans m0)).trans ?_) aA))) (by lia);rw[gO,WI]
theorem pK(s:Sh)(hn:s.n<=1000):m__law_cells [s.d]=some (.lst (s.cs.map cel)):=by
 obtain⟨e2,h1,s6,h2⟩:=jn (t:=bw 6) (body:=fO) (λacc e=>∃s6,e=[.F s.d,.F (.int s.a),.F (.int s.b),.F (.str s.w),.F (.int s.n),.O (.L acc),s6]) (λd=>[O8 s d]) 1 8000 (aM 0 s.n) [] [.F s.d,.F (.int s.a),.F (.int s.b),.F (.str s.w),.F (.int s.n),.O (.L []),.un] ⟨_,rfl⟩ (by rw[eX,Ui];lia) λd hd=>⟨m_ _,λacc e ⟨s6,he⟩ hl=>by
  subst he;obtain⟨i,hi,rfl⟩:=iu.mp hd;exact⟨_,JJ s (.F s.d) i (by lia) acc (by lia),_,rfl⟩⟩
 subst h2;rw[Jd,yw,Ud]at h1;exact aY ((ak (j0 (ds:=[.int s.a,.int s.b,.str s.w,.int s.n]) rfl rfl)).trans ((ak (kI rfl)).trans ((ak ((bY (eO (n:=s.n) rfl (by lia))).trans h1)).trans rfl)))
theorem fE(s:Sh)(hn:s.n<=1000):m_cells_of [s.d]=some (.lst (s.cs.map cel)):=by
 have hl:(s.cs.map cel).length<=16000000:=by rw[c_];unfold Sh.cs;simp;lia
 have hit:iP aS [.F s.d,.F (.int s.a),.F (.int s.b),.F (.str s.w),.F (.int s.n)]=some (aM 0 s.n):=eO (n:=s.n) rfl (by lia);refine aY ((ak (j0 (ds:=[.int s.a,.int s.b,.str s.w,.int s.n]) rfl rfl)).trans ?_);show az _ _ [.F s.d,.F (.int s.a),.F (.int s.b),.F (.str s.w),.F (.int s.n)]=_;obtain⟨a,b,dn,n⟩:=s;cases dn
 .have e0:fB (aq fV av (fC (.str "down"))) [.F (Sh.d ⟨a,b,false,n⟩),.F (.int a),.F (.int b),.F (.str qh),.F (.int n)]=some false:=rfl;refine(ak ((br e0).trans rfl)).trans (bG (bf hit rfl ?_ hl));rw[<- yw];refine ix (O8 ⟨a,b,false,n⟩) _ λd hd=>?_;obtain⟨i,hi,rfl⟩:=iu.mp hd;exact⟨_,rfl,rfl⟩
 .have e0:fB (aq fV av (fC (.str "down"))) [.F (Sh.d ⟨a,b,true,n⟩),.F (.int a),.F (.int b),.F (.str sDn),.F (.int n)]=some true:=rfl;refine iZ ((c7 e0).trans (bG (bf hit rfl ?_ hl)));rw[<- yw];refine ix (O8 ⟨a,b,true,n⟩) _ λd hd=>?_;obtain⟨i,hi,rfl⟩:=iu.mp hd;exact⟨_,rfl,rfl⟩
def a8(p:X5):List L2.Key:=[.inl p.1,.inl p.2]
theorem pX(h:a8 p=a8 q):p=q:=by
 unfold a8 at h;obtain⟨a,b⟩:=p;obtain⟨c,d⟩:=q;simp only[XM,Sum.inl.injEq,and_true]at h;rw[h.1,h.2]
theorem fH{L:XU}{p:X5}:a8 p∈L.map a8↔p∈L:=⟨λh=>by obtain⟨q,hq,e⟩:=u_.mp h;exact pX e▸hq,Uq⟩
def sE(ks:XU):uE:=.M Th.h (ks.map a8) (ks.map λ_=>.bl true)
def eH(ks:XU):D:=.mp Th.h (ks.map a8) (ks.map λ_=>.bl true)
def NJ:List L2.Key->Option X5
 | [.inl a,.inl b]=>some (a,b)
 | _=>none
def KZ:D->XU
 | .mp _ ks _=>ks.filterMap NJ
 | _=>[]
theorem xy:∀ks:XU,KZ (eH ks)=ks:=λks=>by
 show(ks.map a8).filterMap NJ=ks;rw[List.filterMap_map];exact List.filterMap_some
theorem Ad(q:List L2.Key)(x:D):∀ks:XU,bA (ks.map a8) (ks.map λ_=>x) q x=ks.map λ_=>x
 | []=>rfl
 | k::ks=>by
  show(if a8 k=q then x else x)::bA (ks.map a8) (ks.map λ_=>x) q x=_;rw[Ad q x ks,ite_self];rfl
theorem uA(ks:XU)(p q:X5):q∈mo ks p↔q∈ks\/q=p:=by
 unfold mo
 split
 .rename_i h;exact⟨λz=>.inl z,λz=>z.elim id λe=>e▸h⟩
 .simp
theorem AC(ks:XU)(p:X5):(mo ks p).length<=ks.length+1:=by
 unfold mo;split<;>simp
open Classical in
theorem IB{i:Nat}{fk:Fe}{env:En}{ks:XU}{a b:Int}(h:fk env=some (.tup [.int a,.int b]))(h1:env[i]?=some (.O (sE ks)))(hl:ks.length<16000000):xM Th.h i (fC (.bl true)) fk env=some (.nx (env.set i (.O (sE (mo ks (a,b)))))):=by
 have e:uE.M Th.h (iR (ks.map a8) (a8 (a,b))) (m6 (ks.map a8) (ks.map λ_=>D.bl true) (a8 (a,b)) (.bl true))=sE (mo ks (a,b)):=by
  unfold iR m6 mo sE
  by_cases hm:(a,b)∈ks
  .rw[j_ (fH.mpr hm),j_ (fH.mpr hm),j_ hm,Ad]
  .rw[h_ (λz=>hm (fH.mp z)),h_ (λz=>hm (fH.mp z)),h_ hm,H_,H_];rfl
 rw[<- e];unfold xM;rw[show fC (.bl true) env=some (D.bl true)from rfl,UO,h,UO,show fj (.tup [.int a,.int b])=some (a8 (a,b))from rfl,UO,h1];show(if Th.h=Th.h/\(ks.map a8).length<16000000 then _ else _)=_;rw[j_ ⟨rfl,by rw[c_];exact hl⟩]
def plus(p q:X5):X5:=(p.1+q.1,p.2+q.2)
theorem MG(s0 s1 s6 s7:Slot)(st:XU)(hst:st.length<=9)(p:X5)(ks:XU)(hk:ks.length<=15000) :
  ∃ju FB Ip,ek [s0,s1,.O (sE ks),.F (.lst (st.map cel)),.F (.int p.1),.F (.int p.2),s6,s7]=some (.nx [s0,s1,.O (sE ju),.F (.lst (st.map cel)),.F (.int p.1),.F (.int p.2),FB,Ip])/\ju.length<=ks.length+9/\∀q,q∈ju↔q∈ks\/∃t∈st,q=plus p t:=by
 obtain⟨e2,h1,ju,FB,Ip,h2,h3,h4⟩:=fq (t:=lU [6,7]) (body:=j7) (λj e=>∃ju FB Ip,e=[s0,s1,.O (sE ju),.F (.lst (st.map cel)),.F (.int p.1),.F (.int p.2),FB,Ip]/\ju.length<=ks.length+j/\∀q,q∈ju↔q∈ks\/∃t∈st.take j,q=plus p t) (st.map cel) 0 _ ⟨ks,s6,s7,rfl,by lia,λq=>by simp⟩ λi d e hd aG=>by
  obtain⟨ju,FB,Ip,he,h3,h4⟩:=aG;subst he;rw[o_]at hd;obtain⟨q,hq,rfl⟩:=T_.mp hd;have hi:=(k_.mp hq).1;have u3:=AC ju (p.1+q.1,p.2+q.2);refine⟨_,fQ (e0:=[s0,s1,.O (sE ju),.F (.lst (st.map cel)),.F (.int p.1),.F (.int p.2),.F (.int q.1),.F (.int q.2)]) rfl (IB (ks:=ju) (a:=p.1+q.1) (b:=p.2+q.2) rfl rfl (by lia)),_,_,_,rfl,by lia,λx=>?_⟩;rw[uA,h4,Uc,UZ,hq];simp only[Xl,Ub,y_];constructor
  .rintro((h | ⟨t,ht,e⟩) | e)
   .exact .inl h
   .exact .inr ⟨t,.inl ht,e⟩
   .exact .inr ⟨q,.inr rfl,e⟩
  .rintro(h | ⟨t,ht | rfl,e⟩)
   .exact .inl (.inl h)
   .exact .inl (.inr ⟨t,ht,e⟩)
   .exact .inr e
 subst h2;rw[c_,Uc]at h3 h4;rw[UI]at h4;exact⟨ju,FB,Ip,(bY (bp rfl)).trans h1,by lia,h4⟩
theorem mi(s:Sh)(hn:s.n<=1000)(r:D)(st:XU)(hst:st.length<=9) :
  ∃ks,az (ed (cF (λenv=>((ab ah fNil) env).bind m__law_cells)) (lU [4,5]) (ek )) (BN 2) [.F r,.F s.d,.O (sE []),.F (.lst (st.map cel)),.un,.un,.un,.un]=some (.rt (eH ks))/\∀q,q∈ks↔∃p∈s.cs,∃t∈st,q=plus p t:=by
 have hlen:=sC s;obtain⟨e2,h1,ks,s4,s5,s6,s7,h2,h3,h4⟩:=fq (t:=lU [4,5]) (body:=ek) (λj e=>∃ks s4 s5 s6 s7,e=[.F r,.F s.d,.O (sE ks),.F (.lst (st.map cel)),s4,s5,s6,s7]/\ks.length<=9*j/\∀q,q∈ks↔∃p∈s.cs.take j,∃t∈st,q=plus p t) (s.cs.map cel) 0 _ ⟨[],.un,.un,.un,.un,rfl,by simp,λq=>by simp⟩ λi d e hd aG=>by
  obtain⟨ks,s4,s5,s6,s7,he,h3,h4⟩:=aG;subst he;rw[o_]at hd;obtain⟨q,hq,rfl⟩:=T_.mp hd;have hi:=(k_.mp hq).1;obtain⟨ju,FB,Ip,u1,u2,u3⟩:=MG (.F r) (.F s.d) s6 s7 st hst q ks (by lia);refine⟨_,fQ (e0:=[.F r,.F s.d,.O (sE ks),.F (.lst (st.map cel)),.F (.int q.1),.F (.int q.2),s6,s7]) rfl u1,ju,_,_,_,_,rfl,by lia,λx=>?_⟩;rw[u3,h4,Uc,UZ,hq];simp only[Xl,Ub,y_];constructor
  .rintro(⟨p,hp,t,ht,e⟩ | ⟨t,ht,e⟩)
   .exact⟨p,.inl hp,t,ht,e⟩
   .exact⟨q,.inr rfl,t,ht,e⟩
  .rintro⟨p,hp | rfl,t,ht,e⟩
   .exact .inl ⟨p,hp,t,ht,e⟩
   .exact .inr ⟨t,ht,e⟩
 subst h2;rw[c_,Uc]at h4;rw[UI]at h4;exact⟨ks,(ak ((bY (bp ((call_v (af rfl aA)).trans (pK s hn)))).trans h1)).trans rfl,h4⟩
def steps(r:Str):XU:=
 if r=LU then [(0,0)]else if r=LS then [(0,0),(0,1),(1,0),(0,-1),(-1,0)]else [(0,0),(0,1),(1,0),(0,-1),(-1,0),(1,1),(1,-1),(-1,1),(-1,-1)]
theorem pN:steps LU=[(0,0)]:=by unfold steps;rw[j_ rfl]
theorem pH:steps LS=[(0,0),(0,1),(1,0),(0,-1),(-1,0)]:=by unfold steps;rw[h_ (by decide),j_ rfl]
theorem pG:steps O0=[(0,0),(0,1),(1,0),(0,-1),(-1,0),(1,1),(1,-1),(-1,1),(-1,-1)]:=by unfold steps;rw[h_ (by decide),h_ (by decide)]
theorem FN(s:Sh)(hn:s.n<=1000)(r:Str)(hr:cO r):∃ks,m__law_halo [.str r,s.d]=some (eH ks)/\∀q,q∈ks↔∃p∈s.cs,∃t∈steps r,q=plus p t:=by
 rcases hr with rfl | rfl | rfl
 .obtain⟨ks,h1,h2⟩:=mi s hn (.str LU) [(0,0)] (by decide);exact⟨ks,aY ((ak rfl).trans ((ak rfl).trans ((ak ((br rfl).trans rfl)).trans ((ak ((br rfl).trans rfl)).trans h1)))),by rw[pN];exact h2⟩
 .obtain⟨ks,h1,h2⟩:=mi s hn (.str LS) [(0,0),(0,1),(1,0),(0,-1),(-1,0)] (by decide);exact⟨ks,aY ((ak rfl).trans ((ak rfl).trans ((ak ((c7 rfl).trans rfl)).trans ((ak ((br rfl).trans rfl)).trans h1)))),by rw[pH];exact h2⟩
 .obtain⟨ks,h1,h2⟩:=mi s hn (.str O0) [(0,0),(0,1),(1,0),(0,-1),(-1,0),(1,1),(1,-1),(-1,1),(-1,-1)] (by decide);exact⟨ks,aY ((ak rfl).trans ((ak rfl).trans ((ak ((c7 rfl).trans rfl)).trans ((ak ((c7 rfl).trans rfl)).trans h1)))),by rw[pG];exact h2⟩
abbrev sX(a b:Int)(w:Str)(l:Int):D:=.tup [.int a,.int b,.str w,.int l]
def gS(r c l:Int):D->D->Yl
 | .int a,.int b=>(if b+l<=c then [sX a b qh l]else [])++(if a+l<=r/\1<l then [sX a b sDn l]else [])
 | _,_=>[]
theorem Dg(r c l:Int)(x y:D):(gS r c l x y).length<=2:=by
 unfold gS
 split
 .rw[x_];split<;>split<;>simp
 .simp
abbrev eS(r c l:Int)(acc:Yl)(s3 s4:Slot):En:=[.F (.tup [.int r,.int c]),.F (.int l),.O (.L acc),s3,s4]
theorem B7(r c l a b:Int)(acc:Yl)(h:acc.length+2<=16000):fK (eS r c l acc (.F (.int a)) (.F (.int b)))=some (.nx (eS r c l (acc++gS r c l (.int a) (.int b)) (.F (.int a)) (.F (.int b)))):=by
 have p1:∀eg:Yl,eg.length<16000->kA 2 (bq (ab av (ab aS (ab (fC (.str "along")) (ab ah fNil))))) (eS r c l eg (.F (.int a)) (.F (.int b)))=some (.nx (eS r c l (eg++[sX a b qh l]) (.F (.int a)) (.F (.int b)))):=λeg h'=>mZ rfl rfl (by lia);have p2:∀eg:Yl,eg.length<16000->kA 2 (bq (ab av (ab aS (ab (fC (.str "down")) (ab ah fNil))))) (eS r c l eg (.F (.int a)) (.F (.int b)))=some (.nx (eS r c l (eg++[sX a b sDn l]) (.F (.int a)) (.F (.int b)))):=λeg h'=>mZ rfl rfl (by lia);have t1:∀eg:Yl,fB (aq leI (aq addI aS ah) (aq aK ag Yp)) (eS r c l eg (.F (.int a)) (.F (.int b)))=some (decide (b+l<=c)):=λ_=>rfl;have t2:∀eg:Yl,tP (fB (aq leI (aq addI av ah) (aq aK ag Yo))) (fB (aq gtI ah Yp)) (eS r c l eg (.F (.int a)) (.F (.int b)))=some (decide (a+l<=r)&&decide (1<l)):=λeg=>
  yA (show _=some (decide (a+l<=r))from rfl) λ_=>(show _=some (decide (1<l))from rfl)
 have Jp:∀eg:Yl,eg.length<16000->(gC (tP (fB (aq leI (aq addI av ah) (aq aK ag Yo))) (fB (aq gtI ah Yp))) (kA 2 (bq (ab av (ab aS (ab (fC (.str "down")) (ab ah fNil)))))) nxF) (eS r c l eg (.F (.int a)) (.F (.int b)))=some (.nx (eS r c l (eg++(if a+l<=r/\1<l then [sX a b sDn l]else [])) (.F (.int a)) (.F (.int b)))):=λeg h'=>by
  by_cases hh:a+l<=r/\1<l
  .rw[j_ hh];exact(c7 ((t2 eg).trans (by rw[v_ hh.1,v_ hh.2];rfl))).trans (p2 eg h')
  .rw[h_ hh,Uz];refine(br ((t2 eg).trans ?_)).trans rfl;congr 1;rw[Xw];intro e;simp only[C_,w_]at e;exact hh e
 show az _ _ _=_;show _=some (Out.nx (eS r c l (acc++((if b+l<=c then [sX a b qh l]else [])++(if a+l<=r/\1<l then [sX a b sDn l]else []))) (.F (.int a)) (.F (.int b))));rw[<- U8]
 by_cases h1:b+l<=c
 .rw[j_ h1];exact(ak ((c7 ((t1 acc).trans (by rw[v_ h1]))).trans (p1 acc (by lia)))).trans (Jp _ (by simp;lia))
 .rw[h_ h1,Uz];exact(ak ((br ((t1 acc).trans (by rw[L_ h1]))).trans rfl)).trans (Jp _ (by lia))
def Jq(r c l:Int)(R C:Nat):Yl:=(aM 0 R).flatMap λx=>(aM 0 C).flatMap λy=>gS r c l x y
theorem E5(R C:Nat)(hR:R<=60)(hC:C<=60)(l:Int):m__law_ships [.tup [.int R,.int C],.int l]=some (.lst (Jq R C l R C)):=by
 have inner:∀(a:Nat)(acc:Yl)(s4:Slot),acc.length+2*C<=8000->∃Tq,dv (eS R C l acc (.F (.int a)) s4)=some (.nx (eS R C l (acc++(aM 0 C).flatMap λy=>gS R C l (.int a) y) (.F (.int a)) Tq)):=λa acc s4 hl=>by
  obtain⟨e2,h1,s,h2⟩:=jn (t:=bw 4) (body:=fK) (λacc e=>∃s,e=eS R C l acc (.F (.int a)) s) (λy=>gS R C l (.int a) y) 2 8000 (aM 0 C) acc (eS R C l acc (.F (.int a)) s4) ⟨_,rfl⟩ (by rw[eX];lia) λd hd=>⟨Dg ..,λeg e ⟨s,he⟩ Jj=>by
   subst he;obtain⟨i,hi,rfl⟩:=iu.mp hd;exact⟨_,B7 R C l a i eg (by lia),_,rfl⟩⟩
  subst h2;refine⟨s,?_⟩;unfold dv;have hi:aq aK ag Yp (eS R C l acc (.F (.int a)) s4)=some (.int (C:Int)):=rfl;rw[bY (eO hi (by lia))];exact h1
 have Rz:([]:Yl).length+2*C*(aM 0 R).length<=8000:=by
  have h1:=U1 (U1 (m_ 2) hC) hR;rw[eX,Ui,Uc];exact G_ h1 (by decide)
 obtain⟨e2,h1,s3,s4,h2⟩:=jn (t:=bw 3) (body:=dv) (λacc e=>∃s3 s4,e=eS R C l acc s3 s4) (λx=>(aM 0 C).flatMap λy=>gS R C l x y) (2*C) 8000 (aM 0 R) [] (eS R C l [] .un .un) ⟨_,_,rfl⟩ Rz λd hd=>⟨by have:=vA (g:=λy=>gS R C l d y) (B:=2) (aM 0 C) (λy _=>Dg ..);rw[eX]at this;exact this,λeg e ⟨s3,s4,he⟩ Jj=>by
   subst he;obtain⟨i,hi,rfl⟩:=iu.mp hd;obtain⟨Tq,h⟩:=inner i eg s4 Jj;exact⟨_,fQ (e0:=eS R C l eg (.F (.int i)) s4) rfl h,_,_,rfl⟩⟩
 subst h2;exact aY ((ak (kI rfl)).trans ((ak ((bY (eO (n:=R) rfl (by lia))).trans h1)).trans rfl))
def atS(R C l a b:Nat):List Sh:=(if(b:Int)+l<=C then [⟨a,b,false,l⟩]else [])++(if(a:Int)+l<=R/\1<l then [⟨a,b,true,l⟩]else [])
def bR(R C l:Nat):List Sh:=(List.range R).flatMap λa=>(List.range C).flatMap λb=>atS R C l a b
theorem MC(R C l a b:Nat):gS R C l (.int a) (.int b)=(atS R C l a b).map Sh.d:=by
 show(if(b:Int)+l<=C then [sX a b qh l]else [])++(if(a:Int)+l<=R/\(1:Int)<l then [sX a b sDn l]else [])=_;unfold atS;rw[H_];congr 1
 .split<;>rfl
 .by_cases h:(a:Int)+l<=R/\1<l
  .rw[j_ h,j_ ⟨h.1,by lia⟩];rfl
  .rw[h_ h,h_ (λz=>h ⟨z.1,by lia⟩)];rfl
theorem GQ(R C l:Nat):Jq R C l R C=(bR R C l).map Sh.d:=by
 unfold Jq bR;rw[pO,VU];congr 1;funext a;rw[pO,VU];congr 1;funext b;exact MC R C l a b
theorem lA(h:s∈atS R C l a b):s.a=a/\s.b=b/\s.n=l/\(s.dn=false->(b:Int)+l<=C)/\(s.dn=true->(a:Int)+l<=R/\1<l):=by
 unfold atS at h;rcases Ub.mp h with h | h
 .split at h
  .rename_i hc;cases y_.mp h;exact⟨rfl,rfl,rfl,λ_=>hc,λz=>by cases z⟩
  .cases h
 .split at h
  .rename_i hc;cases y_.mp h;exact⟨rfl,rfl,rfl,λz=>(by cases z),λ_=>hc⟩
  .cases h
theorem mq:s∈bR R C l↔(∃a b:Nat,s.a=a/\s.b=b/\a<R/\b<C)/\s.n=l/\(s.dn=false->s.b+l<=C)/\(s.dn=true->s.a+l<=R/\1<l):=by
 unfold bR;simp only[UJ,UA];constructor
 .rintro⟨a,ha,b,hb,h⟩;obtain⟨h1,h2,h3,h4,h5⟩:=lA h;rw[h1,h2];exact⟨⟨a,b,rfl,rfl,ha,hb⟩,h3,h4,h5⟩
 .rintro⟨⟨a,b,h1,h2,ha,hb⟩,h3,h4,h5⟩;refine⟨a,ha,b,hb,?_⟩;obtain⟨sa,sb,dn,n⟩:=s;simp only at h1 h2 h3 h4 h5;subst h1 h2 h3;unfold atS;cases dn
  .rw[j_ (h4 rfl)];simp
  .rw[j_ (h5 rfl)];simp
theorem F0(R C l a b:Nat):(atS R C l a b).length<=2:=by
 unfold atS;rw[x_];split<;>split<;>simp
theorem fm{α β:Type}{g:α->List β}{B:Nat}:∀(ds:List α),(∀d∈ds,(g d).length<=B)->(ds.flatMap g).length<=B*ds.length
 | [],_=>by simp
 | d::ds,h=>by
  rw[UD,x_,z_,XG];have:=h d g_;have:=fm ds λx hx=>h x (f_ _ hx)
  lia
theorem q9(R C l:Nat):(bR R C l).length<=2*C*R:=by
 have h:=fm (g:=λa=>(List.range C).flatMap λb=>atS R C l a b) (B:=2*C) (List.range R) λa _=>by
  have:=fm (g:=λb=>atS R C l a b) (B:=2) (List.range C) (λb _=>F0 ..);rwa [Vm]at this
 rwa [Vm]at h
theorem Bs(R C:Nat)(hR:R<=60)(hC:C<=60)(l:Nat):m__law_ships [.tup [.int R,.int C],.int l]=some (.lst ((bR R C l).map Sh.d)):=by
 rw[E5 R C hR hC l,GQ]
def Sh.ks(s:Sh):List L2.Key:=[.inl s.a,.inl s.b,.inr s.w,.inl s.n]
def Bef(s t:Sh):Prop:=s.a<t.a\/(s.a=t.a/\(s.b<t.b\/(s.b=t.b/\((s.dn=false/\t.dn=true)\/(s.dn=t.dn/\s.n<t.n)))))
theorem QH:Di (.inr qh) (.inr sDn)=some true:=by
 show some (decide (qh.cps.toList<sDn.cps.toList))=_;rw[show decide (qh.cps.toList<sDn.cps.toList)=true by decide +kernel]
theorem QF:Di (.inr sDn) (.inr qh)=some false:=by
 show some (decide (sDn.cps.toList<qh.cps.toList))=_;rw[show decide (sDn.cps.toList<qh.cps.toList)=false by decide +kernel]
theorem Sl:(Sum.inr qh:L2.Key)≠.inr sDn:=λh=>absurd (Sum.inr.inj h) (by decide)
theorem oW(x y:L2.Key)(xs ys:List L2.Key):dO (x::xs) (y::ys)=if x=y then dO xs ys else Di x y:=rfl
theorem wq(n n':Nat):dO [.inl (n:Int)] [.inl (n':Int)]=some (decide (n<n')):=by
 rw[oW]
 by_cases h3:n=n'
 .subst h3;rw[j_ rfl];simp[dO]
 .rw[h_ (λz=>h3 (by have:=Sum.inl.inj z;lia))];show some (decide ((n:Int)<n'))=_;simp
theorem Hn(a b a' b':Int)(xs ys:List L2.Key)(q:Bool)(h:dO xs ys=some q):∃r,dO (.inl a::.inl b::xs) (.inl a'::.inl b'::ys)=some r/\(r=true↔a<a'\/(a=a'/\(b<b'\/(b=b'/\q=true)))):=by
 rw[oW]
 by_cases h1:a=a'
 .subst h1;rw[j_ rfl,oW]
  by_cases h2:b=b'
  .subst h2;rw[j_ rfl];exact⟨q,h,by simp⟩
  .rw[h_ (λz=>h2 (Sum.inl.inj z))];refine⟨decide (b<b'),rfl,?_⟩;rw[w_];constructor
   .intro h;exact .inr ⟨rfl,.inl h⟩
   .rintro(h | ⟨_,h | ⟨h,_⟩⟩)
    .lia
    .exact h
    .exact absurd h h2
 .rw[h_ (λz=>h1 (Sum.inl.inj z))];refine⟨decide (a<a'),rfl,?_⟩;rw[w_];constructor
  .intro h;exact .inl h
  .rintro(h | ⟨h,_⟩)
   .exact h
   .exact absurd h h1
theorem MF(x y:Bool)(n n':Nat):∃q,dO [.inr (if x=true then sDn else qh),.inl (n:Int)] [.inr (if y=true then sDn else qh),.inl (n':Int)]=some q/\(q=true↔(x=false/\y=true)\/(x=y/\n<n')):=by
 cases x<;>cases y
 .exact⟨decide (n<n'),(by rw[oW,j_ rfl,wq]),by simp⟩
 .exact⟨true,(by show dO [.inr qh,_] [.inr sDn,_]=_;rw[oW,h_ Sl];exact QH),by simp⟩
 .exact⟨false,(by show dO [.inr sDn,_] [.inr qh,_]=_;rw[oW,h_ (UB Sl)];exact QF),by simp⟩
 .exact⟨decide (n<n'),(by rw[oW,j_ rfl,wq]),by simp⟩
theorem sv(s t:Sh):∃q,dO s.ks t.ks=some q/\(q=true↔Bef s t):=by
 obtain⟨q,h1,h2⟩:=MF s.dn t.dn s.n t.n;obtain⟨r,h3,h4⟩:=Hn s.a s.b t.a t.b _ _ q h1;exact⟨r,h3,by rw[h4,h2];rfl⟩
theorem Er(h:¬Bef s t):dO s.ks t.ks=some false:=by
 obtain⟨q,h1,h2⟩:=sv s t;cases q
 .exact h1
 .exact absurd (h2.mp rfl) h
theorem Ah(h:Bef s t):dO s.ks t.ks=some true:=by
 obtain⟨q,h1,h2⟩:=sv s t;rw[h1,h2.mpr h]
theorem jI(h:Bef s t):¬Bef t s:=by
 obtain⟨a,b,dn,n⟩:=s;obtain⟨a',b',LQ,n'⟩:=t;unfold Bef at *;simp only at *;intro h';cases dn<;>cases LQ<;>simp at h h'<;>lia
theorem BA(h:¬Bef s t)(h2:¬Bef t s):s=t:=by
 obtain⟨a,b,dn,n⟩:=s;obtain⟨a',b',LQ,n'⟩:=t;unfold Bef at *;simp only at *;have e1:a=a':=by lia
 subst e1;have e2:b=b':=by lia
 subst e2;cases dn<;>cases LQ<;>simp at h h2
 .rw[show n=n' by lia]
 .rw[show n=n' by lia]
theorem CK(R C l:Nat):(bR R C l).Pairwise Bef:=by
 unfold bR;refine V_.mpr ⟨λa ha=>V_.mpr ⟨λb hb=>?_,?_⟩,?_⟩
 .unfold atS
  split<;>split<;>simp[Bef]
 .refine Vh (R:=λ(x y:Nat)=>x<y) (λ{x y} _ _ QP s hs t ht=>?_) Wz;obtain⟨h1,h2,_⟩:=lA hs;obtain⟨g1,g2,_⟩:=lA ht;exact .inr ⟨by rw[h1,g1],.inl (by rw[h2,g2];lia)⟩
 .refine Vh (R:=λ(x y:Nat)=>x<y) (λ{x y} _ _ QP s hs t ht=>?_) Wz;obtain⟨b,_,hs⟩:=UJ.mp hs;obtain⟨b',_,ht⟩:=UJ.mp ht;obtain⟨h1,_⟩:=lA hs;obtain⟨g1,_⟩:=lA ht;exact .inl (by rw[h1,g1];lia)
theorem pU:∀(ps:XU),l' (ps.map cel)=some (ps.map a8)
 | []=>rfl
 | p::ps=>by
  show(lC [.int p.1,.int p.2]).bind (λks=>(l' (ps.map cel)).bind λkss=>some (ks::kss))=_;rw[pU ps];rfl
def Sh.rz(s:Sh):Int:=if s.dn=true then s.a+s.n-1 else s.a
def Sh.cz(s:Sh):Int:=if s.dn=true then s.b else s.b+s.n-1
theorem pV{s:Sh}(hn:1<=s.n)(p:X5):p∈s.cs↔s.a<=p.1/\p.1<=s.rz/\s.b<=p.2/\p.2<=s.cz:=by
 obtain⟨a,b,dn,n⟩:=s;obtain⟨x,y⟩:=p;unfold Sh.cs Sh.rz Sh.cz Sh.at;simp only[u_,UA];simp only at hn;cases dn
 .simp only[E_,Uu,Xz];constructor
  .rintro⟨i,hi,rfl,rfl⟩;lia
  .rintro⟨h1,h2,h3,h4⟩;exact⟨(y-b).toNat,by lia,by lia,by lia⟩
 .simp only[Vi,Xz];constructor
  .rintro⟨i,hi,rfl,rfl⟩;lia
  .rintro⟨h1,h2,h3,h4⟩;exact⟨(x-a).toNat,by lia,by lia,by lia⟩
def FO(i j k:Int):Int:=if j>i then(if k>j then k else j)else(if k>i then k else i)
def nC(s t:Sh):Int:=FO (t.a-s.rz) (s.a-t.rz) 0
def qw(s t:Sh):Int:=FO (t.b-s.cz) (s.b-t.cz) 0
theorem HH(s t:Sh):m_rows_between [s.d,t.d]=some (.int (nC s t)):=by
 obtain⟨a,b,dn,n⟩:=s;obtain⟨a',b',LQ,n'⟩:=t;cases dn<;>cases LQ<;>rfl
theorem Gi(s t:Sh):m_columns_between [s.d,t.d]=some (.int (qw s t)):=by
 obtain⟨a,b,dn,n⟩:=s;obtain⟨a',b',LQ,n'⟩:=t;cases dn<;>cases LQ<;>rfl
def mU(r:Str)(s t:Sh):Bool:=if r=LU then decide (0<nC s t+qw s t)else if r=LS then decide (1<nC s t+qw s t)else decide (1<(if qw s t>nC s t then qw s t else nC s t))
theorem HI(r:Str)(hr:cO r)(s t:Sh):m_keep [.str r,s.d,t.d]=some (.bl (mU r s t)):=by
 have e1:setF 3 (λenv=>((ab ah (ab aD fNil)) env).bind m_rows_between) (cQ 5 [.str r,s.d,t.d])=some (.nx [.F (.str r),.F s.d,.F t.d,.F (.int (nC s t)),.un]):=aV ((call_v (af rfl (af rfl aA))).trans (HH s t));have e2:setF 4 (λenv=>((ab ah (ab aD fNil)) env).bind m_columns_between) [.F (.str r),.F s.d,.F t.d,.F (.int (nC s t)),.un]=some (.nx [.F (.str r),.F s.d,.F t.d,.F (.int (nC s t)),.F (.int (qw s t))]):=aV ((call_v (af rfl (af rfl aA))).trans (Gi s t));refine aY ((ak e1).trans ((ak e2).trans ?_));unfold mU;rcases hr with rfl | rfl | rfl
 .rw[j_ rfl];exact iZ ((c7 rfl).trans (bG ((aX (gO _ _) rfl).trans (KJ _ _))))
 .rw[h_ (by decide),j_ rfl];exact(ak ((br rfl).trans rfl)).trans (iZ ((c7 rfl).trans (bG ((aX (gO _ _) rfl).trans (KJ _ _)))))
 .rw[h_ (by decide),h_ (by decide)];exact(ak ((br rfl).trans rfl)).trans ((ak ((br rfl).trans rfl)).trans (bG ((aX (x:=.int (if qw s t>nC s t then qw s t else nC s t)) rfl rfl).trans (KJ _ _))))
theorem Sh.rz_ge{s:Sh}(h:1<=s.n):s.a<=s.rz:=by unfold Sh.rz;split<;>lia
theorem Sh.cz_ge{s:Sh}(h:1<=s.n):s.b<=s.cz:=by unfold Sh.cz;split<;>lia
theorem NA(h1:a<=p)(h2:p<=z)(h3:b<=p+d)(h4:p+d<=y):b<=z+d/\a+d<=(y:Int):=by lia
theorem Nb{a z b y d:Int}(h1:a<=z)(h2:b<=y)(h3:b<=z+d)(h4:a+d<=y):∃x,(b<=x/\x<=y)/\a<=x-d/\x-d<=z:=by
 by_cases h:a+d<=b
 .exact⟨b,by lia,by lia⟩
 .exact⟨a+d,by lia,by lia⟩
theorem rC{s t:Sh}(hs:1<=s.n)(ht:1<=t.n)(d:X5):(∃q∈t.cs,∃p∈s.cs,q=plus p d)↔t.a<=s.rz+d.1/\s.a+d.1<=t.rz/\t.b<=s.cz+d.2/\s.b+d.2<=t.cz:=by
 constructor
 .rintro⟨q,hq,p,hp,rfl⟩;rw[pV ht]at hq;rw[pV hs]at hp;have r:=NA hp.1 hp.2.1 hq.1 hq.2.1;have c:=NA hp.2.2.1 hp.2.2.2 hq.2.2.1 hq.2.2.2;exact⟨r.1,r.2,c⟩
 .rintro⟨h1,h2,h3,h4⟩;obtain⟨x,⟨x1,x2⟩,x3,x4⟩:=Nb (Sh.rz_ge hs) (Sh.rz_ge ht) h1 h2;obtain⟨y,⟨y1,y2⟩,y3,y4⟩:=Nb (Sh.cz_ge hs) (Sh.cz_ge ht) h3 h4;refine⟨(x,y),(pV ht _).mpr ⟨x1,x2,y1,y2⟩,(x-d.1,y-d.2),(pV hs _).mpr ⟨x3,x4,y3,y4⟩,?_⟩;unfold plus;simp only;rw[Int.sub_add_cancel,Int.sub_add_cancel]
theorem zk(h1:a<=z)(h2:b<=y)(hu:0<=u/\b-z<=u/\a-y<=u/\(u=0\/u=b-z\/u=a-y)) :
  ((b<=z+0/\a+0<=y)↔u=0)/\((b<=z+0/\a+0<=y)\/(b<=z+1/\a+1<=y)\/(b<=z+-1/\a+-1<=y)↔u<=1):=by
 refine⟨by lia,?_,λ_=>?_⟩
 .rintro(⟨_,_⟩ | ⟨_,_⟩ | ⟨_,_⟩)<;>lia
 .by_cases e:u=0
  .exact .inl (by lia)
  .by_cases e2:u=b-z
   .exact .inr (.inl (by lia))
   .exact .inr (.inr (by lia))
theorem TM:((p/\a)\/(p/\b)\/(q/\a)\/(p/\c)\/(r/\a))↔(p/\(a\/b\/c))\/((p\/q\/r)/\a):=by
 constructor
 .rintro(⟨h,g⟩ | ⟨h,g⟩ | ⟨h,g⟩ | ⟨h,g⟩ | ⟨h,g⟩)<;>simp[h,g]
 .rintro(⟨h,g | g | g⟩ | ⟨h | h | h,g⟩)<;>simp[h,g]
theorem TQ:((p/\a)\/(p/\b)\/(q/\a)\/(p/\c)\/(r/\a)\/(q/\b)\/(q/\c)\/(r/\b)\/(r/\c))↔(p\/q\/r)/\(a\/b\/c):=by
 constructor
 .rintro(⟨h,g⟩ | ⟨h,g⟩ | ⟨h,g⟩ | ⟨h,g⟩ | ⟨h,g⟩ | ⟨h,g⟩ | ⟨h,g⟩ | ⟨h,g⟩ | ⟨h,g⟩)<;>simp[h,g]
 .rintro⟨h | h | h,g | g | g⟩<;>simp[h,g]
theorem nL(x y:Int):0<=FO x y 0/\x<=FO x y 0/\y<=FO x y 0/\(FO x y 0=0\/FO x y 0=x\/FO x y 0=y):=by
 unfold FO;split<;>split<;>lia
theorem vX{r:Str}(hr:cO r){s t:Sh}(hs:1<=s.n)(ht:1<=t.n):mU r s t=true↔¬∃q∈t.cs,∃p∈s.cs,∃d∈steps r,q=plus p d:=by
 have sw:(∃q∈t.cs,∃p∈s.cs,∃d∈steps r,q=plus p d)↔∃d∈steps r,(t.a<=s.rz+d.1/\s.a+d.1<=t.rz)/\t.b<=s.cz+d.2/\s.b+d.2<=t.cz:=by
  constructor
  .rintro⟨q,hq,p,hp,d,hd,e⟩;exact⟨d,hd,and_assoc.mpr ((rC hs ht d).mp ⟨q,hq,p,hp,e⟩)⟩
  .rintro⟨d,hd,h⟩;obtain⟨q,hq,p,hp,e⟩:=(rC hs ht d).mpr (and_assoc.mp h);exact⟨q,hq,p,hp,d,hd,e⟩
 obtain⟨r0,r1⟩:=zk (u:=nC s t) (Sh.rz_ge hs) (Sh.rz_ge ht) (nL (t.a-s.rz) (s.a-t.rz));obtain⟨c0,c1⟩:=zk (u:=qw s t) (Sh.cz_ge hs) (Sh.cz_ge ht) (nL (t.b-s.cz) (s.b-t.cz));have n1:0<=nC s t:=(nL (t.a-s.rz) (s.a-t.rz)).1;have n2:0<=qw s t:=(nL (t.b-s.cz) (s.b-t.cz)).1;rw[sw];unfold mU;rcases hr with rfl | rfl | rfl
 .rw[j_ rfl,pN,w_];simp only[y_,XN];rw[r0,c0];clear r0 r1 c0 c1 sw
  lia
 .rw[h_ (by decide),j_ rfl,pH,w_];simp only[p_,Ul,Vq,exists_eq_or_imp,XN];rw[TM,r1,c1,r0,c0];clear r0 r1 c0 c1 sw
  lia
 .rw[h_ (by decide),h_ (by decide),pG,w_];simp only[p_,Ul,Vq,exists_eq_or_imp,XN];rw[TQ,r1,c1];clear r0 r1 c0 c1 sw
  split<;>lia
theorem km:∀{l:List α},(∀a∈l,f a=g a)->l.flatMap f=l.flatMap g
 | [],_=>rfl
 | a::l,h=>by rw[UD,UD,h a g_,km λx hx=>h x (f_ _ hx)]
def a9(R C:Nat):XU:=(List.range R).flatMap λ(a:Nat)=>(List.range C).map λ(b:Nat)=>((a:Int),(b:Int))
theorem ik(R C:Nat):(a9 R C).length<=C*R:=by
 have h:=fm (g:=λ(a:Nat)=>(List.range C).map λ(b:Nat)=>((a:Int),(b:Int))) (B:=C) (List.range R) λa _=>by simp
 rwa [Vm]at h
def Mn:D->D->D
 | .int a,.int b=>cel (a,b)
 | _,_=>.non
theorem yd(R C:Nat):(aM 0 R).flatMap (λx=>(aM 0 C).map (Mn x))=(a9 R C).map cel:=by
 unfold a9;rw[pO,VU];congr 1;funext a;rw[sf,K_]
 rfl
theorem nj(R C:Nat)(hR:R<=60)(hC:C<=60):m_all_cells [.tup [.int R,.int C]]=some (.lst ((a9 R C).map cel)):=by
 have hl:((a9 R C).map cel).length<=16000000:=by
  have h1:=ik R C;have h2:=U1 hC hR;rw[c_];lia
 refine aY ((ak (j0 (ds:=[.int R,.int C]) rfl rfl)).trans (bG (bf (ds:=aM 0 R) (eO (n:=R) rfl (by lia)) rfl ?_ hl)));rw[<- yd];refine ux (λx=>(aM 0 C).map (Mn x)) _ λd hd=>?_;obtain⟨i,hi,rfl⟩:=iu.mp hd;refine⟨[.F (.int i),.un,.F (.int C)],rfl,rfl,Dx (ds:=aM 0 C) (eO (n:=C) rfl (by lia)) rfl (ix _ _ λd hd=>?_)⟩;obtain⟨j,hj,rfl⟩:=iu.mp hd;exact⟨_,rfl,rfl⟩
def both(l:Nat)(p:X5):List Sh:=[⟨p.1,p.2,false,l⟩,⟨p.1,p.2,true,l⟩]
def IL(l:Nat):D->Yl
 | .tup [.int a,.int b]=>(both l (a,b)).map Sh.d
 | _=>[]
theorem rM(l:Nat):∀(ps:XU),(ps.map cel).flatMap (IL l)=(ps.flatMap (both l)).map Sh.d
 | []=>rfl
 | p::ps=>by rw[A_,UD,rM l ps,UD,H_];rfl
theorem Hd(R C:Nat)(a b:Nat)(ha:a<R)(hb:b<C)(l:Nat)(hl:1<=l)(h8:l<=8)(dn:Bool):m_is_ship [.tup [.int R,.int C],Sh.d ⟨a,b,dn,l⟩]=some (.bl (if dn=true then decide ((1:Int)<l)&&decide ((a:Int)+l<=R)else decide ((b:Int)+l<=C))):=by
 have z:m_is_size [.int l]=some (.bl true):=aY (bG ((we rfl).trans ((CQ (x:=.int 1) (y:=.int l) (w:=.int 8) rfl rfl rfl (wm _ _) (wm _ _)).trans (by rw[v_ (by lia),v_ (by lia)];rfl))));have c:m_is_cell [.tup [.int R,.int C],.tup [.int a,.int b]]=some (.bl true):=by
  refine aY ((ak ((br rfl).trans rfl)).trans ((ak (j0 (ds:=[.int a,.int b]) rfl rfl)).trans (bG ?_)));refine(we rfl).trans ((we rfl).trans ((Ax (CQ (x:=.int 0) (y:=.int a) (w:=.int R) rfl rfl rfl (wm _ _) (CW _ _)) λ_=>CQ (x:=.int 0) (y:=.int b) (w:=.int C) rfl rfl rfl (wm _ _) (CW _ _)).trans ?_));rw[v_ (by lia),v_ (by lia),v_ (by lia),v_ (by lia)];rfl
 refine aY ((ak ((br rfl).trans rfl)).trans ((ak (j0 (ds:=[.int a,.int b,.str (Sh.w ⟨a,b,dn,l⟩),.int l]) rfl rfl)).trans ?_));refine(ak ((br (AE (p:=false) (q:=false) (by cases dn<;>rfl) λ_=>AE (p:=false) (q:=false) (vq (b:=true) (cG ((call_v (af rfl aA)).trans z))) λ_=>vq (b:=true) (cG ((call_v (af rfl (af (iI (af rfl (af rfl aA))) aA))).trans c)))).trans rfl)).trans ?_;cases dn
 .exact(ak ((br rfl).trans rfl)).trans (bG ((aX (gO _ _) rfl).trans (wm _ _)))
 .exact iZ ((c7 rfl).trans (bG (Ax rfl λ_=>(aX (gO _ _) rfl).trans (wm _ _))))
def O2(R C:Nat)(s:Sh):Bool:=if s.dn=true then decide ((1:Int)<s.n)&&decide (s.a+s.n<=R)else decide (s.b+s.n<=C)
theorem vQ(R C l:Nat):((a9 R C).flatMap (both l)).filter (O2 R C)=bR R C l:=by
 unfold a9 bR;rw[List.flatMap_assoc,List.filter_flatMap];refine km λa _=>?_;rw[WU,List.filter_flatMap];refine km λb _=>?_;unfold both atS;rw[Ua,Ua,List.filter_nil];have e1:O2 R C ⟨a,b,false,l⟩=decide ((b:Int)+l<=C):=rfl;have e2:O2 R C ⟨a,b,true,l⟩=(decide ((1:Int)<l)&&decide ((a:Int)+l<=R)):=rfl;have e3:(1<l)↔((1:Int)<l):=by lia
 simp only[e1,e2,e3]
 by_cases h1:(b:Int)+l<=C<;>by_cases h2:(a:Int)+l<=R<;>by_cases h3:(1:Int)<l<;>simp only[h1,h2,h3,and_self,and_true,and_false,decide_true,decide_false,Bool.and_true,Xe,E_,Vi,Uu,Uz,Ud,List.singleton_append]
theorem cj(f g:α->D)(p:α->Bool):∀(xs:List α),(∀x∈xs,∃e1,t (f x) env=some e1/\c e1=some (p x)/\(p x=true->k e1=some [g x]))->fW t c k env (xs.map f)=some ((xs.filter p).map g)
 | [],_=>rfl
 | x::xs,h=>by
  obtain⟨e1,h1,h2,h3⟩:=h x g_;have ih:=cj f g p xs λy hy=>h y (f_ _ hy);show fW _ _ _ _ (f x::xs.map f)=_;unfold fW;rw[h1];show(c e1).bind _=_;rw[h2];cases hp:p x with
  | true=>
   show(if true=true then k e1 else some []).bind _=_;rw[j_ rfl,h3 hp];show(fW t c k env (xs.map f)).bind _=_;rw[ih,Ua,j_ hp];rfl
  | false=>
   simp only[UO,E_,Uu,ih,Ud,Ua,hp]
theorem y8(R C:Nat)(hR:R<=8)(hC:C<=8)(l:Nat)(hl:1<=l)(h8:l<=8):m_ships_of [.tup [.int R,.int C],.int l]=some (.lst ((bR R C l).map Sh.d)):=by
 have hlen:((bR R C l).map Sh.d).length<=16000000:=by
  have h1:=q9 R C l;have h2:=U1 (U1 (m_ 2) hC) hR;rw[c_];lia
 have hlen2:(((a9 R C).flatMap (both l)).map Sh.d).length<=16000000:=by
  have h1:=fm (g:=both l) (B:=2) (a9 R C) λp _=>by unfold both;simp
  have h2:=ik R C;have h3:=U1 hC hR;rw[c_];lia
 have e1:setF 2 (aP (cF (λenv=>((ab ag fNil) env).bind m_all_cells)) [0,1] (lU [0,1]) Yt (hW (AY (fC sL)) [2] (bw 2) Yt (aC (bq (ab ag (ab ah (ab aD (ab av fNil))))))) 3 [1]) (cQ 3 [.tup [.int R,.int C],.int l]) =
   some (.nx [.F (.tup [.int R,.int C]),.F (.int l),.F (.lst (((a9 R C).flatMap (both l)).map Sh.d))]):=by
  refine aV (bf (bp ((call_v (af rfl aA)).trans (nj R C (by lia) (by lia)))) rfl ?_ hlen2);rw[<- rM];refine ux (IL l) _ λd hd=>?_;obtain⟨p,hp,rfl⟩:=u_.mp hd;exact⟨[.F (.int p.1),.F (.int p.2),.un,.F (.int l)],rfl,rfl,rfl⟩
 refine aY ((ak e1).trans (bG (bf (bp rfl) rfl ?_ hlen)));have:=cj (t:=bw 0) (c:=fB (λenv=>((ab ah (ab ag fNil)) env).bind m_is_ship)) (k:=aC ag) (env:=[.un,.F (.tup [.int R,.int C])]) Sh.d Sh.d (O2 R C) ((a9 R C).flatMap (both l)) λs hs=>by
  obtain⟨p,hp,hs⟩:=UJ.mp hs;obtain⟨a,ha,hp⟩:=UJ.mp hp;obtain⟨b,hb,rfl⟩:=u_.mp hp;have k:=λdn=>Hd R C a b (UA.mp ha) (UA.mp hb) l hl h8 dn;refine⟨[.F s.d,.F (.tup [.int R,.int C])],rfl,cG ((call_v (af rfl (af rfl aA))).trans ?_),λ_=>rfl⟩;rcases p_.mp hs with rfl | hs
  .exact k false
  .rw[y_.mp hs];exact k true
 rw[vQ]at this;exact this
theorem mJ(I:En->Prop)(p:D->Bool)(x:D):∀(ds:Yl)(env:En),I env->(∀d∈ds,∀e,I e->(p d=true->∃e1,(t d e).bind body=some (.nx e1)/\I e1)/\(p d=false->(t d e).bind body=some (.rt x)))->
  (ds.all p=true->∃e2,cK t body ds env=some (.nx e2)/\I e2)/\(ds.all p=false->cK t body ds env=some (.rt x))
 | [],env,h,_=>⟨λ_=>⟨env,rfl,h⟩,λh=>by cases h⟩
 | d::ds,env,h,hb=>by
  obtain⟨h1,h2⟩:=hb d g_ env h;cases hp:p d with
  | true=>
   obtain⟨e1,h3,h4⟩:=h1 hp;obtain⟨e0,h5,h6⟩:=a_.mp h3;have hh:cK t body (d::ds) env=cK t body ds e1:=by
    show(t d env).bind (λe1=>(body e1).bind _)=_;rw[h5];show(body e0).bind _=_;rw[h6]
    rfl
   rw[hh,V6,hp,Bool.true_and];exact mJ I p x ds e1 h4 λd' hd=>hb d' (f_ _ hd)
  | false=>
   obtain⟨e0,h5,h6⟩:=a_.mp (h2 hp);rw[V6,hp,Xd];refine⟨λh=>(by cases h),λ_=>?_⟩;show(t d env).bind (λe1=>(body e1).bind _)=_;rw[h5];show(body e0).bind _=_;rw[h6]
   rfl
noncomputable def jW(ru:Str)(s:Sh):XU:=match m__law_halo [.str ru,s.d]with | some d=>KZ d | _=>[]
theorem xX(s:Sh)(hn:s.n<=1000)(ru:Str)(hr:cO ru):m__law_halo [.str ru,s.d]=some (eH (jW ru s))/\∀q,q∈jW ru s↔∃p∈s.cs,∃t∈steps ru,q=plus p t:=by
 obtain⟨ks,h1,h2⟩:=FN s hn ru hr;have:jW ru s=ks:=by unfold jW;rw[h1];exact xy ks
 rw[this];exact⟨h1,h2⟩
theorem EU(s0:Slot)(cs:XU)(ks:XU)(s3:Slot):(cs.all (λp=>!decide (p∈ks))=true->∃xi,ej [s0,.F (.lst (cs.map cel)),.F (eH ks),s3]=some (.nx [s0,.F (.lst (cs.map cel)),.F (eH ks),xi]))/\(cs.all (λp=>!decide (p∈ks))=false->ej [s0,.F (.lst (cs.map cel)),.F (eH ks),s3]=some (.rt (.bl false))):=by
 have hh:=mJ (t:=bw 3) (body:=jX) (λe=>∃s3,e=[s0,.F (.lst (cs.map cel)),.F (eH ks),s3]) (λd=>match d with | .tup [.int a,.int b]=>!decide ((a,b)∈ks) | _=>true) (.bl false) (cs.map cel) _ ⟨s3,rfl⟩ λd hd e aG=>by
  obtain⟨s3,he⟩:=aG;subst he;obtain⟨q,hq,rfl⟩:=u_.mp hd;have ht:fB (aq (IU Th.h false) av aD) [s0,.F (.lst (cs.map cel)),.F (eH ks),.F (cel q)]=some (decide (q∈ks)):=cG (by
   show(rh Th.h (eH ks)).bind _=_;unfold eH;rw[lR];show some (D.bl (decide (a8 q∈ks.map a8)))=_;congr 2;rw[Uh,w_,w_];exact fH)
  constructor
  .intro h;have h:decide (q∈ks)=false:=by simpa [cel]using h
   exact⟨_,fQ (e0:=[s0,.F (.lst (cs.map cel)),.F (eH ks),.F (cel q)]) rfl ((br (ht.trans (by rw[h]))).trans rfl),_,rfl⟩
  .intro h;have h:decide (q∈ks)=true:=by simpa [cel]using h
   exact fQ (e0:=[s0,.F (.lst (cs.map cel)),.F (eH ks),.F (cel q)]) rfl ((c7 (ht.trans (by rw[h]))).trans rfl)
 rw[WH]at hh;refine⟨λh=>?_,λh=>(bY (bp rfl)).trans (hh.2 h)⟩;obtain⟨e2,g1,xi,rfl⟩:=hh.1 h;exact⟨xi,(bY (bp rfl)).trans g1⟩
theorem nH(hs:List XU)(cs:XU):m__law_free [.lst (hs.map eH),.lst (cs.map cel)]=some (.bl (hs.all λks=>cs.all λp=>!decide (p∈ks))):=by
 have hh:=mJ (t:=bw 2) (body:=ej) (λe=>∃s2 s3,e=[.F (.lst (hs.map eH)),.F (.lst (cs.map cel)),s2,s3]) (λd=>cs.all λp=>!decide (p∈KZ d)) (.bl false) (hs.map eH) [.F (.lst (hs.map eH)),.F (.lst (cs.map cel)),.un,.un] ⟨.un,.un,rfl⟩ λd hd e aG=>by
  obtain⟨s2,s3,he⟩:=aG;subst he;obtain⟨ks,Ii,rfl⟩:=u_.mp hd;obtain⟨g1,g2⟩:=EU (.F (.lst (hs.map eH))) cs ks s3;simp only[xy];refine⟨λh=>?_,λh=>fQ (e0:=[.F (.lst (hs.map eH)),.F (.lst (cs.map cel)),.F (eH ks),s3]) rfl (g2 h)⟩;obtain⟨xi,g⟩:=g1 h;exact⟨_,fQ (e0:=[.F (.lst (hs.map eH)),.F (.lst (cs.map cel)),.F (eH ks),s3]) rfl g,_,_,rfl⟩
 rw[WH]at hh;simp only[Xx,xy]at hh;cases hb:(hs.all λks=>cs.all λp=>!decide (p∈ks))with
 | true=>
  obtain⟨e2,g1,s2,s3,rfl⟩:=hh.1 hb;exact aY ((ak ((bY (bp rfl)).trans g1)).trans rfl)
 | false=>exact aY (iZ ((bY (bp rfl)).trans (hh.2 hb)))
theorem BW(hr:cO ru)(h:List Sh)(hh:∀t∈h,1<=t.n/\t.n<=1000)(s:Sh)(hs:1<=s.n):m__law_free [.lst (h.map λt=>eH (jW ru t)),.lst (s.cs.map cel)]=some (.bl (h.all λt=>mU ru t s)):=by
 have e:=nH (h.map (jW ru)) s.cs;rw[K_]at e;refine Eq.trans e ?_;congr 2;rw[WH,Uh,D_,D_];refine forall_congr' λt=>forall_congr' λht=>?_;obtain⟨h1,h2⟩:=hh t ht;rw[vX hr h1 hs];simp only[Va,D_,Xy,VV];constructor
 .rintro hq ⟨q,RA,p,hp,d,hd,e⟩;exact hq q RA (((xX t h2 ru hr).2 q).mpr ⟨p,hp,d,hd,e⟩)
 .intro hq q RA hq2;obtain⟨p,hp,d,hd,e⟩:=((xX t h2 ru hr).2 q).mp hq2;exact hq ⟨q,RA,p,hp,d,hd,e⟩
instance (s t:Sh):Decidable (Bef s t):=by unfold Bef;infer_instance
def jP(fl:X3):D:=.tup (fl.map λ(n:Nat)=>.int n)
def hidD(h:List Sh):D:=.tup (h.map Sh.d)
noncomputable def iQ(ru:Str)(h:List Sh):D:=.tup [hidD h,.lst (h.map λs=>eH (jW ru s))]
def vW(fl:X3)(j:Nat)(h:List Sh)(s:Sh):Bool:=decide (j=0)||(!decide (fl.getD (j-1) 0=fl.getD j 0)||(match h.getLast? with | some u=>decide (Bef u s) | none=>true))
def okN(ru:Str)(fl:X3)(j:Nat)(h:List Sh)(s:Sh):Bool:=vW fl j h s&&h.all λt=>mU ru t s
def iN(R C:Nat)(ru:Str)(fl:X3)(j:Nat)(rows:List (List Sh)):List (List Sh):=rows.flatMap λh=>((bR R C (fl.getD j 0)).filter (okN ru fl j h)).map λs=>h++[s]
def bX(R C:Nat)(ru:Str)(fl:X3):Nat->List (List Sh)
 | 0=>[[]]
 | j+1=>iN R C ru fl j (bX R C ru fl j)
noncomputable abbrev eA(R C:Nat)(fl:X3)(ru:Str)(rows:D)(pl ln:Nat)(ss:List Sh)(acc:Yl)(cR iS fY eU:Slot):En:=
 [.F (.tup [.int R,.int C]),.F (jP fl),.F (.str ru),.F rows,.F (.int pl),.F (.int ln),.F (.lst (ss.map Sh.d)),.F (.lst (ss.map λs=>eH (jW ru s))),.F (.lst (ss.map λs=>.lst (s.cs.map cel))),.O (.L acc),cR,iS,fY,eU]
theorem Ef(h:f env=some (.tup xs))(h2:g env=some (.tup ys))(hl:xs.length+ys.length<=16000000):aq BH f g env=some (.tup (xs++ys)):=by
 rw[aX h h2];show(if xs.length+ys.length<=16000000 then _ else _)=_;rw[j_ hl]
theorem Nr(s t:Sh):Mg s.d t.d=some (.bl (decide (Bef s t))):=by
 obtain⟨q,h1,h2⟩:=sv s t;show(dO s.ks t.ks).bind _=_;rw[h1,show decide (Bef s t)=q by cases q<;>simp_all];rfl
theorem all1(R C:Nat)(fl:X3)(ru:Str)(hr:cO ru)(rows:D)(pl:Nat)(j8:pl<fl.length)(ss:List Sh)(acc:Yl)(ha:acc.length<1000000)(h:List Sh)(hl:h.length=pl)(hh:∀t∈h,1<=t.n/\t.n<=1000)(Tr:pl<=3)(eU:Slot)(k:Nat)(s:Sh)(hk:ss[k]?=some s)(hn:1<=s.n) :
  ∃gG:Slot,fg (eA R C fl ru rows pl (fl.getD pl 0) ss acc (.F (hidD h)) (.F (.lst (h.map λs=>eH (jW ru s)))) (.F (.int k)) eU)=some (.nx (eA R C fl ru rows pl (fl.getD pl 0) ss (acc++if okN ru fl pl h s=true then [iQ ru (h++[s])]else []) (.F (hidD h)) (.F (.lst (h.map λs=>eH (jW ru s)))) (.F (.int k)) gG)):=by
 have hb:=BW hr h hh s hn;have hq:(K8 (aq fV aS Yo) (K8 (aq rD (aq aK ah (aq subI aS Yp)) bV) (aq Mg (aq aK dC (bC nB Yp)) (aq aK cE dB)))) (eA R C fl ru rows pl (fl.getD pl 0) ss acc (.F (hidD h)) (.F (.lst (h.map λs=>eH (jW ru s)))) (.F (.int k)) eU)=some (.bl (vW fl pl h s)):=by
  cases pl with
  | zero=>exact JH (p:=true) (q:=true) rfl (λh=>by cases h)
  | succ m=>
   have hx:fl[m]?=some (fl.getD m 0):=by rw[s_,l_ (by lia)];rfl
   have i1:aq aK ah (aq subI aS Yp) (eA R C fl ru rows (m+1) (fl.getD (m+1) 0) ss acc (.F (hidD h)) (.F (.lst (h.map λs=>eH (jW ru s)))) (.F (.int k)) eU)=some (.int ((fl.getD m 0:Nat):Int)):=by
    refine ie (i:=(m:Int)) rfl ?_ (cZ (by rw[o_,hx];rfl));show some (D.int (((m+1:Nat):Int)-1))=_;rw[show((m+1:Nat):Int)-1=(m:Int) by lia]
   obtain⟨h0,u,hu⟩:∃h0 u,h=h0++[u]:=by
    have hne:h≠[]:=λe=>by rw[e]at hl;cases hl
    exact⟨h.dropLast,h.getLast hne,(V5 hne).symm⟩
   have i2:aq aK dC (bC nB Yp) (eA R C fl ru rows (m+1) (fl.getD (m+1) 0) ss acc (.F (hidD h)) (.F (.lst (h.map λs=>eH (jW ru s)))) (.F (.int k)) eU)=some u.d:=by
    refine ie (ds:=h.map Sh.d) (i:=-1) rfl rfl ?_;rw[hu,H_];exact L2.vj _ _
   have i3:aq aK cE dB (eA R C fl ru rows (m+1) (fl.getD (m+1) 0) ss acc (.F (hidD h)) (.F (.lst (h.map λs=>eH (jW ru s)))) (.F (.int k)) eU)=some s.d:=gR (i:=(k:Int)) rfl rfl (cZ (by rw[o_,hk];rfl));have:=JH (p:=((m+1:Nat):Int)==0) (f:=aq fV aS Yo) (env:=eA R C fl ru rows (m+1) (fl.getD (m+1) 0) ss acc (.F (hidD h)) (.F (.lst (h.map λs=>eH (jW ru s)))) (.F (.int k)) eU) rfl λ_=>JH (p:=!(((fl.getD m 0:Nat):Int)==((fl.getD (m+1) 0:Nat):Int))) ((aX (g:=λenv=>cy env 5) i1 rfl).trans (QI _ _)) λ_=>(aX i2 i3).trans (Nr u s);rw[this];congr 2;unfold vW;rw[hu,List.getLast?_append];have e1:(((m+1:Nat):Int)==0)=decide (m+1=0):=by rw[Uh];simp;lia
   have e2:(((fl.getD m 0:Nat):Int)==((fl.getD (m+1) 0:Nat):Int))=decide (fl.getD (m+1-1) 0=fl.getD (m+1) 0):=by rw[Uh,Xh,w_,Nat.add_sub_cancel];lia
   rw[e1,e2];rfl
 unfold fg;have i6:∀gG:Slot,aq aK cE dB (eA R C fl ru rows pl (fl.getD pl 0) ss acc (.F (hidD h)) (.F (.lst (h.map λs=>eH (jW ru s)))) (.F (.int k)) gG)=some s.d:=λ_=>gR (i:=(k:Int)) rfl rfl (cZ (by rw[o_,hk];rfl));have i7:∀gG:Slot,aq aK cB dB (eA R C fl ru rows pl (fl.getD pl 0) ss acc (.F (hidD h)) (.F (.lst (h.map λs=>eH (jW ru s)))) (.F (.int k)) gG)=some (eH (jW ru s)):=λ_=>gR (i:=(k:Int)) rfl rfl (cZ (by rw[o_,hk];rfl));have i8:∀gG:Slot,aq aK dg dB (eA R C fl ru rows pl (fl.getD pl 0) ss acc (.F (hidD h)) (.F (.lst (h.map λs=>eH (jW ru s)))) (.F (.int k)) gG)=some (.lst (s.cs.map cel)):=λ_=>gR (i:=(k:Int)) rfl rfl (cZ (by rw[o_,hk];rfl));have ht:tP (fB kG) (fB (λenv=>((ab kB (ab (aq aK dg dB) fNil)) env).bind m__law_free)) (eA R C fl ru rows pl (fl.getD pl 0) ss acc (.F (hidD h)) (.F (.lst (h.map λs=>eH (jW ru s)))) (.F (.int k)) (.F (.bl (vW fl pl h s))))=some (okN ru fl pl h s):=yA (cG rfl) λ_=>cG ((call_v (af rfl (af (i8 _) aA))).trans hb);refine⟨.F (.bl (vW fl pl h s)),(ak (aV hq)).trans ?_⟩;cases hqb:okN ru fl pl h s with
 | true=>
  rw[hqb]at ht;rw[j_ rfl];refine(c7 ht).trans ?_;refine mZ (d:=iQ ru (h++[s])) rfl (iI (af ?_ (af ?_ aA))) (by lia)
  .have:=Ef (f:=λenv=>cy env 10) (g:=bq (ab (aq aK cE dB) fNil)) (env:=eA R C fl ru rows pl (fl.getD pl 0) ss acc (.F (hidD h)) (.F (.lst (h.map λs=>eH (jW ru s)))) (.F (.int k)) (.F (.bl (vW fl pl h s)))) (xs:=h.map Sh.d) (ys:=[s.d]) rfl (iI (af (i6 _) aA)) (by rw[c_,hl];simp;lia);exact this.trans (by unfold hidD;rw[H_];rfl)
  .have:=yZ (f:=λenv=>cy env 11) (g:=b8 (ab (aq aK cB dB) fNil)) (env:=eA R C fl ru rows pl (fl.getD pl 0) ss acc (.F (hidD h)) (.F (.lst (h.map λs=>eH (jW ru s)))) (.F (.int k)) (.F (.bl (vW fl pl h s)))) (xs:=h.map λs=>eH (jW ru s)) (ys:=[eH (jW ru s)]) rfl (DP (af (i7 _) aA)) (by rw[c_,hl];simp;lia);exact this.trans (by rw[H_];rfl)
 | false=>
  rw[hqb]at ht;rw[h_ (by simp),Uz];exact(br ht).trans rfl
theorem jD(f:α->D)(I:Yl->En->Prop)(g:α->Yl)(B M:Nat):∀(xs:List α)(acc:Yl)(env:En),I acc env->acc.length+B*xs.length<=M->(∀x∈xs,(g x).length<=B/\∀acc e,I acc e->acc.length+B<=M->∃e1,(t (f x) e).bind body=some (.nx e1)/\I (acc++g x) e1)->∃e2,cK t body (xs.map f) env=some (.nx e2)/\I (acc++xs.flatMap g) e2
 | [],acc,env,h,_,_=>⟨env,rfl,by rw[List.flatMap_nil,Uz];exact h⟩
 | x::xs,acc,env,h,hl,hb=>by
  obtain⟨h1,h2⟩:=hb x g_;rw[z_,XG]at hl;obtain⟨e1,h3,h4⟩:=h2 acc env h (by lia);obtain⟨e0,h5,h6⟩:=a_.mp h3;have hh:cK t body ((x::xs).map f) env=cK t body (xs.map f) e1:=by
   show(t (f x) env).bind (λe1=>(body e1).bind _)=_;rw[h5];show(body e0).bind _=_;rw[h6]
   rfl
  obtain⟨e2,h7,h8⟩:=jD f I g B M xs (acc++g x) e1 h4 (by rw[x_];lia) λy hy=>hb y (f_ _ hy);refine⟨e2,hh.trans h7,?_⟩;rw[UD,<- U8];exact h8
theorem D8(n:Nat):aM 0 n=(List.range n).map λ(i:Nat)=>D.int i:=by
 have:=sf (g:=id) n;rw[List.map_id]at this;exact this
theorem Ba(l:List α)(G:Option α->List β):(List.range l.length).flatMap (λi=>G l[i]?)=l.flatMap λa=>G (some a):=by
 have:(List.range l.length).map (λi=>l[i]?)=l.map some:=by
  apply Wc;intro i;rw[o_,o_]
  by_cases h:i<l.length
  .rw[Vp h,l_ h];simp
  .rw[T9 (by simpa using h),T9 (by simpa using h)];rfl
 have h2:=UW (λx=>x.flatMap G) this;simp only[WU]at h2;exact h2
theorem AF(p:α->Bool)(G:α->β):∀(l:List α),(l.flatMap λa=>if p a=true then [G a]else [])=(l.filter p).map G
 | []=>rfl
 | a::l=>by
  rw[UD,Ua,AF p G l]
  split<;>rfl
theorem all2(R C:Nat)(fl:X3)(ru:Str)(hr:cO ru)(rows:D)(pl:Nat)(j8:pl<fl.length)(ss:List Sh)(acc:Yl)(ha:acc.length<900000)(h:List Sh)(hl:h.length=pl)(hh:∀t∈h,1<=t.n/\t.n<=1000)(Tr:pl<=3)(fY eU:Slot)(RB:ss.length<=40)(hn:∀s∈ss,1<=s.n) :
  ∃jT gG:Slot,e9 (eA R C fl ru rows pl (fl.getD pl 0) ss acc (.F (hidD h)) (.F (.lst (h.map λs=>eH (jW ru s)))) fY eU)=some (.nx (eA R C fl ru rows pl (fl.getD pl 0) ss (acc++((ss.filter (okN ru fl pl h)).map λs=>h++[s]).map (iQ ru)) (.F (hidD h)) (.F (.lst (h.map λs=>eH (jW ru s)))) jT gG)):=by
 obtain⟨e2,h1,jT,gG,rfl⟩:=jD (t:=bw 12) (body:=fg) (λ(i:Nat)=>D.int i) (λacc e=>∃fY eU,e=eA R C fl ru rows pl (fl.getD pl 0) ss acc (.F (hidD h)) (.F (.lst (h.map λs=>eH (jW ru s)))) fY eU) (λi=>match ss[i]? with | some s=>if okN ru fl pl h s=true then [iQ ru (h++[s])]else [] | none=>[]) 1 950000 (List.range ss.length) acc _ ⟨fY,eU,rfl⟩ (by rw[Vm];lia) λi hi=>by
  have hi':=UA.mp hi;have hk:ss[i]?=some ss[i]:=l_ hi';rw[hk];refine⟨by dsimp only;split<;>simp,λeg e ⟨jT,gG,he⟩ Jj=>?_⟩;subst he;obtain⟨s13'',u⟩:=all1 R C fl ru hr rows pl j8 ss eg (by lia) h hl hh Tr gG i ss[i] hk (hn _ (Ut hi'));exact⟨_,fQ (e0:=eA R C fl ru rows pl (fl.getD pl 0) ss eg (.F (hidD h)) (.F (.lst (h.map λs=>eH (jW ru s)))) (.F (.int i)) gG) rfl u,_,_,rfl⟩
 rw[Ba ss (λo=>match o with | some s=>if okN ru fl pl h s=true then [iQ ru (h++[s])]else [] | none=>[])]at h1;dsimp only at h1;rw[AF (okN ru fl pl h) (λs=>iQ ru (h++[s])),<- D8]at h1;refine⟨jT,gG,?_⟩;unfold e9;rw[bY (eO (n:=ss.length) ((jV rfl).trans (by rw[c_])) (by lia)),h1,K_];rfl
theorem cI(f g:α->D):∀(xs:List α),(∀x∈xs,∃e1,t (f x) env=some e1/\k e1=some [g x])->fW t Yt k env (xs.map f)=some (xs.map g)
 | [],_=>rfl
 | x::xs,h=>by
  obtain⟨e1,h1,h3⟩:=h x g_;have i1:=cI f g xs λy hy=>h y (f_ _ hy);show fW _ _ _ _ (f x::xs.map f)=_;unfold fW;rw[h1];show(if true=true then k e1 else some []).bind _=_;rw[j_ rfl,h3];show(fW t Yt k env (xs.map f)).bind _=_;rw[i1];rfl
theorem kT(R C:Nat)(hR:R<=4)(hC:C<=5)(l:Nat):(bR R C l).length<=40:=by
 have h1:=q9 R C l;have h2:=U1 (U1 (m_ 2) hC) hR
 lia
theorem jA(h:s∈bR R C l):s.n=l:=(mq.mp h).2.1
theorem i9(R C:Nat)(hR:R<=4)(hC:C<=5)(ru:Str)(hru:cO ru)(fl:X3)(w6:fl.length<=3)(pl:Nat)(j8:pl<fl.length)(hln:1<=fl.getD pl 0/\fl.getD pl 0<=10)(rows:List (List Sh))(hrows:∀h∈rows,h.length=pl/\∀t∈h,1<=t.n/\t.n<=1000)(hlen:rows.length<=1600)(s6 s7 s8 s9 cR iS fY eU:Slot) :
  ∃(t6 t7 t8 t9 FD Iq CF L4:Slot),iC [.F (.tup [.int R,.int C]),.F (jP fl),.F (.str ru),.F (.lst (rows.map (iQ ru))),.F (.int pl),.F (.int (fl.getD pl 0:Nat)),s6,s7,s8,s9,cR,iS,fY,eU]
   = some (.nx [.F (.tup [.int R,.int C]),.F (jP fl),.F (.str ru),.F (.lst ((iN R C ru fl pl rows).map (iQ ru))),.F (.int pl),.F (.int (fl.getD pl 0:Nat)),t6,t7,t8,t9,FD,Iq,CF,L4]):=by
 have a1:=Bs R C (by lia) (by lia) (fl.getD pl 0);have ls:=kT R C hR hC (fl.getD pl 0);have hn:∀s∈bR R C (fl.getD pl 0),1<=s.n/\s.n<=10:=λs hs=>by rw[jA hs];exact hln
 obtain⟨ss,RB⟩:∃ss,ss=bR R C (fl.getD pl 0):=⟨_,rfl⟩;rw[<- RB]at a1 ls hn;have b1:=cI (t:=bw 0) (k:=aC (λenv=>((ab ah (ab ag fNil)) env).bind m__law_halo)) (env:=[.un,.F (.str ru)]) Sh.d (λs=>eH (jW ru s)) ss λs hs=>⟨[.F s.d,.F (.str ru)],rfl,gA ((call_v (af rfl (af rfl aA))).trans (xX s (by have:=hn s hs;lia) ru hru).1)⟩;have c1:=cI (t:=bw 0) (k:=aC (λenv=>((ab ag fNil) env).bind m__law_cells)) (env:=[.un]) Sh.d (λs=>.lst (s.cs.map cel)) ss λs hs=>⟨[.F s.d],rfl,gA ((call_v (af rfl aA)).trans (pK s (by have:=hn s hs;lia)))⟩;obtain⟨e2,h1,qe,uJ,jT,gG,rfl⟩:=jD (t:=lU [10,11]) (body:=e9) (iQ ru) (λacc e=>∃(qe uJ jT gG:Slot),e=eA R C fl ru (.lst (rows.map (iQ ru))) pl (fl.getD pl 0) ss acc qe uJ jT gG) (λh=>((ss.filter (okN ru fl pl h)).map λs=>h++[s]).map (iQ ru)) 40 800000 rows [] _ ⟨cR,iS,fY,eU,rfl⟩ (by rw[Ui];lia) λh hh=>by
  refine⟨by rw[c_,c_];exact G_ (O_ _ _) ls,λacc e ⟨qe,uJ,jT,gG,he⟩ Jj=>?_⟩;subst he;obtain⟨q1,q2⟩:=hrows h hh;obtain⟨s12'',s13'',u⟩:=all2 R C fl ru hru (.lst (rows.map (iQ ru))) pl j8 ss acc (by lia) h q1 q2 (by lia) jT gG ls (λs hs=>(hn s hs).1);exact⟨_,fQ (e0:=eA R C fl ru (.lst (rows.map (iQ ru))) pl (fl.getD pl 0) ss acc (.F (hidD h)) (.F (.lst (h.map λs=>eH (jW ru s)))) jT gG) rfl u,_,_,_,_,rfl⟩
 have hst:rows.flatMap (λh=>((ss.filter (okN ru fl pl h)).map λs=>h++[s]).map (iQ ru))=(iN R C ru fl pl rows).map (iQ ru):=by
  unfold iN;rw[VU,RB]
 rw[hst,Ud]at h1;have l1:(ss.map λs=>eH (jW ru s)).length<=16000000:=by rw[c_];lia
 have l2:(ss.map λs=>D.lst (s.cs.map cel)).length<=16000000:=by rw[c_];lia
 exact⟨.F (.lst (ss.map Sh.d)),.F (.lst (ss.map λs=>eH (jW ru s))),.F (.lst (ss.map λs=>.lst (s.cs.map cel))),.F (.lst ((iN R C ru fl pl rows).map (iQ ru))),qe,uJ,jT,gG,(ak (aV ((call_v (af rfl (af rfl aA))).trans a1))).trans ((ak (aV (bf (bp rfl) rfl b1 l1))).trans ((ak (aV (bf (bp rfl) rfl c1 l2))).trans ((ak (kI rfl)).trans ((ak ((bY (bp rfl)).trans h1)).trans ((ak rfl).trans (aV rfl))))))⟩
theorem HV(h:f env=some (.tup ds)):I8 f env=some (kP 0 ds):=by unfold I8;rw[h];rfl
theorem By(R C:Nat)(hR:R<=4)(hC:C<=5)(ru:Str)(fl:X3)(j:Nat)(rows:List (List Sh)):(iN R C ru fl j rows).length<=40*rows.length:=
 fm rows λh _=>by rw[c_];exact G_ (O_ _ _) (kT R C hR hC _)
theorem kQ(R C:Nat)(hR:R<=4)(hC:C<=5)(ru:Str)(fl:X3):∀j,(bX R C ru fl j).length<=40 ^ j
 | 0=>by simp[bX]
 | j+1=>by
  have h1:=By R C hR hC ru fl j (bX R C ru fl j);have h2:=kQ R C hR hC ru fl j;rw[VX];show(iN R C ru fl j (bX R C ru fl j)).length<=_
  lia
theorem rA:x∈iN R C ru fl j rows↔∃h∈rows,∃s∈bR R C (fl.getD j 0),okN ru fl j h s=true/\x=h++[s]:=by
 unfold iN;simp only[UJ,u_,T8];constructor
 .rintro⟨h,hh,s,⟨h1,h2⟩,rfl⟩;exact⟨h,hh,s,h1,h2,rfl⟩
 .rintro⟨h,hh,s,h1,h2,rfl⟩;exact⟨h,hh,s,⟨h1,h2⟩,rfl⟩
theorem zq(R C:Nat)(ru:Str)(fl:X3)(hf:∀n∈fl,1<=n/\n<=10):∀j,j<=fl.length->∀h∈bX R C ru fl j,h.length=j/\∀t∈h,1<=t.n/\t.n<=1000
 | 0,_,h,hh=>by cases y_.mp hh;exact⟨rfl,λt ht=>by cases ht⟩
 | j+1,hj,x,hx=>by
  obtain⟨h,hh,s,h1,h2,rfl⟩:=rA.mp hx;obtain⟨i1,i2⟩:=zq R C ru fl hf j (by lia) h hh;refine⟨by simp[i1],λt ht=>?_⟩;rcases Ub.mp ht with ht | ht
  .exact i2 t ht
  .cases y_.mp ht;rw[jA h1];have:=hf (fl.getD j 0) (by rw[s_,l_ (by lia)];exact Ut _)
   lia
theorem ED(h:n<=3):40 ^ n<=64000:=G_ (Nat.pow_le_pow_right (by decide) h) (by decide)
theorem JA(R C:Nat)(hR:R<=4)(hC:C<=5)(ru:Str)(hru:cO ru)(fl:X3)(w6:fl.length<=3)(hf:∀n∈fl,1<=n/\n<=10) :
  m__law_all [.tup [.int R,.int C],jP fl,.str ru]=some (.lst ((bX R C ru fl fl.length).map hidD)):=by
 obtain⟨e2,h1,s4,s5,s6,s7,s8,s9,cR,iS,fY,eU,rfl⟩:=fq (t:=lU [4,5]) (body:=iC) (λj e=>∃(s4 s5 s6 s7 s8 s9 cR iS fY eU:Slot),e=[.F (.tup [.int R,.int C]),.F (jP fl),.F (.str ru),.F (.lst ((bX R C ru fl j).map (iQ ru))),s4,s5,s6,s7,s8,s9,cR,iS,fY,eU]) (kP 0 (fl.map λ(n:Nat)=>.int n)) 0 _ ⟨.un,.un,.un,.un,.un,.un,.un,.un,.un,.un,rfl⟩ λi d e hd aG=>by
  obtain⟨s4,s5,s6,s7,s8,s9,cR,iS,fY,eU,he⟩:=aG;subst he;have hi:=(k_.mp hd).1;rw[gU,c_]at hi;have hg:fl[i]?=some (fl.getD i 0):=by rw[s_,l_ hi];rfl
  have hx:(fl.map λ(n:Nat)=>D.int n)[i]?=some (.int ((fl.getD i 0:Nat):Int)):=by rw[o_,hg];rfl
  rw[lK hx]at hd;cases hd;simp only[Uc];have hp2:40 ^ i<=40 ^ 2:=Nat.pow_le_pow_right (by decide) (by lia);obtain⟨t6,t7,t8,t9,FD,Iq,CF,L4,u1⟩:=i9 R C hR hC ru hru fl w6 i hi (hf _ (I_ hg)) (bX R C ru fl i) (zq R C ru fl hf i (by lia)) (by have:=kQ R C hR hC ru fl i;lia) s6 s7 s8 s9 cR iS fY eU;exact⟨_,fQ rfl u1,_,_,_,_,_,_,_,_,_,_,rfl⟩
 rw[Uc,gU,c_]at h1;have h40:=ED w6;have hlen:=kQ R C hR hC ru fl fl.length;refine aY ((ak (aV rfl)).trans ((ak ((bY (HV rfl)).trans h1)).trans (bG (bf (bp rfl) rfl ?_ (by rw[c_];lia)))));exact cI (iQ ru) hidD _ λh hh=>⟨_,rfl,rfl⟩
def uN(ru:Str)(s t:Sh):Prop:=(t.n=s.n->Bef s t)/\mU ru s t=true
instance (ru:Str)(s t:Sh):Decidable (uN ru s t):=by unfold uN;infer_instance
theorem A8(h:Bef s t)(h2:Bef t u):Bef s u:=by
 rcases h with h | ⟨e,h⟩
 .rcases h2 with h2 | ⟨e2,_⟩
  .exact .inl (Int.lt_trans h h2)
  .exact .inl (e2▸h)
 .rcases h2 with h2 | ⟨e2,h2⟩
  .exact .inl (e▸h2)
  .refine .inr ⟨e.trans e2,?_⟩;rcases h with h | ⟨f,h⟩
   .rcases h2 with h2 | ⟨f2,_⟩
    .exact .inl (Int.lt_trans h h2)
    .exact .inl (f2▸h)
   .rcases h2 with h2 | ⟨f2,h2⟩
    .exact .inl (f▸h2)
    .refine .inr ⟨f.trans f2,?_⟩;rcases h with ⟨p,q⟩ | ⟨p,q⟩
     .rcases h2 with ⟨p2,_⟩ | ⟨p2,_⟩
      .rw[q]at p2;cases p2
      .exact .inl ⟨p,p2▸q⟩
     .rcases h2 with ⟨p2,q2⟩ | ⟨p2,q2⟩
      .exact .inl ⟨p.trans p2,q2⟩
      .exact .inr ⟨p.trans p2,W8 q q2⟩
theorem r8{fl:X3}{j:Nat}(h:j<fl.length):fl.take (j+1)=fl.take j++[fl.getD j 0]:=by
 rw[UZ,s_,l_ h];rfl
theorem Ak{ru:Str}{fl:X3}(hs:fl.Pairwise (·>=·)){j:Nat}(hj:j<fl.length){h:List Sh}(hm:h.map Sh.n=fl.take j)(hp:h.Pairwise (uN ru)){s:Sh}(Ts:s.n=fl.getD j 0):okN ru fl j h s=true↔∀t∈h,uN ru t s:=by
 have hlen:h.length=j:=by have:=UW List.length hm;rw[c_,Vw]at this;lia
 have Io:∀t∈h,s.n<=t.n:=λt ht=>by
  have h1:t.n∈fl.take j:=hm▸Uq ht;have Cv:(fl.take j++fl.drop j).Pairwise (·>=·):=by rw[Vc];exact hs
  rw[Ts];refine(Us.mp Cv).2.2 _ h1 _ ?_;rw[s_,l_ hj,Uy hj];exact g_
 unfold okN vW;rw[C_,D_]
 by_cases hz:j=0
 .have:h=[]:=List.eq_nil_of_length_eq_zero (by lia);subst this;simp[hz]
 obtain⟨h0,u,rfl⟩:∃h0 u,h=h0++[u]:=by
  have hne:h≠[]:=λe=>by rw[e]at hlen;exact hz hlen.symm
  exact⟨h.dropLast,h.getLast hne,(V5 hne).symm⟩
 have hu:u.n=fl.getD (j-1) 0/\h0.map Sh.n=fl.take (j-1):=by
  have e:fl.take j=fl.take (j-1)++[fl.getD (j-1) 0]:=by
   have:=r8 (fl:=fl) (j:=j-1) (by lia);rwa [show j-1+1=j by lia]at this
  rw[e,H_]at hm;have:=Wi hm rfl;exact⟨by simpa using this.2,this.1⟩
 have Tt:∀t∈h0,u.n<=t.n:=λt ht=>by
  have Cv:(fl.take j).Pairwise (·>=·):=hs.sublist (Wb _ _);rw[<- hm,H_]at Cv;exact(Us.mp Cv).2.2 _ (Uq ht) _ (by simp)
 rw[List.getLast?_append];simp only[List.getLast?_singleton,Option.some_or,hz,decide_false,Bool.false_or,XH,Xy,VV,w_];rw[<- hu.1,<- Ts];constructor
 .rintro⟨h1,h2⟩ t ht;refine⟨λe=>?_,h2 t ht⟩;rcases h1 with h1 | h1
  .have b1:=Io u (by simp);rcases Ub.mp ht with ht | ht
   .have:=Tt t ht;lia
   .cases y_.mp ht;lia
  .rcases Ub.mp ht with ht | ht
   .have b1:=Io u (by simp);have b2:=Tt t ht;exact A8 (((Us.mp hp).2.2 t ht u (by simp)).1 (by lia)) h1
   .cases y_.mp ht;exact h1
 .intro hf;refine⟨?_,λt ht=>(hf t ht).2⟩
  by_cases e:u.n=s.n
  .exact .inr ((hf u (by simp)).1 e.symm)
  .exact .inl e
theorem lb(R C:Nat)(ru:Str){fl:X3}(hs:fl.Pairwise (·>=·)):∀(j:Nat),j<=fl.length->∀h,h∈bX R C ru fl j↔h.map Sh.n=fl.take j/\(∀s∈h,s∈bR R C s.n)/\h.Pairwise (uN ru)
 | 0,_,h=>by
  show h∈[[]]↔_;rw[y_,List.take_zero,List.map_eq_nil_iff];constructor
  .rintro rfl;exact⟨rfl,λs h=>(by cases h),.nil⟩
  .exact λh=>h.1
 | j+1,hj,x=>by
  have ih:=lb R C ru hs j (by lia);show x∈iN R C ru fl j (bX R C ru fl j)↔_;rw[rA,r8 (by lia)];constructor
  .rintro⟨h,hh,s,h1,h2,rfl⟩;obtain⟨g1,g2,g3⟩:=(ih h).mp hh;have hn:=jA h1;refine⟨by rw[H_,g1,<- hn];rfl,λt ht=>?_,Us.mpr ⟨g3,U7 _ _,λt ht u hu=>?_⟩⟩
   .rcases Ub.mp ht with ht | ht
    .exact g2 t ht
    .cases y_.mp ht;rw[hn];exact h1
   .cases y_.mp hu;exact(Ak hs (by lia) g1 g3 hn).mp h2 t ht
  .rintro⟨g1,g2,g3⟩;obtain⟨h,s,rfl⟩:∃h s,x=h++[s]:=by
    have hne:x≠[]:=λe=>by rw[e]at g1;simp at g1
    exact⟨x.dropLast,x.getLast hne,(V5 hne).symm⟩
   rw[H_]at g1;obtain⟨q1,q2⟩:=Wi g1 rfl;have hn:s.n=fl.getD j 0:=by simpa using q2
   obtain⟨p1,p2,p3⟩:=Us.mp g3;refine⟨h,(ih h).mpr ⟨q1,λt ht=>g2 t (by simp[ht]),p1⟩,s,hn▸g2 s (by simp),(Ak hs (by lia) q1 p1 hn).mpr λt ht=>p3 t ht s (by simp),rfl⟩
theorem oR(R C:Nat)(ru:Str)(fl:X3):∀j,(bX R C ru fl j).Nodup
 | 0=>by unfold bX;simp
 | j+1=>by
  have ih:=oR R C ru fl j;show(iN R C ru fl j (bX R C ru fl j)).Nodup;unfold iN List.Nodup;refine V_.mpr ⟨λh _=>UK.mpr (((CK R C (fl.getD j 0)).filter _).imp λ{s t} hb e=>?_),ih.imp λ{a b} Jg x hx y hy e=>?_⟩
  .have:=List.append_inj_right e rfl;cases this;exact jI hb hb
  .obtain⟨s,_,rfl⟩:=u_.mp hx;obtain⟨t,_,rfl⟩:=u_.mp hy;exact Jg (Wi e rfl).1
structure PL(R C:Nat)(fl:List Nat)(ru:Str):Prop where
 r0:0<R
 r4:R<=4
 c0:0<C
 c5:C<=5
 l0:0<fl.length
 l3:fl.length<=3
 sz:∀n∈fl,1<=n/\n<=4
 up:fl.Pairwise (·>=·)
 ru:cO ru
theorem Nn{r:X4}(h:r.length=7):∃a b c d e f g,r=[a,b,c,d,e,f,g]:=by
 match r,h with
 | [a,b,c,d,e,f,g],_=>exact⟨a,b,c,d,e,f,g,rfl⟩
theorem Ag:∀(ns:X4),(∀x∈ns,1<=x/\x<=4)->ns.Pairwise (·>=·)->∃fl:X3,ns.map D.int=fl.map (λ(n:Nat)=>D.int n)/\fl.length=ns.length/\(∀n∈fl,1<=n/\n<=4)/\(∀n∈fl,(n:Int)∈ns)/\fl.Pairwise (·>=·)
 | [],_,_=>⟨[],rfl,rfl,λ_ h=>(by cases h),λ_ h=>(by cases h),.nil⟩
 | x::ns,h,hp=>by
  obtain⟨p1,p2⟩:=Ue.mp hp;obtain⟨fl,h1,h2,h3,h6,h7⟩:=Ag ns (λy hy=>h y (f_ _ hy)) p2;obtain⟨h4,h5⟩:=h x g_;obtain⟨n,rfl⟩:=Up (show 0<=x by lia);refine⟨n::fl,by simp[h1],by simp[h2],λm hm=>?_,λm hm=>?_,Ue.mpr ⟨λm hm=>?_,h7⟩⟩
  .rcases p_.mp hm with rfl | hm
   .lia
   .exact h3 m hm
  .rcases p_.mp hm with rfl | hm
   .exact g_
   .exact f_ _ (h6 m hm)
  .have:=p1 _ (h6 m hm);lia
theorem DH{env:En}(ns:X4)(hg:cy env 9=some (.tup (ns.map .int)))(h:∀x∈ns,1<=x/\x<=4)(hl:ns.length<=3):∃fl:X3,bC mF (bC DU (bC sortI bK)) env=some (jP fl)/\fl.length=ns.length/\(∀n∈fl,1<=n/\n<=4)/\fl.Pairwise (·>=·):=by
 obtain⟨fl,h1,h2,h3,_,h5⟩:=Ag (mI ns).reverse (λx hx=>h x ((jx ns).mem_iff.mp (List.mem_reverse.mp hx))) (List.pairwise_reverse.mpr (tX ns));refine⟨fl,?_,by rw[h2,List.length_reverse,wN],h3,h5⟩;have e1:bC sortI bK env=some (.lst ((mI ns).map .int)):=by
  rw[kS hg];show(hU (ns.map .int)).bind _=_;rw[jG];show(if ns.length<64 then _ else _)=_;rw[j_ (by lia)]
 have e2:bC DU (bC sortI bK) env=some (.lst ((mI ns).map .int).reverse):=by rw[kS e1];rfl
 rw[Ea e2,<- List.map_reverse,h1];rfl
theorem Qg{x:Int}(h:0<=x/\x<4):x=0\/x=1\/x=2\/x=3:=by lia
theorem Qn{x:Int}(h:0<=x/\x<3):x=0\/x=1\/x=2:=by lia
theorem HQ(c:Int):∃(R C:Nat)(fl:X3)(ru:Str),m__law_game [.int c]=some (.tup [.tup [.int R,.int C],jP fl,.str ru])/\PL R C fl ru:=by
 obtain⟨r,h1,h2,h3⟩:=DJ c [4,4,4,4,4,4,3] (by decide) (by decide);obtain⟨w,ro,co,f,s,t,ru,rfl⟩:=Nn h2;have hw:=h3 0 w 4 rfl rfl;have hro:=h3 1 ro 4 rfl rfl;have hco:=h3 2 co 4 rfl rfl;have hf:=h3 3 f 4 rfl rfl;have hs:=h3 4 s 4 rfl rfl;have ht:=h3 5 t 4 rfl rfl;have hru:=h3 6 ru 3 rfl rfl;clear h2 h3;have rule:∃u:Str,cO u/\L2.atI [D.str LU,.str LS,.str O0] ru=some (.str u):=by
  rcases Qn hru with rfl | rfl | rfl
  .exact⟨_,.inl rfl,rfl⟩
  .exact⟨_,.inr (.inl rfl),rfl⟩
  .exact⟨_,.inr (.inr rfl),rfl⟩
 obtain⟨u,Q3,RC⟩:=rule;have fin:∀(R C:Int)(ns:X4),0<R->R<=4->0<C->C<=5->(∀x∈ns,1<=x/\x<=4)->0<ns.length->ns.length<=3->∃(R' C':Nat)(fl:X3),
   az (setF 9 (bC mF (bC DU (bC sortI bK)))) (bt (bq (ab dg (ab bK (ab (aq aK (b8 (ab (fC (.str "free")) (ab (fC (.str "sides")) (ab (fC (.str "corners")) fNil)))) cB) fNil))))) [.F (.int c),.F (.int w),.F (.int ro),.F (.int co),.F (.int f),.F (.int s),.F (.int t),.F (.int ru),.F (.tup [.int R,.int C]),.F (.tup (ns.map .int))]
    = some (.rt (.tup [.tup [.int R',.int C'],jP fl,.str u]))/\PL R' C' fl u:=λR C ns g1 g2 g3 g4 g5 g6 g7=>by
  obtain⟨R',rfl⟩:=Up (Xa g1);obtain⟨C',rfl⟩:=Up (Xa g3);obtain⟨fl,k1,k2,k3,k4⟩:=DH (env:=[.F (.int c),.F (.int w),.F (.int ro),.F (.int co),.F (.int f),.F (.int s),.F (.int t),.F (.int ru),.F (.tup [.int R',.int C']),.F (.tup (ns.map .int))]) ns rfl g5 g7;exact⟨R',C',fl,(ak (aV k1)).trans (bG (iI (af rfl (af rfl (af (gR (i:=ru) rfl rfl RC) aA))))),by lia,by lia,by lia,by lia,by lia,by lia,k3,k4,Q3⟩
 have start:ME [1,2,3,4,5,6,7] (λenv=>((ab ag (ab (b8 (ab Ys (ab Ys (ab Ys (ab Ys (ab Ys (ab Ys (ab Yr fNil)))))))) fNil)) env).bind m__law_drawn) (cQ 10 [.int c])=some (.nx [.F (.int c),.F (.int w),.F (.int ro),.F (.int co),.F (.int f),.F (.int s),.F (.int t),.F (.int ru),.un,.un]):=Mu ((call_v (af rfl (af rfl aA))).trans h1) rfl;rcases Qg hw with rfl | rfl | rfl | rfl
 .obtain⟨R',C',fl,k1,k2⟩:=fin (1+ro) (1+co) [1+f] (by lia) (by lia) (by lia) (by lia) (by intro x hx;cases y_.mp hx;lia) (by simp) (by simp);exact⟨R',C',fl,u,aY ((ak start).trans ((ak (aV rfl)).trans ((ak ((br rfl).trans rfl)).trans ((ak (aV rfl)).trans ((ak ((br rfl).trans rfl)).trans k1))))),k2⟩
 .obtain⟨R',C',fl,k1,k2⟩:=fin (2+ro%3) (2+co%3) [1+f%3,1+s%3] (by lia) (by lia) (by lia) (by lia) (by intro x hx;simp only[p_,Ul,Vq]at hx;lia) (by simp) (by simp);exact⟨R',C',fl,u,aY ((ak start).trans ((ak (aV rfl)).trans ((ak ((br rfl).trans rfl)).trans ((ak (aV rfl)).trans ((ak ((br rfl).trans rfl)).trans k1))))),k2⟩
 .obtain⟨R',C',fl,k1,k2⟩:=fin (1+ro%3) (3+co%2) [1+f%3,1+s%2,1+t%2] (by lia) (by lia) (by lia) (by lia) (by intro x hx;simp only[p_,Ul,Vq]at hx;lia) (by simp) (by simp);exact⟨R',C',fl,u,aY ((ak start).trans ((ak (aV rfl)).trans ((ak ((br rfl).trans rfl)).trans ((ak (aV rfl)).trans ((ak ((br rfl).trans rfl)).trans k1))))),k2⟩
 .obtain⟨R',C',fl,k1,k2⟩:=fin 2 (2+co) [1+f%3,1+s%3,1+t%2] (by lia) (by lia) (by lia) (by lia) (by intro x hx;simp only[p_,Ul,Vq]at hx;lia) (by simp) (by simp);exact⟨R',C',fl,u,aY ((ak start).trans ((ak (aV rfl)).trans ((ak ((c7 rfl).trans (aV rfl))).trans ((ak (aV rfl)).trans ((ak ((c7 rfl).trans (aV rfl))).trans k1))))),k2⟩
theorem PL.ten{R C:Nat}{fl:X3}{ru:Str}(h:PL R C fl ru):∀n∈fl,1<=n/\n<=10:=λn hn=>by have:=h.sz n hn;lia
theorem PL.all{R C:Nat}{fl:X3}{ru:Str}(h:PL R C fl ru):m__law_all [.tup [.int R,.int C],jP fl,.str ru]=some (.lst ((bX R C ru fl fl.length).map hidD)):=JA R C h.r4 h.c5 ru h.ru fl h.l3 h.ten
theorem PL.len{R C:Nat}{fl:X3}{ru:Str}(h:PL R C fl ru):(bX R C ru fl fl.length).length<=64000:=G_ (kQ R C h.r4 h.c5 ru fl fl.length) (ED h.l3)
theorem PL.one{R C:Nat}{fl:X3}{ru:Str}(h:PL R C fl ru):PL R C [1] ru:=⟨h.r0,h.r4,h.c0,h.c5,by decide,by decide,by decide,by simp,h.ru⟩
theorem PL.ne{R C:Nat}{fl:X3}{ru:Str}(h:PL R C fl ru):bX R C ru [1] 1≠[]:=by
 have:[(⟨0,0,false,1⟩:Sh)]∈bX R C ru [1] 1:=(lb R C ru (by simp) 1 (by decide) _).mpr ⟨rfl,λs hs=>by
  cases y_.mp hs;exact mq.mpr ⟨⟨0,0,rfl,rfl,h.r0,h.c0⟩,rfl,λ_=>(by have:=h.c0;simp only;lia),λz=>by cases z⟩,U7 _ _⟩
 intro e;rw[e]at this;cases this
theorem yi(h:List Sh):pl (hidD h)=true:=by unfold hidD pl;exact Ek _ λx hx=>by obtain⟨s,_,rfl⟩:=u_.mp hx;rfl
theorem KI(s:Sh):eJ s.d<=1:=tZ (n:=0) λx hx=>by
 simp only[p_,Ul,Vq]at hx;rcases hx with rfl | rfl | rfl | rfl<;>simp[eJ]
theorem Gn(h:List Sh):eJ (hidD h)<=2:=tZ λx hx=>by obtain⟨s,_,rfl⟩:=u_.mp hx;exact KI s
theorem wU(hs:List (List Sh)):iy (hs.map hidD)=true:=Ek _ λx hx=>by obtain⟨s,_,rfl⟩:=u_.mp hx;exact yi s
theorem AU(c:Int):∃(R C:Nat)(fl:X3)(ru:Str),m__law_played [.int c]=some (.tup [.tup [.int R,.int C],jP fl,.str ru,.lst ((bX R C ru fl fl.length).map hidD)])/\PL R C fl ru/\bX R C ru fl fl.length≠[]:=by
 obtain⟨R,C,fl,ru,h1,hp⟩:=HQ c;have a1:=hp.all;have b1:=hp.one.all;obtain⟨rows,hr⟩:∃rows,rows=bX R C ru fl fl.length:=⟨_,rfl⟩;rw[<- hr]at a1;have heq:fB (aq fV aS (b8 fNil)) [.F (.int c),.F (.tup [.int R,.int C]),.F (jP fl),.F (.str ru),.F (.lst (rows.map hidD))]=some (rows.map hidD).isEmpty:=cG (F' rfl (wU rows));have start:zu [1,2,3] (λenv=>((ab ag fNil) env).bind m__law_game) (cQ 5 [.int c])=some (.nx [.F (.int c),.F (.tup [.int R,.int C]),.F (jP fl),.F (.str ru),.un]):=j0 ((call_v (af rfl aA)).trans h1) rfl;cases rows with
 | nil=>
  exact⟨R,C,[1],ru,aY ((ak start).trans ((ak (aV ((call_v (af rfl (af rfl (af rfl aA)))).trans a1))).trans ((ak ((c7 heq).trans ((ak (aV rfl)).trans (aV ((call_v (af rfl (af rfl (af rfl aA)))).trans b1))))).trans (bG rfl)))),hp.one,hp.ne⟩
 | cons r rows=>
  refine⟨R,C,fl,ru,?_,hp,by rw[<- hr];simp⟩;rw[<- hr];exact aY ((ak start).trans ((ak (aV ((call_v (af rfl (af rfl (af rfl aA)))).trans a1))).trans ((ak ((br heq).trans rfl)).trans (bG rfl))))
theorem vd:∀(xs ys:List L2.Key),qE xs ys=(dO ys xs).map (!·)
 | [],[]=>rfl
 | [],_::_=>rfl
 | _::_,[]=>rfl
 | x::xs,y::ys=>by
  unfold qE dO
  by_cases h:x=y
  .rw[j_ h,j_ h.symm];exact vd xs ys
  .rw[h_ h,h_ (UB h)];cases x<;>cases y<;>simp[Pe,Di];rw[Uh];simp
theorem NX(s t:Sh):MA t.d s.d=some (.bl (!decide (Bef s t))):=by
 obtain⟨q,h1,h2⟩:=sv s t;show(qE t.ks s.ks).bind _=_;rw[vd,h1,show decide (Bef s t)=q by cases q<;>simp_all];rfl
theorem Cq(ru:Str)(hr:cO ru)(s t:Sh):m_may_follow [.str ru,s.d,t.d]=some (.bl (decide (uN ru s t))):=by
 have t1:fB (aq fV (aq aK aD Yr) (aq aK ah Yr)) (cQ 3 [.str ru,s.d,t.d])=some ((t.n:Int)==s.n):=rfl;have t2:fB (aq MA aD ah) (cQ 3 [.str ru,s.d,t.d])=some (!decide (Bef s t)):=cG ((aX rfl rfl).trans (NX s t));have t3:=yA t1 λ_=>t2;have hk:=HI ru hr s t;refine aY ?_;cases hb:(((t.n:Int)==s.n)&&!decide (Bef s t))with
 | true=>
  rw[hb]at t3;have:decide (uN ru s t)=false:=by
   rw[C_]at hb;rw[VV];intro hf;have h1:t.n=s.n:=by have:=hb.1;rw[Xh]at this;lia
   simpa [hf.1 h1]using hb.2
  rw[this];exact iZ ((c7 t3).trans rfl)
 | false=>
  rw[hb]at t3;have:decide (uN ru s t)=mU ru s t:=by
   rw[Uh,w_];refine⟨λh=>h.2,λh=>⟨λe=>?_,h⟩⟩;rw[e]at hb;simpa using hb
  rw[this];exact(ak ((br t3).trans rfl)).trans (bG ((call_v rfl).trans hk))
def tw(cs:List (List Sh)):Yl:=cs.map λA=>.lst (A.map Sh.d)
def dU(ru:Str)(s:Sh)(cs:List (List Sh)):List (List Sh):=cs.map λA=>A.filter λt=>decide (uN ru s t)
def bQ(ru:Str):Nat->List (List Sh)->List (List Sh)
 | 0,_=>[]
 | _+1,[]=>[]
 | _+1,[A]=>A.map λs=>[s]
 | n+1,A::B::r=>A.flatMap λs=>(bQ ru n (dU ru s (B::r))).map λh=>s::h
theorem dG(ru:Str)(s:Sh)(cs:List (List Sh)):(dU ru s cs).length=cs.length:=by unfold dU;simp
theorem sr(h:∀A∈cs,A.length<=M):∀A∈dU ru s cs,A.length<=M:=λA hA=>by
 obtain⟨B,hB,rfl⟩:=u_.mp hA;exact G_ (O_ _ _) (h B hB)
theorem oh(ru:Str)(hM:1<=M):∀(n:Nat)(cs:List (List Sh)),(∀A∈cs,A.length<=M)->(bQ ru n cs).length<=M ^ cs.length
 | 0,cs,_=>UY _
 | n+1,[],_=>UY _
 | n+1,[A],h=>by
  have:=h A g_;unfold bQ;simp only[c_,z_,Ui,Uc,Nat.pow_one];exact this
 | n+1,A::B::r,h=>by
  have hA:=h A g_;have:=fm (g:=λs=>(bQ ru n (dU ru s (B::r))).map λh=>s::h) (B:=M ^ (B::r).length) A λs _=>by
   rw[c_];have:=oh ru hM n (dU ru s (B::r)) (sr λL hL=>h L (f_ _ hL));rwa [dG]at this
  unfold bQ;refine G_ this ?_;rw[z_ (a:=A),VX];exact Nat.mul_le_mul_left _ hA
theorem jg(ru:Str):∀(n:Nat)(cs:List (List Sh))(h:List Sh),h∈bQ ru n cs->h.length=cs.length
 | 0,cs,h,hh=>by cases hh
 | n+1,[],h,hh=>by cases hh
 | n+1,[A],h,hh=>by
  obtain⟨s,_,rfl⟩:=u_.mp hh
  rfl
 | n+1,A::B::r,h,hh=>by
  obtain⟨s,_,h2⟩:=UJ.mp hh;obtain⟨g,hg,rfl⟩:=u_.mp h2;have:=jg ru n _ g hg;rw[dG]at this;simp only[z_]at *
  lia
theorem Ql(ru:Str)(hr:cO ru)(s:Sh)(A:List Sh)(hA:A.length<=16000000):aP (cF ag) [0] (bw 0) (fB (λenv=>((ab ah (ab aD (ab ag fNil))) env).bind m_may_follow)) (aC ag) 1 [1,2] [.F (.lst (A.map Sh.d)),.F (.str ru),.F s.d]=some (.lst ((A.filter λt=>decide (uN ru s t)).map Sh.d)):=by
 have g1:=cj (t:=bw 0) (c:=fB (λenv=>((ab ah (ab aD (ab ag fNil))) env).bind m_may_follow)) (k:=aC ag) (env:=[.un,.F (.str ru),.F s.d]) Sh.d Sh.d (λt=>decide (uN ru s t)) A λt ht=>⟨[.F t.d,.F (.str ru),.F s.d],rfl,cG ((call_v (af rfl (af rfl (af rfl aA)))).trans (Cq ru hr s t)),λ_=>rfl⟩;exact bf (bp rfl) rfl g1 (by rw[c_];exact G_ (O_ _ _) hA)
theorem FT(ru:Str)(hr:cO ru)(s:Sh)(cs:List (List Sh))(hcs:∀A∈cs,A.length<=16000000)(hl:cs.length<=16000000)(s1 s2 s4 s6:Slot) :
  aP (cF av) [0] (bw 0) Yt (aC (aP (cF ag) [0] (bw 0) (fB (λenv=>((ab ah (ab aD (ab ag fNil))) env).bind m_may_follow)) (aC ag) 1 [1,2])) 1 [0,5] [.F (.str ru),s1,s2,.F (.lst (tw cs)),s4,.F s.d,s6]=some (.lst (tw (dU ru s cs))):=by
 have g1:=cI (t:=bw 0) (k:=aC (aP (cF ag) [0] (bw 0) (fB (λenv=>((ab ah (ab aD (ab ag fNil))) env).bind m_may_follow)) (aC ag) 1 [1,2])) (env:=[.un,.F (.str ru),.F s.d]) (λA:List Sh=>D.lst (A.map Sh.d)) (λA=>.lst ((A.filter λt=>decide (uN ru s t)).map Sh.d)) cs λA hA=>⟨[.F (.lst (A.map Sh.d)),.F (.str ru),.F s.d],rfl,gA (Ql ru hr s A (hcs A hA))⟩;have e:(tw (dU ru s cs))=cs.map λA=>D.lst ((A.filter λt=>decide (uN ru s t)).map Sh.d):=by unfold tw dU;rw[K_];rfl
 rw[e];exact bf (bp rfl) rfl g1 (by rw[c_];exact hl)
theorem Jb(h:env[i]?=some (.O (.L ds)))(hf:f env=some (.lst es))(hl:ds.length+es.length<=16000000):uw i f env=some (.nx (env.set i (.O (.L (ds++es))))):=by
 unfold uw;rw[h];show(f env).bind _=_;rw[hf];show(if ds.length+es.length<=16000000 then _ else _)=_;rw[j_ hl]
theorem wD(ru:Str)(hr:cO ru)(hM:1<=M):∀(n:Nat)(cs:List (List Sh)),n<=100->cs≠[]->cs.length<=n->(∀A∈cs,A.length<=M)->M ^ cs.length<=2000000->bc n [.str ru,.lst (tw cs)]=some (.lst ((bQ ru n cs).map hidD))
 | 0,cs,_,hne,hl,_,_=>by cases cs with | nil=>exact absurd rfl hne | cons a b=>simp at hl
 | n+1,[],_,hne,_,_,_=>absurd rfl hne
 | n+1,[A],_,_,_,hA,hb=>by
  have hA1:=hA A g_;simp only[z_,Ui,Uc,Nat.pow_one]at hb;have g1:=cI (t:=bw 0) (k:=aC (bq (ab ag fNil))) (env:=[.un]) Sh.d (λs=>hidD [s]) A λs hs=>⟨[.F s.d],rfl,rfl⟩;have e:(bQ ru (n+1) [A]).map hidD=A.map λs=>hidD [s]:=by show(A.map λs=>[s]).map hidD=_;rw[K_];rfl
  rw[e];show bx (cY (bc n)) 7 _=_;exact aY ((ak (e:=[.F (.str ru),.F (.lst (tw [A])),.F (.lst (A.map Sh.d)),.F (.lst []),.un,.un,.un]) rfl).trans (iZ ((c7 rfl).trans (bG (bf (bp rfl) rfl g1 (by rw[c_];lia))))))
 | n+1,A::B::r,hn,_,hl,hA,hb=>by
  have hA1:=hA A g_;have hpow:M ^ (A::B::r).length=M ^ (B::r).length*M:=by rw[z_ (a:=A),VX]
  have hb1:M ^ (B::r).length<=2000000:=G_ (G_ (Nat.le_mul_of_pos_right _ hM) (Nat.le_of_eq hpow.symm)) hb;have hM2:M<=2000000:=G_ (by rw[z_,VX];exact Nat.le_mul_of_pos_left _ (Nat.pow_pos hM)) hb1;have hl2:(B::r).length<=n:=by simpa using hl
  have hln:(B::r).length<=16000000:=by lia
  have loop:=jD (t:=bw 5) (body:=gk (bc n)) Sh.d (λacc e=>∃(s5 s6:Slot),e=[.F (.str ru),.F (.lst (tw (A::B::r))),.F (.lst (A.map Sh.d)),.F (.lst (tw (B::r))),.O (.L acc),s5,s6]) (λs=>((bQ ru n (dU ru s (B::r))).map λh=>s::h).map hidD) (M ^ (B::r).length) 4000000 A [] [.F (.str ru),.F (.lst (tw (A::B::r))),.F (.lst (A.map Sh.d)),.F (.lst (tw (B::r))),.O (.L []),.un,.un] ⟨_,_,rfl⟩ (by
    have:=Nat.mul_le_mul_left (M ^ (B::r).length) hA1;rw[Ui];lia) λs hs=>by
   have l1:=oh ru hM n (dU ru s (B::r)) (sr λL hL=>hA L (f_ _ hL));rw[dG]at l1;refine⟨by rw[c_,c_];exact l1,λacc e ⟨s5,s6,he⟩ hacc=>?_⟩;subst he;have c1:=FT ru hr s (B::r) (λL hL=>by have:=hA L (f_ _ hL);lia) hln (.F (.lst (tw (A::B::r)))) (.F (.lst (A.map Sh.d))) (.O (.L acc)) s6;have ih:=wD ru hr hM n (dU ru s (B::r)) (by lia) (λz=>by have:=UW List.length z;rw[dG]at this;simp at this) (by rw[dG];exact hl2) (sr λL hL=>hA L (f_ _ hL)) (by rw[dG];exact hb1);have g1:=cI (t:=bw 0) (k:=aC (aq BH (bq (ab ah fNil)) ag)) (env:=[.un,.F s.d]) hidD (λh=>hidD (s::h)) (bQ ru n (dU ru s (B::r))) λh hh=>⟨[.F (hidD h),.F s.d],rfl,gA (Ef (xs:=[s.d]) (ys:=h.map Sh.d) rfl rfl (by
    rw[c_];have:=jg ru n (dU ru s (B::r)) h hh;rw[dG]at this;simp only[z_,Ui]at *
    lia))⟩
   have em:((bQ ru n (dU ru s (B::r))).map λh=>s::h).map hidD=(bQ ru n (dU ru s (B::r))).map λh=>hidD (s::h):=by rw[K_];rfl
   rw[em];refine⟨_,fQ (e0:=[.F (.str ru),.F (.lst (tw (A::B::r))),.F (.lst (A.map Sh.d)),.F (.lst (tw (B::r))),.O (.L acc),.F s.d,s6]) rfl ((ak (aV c1)).trans (Jb (ds:=acc) rfl (bf (bp ((call_v (af rfl (af rfl aA))).trans ih)) rfl g1 (by rw[c_];lia)) (by rw[c_];lia))),_,_,rfl⟩
  obtain⟨e2,h1,s5,s6,rfl⟩:=loop;have e:(bQ ru (n+1) (A::B::r)).map hidD=A.flatMap λs=>((bQ ru n (dU ru s (B::r))).map λh=>s::h).map hidD:=by
   show(A.flatMap λs=>(bQ ru n (dU ru s (B::r))).map λh=>s::h).map hidD=_;rw[VU]
  rw[e];show bx (cY (bc n)) 7 _=_;exact aY ((ak (e:=[.F (.str ru),.F (.lst (tw (A::B::r))),.F (.lst (A.map Sh.d)),.F (.lst (tw (B::r))),.un,.un,.un]) rfl).trans ((ak ((br rfl).trans rfl)).trans ((ak (kI rfl)).trans ((ak ((bY (bp rfl)).trans h1)).trans rfl))))
abbrev Pt:=Int×Int
def xp(R C:Nat):List Pt:=(List.range R).flatMap λi=>(List.range C).map λj=>(((i:Nat):Int),((j:Nat):Int))
theorem mM:∀R:Fin 5,∀C:Fin 6,(xp R C).Nodup/\(xp R C).length<=20:=by decide
theorem z4(h:f env=some (.lst ds)):I8 f env=some (kP 0 ds):=by unfold I8;rw[h];rfl
theorem MR(h:f env=some (.lst es))(h1:env[i]?=some (.O (.L ds)))(hl:ds.length+es.length<=16000000):uw i f env=some (.nx (env.set i (.O (.L (ds++es))))):=Jb h1 h hl
theorem Jw(R C:Nat)(hR:R<=4)(hC:C<=5):m__law_sheet_cells [.tup [.int R,.int C]]=some (.lst ((xp R C).map cel)):=by
 have Rz:([]:Yl).length+C*(aM 0 R).length<=8000:=by
  have h1:=U1 hC hR;rw[eX,Ui,Uc];exact G_ h1 (by decide)
 obtain⟨e2,h1,s2,h2⟩:=jn (t:=bw 2) (body:=eu) (λacc e=>∃s2,e=[.F (.tup [.int R,.int C]),.O (.L acc),s2]) (λd=>(aM 0 C).map λy=>.tup [d,y]) C 8000 (aM 0 R) [] _ ⟨.un,rfl⟩ Rz λd hd=>⟨by rw[c_,eX];exact m_ _,λacc e ⟨s2,he⟩ hl=>by
  subst he;refine⟨_,fQ (e0:=[.F (.tup [.int R,.int C]),.O (.L acc),.F d]) rfl (MR (es:=(aM 0 C).map λy=>.tup [d,y]) (bf (eO (n:=C) rfl (by lia)) rfl (ix (λy=>.tup [d,y]) _ λy hy=>⟨_,rfl,rfl⟩) (by rw[c_,eX];lia)) rfl (by rw[c_,eX];lia)),⟨_,rfl⟩⟩⟩
 subst h2;have he:((aM 0 R).flatMap λd=>(aM 0 C).map λy=>.tup [d,y])=(xp R C).map cel:=by
  unfold aM xp cel;simp[WU,VU,K_,Xx]
 rw[Ud,he]at h1;exact aY ((ak (kI rfl)).trans ((ak ((bY (eO (n:=R) rfl (by lia))).trans h1)).trans rfl))
theorem yn(xs:List α)(k:Nat)(y:α):(insAt xs k y).Perm (y::xs):=by
 unfold insAt;have:=List.perm_middle (a:=y) (l₁:=xs.take k) (l₂:=xs.drop k);rwa [Vc]at this
theorem N4(h1:env[i]?=some (.O (.L ds)))(hk:fk env=some (.int j))(h:f env=some d)(h0:0<=j)(hj:j<=ds.length)(hl:ds.length<16000000):Du i fk f env=some (.nx (env.set i (.O (.L (insAt ds j.toNat d))))):=by
 unfold Du;rw[h1];show(fk env).bind _=_;rw[hk];show(f env).bind _=_;rw[h];show(if 0<=j/\j<=ds.length/\ds.length<16000000 then _ else _)=_;rw[j_ ⟨h0,hj,hl⟩]
theorem CL(c:Int)(ps:List Pt)(hps:ps.length<=300):∃qs:List Pt,m__law_order [.int c,.lst (ps.map cel)]=some (.lst (qs.map cel))/\qs.Perm ps:=by
 obtain⟨e2,h1,qs,s3,s4,rfl,h3⟩:=fq (t:=lU [3,4]) (body:=jq) (λj e=>∃(qs:List Pt)(s3 s4:Slot),e=[.F (.int c),.F (.lst (ps.map cel)),.O (.L (qs.map cel)),s3,s4]/\qs.Perm (ps.take j)) (kP 0 (ps.map cel)) 0 _ ⟨[],.un,.un,rfl,.nil⟩ λi d e hd aG=>by
  obtain⟨qs,s3,s4,he,h3⟩:=aG;subst he;have hi:=(k_.mp hd).1;rw[gU,c_]at hi;have hx:(ps.map cel)[i]?=some (cel ps[i]):=by rw[o_,l_ hi];rfl
  rw[lK hx]at hd;cases hd;simp only[Uc]at h3 ⊢;have hql:qs.length=i:=by rw[h3.length_eq,Vw];lia
  obtain⟨z,hz⟩:=tR c (3*(i:Int)+1) (by lia) (by lia);have m3:aq addI (aq mulI Yr av) Yp [.F (.int c),.F (.lst (ps.map cel)),.O (.L (qs.map cel)),.F (.int i),.F (cel ps[i])]=some (.int (3*(i:Int)+1)):=(aX ((aX rfl rfl).trans (pS (by decide) (by decide) (by lia) (by lia))) rfl).trans (gO _ _);have hp:(0:Int)<(i:Int)+1:=by lia
  have hk:aq modI (λenv=>((ab ag (ab (aq addI (aq mulI Yr av) Yp) fNil)) env).bind m__law_stir) (aq addI av Yp) [.F (.int c),.F (.lst (ps.map cel)),.O (.L (qs.map cel)),.F (.int i),.F (cel ps[i])]=some (.int (z%((i:Int)+1))):=(aX ((call_v (af rfl (af m3 aA))).trans hz) rfl).trans (ji hp);have b1:=VF z (Int.ne_of_gt hp);have b2:=Vd z hp;refine⟨_,fQ (e0:=[.F (.int c),.F (.lst (ps.map cel)),.O (.L (qs.map cel)),.F (.int i),.F (cel ps[i])]) rfl (N4 rfl hk rfl b1 (by rw[c_];lia) (by rw[c_];lia)),insAt qs (z%((i:Int)+1)).toNat ps[i],.F (.int i),.F (cel ps[i]),?_,?_⟩
  .unfold insAt;simp[WY,List.map_drop]
  .refine(yn _ _ _).trans ((h3.cons _).trans ?_);rw[List.take_succ,l_ hi];exact(List.perm_append_comm (l₁:=[ps[i]]) (l₂:=ps.take i))
 rw[Uc,gU,c_,UI]at h3;exact⟨qs,aY ((ak (kI rfl)).trans ((ak ((bY (z4 rfl)).trans h1)).trans rfl)),h3⟩
theorem Dl(f:α->D)(g:β->D)(P:α->β->Prop):∀(xs:List α),(∀x∈xs,∃e1 y,t (f x) env=some e1/\k e1=some [g y]/\P x y)->∃ys:List β,fW t Yt k env (xs.map f)=some (ys.map g)/\ys.length=xs.length/\∀(i:Nat) x y,xs[i]?=some x->ys[i]?=some y->P x y
 | [],_=>⟨[],rfl,rfl,λi x y h=>by simp at h⟩
 | x::xs,h=>by
  obtain⟨e1,y,h1,h3,h4⟩:=h x g_;obtain⟨ys,i1,i2,i3⟩:=Dl f g P xs λy hy=>h y (f_ _ hy);refine⟨y::ys,?_,by simp[i2],λi a b ha hb=>?_⟩
  .show fW _ _ _ _ (f x::xs.map f)=_;unfold fW;rw[h1];show(if true=true then k e1 else some []).bind _=_;rw[j_ rfl,h3];show(fW t Yt k env (xs.map f)).bind _=_;rw[i1];rfl
  .cases i with
   | zero=>cases ha;cases hb;exact h4
   | succ i=>exact i3 i a b (by simpa using ha) (by simpa using hb)
theorem nF:∀(xs:List α),(∀x∈xs,pl (f x)=true)->iy (xs.map f)=true
 | [],_=>rfl
 | x::xs,h=>by
  show iy (f x::xs.map f)=true;unfold iy;rw[h x g_,nF xs λy hy=>h y (f_ _ hy)];rfl
theorem xC(p:X5):pl (cel p)=true:=rfl
abbrev sWa:Str:="water"
abbrev kO:Str:="hit"
abbrev kN:Str:="sunk"
def eF:List Sh->List Pt->Pt->Str
 | [],_,_=>sWa
 | s::h,sh,p=>if p∈s.cs then(if ∀q∈s.cs,q∈sh then kN else kO)else eF h sh p
def walk(h:List Sh):List Pt->List Pt->XZ
 | _,[]=>[]
 | pre,p::r=>eF h (pre++[p]) p::walk h (pre++[p]) r
theorem Dk(q p:Pt):eT (cel q) (cel p)=decide (q=p):=by
 obtain⟨a,b⟩:=q;obtain⟨c,d⟩:=p;unfold cel;simp only[eT,lB,Xz,Bool.and_true];rw[Uh];simp
theorem xJ(p:Pt)(cs:List Pt):inD (cel p) (cs.map cel)=decide (p∈cs):=by
 unfold inD;rw[List.any_map,Uh,VT,w_];constructor
 .rintro⟨q,hq,he⟩;rw[Va,Dk,w_]at he;exact he▸hq
 .intro h;exact⟨p,h,by rw[Va,Dk,w_]⟩
theorem Ae(p:Pt):eJ (cel p)<=60:=G_ (tZ (n:=0) λd hd=>by
 rcases p_.mp hd with rfl | hd
 .rw[uo];exact m_ _
 .cases y_.mp hd;rw[uo];exact m_ _) (by decide)
theorem zC(cs:List Pt):iy (cs.map cel)=true:=nF cs λp _=>xC p
theorem wj{f g:Fe}{env:En}{p:Pt}{cs:List Pt}(h1:f env=some (cel p))(h2:g env=some (.lst (cs.map cel))):aq (mK false) f g env=some (.bl (decide (p∈cs))):=P6 h1 h2 (Ae p) (xJ p cs) (by rw[xC,zC];rfl)
theorem JW(bd:D)(p:Pt)(sh:List Pt)(s:Sh)(hn:s.n<=1000):(p∈s.cs->cX [.F bd,.F (cel p),.F (.lst (sh.map cel)),.F (.lst (s.cs.map cel))]=some (.rt (.str (if ∀q∈s.cs,q∈sh then kN else kO))))/\(p∉s.cs->cX [.F bd,.F (cel p),.F (.lst (sh.map cel)),.F (.lst (s.cs.map cel))]=some (.nx [.F bd,.F (cel p),.F (.lst (sh.map cel)),.F (.lst (s.cs.map cel))])):=by
 have ht:fB (aq (mK false) ah av) [.F bd,.F (cel p),.F (.lst (sh.map cel)),.F (.lst (s.cs.map cel))]=some (decide (p∈s.cs)):=cG (wj rfl rfl);refine⟨λhp=>?_,λhp=>(br (ht.trans (by rw[L_ hp]))).trans rfl⟩;refine(c7 (ht.trans (by rw[v_ hp]))).trans (bG ?_);have hc:aP (cF av) [0] (bw 0) Yt (aC (aq (mK false) ag ah)) 1 [2] [.F bd,.F (cel p),.F (.lst (sh.map cel)),.F (.lst (s.cs.map cel))]=some (.lst ((s.cs.map λq=>decide (q∈sh)).map .bl)):=by
  refine bf (bp rfl) rfl ?_ (by rw[c_,c_];unfold Sh.cs;simp;lia);have he:(s.cs.map λq=>decide (q∈sh)).map D.bl=(s.cs.map cel).map λd=>.bl (inD d (sh.map cel)):=by
   rw[K_,K_];exact P_ λq _=>by rw[Va,Va,xJ]
  rw[he];refine ix _ _ λd hd=>?_;obtain⟨q,hq,rfl⟩:=u_.mp hd;exact⟨_,rfl,gA (by rw[xJ];exact wj rfl rfl)⟩
 have hb:(s.cs.map λq=>decide (q∈sh)).all id=decide (∀q∈s.cs,q∈sh):=by
  rw[WH,Uh,D_,w_];simp
 refine NO (cG ((N1 hc).trans (by rw[hb]))) (λh=>?_) (λh=>?_)
 .rw[j_ (Uj h)];rfl
 .rw[h_ (of_decide_eq_false h)];rfl
theorem As(h:(t d env).bind body=some (.nx e1)):cK t body (d::ds) env=cK t body ds e1:=by
 obtain⟨e0,h5,h6⟩:=a_.mp h;show(t d env).bind (λe1=>(body e1).bind _)=_;rw[h5];show(body e0).bind _=_;rw[h6]
 rfl
theorem G2(h:(t d env).bind body=some (.rt x)):cK t body (d::ds) env=some (.rt x):=by
 obtain⟨e0,h5,h6⟩:=a_.mp h;show(t d env).bind (λe1=>(body e1).bind _)=_;rw[h5];show(body e0).bind _=_;rw[h6]
 rfl
theorem nY(bd:D)(p:Pt)(sh:List Pt):∀(h:List Sh)(s3:Slot),(∀s∈h,s.n<=1000)->(∃xi,cK (bw 3) cX (h.map λs=>.lst (s.cs.map cel)) [.F bd,.F (cel p),.F (.lst (sh.map cel)),s3]=some (.nx [.F bd,.F (cel p),.F (.lst (sh.map cel)),xi])/\eF h sh p=sWa)\/cK (bw 3) cX (h.map λs=>.lst (s.cs.map cel)) [.F bd,.F (cel p),.F (.lst (sh.map cel)),s3]=some (.rt (.str (eF h sh p)))
 | [],s3,_=>.inl ⟨s3,rfl,rfl⟩
 | s::h,s3,hn=>by
  obtain⟨a1,a2⟩:=JW bd p sh s (hn s g_)
  by_cases hp:p∈s.cs
  .right;unfold eF;rw[j_ hp];exact G2 (fQ (e0:=[.F bd,.F (cel p),.F (.lst (sh.map cel)),.F (.lst (s.cs.map cel))]) rfl (a1 hp))
  .unfold eF;rw[h_ hp,A_,As (fQ (e0:=[.F bd,.F (cel p),.F (.lst (sh.map cel)),.F (.lst (s.cs.map cel))]) rfl (a2 hp))];exact nY bd p sh h _ λt ht=>hn t (f_ _ ht)
theorem CY(h:List Sh)(hn:∀s∈h,s.n<=1000)(p:Pt)(sh:List Pt):m_answer_to [.lst (h.map λs=>.lst (s.cs.map cel)),cel p,.lst (sh.map cel)]=some (.str (eF h sh p)):=by
 rcases nY (.lst (h.map λs=>.lst (s.cs.map cel))) p sh h .un hn with ⟨xi,h1,h2⟩ | h1
 .rw[h2];exact aY ((ak ((bY (bp rfl)).trans h1)).trans rfl)
 .exact aY (iZ ((bY (bp rfl)).trans h1))
theorem GF(h1:t d env=some e1)(h3:k e1=some [x])(ih:fW t Yt k env ds=some ys):fW t Yt k env (d::ds)=some (x::ys):=by
 unfold fW;rw[h1];show(if true=true then k e1 else some []).bind _=_;rw[j_ rfl,h3];show(fW t Yt k env ds).bind _=_;rw[ih];rfl
theorem Aa(h:List Sh)(hn:∀s∈h,s.n<=1000)(cs:List Pt):∀(rest pre:List Pt),cs=pre++rest->
  fW (lU [0,1]) Yt (aC (λenv=>((ab aD (ab ah (ab (yq ee av oNone (fJ (aq addI ag Yp))) fNil))) env).bind m_answer_to)) [.un,.un,.F (.lst (h.map λs=>.lst (s.cs.map cel))),.F (.lst (cs.map cel))] (kP pre.length (rest.map cel))=some ((walk h pre rest).map .str)
 | [],pre,_=>rfl
 | p::rest,pre,hc=>by
  have ih:=Aa h hn cs rest (pre++[p]) (by rw[hc];simp);have Px:yq ee av oNone (fJ (aq addI ag Yp)) [.F (.int pre.length),.F (cel p),.F (.lst (h.map λs=>.lst (s.cs.map cel))),.F (.lst (cs.map cel))]=some (.lst ((pre++[p]).map cel)):=by
   show some (D.lst (cutD (cs.map cel) none (some ((pre.length:Int)+1))))=_;rw[show(pre.length:Int)+1=((pre.length+1:Nat):Int) by lia,rV,<- WY,hc,show pre++p::rest=(pre++[p])++rest by simp,show pre.length+1=(pre++[p]).length by simp,List.take_left']
   rfl
  rw[x_,UG]at ih;show fW _ _ _ _ (.tup [.int (pre.length:Int),cel p]::kP (pre.length+1) (rest.map cel))=some (.str (eF h (pre++[p]) p)::(walk h (pre++[p]) rest).map .str);exact GF (e1:=[.F (.int pre.length),.F (cel p),.F (.lst (h.map λs=>.lst (s.cs.map cel))),.F (.lst (cs.map cel))]) rfl (gA ((call_v (af rfl (af rfl (af Px aA)))).trans (CY h hn p (pre++[p])))) ih
theorem je(h:List Sh):∀(rest pre:List Pt),(walk h pre rest).length=rest.length
 | [],_=>rfl
 | p::rest,pre=>by show(walk h (pre++[p]) rest).length+1=_;rw[je h rest];rfl
theorem yB(h:List Sh)(hn:∀s∈h,s.n<=1000)(hm:∀s:Sh,s.n<=1000->m [s.d]=some (.lst (s.cs.map cel))):fW (bw 0) Yt (aC (λenv=>((ab ag fNil) env).bind m)) [.un] (h.map Sh.d)=some (h.map λs=>.lst (s.cs.map cel)):=by
 obtain⟨ys,c1,c2,c3⟩:=Dl (t:=bw 0) (k:=aC (λenv=>((ab ag fNil) env).bind m)) (env:=[.un]) Sh.d (λx:Yl=>D.lst x) (λs x=>x=s.cs.map cel) h λs hs=>⟨_,s.cs.map cel,rfl,gA ((call_v (af rfl aA)).trans (hm s (hn s hs))),rfl⟩;rw[c1];congr 1;apply Wc;intro i;rw[o_,o_];cases hx:h[i]? with
 | none=>
  rw[List.getElem?_eq_none_iff]at hx;rw[T9 (by lia)];rfl
 | some s=>
  have hi:=(k_.mp hx).1;obtain⟨y,hy⟩:∃y,ys[i]?=some y:=⟨_,l_ (by lia)⟩;rw[hy,c3 i s y hx hy];rfl
theorem jY(h:List Sh)(hn:∀s∈h,s.n<=1000)(hl:h.length<=1000)(cs:List Pt)(hc:cs.length<=1000):m_answers_of [hidD h,.lst (cs.map cel)]=some (.lst ((walk h [] cs).map .str)):=by
 have g1:=yB h hn (m:=m_cells_of) fE;have g2:=Aa h hn cs cs [] rfl;exact aY ((ak (aV (bf (wy rfl) rfl g1 (by rw[c_];lia)))).trans (bG (bf (z4 rfl) rfl g2 (by rw[c_,je];lia))))
theorem lg(s:Sh):s.cs.Nodup:=by
 unfold Sh.cs;refine UK.mpr (List.Pairwise.imp (λ{i j} (h:i≠j) e=>?_) List.nodup_range);unfold Sh.at at e
 split at e
 .have:=(Prod.mk.inj e).1;lia
 .have:=(Prod.mk.inj e).2;lia
theorem fw(h:List Sh)(p:Pt):∀(l pre:List Pt),walk h pre (l++[p])=walk h pre l++[eF h (pre++l++[p]) p]
 | [],pre=>by simp[walk]
 | q::l,pre=>by
  show eF h (pre++[q]) q::walk h (pre++[q]) (l++[p])=_;rw[fw h p l (pre++[q])];simp[walk]
theorem wz:∀(xs ys:XZ),lB (xs.map .str) (ys.map .str)=decide (xs=ys)
 | [],[]=>rfl
 | [],y::ys=>rfl
 | x::xs,[]=>rfl
 | x::xs,y::ys=>by
  show lB (.str x::xs.map .str) (.str y::ys.map .str)=_;unfold lB;rw[wz xs ys,show eT (.str x) (.str y)=(x==y) by unfold eT;rfl,Uh];simp
theorem Dt(xs:XZ):eJ (.lst (xs.map .str))<=60:=G_ (GU (n:=0) λd hd=>by obtain⟨i,_,rfl⟩:=u_.mp hd;rw[Ai];lia) (by decide)
theorem z6(xs:XZ):pl (.lst (xs.map .str))=true:=by unfold pl;exact nF xs λx _=>by unfold pl;rfl
theorem Gs(xs ys:XZ):eT (.lst (xs.map .str)) (.lst (ys.map .str))=decide (xs=ys):=by rw[eT];exact wz xs ys
def aR(x:Pt×Str):D:=.tup [cel x.1,.str x.2]
theorem oP(rec:List (Pt×Str))(hl:rec.length<=1000):m_shot_cells [.lst (rec.map aR)]=some (.lst ((rec.map Prod.fst).map cel)):=by
 refine aY (bG (bf (bp rfl) rfl ?_ (by rw[c_,c_];lia)));have he:(rec.map Prod.fst).map cel=(rec.map aR).map λd=>match d with | .tup [x,_]=>x | _=>.non:=by rw[K_,K_];rfl
 rw[he];refine ix _ _ λd hd=>?_;obtain⟨x,hx,rfl⟩:=u_.mp hd;exact⟨_,rfl,rfl⟩
theorem zt(h:List Sh)(hn:∀s∈h,s.n<=1000)(hl:h.length<=1000)(rec:List (Pt×Str))(hr:rec.length<=1000):m_fits [hidD h,.lst (rec.map aR)]=some (.bl (decide (walk h [] (rec.map Prod.fst)=rec.map Prod.snd))):=by
 have ha:=jY h hn hl (rec.map Prod.fst) (by rw[c_];exact hr);have hc:aP (cF ah) [0,1] (lU [0,1]) Yt (aC ah) 2 [] [.F (hidD h),.F (.lst (rec.map aR))]=some (.lst ((rec.map Prod.snd).map .str)):=by
  refine bf (bp rfl) rfl ?_ (by rw[c_,c_];lia);have he:(rec.map Prod.snd).map D.str=(rec.map aR).map λd=>match d with | .tup [_,x]=>x | _=>.non:=by rw[K_,K_];rfl
  rw[he];refine ix _ _ λd hd=>?_;obtain⟨x,hx,rfl⟩:=u_.mp hd;exact⟨_,rfl,rfl⟩
 refine aY (bG (GM ((call_v (af rfl (af ((call_v (af rfl aA)).trans (oP rec hr)) aA))).trans ha) hc (D7 (Dt _) (by rw[z6,z6];rfl)) (Gs _ _)))
theorem IZ{f g:Fe}{env:En}{ds:Yl}{m:Nat}(h:g env=some (.lst ds))(hf:f env=some (.int (m:Int))):yq ee g oNone (fJ f) env=some (.lst (ds.take m)):=by
 unfold yq fJ;rw[h,UO];show((f env).bind _).bind _=_;rw[hf];show some (D.lst (cutD ds none (some (m:Int))))=_;rw[rV]
theorem Kg{f g:Fe}{env:En}{ds:Yl}{m:Nat}(h:g env=some (.lst ds))(hf:f env=some (.int (m:Int))):yq ee g (fJ f) oNone env=some (.lst (ds.drop m)):=by
 unfold yq fJ;rw[h,UO];show((f env).bind _).bind _=_;rw[hf];show some (D.lst (cutD ds (some (m:Int)) none))=_;rw[BQ]
abbrev Rec:=List (Pt×Str)
def Apart(h:List Sh):Prop:=h.Pairwise λs t=>∀p∈s.cs,p∉t.cs
def Fits(h:List Sh):List Pt->Rec->Prop
 | _,[]=>True
 | pre,(p,w)::r=>eF h (pre++[p]) p=w/\Fits h (pre++[p]) r
theorem l5(h:List Sh):∀(r:Rec)(pre:List Pt),walk h pre (r.map Prod.fst)=r.map Prod.snd↔Fits h pre r
 | [],pre=>by simp[walk,Fits]
 | (p,w)::r,pre=>by
  show eF h (pre++[p]) p::walk h (pre++[p]) (r.map Prod.fst)=w::r.map Prod.snd↔_;rw[XM,l5 h r];rfl
def KS(s:Sh)(l:List Pt):Str:=if ∀q∈s.cs,q∈l then kN else kO
def FS(s:Sh):List Pt->Rec->Prop
 | _,[]=>True
 | pre,(p,w)::r=>(p∈s.cs->KS s (pre++[p])=w)/\FS s (pre++[p]) r
def own(s:Sh)(r:Rec):Rec:=r.filter λx=>decide (x.1∈s.cs)
theorem GO(s:Sh)(l:List Pt):KS s (l.filter λq=>decide (q∈s.cs))=KS s l:=by
 unfold KS;congr 1;simp only[T8,w_,eq_iff_iff];exact⟨λh q hq=>(h q hq).1,λh q hq=>⟨h q hq,hq⟩⟩
theorem wV(s:Sh):∀(r:Rec)(pre:List Pt),Fits [s] (pre.filter λq=>decide (q∈s.cs)) (own s r)↔FS s pre r
 | [],pre=>Iff.rfl
 | (p,w)::r,pre=>by
  have ih:=wV s r (pre++[p]);rw[Xm]at ih;unfold own;rw[Ua]
  by_cases hp:p∈s.cs
  .rw[j_ (by simpa using hp)];have e:List.filter (λq=>decide (q∈s.cs)) [p]=[p]:=by simp[hp]
   rw[e]at ih;show eF [s] _ p=w/\Fits [s] _ (own s r)↔_;rw[ih];have:eF [s] ((pre.filter λq=>decide (q∈s.cs))++[p]) p=KS s (pre++[p]):=by
    unfold eF;rw[j_ hp,<- GO s (pre++[p]),Xm,e]
    rfl
   rw[this];exact⟨λh=>⟨λ_=>h.1,h.2⟩,λh=>⟨h.1 hp,h.2⟩⟩
  .rw[h_ (by simpa using hp)];have e:List.filter (λq=>decide (q∈s.cs)) [p]=[]:=by simp[hp]
   rw[e,Uz]at ih;exact ih.trans ⟨λh=>⟨λz=>absurd z hp,h⟩,λh=>h.2⟩
theorem zG(l:List Pt)(p:Pt)(w:Str):∀(h:List Sh),Apart h->(eF h l p=w↔(∀s∈h,p∈s.cs->KS s l=w)/\((∀s∈h,p∉s.cs)->sWa=w))
 | [],_=>by show sWa=w↔_;simp
 | s::h,pw=>by
  obtain⟨p1,p2⟩:=Ue.mp pw;have ih:=zG l p w h p2
  by_cases hp:p∈s.cs
  .have:eF (s::h) l p=KS s l:=by unfold eF;rw[j_ hp];rfl
   rw[this];refine⟨λe=>⟨λt ht hpt=>?_,λz=>absurd hp (z s g_)⟩,λe=>e.1 s g_ hp⟩;rcases p_.mp ht with rfl | ht
   .exact e
   .exact absurd hpt (p1 t ht p hp)
  .have:eF (s::h) l p=eF h l p:=by rw[eF,h_ hp]
   rw[this,ih];refine⟨λe=>⟨λt ht hpt=>?_,λz=>e.2 λt ht=>z t (f_ _ ht)⟩,λe=>⟨λt ht=>e.1 t (f_ _ ht),λz=>e.2 λt ht=>?_⟩⟩
   .rcases p_.mp ht with rfl | ht
    .exact absurd hpt hp
    .exact e.1 t ht hpt
   .rcases p_.mp ht with rfl | ht
    .exact hp
    .exact z t ht
theorem wA(h:List Sh)(pw:Apart h):∀(r:Rec)(pre:List Pt),Fits h pre r↔(∀s∈h,FS s pre r)/\∀x∈r,(∀s∈h,x.1∉s.cs)->sWa=x.2
 | [],pre=>⟨λ_=>⟨λ_ _=>trivial,λx hx=>by cases hx⟩,λ_=>trivial⟩
 | (p,w)::r,pre=>by
  show eF h (pre++[p]) p=w/\Fits h (pre++[p]) r↔_;rw[zG _ _ _ h pw,wA h pw r];constructor
  .rintro⟨⟨a,b⟩,c,d⟩;refine⟨λs hs=>⟨a s hs,c s hs⟩,λx hx=>?_⟩;rcases p_.mp hx with rfl | hx
   .exact b
   .exact d x hx
  .rintro⟨a,b⟩;exact⟨⟨λs hs=>(a s hs).1,b _ g_⟩,λs hs=>(a s hs).2,λx hx=>b x (f_ _ hx)⟩
def cP(s:Sh)(r:Rec):Bool:=decide (walk [s] [] ((own s r).map Prod.fst)=(own s r).map Prod.snd)
theorem Bl(s:Sh)(r:Rec):cP s r=true↔FS s [] r:=by
 unfold cP;rw[w_,l5];exact wV s r []
def bu(r:Rec):List Pt:=(r.filter λx=>decide (x.2≠sWa)).map Prod.fst
def jM(r:Rec)(s:Sh):Nat:=(s.cs.filter λq=>decide (q∈bu r)).length
theorem DF(xs ys:List Pt)(hx:xs.Nodup)(hy:ys.Nodup):(xs.filter λq=>decide (q∈ys)).length=(ys.filter λq=>decide (q∈xs)).length:=by
 refine List.Perm.length_eq ((UT (hx.filter _) (hy.filter _)).mpr λa=>?_);simp only[T8,w_];exact⟨λh=>⟨h.2,h.1⟩,λh=>⟨h.2,h.1⟩⟩
def mj(h:List Sh)(p:Pt):Bool:=h.any λs=>decide (p∈s.cs)
theorem split_len(p q:α->Bool):∀(l:List α),(∀a∈l,p a=true->q a=false)->(l.filter p).length+(l.filter q).length=(l.filter λa=>p a||q a).length
 | [],_=>rfl
 | a::l,h=>by
  have ih:=split_len p q l λb hb=>h b (f_ _ hb);have ha:=h a g_;rw[Ua,Ua,Ua];cases hp:p a<;>cases hq:q a<;>simp_all<;>lia
theorem sT(st:List Pt):∀(h:List Sh),Apart h->(h.map λs=>(st.filter λq=>decide (q∈s.cs)).length).sum=(st.filter (mj h)).length
 | [],_=>by rw[WJ.mpr (λ_ _=>by simp[mj])];rfl
 | s::h,pw=>by
  obtain⟨p1,p2⟩:=Ue.mp pw;rw[A_,UP,sT st h p2,split_len (λq=>decide (q∈s.cs)) (mj h) st]
  .rfl
  .intro q _ hq;rw[w_]at hq;unfold mj;rw[List.any_eq_false];intro t ht;simpa using p1 t ht q hq
theorem sU(hr:(r.map Prod.fst).Nodup):(bu r).Nodup:=hr.sublist (List.Sublist.map _ Wl)
theorem Ga(h:List Sh)(pw:Apart h)(r:Rec)(hr:(r.map Prod.fst).Nodup):(h.map (jM r)).sum=(bu r).length↔∀x∈r,(∀s∈h,x.1∉s.cs)->sWa=x.2:=by
 have e:h.map (jM r)=h.map λs=>((bu r).filter λq=>decide (q∈s.cs)).length:=P_ λs _=>DF _ _ (lg s) (sU hr);rw[e,sT _ h pw,List.length_filter_eq_length_iff];unfold bu;constructor
 .intro g x hx hn
  by_cases hw:x.2=sWa
  .exact hw.symm
  .have:=g x.1 (Uq (T8.mpr ⟨hx,by simpa using hw⟩));unfold mj at this;obtain⟨s,hs,h2⟩:=VT.mp this;exact absurd (Uj h2) (hn s hs)
 .intro g p hp;obtain⟨x,hx,rfl⟩:=u_.mp hp;obtain⟨h1,h2⟩:=T8.mp hx;unfold mj;rw[VT];refine Classical.byContradiction λhc=>?_;have:=g x h1 λs hs z=>hc ⟨s,hs,v_ z⟩;exact(Uj h2) this.symm
def jt(h:List Sh)(r:Rec):Bool:=decide (walk h [] (r.map Prod.fst)=r.map Prod.snd)
theorem A0(h:List Sh)(pw:Apart h)(r:Rec)(hr:(r.map Prod.fst).Nodup):jt h r=true↔(∀s∈h,cP s r=true)/\(h.map (jM r)).sum=(bu r).length:=by
 unfold jt;rw[w_,l5,wA h pw,Ga h pw r hr];simp only[Bl]
def Mt:List (List Sh)->List Sh->Prop
 | [],[]=>True
 | A::cs,s::h=>s∈A/\Mt cs h
 | _,_=>False
theorem Mt.cut(ru:Str)(s:Sh):∀(cs:List (List Sh))(h:List Sh),Mt (dU ru s cs) h↔Mt cs h/\∀t∈h,uN ru s t
 | [],[]=>by simp[Mt,dU]
 | [],_::_=>by simp[Mt,dU]
 | _::_,[]=>by simp[Mt,dU]
 | A::cs,t::h=>by
  show(t∈A.filter _/\Mt (dU ru s cs) h)↔(t∈A/\Mt cs h)/\_;rw[Mt.cut ru s cs h,T8,w_];constructor
  .rintro⟨⟨a,b⟩,c,d⟩;exact⟨⟨a,c⟩,λu hu=>by rcases p_.mp hu with rfl | hu;exact b;exact d u hu⟩
  .rintro⟨⟨a,c⟩,d⟩;exact⟨⟨a,d t g_⟩,c,λu hu=>d u (f_ _ hu)⟩
theorem lZ(ru:Str):∀(n:Nat)(cs:List (List Sh))(h:List Sh),cs≠[]->cs.length<=n->(h∈bQ ru n cs↔Mt cs h/\h.Pairwise (uN ru))
 | 0,cs,h,hne,hl=>by cases cs with | nil=>exact absurd rfl hne | cons a b=>simp at hl
 | n+1,[],h,hne,_=>absurd rfl hne
 | n+1,[A],h,_,_=>by
  show h∈A.map (λs=>[s])↔_;rw[u_];constructor
  .rintro⟨s,hs,rfl⟩;exact⟨⟨hs,trivial⟩,U7 _ _⟩
  .rintro⟨m,_⟩
   match h,m with
   | [s],m=>exact⟨s,m.1,rfl⟩
   | [],m=>exact m.elim
   | _::_::_,m=>exact m.2.elim
 | n+1,A::B::r,h,_,hl=>by
  show h∈A.flatMap (λs=>(bQ ru n (dU ru s (B::r))).map λg=>s::g)↔_;rw[UJ];have ih:∀s g,g∈bQ ru n (dU ru s (B::r))↔(Mt (B::r) g/\∀t∈g,uN ru s t)/\g.Pairwise (uN ru):=λs g=>by
   rw[lZ ru n (dU ru s (B::r)) g (λz=>by have:=UW List.length z;rw[dG]at this;simp at this) (by rw[dG];simpa using hl),Mt.cut]
  constructor
  .rintro⟨s,hs,h2⟩;obtain⟨g,hg,rfl⟩:=u_.mp h2;obtain⟨⟨a,b⟩,c⟩:=(ih s g).mp hg;exact⟨⟨hs,a⟩,Ue.mpr ⟨b,c⟩⟩
  .rintro⟨m,pw⟩
   match h,m,pw with
   | s::g,m,pw=>
    obtain⟨p1,p2⟩:=Ue.mp pw;exact⟨s,m.1,u_.mpr ⟨g,(ih s g).mpr ⟨⟨m.2,p1⟩,p2⟩,rfl⟩⟩
theorem mY(ru:Str):∀(n:Nat)(cs:List (List Sh)),(∀A∈cs,A.Nodup)->(bQ ru n cs).Nodup
 | 0,cs,_=>VR
 | n+1,[],_=>VR
 | n+1,[A],h=>UK.mpr ((h A g_).imp λJg e=>Jg (List.cons.inj e).1)
 | n+1,A::B::r,h=>by
  refine V_.mpr ⟨λs _=>UK.mpr ((mY ru n (dU ru s (B::r)) λL hL=>?_).imp λJg e=>Jg (List.cons.inj e).2),(h A g_).imp λ{a b} Jg x hx y hy e=>?_⟩
  .obtain⟨L',hL',rfl⟩:=u_.mp hL;exact(h L' (f_ _ hL')).filter _
  .obtain⟨s,_,rfl⟩:=u_.mp hx;obtain⟨t,_,rfl⟩:=u_.mp hy;exact Jg (List.cons.inj e).1
def mX(R C:Nat)(q:Sh->Bool)(fl:X3):List (List Sh):=fl.map λl=>(bR R C l).filter q
theorem Dh(R C:Nat)(q:Sh->Bool):∀(fl:X3)(h:List Sh),Mt (mX R C q fl) h↔h.map Sh.n=fl/\(∀s∈h,s∈bR R C s.n)/\∀s∈h,q s=true
 | [],[]=>by simp[Mt,mX]
 | [],_::_=>by simp[Mt,mX]
 | _::_,[]=>by simp[Mt,mX]
 | l::fl,s::h=>by
  show(s∈(bR R C l).filter q/\Mt (mX R C q fl) h)↔_;rw[Dh R C q fl h,T8,A_,XM];simp only[List.forall_mem_cons];constructor
  .rintro⟨⟨a,b⟩,c,d,e⟩;have:=jA a;exact⟨⟨this,c⟩,⟨this▸a,d⟩,b,e⟩
  .rintro⟨⟨a,c⟩,⟨a',d⟩,b,e⟩;exact⟨⟨a▸a',b⟩,c,d,e⟩
theorem yJ(R C:Nat)(ru:Str)(hs:fl.Pairwise (·>=·))(h0:0<fl.length)(h4:fl.length<=4)(q:Sh->Bool):(bQ ru 4 (mX R C q fl)).Perm ((bX R C ru fl fl.length).filter λh=>h.all q):=by
 refine(UT (mY ru 4 _ λA hA=>?_) ((oR R C ru fl _).filter _)).mpr λh=>?_
 .obtain⟨l,_,rfl⟩:=u_.mp hA;exact(List.Pairwise.imp (λ{a b:Sh} (hb:Bef a b) (e:a=b)=>jI hb (by rw[e]at hb ⊢;exact hb)) (CK R C l)).filter _
 .rw[lZ ru 4 _ h (λz=>by have:=UW List.length z;unfold mX at this;rw[c_,Ui]at this;lia) (by unfold mX;rw[c_];exact h4),Dh,T8,lb R C ru hs _ (m_ _),UI,D_];constructor
  .rintro⟨⟨a,b,c⟩,d⟩;exact⟨⟨a,b,d⟩,c⟩
  .rintro⟨⟨a,b,d⟩,c⟩;exact⟨⟨a,b,c⟩,d⟩
theorem Bq(hr:cO ru)(hn:∀s∈h,1<=s.n)(pw:h.Pairwise (uN ru)):Apart h:=by
 refine Vh (λ{s t} hs ht hf p hp hq=>?_) pw;refine(vX hr (hn s hs) (hn t ht)).mp hf.2 ⟨p,hq,p,hp,(0,0),?_,by unfold plus;simp⟩;rcases hr with rfl | rfl | rfl
 .rw[pN];simp
 .rw[pH];simp
 .rw[pG];simp
structure Hid(R C:Nat)(fl:List Nat)(h:List Sh):Prop where
 ap:Apart h
 len:h.length<=3
 sz:∀s∈h,1<=s.n/\s.n<=4
 on:∀s∈h,s∈bR R C s.n
theorem PL.hid{R C:Nat}{fl:X3}{ru:Str}(p:PL R C fl ru){h:List Sh}(hh:h∈bX R C ru fl fl.length):Hid R C fl h:=by
 obtain⟨a,b,c⟩:=(lb R C ru p.up _ (m_ _) h).mp hh;rw[UI]at a;have sz:∀s∈h,1<=s.n/\s.n<=4:=λs hs=>p.sz s.n (a▸Uq hs);exact⟨Bq p.ru (λs hs=>(sz s hs).1) c,by have:=UW List.length a;rw[c_]at this;have:=p.l3;lia,sz,b⟩
theorem vD(q q':List L2.Key)(x:α):∀(ks:List (List L2.Key))(ds:List α),ds.length=ks.length->q∉ks->aI (ks++[q]) (ds++[x]) q'=if q'=q then some x else aI ks ds q'
 | [],[],_,_=>by
  show(if q=q' then some x else aI [] [] q')=_
  by_cases h:q=q'
  .rw[j_ h,j_ h.symm]
  .rw[h_ h,h_ (UB h)]
 | [],_::_,h,_=>by simp at h
 | _::_,[],h,_=>by simp at h
 | k::ks,d::ds,h,hn=>by
  have ih:=vD q q' x ks ds (by simpa using h) λz=>hn (f_ _ z);show(if k=q' then some d else aI (ks++[q]) (ds++[x]) q')=if q'=q then some x else(if k=q' then some d else aI ks ds q');rw[ih]
  by_cases h1:k=q'
  .rw[j_ h1,h_ (λe=>hn (by rw[<- e,<- h1];exact g_)),j_ h1]
  .rw[h_ h1,h_ h1]
theorem lW(q q':List L2.Key)(x:α):∀(ks:List (List L2.Key))(ds:List α),ds.length=ks.length->aI ks (bA ks ds q x) q'=if q'=q/\q∈ks then some x else aI ks ds q'
 | [],[],_=>by simp[aI,bA]
 | [],_::_,h=>by simp at h
 | _::_,[],h=>by simp at h
 | k::ks,d::ds,h=>by
  have ih:=lW q q' x ks ds (by simpa using h);show(if k=q' then some (if k=q then x else d)else aI ks (bA ks ds q x) q')=if q'=q/\q∈k::ks then some x else(if k=q' then some d else aI ks ds q');rw[ih]
  by_cases h1:k=q'
  .subst h1;rw[j_ rfl,j_ rfl]
   by_cases h2:k=q
   .subst h2;rw[j_ rfl,j_ ⟨rfl,g_⟩]
   .rw[h_ h2,h_ λz=>h2 z.1]
  .rw[h_ h1,h_ h1]
   by_cases h2:q'=q
   .subst h2
    by_cases h3:q'∈ks
    .rw[j_ ⟨rfl,h3⟩,j_ ⟨rfl,f_ _ h3⟩]
    .rw[h_ λz=>h3 z.2,h_];rintro⟨_,z⟩;rcases p_.mp z with z | z
     .exact h1 z.symm
     .exact h3 z
   .rw[h_ λz=>h2 z.1,h_ λz=>h2 z.1]
theorem EK(q q':List L2.Key)(x:α)(ks:List (List L2.Key))(ds:List α)(h:ds.length=ks.length):aI (iR ks q) (m6 ks ds q x) q'=if q'=q then some x else aI ks ds q':=by
 unfold iR m6
 by_cases hq:q∈ks
 .rw[j_ hq,j_ hq,lW q q' x ks ds h]
  by_cases e:q'=q
  .rw[j_ ⟨e,hq⟩,j_ e]
  .rw[h_ λz=>e z.1,h_ e]
 .rw[h_ hq,h_ hq,vD q q' x ks ds h hq]
theorem AH(ks:List (List L2.Key))(q q':List L2.Key):q'∈iR ks q↔q'=q\/q'∈ks:=by
 unfold iR
 by_cases h:q∈ks
 .rw[j_ h];exact⟨.inr,λz=>z.elim (λe=>e▸h) id⟩
 .rw[h_ h,Ub,y_];exact Or.comm
theorem yf(s:Sh):fj s.d=some s.ks:=rfl
theorem dE(p:Pt):fj (cel p)=some (a8 p):=rfl
theorem kg{s t:Sh}(h:s.ks=t.ks):s=t:=by
 have h1:¬Bef s t:=λb=>by have:=Ah b;rw[h]at this;have:=jI b;have e:=Er this;rw[h]at e;simp_all
 have h2:¬Bef t s:=λb=>by have:=Ah b;rw[<- h]at this;have:=jI b;have e:=Er this;rw[<- h]at e;simp_all
 exact BA h1 h2
theorem kX(k:α->D)(q:α->List L2.Key)(hk:∀a,fj (k a)=some (q a))(v:List L2.Key->D):∀(as:List α)(m:List (List L2.Key)×Yl),m.2.length=m.1.length->(∀x∈m.1,aI m.1 m.2 x=some (v x))->∃m',Mi.foldM m (as.map λa=>.tup [k a,v (q a)])=some m'/\m'.2.length=m'.1.length/\(∀x,x∈m'.1↔x∈m.1\/x∈as.map q)/\∀x∈m'.1,aI m'.1 m'.2 x=some (v x)
 | [],m,h1,h2=>⟨m,rfl,h1,λx=>by simp,h2⟩
 | a::as,m,h1,h2=>by
  obtain⟨m',g1,g2,g3,g4⟩:=kX k q hk v as (yg m (q a) (v (q a))) (by show(m6 _ _ _ _).length=(iR _ _).length;exact sF h1 _ _) λx hx=>by
   show aI (iR _ _) (m6 _ _ _ _) x=_;rw[EK _ _ _ _ _ h1]
   by_cases e:x=q a
   .rw[j_ e,e]
   .rw[h_ e];rcases(AH _ _ _).mp hx with z | z
    .exact absurd z e
    .exact h2 x z
  refine⟨m',?_,g2,λx=>?_,g4⟩
  .show(fj (k a)).bind _=_;rw[hk a];exact g1
  .rw[g3 x,show(yg m (q a) (v (q a))).1=iR m.1 (q a)from rfl,AH,A_,p_];constructor
   .rintro((h | h) | h)
    .exact .inr (.inl h)
    .exact .inl h
    .exact .inr (.inr h)
   .rintro(h | h | h)
    .exact .inl (.inr h)
    .exact .inl (.inl h)
    .exact .inr h
theorem tE(h1:fi env=some ds)(h2:dH is (dj n caps env)=true)(h3:fW t c k (dj n caps env) ds=some xs)(hl:xs.length<=16000000)(h4:Mi.foldM ([],[]) xs=some m):gx th fi is t c k n caps env=some (.mp th m.1 m.2):=by
 unfold gx;rw[h1];show(if dH is (dj n caps env)=true then _ else _)=_;rw[j_ h2,h3];show(if xs.length<=16000000 then _ else _)=_;rw[j_ hl,h4];rfl
theorem mN(h1:f env=some (.mp th ks ds))(h2:g env=some k)(h3:fj k=some q)(h4:aI ks ds q=some d):aq (getM th) f g env=some d:=by
 rw[aX h1 h2];unfold getM;rw[lR];show(fj k).bind _=_;rw[h3];exact h4
theorem sQ(h1:fk env=some k)(h2:fv env=some v)(h3:fj k=some q):fZ fk fv env=some [.tup [k,v]]:=by
 unfold fZ;rw[h1];show(fv env).bind _=_;rw[h2];show(fj k).bind _=_;rw[h3];rfl
theorem eq_str(a b:Str):eT (.str a) (.str b)=decide (a=b):=by
 rw[show eT (.str a) (.str b)=(a==b) by unfold eT;rfl,Uh];simp
theorem Nk(a:Str):eJ (.str a)<=60:=by rw[Ai];lia
theorem MK(h1:f env=some (.str a))(h2:g env=some (.str b)):aq rD f g env=some (.bl (decide (a≠b))):=by
 rw[K' h1 h2 (D7 (Nk a) rfl) (eq_str a b)];simp
theorem vC(s:Sh)(hn:s.n<=1000)(rec:Rec)(hr:rec.length<=1000):m_ship_fits [s.d,.lst (rec.map aR)]=some (.bl (cP s rec)):=by
 have hl:(own s rec).length<=rec.length:=O_ _ _;have f1:=zt [s] (λt ht=>by rw[y_.mp ht];exact hn) (by simp) (own s rec) (by lia);exact aY ((ak (aV ((call_v (af rfl aA)).trans (fE s hn)))).trans (bG ((call_v (af (iI (af rfl aA)) (af (bf (bp rfl) rfl (cj aR aR (λx=>decide (x.1∈s.cs)) rec λx hx=>⟨[.F (cel x.1),.F (.str x.2),.F (.lst (s.cs.map cel))],rfl,cG (wj rfl rfl),λ_=>rfl⟩) (by rw[c_];show(own s rec).length<=_;lia)) aA))).trans f1)))
theorem AZ(rec:Rec)(hr:rec.length<=1000)(s0 s1 s2 s4 s5 s6 s7:Slot):aP (cF av) [0,1] (lU [0,1]) (fB (aq rD ah (fC (.str "water")))) (aC ag) 2 [] [s0,s1,s2,.F (.lst (rec.map aR)),s4,s5,s6,s7]=some (.lst ((bu rec).map cel)):=by
 have e:(bu rec).map cel=(rec.filter λx=>decide (x.2≠sWa)).map λx=>cel x.1:=by unfold bu;rw[K_];rfl
 rw[e];exact bf (bp rfl) rfl (cj aR (λx=>cel x.1) (λx=>decide (x.2≠sWa)) rec λx hx=>⟨[.F (cel x.1),.F (.str x.2)],rfl,cG (MK rfl rfl),λ_=>rfl⟩) (by rw[c_];have:=O_ (λx:Pt×Str=>decide (x.2≠sWa)) rec;lia)
theorem Hj(rec:Rec)(s:Sh)(hn:s.n<=1000)(s0:Slot):bC eM (aP (cF (λenv=>((ab ah fNil) env).bind m_cells_of)) [0] (bw 0) (fB (aq (mK false) ag ah)) (aC ag) 1 [2]) [s0,.F s.d,.F (.lst ((bu rec).map cel))]=some (.int (jM rec s:Nat)):=by
 have hl:jM rec s<=s.cs.length:=O_ _ _;rw[sC]at hl;have c1:aP (cF (λenv=>((ab ah fNil) env).bind m_cells_of)) [0] (bw 0) (fB (aq (mK false) ag ah)) (aC ag) 1 [2] [s0,.F s.d,.F (.lst ((bu rec).map cel))]=some (.lst ((s.cs.filter λq=>decide (q∈bu rec)).map cel)):=bf (bp ((call_v (af rfl aA)).trans (fE s hn))) rfl (cj cel cel (λq=>decide (q∈bu rec)) s.cs λq hq=>⟨[.F (cel q),.F (.lst ((bu rec).map cel))],rfl,cG (wj rfl rfl),λ_=>rfl⟩) (by rw[c_];show jM rec s<=_;lia);rw[jV c1,c_];rfl
theorem J7(R C:Nat)(hR:R<=4)(hC:C<=5)(fl:X3)(hl:fl.length<=3)(hf:∀n∈fl,1<=n/\n<=4)(rec:Rec)(hr:rec.length<=1000)(s2 s4 s5 s6 s7:Slot):aP (AY ah) [0] (bw 0) Yt (aC (aP (cF (λenv=>((ab ah (ab ag fNil)) env).bind m_ships_of)) [0] (bw 0) (fB (λenv=>((ab ag (ab ah fNil)) env).bind m_ship_fits)) (aC ag) 1 [2])) 1 [0,3] [.F (.tup [.int R,.int C]),.F (jP fl),s2,.F (.lst (rec.map aR)),s4,s5,s6,s7]=some (.lst (tw (mX R C (λs=>cP s rec) fl))):=by
 have e:tw (mX R C (λs=>cP s rec) fl)=fl.map λl=>D.lst (((bR R C l).filter λs=>cP s rec).map Sh.d):=by unfold tw mX;rw[K_];rfl
 rw[e];exact bf (wy rfl) rfl (cI (λn:Nat=>D.int n) (λl=>.lst (((bR R C l).filter λs=>cP s rec).map Sh.d)) fl λl RD=>by
  have hl4:=hf l RD;refine⟨[.F (.int l),.F (.tup [.int R,.int C]),.F (.lst (rec.map aR))],rfl,gA (bf (bp ((call_v (af rfl (af rfl aA))).trans (y8 R C (by lia) (by lia) l hl4.1 (by lia)))) rfl (cj Sh.d Sh.d (λs=>cP s rec) (bR R C l) λs hs=>⟨[.F s.d,.F (.lst (rec.map aR))],rfl,cG ((call_v (af rfl (af rfl aA))).trans (vC s (by rw[jA hs];lia) rec hr)),λ_=>rfl⟩) ?_)⟩;rw[c_];have:=O_ (λs=>cP s rec) (bR R C l);have:=kT R C hR hC l
  lia) (by rw[c_];lia)
theorem E2(R C:Nat)(hR:R<=4)(hC:C<=5)(q:Sh->Bool)(fl:X3):∀A∈mX R C q fl,A.length<=40:=λA hA=>by
 obtain⟨l,_,rfl⟩:=u_.mp hA;exact G_ (O_ _ _) (kT R C hR hC l)
def jL(rec:Rec)(k:List L2.Key):D:=match k with
 | [.inl a,.inl b,.inr w,.inl n]=>.int (jM rec ⟨a,b,decide (w=sDn),n.toNat⟩:Nat)
 | _=>.non
theorem og(rec:Rec)(s:Sh):jL rec s.ks=.int (jM rec s:Nat):=by
 obtain⟨a,b,dn,n⟩:=s;unfold Sh.ks jL Sh.w;cases dn
 .have:decide (qh=sDn)=false:=by decide
  simp[this]
 .simp
theorem yX(R C:Nat)(hR:R<=4)(hC:C<=5)(fl:X3)(hl:fl.length<=3)(hf:∀n∈fl,1<=n/\n<=4)(q:Sh->Bool)(rec:Rec)(s0 s1 s2 s3 s6 s7:Slot):∃ks ds,gx Th.h (cF bV) [0] (bw 0) Yt (hW (cF ag) [1] (bw 1) Yt (fZ ah (bC eM (aP (cF (λenv=>((ab ah fNil) env).bind m_cells_of)) [0] (bw 0) (fB (aq (mK false) ag ah)) (aC ag) 1 [2])))) 2 [4] [s0,s1,s2,s3,.F (.lst ((bu rec).map cel)),.F (.lst (tw (mX R C q fl))),s6,s7]=some (.mp Th.h ks ds)/\∀A∈mX R C q fl,∀s∈A,aI ks ds s.ks=some (.int (jM rec s:Nat)):=by
 have g1:fW (bw 0) Yt (hW (cF ag) [1] (bw 1) Yt (fZ ah (bC eM (aP (cF (λenv=>((ab ah fNil) env).bind m_cells_of)) [0] (bw 0) (fB (aq (mK false) ag ah)) (aC ag) 1 [2])))) [.un,.un,.F (.lst ((bu rec).map cel))] ((mX R C q fl).map λA=>D.lst (A.map Sh.d))=some (((mX R C q fl).flatMap λA=>A).map λs=>D.tup [s.d,jL rec s.ks]):=by
  have key:∀cs:List (List Sh),(∀A∈cs,∀s∈A,s.n<=1000)->fW (bw 0) Yt (hW (cF ag) [1] (bw 1) Yt (fZ ah (bC eM (aP (cF (λenv=>((ab ah fNil) env).bind m_cells_of)) [0] (bw 0) (fB (aq (mK false) ag ah)) (aC ag) 1 [2])))) [.un,.un,.F (.lst ((bu rec).map cel))] (cs.map λA=>D.lst (A.map Sh.d))=some ((cs.flatMap λA=>A).map λs=>D.tup [s.d,jL rec s.ks]):=by
   intro cs
   induction cs with
   | nil=>intro _;rfl
   | cons A cs ih=>
    intro hA;have i1:=ih λB hB=>hA B (f_ _ hB);have g2:=cI (t:=bw 1) (k:=fZ ah (bC eM (aP (cF (λenv=>((ab ah fNil) env).bind m_cells_of)) [0] (bw 0) (fB (aq (mK false) ag ah)) (aC ag) 1 [2]))) (env:=[.F (.lst (A.map Sh.d)),.un,.F (.lst ((bu rec).map cel))]) Sh.d (λs=>D.tup [s.d,jL rec s.ks]) A λs hs=>⟨[.F (.lst (A.map Sh.d)),.F s.d,.F (.lst ((bu rec).map cel))],rfl,sQ rfl (by rw[og];exact Hj rec s (hA A g_ s hs) _) (yf s)⟩;have m1:=Dx (fi:=cF ag) (is:=[1]) (env:=[.F (.lst (A.map Sh.d)),.un,.F (.lst ((bu rec).map cel))]) (bp rfl) rfl g2;rw[A_,UD,H_];unfold fW;show(if true=true then hW (cF ag) [1] (bw 1) Yt _ [.F (.lst (A.map Sh.d)),.un,.F (.lst ((bu rec).map cel))]else some []).bind _=_;rw[j_ rfl,m1];show(fW _ _ _ _ _).bind _=_;rw[i1];rfl
  refine key _ λA hA s hs=>?_;obtain⟨l,RD,rfl⟩:=u_.mp hA;have:=jA (T8.mp hs).1;have:=hf l RD
  lia
 obtain⟨m,f1,f2,f3,f4⟩:=kX Sh.d Sh.ks yf (jL rec) ((mX R C q fl).flatMap λA=>A) ([],[]) rfl (λx hx=>by cases hx);refine⟨m.1,m.2,tE (bp rfl) rfl g1 ?_ f1,λA hA s hs=>?_⟩
 .rw[c_];have:=fm (g:=λA:List Sh=>A) (B:=40) (mX R C q fl) (E2 R C hR hC q fl);have h2:(mX R C q fl).length<=3:=by unfold mX;rw[c_];exact hl
  lia
 .rw[f4 s.ks ((f3 s.ks).mpr (.inr (Uq (UJ.mpr ⟨A,hA,hs⟩)))),og]
theorem wQ(g:Sh->Nat):∀h:List Sh,(h.map λs=>((g s:Nat):Int)).sum=(((h.map g).sum:Nat):Int)
 | []=>rfl
 | s::h=>by rw[A_,UP,wQ g h,A_,UP];push_cast;rfl
theorem D3:∀{cs:List (List Sh)}{h:List Sh},Mt cs h->∀s∈h,∃A∈cs,s∈A
 | [],[],_,s,hs=>by cases hs
 | [],_::_,m,_,_=>m.elim
 | _::_,[],_,s,hs=>by cases hs
 | A::cs,t::h,m,s,hs=>by
  rcases p_.mp hs with rfl | hs
  .exact⟨A,g_,m.1⟩
  .obtain⟨B,hB,h2⟩:=D3 m.2 s hs;exact⟨B,f_ _ hB,h2⟩
theorem PL.fitting{R C:Nat}{fl:X3}{ru:Str}(p:PL R C fl ru)(rec:Rec)(hr:rec.length<=1000)(nd:(rec.map Prod.fst).Nodup):∃X:List (List Sh),m_all_fitting [.tup [.int R,.int C],jP fl,.str ru,.lst (rec.map aR)]=some (.lst (X.map hidD))/\X.Perm ((bX R C ru fl fl.length).filter λh=>jt h rec):=by
 have hne:mX R C (λs=>cP s rec) fl≠[]:=λz=>by have:=UW List.length z;unfold mX at this;rw[c_,Ui]at this;have:=p.l0;lia
 have gv:(mX R C (λs=>cP s rec) fl).length=fl.length:=by unfold mX;rw[c_]
 have am:=wD ru p.ru (M:=40) (by decide) 4 (mX R C (λs=>cP s rec) fl) (by decide) hne (by rw[gv];have:=p.l3;lia) (E2 R C p.r4 p.c5 _ fl) (by rw[gv];exact G_ (ED p.l3) (by decide));have ap:=yJ R C ru p.up p.l0 (by have:=p.l3;lia) λs=>cP s rec;obtain⟨ks,ds,k1,k2⟩:=yX R C p.r4 p.c5 fl p.l3 p.sz (λs=>cP s rec) rec (.F (.tup [.int R,.int C])) (.F (jP fl)) (.F (.str ru)) (.F (.lst (rec.map aR))) .un .un;generalize hA:bQ ru 4 (mX R C (λs=>cP s rec) fl)=Y at am ap;have hY:∀h∈Y,∀s∈h,aI ks ds s.ks=some (.int (jM rec s:Nat)):=λh hh s hs=>by
  rw[<- hA,lZ ru 4 _ h hne (by rw[gv];have:=p.l3;lia)]at hh;obtain⟨A,hA,h2⟩:=D3 hh.1 s hs;exact k2 A hA s h2
 have hYl:Y.length<=64000:=by rw[ap.length_eq];exact G_ (O_ _ _) p.len
 have hY3:∀h∈Y,h.length<=3:=λh hh=>(p.hid (T8.mp (ap.mem_iff.mp hh)).1).len;refine⟨Y.filter λh=>decide ((h.map (jM rec)).sum=(bu rec).length),aY ((ak (aV (AZ rec hr _ _ _ _ _ _ _))).trans ((ak (aV (J7 R C p.r4 p.c5 fl p.l3 p.sz rec hr _ _ _ _ _))).trans ((ak (aV k1)).trans ((ak (aV ((call_v (af rfl (af rfl aA))).trans am))).trans (bG (bf (bp rfl) rfl (cj hidD hidD (λh=>decide ((h.map (jM rec)).sum=(bu rec).length)) Y λh hh=>by
  refine⟨[.F (hidD h),.F (.mp Th.h ks ds),.F (.lst ((bu rec).map cel))],rfl,?_,λ_=>rfl⟩;have c1:aP (AY ag) [0] (bw 0) Yt (aC (aq (getM Th.h) ah ag)) 1 [1] [.F (hidD h),.F (.mp Th.h ks ds),.F (.lst ((bu rec).map cel))]=some (.lst ((h.map λs=>((jM rec s:Nat):Int)).map .int)):=by
   rw[K_];exact bf (wy rfl) rfl (cI Sh.d (λs=>.int (jM rec s:Nat)) h λs hs=>⟨[.F s.d,.F (.mp Th.h ks ds)],rfl,gA (mN rfl rfl (yf s) (hY h hh s hs))⟩) (by rw[c_];have:=hY3 h hh;lia)
  have c2:bC HN (aP (AY ag) [0] (bw 0) Yt (aC (aq (getM Th.h) ah ag)) 1 [1]) [.F (hidD h),.F (.mp Th.h ks ds),.F (.lst ((bu rec).map cel))]=some (.int ((h.map (jM rec)).sum:Nat)):=by
   rw[kS c1];show(hU _).bind _=_;rw[jG];show some (D.int _)=_;rw[wQ]
  refine cG ((aX c2 (jV rfl)).trans ((Ko _ _).trans ?_));rw[c_];congr 2;rw[Uh,Xh,w_]
  lia) ?_)))))),?_⟩
 .rw[c_];have:=O_ (λh=>decide ((h.map (jM rec)).sum=(bu rec).length)) Y;lia
 .refine(ap.filter _).trans (List.Perm.of_eq ?_);rw[List.filter_filter];refine List.filter_congr λh hh=>?_;have fp:=A0 h (p.hid hh).ap rec nd;rw[Uh,C_,w_,D_,fp];exact And.comm
theorem k7(f:α->D)(I:List α->En->Prop):∀(xs pre:List α)(env:En),I pre env->(∀(p:List α)(x:α)(q:List α)(e:En),pre++xs=p++x::q->I p e->∃e1,(t (f x) e).bind body=some (.nx e1)/\I (p++[x]) e1)->∃e2,cK t body (xs.map f) env=some (.nx e2)/\I (pre++xs) e2
 | [],pre,env,h,_=>⟨env,rfl,by rw[Uz];exact h⟩
 | x::xs,pre,env,h,hs=>by
  obtain⟨e1,h1,h2⟩:=hs pre x xs env rfl h;obtain⟨e2,h3,h4⟩:=k7 f I xs (pre++[x]) e1 h2 λp y q e he hi=>hs p y q e (by rw[<- he];simp) hi;exact⟨e2,by rw[A_,As h1];exact h3,by rw[show pre++x::xs=pre++[x]++xs by simp];exact h4⟩
def cn(S:List Sh)(u:Sh):Nat:=(S.filter λt=>decide (t.ks=u.ks)).length
theorem ud(S:List Sh)(s u:Sh):cn (S++[s]) u=cn S u+if s.ks=u.ks then 1 else 0:=by
 unfold cn;rw[Xm,x_];congr 1
 by_cases h:s.ks=u.ks
 .rw[j_ h,Ua,j_ (by simpa using h)];rfl
 .rw[h_ h,Ua,h_ (by simpa using h)];rfl
theorem Hk(h:u∉S):cn S u=0:=by
 unfold cn;rw[List.length_eq_zero_iff,WJ];intro t ht e;exact h (kg (Uj e)▸ht)
theorem vF(q:List L2.Key)(x:D)(k:α->List L2.Key)(f:α->D):∀us:List α,bA (us.map k) (us.map f) q x=us.map λu=>if k u=q then x else f u
 | []=>rfl
 | u::us=>by
  show(if k u=q then x else f u)::bA (us.map k) (us.map f) q x=_;rw[vF q x k f us];rfl
theorem vG:∀{us:List Sh}{s:Sh},s∈us->aI (us.map Sh.ks) (us.map f) s.ks=some (f s)
 | [],s,h=>by cases h
 | u::us,s,h=>by
  show(if u.ks=s.ks then some (f u)else aI (us.map Sh.ks) (us.map f) s.ks)=_
  by_cases e:u.ks=s.ks
  .rw[j_ e,kg e]
  .rw[h_ e];rcases p_.mp h with rfl | h
   .exact absurd rfl e
   .exact vG h
theorem pF{us:List Sh}{s:Sh}:s.ks∈us.map Sh.ks↔s∈us:=⟨λh=>by obtain⟨u,hu,e⟩:=u_.mp h;exact kg e▸hu,Uq⟩
structure CI(S us:List Sh):Prop where
 nd:us.Nodup
 mem:∀u,u∈us↔u∈S
 len:us.length<=S.length
def cD(S us:List Sh):Yl:=us.map λu=>.int (cn S u:Nat)
open Classical in
theorem JY(S us:List Sh)(ci:CI S us)(hS:S.length<1000000)(s:Sh)(s0 s2:Slot):∃CH,CI (S++[s]) CH/\cb [s0,.O (.M Th.h (us.map Sh.ks) (cD S us)),s2,.F s.d]=some (.nx [s0,.O (.M Th.h (CH.map Sh.ks) (cD (S++[s]) CH)),s2,.F s.d]):=by
 have hlen:(us.map Sh.ks).length<16000000:=by rw[c_];have:=ci.len;lia
 have run:∀(j:Int),(aI (us.map Sh.ks) (cD S us) s.ks).getD (.int 0)=.int j->cb [s0,.O (.M Th.h (us.map Sh.ks) (cD S us)),s2,.F s.d]=some (.nx [s0,.O (.M Th.h (iR (us.map Sh.ks) s.ks) (m6 (us.map Sh.ks) (cD S us) s.ks (.int (j+1)))),s2,.F s.d]):=λj hj=>by
  have g:Au Th.h (λenv=>CN env 1) av Yo [s0,.O (.M Th.h (us.map Sh.ks) (cD S us)),s2,.F s.d]=some (.int j):=by
   show(rh Th.h (.mp Th.h (us.map Sh.ks) (cD S us))).bind _=_;rw[lR];show some ((aI (us.map Sh.ks) (cD S us) s.ks).getD (.int 0))=_;rw[hj]
  have g2:aq addI (Au Th.h (λenv=>CN env 1) av Yo) Yp [s0,.O (.M Th.h (us.map Sh.ks) (cD S us)),s2,.F s.d]=some (.int (j+1)):=(aX g rfl).trans (gO _ _);unfold cb xM;rw[g2];show(if Th.h=Th.h/\(us.map Sh.ks).length<16000000 then _ else _)=_;rw[j_ ⟨rfl,hlen⟩];rfl
 by_cases hs:s∈us
 .refine⟨us,⟨ci.nd,λu=>by rw[ci.mem u,Ub,y_];exact⟨.inl,λz=>z.elim id λe=>e▸(ci.mem s).mp hs⟩,by rw[x_];have:=ci.len;lia⟩,?_⟩;rw[run (cn S s:Nat) (by unfold cD;rw[vG hs];rfl)];unfold iR m6;rw[j_ (pF.mpr hs),j_ (pF.mpr hs)];congr 6;unfold cD;rw[vF];refine P_ λu _=>?_;rw[ud]
  by_cases e:u.ks=s.ks
  .rw[j_ e,j_ e.symm,kg e];push_cast;rfl
  .rw[h_ e,h_ (UB e)];rfl
 .have hn:s∉S:=λz=>hs ((ci.mem s).mpr z);refine⟨us++[s],⟨Us.mpr ⟨ci.nd,U7 _ _,λa ha b hb e=>by rw[y_.mp hb]at e;exact hs (e▸ha)⟩,λu=>by rw[Ub,Ub,ci.mem u],by rw[x_,x_];have:=ci.len;simp only[UG];lia⟩,?_⟩;rw[run 0 (by rw[gN (λz=>hs (pF.mp z))];rfl)];unfold iR m6;rw[h_ (λz=>hs (pF.mp z)),h_ (λz=>hs (pF.mp z)),H_];congr 6;unfold cD;rw[H_];congr 1
  .refine P_ λu hu=>?_;rw[ud,h_ λe=>hs (by rw[kg e];exact hu)];rfl
  .rw[List.map_singleton,ud,Hk hn,j_ rfl];rfl
theorem rX(X:List (List Sh))(hX:X.length<=64000)(h3:∀h∈X,h.length<=3):∃us,CI (X.flatMap id) us/\m_ship_counts [.lst (X.map hidD)]=some (.mp Th.h (us.map Sh.ks) (cD (X.flatMap id) us)):=by
 have w6:∀Y:List (List Sh),(∀h∈Y,h.length<=3)->(Y.flatMap id).length<=3*Y.length:=λY hY=>fm (g:=id) (B:=3) Y hY;obtain⟨e2,h1,us,s2,s3,rfl,ci⟩:=k7 (t:=bw 2) (body:=iM) hidD (λY e=>∃us s2 s3,e=[.F (.lst (X.map hidD)),.O (.M Th.h (us.map Sh.ks) (cD (Y.flatMap id) us)),s2,s3]/\CI (Y.flatMap id) us) X [] [.F (.lst (X.map hidD)),.O (.M Th.h [] []),.un,.un] ⟨[],.un,.un,rfl,VR,λu=>by simp,by simp⟩ λY h Z e hY aG=>by
  obtain⟨us,s2,s3,he,ci⟩:=aG;subst he;rw[Ud]at hY;have hl:(Y.flatMap id).length+3<1000000:=by
   have l1:=w6 Y λg hg=>h3 g (by rw[hY];simp[hg]);have l2:Y.length<=X.length:=by rw[hY];simp
   lia
  have hh3:h.length<=3:=h3 h (by rw[hY];simp);obtain⟨e3,g1,CH,xi,rfl,Tu⟩:=k7 (t:=bw 3) (body:=cb) Sh.d (λS e=>∃us s3,e=[.F (.lst (X.map hidD)),.O (.M Th.h (us.map Sh.ks) (cD (Y.flatMap id++S) us)),.F (hidD h),s3]/\CI (Y.flatMap id++S) us) h [] [.F (.lst (X.map hidD)),.O (.M Th.h (us.map Sh.ks) (cD (Y.flatMap id) us)),.F (hidD h),s3] ⟨us,s3,by rw[Uz],by rw[Uz];exact ci⟩ λS s T e hS aG=>by
   obtain⟨us,s3,he,ci⟩:=aG;subst he;rw[Ud]at hS;have:S.length<=h.length:=by rw[hS];simp
   obtain⟨CH,c1,c2⟩:=JY (Y.flatMap id++S) us ci (by rw[x_];lia) s (.F (.lst (X.map hidD))) (.F (hidD h));refine⟨_,fQ (e0:=[.F (.lst (X.map hidD)),.O (.M Th.h (us.map Sh.ks) (cD (Y.flatMap id++S) us)),.F (hidD h),.F s.d]) rfl c2,CH,.F s.d,?_,?_⟩
   .rw[<- U8]
   .rw[<- U8];exact c1
  rw[Ud]at g1 Tu;have ef:(Y++[h]).flatMap id=Y.flatMap id++h:=by rw[List.flatMap_append];simp
  refine⟨_,fQ (e0:=[.F (.lst (X.map hidD)),.O (.M Th.h (us.map Sh.ks) (cD (Y.flatMap id) us)),.F (hidD h),s3]) rfl ((bY (wy rfl)).trans g1),CH,.F (hidD h),xi,?_,?_⟩
  .rw[ef]
  .rw[ef];exact Tu
 rw[Ud]at h1 ci;exact⟨us,ci,aY ((ak (e:=[.F (.lst (X.map hidD)),.O (.M Th.h [] []),.un,.un]) rfl).trans ((ak ((bY (bp rfl)).trans h1)).trans rfl))⟩
def eh(R C:Nat)(sh:List Pt):List Pt:=(a9 R C).filter λp=>decide (p∉sh)
theorem Hg(ps:List Pt)(p:Pt):p∈An ps↔p∈ps:=by
 have:∀(l ks:List Pt),p∈l.foldl mo ks↔p∈ks\/p∈l:=by
  intro l
  induction l with
  | nil=>intro ks;simp
  | cons q l ih=>intro ks;rw[V3,ih,uA,p_];exact or_assoc
 unfold An;rw[this];simp
theorem Cn(R C:Nat)(hR:R<=4)(hC:C<=5)(rec:Rec)(hr:rec.length<=1000):m_unshot_cells [.tup [.int R,.int C],.lst (rec.map aR)]=some (.lst ((eh R C (rec.map Prod.fst)).map cel)):=by
 have s1:bC EL (λenv=>((ab ah fNil) env).bind m_shot_cells) [.F (.tup [.int R,.int C]),.F (.lst (rec.map aR)),.un]=some (.st (An (rec.map Prod.fst))):=KM ((call_v (af rfl aA)).trans (oP rec hr)) (v7 (λp=>rfl) _) (by rw[c_];lia);have hl:=ik R C;have OT:C*R<=5*4:=U1 hC hR;exact aY ((ak (aV s1)).trans (bG (bf (bp ((call_v (af rfl aA)).trans (nj R C (by lia) (by lia)))) rfl (cj cel cel (λp=>decide (p∉rec.map Prod.fst)) (a9 R C) λp hp=>⟨[.F (cel p),.F (.st (An (rec.map Prod.fst)))],rfl,cG (by
  show some (D.bl (!decide ((p.1,p.2)∈An (rec.map Prod.fst))))=_;congr 2;rw[Uh];simp only[Xy,VV,w_];exact not_congr (Hg _ _)),λ_=>rfl⟩) (by rw[c_];have:(eh R C (rec.map Prod.fst)).length<=(a9 R C).length:=O_ _ _;lia))))
def whole(L:List Pt)(u:Sh):List Pt:=u.cs.filter λp=>decide (p∈L)
structure Hm(L:List Pt)(ks:List (List L2.Key))(ds:List D)(g:Pt->Int):Prop where
 len:ds.length=ks.length
 kl:ks.length<=1000
 mem:∀x,x∈ks↔x∈L.map a8
 val:∀p∈L,aI ks ds (a8 p)=some (.int (g p))
theorem y0(n:Int):∀(ws:List Pt){ks:List (List L2.Key)}{ds:Yl}{g:Pt->Int},Hm L ks ds g->ws.Nodup->(∀p∈ws,p∈L)->∃ds',iq ks ds n (ws.map cel)=some ds'/\Hm L ks ds' λp=>g p+if p∈ws then n else 0
 | [],ks,ds,g,h,_,_=>⟨ds,rfl,h.len,h.kl,h.mem,λp hp=>by rw[h.val p hp];simp⟩
 | w::ws,ks,ds,g,h,nd,hw=>by
  obtain⟨n1,n2⟩:=VG.mp nd;have hwL:=hw w g_;have h1:Hm L ks (bA ks ds (a8 w) (.int (g w+n))) λp=>g p+if p=w then n else 0:=⟨by rw[l4];exact h.len,h.kl,h.mem,λp hp=>by
   rw[lW _ _ _ _ _ h.len]
   by_cases e:p=w
   .subst e;rw[j_ ⟨rfl,(h.mem _).mpr (fH.mpr hwL)⟩,j_ rfl]
   .rw[h_ λz=>e (pX z.1),h_ e,h.val p hp];simp⟩
  obtain⟨ds',g1,g2⟩:=y0 n ws h1 n2 λp hp=>hw p (f_ _ hp);refine⟨ds',?_,g2.len,g2.kl,g2.mem,λp hp=>?_⟩
  .show(fj (cel w)).bind _=_;rw[dE];show(aI ks ds (a8 w)).bind _=_;rw[h.val w hwL];exact g1
  .rw[g2.val p hp];congr 2
   by_cases e:p=w
   .subst e;rw[j_ rfl,h_ n1,j_ g_];lia
   .rw[h_ e]
    by_cases e2:p∈ws
    .rw[j_ e2,j_ (f_ _ e2)];lia
    .rw[h_ e2,h_ λz=>(p_.mp z).elim e e2];lia
theorem vN:∀(xs:Yl)(m m':List (List L2.Key)×Yl),Mi.foldM m xs=some m'->m'.1.length<=m.1.length+xs.length
 | [],m,m',h=>by cases h;simp
 | x::xs,m,m',h=>by
  unfold Mi.foldM at h
  split at h
  .rename_i e;cases e
  .rename_i k v r e;cases e;obtain⟨q,h1,h2⟩:=a_.mp h;have:=vN xs _ _ h2;have l2:(yg m q v).1.length<=m.1.length+1:=sq _ _;rw[z_];lia
  .cases h
theorem wx(L:List Pt)(hl:L.length<=1000)(s0 s1 s2 s4 s5 s6 s7 s8 s9 cR:Slot):∃ks ds,gx Th.h (cF av) [0] (bw 0) Yt (fZ ag Yo) 1 [] [s0,s1,s2,.F (.lst (L.map cel)),s4,s5,s6,s7,s8,s9,cR]=some (.mp Th.h ks ds)/\Hm L ks ds λ_=>0:=by
 have g1:=cI (t:=bw 0) (k:=fZ ag Yo) (env:=[.un]) cel (λp=>.tup [cel p,.int 0]) L λp hp=>⟨[.F (cel p)],rfl,sQ rfl rfl (dE p)⟩;obtain⟨m,f1,f2,f3,f4⟩:=kX cel a8 dE (λ_=>.int 0) L ([],[]) rfl (λx hx=>by cases hx);refine⟨m.1,m.2,tE (bp rfl) rfl g1 (by rw[c_];lia) f1,f2,by have:=vN _ _ _ f1;rw[c_]at this;simp only[Ui,Uc]at this;lia,λx=>by rw[f3 x];simp,λp hp=>f4 _ ((f3 _).mpr (.inr (Uq hp)))⟩
def gH(L:List Pt)(S pre:List Sh)(p:Pt):Int:=(pre.map λu=>if(whole L u).length=1 then(0:Int)else if p∈whole L u then(cn S u:Nat)else 0).sum
def gS'(L:List Pt)(S pre:List Sh)(p:Pt):Int:=(pre.map λu=>if(whole L u).length=1 then(if p∈whole L u then((cn S u:Nat):Int)else 0)else 0).sum
theorem kY(f:Sh->Int)(pre:List Sh)(u:Sh):((pre++[u]).map f).sum=(pre.map f).sum+f u:=by simp[XJ]
theorem He(ps:List Pt):pl (.lst (ps.map cel))=true:=by unfold pl;exact zC ps
abbrev eP(sh fo re:D)(L:List Pt)(k4:List (List L2.Key))(d4:Yl)(k5:List (List L2.Key))(d5:Yl)(s6 s7 s8 s9 cR:Slot):En:=[.F sh,.F fo,.F re,.F (.lst (L.map cel)),.O (.M Th.h k4 d4),.O (.M Th.h k5 d5),s6,s7,s8,s9,cR]
theorem JQ(L:List Pt)(u:Sh)(hn:u.n<=1000)(h4:Hm L k4 d4 g)(sh fo re:D)(k5:List (List L2.Key))(d5:Yl)(s7 s8 s9 cR:Slot) :
  GR 4 (aP (cF (λenv=>((ab cE fNil) env).bind m_cells_of)) [0] (bw 0) (fB (aq (IU Th.h false) ag ah)) (aC ag) 1 [4]) (eP sh fo re L k4 d4 k5 d5 (.F u.d) s7 s8 s9 cR)=some (.lst ((whole L u).map cel)):=by
 have g1:=cj (t:=bw 0) (c:=fB (aq (IU Th.h false) ag ah)) (k:=aC ag) (env:=[.un,.F (.mp Th.h k4 d4)]) cel cel (λp=>decide (p∈L)) u.cs λp hp=>⟨[.F (cel p),.F (.mp Th.h k4 d4)],rfl,cG (by
  show(rh Th.h (.mp Th.h k4 d4)).bind _=_;rw[lR];show some (D.bl (decide (a8 p∈k4)))=_;congr 2;rw[Uh,w_,w_,h4.mem,fH]),λ_=>rfl⟩
 have hl:(whole L u).length<=u.cs.length:=O_ _ _;rw[sC]at hl;have c1:aP (cF (λenv=>((ab cE fNil) env).bind m_cells_of)) [0] (bw 0) (fB (aq (IU Th.h false) ag ah)) (aC ag) 1 [4] [.F sh,.F fo,.F re,.F (.lst (L.map cel)),.F (.mp Th.h k4 d4),.O (.M Th.h k5 d5),.F u.d,s7,s8,s9,cR]=some (.lst ((whole L u).map cel)):=bf (bp ((call_v (af rfl aA)).trans (fE u hn))) rfl g1 (by rw[c_];show(whole L u).length<=_;lia);show((aP _ _ _ _ _ _ _ [.F sh,.F fo,.F re,.F (.lst (L.map cel)),.F (.mp Th.h k4 d4),.O (.M Th.h k5 d5),.F u.d,s7,s8,s9,cR]).bind λd=>if pl d=true then some d else none)=_;rw[c1];show(if pl (.lst ((whole L u).map cel))=true then some (D.lst ((whole L u).map cel))else none)=_;rw[j_ (He _)]
open Classical in
theorem part1(L:List Pt)(hL:L.length<=1000)(S pre:List Sh)(u:Sh)(hn:u.n<=1000)(h4:Hm L k4 d4 (gH L S pre))(h5:Hm L k5 d5 (gS' L S pre))(sh fo re:D)(s8 s9 cR:Slot) :
  ∃AR AS FB Ip s8' L5 qe,iA (eP sh fo re L k4 d4 k5 d5 (.F u.d) (.F (.int (cn S u:Nat))) s8 s9 cR)=some (.nx (eP sh fo re L k4 AR k5 AS FB Ip s8' L5 qe))/\Hm L k4 AR (gH L S (pre++[u]))/\Hm L k5 AS (gS' L S (pre++[u])):=by
 have w1:=JQ L u hn h4 sh fo re k5 d5 (.F (.int (cn S u:Nat))) s8 s9 cR;have nd:(whole L u).Nodup:=(lg u).filter _;have sub:∀p∈whole L u,p∈L:=λp hp=>Uj (T8.mp hp).2;have t1:fB (aq fV (bC eM dg) Yp) (eP sh fo re L k4 d4 k5 d5 (.F u.d) (.F (.int (cn S u:Nat))) (.F (.lst ((whole L u).map cel))) s9 cR)=some (((((whole L u).map cel).length:Nat):Int)==1):=cG ((aX (jV rfl) rfl).trans (Ko _ _));rw[c_]at t1
 by_cases hw:(whole L u).length=1
 .obtain⟨ds',a1,a2⟩:=y0 ((cn S u:Nat):Int) (whole L u) h5 nd sub;refine⟨d4,ds',.F u.d,.F (.int (cn S u:Nat)),.F (.lst ((whole L u).map cel)),.un,.un,(ak (aV w1)).trans ?_,⟨h4.len,h4.kl,h4.mem,λp hp=>?_⟩,⟨a2.len,a2.kl,a2.mem,λp hp=>?_⟩⟩
  .show Bk Th.h 9 5 4 10 7 8 _ (eP sh fo re L k4 d4 k5 d5 (.F u.d) (.F (.int (cn S u:Nat))) (.F (.lst ((whole L u).map cel))) s9 cR)=_;unfold Bk;rw[t1,show((((whole L u).length:Nat):Int)==1)=true by rw[hw];rfl];show(if Th.h=Th.h/\k5.length<16000000/\9<11/\10<11 then(iq k5 d5 ((cn S u:Nat):Int) ((whole L u).map cel)).bind _ else none)=_;rw[j_ ⟨rfl,by have:=h5.kl;lia,by lia,by lia⟩,a1];rfl
  .rw[h4.val p hp];unfold gH;rw[kY,j_ hw,WI]
  .rw[a2.val p hp];unfold gS';rw[kY,j_ hw]
 .obtain⟨ds',a1,a2⟩:=y0 ((cn S u:Nat):Int) (whole L u) h4 nd sub;refine⟨ds',d5,.F u.d,.F (.int (cn S u:Nat)),.F (.lst ((whole L u).map cel)),.un,.un,(ak (aV w1)).trans ?_,⟨a2.len,a2.kl,a2.mem,λp hp=>?_⟩,⟨h5.len,h5.kl,h5.mem,λp hp=>?_⟩⟩
  .show Bk Th.h 9 5 4 10 7 8 _ (eP sh fo re L k4 d4 k5 d5 (.F u.d) (.F (.int (cn S u:Nat))) (.F (.lst ((whole L u).map cel))) s9 cR)=_;unfold Bk;rw[t1,show((((whole L u).length:Nat):Int)==1)=false by rw[beq_eq_false_iff_ne];lia];show(if Th.h=Th.h/\k4.length<16000000/\9<11/\10<11 then(iq k4 d4 ((cn S u:Nat):Int) ((whole L u).map cel)).bind _ else none)=_;rw[j_ ⟨rfl,by have:=h4.kl;lia,by lia,by lia⟩,a1];rfl
  .rw[a2.val p hp];unfold gH;rw[kY,h_ hw]
  .rw[h5.val p hp];unfold gS';rw[kY,h_ hw,WI]
theorem oX(S:List Sh):∀us:List Sh,fG (us.map Sh.ks) (cD S us)=us.map λu=>.tup [u.d,.int (cn S u:Nat)]
 | []=>rfl
 | u::us=>by
  show D.tup [.tup (u.ks.map kD),.int (cn S u:Nat)]::fG (us.map Sh.ks) (cD S us)=_;rw[oX S us];rfl
theorem Dv(u:Sh):z0 u.ks=true:=by
 obtain⟨a,b,dn,n⟩:=u;unfold z0 Sh.ks Sh.w;have e1:PyData.strOk qh=true:=by decide +kernel
 have e2:PyData.strOk sDn=true:=by decide +kernel
 cases dn
 .show(true&&(true&&(PyData.strOk qh&&(true&&true))))=true;rw[e1];rfl
 .show(true&&(true&&(PyData.strOk sDn&&(true&&true))))=true;rw[e2];rfl
theorem Fj(h:f env=some (.mp th ks ds)):setM i f env=some (.nx (env.set i (.O (.M th ks ds)))):=by unfold setM;rw[h];rfl
theorem IR(h:f env=some (.mp th ks ds))(h1:ks.all z0=true)(h2:ds.length=ks.length):Mr th f env=some (fG ks ds):=by
 unfold Mr;rw[h];show(rh th (.mp th ks ds)).bind _=_;rw[lR];show(if(ks.all z0&&decide (ds.length=ks.length))=true then some (fG ks ds)else none)=_;rw[j_ (by rw[h1,v_ h2];rfl)]
def pv(N:Int)(g1 g2:Pt->Int):List L2.Key->D
 | [.inl a,.inl b]=>.tup [.int (N-g1 (a,b)-g2 (a,b)),.int (g1 (a,b)),.int (g2 (a,b))]
 | _=>.non
theorem Jy(N:Int)(g1 g2:Pt->Int)(p:Pt):pv N g1 g2 (a8 p)=.tup [.int (N-g1 p-g2 p),.int (g1 p),.int (g2 p)]:=rfl
theorem rE(k:α->D)(q:α->List L2.Key)(hk:∀a,fj (k a)=some (q a))(v:α->D):∀(as:List α)(m m':List (List L2.Key)×Yl),Mi.foldM m (as.map λa=>.tup [k a,v a])=some m'->m'.1=(as.map q).foldl iR m.1
 | [],m,m',h=>by cases h;rfl
 | a::as,m,m',h=>by
  have h2:(fj (k a)).bind (λq=>Mi.foldM (yg m q (v a)) (as.map λa=>.tup [k a,v a]))=some m':=h;rw[hk]at h2;exact rE k q hk v as _ m' h2
theorem D6(R C:Nat)(hR:R<=4)(hC:C<=5)(X:List (List Sh))(hX:X.length<=64000)(h3:∀h∈X,h.length<=3)(hn:∀h∈X,∀s∈h,s.n<=1000)(rec:Rec)(hr:rec.length<=1000) :
  ∃us ks ds,CI (X.flatMap id) us/\m_parts_in [.tup [.int R,.int C],.lst (X.map hidD),.lst (rec.map aR)]=some (.mp Th.h ks ds)/\ks=((eh R C (rec.map Prod.fst)).map a8).foldl iR []/\∀p∈eh R C (rec.map Prod.fst),aI ks ds (a8 p)=some (pv X.length (gH (eh R C (rec.map Prod.fst)) (X.flatMap id) us) (gS' (eh R C (rec.map Prod.fst)) (X.flatMap id) us) (a8 p)):=by
 have un:=Cn R C hR hC rec hr;have hL:(eh R C (rec.map Prod.fst)).length<=1000:=by
  have l1:(eh R C (rec.map Prod.fst)).length<=(a9 R C).length:=O_ _ _;have l2:=ik R C;have OT:C*R<=5*4:=U1 hC hR
  lia
 generalize eh R C (rec.map Prod.fst)=L at un hL ⊢;obtain⟨us,ci,cu⟩:=rX X hX h3;have RE:∀u∈us,u.n<=1000:=λu hu=>by
  obtain⟨h,hh,RC⟩:=UJ.mp ((ci.mem u).mp hu);exact hn h hh u RC
 generalize X.flatMap id=S at ci cu ⊢;obtain⟨k4,d4,a1,a2⟩:=wx L hL (.F (.tup [.int R,.int C])) (.F (.lst (X.map hidD))) (.F (.lst (rec.map aR))) .un .un .un .un .un .un .un;obtain⟨k5,d5,b1,b2⟩:=wx L hL (.F (.tup [.int R,.int C])) (.F (.lst (X.map hidD))) (.F (.lst (rec.map aR))) (.O (.M Th.h k4 d4)) .un .un .un .un .un .un;obtain⟨e2,l1,AR,AS,s6,s7,s8,s9,cR,rfl,i4,i5⟩:=k7 (t:=lU [6,7]) (body:=iA) (λu:Sh=>D.tup [u.d,.int (cn S u:Nat)]) (λpre e=>∃AR AS s6 s7 s8 s9 cR,e=eP (.tup [.int R,.int C]) (.lst (X.map hidD)) (.lst (rec.map aR)) L k4 AR k5 AS s6 s7 s8 s9 cR/\Hm L k4 AR (gH L S pre)/\Hm L k5 AS (gS' L S pre)) us [] (eP (.tup [.int R,.int C]) (.lst (X.map hidD)) (.lst (rec.map aR)) L k4 d4 k5 d5 .un .un .un .un .un) ⟨d4,d5,_,_,_,_,_,rfl,a2,b2⟩ λpre u post e hu aG=>by
  obtain⟨d4,d5,s6,s7,s8,s9,cR,he,i4,i5⟩:=aG;subst he;obtain⟨AR,AS,t6,t7,t8,t9,FD,p1,p2,p3⟩:=part1 L hL S pre u (RE u (by rw[Ud]at hu;rw[hu];simp)) i4 i5 (.tup [.int R,.int C]) (.lst (X.map hidD)) (.lst (rec.map aR)) s8 s9 cR;exact⟨_,fQ (e0:=eP (.tup [.int R,.int C]) (.lst (X.map hidD)) (.lst (rec.map aR)) L k4 d4 k5 d5 (.F u.d) (.F (.int (cn S u:Nat))) s8 s9 cR) rfl p1,AR,AS,t6,t7,t8,t9,FD,rfl,p2,p3⟩
 rw[Ud]at i4 i5;have it:=IR (th:=Th.h) (f:=λenv=>((ab ah fNil) env).bind m_ship_counts) (env:=eP (.tup [.int R,.int C]) (.lst (X.map hidD)) (.lst (rec.map aR)) L k4 d4 k5 d5 .un .un .un .un .un) ((call_v (af rfl aA)).trans cu) (D_.mpr λk hk=>by obtain⟨u,_,rfl⟩:=u_.mp hk;exact Dv u) (by unfold cD;rw[c_,c_]);rw[oX]at it;obtain⟨m,f1,f2,f3,f4⟩:=kX cel a8 dE (pv X.length (gH L S us) (gS' L S us)) L ([],[]) rfl (λx hx=>by cases hx);refine⟨us,m.1,m.2,ci,?_,rE cel a8 dE _ L ([],[]) m f1,λp hp=>f4 _ ((f3 _).mpr (.inr (Uq hp)))⟩;refine aY ((ak (aV ((call_v (af rfl (af rfl aA))).trans un))).trans ((ak (Fj a1)).trans ((ak (Fj b1)).trans ((ak ((bY it).trans l1)).trans ((ak (e:=[.F (.tup [.int R,.int C]),.F (.lst (X.map hidD)),.F (.lst (rec.map aR)),.F (.lst (L.map cel)),.F (.mp Th.h k4 AR),.O (.M Th.h k5 AS),s6,s7,s8,s9,cR]) rfl).trans ((ak (e:=[.F (.tup [.int R,.int C]),.F (.lst (X.map hidD)),.F (.lst (rec.map aR)),.F (.lst (L.map cel)),.F (.mp Th.h k4 AR),.F (.mp Th.h k5 AS),s6,s7,s8,s9,cR]) rfl).trans (bG (tE (bp rfl) rfl (cI cel (λp=>.tup [cel p,pv X.length (gH L S us) (gS' L S us) (a8 p)]) L λp hp=>by
  refine⟨[.F (cel p),.F (.lst (X.map hidD)),.F (.mp Th.h k4 AR),.F (.mp Th.h k5 AS)],rfl,?_⟩;have v4:aq (getM Th.h) aD ag [.F (cel p),.F (.lst (X.map hidD)),.F (.mp Th.h k4 AR),.F (.mp Th.h k5 AS)]=some (.int (gH L S us p)):=mN rfl rfl (dE p) (i4.val p hp);have v5:aq (getM Th.h) av ag [.F (cel p),.F (.lst (X.map hidD)),.F (.mp Th.h k4 AR),.F (.mp Th.h k5 AS)]=some (.int (gS' L S us p)):=mN rfl rfl (dE p) (i5.val p hp);have vl:bC eM ah [.F (cel p),.F (.lst (X.map hidD)),.F (.mp Th.h k4 AR),.F (.mp Th.h k5 AS)]=some (.int X.length):=by rw[jV (ds:=X.map hidD) rfl,c_]
  exact sQ rfl (iI (af ((aX ((aX vl v4).trans (IE _ _)) v5).trans (IE _ _)) (af v4 (af v5 aA)))) (dE p)) (by rw[c_];lia) f1))))))))
theorem jf:∀us:List α,(us.map λ_=>0).sum=0
 | []=>rfl
 | u::us=>by rw[A_,UP,jf us]
theorem Hh(S:List Sh)(s u:Sh):cn (s::S) u=(if s.ks=u.ks then 1 else 0)+cn S u:=by
 unfold cn;rw[Ua]
 by_cases h:s.ks=u.ks
 .rw[j_ h,j_ (by simpa using h),z_];lia
 .rw[h_ h,h_ (by simpa using h)];lia
theorem zA(w:Sh->Nat)(s:Sh):∀us:List Sh,us.Nodup->s∈us->(us.map λu=>w u*if s.ks=u.ks then 1 else 0).sum=w s
 | [],_,h=>by cases h
 | u::us,nd,h=>by
  obtain⟨n1,n2⟩:=VG.mp nd;rw[A_,UP]
  by_cases e:s=u
  .subst e;rw[j_ rfl,Nat.mul_one];have:(us.map λu=>w u*if s.ks=u.ks then 1 else 0)=us.map λ_=>0:=P_ λu hu=>by rw[h_ λz=>n1 (by rw[kg z];exact hu),Nat.mul_zero]
   rw[this,jf,Nat.add_zero]
  .rw[h_ λz=>e (kg z),Nat.mul_zero,Uc];exact zA w s us n2 ((p_.mp h).elim (λz=>absurd z e) id)
theorem sum_add(f g:Sh->Nat):∀us:List Sh,(us.map λu=>f u+g u).sum=(us.map f).sum+(us.map g).sum
 | []=>rfl
 | u::us=>by simp only[A_,UP,sum_add f g us];lia
theorem sJ(w:Sh->Nat)(us:List Sh)(nd:us.Nodup):∀S:List Sh,(∀s∈S,s∈us)->(us.map λu=>w u*cn S u).sum=(S.map w).sum
 | [],_=>by
  have:(us.map λu=>w u*cn [] u)=us.map λ_=>0:=P_ λu _=>rfl;rw[this,jf];rfl
 | s::S,h=>by
  have ih:=sJ w us nd S λt ht=>h t (f_ _ ht);have e:(us.map λu=>w u*cn (s::S) u)=us.map λu=>(w u*if s.ks=u.ks then 1 else 0)+w u*cn S u:=P_ λu _=>by rw[Hh,W1]
  rw[e,sum_add,zA w s us nd (h s g_),ih,A_,UP]
theorem lI(w:Sh->Nat):∀X:List (List Sh),((X.flatMap id).map w).sum=(X.map λh=>(h.map w).sum).sum
 | []=>rfl
 | h::X=>by rw[UD,H_,XJ,lI w X];rfl
theorem nQ(f:α->Bool):∀X:List α,(X.map λh=>if f h=true then 1 else 0).sum=(X.filter f).length
 | []=>rfl
 | h::X=>by
  rw[A_,UP,nQ f X,Ua];cases f h<;>simp<;>lia
def wH(L:List Pt)(p:Pt)(u:Sh):Nat:=if(whole L u).length=1 then 0 else if p∈whole L u then 1 else 0
def wS(L:List Pt)(p:Pt)(u:Sh):Nat:=if(whole L u).length=1 then(if p∈whole L u then 1 else 0)else 0
theorem ue(f:Sh->Nat):∀us:List Sh,(((us.map f).sum:Nat):Int)=(us.map λu=>((f u:Nat):Int)).sum
 | []=>rfl
 | u::us=>by rw[A_,UP,A_,UP,<- ue f us];push_cast;rfl
theorem Mb(L:List Pt)(ci:CI S us)(p:Pt):gH L S us p=((S.map (wH L p)).sum:Nat):=by
 rw[<- sJ (wH L p) us ci.nd S λs hs=>(ci.mem s).mpr hs,ue];unfold gH wH;congr 1;refine P_ λu _=>?_
 split
 .simp
 .split<;>simp
theorem Mj(L:List Pt)(ci:CI S us)(p:Pt):gS' L S us p=((S.map (wS L p)).sum:Nat):=by
 rw[<- sJ (wS L p) us ci.nd S λs hs=>(ci.mem s).mpr hs,ue];unfold gS' wS;congr 1;refine P_ λu _=>?_
 split
 .split<;>simp
 .simp
theorem jK:p∈a9 R C↔0<=p.1/\p.1<R/\0<=p.2/\p.2<C:=by
 unfold a9;rw[UJ];constructor
 .rintro⟨a,ha,h⟩;obtain⟨b,hb,rfl⟩:=u_.mp h;rw[UA]at ha hb;exact⟨by simp only;lia,by simp only;lia,by simp only;lia,by simp only;lia⟩
 .rintro⟨h1,h2,h3,h4⟩;obtain⟨x,y⟩:=p;obtain⟨a,rfl⟩:=Up h1;obtain⟨b,rfl⟩:=Up h3;exact⟨a,UA.mpr (by simp only at h2;lia),u_.mpr ⟨b,UA.mpr (by simp only at h4;lia),rfl⟩⟩
theorem pY(h1:1<=s.n)(h:s∈bR R C s.n):∀q∈s.cs,q∈a9 R C:=λq hq=>by
 obtain⟨⟨a,b,ea,eb,ha,hb⟩,_,h3,h4⟩:=mq.mp h;obtain⟨c1,c2,c3,c4⟩:=(pV h1 q).mp hq;rw[jK];unfold Sh.rz at c2;unfold Sh.cz at c4;cases hd:s.dn with
 | true=>
  have:=(h4 hd).1;rw[j_ hd]at c2 c4
  lia
 | false=>
  have:=h3 hd;rw[h_ (by rw[hd];simp)]at c2 c4
  lia
theorem kZ:p∈eh R C sh↔p∈a9 R C/\p∉sh:=by unfold eh;rw[T8,w_]
theorem c9:p∈whole L s↔p∈s.cs/\p∈L:=by unfold whole;rw[T8,w_]
theorem B9(on:∀q∈s.cs,q∈a9 R C)(hp:p∈s.cs)(hL:p∈eh R C sh):(whole (eh R C sh) s).length=1↔∀q∈s.cs,q∈sh++[p]:=by
 have nd:(whole (eh R C sh) s).Nodup:=(lg s).filter _;have hw:p∈whole (eh R C sh) s:=c9.mpr ⟨hp,hL⟩;constructor
 .intro h q hq;obtain⟨x,hx⟩:=List.length_eq_one_iff.mp h;rw[hx,y_]at hw;rw[Ub,y_]
  by_cases hs:q∈sh
  .exact .inl hs
  .right;have:q∈whole (eh R C sh) s:=c9.mpr ⟨hq,kZ.mpr ⟨on q hq,hs⟩⟩;rw[hx,y_]at this;rw[this,hw]
 .intro h;have:(whole (eh R C sh) s).Perm [p]:=(UT nd (U7 _ _)).mpr λq=>by
   rw[y_];constructor
   .intro hq;obtain⟨h1,h2⟩:=c9.mp hq;rcases Ub.mp (h q h1)with z | z
    .exact absurd z (kZ.mp h2).2
    .exact y_.mp z
   .rintro rfl;exact hw
  rw[this.length_eq];rfl
theorem w_sum(hL:p∈eh R C sh):∀h:List Sh,Apart h->(∀s∈h,∀q∈s.cs,q∈a9 R C)->
  (h.map (wH (eh R C sh) p)).sum=(if decide (eF h (sh++[p]) p=kO)=true then 1 else 0)/\(h.map (wS (eh R C sh) p)).sum=(if decide (eF h (sh++[p]) p=kN)=true then 1 else 0)
 | [],_,_=>by
  have e1:decide (sWa=kO)=false:=by decide
  have e2:decide (sWa=kN)=false:=by decide
  show 0=(if decide (sWa=kO)=true then 1 else 0)/\0=(if decide (sWa=kN)=true then 1 else 0);rw[e1,e2];exact⟨rfl,rfl⟩
 | s::h,ap,on=>by
  obtain⟨p1,p2⟩:=Ue.mp ap;obtain⟨i1,i2⟩:=w_sum hL h p2 λt ht=>on t (f_ _ ht);rw[A_,UP,A_,UP]
  by_cases hp:p∈s.cs
  .have z1:(h.map (wH (eh R C sh) p))=h.map λ_=>0:=P_ λt ht=>by unfold wH;rw[h_ (c:=p∈_) λz=>p1 t ht p hp (c9.mp z).1];split<;>rfl
   have z2:(h.map (wS (eh R C sh) p))=h.map λ_=>0:=P_ λt ht=>by unfold wS;rw[h_ (c:=p∈_) λz=>p1 t ht p hp (c9.mp z).1];split<;>rfl
   have hw:p∈whole (eh R C sh) s:=c9.mpr ⟨hp,hL⟩;have wo:=B9 (on s g_) hp hL;rw[z1,z2,eF,j_ hp];have e1:decide (kN=kO)=false:=by decide
   have e2:decide (kO=kN)=false:=by decide
   unfold wH wS;rw[j_ hw]
   by_cases hs:∀q∈s.cs,q∈sh++[p]
   .rw[j_ (wo.mpr hs),j_ (wo.mpr hs),j_ hs,e1,jf];simp
   .rw[h_ λz=>hs (wo.mp z),h_ λz=>hs (wo.mp z),h_ hs,e2,jf];simp
  .have z1:wH (eh R C sh) p s=0:=by unfold wH;rw[h_ (c:=p∈_) λz=>hp (c9.mp z).1];split<;>rfl
   have z2:wS (eh R C sh) p s=0:=by unfold wS;rw[h_ (c:=p∈_) λz=>hp (c9.mp z).1];split<;>rfl
   rw[z1,z2,Uc,Uc,eF,h_ hp];exact⟨i1,i2⟩
def gr(R C:Nat)(f:Pt->Int):List X4:=(List.range R).map λi=>(List.range C).map λj=>f (((i:Nat):Int),((j:Nat):Int))
theorem zF(n i:Nat)(g:Nat->α)(x:α):((List.range n).map g).set i x=(List.range n).map λk=>if k=i then x else g k:=by
 refine List.ext_getElem (by simp) λk h1 h2=>?_;rw[List.getElem_set];simp[eq_comm]
theorem sN(h:i<n):((List.range n).map g)[i]?=some (g i):=by
 rw[o_,Vp h];rfl
theorem GL(h:p∈a9 R C)(n:Int):xr (gr R C f) p.1 p.2 n=some (gr R C λq=>f q+if q=p then n else 0):=by
 obtain⟨h1,h2,h3,h4⟩:=jK.mp h;obtain⟨x,y⟩:=p;obtain⟨a,rfl⟩:=Up h1;obtain⟨b,rfl⟩:=Up h3;have ha:a<R:=by simp only at h2;lia
 have hb:b<C:=by simp only at h4;lia
 unfold xr;rw[j_ ⟨h1,h3⟩];show((gr R C f)[a]?).bind _=_;have e1:(gr R C f)[a]?=some ((List.range C).map λj=>f ((a:Int),((j:Nat):Int))):=sN ha;rw[e1];show(((List.range C).map λj=>f ((a:Int),((j:Nat):Int)))[b]?).bind _=_;rw[sN hb];show some ((gr R C f).set a (((List.range C).map λj=>f ((a:Int),((j:Nat):Int))).set b _))=_;rw[zF];unfold gr;rw[zF];congr 1;refine P_ λi _=>?_
 by_cases e:i=a
 .subst e;rw[j_ rfl];refine P_ λj _=>?_;dsimp only
  by_cases e2:j=b
  .subst e2;rw[j_ rfl,j_ rfl]
  .rw[h_ e2,h_ λz=>e2 (by have:=UW Prod.snd z;simp only at this;exact Int.ofNat.inj this),WI]
 .rw[h_ e];refine P_ λj _=>?_;dsimp only;rw[h_ λz=>e (by have:=UW Prod.fst z;simp only at this;exact Int.ofNat.inj this),WI]
theorem E4(n:Int):∀(ps:List Pt)(f:Pt->Int),ps.Nodup->(∀p∈ps,p∈a9 R C)->FE n (ps.map cel) (gr R C f)=some (gr R C λq=>f q+if q∈ps then n else 0)
 | [],f,_,_=>by show some (gr R C f)=_;simp
 | p::ps,f,nd,h=>by
  obtain⟨n1,n2⟩:=VG.mp nd;show(xr (gr R C f) p.1 p.2 n).bind _=_;rw[GL (h p g_)];show FE n (ps.map cel) _=_;rw[E4 n ps _ n2 λq hq=>h q (f_ _ hq)];congr 2;funext q
  by_cases e:q=p
  .subst e;rw[j_ rfl,h_ n1,j_ g_];lia
  .rw[h_ e]
   by_cases e2:q∈ps
   .rw[j_ e2,j_ (f_ _ e2)];lia
   .rw[h_ e2,h_ λz=>(p_.mp z).elim e e2];lia
def cw(p:Pt)(u:Sh):Nat:=if p∈u.cs then 1 else 0
theorem zP(S:List Sh):∀(us:List Sh)(f:Pt->Int),(∀u∈us,u.n<=1000/\∀q∈u.cs,q∈a9 R C)->oj (λs=>(m_cells_of [s]).bind lstO) (us.map λu=>D.tup [u.d,.int (cn S u:Nat)]) (gr R C f)=some (gr R C λq=>f q+((us.map λu=>cw q u*cn S u).sum:Nat))
 | [],f,_=>by show some (gr R C f)=_;simp
 | u::us,f,h=>by
  obtain⟨h1,h2⟩:=h u g_;show((m_cells_of [u.d]).bind lstO).bind _=_;rw[fE u h1];show(FE ((cn S u:Nat):Int) (u.cs.map cel) (gr R C f)).bind _=_;rw[E4 _ _ _ (lg u) h2];show oj _ _ _=_;rw[zP S us _ λv hv=>h v (f_ _ hv)];congr 2;funext q;rw[A_,UP];unfold cw
  by_cases e:q∈u.cs
  .rw[j_ e,j_ e];push_cast;lia
  .rw[h_ e,h_ e];push_cast;lia
def has(X:List (List Sh))(p:Pt):Nat:=(X.filter λh=>mj h p).length
theorem Kq(q:Pt)(h:List Sh)(ap:Apart h):(h.map (cw q)).sum=if mj h q=true then 1 else 0:=by
 have e:=sT [q] h ap;have e1:h.map (cw q)=h.map λs=>([q].filter λx=>decide (x∈s.cs)).length:=P_ λs _=>by
  unfold cw
  by_cases hq:q∈s.cs<;>simp[hq]
 rw[e1,e];cases hc:mj h q<;>simp[hc]
theorem G0(X:List (List Sh))(ap:∀h∈X,Apart h)(q:Pt):((X.flatMap id).map (cw q)).sum=has X q:=by
 rw[lI];unfold has;rw[<- nQ (λh=>mj h q) X];exact UW List.sum (P_ λh hh=>Kq q h (ap h hh))
def BP(R C:Nat)(X:List (List Sh)):D:=gD (gr R C λq=>(has X q:Nat))
theorem Mo:∀C:Nat,(List.replicate C [D.int 0]).flatten=((List.range C).map λ_=>(0:Int)).map .int:=λC=>by
 rw[show((List.range C).map λ_=>(0:Int))=List.replicate C 0 by rw[List.map_const',Vm]]
 induction C with
 | zero=>rfl
 | succ m ih=>rw[Uw,U_,ih,Uw,A_];rfl
theorem zx(ns:X4):∀L:X3,IA (L.map λ_=>.lst (ns.map .int))=some (L.map λ_=>ns)
 | []=>rfl
 | _::L=>by
  show(KF (ns.map .int)).bind _=_;rw[ug];show(IA _).bind _=_;rw[zx ns L];rfl
theorem Ll(h1:fc env=some (.lst xs))(h0:noO env=true/\i<env.length/\js<env.length/\jm<env.length/\jr<env.length/\jc<env.length)(h2:IA xs=some g)(h3:Jo (env.set i .un)=some ds)(h4:oj q ds g=some g'):z5 i js jm jr jc fc Jo q env=some (.rt (gD g')):=by
 unfold z5;rw[h1];show(if _ then(IA xs).bind _ else none)=_;rw[j_ h0,h2];show(Jo _).bind _=_;rw[h3];show(oj q ds g).bind _=_;rw[h4];rfl
theorem xH(R C:Nat)(hR:R<=4)(hC:C<=5)(X:List (List Sh))(hX:X.length<=64000)(hh:∀h∈X,Hid R C fl h):m_chances_in [.tup [.int R,.int C],.lst (X.map hidD)]=some (BP R C X):=by
 obtain⟨us,ci,cu⟩:=rX X hX λh z=>(hh h z).len;have RE:∀u∈us,u.n<=1000/\∀q∈u.cs,q∈a9 R C:=λu hu=>by
  obtain⟨h,h1,h2⟩:=UJ.mp ((ci.mem u).mp hu);have a:=(hh h h1).sz u h2;exact⟨by lia,pY a.1 ((hh h h1).on u h2)⟩
 have su:=λq=>(sJ (cw q) us ci.nd (X.flatMap id) λs hs=>(ci.mem s).mpr hs).trans (G0 X (λh z=>(hh h z).ap) q);generalize X.flatMap id=S at ci cu su;have g1:=cI (t:=bw 0) (k:=aC (aq Hc (b8 (ab Yo fNil)) ah)) (env:=[.un,.F (.int C)]) (λi:Nat=>D.int i) (λ_=>.lst (((List.range C).map λ_=>(0:Int)).map .int)) (List.range R) λi _=>⟨[.F (.int i),.F (.int C)],rfl,gA ((aX (DP (af rfl aA)) rfl).trans (by
  show(if(0:Int)<=C/\1*(C:Int).toNat<=16000000/\(C:Int)<1000000000 then some (D.lst (List.replicate (C:Int).toNat [.int 0]).flatten)else none)=_;rw[j_ ⟨by lia,by lia,by lia⟩,UQ,Mo]))⟩
 have it:=IR (th:=Th.h) (f:=λenv=>((ab ah fNil) env).bind m_ship_counts) (env:=[.F (.tup [.int R,.int C]),.F (.lst (X.map hidD)),.F (.int R),.F (.int C),.un,.un,.un,.un,.un]) ((call_v (af rfl aA)).trans cu) (D_.mpr λk hk=>by obtain⟨u,_,rfl⟩:=u_.mp hk;exact Dv u) (by unfold cD;rw[c_,c_]);rw[oX]at it;have o1:=zP (R:=R) (C:=C) S us (λ_=>0) RE;have e:(λq:Pt=>(0:Int)+(((us.map λu=>cw q u*cn S u).sum:Nat):Int))=λq=>((has X q:Nat):Int):=funext λq=>by rw[su q,Int.zero_add]
 rw[e]at o1;refine aY ((ak (e:=[.F (.tup [.int R,.int C]),.F (.lst (X.map hidD)),.F (.int R),.F (.int C),.un,.un,.un,.un,.un]) rfl).trans (Ll (bf (eO (n:=R) rfl (by lia)) rfl ?_ ?_) ⟨rfl,by simp,by simp,by simp,by simp,by simp⟩ (zx _ (List.range R)) it o1))
 .rw[D8];exact g1
 .rw[c_,Vm];lia
theorem Lh(hp:p∈a9 R C)(h1:f env=some (BP R C X))(h2:g env=some (.int p.1))(h3:k env=some (.int p.2)):aq aK (aq aK f g) k env=some (.int (has X p:Nat)):=by
 obtain⟨q1,q2,q3,q4⟩:=jK.mp hp;obtain⟨x,y⟩:=p;obtain⟨a,rfl⟩:=Up q1;obtain⟨b,rfl⟩:=Up q3;have ha:a<R:=by simp only at q2;lia
 have hb:b<C:=by simp only at q4;lia
 unfold BP gD gr at h1;refine gR (ds:=((List.range C).map λj=>((has X ((a:Int),((j:Nat):Int)):Nat):Int)).map .int) (gR h1 h2 (cZ ?_)) h3 (cZ ?_)
 .exact(by rw[K_,sN ha];rfl)
 .exact(by rw[K_,sN hb];rfl)
theorem Ky{ks:List Pt}(h:ks.Nodup)(p:Pt):(mo ks p).Nodup:=by
 unfold mo
 split
 .exact h
 .rename_i hp;exact Us.mpr ⟨h,U7 _ _,λa ha b hb e=>by rw[y_.mp hb]at e;exact hp (e▸ha)⟩
theorem HJ(s0 s3:Slot)(s:Sh)(hn:s.n<=1000)(ks:List Pt)(hk:ks.length<=15000)(Q4:ks.Nodup) :
  ∃ju xi,eN [s0,.O (sE ks),.F s.d,s3]=some (.nx [s0,.O (sE ju),.F s.d,xi])/\ju.length<=ks.length+s.n/\ju.Nodup/\∀q,q∈ju↔q∈ks\/q∈s.cs:=by
 have hlen:=sC s;obtain⟨e2,h1,ju,xi,h2,h3,RF,h4⟩:=fq (t:=bw 3) (body:=iK) (λj e=>∃ju xi,e=[s0,.O (sE ju),.F s.d,xi]/\ju.length<=ks.length+j/\ju.Nodup/\∀q,q∈ju↔q∈ks\/q∈s.cs.take j) (s.cs.map cel) 0 [s0,.O (sE ks),.F s.d,s3] ⟨ks,s3,rfl,by lia,Q4,λq=>by simp⟩ λi d e hd aG=>by
  obtain⟨ju,xi,he,h3,RF,h4⟩:=aG;subst he;rw[o_]at hd;obtain⟨q,hq,rfl⟩:=T_.mp hd;have hi:=(k_.mp hq).1;have u3:=AC ju (q.1,q.2);refine⟨_,fQ (e0:=[s0,.O (sE ju),.F s.d,.F (cel q)]) rfl (IB (ks:=ju) (a:=q.1) (b:=q.2) rfl rfl (by lia)),_,_,rfl,by lia,Ky RF _,λx=>?_⟩;rw[uA,h4,Uc,UZ,hq];simp only[Xl,Ub,y_,or_assoc]
 subst h2;rw[c_,Uc]at h3 h4;rw[UI]at h4;exact⟨ju,xi,(bY (bp ((call_v (af rfl aA)).trans (pK s hn)))).trans h1,by lia,RF,h4⟩
theorem qW(h:List Sh)(h3:h.length<=3)(hn:∀s∈h,s.n<=4):∃ks,m__law_ground [hidD h]=some (eH ks)/\ks.Nodup/\∀q,q∈ks↔mj h q=true:=by
 obtain⟨e2,g1,ks,s2,s3,g2,g3,g3n,g4⟩:=fq (t:=bw 2) (body:=eN) (λj e=>∃ks s2 s3,e=[.F (hidD h),.O (sE ks),s2,s3]/\ks.length<=4*j/\ks.Nodup/\∀q,q∈ks↔mj (h.take j) q=true) (h.map Sh.d) 0 [.F (hidD h),.O (sE []),.un,.un] ⟨[],.un,.un,rfl,by simp,.nil,λq=>by simp[mj]⟩ λi d e hd aG=>by
  obtain⟨ks,s2,s3,he,k3,k3n,k4⟩:=aG;subst he;rw[o_]at hd;obtain⟨s,hs,rfl⟩:=T_.mp hd;have hi:=(k_.mp hs).1;have hm:=hn s (I_ hs);obtain⟨ju,xi,u1,u2,u2n,u3⟩:=HJ (.F (hidD h)) s3 s (by lia) ks (by lia) k3n;refine⟨_,fQ (e0:=[.F (hidD h),.O (sE ks),.F s.d,s3]) rfl u1,ju,_,_,rfl,by lia,u2n,λq=>?_⟩;rw[u3,k4,Uc,UZ,hs];unfold mj;simp
 subst g2;rw[c_,Uc,UI]at g4;exact⟨ks,aY ((ak rfl).trans ((ak ((bY (wy rfl)).trans g1)).trans rfl)),g3n,g4⟩
theorem sZ(h:m_all_fitting [sh,fl,ru,re]=some (.lst (X.map hidD)))(hX:X≠[]):m_some_fitting [sh,fl,ru,re]=some (.lst (X.map hidD)):=by
 refine aY ((ak (aV ((call_v (af rfl (af rfl (af rfl (af rfl aA))))).trans h))).trans ((ak ((br ?_).trans rfl)).trans (bG rfl)));cases X with
 | nil=>exact absurd rfl hX
 | cons x X=>rfl
theorem zB{X:List (List Sh)}(h:m_all_fitting [sh,fl,ru,re]=some (.lst (X.map hidD))):m_how_many_fit [sh,fl,ru,re]=some (.int (X.length:Nat)):=
 aY (bG ((jV ((call_v (af rfl (af rfl (af rfl (af rfl aA))))).trans h)).trans (by rw[c_])))
theorem Jv(h:f env=some d):Aj f env=some (.nx env):=by unfold Aj;rw[h];rfl
theorem DT(h:m_all_fitting [sh,fl,ru,re]=some (.lst (X.map hidD)))(hX:X≠[])(hc:m_chances_in [sh,.lst (X.map hidD)]=some d):m_chances [sh,fl,ru,re]=some d:=
 aY (bG ((call_v (af rfl (af ((call_v (af rfl (af rfl (af rfl (af rfl aA))))).trans (sZ h hX)) aA))).trans hc))
theorem jy(sh:List Pt)(p:Pt):∀h:List Sh,eF h sh p=sWa\/eF h sh p=kO\/eF h sh p=kN
 | []=>.inl rfl
 | s::h=>by
  rw[eF]
  by_cases hp:p∈s.cs
  .rw[j_ hp]
   by_cases hq:∀q∈s.cs,q∈sh
   .rw[j_ hq];exact .inr (.inr rfl)
   .rw[h_ hq];exact .inr (.inl rfl)
  .rw[h_ hp];exact jy sh p h
theorem mD(f:List Sh->Str)(hf:∀h,f h=sWa\/f h=kO\/f h=kN):∀Y:List (List Sh),(Y.filter λh=>decide (f h=sWa)).length+(Y.filter λh=>decide (f h=kO)).length+(Y.filter λh=>decide (f h=kN)).length=Y.length
 | []=>rfl
 | h::Y=>by
  have ih:=mD f hf Y;rw[Ua,Ua,Ua,z_];have n1:decide (sWa=kO)=false:=by decide
  have n2:decide (sWa=kN)=false:=by decide
  have n3:decide (kO=sWa)=false:=by decide
  have n4:decide (kO=kN)=false:=by decide
  have n5:decide (kN=sWa)=false:=by decide
  have n6:decide (kN=kO)=false:=by decide
  have y1:decide (sWa=sWa)=true:=by decide
  have y2:decide (kO=kO)=true:=by decide
  have y3:decide (kN=kN)=true:=by decide
  rcases hf h with e | e | e
  .rw[e,y1,n1,n2,j_ rfl,h_ (by simp),h_ (by simp),z_];lia
  .rw[e,n3,y2,n4,j_ rfl,h_ (by simp),h_ (by simp),z_];lia
  .rw[e,n5,n6,y3,j_ rfl,h_ (by simp),h_ (by simp),z_];lia
def cW(X:List (List Sh))(sh:List Pt)(p:Pt)(w:Str):Int:=((X.filter λh=>decide (eF h (sh++[p]) p=w)).length:Nat)
def pD(X:List (List Sh))(sh:List Pt)(p:Pt):D:=.tup [.int (cW X sh p sWa),.int (cW X sh p kO),.int (cW X sh p kN)]
def mx(X:List (List Sh))(sh:List Pt)(p:Pt):Int:=[cW X sh p kO,cW X sh p kN].foldl (λa b=>if b>a then b else a) (cW X sh p sWa)
theorem JG(h:f env=some (pD X sh p)):bC yK f env=some (.int (mx X sh p)):=by
 unfold bC;rw[h];rfl
theorem keys_nodup:∀(qs ks:List (List L2.Key)),(ks++qs).Nodup->qs.foldl iR ks=ks++qs
 | [],ks,_=>by simp
 | q::qs,ks,h=>by
  have hq:q∉ks:=λz=>by
   have:=Us.mp h;exact this.2.2 q z q (by simp) rfl
  show qs.foldl iR (iR ks q)=_;rw[show iR ks q=ks++[q]from h_ hq];have:=keys_nodup qs (ks++[q]) (by simpa using h);rw[this];simp
theorem AX(hR:R<=4)(hC:C<=5)(sh:List Pt):((eh R C sh).map a8).Nodup:=by
 have h1:(xp R C).Nodup:=(mM ⟨R,by lia⟩ ⟨C,by lia⟩).1;have h2:(eh R C sh).Nodup:=(Wl (l:=a9 R C)).nodup (show(a9 R C).Nodup from h1);rw[List.Nodup,UK];exact h2.imp λhne e=>hne (pX e)
theorem rl(pl:PL R C fl ru)(rec:Rec)(hr:rec.length<=1000)(hd:∀h∈X,Hid R C fl h)(hl:X.length<=64000) :
  ∃ds,m_parts_in [.tup [.int R,.int C],.lst (X.map hidD),.lst (rec.map aR)]=some (.mp Th.h ((eh R C (rec.map Prod.fst)).map a8) ds)/\∀p∈eh R C (rec.map Prod.fst),aI ((eh R C (rec.map Prod.fst)).map a8) ds (a8 p)=some (pD X (rec.map Prod.fst) p):=by
 obtain⟨us,ks,ds,ci,q1,qk,q2⟩:=D6 R C pl.r4 pl.c5 X hl (λh hh=>(hd h hh).len) (λh hh s hs=>by have:=(hd h hh).sz s hs;lia) rec hr;have nd:=AX pl.r4 pl.c5 (rec.map Prod.fst);rw[keys_nodup _ [] (by simpa using nd),Ud]at qk;subst qk;refine⟨ds,q1,λp hL=>?_⟩;have q3:=q2 p hL;have on:∀h∈X,∀s∈h,∀q∈s.cs,q∈a9 R C:=λh hh s hs=>pY ((hd h hh).sz s hs).1 ((hd h hh).on s hs);rw[Jy,Mb _ ci,Mj _ ci,lI,lI]at q3;have e1:(X.map λh=>(h.map (wH (eh R C (rec.map Prod.fst)) p)).sum)=X.map λh=>if decide (eF h (rec.map Prod.fst++[p]) p=kO)=true then 1 else 0:=P_ λh hh=>(w_sum hL h (hd h hh).ap (on h hh)).1;have e2:(X.map λh=>(h.map (wS (eh R C (rec.map Prod.fst)) p)).sum)=X.map λh=>if decide (eF h (rec.map Prod.fst++[p]) p=kN)=true then 1 else 0:=P_ λh hh=>(w_sum hL h (hd h hh).ap (on h hh)).2;rw[e1,e2,nQ,nQ]at q3;have e3:=mD (λh=>eF h (rec.map Prod.fst++[p]) p) (λh=>jy _ _ h) X;have ew:(X.length-(X.filter λh=>decide (eF h (rec.map Prod.fst++[p]) p=kO)).length-(X.filter λh=>decide (eF h (rec.map Prod.fst++[p]) p=kN)).length:Int)=cW X (rec.map Prod.fst) p sWa:=by
  unfold cW;lia
 rw[ew]at q3;exact q3
theorem zT(g:D->Ym)(m:Pt->Int):∀L:List Pt,(∀p∈L,g (cel p)=some (.int (m p)))->o9 g (L.map cel)=some (L.map m)
 | [],_=>rfl
 | p::L,h=>by
  show(g (cel p)).bind _=_;rw[h p (by simp)];show(o9 g (L.map cel)).bind _=_;rw[zT g m L λq hq=>h q (f_ _ hq)];rfl
theorem FX(L:List Pt):(L.map a8).all z0=true:=by
 rw[D_];intro k hk;obtain⟨p,_,rfl⟩:=u_.mp hk
 rfl
theorem GV{L:List Pt}(h:f env=some (.mp Th.h (L.map a8) ds)):bC (vy Th.h) f env=some (.lst (L.map cel)):=by
 unfold bC;rw[h];show(rh Th.h _).bind _=_;rw[lR];show(if(L.map a8).all z0=true then _ else none)=_;rw[j_ (FX L),K_]
 rfl
theorem Cj(R C:Nat)(rec:Rec)(hr:rec.length<=1000)(p:Pt)(hp:p∈eh R C (rec.map Prod.fst)):m_refuse_shot [.tup [.int R,.int C],.lst (rec.map aR),cel p]=some .non:=by
 obtain⟨h1,h2⟩:=kZ.mp hp;obtain⟨q1,q2,q3,q4⟩:=jK.mp h1;obtain⟨a,b⟩:=p;have c:m_is_cell [.tup [.int R,.int C],.tup [.int a,.int b]]=some (.bl true):=by
  refine aY ((ak ((br rfl).trans rfl)).trans ((ak (j0 (ds:=[.int a,.int b]) rfl rfl)).trans (bG ?_)));refine(we rfl).trans ((we rfl).trans ((Ax (CQ (x:=.int 0) (y:=.int a) (w:=.int R) rfl rfl rfl (wm _ _) (CW _ _)) λ_=>CQ (x:=.int 0) (y:=.int b) (w:=.int C) rfl rfl rfl (wm _ _) (CW _ _)).trans ?_));rw[v_ q1,v_ q2,v_ q3,v_ q4];rfl
 have t1:kF (fB (λenv=>((ab ag (ab aD fNil)) env).bind m_is_cell)) [.F (.tup [.int R,.int C]),.F (.lst (rec.map aR)),.F (cel (a,b))]=some false:=vq (b:=true) (cG ((call_v (af rfl (af rfl aA))).trans c));have t2:fB (aq (mK false) aD (λenv=>((ab ah fNil) env).bind m_shot_cells)) [.F (.tup [.int R,.int C]),.F (.lst (rec.map aR)),.F (cel (a,b))]=some false:=cG ((wj rfl ((call_v (af rfl aA)).trans (oP rec hr))).trans (by rw[L_ h2]));show((az (gC _ _ _) (gC _ _ _) [.F (.tup [.int R,.int C]),.F (.lst (rec.map aR)),.F (cel (a,b))]).bind _)=_;rw[(ak ((br t1).trans rfl)).trans ((br t2).trans rfl)];rfl
theorem o5(pl:PL R C fl ru)(rec:Rec)(hr:rec.length<=1000)(hX:m_all_fitting [.tup [.int R,.int C],jP fl,.str ru,.lst (rec.map aR)]=some (.lst (X.map hidD)))(hne:X≠[])(hd:∀h∈X,Hid R C fl h)(hl:X.length<=64000)(p:Pt)(hp:p∈eh R C (rec.map Prod.fst)):m_parts_of [.tup [.int R,.int C],jP fl,.str ru,.lst (rec.map aR),cel p]=some (pD X (rec.map Prod.fst) p):=by
 obtain⟨ds,q1,q2⟩:=rl pl rec hr hd hl;have g:=mN (th:=Th.h) (f:=λenv=>((ab ag (ab bV (ab av fNil))) env).bind m_parts_in) (g:=λenv=>cy env 4) (env:=[.F (.tup [.int R,.int C]),.F (jP fl),.F (.str ru),.F (.lst (rec.map aR)),.F (cel p),.F (.lst (X.map hidD))]) ((call_v (af rfl (af rfl (af rfl aA)))).trans q1) rfl (dE p) (q2 p hp);refine aY ((ak (aV ((call_v (af rfl (af rfl (af rfl (af rfl aA))))).trans (sZ hX hne)))).trans ((ak (Jv ((call_v (af rfl (af rfl (af rfl aA)))).trans (Cj R C rec hr p hp)))).trans (bG g)))
theorem uT(ns:X4)(h:ns≠[]):dZ ns<ns.length:=by
 refine List.findIdx_lt_length.mpr ?_;have:∀ns:X4,ns≠[]->∃x∈ns,∀y∈ns,x<=y:=by
  intro ns
  induction ns with
  | nil=>intro h;exact absurd rfl h
  | cons n ns ih=>
   intro _
   by_cases hz:ns=[]
   .subst hz;exact⟨n,by simp,λy hy=>by rw[y_.mp hy];exact Ww _⟩
   .obtain⟨x,h1,h2⟩:=ih hz
    by_cases hx:n<=x
    .exact⟨n,by simp,λy hy=>by
      rcases p_.mp hy with rfl | hy
      .exact Ww _
      .exact WD hx (h2 y hy)⟩
    .exact⟨x,f_ _ h1,λy hy=>by
      rcases p_.mp hy with rfl | hy
      .lia
      .exact h2 y hy⟩
 obtain⟨x,h1,h2⟩:=this ns h;exact⟨x,h1,D_.mpr λy hy=>v_ (h2 y hy)⟩
theorem Cb(pl:PL R C fl ru)(rec:Rec)(hr:rec.length<=1000)(hd:∀h∈X,Hid R C fl h)(hl:X.length<=64000)(hL:eh R C (rec.map Prod.fst)≠[]):∃b,(eh R C (rec.map Prod.fst))[dZ ((eh R C (rec.map Prod.fst)).map (mx X (rec.map Prod.fst)))]?=some b/\m_best_in [.tup [.int R,.int C],.lst (X.map hidD),.lst (rec.map aR)]=some (.tup [cel b,pD X (rec.map Prod.fst) b]):=by
 obtain⟨ds,q1,q2⟩:=rl pl rec hr hd hl;generalize eh R C (rec.map Prod.fst)=L at q1 q2 hL ⊢;have hlt:dZ (L.map (mx X (rec.map Prod.fst)))<L.length:=by have:=uT (L.map (mx X (rec.map Prod.fst))) (by simpa using hL);simpa using this
 obtain⟨b,hbm,H8⟩:∃b,b∈L/\L[dZ (L.map (mx X (rec.map Prod.fst)))]?=some b:=⟨L[dZ (L.map (mx X (rec.map Prod.fst)))],Ut hlt,l_ hlt⟩;refine⟨b,H8,?_⟩;have t:kF (QK Th.h av) [.F (.tup [.int R,.int C]),.F (.lst (X.map hidD)),.F (.lst (rec.map aR)),.F (.mp Th.h (L.map a8) ds),.un]=some false:=by
  refine vq (b:=true) ?_;show(rh Th.h (.mp Th.h (L.map a8) ds)).bind _=_;rw[lR];cases L with
  | nil=>exact absurd rfl hL
  | cons _ _=>rfl
 have v:Hu (bC (vy Th.h) av) [3] (bC yK (aq (getM Th.h) ah ag)) [.F (.tup [.int R,.int C]),.F (.lst (X.map hidD)),.F (.lst (rec.map aR)),.F (.mp Th.h (L.map a8) ds),.un]=some (cel b):=by
  unfold Hu;rw[GV (L:=L) (ds:=ds) rfl];show(o9 _ (L.map cel)).bind _=_;rw[zT _ (mx X (rec.map Prod.fst)) L λp hp=>JG (mN rfl rfl (dE p) (q2 p hp))];show(L.map cel)[dZ _]?=_;rw[o_,H8];rfl
 have g:=mN (th:=Th.h) (f:=λenv=>cy env 3) (g:=λenv=>cy env 4) (env:=[.F (.tup [.int R,.int C]),.F (.lst (X.map hidD)),.F (.lst (rec.map aR)),.F (.mp Th.h (L.map a8) ds),.F (cel b)]) rfl rfl (dE b) (q2 b hbm);exact aY ((ak (aV ((call_v (af rfl (af rfl (af rfl aA)))).trans q1))).trans ((ak ((br t).trans rfl)).trans ((ak (aV v)).trans (bG (iI (af rfl (af g aA)))))))
theorem GK(pl:PL R C fl ru)(rec:Rec)(hr:rec.length<=1000)(hX:m_all_fitting [.tup [.int R,.int C],jP fl,.str ru,.lst (rec.map aR)]=some (.lst (X.map hidD)))(hne:X≠[])(hd:∀h∈X,Hid R C fl h)(hl:X.length<=64000)(hL:eh R C (rec.map Prod.fst)≠[]):∃b,(eh R C (rec.map Prod.fst))[dZ ((eh R C (rec.map Prod.fst)).map (mx X (rec.map Prod.fst)))]?=some b/\m_best_shot [.tup [.int R,.int C],jP fl,.str ru,.lst (rec.map aR)]=some (.tup [cel b,pD X (rec.map Prod.fst) b]):=by
 obtain⟨b,h1,h2⟩:=Cb pl rec hr hd hl hL;exact⟨b,h1,aY (bG ((call_v (af rfl (af ((call_v (af rfl (af rfl (af rfl (af rfl aA))))).trans (sZ hX hne)) (af rfl aA)))).trans h2))⟩
end K15
namespace K15
open PySem Mi
open PySem.W (KasT kas_sort)
variable [Th]
omit [Th] in
theorem qV{α:Type}{n:Nat}{P:α->Prop}{lt lt':Nat->Nat->Bool}(h:∀i j,i<n->j<n->lt i j=lt' i j):∀{t:KasT α},sA n P t->gX lt t=gX lt' t
 | .ret _,_=>rfl
 | .ask i j k,⟨g,q⟩=>by
  show gX lt (k (lt i j))=gX lt' (k (lt' i j));rw[h i j g.1 g.2];exact qV h (q _)
def num(p:Pt):Int:=p.1*8+p.2
omit [Th] in
theorem zr{p q:Pt}(hp:0<=p.2/\p.2<8)(hq:0<=q.2/\q.2<8):dO (a8 p) (a8 q)=some (decide (num p<num q)):=by
 obtain⟨a,b⟩:=p;obtain⟨c,d⟩:=q;show(if(Sum.inl a:L2.Key)=.inl c then(if(Sum.inl b:L2.Key)=.inl d then some false else some (decide (b<d)))else some (decide (a<c)))=some (decide (a*8+b<c*8+d));simp only at hp hq
 by_cases e:a=c
 .subst e;rw[j_ rfl]
  by_cases e:b=d
  .subst e;rw[j_ rfl,L_ (by lia)]
  .rw[h_ (λz=>e (Sum.inl.inj z))];congr 1
   by_cases g:b<d
   .rw[v_ g,v_ (by lia)]
   .rw[L_ g,L_ (by lia)]
 .rw[h_ (λz=>e (Sum.inl.inj z))];congr 1
  by_cases g:a<c
  .rw[v_ g,v_ (by lia)]
  .rw[L_ g,L_ (by lia)]
omit [Th] in
theorem Jf{α:Type}(f:α->Int):∀{l1 l2:List α},l1.Perm l2->l1.Pairwise (λx y=>f x<=f y)->l2.Pairwise (λx y=>f x<f y)->l1=l2
 | [],l2,p,_,_=>p.nil_eq
 | x::l1,[],p,_,_=>by have:=p.length_eq;simp at this
 | x::l1,y::l2,p,h1,h2=>by
  obtain⟨a1,a2⟩:=Ue.mp h1;obtain⟨b1,b2⟩:=Ue.mp h2;have hx:x∈y::l2:=p.mem_iff.mp (g_ ..);have hy:y∈x::l1:=p.mem_iff.mpr (g_ ..);have e:x=y:=by
   rcases p_.mp hx with e | hx
   .exact e
   .rcases p_.mp hy with e | hy
    .exact e.symm
    .have:=a1 y hy;have:=b1 x hx
     lia
  subst e;rw[Jf f (List.Perm.cons_inv p) a2 b2]
omit [Th] in
theorem pE{α:Type}(L:List α)(z:α):(List.range L.length).map (λi=>L.getD i z)=L:=by
 apply List.ext_getElem
 .simp
 .intro i h1 h2;simp[s_,h2]
theorem yC(L L':List Pt)(hp:L'.Perm L)(h8:∀p∈L,0<=p.2/\p.2<8)(up:L.Pairwise λp q=>num p<num q)(hl:L.length<64):rm (.lst (L'.map cel))=some (.lst (L.map cel)):=by
 have hn:=hp.length_eq;have PP:∀p∈L',0<=p.2/\p.2<8:=λp h=>h8 p (hp.mem_iff.mp h);have lx:∀i j,i<(L'.map a8).length->j<(L'.map a8).length->Mm (L'.map a8) i j=kl (λi=>num (L'.getD i (0,0))) i j:=λi j hi hj=>by
  rw[c_]at hi hj;unfold Mm kl;have e:∀i,(hi:i<L'.length)->(L'.map a8).getD i []=a8 (L'.getD i (0,0))/\L'.getD i (0,0)∈L':=λi hi=>by
   rw[s_,s_,o_,l_ hi];exact⟨rfl,Ut hi⟩
  rw[(e i hi).1,(e j hj).1,zr (PP _ (e i hi).2) (PP _ (e j hj).2)];rfl
 have hM:(hJ (L'.map a8)).map (λi=>L'.getD i (0,0))=L:=by
  by_cases h2:(L'.map a8).length<2
  .unfold hJ;rw[j_ h2,c_,pE];rw[c_]at h2
   match L',L,hp,h2 with
   | [],L,hp,_=>exact hp.nil_eq
   | [x],L,hp,_=>exact(List.perm_singleton.mp hp.symm).symm
  .have hd:∀i j,i<j->j<(L'.map a8).length->num (L'.getD i (0,0))≠num (L'.getD j (0,0)):=λi j hij hj=>by
    rw[c_]at hj;have nd:(L'.map num).Nodup:=((hp.map num).nodup_iff).mpr (by rw[List.Nodup,UK];exact up.imp λh e=>by lia);intro z;rw[s_,s_,l_ hj,l_ (by lia:i<L'.length)]at z;have:=(XA (xs:=L'.map num) (i:=i) (j:=j) (h₀:=by simp;lia) (h₁:=by simp;lia) nd).mp (by simpa using z)
    lia
   obtain⟨s1,s2⟩:=Hr (key:=λi=>num (L'.getD i (0,0))) (n:=(L'.map a8).length) (by lia) hd;unfold hJ;rw[h_ h2,qV lx (nT (by lia))];refine Jf num ?_ (by rw[UK];exact s2) up;have:=s1.map λi=>L'.getD i (0,0);rw[c_,pE]at this;rw[c_];exact this.trans hp
 show(l' (L'.map cel)).bind _=_;rw[pU];show(if _ then _ else none)=_;have hx:yE (L'.map a8)=true:=by
  unfold yE;rw[C_,D_,D_];refine⟨λx hx=>?_,λx hx=>D_.mpr λy hy=>?_⟩
  .obtain⟨p,_,rfl⟩:=u_.mp hx;rfl
  .obtain⟨p,h1,rfl⟩:=u_.mp hx;obtain⟨q,h2,rfl⟩:=u_.mp hy;rw[zr (PP p h1) (PP q h2)];rfl
 rw[j_ ⟨by rw[c_];lia,hx⟩];congr 2;rw[<- hM,K_];refine P_ λi hi=>?_;have hi':=sk i hi;rw[c_]at hi';show(L'.map cel).getD i .non=cel (L'.getD i (0,0));rw[s_,s_,o_,l_ hi'];rfl
theorem MT:∀R:Fin 5,∀C:Fin 6,(xp R C).Pairwise (λp q=>num p<num q)/\∀p∈xp R C,0<=p.2/\p.2<8:=by decide +kernel
end K15
namespace K15
open PySem Mi
variable [Th]
theorem sP(sh:List Pt)(p:Pt):∀h:List Sh,eF h sh p=sWa↔mj h p=false
 | []=>⟨λ_=>rfl,λ_=>rfl⟩
 | s::h=>by
  have ih:=sP sh p h;have n1:kN≠sWa:=by decide
  have n2:kO≠sWa:=by decide
  have e:mj (s::h) p=(decide (p∈s.cs)||mj h p):=rfl;rw[eF,e]
  by_cases hp:p∈s.cs
  .rw[j_ hp,v_ hp,Bool.true_or];constructor
   .intro z;split at z
    .exact absurd z n1
    .exact absurd z n2
   .intro z;cases z
  .rw[h_ hp,L_ hp,Bool.false_or];exact ih
theorem z3{α:Type}(f:α->Bool):∀X:List α,(X.filter λh=>!f h).length+(X.filter f).length=X.length
 | []=>rfl
 | x::X=>by
  have:=z3 f X;rw[Ua,Ua,z_];cases f x
  .simp;lia
  .simp;lia
theorem Cp(X:List (List Sh))(sh:List Pt)(p:Pt):cW X sh p sWa+cW X sh p kO+cW X sh p kN=(X.length:Nat)/\cW X sh p kO+cW X sh p kN=(has X p:Nat):=by
 have e:=mD (λh=>eF h (sh++[p]) p) (λh=>jy _ _ h) X;have e2:(X.filter λh=>decide (eF h (sh++[p]) p=sWa)).length+(X.filter λh=>mj h p).length=X.length:=by
  have:(λh=>decide (eF h (sh++[p]) p=sWa))=λh:List Sh=>!mj h p:=by
   funext h;have:=sP (sh++[p]) p h;cases hc:mj h p
   .exact v_ (this.mpr hc)
   .exact L_ λz=>by have:=this.mp z;rw[hc]at this;cases this
  rw[this];exact z3 (λh=>mj h p) X
 unfold cW has;constructor<;>lia
def rk(h:List Sh)(qs:List Pt)(k:Nat):Rec:=(qs.take k).zip (walk h [] (qs.take k))
theorem gz(h:List Sh)(qs:List Pt)(k:Nat):(rk h qs k).map Prod.fst=qs.take k:=List.map_fst_zip (by rw[je];exact m_ _)
theorem Eh(h:List Sh)(qs:List Pt)(k:Nat):(rk h qs k).map Prod.snd=walk h [] (qs.take k):=List.map_snd_zip (by rw[je];exact m_ _)
theorem yI(h:List Sh)(qs:List Pt)(k:Nat):jt h (rk h qs k)=true:=by unfold jt;rw[gz,Eh];exact v_ rfl
theorem ox(h:List Sh)(qs:List Pt)(k:Nat)(hq:qs.length<=20):(rk h qs k).length<=20:=by rw[<- c_ (f:=Prod.fst),gz,Vw];lia
theorem Af(h:List Sh)(qs:List Pt)(k:Nat)(p:Pt)(hk:qs[k]?=some p):rk h qs (k+1)=rk h qs k++[(p,eF h (qs.take k++[p]) p)]:=by
 unfold rk;rw[UZ,hk];show(qs.take k++[p]).zip (walk h [] (qs.take k++[p]))=_;rw[fw,Ud,List.zip_append (by rw[je])];rfl
theorem EW(h:List Sh)(r:Rec)(p:Pt)(a:Str):jt h (r++[(p,a)])=(jt h r&&decide (eF h (r.map Prod.fst++[p]) p=a)):=by
 unfold jt;rw[H_,H_];show decide (walk h [] (r.map Prod.fst++[p])=r.map Prod.snd++[a])=_;rw[fw,Ud,Uh,C_,w_,w_,w_];constructor
 .intro e;obtain⟨e1,e2⟩:=Wi e rfl;exact⟨e1,(List.cons.inj e2).1⟩
 .rintro⟨e1,e2⟩;rw[e1,e2]
theorem vM(hR:R<=4)(hC:C<=5)(qs:List Pt)(o2:qs.Perm (xp R C))(k:Nat):(qs.drop k).Perm (eh R C (qs.take k)):=by
 have c1:=(mM ⟨R,by lia⟩ ⟨C,by lia⟩).1;have nq:qs.Nodup:=o2.nodup_iff.mpr c1;have hd:∀p,p∈qs.drop k↔p∈qs/\p∉qs.take k:=λp=>by
  have e:=Vc k qs;have nd:=nq;rw[<- e]at nd;obtain⟨_,_,n3⟩:=Us.mp nd;constructor
  .intro h;exact⟨W2 h,λz=>n3 p z p h rfl⟩
  .rintro⟨h1,h2⟩;rw[<- e]at h1;exact(Ub.mp h1).resolve_left h2
 refine(UT ((List.drop_sublist k qs).nodup nq) ((Wl (l:=a9 R C)).nodup (show(a9 R C).Nodup from c1))).mpr λp=>?_;show _↔p∈eh R C (qs.take k);rw[hd,kZ,o2.mem_iff];rfl
theorem o4(h1:f env=some d)(h2:g env=some d)(hd:eJ d<=60)(hp:pl d=true):aq rD f g env=some (.bl false):=K' h1 h2 (D7 hd (by rw[hp];rfl)) (lq d hp)
theorem vJ(h1:f env=some d)(h2:g env=some d)(hd:eJ d<=60)(hp:pl d=true):aq fV f g env=some (.bl true):=GM h1 h2 (D7 hd (by rw[hp];rfl)) (lq d hp)
theorem oy(i:Int):eJ (.int i)<=60:=by rw[uo];lia
theorem tf(i:Int):pl (.int i)=true:=by unfold pl;rfl
abbrev eZ(R C:Nat)(fl:X3)(ru:Str)(re le:D)(X:List (List Sh))(gs:X4)(s9 cR:Slot):En:=[.F (.tup [.tup [.int R,.int C],jP fl,.str ru]),.F re,.F le,.F (.tup [.int R,.int C]),.F (jP fl),.F (.str ru),.F (.int (X.length:Nat)),.F (BP R C X),.O (.L (gs.map .int)),s9,cR]
theorem N2(pl:PL R C fl ru)(rec:Rec)(hr:rec.length<=20)(hX:m_all_fitting [.tup [.int R,.int C],jP fl,.str ru,.lst (rec.map aR)]=some (.lst (X.map hidD)))(hne:X≠[])(hd:∀h∈X,Hid R C fl h)(hl:X.length<=64000)(le:D)(p:Pt)(hp:p∈eh R C (rec.map Prod.fst))(gs:X4)(hg:gs.length<=20)(cR:Slot) :
  cN (eZ R C fl ru (.lst (rec.map aR)) le X gs (.F (cel p)) cR)=some (.nx (eZ R C fl ru (.lst (rec.map aR)) le X (gs++[mx X (rec.map Prod.fst) p]) (.F (cel p)) (.F (pD X (rec.map Prod.fst) p)))):=by
 have po:=o5 pl rec (by lia) hX hne hd hl p hp;obtain⟨e1,e2⟩:=Cp X (rec.map Prod.fst) p;have hc:=(kZ.mp hp).1;have v1:bC Gm dC (eZ R C fl ru (.lst (rec.map aR)) le X gs (.F (cel p)) (.F (pD X (rec.map Prod.fst) p)))=some (.int (X.length:Nat)):=by
  refine(kS (x:=pD X (rec.map Prod.fst) p) rfl).trans ?_;show some (D.int [cW X (rec.map Prod.fst) p sWa,cW X (rec.map Prod.fst) p kO,cW X (rec.map Prod.fst) p kN].sum)=_;rw[<- e1];congr 2;simp only[UP,List.sum_nil]
  lia
 have v2:aq addI (aq aK dC Yp) (aq aK dC Yq) (eZ R C fl ru (.lst (rec.map aR)) le X gs (.F (cel p)) (.F (pD X (rec.map Prod.fst) p)))=some (.int (has X p:Nat)):=by
  rw[<- e2];exact(aX (ie (i:=1) (ds:=[.int (cW X (rec.map Prod.fst) p sWa),.int (cW X (rec.map Prod.fst) p kO),.int (cW X (rec.map Prod.fst) p kN)]) rfl rfl rfl) (ie (i:=2) (ds:=[.int (cW X (rec.map Prod.fst) p sWa),.int (cW X (rec.map Prod.fst) p kO),.int (cW X (rec.map Prod.fst) p kN)]) rfl rfl rfl)).trans (gO _ _)
 have v3:=Lh (X:=X) (f:=λenv=>cy env 7) (g:=aq aK bK Yo) (k:=aq aK bK Yp) (env:=eZ R C fl ru (.lst (rec.map aR)) le X gs (.F (cel p)) (.F (pD X (rec.map Prod.fst) p))) hc rfl (ie (i:=0) (ds:=[.int p.1,.int p.2]) rfl rfl rfl) (ie (i:=1) (ds:=[.int p.1,.int p.2]) rfl rfl rfl);refine(ak (aV ((call_v (af rfl (af rfl (af rfl (af rfl (af rfl aA)))))).trans po))).trans ((ak ((br (AE (p:=false) (q:=false) (cG (o4 v1 rfl (oy _) (tf _))) λ_=>cG (o4 v2 v3 (oy _) (tf _)))).trans rfl)).trans ?_);rw[show eZ R C fl ru (.lst (rec.map aR)) le X (gs++[mx X (rec.map Prod.fst) p]) (.F (cel p)) (.F (pD X (rec.map Prod.fst) p))=(eZ R C fl ru (.lst (rec.map aR)) le X gs (.F (cel p)) (.F (pD X (rec.map Prod.fst) p))).set 8 (.O (.L (gs.map .int++[.int (mx X (rec.map Prod.fst) p)]))) by unfold eZ;rw[H_];rfl];exact mZ (i:=8) rfl (JG rfl) (by rw[c_];lia)
theorem lz{α:Type}{p q:α->Bool}:∀{l:List α},(∀x∈l,p x=q x)->l.findIdx p=l.findIdx q
 | [],_=>rfl
 | x::l,h=>by
  rw[List.findIdx_cons,List.findIdx_cons,h x (by simp),lz λy hy=>h y (f_ _ hy)]
theorem Ed(ns:X4)(h:ns≠[]):∃m,ns[dZ ns]?=some m/\m∈ns/\∀a∈ns,m<=a:=by
 have hl:=uT ns h;refine⟨ns[dZ ns],l_ hl,Ut hl,λa ha=>?_⟩;have:=List.findIdx_getElem (xs:=ns) (p:=λn=>ns.all λm=>decide (n<=m)) (w:=hl);exact Uj (D_.mp this a ha)
theorem BD(ns:X4)(m:Int)(hm:m∈ns)(hl:∀a∈ns,m<=a)(h1:f env=some (.lst (ns.map .int)))(h2:g env=some (.int m)):aq Cg f g env=some (.int (dZ ns:Nat)):=by
 refine(aX h1 h2).trans ?_;have eI:∀a b:Int,eT (.int a) (.int b)=decide (a=b):=λa b=>by rw[eT];rfl
 have xq:inD (.int m) (ns.map .int)=true:=by
  unfold inD;rw[List.any_map,VT];exact⟨m,hm,by rw[Va,eI];exact v_ rfl⟩
 show(if eJ (.int m)<=60/\(pl (.int m)&&iy (ns.map .int))=true/\inD (.int m) (ns.map .int)=true then _ else none)=_;rw[j_ ⟨oy m,by rw[tf,nF ns λx _=>tf x];rfl,xq⟩,List.findIdx_map];congr 3;unfold dZ;refine lz λx hx=>?_;rw[Va,eI,Uh,w_,D_];constructor
 .rintro rfl;exact λy hy=>v_ (hl y hy)
 .intro h;have:=Uj (h m hm);have:=hl x hx
  lia
theorem Dp(ns:X4)(m:Int)(hm:m∈ns)(hl:∀a∈ns,m<=a)(h1:f env=some (.lst (ns.map .int))):bC yt f env=some (.int m):=by
 refine(kS h1).trans ?_;show(hU (ns.map .int)).bind _=_;rw[jG];show(yV ns).bind _=_;rw[AD hm hl];rfl
theorem HU(pl:PL R C fl ru)(hd:List Sh)(hh:hd∈bX R C ru fl fl.length)(qs:List Pt)(o2:qs.Perm (xp R C))(k:Nat)(hk:k<qs.length):m__law_step_right [.tup [.tup [.int R,.int C],jP fl,.str ru],.lst ((rk hd qs k).map aR),.lst ((qs.drop k).map cel)]=some (.bl true):=by
 obtain⟨c1,c2⟩:=mM ⟨R,by have:=pl.r4;lia⟩ ⟨C,by have:=pl.c5;lia⟩;obtain⟨u1,u2⟩:=MT ⟨R,by have:=pl.r4;lia⟩ ⟨C,by have:=pl.c5;lia⟩;have nq:qs.Nodup:=o2.nodup_iff.mpr c1;have hq:qs.length<=20:=by rw[o2.length_eq];exact c2
 have hr:=ox hd qs k hq;have pe:=vM pl.r4 pl.c5 qs o2 k;obtain⟨X,x1,x2⟩:=pl.fitting (rk hd qs k) (by lia) (by rw[gz];exact(Wb k qs).nodup nq);have hX:hd∈X:=x2.mem_iff.mpr (T8.mpr ⟨hh,yI hd qs k⟩);have hne:X≠[]:=List.ne_nil_of_mem hX;have hH:∀h∈X,Hid R C fl h:=λh hx=>pl.hid (T8.mp (x2.mem_iff.mp hx)).1;have OU:X.length<=64000:=by rw[x2.length_eq];exact G_ (O_ _ _) pl.len
 have hf:=gz hd qs k;have hL:eh R C (qs.take k)≠[]:=λz=>by
  rw[z]at pe;have:=pe.length_eq;rw[VP]at this;simp at this
  lia
 have so:=yC (eh R C (qs.take k)) (qs.drop k) pe (λp hp=>u2 p (T8.mp hp).1) (u1.sublist Wl) (by rw[<- pe.length_eq,VP];lia);have ch:=DT x1 hne (xH R C pl.r4 pl.c5 X OU hH);have ma:=zB x1;have hLl:(eh R C (qs.take k)).length<=20:=by rw[<- pe.length_eq,VP];lia
 obtain⟨b,b1,b2⟩:=GK pl (rk hd qs k) (by lia) x1 hne hH OU (by rw[hf];exact hL);rw[hf]at b1 b2;obtain⟨m,m1,m2,m3⟩:=Ed ((eh R C (qs.take k)).map (mx X (qs.take k))) (by simpa using hL);have mb:m=mx X (qs.take k) b:=by
  rw[o_,b1]at m1;exact(Option.some.inj m1).symm
 obtain⟨e2,l1,s9,cR,rfl⟩:=k7 (t:=bw 9) (body:=cN) cel (λpre e=>∃s9 cR,e=eZ R C fl ru (.lst ((rk hd qs k).map aR)) (.lst ((qs.drop k).map cel)) X (pre.map (mx X (qs.take k))) s9 cR) (eh R C (qs.take k)) [] (eZ R C fl ru (.lst ((rk hd qs k).map aR)) (.lst ((qs.drop k).map cel)) X [] .un .un) ⟨.un,.un,rfl⟩ λpre p post e he aG=>by
  obtain⟨s9,cR,rfl⟩:=aG;have hp:p∈eh R C (qs.take k):=by rw[show eh R C (qs.take k)=pre++p::post from he];simp
  have gF:pre.length<=20:=by have:=UW List.length he;simp at this;lia
  have bo:=N2 pl (rk hd qs k) hr x1 hne hH OU (.lst ((qs.drop k).map cel)) p (by rw[hf];exact hp) (pre.map (mx X (qs.take k))) (by rw[c_];exact gF) cR;rw[hf]at bo;exact⟨_,fQ (e0:=eZ R C fl ru (.lst ((rk hd qs k).map aR)) (.lst ((qs.drop k).map cel)) X (pre.map (mx X (qs.take k))) (.F (cel p)) cR) rfl bo,_,_,by rw[H_];rfl⟩
 rw[Ud]at l1;have i1:aq aK (bC rm aD) (aq Cg dg (bC yt dg)) [.F (.tup [.tup [.int R,.int C],jP fl,.str ru]),.F (.lst ((rk hd qs k).map aR)),.F (.lst ((qs.drop k).map cel)),.F (.tup [.int R,.int C]),.F (jP fl),.F (.str ru),.F (.int (X.length:Nat)),.F (BP R C X),.F (.lst (((eh R C (qs.take k)).map (mx X (qs.take k))).map .int)),.F (cel b),.F (pD X (qs.take k) b)]=some (cel b):=
  gR ((kS rfl).trans so) (BD _ m m2 m3 rfl (Dp _ m m2 m3 rfl)) (cZ (by rw[o_,b1];rfl))
 have i2:bC yt dg [.F (.tup [.tup [.int R,.int C],jP fl,.str ru]),.F (.lst ((rk hd qs k).map aR)),.F (.lst ((qs.drop k).map cel)),.F (.tup [.int R,.int C]),.F (jP fl),.F (.str ru),.F (.int (X.length:Nat)),.F (BP R C X),.F (.lst (((eh R C (qs.take k)).map (mx X (qs.take k))).map .int)),.F (cel b),.F (pD X (qs.take k) b)]=some (.int (mx X (qs.take k) b)):=by rw[<- mb];exact Dp _ m m2 m3 rfl
 refine aY ((ak (j0 (ds:=[.tup [.int R,.int C],jP fl,.str ru]) rfl rfl)).trans ((ak (aV ((call_v (af rfl (af rfl (af rfl (af rfl aA))))).trans ma))).trans ((ak (aV ((call_v (af rfl (af rfl (af rfl (af rfl aA))))).trans ch))).trans ((ak (kI (ds:=[]) rfl)).trans ((ak ((bY (bp ((kS rfl).trans so))).trans l1)).trans ((ak (j0 ((call_v (af rfl (af rfl (af rfl (af rfl aA))))).trans b2) rfl)).trans ((ak rfl).trans (bG ((Ax (p:=true) (q:=true) (vJ rfl i1 (Ae b) (xC b)) λ_=>vJ (JG rfl) i2 (oy _) (tf _)))))))))))
theorem HE(h:f env=some (.lst xs))(hp:iy xs=true):aq rD f (b8 fNil) env=some (.bl !xs.isEmpty):=
 K' h rfl (Np (by unfold eJ oq;lia) (by unfold pl;rw[hp];rfl)) (zp xs)
theorem CT{ks js:List Pt}(h1:ks.Nodup)(h2:js.Nodup)(h:∀q,q∈ks↔q∈js)(f1:f env=some (eH ks))(g1:g env=some (eH js)):aq (LW Th.h) f g env=some (.bl false):=by
 refine(aX f1 g1).trans ?_;show(rh Th.h (.mp Th.h (ks.map a8) (ks.map λ_=>.bl true))).bind (λm=>(rh Th.h (.mp Th.h (js.map a8) (js.map λ_=>.bl true))).bind _)=_;rw[lR];show(rh Th.h (.mp Th.h (js.map a8) (js.map λ_=>.bl true))).bind _=_;rw[lR];have aT:∀l:List Pt,uW (l.map λ_=>D.bl true)=true:=λl=>by
  unfold uW;rw[WH,D_];intro x _;rfl
 have hl:ks.length=js.length:=((UT h1 h2).mpr h).length_eq;show(if(uW (ks.map λ_=>D.bl true)&&uW (js.map λ_=>D.bl true))=true then some (D.bl (!((ks.map a8).length==(js.map a8).length&&(ks.map a8).all λq=>decide (q∈js.map a8))))else none)=_;rw[aT,aT,j_ (show(true&&true)=true from rfl)];congr 2;rw[c_,c_,hl,XB,Bool.true_and,D_.mpr]
 .rfl
 .intro q hq;obtain⟨p,hp,rfl⟩:=u_.mp hq;exact v_ (Uq ((h p).mp hp))
theorem l8(h:List Sh):∀(l pre:List Pt)(k:Nat),walk h pre (l.take k)=(walk h pre l).take k
 | [],pre,k=>by simp[walk]
 | p::l,pre,0=>by simp[walk]
 | p::l,pre,k+1=>by
  rw[W6];show eF h (pre++[p]) p::walk h (pre++[p]) (l.take k)=(eF h (pre++[p]) p::walk h (pre++[p]) l).take (k+1);rw[l8 h l _ k];rfl
theorem Dq(h1:Hid R C fl h)(h2:Hid R C fl g)(qs:List Pt)(o2:qs.Perm (xp R C))(e:walk h [] qs=walk g [] qs)(q:Pt):mj h q=mj g q:=by
 by_cases hq:q∈qs
 .obtain⟨i,hi,rfl⟩:=VN hq;have w:walk h [] (qs.take (i+1))=walk g [] (qs.take (i+1)):=by rw[l8,l8,e]
  rw[UZ,l_ hi]at w;have w':walk h [] (qs.take i++[qs[i]])=walk g [] (qs.take i++[qs[i]]):=w;rw[fw,fw]at w';have a:=(List.cons.inj (Wi w' rfl).2).1;have c1:=sP ([]++qs.take i++[qs[i]]) qs[i] h;have c2:=sP ([]++qs.take i++[qs[i]]) qs[i] g;rw[a]at c1;rw[Uh];have c3:=c1.symm.trans c2;cases e1:mj h qs[i]<;>cases e2:mj g qs[i]
  .rfl
  .rw[e1,e2]at c3;have:=c3.mp rfl;cases this
  .rw[e1,e2]at c3;have:=c3.mpr rfl;cases this
  .rfl
 .have off:∀h,Hid R C fl h->mj h q=false:=λh hh=>by
   unfold mj;rw[List.any_eq_false];intro s hs;have:=pY (hh.sz s hs).1 (hh.on s hs) q;simp only[w_];exact λz=>hq (o2.mem_iff.mpr (this z))
  rw[off h h1,off g h2]
abbrev eL(sc:Slot)(c:Int)(R C:Nat)(fl:X3)(ru:Str)(hd:List Sh)(qs:List Pt)(s8 s9 cR iS fY eU:Slot):En:=
 [sc,.F (.int c),.F (.tup [.int R,.int C]),.F (jP fl),.F (.str ru),.F (.lst ((bX R C ru fl fl.length).map hidD)),.F (hidD hd),.F (.lst (qs.map cel)),s8,s9,cR,iS,fY,eU]
theorem HC(pl:PL R C fl ru)(hd:List Sh)(hh:hd∈bX R C ru fl fl.length)(qs:List Pt)(o2:qs.Perm (xp R C))(k:Nat)(p:Pt)(hk:qs[k]?=some p) :
  ∃X,m_parts_of [.tup [.int R,.int C],jP fl,.str ru,.lst ((rk hd qs k).map aR),cel p]=some (pD X (qs.take k) p)/\m_how_many_fit [.tup [.int R,.int C],jP fl,.str ru,.lst ((rk hd qs (k+1)).map aR)]=some (.int (cW X (qs.take k) p (eF hd (qs.take k++[p]) p))):=by
 obtain⟨c1,c2⟩:=mM ⟨R,by have:=pl.r4;lia⟩ ⟨C,by have:=pl.c5;lia⟩;have nq:qs.Nodup:=o2.nodup_iff.mpr c1;have hq:qs.length<=20:=by rw[o2.length_eq];exact c2
 have hr:=ox hd qs k hq;have hr2:=ox hd qs (k+1) hq;obtain⟨X,x1,x2⟩:=pl.fitting (rk hd qs k) (by lia) (by rw[gz];exact(Wb k qs).nodup nq);obtain⟨Y,y1,y2⟩:=pl.fitting (rk hd qs (k+1)) (by lia) (by rw[gz];exact(Wb _ qs).nodup nq);have hX:hd∈X:=x2.mem_iff.mpr (T8.mpr ⟨hh,yI hd qs k⟩);have hH:∀h∈X,Hid R C fl h:=λh hx=>pl.hid (T8.mp (x2.mem_iff.mp hx)).1;have OU:X.length<=64000:=by rw[x2.length_eq];exact G_ (O_ _ _) pl.len
 have hki:=(k_.mp hk).1;have hp:p∈eh R C (qs.take k):=(vM pl.r4 pl.c5 qs o2 k).mem_iff.mp (I_ (i:=0) (by rw[List.getElem?_drop];exact hk));have po:=o5 pl (rk hd qs k) (by lia) x1 (List.ne_nil_of_mem hX) hH OU p (by rw[gz];exact hp);rw[gz]at po;refine⟨X,po,(zB y1).trans ?_⟩;rw[y2.length_eq,Af hd qs k p hk];unfold cW;rw[(x2.filter _).length_eq,List.filter_filter];congr 4;refine List.filter_congr λh _=>?_;rw[EW,gz,Bool.and_comm]
theorem Hv(pl:PL R C fl ru)(hd:List Sh)(hh:hd∈bX R C ru fl fl.length)(qs:List Pt)(o2:qs.Perm (xp R C))(k:Nat)(p:Pt)(hk:qs[k]?=some p)(sc:Slot)(c:Int)(cR iS fY eU:Slot) :
  ∃FD Iq CF,ur (eL sc c R C fl ru hd qs (.F (.lst ((rk hd qs k).map aR))) (.F (.int k)) cR iS fY eU)=some (.nx (eL sc c R C fl ru hd qs (.F (.lst ((rk hd qs (k+1)).map aR))) (.F (.int k)) FD Iq CF eU)):=by
 have hki:=(k_.mp hk).1;have hq:qs.length<=20:=by rw[o2.length_eq];exact(mM ⟨R,by have:=pl.r4;lia⟩ ⟨C,by have:=pl.c5;lia⟩).2
 have gd:=pl.hid hh;have st:=HU pl hd hh qs o2 k hki;obtain⟨X,po,hm⟩:=HC pl hd hh qs o2 k p hk;have an:=jY hd (λs hs=>by have:=gd.sz s hs;lia) (by have:=gd.len;lia) (qs.take (k+1)) (by rw[Vw];lia);rw[UZ,hk]at an;have an':m_answers_of [hidD hd,.lst ((qs.take k++[p]).map cel)]=some (.lst ((walk hd [] (qs.take k)).map .str++[.str (eF hd (qs.take k++[p]) p)])):=by
  refine(show m_answers_of [hidD hd,.lst ((qs.take k++[p]).map cel)]=_ from an).trans ?_;rw[show(some p).toList=[p]from rfl,fw,Ud,H_];rfl
 have tk:(qs.map cel).take (k+1)=(qs.take k++[p]).map cel:=by rw[<- WY,UZ,hk];rfl
 have cut:yq ee cB oNone (fJ (aq addI bK Yp)) (eL sc c R C fl ru hd qs (.F (.lst ((rk hd qs k).map aR))) (.F (.int k)) (.F (.lst ((rk hd qs k).map aR))) iS fY eU)=some (.lst ((qs.take k++[p]).map cel)):=by
  rw[<- tk];exact IZ (m:=k+1) rfl ((aX rfl rfl).trans (gO _ _))
 have dr:yq ee cB (fJ bK) oNone (eL sc c R C fl ru hd qs (.F (.lst ((rk hd qs k).map aR))) (.F (.int k)) cR iS fY eU)=some (.lst ((qs.drop k).map cel)):=by
  rw[List.map_drop];exact Kg (m:=k) rfl rfl
 have first:gC (fB (aq (mK false) bK (bq (ab Yo (ab Yr (ab (aq subI (bC eM cB) Yp) fNil)))))) (gC (kF (fB (λenv=>((ab (bq (ab aD (ab av (ab aS fNil)))) (ab dg (ab (yq ee cB (fJ bK) oNone) fNil))) env).bind m__law_step_right))) (bt (fC (.bl false))) nxF) nxF (eL sc c R C fl ru hd qs (.F (.lst ((rk hd qs k).map aR))) (.F (.int k)) cR iS fY eU)=some (.nx (eL sc c R C fl ru hd qs (.F (.lst ((rk hd qs k).map aR))) (.F (.int k)) cR iS fY eU)):=by
  obtain⟨b,hb⟩:∃b,aq (mK false) bK (bq (ab Yo (ab Yr (ab (aq subI (bC eM cB) Yp) fNil)))) (eL sc c R C fl ru hd qs (.F (.lst ((rk hd qs k).map aR))) (.F (.int k)) cR iS fY eU)=some (.bl b):=by
   refine⟨_,(aX rfl (iI (af rfl (af rfl (af ((aX (jV rfl) rfl).trans rfl) aA))))).trans (j_ ⟨oy _,?_⟩)⟩;rw[tf];rfl
  cases b with
  | false=>exact(br (cG hb)).trans rfl
  | true=>exact(c7 (cG hb)).trans ((br (vq (b:=true) (cG ((call_v (af (iI (af rfl (af rfl (af rfl aA)))) (af rfl (af dr aA)))).trans st)))).trans rfl)
 have v11:aq aK (λenv=>((ab cE (ab (yq ee cB oNone (fJ (aq addI bK Yp))) fNil)) env).bind m_answers_of) (bC nB Yp) (eL sc c R C fl ru hd qs (.F (.lst ((rk hd qs k).map aR))) (.F (.int k)) (.F (.lst ((rk hd qs k).map aR))) iS fY eU)=some (.str (eF hd (qs.take k++[p]) p)):=
  gR (i:=-1) ((call_v (af rfl (af cut aA))).trans an') rfl (L2.vj _ _)
 have Tv:∀s8 cR iS fY,aq aK cB bK (eL sc c R C fl ru hd qs s8 (.F (.int k)) cR iS fY eU)=some (cel p):=λ_ _ _ _=>gR rfl rfl (cZ (by rw[o_,hk];rfl));have v8:aq uf dg (b8 (ab (bq (ab (aq aK cB bK) (ab kB fNil))) fNil)) (eL sc c R C fl ru hd qs (.F (.lst ((rk hd qs k).map aR))) (.F (.int k)) (.F (.lst ((rk hd qs k).map aR))) (.F (.str (eF hd (qs.take k++[p]) p))) fY eU)=some (.lst ((rk hd qs (k+1)).map aR)):=by
  rw[Af hd qs k p hk,H_];exact yZ rfl (DP (af (iI (af (Tv _ _ _ _) (af rfl aA))) aA)) (by have:=ox hd qs k hq;rw[c_];show _+1<=16000000;lia)
 obtain⟨b,hb⟩:∃b,aq fV (aq modI bK Yr) Yo (eL sc c R C fl ru hd qs (.F (.lst ((rk hd qs (k+1)).map aR))) (.F (.int k)) (.F (.lst ((rk hd qs k).map aR))) (.F (.str (eF hd (qs.take k++[p]) p))) fY eU)=some (.bl b):=⟨_,GM ((aX rfl rfl).trans (ji (by lia))) rfl (D7 (oy _) (by rw[tf,tf];rfl)) rfl⟩;have tail:∃CF,gC (fB (aq fV (aq modI bK Yr) Yo)) (az (setF 12 (λenv=>((ab aD (ab av (ab aS (ab dC (ab (aq aK cB bK) fNil))))) env).bind m_parts_of)) (gC (fB (aq rD (λenv=>((ab aD (ab av (ab aS (ab dg fNil)))) env).bind m_how_many_fit) (aq aK dB (aq Cg (b8 (ab (fC (.str "water")) (ab (fC (.str "hit")) (ab (fC (.str "sunk")) fNil)))) kB)))) (bt (fC (.bl false))) nxF)) nxF (eL sc c R C fl ru hd qs (.F (.lst ((rk hd qs (k+1)).map aR))) (.F (.int k)) (.F (.lst ((rk hd qs k).map aR))) (.F (.str (eF hd (qs.take k++[p]) p))) fY eU)=some (.nx (eL sc c R C fl ru hd qs (.F (.lst ((rk hd qs (k+1)).map aR))) (.F (.int k)) (.F (.lst ((rk hd qs k).map aR))) (.F (.str (eF hd (qs.take k++[p]) p))) CF eU)):=by
  cases b with
  | false=>exact⟨fY,(br (cG hb)).trans rfl⟩
  | true=>
   refine⟨.F (pD X (qs.take k) p),(c7 (cG hb)).trans ((ak (aV ((call_v (af rfl (af rfl (af rfl (af rfl (af (Tv _ _ _ _) aA)))))).trans po))).trans ((br (cG (o4 ((call_v (af rfl (af rfl (af rfl (af rfl aA))))).trans hm) ?_ (oy _) (tf _)))).trans rfl))⟩;rcases jy (qs.take k++[p]) p hd with e | e | e
   .rw[e];exact ie (i:=0) (ds:=[.int (cW X (qs.take k) p sWa),.int (cW X (qs.take k) p kO),.int (cW X (qs.take k) p kN)]) rfl rfl rfl
   .rw[e];exact ie (i:=1) (ds:=[.int (cW X (qs.take k) p sWa),.int (cW X (qs.take k) p kO),.int (cW X (qs.take k) p kN)]) rfl rfl rfl
   .rw[e];exact ie (i:=2) (ds:=[.int (cW X (qs.take k) p sWa),.int (cW X (qs.take k) p kO),.int (cW X (qs.take k) p kN)]) rfl rfl rfl
 obtain⟨CF,tl⟩:=tail;exact⟨_,_,CF,(ak first).trans ((ak (aV rfl)).trans ((ak (aV v11)).trans ((ak (aV v8)).trans tl)))⟩
theorem zD{α:Type}(X:List α):X.filter (λ_=>false)=[]:=WJ.mpr λ_ _ z=>by cases z
theorem La(sc:Slot)(c:Int)(s2 s3 s4 s5 s6 s7 s8 s9 cR iS fY eU:Slot) :
  ∃t2 t3 t4 t5 t6 t7 t8 t9 FD Iq CF L4,tD [sc,.F (.int c),s2,s3,s4,s5,s6,s7,s8,s9,cR,iS,fY,eU]=some (.nx [sc,.F (.int c),t2,t3,t4,t5,t6,t7,t8,t9,FD,Iq,CF,L4]):=by
 obtain⟨R,C,fl,ru,p1,pl,hne⟩:=AU c;obtain⟨⟨c1,c2⟩⟩:Nonempty ((xp R C).Nodup/\(xp R C).length<=20):=⟨mM ⟨R,by have:=pl.r4;lia⟩ ⟨C,by have:=pl.c5;lia⟩⟩;obtain⟨qs,o1,o2⟩:=CL c (xp R C) (by lia);have hq:qs.length<=20:=by rw[o2.length_eq];exact c2
 obtain⟨z,hz⟩:=tR c 1000 (by decide) (by decide);have hpos:0<(bX R C ru fl fl.length).length:=List.length_pos_iff.mpr hne;have hm:=VF z (show(((bX R C ru fl fl.length).length:Nat):Int)≠0 by lia);have hm2:=Vd z (show(0:Int)<(((bX R C ru fl fl.length).length:Nat):Int) by lia);obtain⟨rd,i1,i2⟩:=Kh (xs:=(bX R C ru fl fl.length).map hidD) (i:=z%(((bX R C ru fl fl.length).length:Nat):Int)) hm (by rw[c_];exact hm2);obtain⟨hd,hh,rfl⟩:=u_.mp i2;have gd:=pl.hid hh;have v6:aq aK bV (aq modI (λenv=>((ab ah (ab (fC (.int 1000)) fNil)) env).bind m__law_stir) (bC eM bV)) [sc,.F (.int c),.F (.tup [.int R,.int C]),.F (jP fl),.F (.str ru),.F (.lst ((bX R C ru fl fl.length).map hidD)),s6,s7,s8,s9,cR,iS,fY,eU]=some (hidD hd):=
  gR rfl ((aX ((call_v (af rfl (af rfl aA))).trans hz) (jV rfl)).trans (by rw[c_];exact ji (by lia))) i1
 obtain⟨e2,l1,L5,qe,uJ,jT,rfl⟩:=fq (t:=bw 9) (body:=ur) (λj e=>∃s9 cR iS fY,e=eL sc c R C fl ru hd qs (.F (.lst ((rk hd qs j).map aR))) s9 cR iS fY eU) (aM 0 qs.length) 0 (eL sc c R C fl ru hd qs (.F (.lst [])) s9 cR iS fY eU) ⟨s9,cR,iS,fY,rfl⟩ λi d e H9 aG=>by
  obtain⟨s9,cR,iS,fY,rfl⟩:=aG;obtain⟨rfl,hi⟩:=zZ H9;rw[Uc];obtain⟨FD,Iq,CF,u⟩:=Hv pl hd hh qs o2 i qs[i] (l_ hi) sc c cR iS fY eU;exact⟨_,fQ (e0:=eL sc c R C fl ru hd qs (.F (.lst ((rk hd qs i).map aR))) (.F (.int i)) cR iS fY eU) rfl u,_,_,_,_,rfl⟩
 rw[eX,Uc]at *;have ft:∀h:List Sh,jt h (rk hd qs qs.length)=true->walk h [] qs=walk hd [] qs:=λh hf=>by
  unfold jt at hf;rw[gz,Eh,UI]at hf;exact Uj hf
 have hr:=ox hd qs qs.length hq;have fitv:∀h∈bX R C ru fl fl.length,m_fits [hidD h,.lst ((rk hd qs qs.length).map aR)]=some (.bl (jt h (rk hd qs qs.length))):=λh hx=>zt h (λs hs=>by have:=(pl.hid hx).sz s hs;lia) (by have:=(pl.hid hx).len;lia) _ (by lia);have cs:=bf (fi:=cF bV) (is:=[0]) (t:=bw 0) (c:=fB (λenv=>((ab ag (ab ah fNil)) env).bind m_fits)) (k:=aC ag) (n:=1) (caps:=[8]) (env:=eL sc c R C fl ru hd qs (.F (.lst ((rk hd qs qs.length).map aR))) L5 qe uJ jT eU) (bp rfl) rfl
  (cj hidD hidD (λh=>jt h (rk hd qs qs.length)) (bX R C ru fl fl.length) λh hx=>⟨[.F (hidD h),.F (.lst ((rk hd qs qs.length).map aR))],rfl,cG ((call_v (af rfl (af rfl aA))).trans (fitv h hx)),λ_=>rfl⟩) (by rw[c_];exact G_ (O_ _ _) (G_ pl.len (by decide)))
 obtain⟨js,g1,g2,g3⟩:=qW hd gd.len λs hs=>(gd.sz s hs).2;have mem:hd∈(bX R C ru fl fl.length).filter λh=>jt h (rk hd qs qs.length):=T8.mpr ⟨hh,yI hd qs _⟩;have n1:fB (aq (mK true) cE kG) (eL sc c R C fl ru hd qs (.F (.lst ((rk hd qs qs.length).map aR))) L5 qe uJ jT (.F (.lst (((bX R C ru fl fl.length).filter λh=>jt h (rk hd qs qs.length)).map hidD))))=some false:=by
  refine cG (M3 (b:=true) rfl rfl (G_ (Gn hd) (by decide)) ?_ (by rw[yi,wU];rfl));unfold inD;rw[VT];exact⟨hidD hd,Uq mem,lq _ (yi hd)⟩
 have c2:=bf (fi:=cF kG) (is:=[0]) (t:=bw 0) (c:=fB (aq (LW Th.h) (λenv=>((ab ag fNil) env).bind m__law_ground) (λenv=>((ab ah fNil) env).bind m__law_ground))) (k:=aC ag) (n:=1) (caps:=[6]) (env:=eL sc c R C fl ru hd qs (.F (.lst ((rk hd qs qs.length).map aR))) L5 qe uJ jT (.F (.lst (((bX R C ru fl fl.length).filter λh=>jt h (rk hd qs qs.length)).map hidD)))) (bp rfl) rfl
  (cj hidD hidD (λ_=>false) ((bX R C ru fl fl.length).filter λh=>jt h (rk hd qs qs.length)) λh hx=>by
   obtain⟨hx1,hx2⟩:=T8.mp hx;have gh:=pl.hid hx1;obtain⟨ks,k1,k2,k3⟩:=qW h gh.len λs hs=>(gh.sz s hs).2;exact⟨[.F (hidD h),.F (hidD hd)],rfl,cG (CT k2 g2 (λq=>by rw[k3,g3,Dq gh gd qs o2 (ft h hx2)]) ((call_v (af rfl aA)).trans k1) ((call_v (af rfl aA)).trans g1)),λz=>by cases z⟩) (by rw[zD];exact UY _)
 have n2:fB (aq rD (aP (cF kG) [0] (bw 0) (fB (aq (LW Th.h) (λenv=>((ab ag fNil) env).bind m__law_ground) (λenv=>((ab ah fNil) env).bind m__law_ground))) (aC ag) 1 [6]) (b8 fNil)) (eL sc c R C fl ru hd qs (.F (.lst ((rk hd qs qs.length).map aR))) L5 qe uJ jT (.F (.lst (((bX R C ru fl fl.length).filter λh=>jt h (rk hd qs qs.length)).map hidD))))=some false:=by
  rw[zD]at c2;exact cG (HE c2 rfl)
 exact⟨_,_,_,_,_,_,_,_,_,_,_,_,(ak (j0 ((call_v (af rfl aA)).trans p1) rfl)).trans ((ak (aV v6)).trans ((ak (aV ((call_v (af rfl (af ((call_v (af rfl aA)).trans (Jw R C pl.r4 pl.c5)) aA))).trans o1))).trans ((ak (aV rfl)).trans ((ak ((bY (eO (n:=qs.length) ((jV rfl).trans (by rw[c_])) (by lia))).trans l1)).trans ((ak (aV cs)).trans ((br (AE (p:=false) (q:=false) n1 λ_=>n2)).trans rfl))))))⟩
theorem law_true(ns:X4)(hl:ns.length<=63):m_law [.lst (ns.map .int)]=some (.bl true):=by
 obtain⟨e2,g1,t1,t2,t3,t4,t5,t6,t7,t8,t9,FD,Iq,CF,L4,rfl⟩:=vg (t:=bw 1) (body:=tD) (λe=>∃s1 s2 s3 s4 s5 s6 s7 s8 s9 cR iS fY eU,e=[.F (.lst (ns.map .int)),s1,s2,s3,s4,s5,s6,s7,s8,s9,cR,iS,fY,eU]) ((0::ns.take 3).map .int) (cQ 14 [.lst (ns.map .int)]) ⟨.un,.un,.un,.un,.un,.un,.un,.un,.un,.un,.un,.un,.un,rfl⟩ λd hd e aG=>by
  obtain⟨s1,s2,s3,s4,s5,s6,s7,s8,s9,cR,iS,fY,eU,he⟩:=aG;subst he;obtain⟨c,_,rfl⟩:=u_.mp hd;obtain⟨t2,t3,t4,t5,t6,t7,t8,t9,FD,Iq,CF,L4,u⟩:=La (.F (.lst (ns.map .int))) c s2 s3 s4 s5 s6 s7 s8 s9 cR iS fY eU;exact⟨_,fQ (e0:=[.F (.lst (ns.map .int)),.F (.int c),s2,s3,s4,s5,s6,s7,s8,s9,cR,iS,fY,eU]) rfl u,_,_,_,_,_,_,_,_,_,_,_,_,_,rfl⟩
 refine aY ((ak ((bY (bp ?_)).trans g1)).trans rfl);exact(yZ (xs:=[.int 0]) (ys:=(ns.map .int).take 3) rfl (IZ (m:=3) rfl rfl) (by simp;lia)).trans (by rw[<- WY];rfl)
end K15
namespace K15
open PySem PySem.Spec PyProof.Rows L2 Mi
abbrev pg:X9:=PySem.Challenge.pw_fleethide_k15_whole_parts_of_what_fits
variable [Th]
def gt(n:Nat):Yg:=pg.main.body.getD n (.Pass ⟨0,0,0,0⟩)
def st__law_stir:=gt 41
def st__law_drawn:=gt 42
def st__law_game:=gt 48
def st__law_ships:=gt 44
def st__law_cells:=gt 43
def st__law_halo:=gt 45
def st__law_free:=gt 47
def st__law_all:=gt 46
def st__law_played:=gt 49
def st__law_order:=gt 51
def st__law_sheet_cells:=gt 50
def st_all_cells:=gt 12
def st_is_tuple_of:=gt 10
def st_is_whole:=gt 8
def st_is_size:=gt 9
def st_is_cell:=gt 11
def st_is_ship:=gt 13
def st_ships_of:=gt 14
def st_cells_of:=gt 15
def st_answer_to:=gt 26
def st_answers_of:=gt 25
def st_shot_cells:=gt 23
def st_fits:=gt 27
def st_ship_fits:=gt 28
def st_rows_between:=gt 16
def st_columns_between:=gt 17
def st_keep:=gt 18
def st_may_follow:=gt 19
def st_hidings_among:=gt 21
def st_all_fitting:=gt 29
def st_how_many_fit:=gt 31
def st_ship_counts:=gt 32
def st_chances_in:=gt 33
def st_some_fitting:=gt 30
def st_chances:=gt 34
def st_refuse_shot:=gt 37
def st_unshot_cells:=gt 24
def st_parts_in:=gt 35
def st_parts_of:=gt 36
def st_best_in:=gt 39
def st_best_shot:=gt 38
def st__law_step_right:=gt 53
def st__law_ground:=gt 52
def st_law:=gt 54
structure Tx(W:Wd):Prop where
 z_all:W.mg "all"=none
 z_bool:W.mg "bool"=none
 z_enumerate:W.mg "enumerate"=none
 z_int:W.mg "int"=none
 z_isinstance:W.mg "isinstance"=none
 z_len:W.mg "len"=none
 z_list:W.mg "list"=none
 z_max:W.mg "max"=none
 z_min:W.mg "min"=none
 z_range:W.mg "range"=none
 z_set:W.mg "set"=none
 z_sorted:W.mg "sorted"=none
 z_sum:W.mg "sum"=none
 z_tuple:W.mg "tuple"=none
 e_GREATEST:∃v u,W.mg "GREATEST"=some u/\RelV v u/\∀Z,Rep W.K Z oH v
 e_WAYS:∃v u,W.mg "WAYS"=some u/\RelV v u/\∀Z,Rep W.K Z sL v
 hw:Th.h=hashStr W.w
section
variable {W:Wd}
abbrev gq(W:Wd):Prop:=W.Q 1 "_law_stir" 2 .cl m__law_stir
abbrev kW(W:Wd):Prop:=W.Q 2 "_law_drawn" 2 .nw m__law_drawn
abbrev mW(W:Wd):Prop:=W.Q 3 "_law_game" 1 .cl m__law_game
abbrev lE(W:Wd):Prop:=W.Q 1 "_law_ships" 2 .nw m__law_ships
abbrev eV(W:Wd):Prop:=W.Q 1 "_law_cells" 1 .nw m__law_cells
abbrev ng(W:Wd):Prop:=W.Q 2 "_law_halo" 2 .nm m__law_halo
abbrev ni(W:Wd):Prop:=W.Q 1 "_law_free" 2 .cl m__law_free
abbrev oJ(W:Wd):Prop:=W.Q 3 "_law_all" 3 .nw m__law_all
abbrev j6(W:Wd):Prop:=W.Q 4 "_law_played" 1 .cl m__law_played
abbrev ll(W:Wd):Prop:=W.Q 2 "_law_order" 2 .nw m__law_order
abbrev fP(W:Wd):Prop:=W.Q 1 "_law_sheet_cells" 1 .nw m__law_sheet_cells
abbrev iX(W:Wd):Prop:=W.Q 1 "all_cells" 1 .nw m_all_cells
abbrev gB(W:Wd):Prop:=W.Q 1 "is_tuple_of" 2 .cl m_is_tuple_of
abbrev kc(W:Wd):Prop:=W.Q 1 "is_whole" 1 .cl m_is_whole
abbrev rj(W:Wd):Prop:=W.Q 2 "is_size" 1 .cl m_is_size
abbrev my(W:Wd):Prop:=W.Q 2 "is_cell" 2 .cl m_is_cell
abbrev rO(W:Wd):Prop:=W.Q 3 "is_ship" 2 .cl m_is_ship
abbrev oe(W:Wd):Prop:=W.Q 4 "ships_of" 2 .nw m_ships_of
abbrev dW(W:Wd):Prop:=W.Q 1 "cells_of" 1 .nw m_cells_of
abbrev mS(W:Wd):Prop:=W.Q 1 "answer_to" 3 .cl m_answer_to
abbrev ig(W:Wd):Prop:=W.Q 2 "answers_of" 2 .nw m_answers_of
abbrev eY(W:Wd):Prop:=W.Q 1 "shot_cells" 1 .nw m_shot_cells
abbrev ym(W:Wd):Prop:=W.Q 3 "fits" 2 .cl m_fits
abbrev m9(W:Wd):Prop:=W.Q 4 "ship_fits" 2 .cl m_ship_fits
abbrev iT(W:Wd):Prop:=W.Q 1 "rows_between" 2 .cl m_rows_between
abbrev f'(W:Wd):Prop:=W.Q 1 "columns_between" 2 .cl m_columns_between
abbrev EB(W:Wd):Prop:=W.Q 2 "keep" 3 .cl m_keep
abbrev lj(W:Wd):Prop:=W.Q 3 "may_follow" 3 .cl m_may_follow
abbrev iJ(W:Wd):Prop:=W.Q 7 "hidings_among" 2 .nw iL
abbrev gy(W:Wd):Prop:=W.Q 8 "all_fitting" 4 .nw m_all_fitting
abbrev fM(W:Wd):Prop:=W.Q 9 "how_many_fit" 4 .cl m_how_many_fit
abbrev gE(W:Wd):Prop:=W.Q 1 "ship_counts" 1 .nm m_ship_counts
abbrev lD(W:Wd):Prop:=W.Q 2 "chances_in" 2 .cl m_chances_in
abbrev dJ(W:Wd):Prop:=W.Q 9 "some_fitting" 4 .cl m_some_fitting
abbrev rF(W:Wd):Prop:=W.Q 10 "chances" 4 .cl m_chances
abbrev jZ(W:Wd):Prop:=W.Q 3 "refuse_shot" 3 .cl m_refuse_shot
abbrev iW(W:Wd):Prop:=W.Q 2 "unshot_cells" 2 .nw m_unshot_cells
abbrev kC(W:Wd):Prop:=W.Q 3 "parts_in" 3 .nm m_parts_in
abbrev kr(W:Wd):Prop:=W.Q 10 "parts_of" 5 .cl m_parts_of
abbrev rN(W:Wd):Prop:=W.Q 4 "best_in" 3 .cl m_best_in
abbrev mT(W:Wd):Prop:=W.Q 10 "best_shot" 4 .cl m_best_shot
abbrev gu(W:Wd):Prop:=W.Q 11 "_law_step_right" 3 .cl m__law_step_right
abbrev jU(W:Wd):Prop:=W.Q 2 "_law_ground" 1 .nm m__law_ground
theorem tu(h:W.At "_law_stir" st__law_stir)(T:Tx W):gq W:=gM ["cell","k","number"] 2 h λ_ _ _ _ _ _ _ hr hN=>(aj (a0 2 (rY (be (be (cV (aa 0) (zX ai ai)) (rY ai (aa 1))) ai) ai) hN) (aj (a0 2 (cV (aa 2) ai) hN) (aw (aZ (Do (cV (zX (be (zX (aa 2) ai) (rY ai (aa 1))) ai) ai) ai)))))
theorem qD(h:W.At "_law_drawn" st__law_drawn)(T:Tx W)(eD:gq W):kW W:=gM ["cell","sizes","found","rest","k"] 2 h λ_ _ _ _ _ _ _ hr hN=>(aj (jo 2 (cg ao) hN) (aj (a0 3 (aa 0) hN) (aj (cA M_ rfl (bW T.z_range (jb T.z_len (aa 1))) (aJ 4 hN) (aw (dk (Kc (w_or (Qt (aa 0) (zX ai ai)) (zy (iV hr (aa 3) ai)))) (aw (pj 2 (cV (aE eD hr (ae (aa 0) (ae (aa 4) ao))) (aQ (aa 1) (aa 4))))) (aj (pj 2 (cV (aa 3) (aQ (aa 1) (aa 4)))) (aw (a0 3 (Do (aa 3) (aQ (aa 1) (aa 4))) hN)))))) (aw (l9 2)))))
theorem tT(h:W.At "_law_game" st__law_game)(T:Tx W)(k__law_drawn:kW W):mW W:=gM ["cell","way","rows","columns","first","second","third","rule","sheet","fleet"] 1 h λ_ _ _ _ _ _ _ hr hN=>(aj (NM rfl (bT (aE k__law_drawn hr (ae (aa 0) (ae (bT (cg (ae ai (ae ai (ae ai (ae ai (ae ai (ae ai (ae ai ao))))))))) ao)))) (au 1 hN (au 2 hN (au 3 hN (au 4 hN (au 5 hN (au 6 hN (au 7 hN bI)))))))) (aj (a0 8 (aQ (cg (ae (a6 (ae (be ai (aa 2)) (ae (be ai (aa 3)) ao))) (ae (a6 (ae (be ai (cV (aa 2) ai)) (ae (be ai (cV (aa 3) ai)) ao))) (ae (a6 (ae (be ai (cV (aa 2) ai)) (ae (be ai (cV (aa 3) ai)) ao))) ao)))) (Mp T.z_min rfl (aa 1) ai)) hN) (aj (dk (iV hr (aa 1) ai) (aw (a0 8 (a6 (ae ai (ae (be ai (aa 3)) ao))) hN)) bO) (aj (a0 9 (aQ (cg (ae (a6 (ae (be ai (aa 4)) ao)) (ae (a6 (ae (be ai (cV (aa 4) ai)) (ae (be ai (cV (aa 5) ai)) ao))) (ae (a6 (ae (be ai (cV (aa 4) ai)) (ae (be ai (cV (aa 5) ai)) (ae (be ai (cV (aa 6) ai)) ao)))) ao)))) (cV (aa 1) ai)) hN) (aj (dk (iV hr (aa 1) ai) (aw (a0 9 (a6 (ae (be ai (cV (aa 4) ai)) (ae (be ai (cV (aa 5) ai)) (ae (be ai (cV (aa 6) ai)) ao)))) hN)) bO) (aj (a0 9 (HL T.z_tuple (NS (DG T.z_sorted (aa 9)))) hN) (aw (aZ (a6 (ae (aa 8) (ae (aa 9) (ae (aQ (cg (ae cq (ae cq (ae cq ao)))) (aa 7)) ao))))))))))))
theorem qB(h:W.At "_law_ships" st__law_ships)(T:Tx W):lE W:=gM ["sheet","length","found","row","column"] 2 h λ_ _ _ _ _ _ _ hr hN=>(aj (jo 2 (cg ao) hN) (aj (cA M_ rfl (bW T.z_range (aQ (aa 0) ai)) (aJ 3 hN) (aw (cA M_ rfl (bW T.z_range (aQ (aa 0) ai)) (aJ 4 hN) (aj (dk (MH (be (aa 4) (aa 1)) (aQ (aa 0) ai)) (aw (pj 2 (a6 (ae (aa 3) (ae (aa 4) (ae cq (ae (aa 1) ao))))))) bO) (aw (dk (Kc (w_and (MH (be (aa 3) (aa 1)) (aQ (aa 0) ai)) (yS (P7 (aa 1) ai)))) (aw (pj 2 (a6 (ae (aa 3) (ae (aa 4) (ae cq (ae (aa 1) ao))))))) bO)))))) (aw (l9 2))))
theorem qH(h:W.At "_law_cells" st__law_cells)(T:Tx W):eV W:=gM ["ship","row","column","way","length","found","k"] 1 h λ_ _ _ _ _ _ _ hr hN=>(aj (qt rfl (aa 0) (au 1 hN (au 2 hN (au 3 hN (au 4 hN bI))))) (aj (jo 5 (cg ao) hN) (aj (cA M_ rfl (bW T.z_range (aa 4)) (aJ 6 hN) (aw (pj 5 (a6 (ae (be (aa 1) (rY (aa 6) (DD T.z_int (yu hr (aa 3) cq)))) (ae (be (aa 2) (rY (aa 6) (DD T.z_int (yu hr (aa 3) cq)))) ao)))))) (aw (l9 5)))))
theorem sG(h:W.At "_law_halo" st__law_halo)(T:Tx W)(dM:eV W):ng W:=gM ["rule","ship","found","steps","row","column","down","right"] 2 h λ_ _ _ _ _ _ _ hr hN=>(aj (pR 2 (yL T.hw) hN) (aj (a0 3 (bT (cg (ae (a6 (ae ai (ae ai ao))) ao))) hN) (aj (dk (Bj hr (aa 0) cq) (aw (a0 3 (bT (nW (aa 3) (cg (ae (a6 (ae ai (ae ai ao))) (ae (a6 (ae ai (ae ai ao))) (ae (a6 (ae ai (ae (m7 ai) ao))) (ae (a6 (ae (m7 ai) (ae ai ao))) ao))))))) hN)) bO) (aj (dk (iV hr (aa 0) cq) (aw (a0 3 (bT (nW (aa 3) (cg (ae (a6 (ae ai (ae ai ao))) (ae (a6 (ae ai (ae (m7 ai) ao))) (ae (a6 (ae (m7 ai) (ae ai ao))) (ae (a6 (ae (m7 ai) (ae (m7 ai) ao))) ao))))))) hN)) bO) (aj (cA M_ rfl (aU (bT (aE dM hr (ae (aa 1) ao)))) (gp rfl (au 4 hN (au 5 hN bI))) (aw (cA M_ rfl (aU (aa 3)) (gp rfl (au 6 hN (au 7 hN bI))) (aw (xF 2 T.hw hr mH (a6 (ae (be (aa 4) (aa 6)) (ae (be (aa 5) (aa 7)) ao)))))))) (aw (yM 2)))))))
theorem uh(h:W.At "_law_free" st__law_free)(T:Tx W):ni W:=gM ["halo","ground","one","cell"] 2 h λ_ _ _ _ _ _ _ hr hN=>(aj (cA M_ rfl (aU (aa 0)) (aJ 2 hN) (aw (cA M_ rfl (aU (aa 1)) (aJ 3 hN) (aw (dk (IV T.hw hr (aa 3) (aa 2)) (aw (aZ mH)) bO))))) (aw (aZ mH)))
theorem vS(h:W.At "_law_all" st__law_all)(T:Tx W)(k__law_ships:lE W)(k__law_halo:ng W)(dM:eV W)(k__law_free:ni W):oJ W:=gM ["sheet","fleet","rule","rows","place","length","ships","halos","grounds","longer","hiding","halo","k","later"] 3 h λ_ _ _ _ _ _ _ hr hN=>(aj (a0 3 (bT (cg (ae (a6 (ae (a6 ao) (ae (bT (cg ao)) ao))) ao))) hN) (aj (cA M_ rfl (yp T.z_enumerate (aa 1)) (gp rfl (au 4 hN (au 5 hN bI))) (aj (a0 6 (bT (aE k__law_ships hr (ae (aa 0) (ae (aa 5) ao)))) hN) (aj (kE 7 (jh (Nc:=["ship","rule"]) (own:=["ship"]) (caps:=[2]) (bg 0) rfl (aU (aa 6)) rfl rfl (λ_ _ _ _ _ _=>have hN:=(by decide +kernel:List.Nodup (["ship","rule"]:XZ));(aN (λ_ _ z=>z) (aJ 0 hN) bD (EI (aE k__law_halo hr (ae (aa 1) (ae (aa 0) ao))))))) hN) (aj (kE 8 (jh (Nc:=["ship"]) (own:=["ship"]) (caps:=[]) (bg 0) rfl (aU (aa 6)) rfl rfl (λ_ _ _ _ _ _=>have hN:=(by decide +kernel:List.Nodup (["ship"]:XZ));(aN (λ_ _ z=>z) (aJ 0 hN) bD (bT (aE dM hr (ae (aa 0) ao)))))) hN) (aj (jo 9 (cg ao) hN) (aj (cA M_ rfl (aU (aa 3)) (gp rfl (au 10 hN (au 11 hN bI))) (aw (cA M_ rfl (bW T.z_range (jb T.z_len (aa 6))) (aJ 12 hN) (aj (a0 13 (M9 (yu hr (aa 4) ai) (M9 (Qb hr (aQ (aa 1) (iH (aa 4) ai)) (aa 5)) (oO (MD hr (aQ (aa 10) (m7 ai)) (aQ (aa 6) (aa 12)))))) hN) (aw (dk (Kc (w_and (gW (aa 13)) (yS (gW (aE k__law_free hr (ae (aa 11) (ae (aQ (aa 8) (aa 12)) ao))))))) (aw (pj 9 (a6 (ae (DK (aa 10) (a6 (ae (aQ (aa 6) (aa 12)) ao))) (ae (bT (nW (aa 11) (cg (ae (aQ (aa 7) (aa 12)) ao)))) ao))))) bO)))))) (zN 9 (aw (a0 3 (aa 9) hN))))))))) (aw (aZ (bN (Nc:=["hiding","halo"]) (own:=["hiding","halo"]) (caps:=[]) (kJ [0,1]) rfl (aU (aa 3)) rfl rfl (λ_ _ _ _ _ _=>have hN:=(by decide +kernel:List.Nodup (["hiding","halo"]:XZ));(aN (λ_ _ z=>z) (gp rfl (au 0 hN (au 1 hN bI))) bD (aa 0))))))))
theorem o7(h:W.At "_law_played" st__law_played)(T:Tx W)(k__law_game:mW W)(qf:oJ W):j6 W:=gM ["cell","sheet","fleet","rule","rows"] 1 h λ_ _ _ _ _ _ _ hr hN=>(aj (qt rfl (aE k__law_game hr (ae (aa 0) ao)) (au 1 hN (au 2 hN (au 3 hN bI)))) (aj (a0 4 (bT (aE qf hr (ae (aa 1) (ae (aa 2) (ae (aa 3) ao))))) hN) (aj (dk (iV hr (aa 4) (cg ao)) (aj (a0 2 (a6 (ae ai ao)) hN) (aw (a0 4 (bT (aE qf hr (ae (aa 1) (ae (aa 2) (ae (aa 3) ao))))) hN))) bO) (aw (aZ (a6 (ae (aa 1) (ae (aa 2) (ae (aa 3) (ae (aa 4) ao))))))))))
theorem qF(h:W.At "_law_order" st__law_order)(T:Tx W)(eD:gq W):ll W:=gM ["cell","things","found","k","thing"] 2 h λ_ _ _ _ _ _ _ hr hN=>(aj (jo 2 (cg ao) hN) (aj (cA M_ rfl (yp T.z_enumerate (aa 1)) (gp rfl (au 3 hN (au 4 hN bI))) (aw (NN 2 (cV (aE eD hr (ae (aa 0) (ae (be (rY ai (aa 3)) ai) ao))) (be (aa 3) ai)) (aa 4)))) (aw (l9 2))))
theorem jQ(h:W.At "_law_sheet_cells" st__law_sheet_cells)(T:Tx W):fP W:=gM ["sheet","found","row"] 1 h λ_ _ _ _ _ _ _ hr hN=>(aj (jo 1 (cg ao) hN) (aj (cA M_ rfl (bW T.z_range (aQ (aa 0) ai)) (aJ 2 hN) (aw (NZ 1 (bN (Nc:=["column","row"]) (own:=["column"]) (caps:=[2]) (bg 0) rfl (bW T.z_range (aQ (aa 0) ai)) rfl rfl (λ_ _ _ _ _ _=>have hN:=(by decide +kernel:List.Nodup (["column","row"]:XZ));(aN (λ_ _ z=>z) (aJ 0 hN) bD (a6 (ae (aa 1) (ae (aa 0) ao))))))))) (aw (l9 1))))
theorem uu(h:W.At "all_cells" st_all_cells)(T:Tx W):iX W:=gM ["sheet","rows","columns"] 1 h λ_ _ _ _ _ _ _ hr hN=>(aj (qt rfl (aa 0) (au 1 hN (au 2 hN bI))) (aw (aZ (bN (Nc:=["row","column","columns"]) (own:=["row","column"]) (caps:=[2]) (bg 0) rfl (bW T.z_range (aa 1)) rfl rfl (λ_ _ _ _ _ _=>have hN:=(by decide +kernel:List.Nodup (["row","column","columns"]:XZ));(vn (λ_ _ z=>z) rfl (aJ 0 hN) bD (bW T.z_range (aa 2)) (bg 1) (aN (λ_ _ z=>z) (aJ 1 hN) bD (a6 (ae (aa 0) (ae (aa 1) ao))))))))))
theorem pA(h:W.At "is_tuple_of" st_is_tuple_of)(T:Tx W):gB W:=gM ["thing","many"] 2 h λ_ _ _ _ _ _ _ hr hN=>(aw (aZ (mQ (Fc .tuple T.z_isinstance T.z_tuple (aa 0)) (oO (yu hr (jb T.z_len (aa 0)) (aa 1))))))
theorem wa(h:W.At "is_whole" st_is_whole)(T:Tx W):kc W:=gM ["thing"] 1 h λ_ _ _ _ _ _ _ hr hN=>(aw (aZ (mQ (Fc .int T.z_isinstance T.z_int (aa 0)) (oO (NY (Fc .bool T.z_isinstance T.z_bool (aa 0)))))))
theorem xV(h:W.At "is_size" st_is_size)(T:Tx W)(iE:kc W):rj W:=by
 obtain⟨v_GREATEST,u_GREATEST,g_GREATEST,rv_GREATEST,r_GREATEST⟩:=T.e_GREATEST;exact gM ["thing"] 1 h λ_ _ _ _ _ _ _ hr hN=>(aw (aZ (mQ (aE iE hr (ae (aa 0) ao)) (oO (uy rp rp BC BC ai (aa 0) (xE g_GREATEST rv_GREATEST r_GREATEST))))))
theorem xU(h:W.At "is_cell" st_is_cell)(T:Tx W)(gJ:gB W)(iE:kc W):my W:=gM ["sheet","thing","row","column"] 2 h λ_ _ _ _ _ _ _ hr hN=>(aj (dk (k8 (gW (aE gJ hr (ae (aa 1) (ae ai ao))))) (aw (aZ mH)) bO) (aj (qt rfl (aa 1) (au 2 hN (au 3 hN bI))) (aw (aZ (mQ (aE iE hr (ae (aa 2) ao)) (mQ (aE iE hr (ae (aa 3) ao)) (mQ (uy rp Dn BC JB ai (aa 2) (aQ (aa 0) ai)) (oO (uy rp Dn BC JB ai (aa 3) (aQ (aa 0) ai))))))))))
theorem xA(h:W.At "is_ship" st_is_ship)(T:Tx W)(gJ:gB W)(k_is_size:rj W)(mP:my W):rO W:=by
 obtain⟨v_WAYS,u_WAYS,ze,uK,zg⟩:=T.e_WAYS;exact gM ["sheet","thing","row","column","way","length"] 2 h λ_ _ _ _ _ _ _ hr hN=>(aj (dk (k8 (gW (aE gJ hr (ae (aa 1) (ae ai ao))))) (aw (aZ mH)) bO) (aj (qt rfl (aa 1) (au 2 hN (au 3 hN (au 4 hN (au 5 hN bI))))) (aj (dk (Kc (w_or (IQ hr (aa 4) (xE ze uK zg)) (w_or (k8 (gW (aE k_is_size hr (ae (aa 5) ao)))) (zy (k8 (gW (aE mP hr (ae (aa 0) (ae (a6 (ae (aa 2) (ae (aa 3) ao))) ao))))))))) (aw (aZ mH)) bO) (aj (dk (iV hr (aa 4) cq) (aw (aZ (mQ (Hy (aa 5) ai) (oO (M4 (be (aa 2) (aa 5)) (aQ (aa 0) ai)))))) bO) (aw (aZ (M4 (be (aa 3) (aa 5)) (aQ (aa 0) ai))))))))
theorem uP(h:W.At "ships_of" st_ships_of)(T:Tx W)(jv:iX W)(k_is_ship:rO W):oe W:=by
 obtain⟨v_WAYS,u_WAYS,ze,uK,zg⟩:=T.e_WAYS;exact gM ["sheet","length","ships"] 2 h λ_ _ _ _ _ _ _ hr hN=>(aj (kE 2 (jh (Nc:=["row","column","way","length"]) (own:=["row","column","way"]) (caps:=[1]) (kJ [0,1]) rfl (aU (bT (aE jv hr (ae (aa 0) ao)))) rfl rfl (λ_ _ _ _ _ _=>have hN:=(by decide +kernel:List.Nodup (["row","column","way","length"]:XZ));(vn (λ_ _ z=>z) rfl (gp rfl (au 0 hN (au 1 hN bI))) bD (rq (xE ze uK zg)) (bg 2) (aN (λ_ _ z=>z) (aJ 2 hN) bD (a6 (ae (aa 0) (ae (aa 1) (ae (aa 2) (ae (aa 3) ao))))))))) hN) (aw (aZ (bN (Nc:=["ship","sheet"]) (own:=["ship"]) (caps:=[0]) (bg 0) rfl (aU (aa 2)) rfl rfl (λ_ _ _ _ _ _=>have hN:=(by decide +kernel:List.Nodup (["ship","sheet"]:XZ));(aN (λ_ _ z=>z) (aJ 0 hN) (fN (λ_ _ z=>z) (gW (aE k_is_ship hr (ae (aa 1) (ae (aa 0) ao))))) (aa 0)))))))
theorem uU(h:W.At "cells_of" st_cells_of)(T:Tx W):dW W:=gM ["ship","row","column","way","length"] 1 h λ_ _ _ _ _ _ _ hr hN=>(aj (qt rfl (aa 0) (au 1 hN (au 2 hN (au 3 hN (au 4 hN bI))))) (aj (dk (iV hr (aa 3) cq) (aw (aZ (bN (Nc:=["step","row","column"]) (own:=["step"]) (caps:=[1,2]) (bg 0) rfl (bW T.z_range (aa 4)) rfl rfl (λ_ _ _ _ _ _=>have hN:=(by decide +kernel:List.Nodup (["step","row","column"]:XZ));(aN (λ_ _ z=>z) (aJ 0 hN) bD (a6 (ae (be (aa 1) (aa 0)) (ae (aa 2) ao)))))))) bO) (aw (aZ (bN (Nc:=["step","row","column"]) (own:=["step"]) (caps:=[1,2]) (bg 0) rfl (bW T.z_range (aa 4)) rfl rfl (λ_ _ _ _ _ _=>have hN:=(by decide +kernel:List.Nodup (["step","row","column"]:XZ));(aN (λ_ _ z=>z) (aJ 0 hN) bD (a6 (ae (aa 1) (ae (be (aa 2) (aa 0)) ao))))))))))
theorem tU(h:W.At "answer_to" st_answer_to)(T:Tx W):mS W:=gM ["bodies","cell","shot","body"] 3 h λ_ _ _ _ _ _ _ hr hN=>(aj (cA M_ rfl (aU (aa 0)) (aJ 3 hN) (aw (dk (CP hr (aa 1) (aa 3)) (aw (aZ (v9 (gW (NL T.z_all rfl (bN (Nc:=["part","shot"]) (own:=["part"]) (caps:=[2]) (bg 0) rfl (aU (aa 3)) rfl rfl (λ_ _ _ _ _ _=>have hN:=(by decide +kernel:List.Nodup (["part","shot"]:XZ));(aN (λ_ _ z=>z) (aJ 0 hN) bD (QE hr (aa 0) (aa 1))))))) cq cq))) bO))) (aw (aZ cq)))
theorem qA(h:W.At "answers_of" st_answers_of)(T:Tx W)(b9:dW W)(k_answer_to:mS W):ig W:=gM ["hiding","cells","bodies"] 2 h λ_ _ _ _ _ _ _ hr hN=>(aj (a0 2 (bT (bN (Nc:=["ship"]) (own:=["ship"]) (caps:=[]) (bg 0) rfl (rq (aa 0)) rfl rfl (λ_ _ _ _ _ _=>have hN:=(by decide +kernel:List.Nodup (["ship"]:XZ));(aN (λ_ _ z=>z) (aJ 0 hN) bD (bT (aE b9 hr (ae (aa 0) ao))))))) hN) (aw (aZ (bN (Nc:=["at","cell","bodies","cells"]) (own:=["at","cell"]) (caps:=[2,1]) (kJ [0,1]) rfl (yp T.z_enumerate (aa 1)) rfl rfl (λ_ _ _ _ _ _=>have hN:=(by decide +kernel:List.Nodup (["at","cell","bodies","cells"]:XZ));(aN (λ_ _ z=>z) (gp rfl (au 0 hN (au 1 hN bI))) bD (aE k_answer_to hr (ae (aa 2) (ae (aa 1) (ae (bT (z8 (aa 3) uk (uc (be (aa 0) ai)))) ao))))))))))
theorem qJ(h:W.At "shot_cells" st_shot_cells)(T:Tx W):eY W:=gM ["record"] 1 h λ_ _ _ _ _ _ _ hr hN=>(aw (aZ (bN (Nc:=["cell","answer"]) (own:=["cell","answer"]) (caps:=[]) (kJ [0,1]) rfl (aU (aa 0)) rfl rfl (λ_ _ _ _ _ _=>have hN:=(by decide +kernel:List.Nodup (["cell","answer"]:XZ));(aN (λ_ _ z=>z) (gp rfl (au 0 hN (au 1 hN bI))) bD (aa 0))))))
theorem Gb(h:W.At "fits" st_fits)(T:Tx W)(iG:ig W)(dN:eY W):ym W:=gM ["hiding","record"] 2 h λ_ _ _ _ _ _ _ hr hN=>(aw (aZ (yu hr (aE iG hr (ae (aa 0) (ae (bT (aE dN hr (ae (aa 1) ao))) ao))) (bN (Nc:=["cell","answer"]) (own:=["cell","answer"]) (caps:=[]) (kJ [0,1]) rfl (aU (aa 1)) rfl rfl (λ_ _ _ _ _ _=>have hN:=(by decide +kernel:List.Nodup (["cell","answer"]:XZ));(aN (λ_ _ z=>z) (gp rfl (au 0 hN (au 1 hN bI))) bD (aa 1)))))))
theorem um(h:W.At "ship_fits" st_ship_fits)(T:Tx W)(b9:dW W)(zi:ym W):m9 W:=gM ["ship","record","body"] 2 h λ_ _ _ _ _ _ _ hr hN=>(aj (a0 2 (bT (aE b9 hr (ae (aa 0) ao))) hN) (aw (aZ (aE zi hr (ae (a6 (ae (aa 0) ao)) (ae (bT (bN (Nc:=["cell","answer","body"]) (own:=["cell","answer"]) (caps:=[2]) (kJ [0,1]) rfl (aU (aa 1)) rfl rfl (λ_ _ _ _ _ _=>have hN:=(by decide +kernel:List.Nodup (["cell","answer","body"]:XZ));(aN (λ_ _ z=>z) (gp rfl (au 0 hN (au 1 hN bI))) (fN (λ_ _ z=>z) (CP hr (aa 0) (aa 2))) (a6 (ae (aa 0) (ae (aa 1) ao))))))) ao))))))
theorem nA(h:W.At "rows_between" st_rows_between)(T:Tx W):iT W:=gM ["one","other","one_last","other_last"] 2 h λ_ _ _ _ _ _ _ hr hN=>(aj (a0 2 (v9 (iV hr (aQ (aa 0) ai) cq) (iH (be (aQ (aa 0) ai) (aQ (aa 0) ai)) ai) (aQ (aa 0) ai)) hN) (aj (a0 3 (v9 (iV hr (aQ (aa 1) ai) cq) (iH (be (aQ (aa 1) ai) (aQ (aa 1) ai)) ai) (aQ (aa 1) ai)) hN) (aw (aZ (EV T.z_max rfl (iH (aQ (aa 1) ai) (aa 2)) (iH (aQ (aa 0) ai) (aa 3)) ai)))))
theorem ky(h:W.At "columns_between" st_columns_between)(T:Tx W):f' W:=gM ["one","other","one_last","other_last"] 2 h λ_ _ _ _ _ _ _ hr hN=>(aj (a0 2 (v9 (iV hr (aQ (aa 0) ai) cq) (iH (be (aQ (aa 0) ai) (aQ (aa 0) ai)) ai) (aQ (aa 0) ai)) hN) (aj (a0 3 (v9 (iV hr (aQ (aa 1) ai) cq) (iH (be (aQ (aa 1) ai) (aQ (aa 1) ai)) ai) (aQ (aa 1) ai)) hN) (aw (aZ (EV T.z_max rfl (iH (aQ (aa 1) ai) (aa 2)) (iH (aQ (aa 0) ai) (aa 3)) ai)))))
theorem G4(h:W.At "keep" st_keep)(T:Tx W)(k_rows_between:iT W)(k_columns_between:f' W):EB W:=gM ["rule","one","other","rows","columns"] 3 h λ_ _ _ _ _ _ _ hr hN=>(aj (a0 3 (aE k_rows_between hr (ae (aa 1) (ae (aa 2) ao))) hN) (aj (a0 4 (aE k_columns_between hr (ae (aa 1) (ae (aa 2) ao))) hN) (aj (dk (iV hr (aa 0) cq) (aw (aZ (Hy (be (aa 3) (aa 4)) ai))) bO) (aj (dk (iV hr (aa 0) cq) (aw (aZ (Hy (be (aa 3) (aa 4)) ai))) bO) (aw (aZ (Hy (MY T.z_max rfl (aa 3) (aa 4)) ai)))))))
theorem qr(h:W.At "may_follow" st_may_follow)(T:Tx W)(k_keep:EB W):lj W:=gM ["rule","ship","other"] 3 h λ_ _ _ _ _ _ _ hr hN=>(aj (dk (Kc (w_and (iV hr (aQ (aa 2) ai) (aQ (aa 1) ai)) (yS (M' hr (aa 2) (aa 1))))) (aw (aZ mH)) bO) (aw (aZ (aE k_keep hr (ae (aa 0) (ae (aa 1) (ae (aa 2) ao)))))))
theorem mv(h:W.At "hidings_among" st_hidings_among)(T:Tx W)(k_may_follow:lj W):iJ W:=T5 (k:=3) (m:=bc) (fb:=λi=>cY (bc i)) ["rule","choices","first","rest","found","ship","left"] 2 4 h rfl (λ_=>rfl) λi K_hidings_among _ _ _ _ _ _ _ hr hN=>(aj (Li 2 3 rfl (aa 1) hN) (aj (dk (k8 (I0 (aa 3))) (aw (aZ (bN (Nc:=["ship"]) (own:=["ship"]) (caps:=[]) (bg 0) rfl (aU (aa 2)) rfl rfl (λ_ _ _ _ _ _=>have hN:=(by decide +kernel:List.Nodup (["ship"]:XZ));(aN (λ_ _ z=>z) (aJ 0 hN) bD (a6 (ae (aa 0) ao))))))) bO) (aj (jo 4 (cg ao) hN) (aj (cA M_ rfl (aU (aa 2)) (aJ 5 hN) (aj (kE 6 (jh (Nc:=["others","rule","ship"]) (own:=["others"]) (caps:=[0,5]) (bg 0) rfl (aU (aa 3)) rfl rfl (λ_ _ _ _ _ _=>have hN:=(by decide +kernel:List.Nodup (["others","rule","ship"]:XZ));(aN (λ_ _ z=>z) (aJ 0 hN) bD (bT (bN (Nc:=["other","rule","ship"]) (own:=["other"]) (caps:=[1,2]) (bg 0) rfl (aU (aa 0)) rfl rfl (λ_ _ _ _ _ _=>have hN:=(by decide +kernel:List.Nodup (["other","rule","ship"]:XZ));(aN (λ_ _ z=>z) (aJ 0 hN) (fN (λ_ _ z=>z) (gW (aE k_may_follow hr (ae (aa 1) (ae (aa 2) (ae (aa 0) ao)))))) (aa 0)))))))) hN) (aw (NV 4 (bN (Nc:=["others","ship"]) (own:=["others"]) (caps:=[5]) (bg 0) rfl (aU (bT (ER K_hidings_among hr (ae (aa 0) (ae (aa 6) ao))))) rfl rfl (λ_ _ _ _ _ _=>have hN:=(by decide +kernel:List.Nodup (["others","ship"]:XZ));(aN (λ_ _ z=>z) (aJ 0 hN) bD (DK (a6 (ae (aa 1) ao)) (aa 0))))) hN)))) (aw (l9 4))))))
theorem pJ(h:W.At "all_fitting" st_all_fitting)(T:Tx W)(k_ships_of:oe W)(k_ship_fits:m9 W)(b9:dW W)(k_hidings_among:iJ W):gy W:=gM ["sheet","fleet","rule","record","struck","choices","strikes","found"] 4 h λ_ _ _ _ _ _ _ hr hN=>(aj (a0 4 (bT (bN (Nc:=["cell","answer"]) (own:=["cell","answer"]) (caps:=[]) (kJ [0,1]) rfl (aU (aa 3)) rfl rfl (λ_ _ _ _ _ _=>have hN:=(by decide +kernel:List.Nodup (["cell","answer"]:XZ));(aN (λ_ _ z=>z) (gp rfl (au 0 hN (au 1 hN bI))) (fN (λ_ _ z=>z) (Bj hr (aa 1) cq)) (aa 0))))) hN) (aj (kE 5 (jh (Nc:=["length","sheet","record"]) (own:=["length"]) (caps:=[0,3]) (bg 0) rfl (rq (aa 1)) rfl rfl (λ_ _ _ _ _ _=>have hN:=(by decide +kernel:List.Nodup (["length","sheet","record"]:XZ));(aN (λ_ _ z=>z) (aJ 0 hN) bD (bT (bN (Nc:=["ship","record"]) (own:=["ship"]) (caps:=[2]) (bg 0) rfl (aU (bT (aE k_ships_of hr (ae (aa 1) (ae (aa 0) ao))))) rfl rfl (λ_ _ _ _ _ _=>have hN:=(by decide +kernel:List.Nodup (["ship","record"]:XZ));(aN (λ_ _ z=>z) (aJ 0 hN) (fN (λ_ _ z=>z) (gW (aE k_ship_fits hr (ae (aa 0) (ae (aa 1) ao))))) (aa 0)))))))) hN) (aj (a0 6 (EI (nM (Nc:=["ships","ship","struck"]) (own:=["ships","ship"]) (caps:=[4]) T.hw (bg 0) rfl (aU (aa 5)) rfl rfl (λ_ _ _ _ _ _=>have hN:=(by decide +kernel:List.Nodup (["ships","ship","struck"]:XZ));(B3 (λ_ _ z=>z) rfl (aJ 0 hN) bD (aU (aa 0)) (bg 1) (jJ (jl hr) (λ_ _ z=>z) (aJ 1 hN) bD (aa 1) (jb T.z_len (bN (Nc:=["cell","struck"]) (own:=["cell"]) (caps:=[2]) (bg 0) rfl (aU (bT (aE b9 hr (ae (aa 1) ao)))) rfl rfl (λ_ _ _ _ _ _=>have hN:=(by decide +kernel:List.Nodup (["cell","struck"]:XZ));(aN (λ_ _ z=>z) (aJ 0 hN) (fN (λ_ _ z=>z) (CP hr (aa 0) (aa 1))) (aa 0)))))))))) hN) (aj (a0 7 (bT (aE k_hidings_among hr (ae (aa 2) (ae (aa 5) ao)))) hN) (aw (aZ (bN (Nc:=["hiding","strikes","struck"]) (own:=["hiding"]) (caps:=[6,4]) (bg 0) rfl (aU (aa 7)) rfl rfl (λ_ _ _ _ _ _=>have hN:=(by decide +kernel:List.Nodup (["hiding","strikes","struck"]:XZ));(aN (λ_ _ z=>z) (aJ 0 hN) (fN (λ_ _ z=>z) (iV hr (L9 T.z_sum rfl (bN (Nc:=["ship","strikes"]) (own:=["ship"]) (caps:=[1]) (bg 0) rfl (rq (aa 0)) rfl rfl (λ_ _ _ _ _ _=>have hN:=(by decide +kernel:List.Nodup (["ship","strikes"]:XZ));(aN (λ_ _ z=>z) (aJ 0 hN) bD (jk T.hw hr (aa 1) (aa 0)))))) (jb T.z_len (aa 2)))) (aa 0))))))))))
theorem nD(h:W.At "how_many_fit" st_how_many_fit)(T:Tx W)(gK:gy W):fM W:=gM ["sheet","fleet","rule","record"] 4 h λ_ _ _ _ _ _ _ hr hN=>(aw (aZ (jb T.z_len (aE gK hr (ae (aa 0) (ae (aa 1) (ae (aa 2) (ae (aa 3) ao))))))))
theorem oA(h:W.At "ship_counts" st_ship_counts)(T:Tx W):gE W:=gM ["found","counts","hiding","ship"] 1 h λ_ _ _ _ _ _ _ hr hN=>(aj (pR 1 (yL T.hw) hN) (aj (cA M_ rfl (aU (aa 0)) (aJ 2 hN) (aw (cA M_ rfl (rq (aa 2)) (aJ 3 hN) (aw (xF 1 T.hw hr (be (F2 T.hw hr (PX 1) (aa 3) ai) ai) (aa 3)))))) (aw (yM 1))))
theorem qm(h:W.At "chances_in" st_chances_in)(T:Tx W)(gL:gE W)(b9:dW W):lD W:=gM ["sheet","found","rows","columns","table","ship","many","row","column"] 2 h λ_ _ _ _ _ _ _ hr hN=>(aj (qt rfl (aa 0) (au 2 hN (au 3 hN bI))) (by refine Gw (fi2:=(cF (λenv=>((ab bV fNil) env).bind m_cells_of))) 4 5 6 7 8 M_ rfl hN ?_ ?_ ?_ ?_;(exact(jh (qo:=P9) (Nc:=["row","columns"]) (own:=["row"]) (caps:=[3]) (bg 0) rfl (bW T.z_range (aa 2)) rfl rfl (λ_ _ _ _ _ _=>have hN:=(by decide +kernel:List.Nodup (["row","columns"]:XZ));(B5 (hz:=rep0) (λ_ _ z=>z) (aJ 0 hN) bD (KP (cg (ae ai ao)) (aa 1))))));(exact(z7 T.hw (aE gL hr (ae (aa 1) ao))));(exact(aU (bT (aE b9 hr (ae (aa 5) ao)))));(exact Mv)))
theorem ny(h:W.At "some_fitting" st_some_fitting)(T:Tx W)(gK:gy W):dJ W:=gM ["sheet","fleet","rule","record","found"] 4 h λ_ _ _ _ _ _ _ hr hN=>(aj (a0 4 (bT (aE gK hr (ae (aa 0) (ae (aa 1) (ae (aa 2) (ae (aa 3) ao)))))) hN) (aj (dk (k8 (I0 (aa 4))) (aw nN) bO) (aw (aZ (aa 4)))))
theorem yF(h:W.At "chances" st_chances)(T:Tx W)(k_chances_in:lD W)(cH:dJ W):rF W:=gM ["sheet","fleet","rule","record"] 4 h λ_ _ _ _ _ _ _ hr hN=>(aw (aZ (aE k_chances_in hr (ae (aa 0) (ae (aE cH hr (ae (aa 0) (ae (aa 1) (ae (aa 2) (ae (aa 3) ao))))) ao)))))
theorem oY(h:W.At "refuse_shot" st_refuse_shot)(T:Tx W)(mP:my W)(dN:eY W):jZ W:=T2 ["sheet","record","cell"] 3 h λ_ _ _ _ _ _ _ hr hN=>(aj (dk (k8 (gW (aE mP hr (ae (aa 0) (ae (aa 2) ao))))) (aw nN) bO) (aw (dk (CP hr (aa 2) (aE dN hr (ae (aa 1) ao))) (aw nN) bO)))
theorem nt(h:W.At "unshot_cells" st_unshot_cells)(T:Tx W)(dN:eY W)(jv:iX W):iW W:=gM ["sheet","record","shot"] 2 h λ_ _ _ _ _ _ _ hr hN=>(aj (a0 2 (Jt T.z_set rfl hr (aE dN hr (ae (aa 1) ao))) hN) (aw (aZ (bN (Nc:=["cell","shot"]) (own:=["cell"]) (caps:=[2]) (bg 0) rfl (aU (bT (aE jv hr (ae (aa 0) ao)))) rfl rfl (λ_ _ _ _ _ _=>have hN:=(by decide +kernel:List.Nodup (["cell","shot"]:XZ));(aN (λ_ _ z=>z) (aJ 0 hN) (fN (λ_ _ z=>z) (JE hr (aa 0) (aa 1))) (aa 0)))))))
theorem wR(h:W.At "parts_in" st_parts_in)(T:Tx W)(k_unshot_cells:iW W)(gL:gE W)(b9:dW W):kC W:=gM ["sheet","found","record","left","hits","sinks","ship","many","whole","answered","cell"] 3 h λ_ _ _ _ _ _ _ hr hN=>(aj (a0 3 (bT (aE k_unshot_cells hr (ae (aa 0) (ae (aa 2) ao)))) hN) (aj (pR 4 (nM (Nc:=["cell"]) (own:=["cell"]) (caps:=[]) T.hw (bg 0) rfl (aU (aa 3)) rfl rfl (λ_ _ _ _ _ _=>have hN:=(by decide +kernel:List.Nodup (["cell"]:XZ));(jJ (jl hr) (λ_ _ z=>z) (aJ 0 hN) bD (aa 0) ai))) hN) (aj (pR 5 (nM (Nc:=["cell"]) (own:=["cell"]) (caps:=[]) T.hw (bg 0) rfl (aU (aa 3)) rfl rfl (λ_ _ _ _ _ _=>have hN:=(by decide +kernel:List.Nodup (["cell"]:XZ));(jJ (jl hr) (λ_ _ z=>z) (aJ 0 hN) bD (aa 0) ai))) hN) (aj (cA M_ rfl (z7 T.hw (aE gL hr (ae (aa 1) ao))) (gp rfl (au 6 hN (au 7 hN bI))) (aj (kE 8 (NG 4 (jh (Nc:=["cell","hits"]) (own:=["cell"]) (caps:=[4]) (bg 0) rfl (aU (bT (aE b9 hr (ae (aa 6) ao)))) rfl rfl (λ_ _ _ _ _ _=>have hN:=(by decide +kernel:List.Nodup (["cell","hits"]:XZ));(aN (λ_ _ z=>z) (aJ 0 hN) (fN (λ_ _ z=>z) (IV T.hw hr (aa 0) (aa 1))) (aa 0))))) hN) (N3 T.hw 9 5 4 10 7 8 hr M_ rfl hN (iV hr (jb T.z_len (aa 8)) ai)))) (zN 4 (zN 5 (aw (aZ (nM (Nc:=["cell","found","hits","sinks"]) (own:=["cell"]) (caps:=[1,4,5]) T.hw (bg 0) rfl (aU (aa 3)) rfl rfl (λ_ _ _ _ _ _=>have hN:=(by decide +kernel:List.Nodup (["cell","found","hits","sinks"]:XZ));(jJ (jl hr) (λ_ _ z=>z) (aJ 0 hN) bD (aa 0) (a6 (ae (iH (iH (jb T.z_len (aa 1)) (jk T.hw hr (aa 2) (aa 0))) (jk T.hw hr (aa 3) (aa 0))) (ae (jk T.hw hr (aa 2) (aa 0)) (ae (jk T.hw hr (aa 3) (aa 0)) ao)))))))))))))))
theorem u9(h:W.At "parts_of" st_parts_of)(T:Tx W)(cH:dJ W)(k_refuse_shot:jZ W)(kK:kC W):kr W:=gM ["sheet","fleet","rule","record","cell","found"] 5 h λ_ _ _ _ _ _ _ hr hN=>(aj (a0 5 (aE cH hr (ae (aa 0) (ae (aa 1) (ae (aa 2) (ae (aa 3) ao))))) hN) (aj (Km (aE k_refuse_shot hr (ae (aa 0) (ae (aa 3) (ae (aa 4) ao))))) (aw (aZ (jk T.hw hr (aE kK hr (ae (aa 0) (ae (aa 5) (ae (aa 3) ao)))) (aa 4))))))
theorem yQ{c P:Ye}(h:W.AtC "best_in" st_best_in c)(lm:Lam W "best_in" c P)(T:Tx W)(kK:kC W):rN W:=Qz ["sheet","found","record","parts","best"] 3 h λ_ _ _ _ _ _ hr hN=>(aj (a0 3 (EI (aE kK hr (ae (aa 0) (ae (aa 1) (ae (aa 2) ao))))) hN) (aj (dk (k8 (Ku (th:=Th.h) (aa 3))) (aw nN) bO) (aj (a0 4 (KC (k:=0) (Nc:=["cell","parts"]) (caps:=[3]) (hr.mono (by decide)) T.z_min rfl lm.t rfl lm.c (HS (th:=Th.h) T.z_list rfl (aa 3)) rfl rfl rfl (λ_ _ _ _ _ hr=>(yz T.z_max rfl (jk T.hw hr (aa 1) (aa 0))))) hN) (aw (aZ (a6 (ae (aa 4) (ae (jk T.hw hr (aa 3) (aa 4)) ao))))))))
theorem tJ(h:W.At "best_shot" st_best_shot)(T:Tx W)(k_best_in:rN W)(cH:dJ W):mT W:=gM ["sheet","fleet","rule","record"] 4 h λ_ _ _ _ _ _ _ hr hN=>(aw (aZ (aE k_best_in hr (ae (aa 0) (ae (aE cH hr (ae (aa 0) (ae (aa 1) (ae (aa 2) (ae (aa 3) ao))))) (ae (aa 3) ao))))))
theorem kj(h:W.At "_law_step_right" st__law_step_right)(T:Tx W)(fU:fM W)(k_chances:rF W)(kM:kr W)(k_best_shot:mT W):gu W:=gM ["game","record","left","sheet","fleet","rule","many","table","greatest","spot","parts"] 3 h λ_ _ _ _ _ _ _ hr hN=>(aj (qt rfl (aa 0) (au 3 hN (au 4 hN (au 5 hN bI)))) (aj (a0 6 (aE fU hr (ae (aa 3) (ae (aa 4) (ae (aa 5) (ae (aa 1) ao))))) hN) (aj (a0 7 (aE k_chances hr (ae (aa 3) (ae (aa 4) (ae (aa 5) (ae (aa 1) ao))))) hN) (aj (jo 8 (cg ao) hN) (aj (cA M_ rfl (aU (bT (zH T.z_sorted (aa 2)))) (aJ 9 hN) (aj (a0 10 (aE kM hr (ae (aa 3) (ae (aa 4) (ae (aa 5) (ae (aa 1) (ae (aa 9) ao)))))) hN) (aj (dk (Kc (w_or (Bj hr (JV T.z_sum rfl (aa 10)) (aa 6)) (zy (Bj hr (be (aQ (aa 10) ai) (aQ (aa 10) ai)) (aQ (aQ (aa 7) (aQ (aa 9) ai)) (aQ (aa 9) ai)))))) (aw (aZ mH)) bO) (aw (pj 8 (yz T.z_max rfl (aa 10))))))) (aj (qt rfl (aE k_best_shot hr (ae (aa 3) (ae (aa 4) (ae (aa 5) (ae (aa 1) ao))))) (au 9 hN (au 10 hN bI))) (zN 8 (aw (aZ (mQ (yu hr (aa 9) (aQ (zH T.z_sorted (aa 2)) (zm hr (aa 8) (Et T.z_min rfl (aa 8))))) (oO (yu hr (yz T.z_max rfl (aa 10)) (Et T.z_min rfl (aa 8))))))))))))))
theorem oF(h:W.At "_law_ground" st__law_ground)(T:Tx W)(dM:eV W):jU W:=gM ["hiding","found","ship","cell"] 1 h λ_ _ _ _ _ _ _ hr hN=>(aj (pR 1 (yL T.hw) hN) (aj (cA M_ rfl (rq (aa 0)) (aJ 2 hN) (aw (cA M_ rfl (aU (bT (aE dM hr (ae (aa 2) ao)))) (aJ 3 hN) (aw (xF 1 T.hw hr mH (aa 3)))))) (aw (yM 1))))
theorem K3{f:Ye}{fd:Yc}(F:Fn W.K "law" "law" st_law f fd)(T:Tx W)(k__law_played:j6 W)(eD:gq W)(k__law_order:ll W)(k__law_sheet_cells:fP W)(k__law_step_right:gu W)(iG:ig W)(kM:kr W)(fU:fM W)(zi:ym W)(j9:jU W):jS W.P W.w W.K W.mg W.base uM 12 f fd ["script"] (FF W.K 1 .cl m_law):=T4 ["script","cell","sheet","fleet","rule","rows","hiding","cells","record","k","ahead","answer","parts","some"] 1 F λ_ _ _ _ _ _ _ hr hN=>(aj (cA M_ rfl (aU (bT (nW (cg (ae ai ao)) (z8 (aa 0) uk (uc ai))))) (aJ 1 hN) (aj (qt rfl (aE k__law_played hr (ae (aa 1) ao)) (au 2 hN (au 3 hN (au 4 hN (au 5 hN bI))))) (aj (a0 6 (aQ (aa 5) (cV (aE eD hr (ae (aa 1) (ae ai ao))) (jb T.z_len (aa 5)))) hN) (aj (a0 7 (bT (aE k__law_order hr (ae (aa 1) (ae (bT (aE k__law_sheet_cells hr (ae (aa 2) ao))) ao)))) hN) (aj (a0 8 (bT (cg ao)) hN) (aj (cA M_ rfl (bW T.z_range (jb T.z_len (aa 7))) (aJ 9 hN) (aj (dk (CP hr (aa 9) (a6 (ae ai (ae ai (ae (iH (jb T.z_len (aa 7)) ai) ao))))) (aw (dk (k8 (gW (aE k__law_step_right hr (ae (a6 (ae (aa 2) (ae (aa 3) (ae (aa 4) ao)))) (ae (aa 8) (ae (bT (z8 (aa 7) (uc (aa 9)) uk)) ao)))))) (aw (aZ mH)) bO)) bO) (aj (a0 10 (aa 8) hN) (aj (a0 11 (aQ (aE iG hr (ae (aa 6) (ae (bT (z8 (aa 7) uk (uc (be (aa 9) ai)))) ao))) (m7 ai)) hN) (aj (a0 8 (bT (nW (aa 8) (cg (ae (a6 (ae (aQ (aa 7) (aa 9)) (ae (aa 11) ao))) ao)))) hN) (aw (dk (iV hr (cV (aa 9) ai) ai) (aj (a0 12 (aE kM hr (ae (aa 2) (ae (aa 3) (ae (aa 4) (ae (aa 10) (ae (aQ (aa 7) (aa 9)) ao)))))) hN) (aw (dk (Bj hr (aE fU hr (ae (aa 2) (ae (aa 3) (ae (aa 4) (ae (aa 8) ao))))) (aQ (aa 12) (zm hr (bT (cg (ae cq (ae cq (ae cq ao))))) (aa 11)))) (aw (aZ mH)) bO))) bO))))))) (aj (kE 13 (jh (Nc:=["one","record"]) (own:=["one"]) (caps:=[8]) (bg 0) rfl (aU (aa 5)) rfl rfl (λ_ _ _ _ _ _=>have hN:=(by decide +kernel:List.Nodup (["one","record"]:XZ));(aN (λ_ _ z=>z) (aJ 0 hN) (fN (λ_ _ z=>z) (gW (aE zi hr (ae (aa 0) (ae (aa 1) ao))))) (aa 0)))) hN) (aw (dk (Kc (w_or (IQ hr (aa 6) (aa 13)) (zy (Bj hr (bN (Nc:=["one","hiding"]) (own:=["one"]) (caps:=[6]) (bg 0) rfl (aU (aa 13)) rfl rfl (λ_ _ _ _ _ _=>have hN:=(by decide +kernel:List.Nodup (["one","hiding"]:XZ));(aN (λ_ _ z=>z) (aJ 0 hN) (fN (λ_ _ z=>z) (Ma T.hw hr (aE j9 hr (ae (aa 0) ao)) (aE j9 hr (ae (aa 1) ao)))) (aa 0)))) (cg ao))))) (aw (aZ mH)) bO))))))))) (aw (aZ mH)))
end
end K15
namespace K15
open PySem PySem.Spec PyProof.Rows L2 Mi
open PySem.W (nsIn findIn keepIn codeIn mg_of mg_none_of)
theorem all_mk{l:PySem.W.OpenLaw}{w:Yb}{K:X6}{h:Ya}{mg:XS}{fa:Ye}(X:K.In h)(G:h.Ns mainGlobals mg)(SW:mg "law"=some (.ref fa))
  {f0 f1 f2 f3 f4 f5 f6 f7 f8 f9 f10 f11 f12 f13 f14 f15 f16 f17 f18 f19 f20 f21 f22 f23 f24 f25 f26 f27 f28 f29 f30 f31 f32 f33 f34 f35 f36 f37 f38 f39 f40 f41 f42 f43:Ye}
  (h0:eG K "_law_stir" st__law_stir f0)
  (h1:eG K "_law_drawn" st__law_drawn f1)
  (h2:eG K "_law_game" st__law_game f2)
  (h3:eG K "_law_ships" st__law_ships f3)
  (h4:eG K "_law_cells" st__law_cells f4)
  (h5:eG K "_law_halo" st__law_halo f5)
  (h6:eG K "_law_free" st__law_free f6)
  (h7:eG K "_law_all" st__law_all f7)
  (h8:eG K "_law_played" st__law_played f8)
  (h9:eG K "_law_order" st__law_order f9)
  (OP:eG K "_law_sheet_cells" st__law_sheet_cells f10)
  (RG:eG K "all_cells" st_all_cells f11)
  (RH:eG K "is_tuple_of" st_is_tuple_of f12)
  (RI:eG K "is_whole" st_is_whole f13)
  (RJ:eG K "is_size" st_is_size f14)
  (RK:eG K "is_cell" st_is_cell f15)
  (RL:eG K "is_ship" st_is_ship f16)
  (RM:eG K "ships_of" st_ships_of f17)
  (RN:eG K "cells_of" st_cells_of f18)
  (RO:eG K "answer_to" st_answer_to f19)
  (OT:eG K "answers_of" st_answers_of f20)
  (RP:eG K "shot_cells" st_shot_cells f21)
  (RQ:eG K "fits" st_fits f22)
  (RS:eG K "ship_fits" st_ship_fits f23)
  (RT:eG K "rows_between" st_rows_between f24)
  (RU:eG K "columns_between" st_columns_between f25)
  (RV:eG K "keep" st_keep f26)
  (RW:eG K "may_follow" st_may_follow f27)
  (RX:eG K "hidings_among" st_hidings_among f28)
  (RY:eG K "all_fitting" st_all_fitting f29)
  (RZ:eG K "how_many_fit" st_how_many_fit f30)
  (R0:eG K "ship_counts" st_ship_counts f31)
  (R7:eG K "chances_in" st_chances_in f32)
  (R9:eG K "some_fitting" st_some_fitting f33)
  (Sa:eG K "chances" st_chances f34)
  (Sb:eG K "refuse_shot" st_refuse_shot f35)
  (Sd:eG K "unshot_cells" st_unshot_cells f36)
  (Se:eG K "parts_in" st_parts_in f37)
  (Sf:eG K "parts_of" st_parts_of f38)
  (Tz:eG K "best_in" st_best_in f39)
  (h40:eG K "best_shot" st_best_shot f40)
  (Sg:eG K "_law_step_right" st__law_step_right f41)
  (Si:eG K "_law_ground" st__law_ground f42)
  (Sj:eG K "law" st_law f43)
  (z_all:nsIn K mainGlobals "all"=some none)
  (z_bool:nsIn K mainGlobals "bool"=some none)
  (z_enumerate:nsIn K mainGlobals "enumerate"=some none)
  (z_int:nsIn K mainGlobals "int"=some none)
  (z_isinstance:nsIn K mainGlobals "isinstance"=some none)
  (z_len:nsIn K mainGlobals "len"=some none)
  (z_list:nsIn K mainGlobals "list"=some none)
  (z_max:nsIn K mainGlobals "max"=some none)
  (z_min:nsIn K mainGlobals "min"=some none)
  (z_range:nsIn K mainGlobals "range"=some none)
  (z_set:nsIn K mainGlobals "set"=some none)
  (z_sorted:nsIn K mainGlobals "sorted"=some none)
  (z_sum:nsIn K mainGlobals "sum"=some none)
  (z_tuple:nsIn K mainGlobals "tuple"=some none)
  {OV OW:Ye} (Ir:PySem.W.tabIn K "best_in"=some (OV,OW)) (LR:PySem.W.codeHdIn K OV OW=true)
  {t_GREATEST:Tok} (a_GREATEST:nsIn K mainGlobals "GREATEST"=some (some (.int 8 t_GREATEST)))
  {nV:Ye} {od_WAYS:XY} {n_WAYS:Nat} {sl_WAYS:XR} {t0_WAYS t1_WAYS:Tok} (a_WAYS:nsIn K mainGlobals "WAYS"=some (some (.ref nV))) (l_WAYS:K.lookup nV=some ⟨.type "tuple",od_WAYS,.seq #[(.str "along" t0_WAYS),(.str "down" t1_WAYS)] n_WAYS,sl_WAYS⟩)
  : ∃fd:Yc,(∀(s:X8)(v:X7),BindsTo s fd ⟨[v],[]⟩ [("script",v)])/\∀base:Ya,K.In base->base.Ns mainGlobals mg->jS l.prog w K mg base uM 12 fa fd ["script"] (FF K 1 .cl (@m_law ⟨hashStr w⟩)):=by
 letI:Th:=⟨hashStr w⟩;obtain⟨oc,kV,dc,pm,cd,ct,od,an,sl,aL,lL,cL,kL⟩:=Sj;have e:=SW.symm.trans (mg_of X G aL);cases e;refine⟨PySem.W.fnOf "law" "law" (gi st_law) (b0 st_law) (aO st_law) .none kV dc pm an cd ct,λs v=>.of_eq rfl,λbase _ _=>?_⟩
 let W:Wd:=⟨l.prog,w,K,mg,base⟩
 have a {x st f} (A:eG K x st f):W.At x st:=A.at X G;have T:Tx W:=⟨Vg X G z_all,Vg X G z_bool,Vg X G z_enumerate,Vg X G z_int,Vg X G z_isinstance,Vg X G z_len,Vg X G z_list,Vg X G z_max,Vg X G z_min,Vg X G z_range,Vg X G z_set,Vg X G z_sorted,Vg X G z_sum,Vg X G z_tuple,⟨(.int 8),_,mg_of X G a_GREATEST,⟨_,rfl⟩,λ_=>rfl⟩,⟨.ref nV,_,mg_of X G a_WAYS,rfl,λ_=>⟨nV,[(.str "along"),(.str "down")],rfl,.inr ⟨_,_,_,l_WAYS,rfl,rfl,(show(2:Nat)<=sizeLine by decide),(.cons ⟨_,rfl⟩ (.cons ⟨_,rfl⟩ .nil))⟩,⟨_,_,rfl,⟨rfl,by decide +kernel⟩,⟨_,_,rfl,⟨rfl,by decide +kernel⟩,rfl⟩⟩⟩⟩,rfl⟩;have C0:=tu (a h0) T;have C1:=qD (a h1) T C0;have C2:=tT (a h2) T C1;have C3:=qB (a h3) T;have C4:=qH (a h4) T;have C5:=sG (a h5) T C4;have C6:=uh (a h6) T;have C7:=vS (a h7) T C3 C5 C4 C6;have C8:=o7 (a h8) T C2 C7;have C9:=qF (a h9) T C0;have C10:=jQ (a OP) T;have C11:=uu (a RG) T;have C12:=pA (a RH) T;have C13:=wa (a RI) T;have C14:=xV (a RJ) T C13;have C15:=xU (a RK) T C12 C13;have C16:=xA (a RL) T C12 C14 C15;have C17:=uP (a RM) T C11 C16;have C18:=uU (a RN) T;have C19:=tU (a RO) T;have C20:=qA (a OT) T C18 C19;have C21:=qJ (a RP) T;have C22:=Gb (a RQ) T C20 C21;have C23:=um (a RS) T C18 C22;have C24:=nA (a RT) T;have C25:=ky (a RU) T;have C26:=G4 (a RV) T C24 C25;have C27:=qr (a RW) T C26;have C28:=mv (a RX) T C27;have C29:=pJ (a RY) T C17 C23 C18 C28;have C30:=nD (a RZ) T C29;have C31:=oA (a R0) T;have C32:=qm (a R7) T C31 C18;have C33:=ny (a R9) T C29;have C34:=yF (a Sa) T C32 C33;have C35:=oY (a Sb) T C15 C21;have C36:=nt (a Sd) T C21 C11;have C37:=wR (a Se) T C36 C31 C18;have C38:=u9 (a Sf) T C33 C35 C37;have C39:=yQ (W:=W) (Tz.atC X G Ir) ⟨TZ Ir,LR⟩ T C37;have C40:=tJ (a h40) T C39 C33;have C41:=kj (a Sg) T C30 C34 C38 C40;have C42:=oF (a Si) T C4;exact K3 (W:=W) (CU (st:=st_law) lL cL kL) T C8 C0 C9 C10 C41 C20 C38 C30 C22 C42
theorem Dm{l:PySem.W.OpenLaw}{q:X9}{loose:XZ}{XP:XS->Ya->Prop}{YP:Yb->Ya->Prop}{d:DefRec}{K:Params->X6}(hn:l.most=some 63)(Om:d.params.defaults=[])
  (hY:∀(w:Yb)(h:Ya),YP w h->(K w.params).In h) (hL:∀(w:Yb)(h:Ya),YP w h->∀P qq,tq (K w.params) P=some qq->(∃c,PySem.W.CodeHd h c P)/\h.get? P=some (PySem.W.tabObj #[])/\(K w.params).lookup P=none)
  (F:∀(w:Yb)(mg:XS)(fa:Ye)(h:Ya),(K w.params).In h->h.Ns mainGlobals mg->mg d.name=some (.ref fa)->
   ∃fd:Yc,(∀(s:X8)(u:X7),BindsTo s fd ⟨[u],[]⟩ [("script",u)])/\∀base:Ya,(K w.params).In base->base.Ns mainGlobals mg->jS l.prog w (K w.params) mg base uM 12 fa fd ["script"] (FF (K w.params) 1 .cl (@m_law ⟨hashStr w⟩))) :
  PySem.W.WalkO q loose XP YP l.row.toRowW d [] (λf vs=>PySem.call f vs):=
 L2.CS (n:=63) (k:=12) (x:="script") (CX:=λ_=>uM) (sp:=λw=>FF (K w.params) 1 .cl (@m_law ⟨hashStr w⟩)) hn (by decide) Om ⟨rfl,by decide,by decide⟩ hY hL F
  (λw H a ns hl _ hS=>⟨H,[.lst (ns.map .int)],.bl true,rfl,λ_ _ z=>z,⟨_,_,rfl,⟨a,_,rfl,hS,ar.ints ns⟩,rfl⟩,@law_true ⟨hashStr w⟩ ns hl,λv Z' H' _ g=>g⟩) λ_ _ _ _ _ z=>z
end K15
structure PySem.W.Fast:Prop where(tw14021109032769959062 tw12954440587011405739 tw14802536405071218506 tw2127090919226927960 tw4077484858426020539 tw5374471143827867870 tw5858355230079643174 tw3870147803993637453 tw5980996598578650550 tw14228543143874686291 tw2074216356259436936 tw2610269768713283910 tw5987419801989343227 tw9002784168260821677 tw14146650468103937912 tw13928015949776742489 tw18170547826715427976 tw11049345157527294658 tw14077415064953895552 tw9446597888325927865 tw16022649609381026706 tw3440479920336917063 tw16113185211589621278 tw16803991486543850279 tw8413716083854892569 tw7890917891381035559 tw13254261884229569916 tw12609024564470035571 tw14897879658019473891 tw11896883423697168647 tw13547179824686905492 tw2699795786953038573 tw13715483805208640498 tw3852230963727496173 tw4180073483979519687 tw6850339102839669958 tw1027384807270507070 tw1893472235586719575 tw12468573507416483906 tw14276569290267521812 tw18284545953113769518 tw1440053759592139693 tw10639699033879346104 tw5276611790557431689 tw17746032704516784506 tw6728548221952735244 tw15897870483998665130 tw16710022670239495065 tw8690146607722536361 tw7780100873677105344 tw5746505800656328209 tw1710877048629182726 tw17271790874183257609 tw17225524987115018322 tw12678536234085469973 tw1661216770578113547 tw14223910818423711981 tw3574443738251340193 tw5229809524159142917 tw2548851603561527286 tw11465090985309360804 tw17012717609970312165 tw4252457152870530942 tw4616038810909347035 tw5521234934585013382 tw13961810404287026342 tw4365982052716544061 tw15835662838319365303 tw17902848070604128600 tw11945134015364783571 tw6808206961905630258 tw2348988906480438386 tw16794035867186262003 tw11021928332098129464 tw1288697817661362043 tw862137839541823967 tw2847266895352510797 tw5376076264541131515 tw4051139375096662938 tw7188162113417402748 tw8549182965198457083 tw14389650626488393164 tw3767720278053862214 tw15806507191025260522 tw227227965770819748 tw15344498442559438986 tw10907032636205927233 tw6750169412917749014 tw10586156948558021007 tw16344180606677995704 tw16261152383198152045 tw8525673903673177826 tw4451244748466736688 tw16961488730816753866 tw857701790599301921 tw1512480318443783303 tw12052866792894348768 tw4623818181148169436 tw267188448871587324 tw5849386557283506813 tw15935167899265246382 tw13175993714334399090 tw4519901114192737502 tw1909687155871414821 tw7147786492573481671 tw7510088067978662251 tw2140192583783157831 tw10911258195955651037 tw17328464487079042942 tw55206868096069488 tw11414687865591472419 tw4698992010298297537 tw8600590116359169266 tw933827630135094293 tw8738523978532645181 tw12436792082729335023 tw8395953469746364375 tw12732605639187987063 tw10121214477296519547 tw10816830317868386135 tw1156566358924768538 tw1523975736379046175 tw939256092991849224 tw2735673849992777098 tw15030185905184437544 tw17437812852696675834 tw12759212040164966905 tw5616257311317951559 tw11372197324393210539 tw11462662156862330245 tw3367132164986700014 tw6194686491577296428 tw10174683575341058906 tw12850451223671871380 tw6823904614249933568 tw8069012178904446628 tw3912129497825988044 tw4997683840401503994 tw6888839890907398865 tw8265576262720151563 tw14032664781899145479 tw14104638546771821046 tw2582373771955882055 tw2979835094445964576 tw1559031739030217813 tw6281224729643267558 tw3521093239779593774 tw3739742328441601614 tw18084797131819836207 tw189482090978918416 tw9270110236634493019 tw15212529365554809238 tw4087007566936946874 tw12055936465448194269 tw2358512179101711767 tw5363950102761803835 tw14685269822595121251 tw15775356321189630664 tw17246495523513656834 tw13875223697670766789 tw3737610370883620876 tw6275545313942023683 tw4164709725685926570 tw6205238086483299939 tw7700658799237259274 tw11774009889658943500 tw3592260973150596114 tw14440534589658561857 tw17147378494263566406 tw15303842357543445947 tw14057476212189127739 tw11263850315497711393 tw16534368461906448608 tw9920428507688861842 tw1048958827911148022 tw10005001513686264508 tw8831525025422797466 tw16670195817667190061 tw14303342519008060806 tw18142418233799560519 tw5601411856074013988 tw1324939403233075972 tw17565525523656508513 tw10758856763227270603 tw5112826905416735140 tw12308859441586081381 tw10725927659641001998 tw9652096992241072211 tw319643794465736069 tw6677288639666799409 tw3892408334028268322 tw11329700525004981092 tw8574256045913595234 tw8834080239536785147 tw15777225591478976865 tw11995330967272658679 tw8330887680565347968 tw16697060226395246277 tw9133887798687940155 tw3101226779827437552 tw80328479301171432 tw4415556867245525485 tw14032349074497914669 tw6877403317968748473 tw15050234483526768474 tw6754353719525084917 tw18097098347405819495 tw11885298323847586011 tw10453357866916569407 tw193242374762437325 tw1183429351283738258 tw7569180930439034029 tw12784526089714939468 tw2248101287658843995 tw11525318097166891683 tw13997306262012426628 tw3830281699130995522 tw4961483679262011634 tw5258432592744325309 tw17336002508793291016 tw1025868475108926567 tw6113847497694270026 tw17495814137441073056 tw7775726207095227274 tw10494304981574321013 tw16814325554418538591 tw15647037130973702792 tw1042474986926136570 tw4489741182165313017 tw1179224874006108052 tw17528892537004018809 tw11271736382299006061 tw16597726173041109998 tw1855623473193098327 tw18223893530409803716 tw17458884867281502432 tw11456518478361395753 tw9160095189161393039 tw9116876977275351632 tw2747646179735027884 tw9509692293364250664 tw1282503599551967657 tw8783345326470147166 tw2770854364025681694 tw13704010237851902476 tw16098610660645370031 tw1528006056554275298 tw2158301443903017746 tw8446922840529144949 tw2727301517099202376 tw9743371971145074791 tw14689121694236176131 tw13204099923017777410 tw7074628645086916120 tw1162667366202042662 tw100503629581855102 tw3423283053335214985 tw10700069018260156652 tw10523209371372638044 tw3631499892517545832 tw14355054290094729391 tw5287529323622276598 tw5671456297901412513 tw15903716908572124026 tw778722641053615266 tw4578014659917377106 tw2946577475820321090 tw1420328026752554344 tw7210460144414224051 tw2582429028189346148 tw8038139800621463750 tw11479577530146084561 tw16467538586897944297 tw16393862053117759361 tw13576806182834910844 tw9348347210506271808 tw16550819751317234353 tw10207978353784145607 tw9040369444017096697 tw13642279038819652114 tw3227900815371070762 tw7288906749274986914 tw3073600147708662539 tw15828271432940159314 tw2604529639054594166 tw7363820156368933574 tw15131930465030851638 tw16376127531643569267 tw9283593166958476379 tw16871526553145553451 tw11741228300069553158 tw12876300295743437365 tw2389411993020911418 tw4213128689644216359 tw6795071553136912425 tw13368904521471057252 tw17536930759236980475 tw9271179629755067713 tw7527333236912231934 tw17541988178346263665 tw17000180682529185903 tw9797974075305272059 tw5085305037570174000 tw11117829144974371619 tw17533954504127576416 tw10110237894985286973 tw8909299418008695491 tw637136553418498264 tw6575677722429058794 tw923628740537794412 tw17301400251136398300 tw10220549107899641331 tw5085673015890671727 tw11966146718316861020 tw14900984765547534915 tw16649232763672129029 tw11644386153601560883 tw9077010718393806617 tw13703169993209970221 tw12123841909498929443 tw10127934054985361320 tw8823607632326463001 tw2153033468995366874:True)
open PySem PySem.W PyProof.Rows
local macro_rules | `(tactic| walk_at "tb") => `(tactic| (refine' Mi.Le ?a ?b ?c ?d ?e; (case a => k_is); (case b => k_is); (case c => rfl); (case d => k_is); (case e => rfl)))
local macro_rules | `(tactic| walk_at "at") => `(tactic| (refine' Mi.Mh ?a ?l ?c ?k; (case a => k_is); (case l => k_is); (case c => k_is); (case k => k_is)))
set_option maxRecDepth 100000 in
set_option maxHeartbeats 0 in
theorem PySem.Challenge.cw_fleethide_k15_whole_parts_of_what_fits_holds : PySem.Challenge.rw_fleethide_k15_whole_parts_of_what_fits.Holds := by
  w_on
  o_law
  k_head
  (case hw=>w_witness2)
  k_fill
  refine K15.Dm (l:=PySem.Challenge.rw_fleethide_k15_whole_parts_of_what_fits) rfl rfl (fun w h Y=>PySem.W.km_in_of Y) ?L ?F
  case L=>
    intro w h Y
    refine' L2.Mq (PySem.W.km_in_of Y) ?a ?b ?c ?d ?e
    (case a=>walk_at "tb")
    (case b=>(exact Mi.Lf (by k_is)))
    (case c=>kernel_rfl)
    (case d=>kernel_rfl)
    (case e=>exact PySem.W.km_tabs_of Y _ (.head _))
  case F=>
    intro w mg fa h KX G hmg
    refine' K15.all_mk KX G hmg ?h0 ?h1 ?h2 ?h3 ?h4 ?h5 ?h6 ?h7 ?h8 ?h9 ?OP ?RG ?RH ?RI ?RJ ?RK ?RL ?RM ?RN ?RO ?OT ?RP ?RQ ?RS ?RT ?RU ?RV ?RW ?RX ?RY ?RZ ?R0 ?R7 ?R9 ?Sa ?Sb ?Sd ?Se ?Sf ?Tz ?h40 ?Sg ?Si ?Sj ?z_all ?z_bool ?z_enumerate ?z_int ?z_isinstance ?z_len ?z_list ?z_max ?z_min ?z_range ?z_set ?z_sorted ?z_sum ?z_tuple ?Ir ?LR ?ga_GREATEST ?ga_WAYS ?gl_WAYS
    (case h0=>walk_at "at")
    (case h1=>walk_at "at")
    (case h2=>walk_at "at")
    (case h3=>walk_at "at")
    (case h4=>walk_at "at")
    (case h5=>walk_at "at")
    (case h6=>walk_at "at")
    (case h7=>walk_at "at")
    (case h8=>walk_at "at")
    (case h9=>walk_at "at")
    (case OP=>walk_at "at")
    (case RG=>walk_at "at")
    (case RH=>walk_at "at")
    (case RI=>walk_at "at")
    (case RJ=>walk_at "at")
    (case RK=>walk_at "at")
    (case RL=>walk_at "at")
    (case RM=>walk_at "at")
    (case RN=>walk_at "at")
    (case RO=>walk_at "at")
    (case OT=>walk_at "at")
    (case RP=>walk_at "at")
    (case RQ=>walk_at "at")
    (case RS=>walk_at "at")
    (case RT=>walk_at "at")
    (case RU=>walk_at "at")
    (case RV=>walk_at "at")
    (case RW=>walk_at "at")
    (case RX=>walk_at "at")
    (case RY=>walk_at "at")
    (case RZ=>walk_at "at")
    (case R0=>walk_at "at")
    (case R7=>walk_at "at")
    (case R9=>walk_at "at")
    (case Sa=>walk_at "at")
    (case Sb=>walk_at "at")
    (case Sd=>walk_at "at")
    (case Se=>walk_at "at")
    (case Sf=>walk_at "at")
    (case Tz=>walk_at "at")
    (case h40=>walk_at "at")
    (case Sg=>walk_at "at")
    (case Si=>walk_at "at")
    (case Sj=>walk_at "at")
    (case z_all=>k_is)
    (case z_bool=>k_is)
    (case z_enumerate=>k_is)
    (case z_int=>k_is)
    (case z_isinstance=>k_is)
    (case z_len=>k_is)
    (case z_list=>k_is)
    (case z_max=>k_is)
    (case z_min=>k_is)
    (case z_range=>k_is)
    (case z_set=>k_is)
    (case z_sorted=>k_is)
    (case z_sum=>k_is)
    (case z_tuple=>k_is)
    (case Ir=>walk_at "tb")
    (case LR=>kernel_rfl)
    (case ga_GREATEST=>k_is)
    (case ga_WAYS=>k_is)
    (case gl_WAYS=>k_is)
